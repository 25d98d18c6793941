/- LAYER 18 (spaces): Set of the reference. -/
import Derived.Test.YtiopcojkdglapaaSpD
import Derived.Test.YtiopcojkdglapaaRf2
set_option linter.unusedSimpArgs false
set_option linter.unusedVariables false
namespace Go.Proofs.Ytiopcojkdglapaa.W
open Go Go.ChangeShapes Go.WideShapes Go.ChangeAt Go.RowKit

theorem subV_at {s : Sp} : ∀ (L : List Sp) (k : Nat) (x : Sp), (∀ j, j < k → ∀ y, L[j]? = some y → eqB y.name s.name = false) → L[k]? = some x → eqB x.name s.name = true → subV L s = some (L.set k s)
  | [], k, x, _, h, _ => by simp at h
  | y :: L, 0, x, _, h, he => by
    simp at h
    subst h
    simp [subV, he]
  | y :: L, k + 1, x, hn, h, he => by
    have h0 := hn 0 (by omega) y rfl
    have ih := subV_at L k x (fun j hj z hz => hn (j + 1) (by omega) z (by simpa using hz)) (by simpa using h) he
    simp only [subV]
    rw [h0, ih]
    simp
theorem subV_no {s : Sp} : ∀ (L : List Sp), (∀ j, j < L.length → ∀ y, L[j]? = some y → eqB y.name s.name = false) → subV L s = none
  | [], _ => rfl
  | y :: L, hn => by
    have h0 := hn 0 (by simp) y rfl
    have ih := subV_no L (fun j hj z hz => hn (j + 1) (by simp; omega) z (by simpa using hz))
    simp only [subV]
    rw [h0, ih]
    rfl
theorem ahead_at {n : ByteArray} : ∀ (L : List Sp) (k : Nat), k ≤ L.length → (∀ j, j < k → ∀ y, L[j]? = some y → ltB y.name n = true) → (∀ y, L[k]? = some y → ltB y.name n = false) → aheadV L n = k
  | [], k, hk, _, _ => by simp at hk; simp [aheadV, hk]
  | y :: L, 0, _, _, h => by
    have := h y rfl
    simp [aheadV, this]
  | y :: L, k + 1, hk, hl, h => by
    have h0 := hl 0 (by omega) y rfl
    have ih := ahead_at L k (by simpa using hk) (fun j hj z hz => hl (j + 1) (by omega) z (by simpa using hz)) (fun z hz => h z (by simpa using hz))
    simp only [aheadV]
    rw [h0, ih]
    rfl
theorem LsO.form {α : Type} {E : El α} {w : World} {base : Nat} {v : Value} {L : List α} (h : LsO E w base v L) : (v = .slice none 0 0 ∧ L = []) ∨ ∃ g c, v = .slice (some ⟨g, 0, none⟩) L.length c ∧ base ≤ g := by
  obtain ⟨h1, h2⟩ := h
  rcases h2 with ⟨rfl, h0⟩ | ⟨g, cap, cur, rfl, hg, -⟩
  · refine .inl ⟨rfl, List.eq_nil_of_length_eq_zero (by omega)⟩
  · exact .inr ⟨g, cap, rfl, hg⟩
set_option maxRecDepth 100000 in
set_option maxHeartbeats 16000000 in
theorem zset (a : Option Addr) (n c : Nat) (L : List Sp) (s : Sp) (w : World) (h : Ls spE w a n c L) (hs : s.fit) (hn30 : n ≤ 30) :
    Calls Try.prog 18 #[.slice a n c, .agg s.cells.toArray] w fun x w' => ∃ v, x = .returned (.tuple #[v, .int .i64 (setV L s).2]) ∧ LsO spE w' w.heap.size v (setV L s).1 ∧ Below w.heap.size w w' := by
  have H := Lib.hid h
  have HL := Lib.hid h.hlen
  have HO := Lib.hid (fun w => zone s w hs)
  have SZ := Lib.hid sp_size
  have HFIT := Lib.hid (show ∀ x ∈ L, x.fit from h.hfit)
  have HSF := Lib.hid hs
  obtain ⟨ok, hok⟩ : ∃ ok, s.ok = ok := ⟨_, rfl⟩
  rw [hok] at HO
  obtain ⟨M, me, hM⟩ : ∃ M me, setV L s = (M, me) := ⟨_, _, rfl⟩
  rw [hM]
  dsimp only
  have HM := Lib.hid hM
  have HOK := Lib.hid hok
  obtain ⟨sn, sr, sw⟩ := s
  clear h hs hok hM
  rcases ok with _ | _
  · have HF := Lib.hid (show L = M ∧ (1 : Int) = me by
      have h1 := HM.out
      unfold setV at h1
      rw [HOK.out, if_pos rfl] at h1
      injection h1 with h2 h3
      exact ⟨h2, h3⟩)
    go_enter Try.func18, Try.ntmps18
    go_wp2_with (first
      | (with_reducible refine box_row (o := ⟨some 3, _, _, _, _, _⟩) rfl _ _ rfl [.string sn, .int .i64 sr, .int .i64 sw] rfl ?_; intro w1 hr hb hz; have R1 := Lib.hid hr; have B1 := Lib.hid hb; have Z1 := Lib.hid hz; clear hr hb hz)
      | (at_builtin; (with_reducible refine append_ls spOk (o := ⟨some 9, _, _, _, _, _⟩) rfl _ _ rfl w1.heap.size (.slice none 0 0) [] ?_ (LsO.nil _ _) a n c L ?_ (H.out.mono spOk B1.out) ?_ (Nat.le_refl _) ?_); (focus (first | (go_simp; done) | (go_simp; rfl))); (focus (first | (go_simp; done) | (go_simp; rfl))); (focus (simp; omega)); intro v2 w2 hN hb hg hv; have N2 := Lib.hid (show LsO spE w2 w1.heap.size v2 L from hN); have R2 := Lib.hid (R1.out.below hb R1.out.lt); have B2 := Lib.hid (B1.out.trans (hb.mono B1.out.size)); clear hN hb hg hv)
      | ((with_reducible refine load_row (o := ⟨some 10, _, _, _, _, _⟩) rfl _ _ rfl w.heap.size ?_ _ [.string sn, .int .i64 sr, .int .i64 sw] _ R2.out Try.underlying24 rfl ?_ ?_); (focus go_simp); (focus (exact SZ.out)))
      | (go_at_call 75; (with_reducible refine (HO.out w2).mono ?_); rintro x w3 ⟨rfl, hb⟩; have N3 := Lib.hid (N2.out.kept hb); have R3 := Lib.hid (R2.out.below hb R2.out.lt); have B3 := Lib.hid (B2.out.trans (hb.mono B2.out.size)); clear hb))
    go_ret2
    obtain ⟨rfl, rfl⟩ := HF.out
    exact ⟨_, rfl, N3.out.base B1.out.size, B3.out⟩
  go_enter Try.func18, Try.ntmps18
  go_wp2_with (first
    | (with_reducible refine box_row (o := ⟨some 3, _, _, _, _, _⟩) rfl _ _ rfl [.string sn, .int .i64 sr, .int .i64 sw] rfl ?_; intro w1 hr hb hz; have R1 := Lib.hid hr; have B1 := Lib.hid hb; have Z1 := Lib.hid hz; clear hr hb hz)
    | (at_builtin; (with_reducible refine append_ls spOk (o := ⟨some 9, _, _, _, _, _⟩) rfl _ _ rfl w1.heap.size (.slice none 0 0) [] ?_ (LsO.nil _ _) a n c L ?_ (H.out.mono spOk B1.out) ?_ (Nat.le_refl _) ?_); (focus (first | (go_simp; done) | (go_simp; rfl))); (focus (first | (go_simp; done) | (go_simp; rfl))); (focus (simp; omega)); intro v2 w2 hN hb hg hv; have N2 := Lib.hid (show LsO spE w2 w1.heap.size v2 L from hN); have R2 := Lib.hid (R1.out.below hb R1.out.lt); have B2 := Lib.hid (B1.out.trans (hb.mono B1.out.size)); clear hN hb hg hv)
    | ((with_reducible refine load_row (o := ⟨some 10, _, _, _, _, _⟩) rfl _ _ rfl w.heap.size ?_ _ [.string sn, .int .i64 sr, .int .i64 sw] _ R2.out Try.underlying24 rfl ?_ ?_); (focus go_simp); (focus (exact SZ.out)))
    | (go_at_call 75; (with_reducible refine (HO.out w2).mono ?_); rintro x w3 ⟨rfl, hb⟩; have N3 := Lib.hid (N2.out.kept hb); have R3 := Lib.hid (R2.out.below hb R2.out.lt); have B3 := Lib.hid (B2.out.trans (hb.mono B2.out.size)); clear hb))
  rcases N3.out.form with ⟨rfl, hL0⟩ | ⟨g, c2, rfl, hg⟩
  · subst hL0
    obtain rfl : n = 0 := HL.out.symm
    have HF := Lib.hid (show [(⟨sn, sr, sw⟩ : Sp)] = M ∧ (0 : Int) = me by
      have h1 := HM.out
      unfold setV at h1
      rw [HOK.out, if_neg (by decide)] at h1
      injection h1 with h2 h3
      exact ⟨h2, h3⟩)
    have B2' : Hid (Below w3.heap.size w3 w3) := Lib.hid (Below.refl _ _)
    have RQ2 := R3
    go_loopw [7] (fun i wr => i = .int .i64 0 ∧ wr = w3) (fun i _ => 0)
    case atStart => exact ⟨rfl, rfl⟩
    case round =>
      obtain ⟨rfl, rfl⟩ := hrel
      go_wp2_with fail
      go_loopw [6] (fun i wr2 => i = .int .i64 0 ∧ wr2 = wr) (fun i _ => 0)
      case atStart => exact ⟨rfl, rfl⟩
      case round =>
        obtain ⟨rfl, rfl⟩ := hrel
        go_wp2_with fail
        refine region_h (fun v => Below wr.heap.size wr v) (by kernel_rfl) (by kernel_rfl) (Below.refl _ _).drew ?_
        obtain ⟨wd, hwd⟩ : ∃ wd, wr.drew = wd := ⟨_, rfl⟩
        have D0 : Hid (Below wr.heap.size wr wd) := Lib.hid (by rw [← hwd]; exact (Below.refl _ _).drew)
        rw [hwd]
        clear hwd
        (refine h_read 0 rfl (by kernel_rfl) (by kernel_rfl) (h_free rfl) ?_ ?_ ?_; rotate_left; (focus (intro v hv; go_simp; rfl)); go_simp)
        (refine h_read 1 rfl (by kernel_rfl) (by kernel_rfl) (h_free rfl) ?_ ?_ ?_; rotate_left; (focus (intro v hv; go_simp; rfl)); go_simp)
        (refine h_read 2 rfl (by kernel_rfl) (by kernel_rfl) (h_free rfl) ?_ ?_ ?_; rotate_left; (focus (intro v hv; go_simp; rfl)); go_simp)
        (refine h_read 3 rfl (by kernel_rfl) (by kernel_rfl) (h_free rfl) ?_ ?_ ?_; rotate_left; (focus (intro v hv; go_simp; rfl)); go_simp)
        (refine h_read 4 rfl (by kernel_rfl) (by kernel_rfl) (h_free rfl) ?_ ?_ ?_; rotate_left; (focus (intro v hv; go_simp; rfl)); go_simp)
        (refine h_skip 5 rfl (by kernel_rfl) (by kernel_rfl) ?_ ?_; (focus (go_simp; first | done | (intro h; cases h) | simp)); go_simp)
        (refine h_skip 6 rfl (by kernel_rfl) (by kernel_rfl) ?_ ?_; (focus (go_simp; first | done | (intro h; cases h) | simp)); go_simp)
        (refine h_skip 7 rfl (by kernel_rfl) (by kernel_rfl) ?_ ?_; (focus (go_simp; first | done | (intro h; cases h) | simp)); go_simp)
        (refine h_skip 8 rfl (by kernel_rfl) (by kernel_rfl) ?_ ?_; (focus (go_simp; first | done | (intro h; cases h) | simp)); go_simp)
        (refine h_skip 9 rfl (by kernel_rfl) (by kernel_rfl) ?_ ?_; (focus (go_simp; first | done | (intro h; cases h) | simp)); go_simp)
        (refine h_skip 10 rfl (by kernel_rfl) (by kernel_rfl) ?_ ?_; (focus (go_simp; first | done | (intro h; cases h) | simp)); go_simp)
        (refine h_skip 11 rfl (by kernel_rfl) (by kernel_rfl) ?_ ?_; (focus (go_simp; first | done | (intro h; cases h) | simp)); go_simp)
        (refine h_skip 12 rfl (by kernel_rfl) (by kernel_rfl) ?_ ?_; (focus (go_simp; first | done | (intro h; cases h) | simp)); go_simp)
        (refine h_read 13 rfl (by kernel_rfl) (by kernel_rfl) (h_free rfl) ?_ ?_ ?_; rotate_left; (focus (intro v hv; go_simp; rfl)); go_simp)
        refine h_done (by kernel_rfl) ?_
        go_wp2_with fail
        have RD := Lib.hid (show Row wd.drew w.heap.size 24 [.string sn, .int .i64 sr, .int .i64 sw] from ((RQ2.out.below D0.out RQ2.out.lt).below (Below.refl _ _).drew (RQ2.out.below D0.out RQ2.out.lt).lt))
        have LK := Lib.hid (Ls.nil (E := spE) wd.drew)
        have LR := Lib.hid (Ls.nil (E := spE) wd.drew)
        obtain ⟨Rl, hRl⟩ : ∃ Rl : List (Value → World → Prop), Rl = [fun v _ => v = .slice none 0 0, fun v _ => v = .int .i64 0, fun v _ => v = .slice none 0 0, fun v w => LsO spE w wd.drew.heap.size v (([] : List Sp)), fun v _ => v = .agg ([.string sn, .int .i64 sr, .int .i64 sw] : List Value).toArray, fun v w => ∃ b, v = Value.slice (some ⟨b, 0, none⟩) 1 1 ∧ Ls spE w (some ⟨b, 0, none⟩) 1 1 [(⟨sn, sr, sw⟩ : Sp)], fun v w => LsO spE w wd.drew.heap.size v (([] : List Sp) ++ [(⟨sn, sr, sw⟩ : Sp)]), fun v _ => v = .slice none 0 0, fun v _ => v = .int .i64 0, fun v _ => v = .slice none 0 0, fun v w => LsO spE w wd.drew.heap.size v (([] : List Sp) ++ [(⟨sn, sr, sw⟩ : Sp)] ++ ([] : List Sp)), fun v w => LsO spE w wd.drew.heap.size v (([] : List Sp) ++ [(⟨sn, sr, sw⟩ : Sp)] ++ ([] : List Sp)), fun v _ => v = .int .i64 0] := ⟨_, rfl⟩
        have hmono : MonoL Rl := by rw [hRl]; exact ⟨(fun _ _ _ h _ => h), ⟨(fun _ _ _ h _ => h), ⟨(fun _ _ _ h _ => h), ⟨(fun v w1 w2 h hb => LsO.kept h hb), ⟨(fun _ _ _ h _ => h), ⟨(fun v w1 w2 h hb => by obtain ⟨b, h1, h2⟩ := h; exact ⟨b, h1, h2.mono spOk hb⟩), ⟨(fun v w1 w2 h hb => LsO.kept h hb), ⟨(fun _ _ _ h _ => h), ⟨(fun _ _ _ h _ => h), ⟨(fun _ _ _ h _ => h), ⟨(fun v w1 w2 h hb => LsO.kept h hb), ⟨(fun v w1 w2 h hb => LsO.kept h hb), ⟨(fun _ _ _ h _ => h), trivial⟩⟩⟩⟩⟩⟩⟩⟩⟩⟩⟩⟩⟩
        refine region_facts2 (by kernel_rfl) (by kernel_rfl) [53, 54, 55, 56, 57, 58, 59, 60, 61, 62, 63, 4, 5] rfl (by decide) (by simp) (fun i v w => (Rl.getD i (fun _ _ => True)) v w) (fun i j => if i = 11 then j == 10 else if i = 12 then false else true) (fun i => [0, 1, 2, 4, 7, 8, 9, 12].contains i) (fun i => i == 11) (fun i => i == 6 || i == 10) (by kernel_rfl) ?_ (fun i v w1 w2 h hb => monoL_get hmono i v w1 w2 h hb) ?_ ?_
        · intro i v w1 w2 hpu h _
          rcases (show i = 0 ∨ i = 1 ∨ i = 2 ∨ i = 4 ∨ i = 7 ∨ i = 8 ∨ i = 9 ∨ i = 12 by simpa using hpu) with rfl | rfl | rfl | rfl | rfl | rfl | rfl | rfl <;> (subst hRl; exact h)
        · intro i o ho vs b w' hI K hK
          have hil := (List.getElem?_eq_some_iff.1 ho).1
          have hil : i < 13 := hil
          subst hRl
          rcases (show i = 0 ∨ i = 1 ∨ i = 2 ∨ i = 3 ∨ i = 4 ∨ i = 5 ∨ i = 6 ∨ i = 7 ∨ i = 8 ∨ i = 9 ∨ i = 10 ∨ i = 11 ∨ i = 12 by omega) with rfl | rfl | rfl | rfl | rfl | rfl | rfl | rfl | rfl | rfl | rfl | rfl | rfl
          · injection ho with ho
            subst ho
            have e0 : b.eval (.tmp 0) = (.slice none 0 0 : Value) := (hI.old 0 (by decide)).trans (by go_simp)
            refine rf_val (by rfl) (.slice none 0 0) (by simp only [execOp]; simp only [e0]; rfl) ?_
            exact hK _ _ (fun _ => Below.refl _ _) (Below.refl _ _) rfl
          · injection ho with ho
            subst ho
            have e6 : b.eval (.tmp 6) = (.int .i64 0 : Value) := (hI.old 6 (by decide)).trans (by go_simp)
            refine rf_val (by rfl) (.int .i64 0) (by simp only [execOp]; simp only [e6]; rfl) ?_
            exact hK _ _ (fun _ => Below.refl _ _) (Below.refl _ _) rfl
          · injection ho with ho
            subst ho
            have e53 : b.eval (.tmp 53) = (.slice none 0 0 : Value) := (hI.dep 0 (by rfl) (by kernel_rfl) (by decide)).1.trans (hI.dep 0 (by rfl) (by kernel_rfl) (by decide)).2
            have e54 : b.eval (.tmp 54) = (.int .i64 0 : Value) := (hI.dep 1 (by rfl) (by kernel_rfl) (by decide)).1.trans (hI.dep 1 (by rfl) (by kernel_rfl) (by decide)).2
            refine rf_val (by rfl) (.slice none 0 0) (by simp only [execOp]; simp only [Option.map_none, Option.map_some, e53, e54]; go_simp; try (intro hh; exfalso; omega)) ?_
            exact hK _ _ (fun _ => Below.refl _ _) (Below.refl _ _) rfl
          · injection ho with ho
            subst ho
            have e55 : b.eval (.tmp 55) = (.slice none 0 0 : Value) := (hI.dep 2 (by rfl) (by kernel_rfl) (by decide)).1.trans (hI.dep 2 (by rfl) (by kernel_rfl) (by decide)).2
            refine append_ls spOk rfl (.const (.slice none 0 0)) (.tmp 55) rfl wd.drew.heap.size (.slice none 0 0) [] rfl (LsO.nil _ _) none 0 0 [] e55 (LK.out.mono spOk hI.bel) (by simp) hI.bel.size ?_
            intro v2 w2 hN hb2 hg2 hv2
            exact wpl_nil (hK _ _ (fun _ => ⟨hg2.os, hg2.tape, hg2.output, hg2.size, fun k hk => hg2.block k hk (by simp [Value.ownBlock])⟩) hb2 hN)
          · injection ho with ho
            subst ho
            have e3 : b.eval (.tmp 3) = (.pointer (some ⟨w.heap.size, 0, none⟩) : Value) := (hI.old 3 (by decide)).trans (by go_simp)
            refine rf_val (by rfl) (.agg ([.string sn, .int .i64 sr, .int .i64 sw] : List Value).toArray) (lg_all 24 (.tmp 3) rfl w.heap.size e3 24 [.string sn, .int .i64 sr, .int .i64 sw] _ (show Row w' w.heap.size 24 [.string sn, .int .i64 sr, .int .i64 sw] from RD.out.below hI.bel RD.out.lt) Try.underlying24 rfl SZ.out) ?_
            exact hK _ _ (fun _ => Below.refl _ _) (Below.refl _ _) rfl
          · injection ho with ho
            subst ho
            have e57 : b.eval (.tmp 57) = (.agg ([.string sn, .int .i64 sr, .int .i64 sw] : List Value).toArray : Value) := (hI.dep 4 (by rfl) (by kernel_rfl) (by decide)).1.trans (hI.dep 4 (by rfl) (by kernel_rfl) (by decide)).2
            refine build_ls spOk sp_fill rfl (.tmp 57) rfl (⟨sn, sr, sw⟩ : Sp) e57 HSF.out (by decide) ?_
            intro w2 hl hb2 hz
            exact wpl_nil (hK _ _ (fun _ => hb2) (hb2.mono hI.bel.size) ⟨w'.heap.size, rfl, hl⟩)
          · injection ho with ho
            subst ho
            have e56 := (hI.dep 3 (by rfl) (by kernel_rfl) (by decide)).1
            have r56 := (hI.dep 3 (by rfl) (by kernel_rfl) (by decide)).2
            have e58 := (hI.dep 5 (by rfl) (by kernel_rfl) (by decide)).1
            have r58 := (hI.dep 5 (by rfl) (by kernel_rfl) (by decide)).2
            obtain ⟨b5, h5, hl5⟩ := r58
            rw [h5] at e58
            refine append_ls spOk rfl (.tmp 56) (.tmp 58) rfl wd.drew.heap.size (vs 3) (([] : List Sp)) e56 r56 (some ⟨b5, 0, none⟩) 1 1 [(⟨sn, sr, sw⟩ : Sp)] e58 hl5 (by simp) hI.bel.size ?_
            intro v2 w2 hN hb2 hg2 hv2
            exact wpl_nil (hK _ _ (fun h => by cases h) hb2 hN)
          · injection ho with ho
            subst ho
            have e0 : b.eval (.tmp 0) = (.slice none 0 0 : Value) := (hI.old 0 (by decide)).trans (by go_simp)
            refine rf_val (by rfl) (.slice none 0 0) (by simp only [execOp]; simp only [e0]; rfl) ?_
            exact hK _ _ (fun _ => Below.refl _ _) (Below.refl _ _) rfl
          · injection ho with ho
            subst ho
            have e6 : b.eval (.tmp 6) = (.int .i64 0 : Value) := (hI.old 6 (by decide)).trans (by go_simp)
            refine rf_val (by rfl) (.int .i64 0) (by simp only [execOp]; simp only [e6]; rfl) ?_
            exact hK _ _ (fun _ => Below.refl _ _) (Below.refl _ _) rfl
          · injection ho with ho
            subst ho
            have e60 : b.eval (.tmp 60) = (.slice none 0 0 : Value) := (hI.dep 7 (by rfl) (by kernel_rfl) (by decide)).1.trans (hI.dep 7 (by rfl) (by kernel_rfl) (by decide)).2
            have e61 : b.eval (.tmp 61) = (.int .i64 0 : Value) := (hI.dep 8 (by rfl) (by kernel_rfl) (by decide)).1.trans (hI.dep 8 (by rfl) (by kernel_rfl) (by decide)).2
            refine rf_val (by rfl) (.slice none 0 0) (by simp only [execOp]; simp only [Option.map_none, Option.map_some, e60, e61]; go_simp; try (intro hh; exfalso; omega)) ?_
            exact hK _ _ (fun _ => Below.refl _ _) (Below.refl _ _) rfl
          · injection ho with ho
            subst ho
            have e59 := (hI.dep 6 (by rfl) (by kernel_rfl) (by decide)).1
            have r59 := (hI.dep 6 (by rfl) (by kernel_rfl) (by decide)).2
            have e62 : b.eval (.tmp 62) = (.slice none 0 0 : Value) := (hI.dep 9 (by rfl) (by kernel_rfl) (by decide)).1.trans (hI.dep 9 (by rfl) (by kernel_rfl) (by decide)).2
            refine append_ls spOk rfl (.tmp 59) (.tmp 62) rfl wd.drew.heap.size (vs 6) (([] : List Sp) ++ [(⟨sn, sr, sw⟩ : Sp)]) e59 r59 none 0 0 [] e62 (LR.out.mono spOk hI.bel) (by simp) hI.bel.size ?_
            intro v2 w2 hN hb2 hg2 hv2
            exact wpl_nil (hK _ _ (fun h => by cases h) hb2 hN)
          · injection ho with ho
            subst ho
            have e63 := (hI.dep 10 (by rfl) (by kernel_rfl) (by decide)).1
            have r63 := (hI.dep 10 (by rfl) (by kernel_rfl) (by decide)).2
            refine rf_val (by rfl) (vs 10) (by simp only [execOp]; rw [show b.eval (.tmp 63) = vs 10 from e63]; rfl) ?_
            exact hK _ _ (fun _ => Below.refl _ _) (Below.refl _ _) r63
          · injection ho with ho
            subst ho
            refine rf_val (by rfl) (.int .i64 0) (by simp only [execOp]; rfl) ?_
            exact hK _ _ (fun _ => Below.refl _ _) (Below.refl _ _) rfl
        · intro vs w6 hb6 hall
          subst hRl
          have f11 : LsO spE w6 wd.drew.heap.size (vs 11) (([] : List Sp) ++ [(⟨sn, sr, sw⟩ : Sp)] ++ ([] : List Sp)) := hall 11 (by decide) (by decide)
          have f12 : vs 12 = (.int .i64 0 : Value) := hall 12 (by decide) (by decide)
          clear hall
          dsimp only [rfPut]
          go_simp
          go_wp2_with fail
          go_ret2
          obtain ⟨rfl, rfl⟩ := HF.out
          exact ⟨_, rfl, f11.base (Nat.le_trans (Nat.le_trans B3.out.size B2'.out.size) D0.out.size), ((B3.out.trans (B2'.out.mono B3.out.size)).trans (D0.out.mono (Nat.le_trans B3.out.size B2'.out.size))).trans ((Below.refl _ _).drew.trans (hb6.mono (Nat.le_refl _)) |>.mono (Nat.le_trans (Nat.le_trans B3.out.size B2'.out.size) D0.out.size))⟩
  · have HG := Lib.hid hg
    obtain ⟨a2, cc, hv2, hL3, -⟩ := N3.out.ls spOk HFIT.out
    obtain ⟨rfl, rfl⟩ : some ⟨g, 0, none⟩ = a2 ∧ c2 = cc := by injection hv2 with e1 e2 e3; exact ⟨e1, e3⟩
    rw [HL.out] at hL3 N3
    rw [HL.out]
    have L3 := Lib.hid hL3
    have RL3 := Lib.hid R3.out.lt
    clear hg hv2 hL3
    go_loopw [7] (fun i wr => ∃ k : Nat, i = .int .i64 (k : Int) ∧ k ≤ n ∧ Hid (∀ j, j < k → ∀ y, L[j]? = some y → eqB y.name sn = false) ∧ Hid (Below w3.heap.size w3 wr)) (fun i _ => n - (intOf i).toNat)
    case atStart => exact ⟨0, rfl, Nat.zero_le _, Lib.hid (fun j hj => absurd hj (Nat.not_lt_zero _)), Lib.hid (Below.refl _ _)⟩
    case round =>
      obtain ⟨k, rfl, hk, PV, B⟩ := hrel
      have RQ := Lib.hid (R3.out.below B.out R3.out.lt)
      have S0 := Lib.hid (show wr.cell? ⟨w.heap.size, 0, none⟩ = some (.string sn) from RQ.out.sp3c.1)
      by_cases hlt : k < n
      · obtain ⟨b, off, x, hab, hx, hcell, -⟩ := L3.out.at spOk B.out k hlt
        obtain ⟨rfl, rfl⟩ : g = b ∧ 0 = off := by injection hab with hab; injection hab with e1 e2; exact ⟨e1, e2⟩
        obtain ⟨xn, xr, xw⟩ := x
        have E0 := Lib.hid (show wr.cell? ⟨g, k * 3, none⟩ = some (.string xn) by have h7 := hcell 0 _ rfl; rw [Nat.zero_add, Nat.add_zero] at h7; exact h7)
        have HX := Lib.hid hx
        have g1 : (0 : Int) ≤ (k : Int) := by omega
        have g2 : (k : Int) < (n : Int) := by omega
        obtain ⟨q, hq⟩ : ∃ q, eqB xn sn = q := ⟨_, rfl⟩
        have HE := Lib.hid (show (xn.toList == sn.toList) = q from hq)
        have HQ := Lib.hid hq
        clear hx hcell hab hq
        rcases q with _ | _
        · have PN := Lib.hid (show ∀ j, j < k + 1 → ∀ y, L[j]? = some y → eqB y.name sn = false from fun j hj y hy => by
            by_cases hjk : j < k
            · exact PV.out j hjk y hy
            · obtain rfl : j = k := by omega
              rw [HX.out] at hy
              injection hy with hy
              rw [← hy]; exact HQ.out)
          have he := HE.out
          go_wp2_with fail
          refine region_h (fun v => Below wr.heap.size wr v) (by kernel_rfl) (by kernel_rfl) (Below.refl _ _).drew ?_
          obtain ⟨wd, hwd⟩ : ∃ wd, wr.drew = wd := ⟨_, rfl⟩
          have D0 : Hid (Below wr.heap.size wr wd) := Lib.hid (by rw [← hwd]; exact (Below.refl _ _).drew)
          rw [hwd]
          clear hwd
          (refine h_read 0 rfl (by kernel_rfl) (by kernel_rfl) (h_free rfl) ?_ ?_ ?_; rotate_left; (focus (intro v hv; go_simp; rfl)); go_simp)
          (refine h_read 1 rfl (by kernel_rfl) (by kernel_rfl) (h_free rfl) ?_ ?_ ?_; rotate_left; (focus (intro v hv; go_simp; rfl)); go_simp)
          (refine h_read 2 rfl (by kernel_rfl) (by kernel_rfl) (h_free rfl) ?_ ?_ ?_; rotate_left; (focus (intro v hv; go_simp; rfl)); go_simp)
          (refine h_read 3 rfl (by kernel_rfl) (by kernel_rfl) (h_free rfl) ?_ ?_ ?_; rotate_left; (focus (intro v hv; go_simp; rfl)); go_simp)
          (refine h_read 4 rfl (by kernel_rfl) (by kernel_rfl) (h_free rfl) ?_ ?_ ?_; rotate_left; (focus (intro v hv; have q0 := (hv.cell (p := ⟨g, k * 3, none⟩) (World.block_lt_of_cell? wr _ E0.out)).trans E0.out; have q1 := (hv.cell (p := ⟨w.heap.size, 0, none⟩) (World.block_lt_of_cell? wr _ S0.out)).trans S0.out; go_simp; rfl)); go_simp)
          (refine h_read 5 rfl (by kernel_rfl) (by kernel_rfl) (h_free rfl) ?_ ?_ ?_; rotate_left; (focus (intro v hv; go_simp; rfl)); go_simp)
          (refine h_read 6 rfl (by kernel_rfl) (by kernel_rfl) (h_free rfl) ?_ ?_ ?_; rotate_left; (focus (intro v hv; have q0 := (hv.cell (p := ⟨g, k * 3, none⟩) (World.block_lt_of_cell? wr _ E0.out)).trans E0.out; have q1 := (hv.cell (p := ⟨w.heap.size, 0, none⟩) (World.block_lt_of_cell? wr _ S0.out)).trans S0.out; go_simp; rfl)); go_simp)
          (refine h_read 7 rfl (by kernel_rfl) (by kernel_rfl) (h_free rfl) ?_ ?_ ?_; rotate_left; (focus (intro v hv; go_simp; rfl)); go_simp)
          refine h_done (by kernel_rfl) ?_
          go_wp2_with fail
          go_roundw
          case rel => exact ⟨k + 1, vint (by omega), by omega, PN, Lib.hid (B.out.trans (D0.out.mono B.out.size))⟩
          case measure => simp [intOf]; omega
        · have he := HE.out
          go_wp2_with fail
          refine region_h (fun v => Below wr.heap.size wr v) (by kernel_rfl) (by kernel_rfl) (Below.refl _ _).drew ?_
          obtain ⟨wd, hwd⟩ : ∃ wd, wr.drew = wd := ⟨_, rfl⟩
          have D0 : Hid (Below wr.heap.size wr wd) := Lib.hid (by rw [← hwd]; exact (Below.refl _ _).drew)
          rw [hwd]
          clear hwd
          (refine h_read 0 rfl (by kernel_rfl) (by kernel_rfl) (h_free rfl) ?_ ?_ ?_; rotate_left; (focus (intro v hv; go_simp; rfl)); go_simp)
          (refine h_read 1 rfl (by kernel_rfl) (by kernel_rfl) (h_free rfl) ?_ ?_ ?_; rotate_left; (focus (intro v hv; go_simp; rfl)); go_simp)
          (refine h_read 2 rfl (by kernel_rfl) (by kernel_rfl) (h_free rfl) ?_ ?_ ?_; rotate_left; (focus (intro v hv; go_simp; rfl)); go_simp)
          (refine h_read 3 rfl (by kernel_rfl) (by kernel_rfl) (h_free rfl) ?_ ?_ ?_; rotate_left; (focus (intro v hv; go_simp; rfl)); go_simp)
          (refine h_read 4 rfl (by kernel_rfl) (by kernel_rfl) (h_free rfl) ?_ ?_ ?_; rotate_left; (focus (intro v hv; have q0 := (hv.cell (p := ⟨g, k * 3, none⟩) (World.block_lt_of_cell? wr _ E0.out)).trans E0.out; have q1 := (hv.cell (p := ⟨w.heap.size, 0, none⟩) (World.block_lt_of_cell? wr _ S0.out)).trans S0.out; go_simp; rfl)); go_simp)
          (refine h_read 5 rfl (by kernel_rfl) (by kernel_rfl) (h_free rfl) ?_ ?_ ?_; rotate_left; (focus (intro v hv; go_simp; rfl)); go_simp)
          (refine h_read 6 rfl (by kernel_rfl) (by kernel_rfl) (h_free rfl) ?_ ?_ ?_; rotate_left; (focus (intro v hv; have q0 := (hv.cell (p := ⟨g, k * 3, none⟩) (World.block_lt_of_cell? wr _ E0.out)).trans E0.out; have q1 := (hv.cell (p := ⟨w.heap.size, 0, none⟩) (World.block_lt_of_cell? wr _ S0.out)).trans S0.out; go_simp; rfl)); go_simp)
          (refine h_read 7 rfl (by kernel_rfl) (by kernel_rfl) (h_free rfl) ?_ ?_ ?_; rotate_left; (focus (intro v hv; go_simp; rfl)); go_simp)
          refine h_done (by kernel_rfl) ?_
          have HF := Lib.hid (show L.set k ⟨sn, sr, sw⟩ = M ∧ (0 : Int) = me by
            have h1 := HM.out
            unfold setV at h1
            rw [HOK.out, if_neg (by decide), subV_at L k _ PV.out HX.out HQ.out] at h1
            injection h1 with h2 h3
            exact ⟨h2, h3⟩)
          obtain ⟨cur, hrow, hcf, hnew⟩ := LsO.set spOk (N3.out.kept (B.out.trans (D0.out.mono B.out.size))) k (by rw [HL.out]; exact hlt) ⟨sn, sr, sw⟩
          have HROW := Lib.hid hrow
          have HCF := Lib.hid hcf
          have HNEW := Lib.hid hnew
          have RD := Lib.hid (RQ.out.below D0.out RQ.out.lt)
          clear hrow hcf hnew
          go_wp2_with (first
            | ((with_reducible refine load_row (o := ⟨some 30, _, _, _, _, _⟩) rfl _ _ rfl w.heap.size ?_ _ [.string sn, .int .i64 sr, .int .i64 sw] _ RD.out Try.underlying24 rfl ?_ ?_); (focus go_simp); (focus (exact SZ.out)))
            | ((with_reducible refine store_part (o := ⟨none, _, _, _, _, _⟩) rfl _ (.tmp 31) _ rfl g (k * 3) [.string sn, .int .i64 sr, .int .i64 sw] ?_ ?_ 24 cur HROW.out ?_ ?_ ?_ ?_); (focus (first | (go_simp; done) | (go_simp; rfl))); (focus (first | (go_simp; done) | (go_simp; rfl))); (focus (exact SZ.out)); (focus (exact HCF.out)); (focus (exact sp_one ⟨_, _, _⟩)); intro w5 hr hu; have N5 := Lib.hid (HNEW.out w5 hr); have B5 := Lib.hid (((B3.out.trans (B.out.mono B3.out.size)).trans (D0.out.mono (Nat.le_trans B3.out.size B.out.size))).trans (hu.below (Nat.le_trans B1.out.size HG.out))); clear hr hu))
          go_ret2
          obtain ⟨rfl, rfl⟩ := HF.out
          exact ⟨_, rfl, N5.out.base B1.out.size, B5.out⟩
      · obtain rfl : n = k := by omega
        have hno : subV L ⟨sn, sr, sw⟩ = none := subV_no L (fun j hj y hy => PV.out j (by rw [HL.out] at hj; exact hj) y hy)
        by_cases h6 : 6 ≤ n
        · have HF := Lib.hid (show L = M ∧ (7 : Int) = me by
            have h1 := HM.out
            unfold setV at h1
            rw [HOK.out, if_neg (by decide), hno] at h1
            dsimp only at h1
            rw [if_pos (by rw [HL.out]; exact h6)] at h1
            injection h1 with h2 h3
            exact ⟨h2, h3⟩)
          have h6i : (6 : Int) ≤ (n : Int) := by omega
          clear hno
          go_wp2_with fail
          go_ret2
          obtain ⟨rfl, rfl⟩ := HF.out
          exact ⟨_, rfl, (N3.out.kept B.out).base B1.out.size, B3.out.trans (B.out.mono B3.out.size)⟩
        · have HF := Lib.hid (show L.take (aheadV L sn) ++ [⟨sn, sr, sw⟩] ++ L.drop (aheadV L sn) = M ∧ (0 : Int) = me by
            have h1 := HM.out
            unfold setV at h1
            rw [HOK.out, if_neg (by decide), hno] at h1
            dsimp only at h1
            rw [if_neg (by rw [HL.out]; exact h6)] at h1
            injection h1 with h2 h3
            exact ⟨h2, h3⟩)
          have h6i : ¬ (6 : Int) ≤ (n : Int) := by omega
          clear hno PV
          go_wp2_with fail
          go_loopw [6] (fun i wr2 => ∃ k : Nat, i = .int .i64 (k : Int) ∧ k ≤ n ∧ Hid (∀ j, j < k → ∀ y, L[j]? = some y → ltB y.name sn = true) ∧ Hid (Below w3.heap.size w3 wr2)) (fun i _ => n - (intOf i).toNat)
          case atStart => exact ⟨0, rfl, Nat.zero_le _, Lib.hid (fun j hj => absurd hj (Nat.not_lt_zero _)), B⟩
          case round =>
            obtain ⟨k, rfl, hk2, PW, B2'⟩ := hrel
            have RQ2 := Lib.hid (R3.out.below B2'.out R3.out.lt)
            have S0 := Lib.hid (show wr.cell? ⟨w.heap.size, 0, none⟩ = some (.string sn) from RQ2.out.sp3c.1)
            by_cases hlt2 : k < n
            · obtain ⟨b, off, x, hab, hx, hcell, -⟩ := L3.out.at spOk B2'.out k hlt2
              obtain ⟨rfl, rfl⟩ : g = b ∧ 0 = off := by injection hab with hab; injection hab with e1 e2; exact ⟨e1, e2⟩
              obtain ⟨xn, xr, xw⟩ := x
              have E0 := Lib.hid (show wr.cell? ⟨g, k * 3, none⟩ = some (.string xn) by have h7 := hcell 0 _ rfl; rw [Nat.zero_add, Nat.add_zero] at h7; exact h7)
              have HX := Lib.hid hx
              have g1 : (0 : Int) ≤ (k : Int) := by omega
              have g2 : (k : Int) < (n : Int) := by omega
              obtain ⟨q, hq⟩ : ∃ q, ltB xn sn = q := ⟨_, rfl⟩
              have HE := Lib.hid (show Op.bytesLess xn.toList sn.toList = q from hq)
              have HQ := Lib.hid hq
              clear hx hcell hab hq
              rcases q with _ | _
              · have HAT := Lib.hid (show aheadV L sn = k from ahead_at L k (by rw [HL.out]; omega) PW.out (fun y hy => by rw [HX.out] at hy; injection hy with hy; rw [← hy]; exact HQ.out))
                have he := HE.out
                go_wp2_with fail
                refine region_h (fun v => Below wr.heap.size wr v) (by kernel_rfl) (by kernel_rfl) (Below.refl _ _).drew ?_
                obtain ⟨wd, hwd⟩ : ∃ wd, wr.drew = wd := ⟨_, rfl⟩
                have D0 : Hid (Below wr.heap.size wr wd) := Lib.hid (by rw [← hwd]; exact (Below.refl _ _).drew)
                rw [hwd]
                clear hwd
                (refine h_read 0 rfl (by kernel_rfl) (by kernel_rfl) (h_free rfl) ?_ ?_ ?_; rotate_left; (focus (intro v hv; go_simp; rfl)); go_simp)
                (refine h_read 1 rfl (by kernel_rfl) (by kernel_rfl) (h_free rfl) ?_ ?_ ?_; rotate_left; (focus (intro v hv; go_simp; rfl)); go_simp)
                (refine h_read 2 rfl (by kernel_rfl) (by kernel_rfl) (h_free rfl) ?_ ?_ ?_; rotate_left; (focus (intro v hv; go_simp; rfl)); go_simp)
                (refine h_read 3 rfl (by kernel_rfl) (by kernel_rfl) (h_free rfl) ?_ ?_ ?_; rotate_left; (focus (intro v hv; go_simp; rfl)); go_simp)
                (refine h_read 4 rfl (by kernel_rfl) (by kernel_rfl) (h_free rfl) ?_ ?_ ?_; rotate_left; (focus (intro v hv; go_simp; rfl)); go_simp)
                (refine h_read 5 rfl (by kernel_rfl) (by kernel_rfl) ?_ ?_ ?_ ?_; (focus (go_simp; done)); rotate_left; (focus (intro v hv; go_simp; rfl)); go_simp)
                (refine h_read 6 rfl (by kernel_rfl) (by kernel_rfl) ?_ ?_ ?_ ?_; (focus (go_simp; done)); rotate_left; (focus (intro v hv; go_simp; rfl)); go_simp)
                (refine h_read 7 rfl (by kernel_rfl) (by kernel_rfl) ?_ ?_ ?_ ?_; (focus (go_simp; done)); rotate_left; (focus (intro v hv; go_simp; rfl)); go_simp)
                (refine h_read 8 rfl (by kernel_rfl) (by kernel_rfl) ?_ ?_ ?_ ?_; (focus (go_simp; done)); rotate_left; (focus (intro v hv; go_simp; rfl)); go_simp)
                (refine h_read 9 rfl (by kernel_rfl) (by kernel_rfl) ?_ ?_ ?_ ?_; (focus (go_simp; done)); rotate_left; (focus (intro v hv; have q0 := (hv.cell (p := ⟨g, k * 3, none⟩) (World.block_lt_of_cell? wr _ E0.out)).trans E0.out; have q1 := (hv.cell (p := ⟨w.heap.size, 0, none⟩) (World.block_lt_of_cell? wr _ S0.out)).trans S0.out; go_simp; rfl)); go_simp)
                (refine h_read 10 rfl (by kernel_rfl) (by kernel_rfl) ?_ ?_ ?_ ?_; (focus (go_simp; done)); rotate_left; (focus (intro v hv; go_simp; rfl)); go_simp)
                (refine h_read 11 rfl (by kernel_rfl) (by kernel_rfl) ?_ ?_ ?_ ?_; (focus (go_simp; done)); rotate_left; (focus (intro v hv; have q0 := (hv.cell (p := ⟨g, k * 3, none⟩) (World.block_lt_of_cell? wr _ E0.out)).trans E0.out; have q1 := (hv.cell (p := ⟨w.heap.size, 0, none⟩) (World.block_lt_of_cell? wr _ S0.out)).trans S0.out; go_simp; rfl)); go_simp)
                (refine h_read 12 rfl (by kernel_rfl) (by kernel_rfl) ?_ ?_ ?_ ?_; (focus (go_simp; done)); rotate_left; (focus (intro v hv; go_simp; rfl)); go_simp)
                (refine h_read 13 rfl (by kernel_rfl) (by kernel_rfl) (h_free rfl) ?_ ?_ ?_; rotate_left; (focus (intro v hv; go_simp; rfl)); go_simp)
                refine h_done (by kernel_rfl) ?_
                go_wp2_with fail
                have LD := Lib.hid (L3.out.mono spOk (B2'.out.trans (D0.out.mono B2'.out.size)))
                have RD := Lib.hid (show Row wd.drew w.heap.size 24 [.string sn, .int .i64 sr, .int .i64 sw] from ((RQ2.out.below D0.out RQ2.out.lt).below (Below.refl _ _).drew (RQ2.out.below D0.out RQ2.out.lt).lt))
                have LK := Lib.hid (show Ls spE wd.drew (some ⟨g, 0, none⟩) k c2 (L.take k) from (LD.out.mono spOk (Below.refl _ _).drew).first k (by omega))
                have LR := Lib.hid (show Ls spE wd.drew _ (n - k) (c2 - k) (L.drop k) from (LD.out.mono spOk (Below.refl _ _).drew).rest k (by omega))
                have hnc := LD.out.hle
                have hcm := LD.out.hmax
                obtain ⟨Rl, hRl⟩ : ∃ Rl : List (Value → World → Prop), Rl = [fun v _ => v = .slice (some ⟨g, 0, none⟩) n c2, fun v _ => v = .int .i64 (k : Int), fun v _ => v = .slice (some ⟨g, 0, none⟩) k c2, fun v w => LsO spE w wd.drew.heap.size v (L.take k), fun v _ => v = .agg ([.string sn, .int .i64 sr, .int .i64 sw] : List Value).toArray, fun v w => ∃ b, v = Value.slice (some ⟨b, 0, none⟩) 1 1 ∧ Ls spE w (some ⟨b, 0, none⟩) 1 1 [(⟨sn, sr, sw⟩ : Sp)], fun v w => LsO spE w wd.drew.heap.size v (L.take k ++ [(⟨sn, sr, sw⟩ : Sp)]), fun v _ => v = .slice (some ⟨g, 0, none⟩) n c2, fun v _ => v = .int .i64 (k : Int), fun v _ => v = .slice (if c2 = k then some ⟨g, 0, none⟩ else (some (⟨g, 0, none⟩ : Addr)).map (fun x => x.add (k * spE.k))) (n - k) (c2 - k), fun v w => LsO spE w wd.drew.heap.size v (L.take k ++ [(⟨sn, sr, sw⟩ : Sp)] ++ L.drop k), fun v w => LsO spE w wd.drew.heap.size v (L.take k ++ [(⟨sn, sr, sw⟩ : Sp)] ++ L.drop k), fun v _ => v = .int .i64 0] := ⟨_, rfl⟩
                have hmono : MonoL Rl := by rw [hRl]; exact ⟨(fun _ _ _ h _ => h), ⟨(fun _ _ _ h _ => h), ⟨(fun _ _ _ h _ => h), ⟨(fun v w1 w2 h hb => LsO.kept h hb), ⟨(fun _ _ _ h _ => h), ⟨(fun v w1 w2 h hb => by obtain ⟨b, h1, h2⟩ := h; exact ⟨b, h1, h2.mono spOk hb⟩), ⟨(fun v w1 w2 h hb => LsO.kept h hb), ⟨(fun _ _ _ h _ => h), ⟨(fun _ _ _ h _ => h), ⟨(fun _ _ _ h _ => h), ⟨(fun v w1 w2 h hb => LsO.kept h hb), ⟨(fun v w1 w2 h hb => LsO.kept h hb), ⟨(fun _ _ _ h _ => h), trivial⟩⟩⟩⟩⟩⟩⟩⟩⟩⟩⟩⟩⟩
                refine region_facts2 (by kernel_rfl) (by kernel_rfl) [53, 54, 55, 56, 57, 58, 59, 60, 61, 62, 63, 4, 5] rfl (by decide) (by simp) (fun i v w => (Rl.getD i (fun _ _ => True)) v w) (fun i j => if i = 11 then j == 10 else if i = 12 then false else true) (fun i => [0, 1, 2, 4, 7, 8, 9, 12].contains i) (fun i => i == 11) (fun i => i == 6 || i == 10) (by kernel_rfl) ?_ (fun i v w1 w2 h hb => monoL_get hmono i v w1 w2 h hb) ?_ ?_
                · intro i v w1 w2 hpu h _
                  rcases (show i = 0 ∨ i = 1 ∨ i = 2 ∨ i = 4 ∨ i = 7 ∨ i = 8 ∨ i = 9 ∨ i = 12 by simpa using hpu) with rfl | rfl | rfl | rfl | rfl | rfl | rfl | rfl <;> (subst hRl; exact h)
                · intro i o ho vs b w' hI K hK
                  have hil := (List.getElem?_eq_some_iff.1 ho).1
                  have hil : i < 13 := hil
                  subst hRl
                  rcases (show i = 0 ∨ i = 1 ∨ i = 2 ∨ i = 3 ∨ i = 4 ∨ i = 5 ∨ i = 6 ∨ i = 7 ∨ i = 8 ∨ i = 9 ∨ i = 10 ∨ i = 11 ∨ i = 12 by omega) with rfl | rfl | rfl | rfl | rfl | rfl | rfl | rfl | rfl | rfl | rfl | rfl | rfl
                  · injection ho with ho
                    subst ho
                    have e0 : b.eval (.tmp 0) = (.slice (some ⟨g, 0, none⟩) n c2 : Value) := (hI.old 0 (by decide)).trans (by go_simp)
                    refine rf_val (by rfl) (.slice (some ⟨g, 0, none⟩) n c2) (by simp only [execOp]; simp only [e0]; rfl) ?_
                    exact hK _ _ (fun _ => Below.refl _ _) (Below.refl _ _) rfl
                  · injection ho with ho
                    subst ho
                    have e6 : b.eval (.tmp 6) = (.int .i64 (k : Int) : Value) := (hI.old 6 (by decide)).trans (by go_simp)
                    refine rf_val (by rfl) (.int .i64 (k : Int)) (by simp only [execOp]; simp only [e6]; rfl) ?_
                    exact hK _ _ (fun _ => Below.refl _ _) (Below.refl _ _) rfl
                  · injection ho with ho
                    subst ho
                    have e53 : b.eval (.tmp 53) = (.slice (some ⟨g, 0, none⟩) n c2 : Value) := (hI.dep 0 (by rfl) (by kernel_rfl) (by decide)).1.trans (hI.dep 0 (by rfl) (by kernel_rfl) (by decide)).2
                    have e54 : b.eval (.tmp 54) = (.int .i64 (k : Int) : Value) := (hI.dep 1 (by rfl) (by kernel_rfl) (by decide)).1.trans (hI.dep 1 (by rfl) (by kernel_rfl) (by decide)).2
                    refine rf_val (by rfl) (.slice (some ⟨g, 0, none⟩) k c2) (by simp only [execOp]; simp only [Option.map_none, Option.map_some, e53, e54]; go_simp; try (intro hh; exfalso; omega)) ?_
                    exact hK _ _ (fun _ => Below.refl _ _) (Below.refl _ _) rfl
                  · injection ho with ho
                    subst ho
                    have e55 : b.eval (.tmp 55) = (.slice (some ⟨g, 0, none⟩) k c2 : Value) := (hI.dep 2 (by rfl) (by kernel_rfl) (by decide)).1.trans (hI.dep 2 (by rfl) (by kernel_rfl) (by decide)).2
                    refine append_ls spOk rfl (.const (.slice none 0 0)) (.tmp 55) rfl wd.drew.heap.size (.slice none 0 0) [] rfl (LsO.nil _ _) (some ⟨g, 0, none⟩) k c2 (L.take k) e55 (LK.out.mono spOk hI.bel) (by simp; omega) hI.bel.size ?_
                    intro v2 w2 hN hb2 hg2 hv2
                    exact wpl_nil (hK _ _ (fun _ => ⟨hg2.os, hg2.tape, hg2.output, hg2.size, fun k hk => hg2.block k hk (by simp [Value.ownBlock])⟩) hb2 hN)
                  · injection ho with ho
                    subst ho
                    have e3 : b.eval (.tmp 3) = (.pointer (some ⟨w.heap.size, 0, none⟩) : Value) := (hI.old 3 (by decide)).trans (by go_simp)
                    refine rf_val (by rfl) (.agg ([.string sn, .int .i64 sr, .int .i64 sw] : List Value).toArray) (lg_all 24 (.tmp 3) rfl w.heap.size e3 24 [.string sn, .int .i64 sr, .int .i64 sw] _ (show Row w' w.heap.size 24 [.string sn, .int .i64 sr, .int .i64 sw] from RD.out.below hI.bel RD.out.lt) Try.underlying24 rfl SZ.out) ?_
                    exact hK _ _ (fun _ => Below.refl _ _) (Below.refl _ _) rfl
                  · injection ho with ho
                    subst ho
                    have e57 : b.eval (.tmp 57) = (.agg ([.string sn, .int .i64 sr, .int .i64 sw] : List Value).toArray : Value) := (hI.dep 4 (by rfl) (by kernel_rfl) (by decide)).1.trans (hI.dep 4 (by rfl) (by kernel_rfl) (by decide)).2
                    refine build_ls spOk sp_fill rfl (.tmp 57) rfl (⟨sn, sr, sw⟩ : Sp) e57 HSF.out (by decide) ?_
                    intro w2 hl hb2 hz
                    exact wpl_nil (hK _ _ (fun _ => hb2) (hb2.mono hI.bel.size) ⟨w'.heap.size, rfl, hl⟩)
                  · injection ho with ho
                    subst ho
                    have e56 := (hI.dep 3 (by rfl) (by kernel_rfl) (by decide)).1
                    have r56 := (hI.dep 3 (by rfl) (by kernel_rfl) (by decide)).2
                    have e58 := (hI.dep 5 (by rfl) (by kernel_rfl) (by decide)).1
                    have r58 := (hI.dep 5 (by rfl) (by kernel_rfl) (by decide)).2
                    obtain ⟨b5, h5, hl5⟩ := r58
                    rw [h5] at e58
                    refine append_ls spOk rfl (.tmp 56) (.tmp 58) rfl wd.drew.heap.size (vs 3) (L.take k) e56 r56 (some ⟨b5, 0, none⟩) 1 1 [(⟨sn, sr, sw⟩ : Sp)] e58 hl5 (by rw [List.length_take, HL.out]; omega) hI.bel.size ?_
                    intro v2 w2 hN hb2 hg2 hv2
                    exact wpl_nil (hK _ _ (fun h => by cases h) hb2 hN)
                  · injection ho with ho
                    subst ho
                    have e0 : b.eval (.tmp 0) = (.slice (some ⟨g, 0, none⟩) n c2 : Value) := (hI.old 0 (by decide)).trans (by go_simp)
                    refine rf_val (by rfl) (.slice (some ⟨g, 0, none⟩) n c2) (by simp only [execOp]; simp only [e0]; rfl) ?_
                    exact hK _ _ (fun _ => Below.refl _ _) (Below.refl _ _) rfl
                  · injection ho with ho
                    subst ho
                    have e6 : b.eval (.tmp 6) = (.int .i64 (k : Int) : Value) := (hI.old 6 (by decide)).trans (by go_simp)
                    refine rf_val (by rfl) (.int .i64 (k : Int)) (by simp only [execOp]; simp only [e6]; rfl) ?_
                    exact hK _ _ (fun _ => Below.refl _ _) (Below.refl _ _) rfl
                  · injection ho with ho
                    subst ho
                    have e60 : b.eval (.tmp 60) = (.slice (some ⟨g, 0, none⟩) n c2 : Value) := (hI.dep 7 (by rfl) (by kernel_rfl) (by decide)).1.trans (hI.dep 7 (by rfl) (by kernel_rfl) (by decide)).2
                    have e61 : b.eval (.tmp 61) = (.int .i64 (k : Int) : Value) := (hI.dep 8 (by rfl) (by kernel_rfl) (by decide)).1.trans (hI.dep 8 (by rfl) (by kernel_rfl) (by decide)).2
                    refine rf_val (by rfl) (.slice (if c2 = k then some ⟨g, 0, none⟩ else (some (⟨g, 0, none⟩ : Addr)).map (fun x => x.add (k * spE.k))) (n - k) (c2 - k)) (by simp only [execOp]; simp only [Option.map_none, Option.map_some, e60, e61]; go_simp; try (intro hh; exfalso; omega)) ?_
                    exact hK _ _ (fun _ => Below.refl _ _) (Below.refl _ _) rfl
                  · injection ho with ho
                    subst ho
                    have e59 := (hI.dep 6 (by rfl) (by kernel_rfl) (by decide)).1
                    have r59 := (hI.dep 6 (by rfl) (by kernel_rfl) (by decide)).2
                    have e62 : b.eval (.tmp 62) = (.slice (if c2 = k then some ⟨g, 0, none⟩ else (some (⟨g, 0, none⟩ : Addr)).map (fun x => x.add (k * spE.k))) (n - k) (c2 - k) : Value) := (hI.dep 9 (by rfl) (by kernel_rfl) (by decide)).1.trans (hI.dep 9 (by rfl) (by kernel_rfl) (by decide)).2
                    refine append_ls spOk rfl (.tmp 59) (.tmp 62) rfl wd.drew.heap.size (vs 6) (L.take k ++ [(⟨sn, sr, sw⟩ : Sp)]) e59 r59 _ (n - k) (c2 - k) (L.drop k) e62 (LR.out.mono spOk hI.bel) (by rw [List.length_append, List.length_take, HL.out]; simp; omega) hI.bel.size ?_
                    intro v2 w2 hN hb2 hg2 hv2
                    exact wpl_nil (hK _ _ (fun h => by cases h) hb2 hN)
                  · injection ho with ho
                    subst ho
                    have e63 := (hI.dep 10 (by rfl) (by kernel_rfl) (by decide)).1
                    have r63 := (hI.dep 10 (by rfl) (by kernel_rfl) (by decide)).2
                    refine rf_val (by rfl) (vs 10) (by simp only [execOp]; rw [show b.eval (.tmp 63) = vs 10 from e63]; rfl) ?_
                    exact hK _ _ (fun _ => Below.refl _ _) (Below.refl _ _) r63
                  · injection ho with ho
                    subst ho
                    refine rf_val (by rfl) (.int .i64 0) (by simp only [execOp]; rfl) ?_
                    exact hK _ _ (fun _ => Below.refl _ _) (Below.refl _ _) rfl
                · intro vs w6 hb6 hall
                  subst hRl
                  have f11 : LsO spE w6 wd.drew.heap.size (vs 11) (L.take k ++ [(⟨sn, sr, sw⟩ : Sp)] ++ L.drop k) := hall 11 (by decide) (by decide)
                  have f12 : vs 12 = (.int .i64 0 : Value) := hall 12 (by decide) (by decide)
                  clear hall
                  dsimp only [rfPut]
                  go_simp
                  go_wp2_with fail
                  go_ret2
                  obtain ⟨rfl, rfl⟩ := HF.out
                  rw [HAT.out]
                  exact ⟨_, rfl, f11.base (Nat.le_trans (Nat.le_trans B3.out.size B2'.out.size) D0.out.size), ((B3.out.trans (B2'.out.mono B3.out.size)).trans (D0.out.mono (Nat.le_trans B3.out.size B2'.out.size))).trans ((Below.refl _ _).drew.trans (hb6.mono (Nat.le_refl _)) |>.mono (Nat.le_trans (Nat.le_trans B3.out.size B2'.out.size) D0.out.size))⟩
              · have PN := Lib.hid (show ∀ j, j < k + 1 → ∀ y, L[j]? = some y → ltB y.name sn = true from fun j hj y hy => by
                  by_cases hjk : j < k
                  · exact PW.out j hjk y hy
                  · obtain rfl : j = k := by omega
                    rw [HX.out] at hy
                    injection hy with hy
                    rw [← hy]; exact HQ.out)
                have he := HE.out
                go_wp2_with fail
                refine region_h (fun v => Below wr.heap.size wr v) (by kernel_rfl) (by kernel_rfl) (Below.refl _ _).drew ?_
                obtain ⟨wd, hwd⟩ : ∃ wd, wr.drew = wd := ⟨_, rfl⟩
                have D0 : Hid (Below wr.heap.size wr wd) := Lib.hid (by rw [← hwd]; exact (Below.refl _ _).drew)
                rw [hwd]
                clear hwd
                (refine h_read 0 rfl (by kernel_rfl) (by kernel_rfl) (h_free rfl) ?_ ?_ ?_; rotate_left; (focus (intro v hv; go_simp; rfl)); go_simp)
                (refine h_read 1 rfl (by kernel_rfl) (by kernel_rfl) (h_free rfl) ?_ ?_ ?_; rotate_left; (focus (intro v hv; go_simp; rfl)); go_simp)
                (refine h_read 2 rfl (by kernel_rfl) (by kernel_rfl) (h_free rfl) ?_ ?_ ?_; rotate_left; (focus (intro v hv; go_simp; rfl)); go_simp)
                (refine h_read 3 rfl (by kernel_rfl) (by kernel_rfl) (h_free rfl) ?_ ?_ ?_; rotate_left; (focus (intro v hv; go_simp; rfl)); go_simp)
                (refine h_read 4 rfl (by kernel_rfl) (by kernel_rfl) (h_free rfl) ?_ ?_ ?_; rotate_left; (focus (intro v hv; go_simp; rfl)); go_simp)
                (refine h_read 5 rfl (by kernel_rfl) (by kernel_rfl) ?_ ?_ ?_ ?_; (focus (go_simp; done)); rotate_left; (focus (intro v hv; go_simp; rfl)); go_simp)
                (refine h_read 6 rfl (by kernel_rfl) (by kernel_rfl) ?_ ?_ ?_ ?_; (focus (go_simp; done)); rotate_left; (focus (intro v hv; go_simp; rfl)); go_simp)
                (refine h_read 7 rfl (by kernel_rfl) (by kernel_rfl) ?_ ?_ ?_ ?_; (focus (go_simp; done)); rotate_left; (focus (intro v hv; go_simp; rfl)); go_simp)
                (refine h_read 8 rfl (by kernel_rfl) (by kernel_rfl) ?_ ?_ ?_ ?_; (focus (go_simp; done)); rotate_left; (focus (intro v hv; go_simp; rfl)); go_simp)
                (refine h_read 9 rfl (by kernel_rfl) (by kernel_rfl) ?_ ?_ ?_ ?_; (focus (go_simp; done)); rotate_left; (focus (intro v hv; have q0 := (hv.cell (p := ⟨g, k * 3, none⟩) (World.block_lt_of_cell? wr _ E0.out)).trans E0.out; have q1 := (hv.cell (p := ⟨w.heap.size, 0, none⟩) (World.block_lt_of_cell? wr _ S0.out)).trans S0.out; go_simp; rfl)); go_simp)
                (refine h_read 10 rfl (by kernel_rfl) (by kernel_rfl) ?_ ?_ ?_ ?_; (focus (go_simp; done)); rotate_left; (focus (intro v hv; go_simp; rfl)); go_simp)
                (refine h_read 11 rfl (by kernel_rfl) (by kernel_rfl) ?_ ?_ ?_ ?_; (focus (go_simp; done)); rotate_left; (focus (intro v hv; have q0 := (hv.cell (p := ⟨g, k * 3, none⟩) (World.block_lt_of_cell? wr _ E0.out)).trans E0.out; have q1 := (hv.cell (p := ⟨w.heap.size, 0, none⟩) (World.block_lt_of_cell? wr _ S0.out)).trans S0.out; go_simp; rfl)); go_simp)
                (refine h_read 12 rfl (by kernel_rfl) (by kernel_rfl) ?_ ?_ ?_ ?_; (focus (go_simp; done)); rotate_left; (focus (intro v hv; go_simp; rfl)); go_simp)
                (refine h_read 13 rfl (by kernel_rfl) (by kernel_rfl) (h_free rfl) ?_ ?_ ?_; rotate_left; (focus (intro v hv; go_simp; rfl)); go_simp)
                refine h_done (by kernel_rfl) ?_
                go_wp2_with fail
                go_roundw
                case rel => exact ⟨k + 1, vint (by omega), by omega, PN, Lib.hid (B2'.out.trans (D0.out.mono B2'.out.size))⟩
                case measure => simp [intOf]; omega
            · obtain rfl : n = k := by omega
              have HAT := Lib.hid (show aheadV L sn = n from ahead_at L n (by rw [HL.out]; omega) PW.out (fun y hy => by rw [List.getElem?_eq_none (by rw [HL.out]; exact Nat.le_refl _)] at hy; cases hy))
              go_wp2_with fail
              refine region_h (fun v => Below wr.heap.size wr v) (by kernel_rfl) (by kernel_rfl) (Below.refl _ _).drew ?_
              obtain ⟨wd, hwd⟩ : ∃ wd, wr.drew = wd := ⟨_, rfl⟩
              have D0 : Hid (Below wr.heap.size wr wd) := Lib.hid (by rw [← hwd]; exact (Below.refl _ _).drew)
              rw [hwd]
              clear hwd
              (refine h_read 0 rfl (by kernel_rfl) (by kernel_rfl) (h_free rfl) ?_ ?_ ?_; rotate_left; (focus (intro v hv; go_simp; rfl)); go_simp)
              (refine h_read 1 rfl (by kernel_rfl) (by kernel_rfl) (h_free rfl) ?_ ?_ ?_; rotate_left; (focus (intro v hv; go_simp; rfl)); go_simp)
              (refine h_read 2 rfl (by kernel_rfl) (by kernel_rfl) (h_free rfl) ?_ ?_ ?_; rotate_left; (focus (intro v hv; go_simp; rfl)); go_simp)
              (refine h_read 3 rfl (by kernel_rfl) (by kernel_rfl) (h_free rfl) ?_ ?_ ?_; rotate_left; (focus (intro v hv; go_simp; rfl)); go_simp)
              (refine h_read 4 rfl (by kernel_rfl) (by kernel_rfl) (h_free rfl) ?_ ?_ ?_; rotate_left; (focus (intro v hv; go_simp; rfl)); go_simp)
              (refine h_skip 5 rfl (by kernel_rfl) (by kernel_rfl) ?_ ?_; (focus (go_simp; first | done | (intro h; cases h) | simp)); go_simp)
              (refine h_skip 6 rfl (by kernel_rfl) (by kernel_rfl) ?_ ?_; (focus (go_simp; first | done | (intro h; cases h) | simp)); go_simp)
              (refine h_skip 7 rfl (by kernel_rfl) (by kernel_rfl) ?_ ?_; (focus (go_simp; first | done | (intro h; cases h) | simp)); go_simp)
              (refine h_skip 8 rfl (by kernel_rfl) (by kernel_rfl) ?_ ?_; (focus (go_simp; first | done | (intro h; cases h) | simp)); go_simp)
              (refine h_skip 9 rfl (by kernel_rfl) (by kernel_rfl) ?_ ?_; (focus (go_simp; first | done | (intro h; cases h) | simp)); go_simp)
              (refine h_skip 10 rfl (by kernel_rfl) (by kernel_rfl) ?_ ?_; (focus (go_simp; first | done | (intro h; cases h) | simp)); go_simp)
              (refine h_skip 11 rfl (by kernel_rfl) (by kernel_rfl) ?_ ?_; (focus (go_simp; first | done | (intro h; cases h) | simp)); go_simp)
              (refine h_skip 12 rfl (by kernel_rfl) (by kernel_rfl) ?_ ?_; (focus (go_simp; first | done | (intro h; cases h) | simp)); go_simp)
              (refine h_read 13 rfl (by kernel_rfl) (by kernel_rfl) (h_free rfl) ?_ ?_ ?_; rotate_left; (focus (intro v hv; go_simp; rfl)); go_simp)
              refine h_done (by kernel_rfl) ?_
              go_wp2_with fail
              have LD := Lib.hid (L3.out.mono spOk (B2'.out.trans (D0.out.mono B2'.out.size)))
              have RD := Lib.hid (show Row wd.drew w.heap.size 24 [.string sn, .int .i64 sr, .int .i64 sw] from ((RQ2.out.below D0.out RQ2.out.lt).below (Below.refl _ _).drew (RQ2.out.below D0.out RQ2.out.lt).lt))
              have LK := Lib.hid (show Ls spE wd.drew (some ⟨g, 0, none⟩) n c2 (L.take n) from (LD.out.mono spOk (Below.refl _ _).drew).first n (by omega))
              have LR := Lib.hid (show Ls spE wd.drew _ (n - n) (c2 - n) (L.drop n) from (LD.out.mono spOk (Below.refl _ _).drew).rest n (by omega))
              have hnc := LD.out.hle
              have hcm := LD.out.hmax
              obtain ⟨Rl, hRl⟩ : ∃ Rl : List (Value → World → Prop), Rl = [fun v _ => v = .slice (some ⟨g, 0, none⟩) n c2, fun v _ => v = .int .i64 (n : Int), fun v _ => v = .slice (some ⟨g, 0, none⟩) n c2, fun v w => LsO spE w wd.drew.heap.size v (L.take n), fun v _ => v = .agg ([.string sn, .int .i64 sr, .int .i64 sw] : List Value).toArray, fun v w => ∃ b, v = Value.slice (some ⟨b, 0, none⟩) 1 1 ∧ Ls spE w (some ⟨b, 0, none⟩) 1 1 [(⟨sn, sr, sw⟩ : Sp)], fun v w => LsO spE w wd.drew.heap.size v (L.take n ++ [(⟨sn, sr, sw⟩ : Sp)]), fun v _ => v = .slice (some ⟨g, 0, none⟩) n c2, fun v _ => v = .int .i64 (n : Int), fun v _ => v = .slice (if c2 = n then some ⟨g, 0, none⟩ else (some (⟨g, 0, none⟩ : Addr)).map (fun x => x.add (n * spE.k))) (n - n) (c2 - n), fun v w => LsO spE w wd.drew.heap.size v (L.take n ++ [(⟨sn, sr, sw⟩ : Sp)] ++ L.drop n), fun v w => LsO spE w wd.drew.heap.size v (L.take n ++ [(⟨sn, sr, sw⟩ : Sp)] ++ L.drop n), fun v _ => v = .int .i64 0] := ⟨_, rfl⟩
              have hmono : MonoL Rl := by rw [hRl]; exact ⟨(fun _ _ _ h _ => h), ⟨(fun _ _ _ h _ => h), ⟨(fun _ _ _ h _ => h), ⟨(fun v w1 w2 h hb => LsO.kept h hb), ⟨(fun _ _ _ h _ => h), ⟨(fun v w1 w2 h hb => by obtain ⟨b, h1, h2⟩ := h; exact ⟨b, h1, h2.mono spOk hb⟩), ⟨(fun v w1 w2 h hb => LsO.kept h hb), ⟨(fun _ _ _ h _ => h), ⟨(fun _ _ _ h _ => h), ⟨(fun _ _ _ h _ => h), ⟨(fun v w1 w2 h hb => LsO.kept h hb), ⟨(fun v w1 w2 h hb => LsO.kept h hb), ⟨(fun _ _ _ h _ => h), trivial⟩⟩⟩⟩⟩⟩⟩⟩⟩⟩⟩⟩⟩
              refine region_facts2 (by kernel_rfl) (by kernel_rfl) [53, 54, 55, 56, 57, 58, 59, 60, 61, 62, 63, 4, 5] rfl (by decide) (by simp) (fun i v w => (Rl.getD i (fun _ _ => True)) v w) (fun i j => if i = 11 then j == 10 else if i = 12 then false else true) (fun i => [0, 1, 2, 4, 7, 8, 9, 12].contains i) (fun i => i == 11) (fun i => i == 6 || i == 10) (by kernel_rfl) ?_ (fun i v w1 w2 h hb => monoL_get hmono i v w1 w2 h hb) ?_ ?_
              · intro i v w1 w2 hpu h _
                rcases (show i = 0 ∨ i = 1 ∨ i = 2 ∨ i = 4 ∨ i = 7 ∨ i = 8 ∨ i = 9 ∨ i = 12 by simpa using hpu) with rfl | rfl | rfl | rfl | rfl | rfl | rfl | rfl <;> (subst hRl; exact h)
              · intro i o ho vs b w' hI K hK
                have hil := (List.getElem?_eq_some_iff.1 ho).1
                have hil : i < 13 := hil
                subst hRl
                rcases (show i = 0 ∨ i = 1 ∨ i = 2 ∨ i = 3 ∨ i = 4 ∨ i = 5 ∨ i = 6 ∨ i = 7 ∨ i = 8 ∨ i = 9 ∨ i = 10 ∨ i = 11 ∨ i = 12 by omega) with rfl | rfl | rfl | rfl | rfl | rfl | rfl | rfl | rfl | rfl | rfl | rfl | rfl
                · injection ho with ho
                  subst ho
                  have e0 : b.eval (.tmp 0) = (.slice (some ⟨g, 0, none⟩) n c2 : Value) := (hI.old 0 (by decide)).trans (by go_simp)
                  refine rf_val (by rfl) (.slice (some ⟨g, 0, none⟩) n c2) (by simp only [execOp]; simp only [e0]; rfl) ?_
                  exact hK _ _ (fun _ => Below.refl _ _) (Below.refl _ _) rfl
                · injection ho with ho
                  subst ho
                  have e6 : b.eval (.tmp 6) = (.int .i64 (n : Int) : Value) := (hI.old 6 (by decide)).trans (by go_simp)
                  refine rf_val (by rfl) (.int .i64 (n : Int)) (by simp only [execOp]; simp only [e6]; rfl) ?_
                  exact hK _ _ (fun _ => Below.refl _ _) (Below.refl _ _) rfl
                · injection ho with ho
                  subst ho
                  have e53 : b.eval (.tmp 53) = (.slice (some ⟨g, 0, none⟩) n c2 : Value) := (hI.dep 0 (by rfl) (by kernel_rfl) (by decide)).1.trans (hI.dep 0 (by rfl) (by kernel_rfl) (by decide)).2
                  have e54 : b.eval (.tmp 54) = (.int .i64 (n : Int) : Value) := (hI.dep 1 (by rfl) (by kernel_rfl) (by decide)).1.trans (hI.dep 1 (by rfl) (by kernel_rfl) (by decide)).2
                  refine rf_val (by rfl) (.slice (some ⟨g, 0, none⟩) n c2) (by simp only [execOp]; simp only [Option.map_none, Option.map_some, e53, e54]; go_simp; try (intro hh; exfalso; omega)) ?_
                  exact hK _ _ (fun _ => Below.refl _ _) (Below.refl _ _) rfl
                · injection ho with ho
                  subst ho
                  have e55 : b.eval (.tmp 55) = (.slice (some ⟨g, 0, none⟩) n c2 : Value) := (hI.dep 2 (by rfl) (by kernel_rfl) (by decide)).1.trans (hI.dep 2 (by rfl) (by kernel_rfl) (by decide)).2
                  refine append_ls spOk rfl (.const (.slice none 0 0)) (.tmp 55) rfl wd.drew.heap.size (.slice none 0 0) [] rfl (LsO.nil _ _) (some ⟨g, 0, none⟩) n c2 (L.take n) e55 (LK.out.mono spOk hI.bel) (by simp; omega) hI.bel.size ?_
                  intro v2 w2 hN hb2 hg2 hv2
                  exact wpl_nil (hK _ _ (fun _ => ⟨hg2.os, hg2.tape, hg2.output, hg2.size, fun k hk => hg2.block k hk (by simp [Value.ownBlock])⟩) hb2 hN)
                · injection ho with ho
                  subst ho
                  have e3 : b.eval (.tmp 3) = (.pointer (some ⟨w.heap.size, 0, none⟩) : Value) := (hI.old 3 (by decide)).trans (by go_simp)
                  refine rf_val (by rfl) (.agg ([.string sn, .int .i64 sr, .int .i64 sw] : List Value).toArray) (lg_all 24 (.tmp 3) rfl w.heap.size e3 24 [.string sn, .int .i64 sr, .int .i64 sw] _ (show Row w' w.heap.size 24 [.string sn, .int .i64 sr, .int .i64 sw] from RD.out.below hI.bel RD.out.lt) Try.underlying24 rfl SZ.out) ?_
                  exact hK _ _ (fun _ => Below.refl _ _) (Below.refl _ _) rfl
                · injection ho with ho
                  subst ho
                  have e57 : b.eval (.tmp 57) = (.agg ([.string sn, .int .i64 sr, .int .i64 sw] : List Value).toArray : Value) := (hI.dep 4 (by rfl) (by kernel_rfl) (by decide)).1.trans (hI.dep 4 (by rfl) (by kernel_rfl) (by decide)).2
                  refine build_ls spOk sp_fill rfl (.tmp 57) rfl (⟨sn, sr, sw⟩ : Sp) e57 HSF.out (by decide) ?_
                  intro w2 hl hb2 hz
                  exact wpl_nil (hK _ _ (fun _ => hb2) (hb2.mono hI.bel.size) ⟨w'.heap.size, rfl, hl⟩)
                · injection ho with ho
                  subst ho
                  have e56 := (hI.dep 3 (by rfl) (by kernel_rfl) (by decide)).1
                  have r56 := (hI.dep 3 (by rfl) (by kernel_rfl) (by decide)).2
                  have e58 := (hI.dep 5 (by rfl) (by kernel_rfl) (by decide)).1
                  have r58 := (hI.dep 5 (by rfl) (by kernel_rfl) (by decide)).2
                  obtain ⟨b5, h5, hl5⟩ := r58
                  rw [h5] at e58
                  refine append_ls spOk rfl (.tmp 56) (.tmp 58) rfl wd.drew.heap.size (vs 3) (L.take n) e56 r56 (some ⟨b5, 0, none⟩) 1 1 [(⟨sn, sr, sw⟩ : Sp)] e58 hl5 (by rw [List.length_take, HL.out]; omega) hI.bel.size ?_
                  intro v2 w2 hN hb2 hg2 hv2
                  exact wpl_nil (hK _ _ (fun h => by cases h) hb2 hN)
                · injection ho with ho
                  subst ho
                  have e0 : b.eval (.tmp 0) = (.slice (some ⟨g, 0, none⟩) n c2 : Value) := (hI.old 0 (by decide)).trans (by go_simp)
                  refine rf_val (by rfl) (.slice (some ⟨g, 0, none⟩) n c2) (by simp only [execOp]; simp only [e0]; rfl) ?_
                  exact hK _ _ (fun _ => Below.refl _ _) (Below.refl _ _) rfl
                · injection ho with ho
                  subst ho
                  have e6 : b.eval (.tmp 6) = (.int .i64 (n : Int) : Value) := (hI.old 6 (by decide)).trans (by go_simp)
                  refine rf_val (by rfl) (.int .i64 (n : Int)) (by simp only [execOp]; simp only [e6]; rfl) ?_
                  exact hK _ _ (fun _ => Below.refl _ _) (Below.refl _ _) rfl
                · injection ho with ho
                  subst ho
                  have e60 : b.eval (.tmp 60) = (.slice (some ⟨g, 0, none⟩) n c2 : Value) := (hI.dep 7 (by rfl) (by kernel_rfl) (by decide)).1.trans (hI.dep 7 (by rfl) (by kernel_rfl) (by decide)).2
                  have e61 : b.eval (.tmp 61) = (.int .i64 (n : Int) : Value) := (hI.dep 8 (by rfl) (by kernel_rfl) (by decide)).1.trans (hI.dep 8 (by rfl) (by kernel_rfl) (by decide)).2
                  refine rf_val (by rfl) (.slice (if c2 = n then some ⟨g, 0, none⟩ else (some (⟨g, 0, none⟩ : Addr)).map (fun x => x.add (n * spE.k))) (n - n) (c2 - n)) (by simp only [execOp]; simp only [Option.map_none, Option.map_some, e60, e61]; go_simp; try (intro hh; exfalso; omega)) ?_
                  exact hK _ _ (fun _ => Below.refl _ _) (Below.refl _ _) rfl
                · injection ho with ho
                  subst ho
                  have e59 := (hI.dep 6 (by rfl) (by kernel_rfl) (by decide)).1
                  have r59 := (hI.dep 6 (by rfl) (by kernel_rfl) (by decide)).2
                  have e62 : b.eval (.tmp 62) = (.slice (if c2 = n then some ⟨g, 0, none⟩ else (some (⟨g, 0, none⟩ : Addr)).map (fun x => x.add (n * spE.k))) (n - n) (c2 - n) : Value) := (hI.dep 9 (by rfl) (by kernel_rfl) (by decide)).1.trans (hI.dep 9 (by rfl) (by kernel_rfl) (by decide)).2
                  refine append_ls spOk rfl (.tmp 59) (.tmp 62) rfl wd.drew.heap.size (vs 6) (L.take n ++ [(⟨sn, sr, sw⟩ : Sp)]) e59 r59 _ (n - n) (c2 - n) (L.drop n) e62 (LR.out.mono spOk hI.bel) (by rw [List.length_append, List.length_take, HL.out]; simp; omega) hI.bel.size ?_
                  intro v2 w2 hN hb2 hg2 hv2
                  exact wpl_nil (hK _ _ (fun h => by cases h) hb2 hN)
                · injection ho with ho
                  subst ho
                  have e63 := (hI.dep 10 (by rfl) (by kernel_rfl) (by decide)).1
                  have r63 := (hI.dep 10 (by rfl) (by kernel_rfl) (by decide)).2
                  refine rf_val (by rfl) (vs 10) (by simp only [execOp]; rw [show b.eval (.tmp 63) = vs 10 from e63]; rfl) ?_
                  exact hK _ _ (fun _ => Below.refl _ _) (Below.refl _ _) r63
                · injection ho with ho
                  subst ho
                  refine rf_val (by rfl) (.int .i64 0) (by simp only [execOp]; rfl) ?_
                  exact hK _ _ (fun _ => Below.refl _ _) (Below.refl _ _) rfl
              · intro vs w6 hb6 hall
                subst hRl
                have f11 : LsO spE w6 wd.drew.heap.size (vs 11) (L.take n ++ [(⟨sn, sr, sw⟩ : Sp)] ++ L.drop n) := hall 11 (by decide) (by decide)
                have f12 : vs 12 = (.int .i64 0 : Value) := hall 12 (by decide) (by decide)
                clear hall
                dsimp only [rfPut]
                go_simp
                go_wp2_with fail
                go_ret2
                obtain ⟨rfl, rfl⟩ := HF.out
                rw [HAT.out]
                exact ⟨_, rfl, f11.base (Nat.le_trans (Nat.le_trans B3.out.size B2'.out.size) D0.out.size), ((B3.out.trans (B2'.out.mono B3.out.size)).trans (D0.out.mono (Nat.le_trans B3.out.size B2'.out.size))).trans ((Below.refl _ _).drew.trans (hb6.mono (Nat.le_refl _)) |>.mono (Nat.le_trans (Nat.le_trans B3.out.size B2'.out.size) D0.out.size))⟩
end Go.Proofs.Ytiopcojkdglapaa.W
