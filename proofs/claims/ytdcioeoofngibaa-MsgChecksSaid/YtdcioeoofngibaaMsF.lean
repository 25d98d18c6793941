/- LAYER 16 (msg): few of the law; SameAll of the reference. -/
import Derived.Test.YtdcioeoofngibaaMsS
set_option linter.unusedSimpArgs false
set_option linter.unusedVariables false
namespace Go.Proofs.Ytdcioeoofngibaa.W
open Go Go.ChangeShapes Go.WideShapes Go.ChangeAt Go.RowKit

theorem ms_next {α : Type} (L : List α) (P : α → Bool) (k : Nat) (d x : α) (hk : k < L.length) (hx : L.getD k d = x) (h : (L.take k).all P = true) (hp : P x = true) : (L.take (k + 1)).all P = true := by
  have h1 : L.take (k + 1) = L.take k ++ [x] := by
    rw [List.take_succ_eq_append_getElem hk, ← hx]
    simp [List.getD_eq_getElem?_getD, hk]
  rw [h1, List.all_append, h]; simp [hp]
theorem ms_not {α : Type} (L : List α) (P : α → Bool) (k : Nat) (d x : α) (hk : k < L.length) (hx : L.getD k d = x) (hp : P x = false) : L.all P = false := by
  rw [List.all_eq_false]
  refine ⟨L[k], List.getElem_mem hk, ?_⟩
  have : L[k] = x := by rw [← hx]; simp [List.getD_eq_getElem?_getD, hk]
  rw [this, hp]; simp
def fewMV (m : Ms) (L : List (En × List UInt8)) : Bool := decide (m.n ≤ 131172) && (decide (m.s.size ≤ 200) && (decide (L.length ≤ 20) && L.all (fun p => decide (p.1.n ≤ 5000))))
theorem fewMV_spec {m : Ms} {L : List (En × List UInt8)} (h : fewMV m L = true) : m.n ≤ 131172 ∧ m.s.size ≤ 200 ∧ L.length ≤ 20 ∧ ∀ p ∈ L, p.1.n ≤ 5000 := by
  unfold fewMV at h
  simp at h
  exact ⟨h.1, h.2.1, h.2.2.1, fun p hp => h.2.2.2 p.1 p.2 hp⟩
set_option maxRecDepth 100000 in
set_option maxHeartbeats 16000000 in
theorem fewM (m : Ms) (d : List UInt8) (L : List (En × List UInt8)) (w : World) (h : MsF w m d L) : Calls Try.prog 5 #[.agg m.cells.toArray] w fun x w' => x = .returned (.bool (fewMV m L)) ∧ Below w.heap.size w w' := by
  obtain ⟨k, fr, dt, tm, ix, lt, cm, rn, cf, ok, ea, en, ec, a, n, c, s⟩ := m
  have HE := Lib.hid h.es
  have HL := Lib.hid h.es.hlen
  have EZ := Lib.hid en_zero
  have ES := Lib.hid en_size
  obtain ⟨V, hV⟩ : ∃ V, fewMV ⟨k, fr, dt, tm, ix, lt, cm, rn, cf, ok, ea, en, ec, a, n, c, s⟩ L = V := ⟨_, rfl⟩
  rw [hV]
  unfold fewMV at hV
  have HV := Lib.hid hV
  unfold Ms.cells
  dsimp only at HE HL HV ⊢
  clear h hV
  by_cases hbig : 131172 < n ∨ (¬ 131172 < n ∧ 200 < s.size)
  · have HF := Lib.hid (show V = false by
      rw [← HV.out]
      rcases hbig with h1 | ⟨h1, h2⟩
      · rw [decide_eq_false (by omega)]; rfl
      · rw [decide_eq_false (show ¬ s.size ≤ 200 by omega)]; simp)
    have hs : (131172 < (n : Int)) ∨ (¬ 131172 < (n : Int) ∧ 200 < (s.size : Int)) := by omega
    clear hbig
    rcases hs with h1 | ⟨h1, h2⟩
    all_goals
      go_enter Try.func5, Try.ntmps5
      go_wp2_with (first
        | (with_reducible refine box_row (o := ⟨some 1, _, _, _, _, _⟩) rfl _ _ rfl [.int .i64 k, .int .i64 fr, .int .i64 dt, .int .i64 tm, .int .i64 ix, .int .i64 lt, .int .i64 cm, .int .i64 rn, .int .i64 cf, .bool ok, .slice ea en ec, .slice a n c, .string s] rfl ?_; intro w1 hr1 hb1 hz1; have B1 := Lib.hid hb1; obtain ⟨c0, c1, c2, c3, c4, c5, c6, c7, c8, c9, c10, c11, c12⟩ := hr1.q13; clear hr1 hb1 hz1))
      go_ret
      exact ⟨one (vbool (by rw [HF.out])), B1.out⟩
  have h1 : ¬ 131172 < (n : Int) := by omega
  have h2 : ¬ 200 < (s.size : Int) := by omega
  have HV2 := Lib.hid (show V = (decide (L.length ≤ 20) && L.all (fun p => decide (p.1.n ≤ 5000))) by rw [← HV.out, decide_eq_true (show n ≤ 131172 by omega), decide_eq_true (show s.size ≤ 200 by omega)]; rfl)
  clear hbig
  go_enter Try.func5, Try.ntmps5
  go_wp2_with (first
    | (with_reducible refine box_row (o := ⟨some 1, _, _, _, _, _⟩) rfl _ _ rfl [.int .i64 k, .int .i64 fr, .int .i64 dt, .int .i64 tm, .int .i64 ix, .int .i64 lt, .int .i64 cm, .int .i64 rn, .int .i64 cf, .bool ok, .slice ea en ec, .slice a n c, .string s] rfl ?_; intro w1 hr1 hb1 hz1; have S1 := Lib.hid hr1; have B1 := Lib.hid hb1; obtain ⟨c0, c1, c2, c3, c4, c5, c6, c7, c8, c9, c10, c11, c12⟩ := hr1.q13; clear hr1 hb1 hz1))
  clear c0 c1 c2 c3 c4 c5 c6 c7 c8 c9 c10 c11 c12 h1 h2
  go_loopw [18] (fun i wr => ∃ j : Nat, i = .int .i64 (j : Int) ∧ j ≤ en ∧ j ≤ 20 ∧ Hid ((L.take j).all (fun p => decide (p.1.n ≤ 5000)) = true) ∧ Hid (Below w1.heap.size w1 wr)) (fun i _ => en - (intOf i).toNat)
  case atStart => exact ⟨0, rfl, Nat.zero_le _, Nat.zero_le _, Lib.hid rfl, Lib.hid (Below.refl _ _)⟩
  case round =>
    obtain ⟨j, rfl, hk, hk20, P, B⟩ := hrel
    by_cases hlt : j < en
    · have E1 := HE.out.mono B1.out
      obtain ⟨x1, o1, rfl, hx1, hf1, hk1⟩ := E1.at B.out j hlt
      have hnx := fun hp => ms_next L (fun p => decide (p.1.n ≤ 5000)) j Ez _ hk1 rfl P.out hp
      have hno := fun hp => ms_not L (fun p => decide (p.1.n ≤ 5000)) j Ez _ hk1 rfl hp
      obtain ⟨⟨⟨jx, jm, jk, qa, qn, qc⟩, ql⟩, hq⟩ : ∃ y, L.getD j Ez = y := ⟨_, rfl⟩
      rw [hq] at hx1 hnx hno
      dsimp only at hx1 hnx hno
      have X1 := Lib.hid hx1
      have HNX := Lib.hid hnx
      have HNO := Lib.hid hno
      have g1 : (0 : Int) ≤ (j : Int) := by omega
      have g2 : (j : Int) < (en : Int) := by omega
      clear hx1 hf1 hq hk1 hnx hno E1
      by_cases h20 : j = 20
      · have HF := Lib.hid (show V = false by rw [HV2.out, decide_eq_false (by rw [HL.out]; omega)]; rfl)
        have h20i : (20 : Int) ≤ (j : Int) := by omega
        clear h20
        go_wp2_with (first
          | ((with_reducible refine load_cells (o := ⟨some 22, _, _, _, _, _⟩) rfl _ _ rfl x1 (o1 + j * 4) ?_ (En.cells ⟨jx, jm, jk, qa, qn, qc⟩) _ X1.out Try.underlying40 rfl ?_ ?_); (focus go_simp); (focus (exact ES.out)))
          | ((with_reducible refine alloc_row (o := ⟨some 4, _, _, _, _, _⟩) rfl _ rfl _ EZ.out ?_); intro w2 hr hb hz; have A2 := Lib.hid hr; have B2 := Lib.hid (B.out.trans (hb.mono B.out.size)); clear hr hb hz)
          | ((with_reducible refine store_row (o := ⟨none, _, _, _, _, _⟩) rfl _ (.tmp 4) _ rfl wr.heap.size (En.cells ⟨jx, jm, jk, qa, qn, qc⟩) ?_ ?_ 40 _ A2.out ?_ ?_ (cells_one _) ?_); (focus go_simp); (focus (first | (go_simp; done) | (go_simp; rfl))); (focus (exact ES.out)); (focus rfl); intro w3 hr hu; have B3 := Lib.hid (B2.out.trans (hu.below B.out.size)); obtain ⟨e0, e1, e2, e3⟩ := hr.q4; clear hr hu))
        go_ret
        exact ⟨one (vbool (by rw [HF.out])), B1.out.trans (B3.out.mono B1.out.size)⟩
      · have h19 : (j : Int) < 20 := by omega
        by_cases h5 : (5000 : Int) < (qn : Int)
        · have HF := Lib.hid (show V = false by rw [HV2.out, HNO.out (decide_eq_false (by omega))]; simp)
          go_wp2_with (first
          | ((with_reducible refine load_cells (o := ⟨some 22, _, _, _, _, _⟩) rfl _ _ rfl x1 (o1 + j * 4) ?_ (En.cells ⟨jx, jm, jk, qa, qn, qc⟩) _ X1.out Try.underlying40 rfl ?_ ?_); (focus go_simp); (focus (exact ES.out)))
          | ((with_reducible refine alloc_row (o := ⟨some 4, _, _, _, _, _⟩) rfl _ rfl _ EZ.out ?_); intro w2 hr hb hz; have A2 := Lib.hid hr; have B2 := Lib.hid (B.out.trans (hb.mono B.out.size)); clear hr hb hz)
          | ((with_reducible refine store_row (o := ⟨none, _, _, _, _, _⟩) rfl _ (.tmp 4) _ rfl wr.heap.size (En.cells ⟨jx, jm, jk, qa, qn, qc⟩) ?_ ?_ 40 _ A2.out ?_ ?_ (cells_one _) ?_); (focus go_simp); (focus (first | (go_simp; done) | (go_simp; rfl))); (focus (exact ES.out)); (focus rfl); intro w3 hr hu; have B3 := Lib.hid (B2.out.trans (hu.below B.out.size)); obtain ⟨e0, e1, e2, e3⟩ := hr.q4; clear hr hu))
          go_ret
          exact ⟨one (vbool (by rw [HF.out])), B1.out.trans (B3.out.mono B1.out.size)⟩
        · have HN := Lib.hid (HNX.out (decide_eq_true (by omega)))
          go_wp2_with (first
          | ((with_reducible refine load_cells (o := ⟨some 22, _, _, _, _, _⟩) rfl _ _ rfl x1 (o1 + j * 4) ?_ (En.cells ⟨jx, jm, jk, qa, qn, qc⟩) _ X1.out Try.underlying40 rfl ?_ ?_); (focus go_simp); (focus (exact ES.out)))
          | ((with_reducible refine alloc_row (o := ⟨some 4, _, _, _, _, _⟩) rfl _ rfl _ EZ.out ?_); intro w2 hr hb hz; have A2 := Lib.hid hr; have B2 := Lib.hid (B.out.trans (hb.mono B.out.size)); clear hr hb hz)
          | ((with_reducible refine store_row (o := ⟨none, _, _, _, _, _⟩) rfl _ (.tmp 4) _ rfl wr.heap.size (En.cells ⟨jx, jm, jk, qa, qn, qc⟩) ?_ ?_ 40 _ A2.out ?_ ?_ (cells_one _) ?_); (focus go_simp); (focus (first | (go_simp; done) | (go_simp; rfl))); (focus (exact ES.out)); (focus rfl); intro w3 hr hu; have B3 := Lib.hid (B2.out.trans (hu.below B.out.size)); obtain ⟨e0, e1, e2, e3⟩ := hr.q4; clear hr hu))
          go_roundw
          case rel => exact ⟨j + 1, vint (by omega), by omega, by omega, HN, B3⟩
          case measure => simp [intOf]; omega
    · obtain rfl : en = j := by omega
      have hp := P.out
      rw [List.take_of_length_le (by rw [HL.out]; exact Nat.le_refl _)] at hp
      have HF := Lib.hid (show V = true by rw [HV2.out, hp, decide_eq_true (by rw [HL.out]; exact hk20)]; rfl)
      go_wp2_with fail
      go_ret
      exact ⟨one (vbool (by rw [HF.out])), B1.out.trans (B.out.mono B1.out.size)⟩

-- ---- lists of messages
instance : Inhabited Mt := ⟨bareT ⟨0, 0, 0, 0, 0, 0, 0, 0, 0, false, none, 0, 0, none, 0, 0, ByteArray.empty⟩⟩
/-- a slice of messages reads as a list -/
structure Mss (w : World) (a : Option Addr) (len : Nat) (L : List Mt) : Prop where
  hlen : L.length = len
  hmax : len ≤ 1000000
  hfit : ∀ p ∈ L, MsF w p.1 p.2.1 p.2.2 ∧ p.1.en ≤ 1000000
  hcells : len = 0 ∨ ∃ b off, a = some ⟨b, off, none⟩ ∧ b < w.heap.size ∧ ∀ i, i < len → ∀ j v, (L.getD i default).1.cells[j]? = some v → w.cell? ⟨b, off + i * 13 + j, none⟩ = some v
theorem Mss.mono {w w' : World} {a : Option Addr} {len : Nat} {L : List Mt} (h : Mss w a len L) (hb : Below w.heap.size w w') : Mss w' a len L := by
  refine ⟨h.hlen, h.hmax, fun p hp => ⟨(h.hfit p hp).1.mono hb, (h.hfit p hp).2⟩, ?_⟩
  rcases h.hcells with h0 | ⟨b, off, rfl, hlt, hc⟩
  · exact .inl h0
  · right
    refine ⟨b, off, rfl, Nat.lt_of_lt_of_le hlt hb.size, fun i hi j v hj => ?_⟩
    rw [hb.cell (p := ⟨b, off + i * 13 + j, none⟩) hlt]; exact hc i hi j v hj
theorem Mss.at {w wr : World} {a : Option Addr} {n : Nat} {L : List Mt} (h : Mss w a n L) (hb : Below w.heap.size w wr) (k : Nat) (hk : k < n) :
    ∃ x off, a = some ⟨x, off, none⟩ ∧ (∀ j v, (L.getD k default).1.cells[j]? = some v → wr.cell? ⟨x, off + k * 13 + j, none⟩ = some v) ∧ MsF wr (L.getD k default).1 (L.getD k default).2.1 (L.getD k default).2.2 ∧ (L.getD k default).1.en ≤ 1000000 ∧ k < L.length := by
  rcases h.hcells with h0 | ⟨x, off, rfl, hx, hcell⟩
  · omega
  have hk2 : k < L.length := by rw [h.hlen]; exact hk
  have : L.getD k default = L[k] := by simp [List.getD_eq_getElem?_getD, hk2]
  have hf := h.hfit _ (List.getElem_mem hk2)
  refine ⟨x, off, rfl, fun j v hj => ?_, by rw [this]; exact hf.1.mono hb, by rw [this]; exact hf.2, hk2⟩
  rw [hb.cell (p := ⟨x, off + k * 13 + j, none⟩) hx]; exact hcell k hk j v hj
theorem ms_take_next (L M : List Mt) (k : Nat) (hL : k < L.length) (hM : k < M.length) (h : (L.take k).map Mt.pl = (M.take k).map Mt.pl) (he : (L.getD k default).pl = (M.getD k default).pl) : (L.take (k + 1)).map Mt.pl = (M.take (k + 1)).map Mt.pl := by
  have h1 : L.take (k + 1) = L.take k ++ [L.getD k default] := by
    rw [List.take_succ_eq_append_getElem hL]; simp [List.getD_eq_getElem?_getD, hL]
  have h2 : M.take (k + 1) = M.take k ++ [M.getD k default] := by
    rw [List.take_succ_eq_append_getElem hM]; simp [List.getD_eq_getElem?_getD, hM]
  rw [h1, h2, List.map_append, List.map_append, h]
  exact congrArg (fun z => (M.take k).map Mt.pl ++ [z]) he
theorem ms_ne (L M : List Mt) (k : Nat) (hL : k < L.length) (hM : k < M.length) (he : ¬ (L.getD k default).pl = (M.getD k default).pl) : ¬ L.map Mt.pl = M.map Mt.pl := by
  intro h
  apply he
  have h1 := congrArg (fun l => l[k]?) h
  simp only [List.getElem?_map, List.getElem?_eq_getElem hL, List.getElem?_eq_getElem hM, Option.map_some, Option.some.injEq] at h1
  simpa [List.getD_eq_getElem?_getD, hL, hM] using h1
def sameL (L M : List Mt) : Prop := L.map Mt.pl = M.map Mt.pl
set_option maxRecDepth 100000 in
set_option maxHeartbeats 16000000 in
theorem vsameAll (a a' : Option Addr) (n c n' c' : Nat) (L M : List Mt) (w : World) (h1 : Mss w a n L) (h2 : Mss w a' n' M) (V : Bool) (hV : V = true ↔ sameL L M) :
    Calls Try.prog 12 #[.slice a n c, .slice a' n' c'] w fun x w' => x = .returned (.bool V) ∧ Below w.heap.size w w' := by
  have H1 := Lib.hid h1
  have H2 := Lib.hid h2
  have HV := Lib.hid hV
  have hm := h1.hmax
  have HL1 := Lib.hid h1.hlen
  have HL2 := Lib.hid h2.hlen
  clear h1 h2 hV
  by_cases hn : n = n'
  · have hq : ((n : Int) != (n' : Int)) = false := by simp [hn]
    have HN := Lib.hid hn
    clear hn
    go_enter Try.func12, Try.ntmps12
    go_wp2_with fail
    go_loopw [5] (fun i wr => ∃ k : Nat, i = .int .i64 (k : Int) ∧ k ≤ n ∧ Hid ((L.take k).map Mt.pl = (M.take k).map Mt.pl) ∧ Hid (Below w.heap.size w wr)) (fun i _ => n - (intOf i).toNat)
    case atStart => exact ⟨0, rfl, Nat.zero_le _, Lib.hid rfl, Lib.hid (Below.refl _ _)⟩
    case round =>
      obtain ⟨j, rfl, hk, P, B⟩ := hrel
      by_cases hlt : j < n
      · obtain ⟨y1, o1, rfl, hx1, hf1, hen1, hk1⟩ := H1.out.at B.out j hlt
        obtain ⟨y2, o2, rfl, hx2, hf2, hen2, hk2⟩ := H2.out.at B.out j (by rw [← HN.out]; exact hlt)
        have hstep := ms_take_next L M j hk1 hk2 P.out
        have hne := ms_ne L M j hk1 hk2
        obtain ⟨⟨e1, d1, l1⟩, hq1⟩ : ∃ y, L.getD j default = y := ⟨_, rfl⟩
        obtain ⟨⟨e2, d2, l2⟩, hq2⟩ : ∃ y, M.getD j default = y := ⟨_, rfl⟩
        rw [hq1, hq2] at hstep hne
        rw [hq1] at hx1 hf1 hen1
        rw [hq2] at hx2 hf2
        dsimp only at hx1 hf1 hx2 hf2 hen1
        have X1 := Lib.hid hx1
        have X2 := Lib.hid hx2
        have HS := Lib.hid (fun wd (hb : Below wr.heap.size wr wd) => vsame e1 e2 d1 d2 l1 l2 wd (hf1.mono hb) (hf2.mono hb) hen1)
        have g1 : (0 : Int) ≤ (j : Int) := by omega
        have g2 : (j : Int) < (n : Int) := by omega
        have g3 : (j : Int) < (n' : Int) := by have := HN.out; omega
        clear hx1 hx2 hf1 hf2 hq1 hq2 hk1 hk2 hen1 hen2
        obtain ⟨S1, hS1⟩ : ∃ S, e1.cells = S := ⟨_, rfl⟩
        obtain ⟨S2, hS2⟩ : ∃ S, e2.cells = S := ⟨_, rfl⟩
        have HZ1 := Lib.hid (show (Try.prog.info? 25).map (·.size) = some S1.length by rw [← hS1]; exact ms_size)
        have HZ2 := Lib.hid (show (Try.prog.info? 25).map (·.size) = some S2.length by rw [← hS2]; exact ms_size)
        rw [hS1] at X1 HS
        rw [hS2] at X2 HS
        clear hS1 hS2
        go_wp2_with fail
        refine region_h (fun v => Below wr.heap.size wr v) (by kernel_rfl) (by kernel_rfl) (Below.refl _ _).drew ?_
        obtain ⟨wd, hwd⟩ : ∃ wd, wr.drew = wd := ⟨_, rfl⟩
        have D0 : Hid (Below wr.heap.size wr wd) := Lib.hid (by rw [← hwd]; exact (Below.refl _ _).drew)
        rw [hwd]
        clear hwd
        by_cases heq : (Mt.pl (e1, d1, l1)) = (Mt.pl (e2, d2, l2))
        · have HN2 := Lib.hid (hstep heq)
          have SV := Lib.hid (show (Ms.pl e1 d1 l1).same (Ms.pl e2 d2 l2) = true from MF.same_iff.2 heq)
          clear hstep hne heq
          (refine h_read 0 rfl (by kernel_rfl) (by kernel_rfl) (h_free rfl) ?_ ?_ ?_; rotate_left; (focus (intro v hv; go_simp; rfl)); go_simp)
          (refine h_read 1 rfl (by kernel_rfl) (by kernel_rfl) (h_free rfl) ?_ ?_ ?_; rotate_left; (focus (intro v hv; go_simp; rfl)); go_simp)
          (refine h_read 2 rfl (by kernel_rfl) (by kernel_rfl) (h_free rfl) ?_ ?_ ?_; rotate_left; (focus (intro v hv; go_simp; rfl)); go_simp)
          (refine h_read 3 rfl (by kernel_rfl) (by kernel_rfl) (h_free rfl) ?_ ?_ ?_; rotate_left; (focus (intro v hv; refine run_cells 25 (.tmp 19) ?_ y1 (o1 + j * 13) ?_ S1 _ (fun j' u hj => by rw [hv.cell (p := ⟨y1, o1 + j * 13 + j', none⟩) (World.block_lt_of_cell? wr _ (X1.out j' u hj))]; exact X1.out j' u hj) Try.underlying25 rfl HZ1.out; (focus rfl); go_simp)); go_simp)
          (refine h_read 4 rfl (by kernel_rfl) (by kernel_rfl) (h_free rfl) ?_ ?_ ?_; rotate_left; (focus (intro v hv; go_simp; rfl)); go_simp)
          (refine h_read 5 rfl (by kernel_rfl) (by kernel_rfl) (h_free rfl) ?_ ?_ ?_; rotate_left; (focus (intro v hv; go_simp; rfl)); go_simp)
          (refine h_read 6 rfl (by kernel_rfl) (by kernel_rfl) (h_free rfl) ?_ ?_ ?_; rotate_left; (focus (intro v hv; go_simp; rfl)); go_simp)
          (refine h_read 7 rfl (by kernel_rfl) (by kernel_rfl) (h_free rfl) ?_ ?_ ?_; rotate_left; (focus (intro v hv; refine run_cells 25 (.tmp 23) ?_ y2 (o2 + j * 13) ?_ S2 _ (fun j' u hj => by rw [hv.cell (p := ⟨y2, o2 + j * 13 + j', none⟩) (World.block_lt_of_cell? wr _ (X2.out j' u hj))]; exact X2.out j' u hj) Try.underlying25 rfl HZ2.out; (focus rfl); go_simp)); go_simp)
          (refine h_call 8 rfl (by kernel_rfl) (h_free rfl) 10 ?_ ?_ ?_; rotate_left; (focus (go_simp; rfl)))
          refine (HS.out wd D0.out).mono ?_
          rw [SV.out]
          rintro e w5 ⟨rfl, hb5⟩
          have J5 := Lib.hid (D0.out.trans (hb5.mono D0.out.size))
          have B5 := Lib.hid (B.out.trans (J5.out.mono B.out.size))
          clear hb5
          refine ⟨_, rfl, J5.out, ?_⟩
          go_simp
          (refine h_read 9 rfl (by kernel_rfl) (by kernel_rfl) (h_free rfl) ?_ ?_ ?_; rotate_left; (focus (intro v hv; go_simp; rfl)); go_simp)
          refine h_done (by kernel_rfl) ?_
          go_wp2_with fail
          go_roundw
          case rel => exact ⟨j + 1, vint (by omega), by omega, HN2, B5⟩
          case measure => simp [intOf]; omega
        · have HN2 := Lib.hid (hne heq)
          have SV := Lib.hid (show (Ms.pl e1 d1 l1).same (Ms.pl e2 d2 l2) = false from by cases hh : (Ms.pl e1 d1 l1).same (Ms.pl e2 d2 l2) with | false => rfl | true => exact absurd (MF.same_iff.1 hh) heq)
          clear hstep hne heq
          (refine h_read 0 rfl (by kernel_rfl) (by kernel_rfl) (h_free rfl) ?_ ?_ ?_; rotate_left; (focus (intro v hv; go_simp; rfl)); go_simp)
          (refine h_read 1 rfl (by kernel_rfl) (by kernel_rfl) (h_free rfl) ?_ ?_ ?_; rotate_left; (focus (intro v hv; go_simp; rfl)); go_simp)
          (refine h_read 2 rfl (by kernel_rfl) (by kernel_rfl) (h_free rfl) ?_ ?_ ?_; rotate_left; (focus (intro v hv; go_simp; rfl)); go_simp)
          (refine h_read 3 rfl (by kernel_rfl) (by kernel_rfl) (h_free rfl) ?_ ?_ ?_; rotate_left; (focus (intro v hv; refine run_cells 25 (.tmp 19) ?_ y1 (o1 + j * 13) ?_ S1 _ (fun j' u hj => by rw [hv.cell (p := ⟨y1, o1 + j * 13 + j', none⟩) (World.block_lt_of_cell? wr _ (X1.out j' u hj))]; exact X1.out j' u hj) Try.underlying25 rfl HZ1.out; (focus rfl); go_simp)); go_simp)
          (refine h_read 4 rfl (by kernel_rfl) (by kernel_rfl) (h_free rfl) ?_ ?_ ?_; rotate_left; (focus (intro v hv; go_simp; rfl)); go_simp)
          (refine h_read 5 rfl (by kernel_rfl) (by kernel_rfl) (h_free rfl) ?_ ?_ ?_; rotate_left; (focus (intro v hv; go_simp; rfl)); go_simp)
          (refine h_read 6 rfl (by kernel_rfl) (by kernel_rfl) (h_free rfl) ?_ ?_ ?_; rotate_left; (focus (intro v hv; go_simp; rfl)); go_simp)
          (refine h_read 7 rfl (by kernel_rfl) (by kernel_rfl) (h_free rfl) ?_ ?_ ?_; rotate_left; (focus (intro v hv; refine run_cells 25 (.tmp 23) ?_ y2 (o2 + j * 13) ?_ S2 _ (fun j' u hj => by rw [hv.cell (p := ⟨y2, o2 + j * 13 + j', none⟩) (World.block_lt_of_cell? wr _ (X2.out j' u hj))]; exact X2.out j' u hj) Try.underlying25 rfl HZ2.out; (focus rfl); go_simp)); go_simp)
          (refine h_call 8 rfl (by kernel_rfl) (h_free rfl) 10 ?_ ?_ ?_; rotate_left; (focus (go_simp; rfl)))
          refine (HS.out wd D0.out).mono ?_
          rw [SV.out]
          rintro e w5 ⟨rfl, hb5⟩
          have J5 := Lib.hid (D0.out.trans (hb5.mono D0.out.size))
          have B5 := Lib.hid (B.out.trans (J5.out.mono B.out.size))
          clear hb5
          refine ⟨_, rfl, J5.out, ?_⟩
          go_simp
          (refine h_read 9 rfl (by kernel_rfl) (by kernel_rfl) (h_free rfl) ?_ ?_ ?_; rotate_left; (focus (intro v hv; go_simp; rfl)); go_simp)
          refine h_done (by kernel_rfl) ?_
          have HF := Lib.hid (show V = false by cases hh : V with | false => rfl | true => exact absurd (HV.out.1 hh) HN2.out)
          go_wp2_with fail
          go_ret
          exact ⟨one (vbool (by rw [HF.out])), B5.out⟩
      · obtain rfl : n = j := by omega
        have hp := P.out
        rw [List.take_of_length_le (by rw [HL1.out]; exact Nat.le_refl _), List.take_of_length_le (by rw [HL2.out, HN.out]; exact Nat.le_refl _)] at hp
        have HF := Lib.hid (show V = true from HV.out.2 hp)
        go_wp2_with fail
        go_ret
        exact ⟨one (vbool (by rw [HF.out])), B.out⟩
  · have hq : ((n : Int) != (n' : Int)) = true := by simp; omega
    have HF := Lib.hid (show V = false by
      cases hh : V with
      | false => rfl
      | true =>
        have h3 := congrArg List.length (HV.out.1 hh)
        rw [List.length_map, List.length_map, HL1.out, HL2.out] at h3
        exact absurd h3 hn)
    go_enter Try.func12, Try.ntmps12
    go_wp2_with fail
    go_ret
    exact ⟨one (vbool (by rw [HF.out])), Below.refl _ _⟩
end Go.Proofs.Ytdcioeoofngibaa.W
