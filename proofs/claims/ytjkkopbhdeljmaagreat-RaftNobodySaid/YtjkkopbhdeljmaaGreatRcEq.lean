/- LAYER 11 (record): slices.EqualFunc of entries; SameSaved of both. -/
import Derived.Test.YtjkkopbhdeljmaaGreatRcV
import Derived.Test.YtjkkopbhdeljmaaGreatRcX
import Derived.Test.YtjkkopbhdeljmaaGreatEnO
import Derived.Test.YtjkkopbhdeljmaaGreatRcP
set_option linter.unusedSimpArgs false
set_option linter.unusedVariables false
namespace Go.Proofs.YtjkkopbhdeljmaaGreat.W
open Go Go.ChangeShapes Go.WideShapes Go.ChangeAt Go.RowKit

/-- a saved state, without its places -/
structure Ps where
  t : Int
  v : Int
  b : Int
  bt : Int
  f : Int
  d : List UInt8
  l : List (Int × Int × Int × List UInt8)
def Sv.ps (s : Sv) (d : List UInt8) (L : List (En × List UInt8)) : Ps := ⟨s.t, s.v, s.b, s.bt, s.f, d, L.map pe⟩
def Ps.same (a b : Ps) : Bool := (a.t == b.t) && ((a.v == b.v) && ((a.b == b.b) && ((a.bt == b.bt) && ((a.f == b.f) && (decide (a.d = b.d) && decide (a.l = b.l))))))
theorem Ps.same_self (a : Ps) : a.same a = true := by simp [Ps.same]
theorem Ps.same_iff {a b : Ps} : a.same b = true ↔ a = b := by
  obtain ⟨t, v, x, bt, f, d, l⟩ := a
  obtain ⟨t', v', x', bt', f', d', l'⟩ := b
  simp [Ps.same]
theorem same_pe (e f : En) (l m : List UInt8) : sameE e f l m = decide (pe (e, l) = pe (f, m)) := by
  unfold sameE pe
  obtain ⟨ix, tm, kd, a, n, c⟩ := e
  obtain ⟨ix', tm', kd', a', n', c'⟩ := f
  dsimp only
  by_cases h1 : ix = ix' <;> by_cases h2 : tm = tm' <;> by_cases h3 : kd = kd' <;> by_cases h4 : l = m <;> simp [h1, h2, h3, h4]
theorem map_take_next (L M : List (En × List UInt8)) (k : Nat) (hL : k < L.length) (hM : k < M.length) (h : (L.take k).map pe = (M.take k).map pe) (he : pe (L.getD k Ez) = pe (M.getD k Ez)) : (L.take (k + 1)).map pe = (M.take (k + 1)).map pe := by
  have h1 : L.take (k + 1) = L.take k ++ [L.getD k Ez] := by
    rw [List.take_succ_eq_append_getElem hL]; simp [List.getD_eq_getElem?_getD, hL]
  have h2 : M.take (k + 1) = M.take k ++ [M.getD k Ez] := by
    rw [List.take_succ_eq_append_getElem hM]; simp [List.getD_eq_getElem?_getD, hM]
  rw [h1, h2, List.map_append, List.map_append, h]
  exact congrArg (fun z => (M.take k).map pe ++ [z]) he
theorem map_ne (L M : List (En × List UInt8)) (k : Nat) (hL : k < L.length) (hM : k < M.length) (he : ¬ pe (L.getD k Ez) = pe (M.getD k Ez)) : ¬ L.map pe = M.map pe := by
  intro h
  apply he
  have h1 := congrArg (fun l => l[k]?) h
  simp only [List.getElem?_map, List.getElem?_eq_getElem hL, List.getElem?_eq_getElem hM, Option.map_some, Option.some.injEq] at h1
  simpa [List.getD_eq_getElem?_getD, hL, hM] using h1
/-- an entry of a list that came in, in a world that has grown -/
theorem Ents.at {w wr : World} {a : Option Addr} {n c : Nat} {L : List (En × List UInt8)} (h : Ents w a n c L) (hb : Below w.heap.size w wr) (k : Nat) (hk : k < n) :
    ∃ x off, a = some ⟨x, off, none⟩ ∧ (∀ j v, (L.getD k Ez).1.cells[j]? = some v → wr.cell? ⟨x, off + k * 4 + j, none⟩ = some v) ∧ EnF wr (L.getD k Ez).1 (L.getD k Ez).2 ∧ k < L.length := by
  rcases h.hcells with h0 | ⟨x, off, rfl, hx, hcell⟩
  · omega
  have hk2 : k < L.length := by rw [h.hlen]; exact hk
  refine ⟨x, off, rfl, fun j v hj => ?_, ?_, hk2⟩
  · rw [hb.cell (p := ⟨x, off + k * 4 + j, none⟩) hx]; exact hcell k hk j v hj
  · have : L.getD k Ez = L[k] := by simp [List.getD_eq_getElem?_getD, hk2]
    rw [this]
    exact (h.hfit _ (List.getElem_mem hk2)).mono hb
set_option maxRecDepth 100000 in
set_option maxHeartbeats 8000000 in
theorem eqEntsR (a a' : Option Addr) (n c n' c' : Nat) (L M : List (En × List UInt8)) (w : World) (h1 : Ents w a n c L) (h2 : Ents w a' n' c' M) (hl : n ≤ 1000000) :
    Calls Tryz.prog 137 #[.slice a n c, .slice a' n' c', .func (.func 138) #[] #[]] w fun x w' => x = .returned (.bool (decide (L.map pe = M.map pe))) ∧ Below w.heap.size w w' := by
  have H1 := Lib.hid h1
  have H2 := Lib.hid h2
  have HL1 := Lib.hid h1.hlen
  have HL2 := Lib.hid h2.hlen
  have EZ := Lib.hid en_zero
  have ES := Lib.hid en_size
  obtain ⟨V, hV⟩ : ∃ V, decide (L.map pe = M.map pe) = V := ⟨_, rfl⟩
  rw [hV]
  have HV := Lib.hid hV
  clear h1 h2 hV
  by_cases hnn : n = n'
  · subst hnn
    go_enter Tryz.func137, Tryz.ntmps137
    go_wp2_with fail
    go_loopw [17] (fun i wr => ∃ k : Nat, i = .int .i64 (k : Int) ∧ k ≤ n ∧ Hid ((L.take k).map pe = (M.take k).map pe) ∧ Hid (Below w.heap.size w wr)) (fun i _ => n - (intOf i).toNat)
    case atStart => exact ⟨0, rfl, Nat.zero_le _, Lib.hid rfl, Lib.hid (Below.refl _ _)⟩
    case round =>
      obtain ⟨k, rfl, hk, P, B⟩ := hrel
      by_cases hlt : k < n
      · obtain ⟨x1, o1, rfl, hx1, hf1, hk1⟩ := H1.out.at B.out k hlt
        obtain ⟨x2, o2, rfl, hx2, hf2, hk2⟩ := H2.out.at B.out k hlt
        have hstep := map_take_next L M k hk1 hk2 P.out
        have hne := map_ne L M k hk1 hk2
        obtain ⟨⟨e1, l1⟩, hq1⟩ : ∃ y, L.getD k Ez = y := ⟨_, rfl⟩
        obtain ⟨⟨e2, l2⟩, hq2⟩ : ∃ y, M.getD k Ez = y := ⟨_, rfl⟩
        rw [hq1, hq2] at hstep hne
        rw [hq1] at hx1 hf1
        rw [hq2] at hx2 hf2
        dsimp only at hx1 hf1 hx2 hf2
        have X1 := Lib.hid hx1
        have X2 := Lib.hid hx2
        have F1 := Lib.hid hf1
        have F2 := Lib.hid hf2
        have SP := Lib.hid (same_pe e1 e2 l1 l2)
        have g1 : (0 : Int) ≤ (k : Int) := by omega
        have g2 : (k : Int) < (n : Int) := by omega
        clear hx1 hx2 hf1 hf2 hq1 hq2 hk1 hk2
        by_cases heq : pe (e1, l1) = pe (e2, l2)
        · have HN := Lib.hid (hstep heq)
          have SV := Lib.hid (show sameE e1 e2 l1 l2 = true by rw [SP.out]; exact decide_eq_true heq)
          clear hstep hne heq
          go_wp2_with (first
            | ((with_reducible refine load_cells (o := ⟨some 21, _, _, _, _, _⟩) rfl _ _ rfl x1 (o1 + k * 4) ?_ e1.cells _ X1.out Tryz.underlying69 rfl ?_ ?_); (focus go_simp); (focus (exact ES.out)))
            | ((with_reducible refine alloc_row (o := ⟨some 8, _, _, _, _, _⟩) rfl _ rfl _ EZ.out ?_); intro w1 hr hb hz; have A1 := Lib.hid hr; have B1 := Lib.hid hb; clear hr hb hz)
            | ((with_reducible refine store_row (o := ⟨none, _, _, _, _, _⟩) rfl _ (.tmp 8) _ rfl wr.heap.size e1.cells ?_ ?_ 69 _ A1.out ?_ ?_ (cells_one _) ?_); (focus go_simp); (focus (first | (go_simp; done) | (go_simp; rfl))); (focus (exact ES.out)); (focus rfl); intro w2 hr hu; have A2 := Lib.hid hr; have B2 := Lib.hid (B1.out.trans (hu.below (Nat.le_refl _))); clear hr hu)
            | ((with_reducible refine load_cells (o := ⟨some 25, _, _, _, _, _⟩) rfl _ _ rfl x2 (o2 + k * 4) ?_ e2.cells _ (fun j v hj => by rw [B2.out.cell (p := ⟨x2, o2 + k * 4 + j, none⟩) (World.block_lt_of_cell? wr _ (X2.out j v hj))]; exact X2.out j v hj) Tryz.underlying69 rfl ?_ ?_); (focus go_simp); (focus (exact ES.out)))
            | ((with_reducible refine alloc_row (o := ⟨some 9, _, _, _, _, _⟩) rfl _ rfl _ EZ.out ?_); intro w3 hr hb hz; have C3 := Lib.hid hr; have A3 := Lib.hid (A2.out.below hb A2.out.lt); have L3 := Lib.hid (show wr.heap.size < w2.heap.size from A2.out.lt); have B3 := Lib.hid (B2.out.trans (hb.mono B2.out.size)); clear hr hb hz)
            | ((with_reducible refine store_row (o := ⟨none, _, _, _, _, _⟩) rfl _ (.tmp 9) _ rfl w2.heap.size e2.cells ?_ ?_ 69 _ C3.out ?_ ?_ (cells_one _) ?_); (focus go_simp); (focus (first | (go_simp; done) | (go_simp; rfl))); (focus (exact ES.out)); (focus rfl); intro w4 hr hu; have C4 := Lib.hid hr; have A4 := Lib.hid (A3.out.upd hu (Nat.ne_of_lt L3.out)); have B4 := Lib.hid (B3.out.trans (hu.below B2.out.size)); clear hr hu)
            | ((with_reducible refine load_row (o := ⟨some 27, _, _, _, _, _⟩) rfl _ _ rfl wr.heap.size ?_ _ e1.cells _ A4.out Tryz.underlying69 rfl ?_ ?_); (focus go_simp); (focus (exact ES.out)))
            | ((with_reducible refine load_row (o := ⟨some 28, _, _, _, _, _⟩) rfl _ _ rfl w2.heap.size ?_ _ e2.cells _ C4.out Tryz.underlying69 rfl ?_ ?_); (focus go_simp); (focus (exact ES.out)))
            | (go_at_call 138; refine (rsameE e1 e2 l1 l2 w4 (F1.out.rd.mono B4.out) (F2.out.rd.mono B4.out)).mono ?_; rw [SV.out]; rintro e w5 ⟨rfl, hb5⟩; have B5 := Lib.hid ((B.out.trans (B4.out.mono B.out.size)).trans (hb5.mono (Nat.le_trans B.out.size B4.out.size))); clear hb5))
          go_roundw
          case rel => exact ⟨k + 1, vint (by omega), by omega, HN, B5⟩
          case measure => simp [intOf]; omega
        · have HN := Lib.hid (hne heq)
          have SV := Lib.hid (show sameE e1 e2 l1 l2 = false by rw [SP.out]; exact decide_eq_false heq)
          clear hstep hne heq
          go_wp2_with (first
            | ((with_reducible refine load_cells (o := ⟨some 21, _, _, _, _, _⟩) rfl _ _ rfl x1 (o1 + k * 4) ?_ e1.cells _ X1.out Tryz.underlying69 rfl ?_ ?_); (focus go_simp); (focus (exact ES.out)))
            | ((with_reducible refine alloc_row (o := ⟨some 8, _, _, _, _, _⟩) rfl _ rfl _ EZ.out ?_); intro w1 hr hb hz; have A1 := Lib.hid hr; have B1 := Lib.hid hb; clear hr hb hz)
            | ((with_reducible refine store_row (o := ⟨none, _, _, _, _, _⟩) rfl _ (.tmp 8) _ rfl wr.heap.size e1.cells ?_ ?_ 69 _ A1.out ?_ ?_ (cells_one _) ?_); (focus go_simp); (focus (first | (go_simp; done) | (go_simp; rfl))); (focus (exact ES.out)); (focus rfl); intro w2 hr hu; have A2 := Lib.hid hr; have B2 := Lib.hid (B1.out.trans (hu.below (Nat.le_refl _))); clear hr hu)
            | ((with_reducible refine load_cells (o := ⟨some 25, _, _, _, _, _⟩) rfl _ _ rfl x2 (o2 + k * 4) ?_ e2.cells _ (fun j v hj => by rw [B2.out.cell (p := ⟨x2, o2 + k * 4 + j, none⟩) (World.block_lt_of_cell? wr _ (X2.out j v hj))]; exact X2.out j v hj) Tryz.underlying69 rfl ?_ ?_); (focus go_simp); (focus (exact ES.out)))
            | ((with_reducible refine alloc_row (o := ⟨some 9, _, _, _, _, _⟩) rfl _ rfl _ EZ.out ?_); intro w3 hr hb hz; have C3 := Lib.hid hr; have A3 := Lib.hid (A2.out.below hb A2.out.lt); have L3 := Lib.hid (show wr.heap.size < w2.heap.size from A2.out.lt); have B3 := Lib.hid (B2.out.trans (hb.mono B2.out.size)); clear hr hb hz)
            | ((with_reducible refine store_row (o := ⟨none, _, _, _, _, _⟩) rfl _ (.tmp 9) _ rfl w2.heap.size e2.cells ?_ ?_ 69 _ C3.out ?_ ?_ (cells_one _) ?_); (focus go_simp); (focus (first | (go_simp; done) | (go_simp; rfl))); (focus (exact ES.out)); (focus rfl); intro w4 hr hu; have C4 := Lib.hid hr; have A4 := Lib.hid (A3.out.upd hu (Nat.ne_of_lt L3.out)); have B4 := Lib.hid (B3.out.trans (hu.below B2.out.size)); clear hr hu)
            | ((with_reducible refine load_row (o := ⟨some 27, _, _, _, _, _⟩) rfl _ _ rfl wr.heap.size ?_ _ e1.cells _ A4.out Tryz.underlying69 rfl ?_ ?_); (focus go_simp); (focus (exact ES.out)))
            | ((with_reducible refine load_row (o := ⟨some 28, _, _, _, _, _⟩) rfl _ _ rfl w2.heap.size ?_ _ e2.cells _ C4.out Tryz.underlying69 rfl ?_ ?_); (focus go_simp); (focus (exact ES.out)))
            | (go_at_call 138; refine (rsameE e1 e2 l1 l2 w4 (F1.out.rd.mono B4.out) (F2.out.rd.mono B4.out)).mono ?_; rw [SV.out]; rintro e w5 ⟨rfl, hb5⟩; have B5 := Lib.hid ((B.out.trans (B4.out.mono B.out.size)).trans (hb5.mono (Nat.le_trans B.out.size B4.out.size))); clear hb5))
          go_ret
          exact ⟨one (vbool (by rw [← HV.out]; exact (decide_eq_false HN.out).symm)), B5.out⟩
      · obtain rfl : n = k := by omega
        have h9 := P.out
        rw [List.take_of_length_le (by rw [HL1.out]; exact Nat.le_refl _), List.take_of_length_le (by rw [HL2.out]; exact Nat.le_refl _)] at h9
        have P9 := Lib.hid h9
        clear h9
        go_wp2_with fail
        go_ret
        exact ⟨one (vbool (by rw [← HV.out]; exact (decide_eq_true P9.out).symm)), B.out⟩
  · have hne : ((n : Int) == (n' : Int)) = false := by simp; omega
    have HF := Lib.hid (show ¬ L.map pe = M.map pe from fun h => hnn (by have := congrArg List.length h; simp at this; rw [HL1.out, HL2.out] at this; exact this))
    go_enter Tryz.func137, Tryz.ntmps137
    go_wp2_with fail
    go_ret
    exact ⟨one (vbool (by rw [← HV.out]; exact (decide_eq_false HF.out).symm)), Below.refl _ _⟩
end Go.Proofs.YtjkkopbhdeljmaaGreat.W
