/- LAYER 19 (ledger): slices.Grow, slices.Concat of bytes; code, holdCode, lists.Put, Put of the program. -/
import Derived.Test.YtckfggffoohcjaaLdCb
import Derived.Test.YtckfggffoohcjaaLdQ
import Derived.Lib.AppendZerosOnto
set_option linter.unusedSimpArgs false
set_option linter.unusedVariables false
namespace Go.Proofs.Ytckfggffoohcjaa.W
open Go Go.ChangeShapes Go.WideShapes Go.ChangeAt Go.RowKit
open Go.Proofs.Ytckfggffoohcjaa.P (enc dec)
open Go.Proofs.Ytckfggffoohcjaa.S

theorem rd_nil_ld {w : World} : Rd w none 0 0 [] := by
  obtain ⟨a, c, hv, h⟩ := (Fr.nil w 0).form' 0 rfl
  injection hv with e1 e2 e3
  subst e1 e3
  exact h
theorem fr_upd {w w' : World} {base g : Nat} {v : Value} {l : List UInt8} (h : Fr w base v l) (hu : Upd w w' g) (hg : v.ownBlock ≠ some g) : Fr w' base v l := by
  obtain ⟨h1, h2⟩ := h
  refine ⟨h1, ?_⟩
  rcases h2 with h2 | ⟨b, cap, cur, rfl, hb, hh, r⟩
  · exact .inl h2
  · exact .inr ⟨b, cap, cur, rfl, hb, by rw [hu.block b (fun e => hg (by rw [e]; rfl))]; exact hh, r⟩
/-- APPEND of zero bytes onto nothing: a new row -/
theorem append_zb {w : World} {ops : Array Oper} {rest : List Oper} {o : Oper} {a : Act} {Q : Exit → Act → World → Prop} (hgd : o.guard = none) (s x : Operand)
    (ho : o.op = .call { callee := .builtin .append, args := #[s, x], argTypes := #[48, 3] })
    (q : Nat) (X : Int) (hs : a.eval s = .slice none 0 0) (hx : a.eval x = .int .i64 X) (hX : X = (q : Int)) (hq0 : 0 < q) (hmax : q ≤ 1000000000)
    (h : ∀ w' (G : Nat) (cur : Array Value), w'.heap[w.heap.size]? = some (.cells cur 5 (0, 0)) → cur.size = G → q ≤ G → G ≤ maxLen → Below w.heap.size w w' → wpList Try.prog ops Q rest (a.put o.dst (.slice (some ⟨w.heap.size, 0, none⟩) q G)) w') : wpList Try.prog ops Q (o :: rest) a w := by
  subst hX
  obtain ⟨i0, hi, hz0, hz1, hz2⟩ := info_parts infoByte
  have hrun := Lib.run_append_grow_zeros (P := Try.prog) w 48 3 o.type 5 i0 _ .i64 .i64 Try.underlying48 Try.underlying3 hi hz0 none 0 0 [] (by simp [Builtin.firstCells]) q hq0 (by rw [hz1]; decide) (by omega) (by omega) (by rw [hz2]; omega) (growslice_fits (by omega) (by rw [hz2]; omega))
  refine wpList_plain hgd fun K hK => ?_
  unfold Oper.wp
  simp only [Nat.zero_add] at hrun
  simp [execOp, ho, resolve, invoke, builtin, hs, hx, hrun, Result.andThen]
  have hge := grownCap_ge w q 0 5
  have hcm := grownCap_le_maxLen w q 0 5 (by unfold maxLen; omega)
  refine hK _ _ (h _ (grownCap w q 0 5) _ (heap_alloc_new w.drew _) ?_ hge hcm ((Below.refl _ _).drew.alloc (Nat.le_refl _) _))
  simp [size_zeroCells, Value.cells]
  omega
set_option maxRecDepth 100000 in
set_option maxHeartbeats 4000000 in
theorem pgrow (n : Nat) (w : World) (hn : n ≤ 1000000000) : Calls Try.prog 80 #[.slice none 0 0, .int .i64 (n : Int)] w fun x w' => ∃ v, x = .returned v ∧ Fr w' w.heap.size v [] ∧ Below w.heap.size w w' := by
  have h0 : ¬ ((n : Int) < 0) := by omega
  by_cases hz : n = 0
  · subst hz
    go_enter Try.func80, Try.ntmps80
    go_wp2_with fail
    go_ret
    exact ⟨_, rfl, Fr.nil _ _, Below.refl _ _⟩
  · have h1 : (0 : Int) < (n : Int) := by omega
    go_enter Try.func80, Try.ntmps80
    go_wp2_with (at_builtin; refine append_zb rfl _ _ rfl n _ ?_ ?_ rfl (by omega) hn ?_; (focus (first | (go_simp; done) | (go_simp; rfl))); (focus (first | (go_simp; done) | (go_simp; rfl))); intro w1 G cur hc hG hq hm hb; have HC := Lib.hid hc; have HG := Lib.hid hG; have HM := Lib.hid hm; have B1 := Lib.hid hb; clear hc hG hb)
    go_ret
    exact ⟨_, rfl, ⟨rfl, .inr ⟨w.heap.size, G, cur, rfl, Nat.le_refl _, HC.out, by simp, HM.out, by rw [HG.out]; simp, by simp⟩⟩, B1.out⟩
set_option maxRecDepth 100000 in
set_option maxHeartbeats 8000000 in
theorem pconcat2 (g : Nat) (a0 a1 : Option Addr) (m0 c0 m1 c1 : Nat) (S0 S1 : List UInt8) (w : World) (hg : Row w g 48 [.slice a0 m0 c0, .slice a1 m1 c1]) (h0 : Rd w a0 m0 c0 S0) (h1 : Rd w a1 m1 c1 S1) (hb0 : m0 ≤ 400000000) (hb1 : m1 ≤ 400000000) :
    Calls Try.prog 62 #[.slice (some ⟨g, 0, none⟩) 2 2] w fun x w' => ∃ v, x = .returned v ∧ Fr w' w.heap.size v (S0 ++ S1) ∧ Below w.heap.size w w' := by
  have HG := Lib.hid hg
  have H0 := Lib.hid h0
  have H1 := Lib.hid h1
  have L0 := Lib.hid h0.hlen
  have L1 := Lib.hid h1.hlen
  have k0 := hg.cellV 0
  have k1 := hg.cellV 1
  have k0 : w.cell? ⟨g, 0, none⟩ = some (.slice a0 m0 c0) := k0
  have k1 : w.cell? ⟨g, 1, none⟩ = some (.slice a1 m1 c1) := k1
  have HGR := Lib.hid (fun w => pgrow (m0 + m1) w (by omega))
  rw [Int.natCast_add] at HGR
  clear hg h0 h1
  go_enter Try.func62, Try.ntmps62
  go_wp2_with fail
  go_loopw [3, 11] (fun s i wr => wr = w ∧ ((i = .int .i64 0 ∧ s = .int .i64 0) ∨ (i = .int .i64 1 ∧ s = .int .i64 (m0 : Int)) ∨ (i = .int .i64 2 ∧ s = .int .i64 ((m0 : Int) + (m1 : Int))))) (fun _ i _ => 2 - (intOf i).toNat)
  case atStart => exact ⟨rfl, .inl ⟨rfl, rfl⟩⟩
  case round =>
    obtain ⟨rfl, ⟨rfl, rfl⟩ | ⟨rfl, rfl⟩ | ⟨rfl, rfl⟩⟩ := hrel
    all_goals obtain ⟨wo, rfl⟩ : ∃ wo, wo = wr := ⟨_, rfl⟩
    · have g0 : ¬ ((m0 : Int) < 0) := by omega
      go_wp2_with fail
      go_roundw
      case rel => exact ⟨by first | rfl | trivial, .inr (.inl ⟨vint (by omega), vint (by omega)⟩)⟩
      case measure => simp [intOf]
    · have g0 : ¬ ((m0 : Int) + (m1 : Int) < 0) := by omega
      go_wp2_with fail
      go_roundw
      case rel => exact ⟨by first | rfl | trivial, .inr (.inr ⟨vint (by omega), vint (by omega)⟩)⟩
      case measure => simp [intOf]
    · go_wp2_with (first
        | (go_at_call 80; (with_reducible refine (HGR.out _).mono ?_); rintro x w1 ⟨v, rfl, hf, hb⟩; have F1 := Lib.hid hf; have B1 := Lib.hid hb; clear hf hb))
      go_loopw [6, 27] (fun v i wq => Hid (Below wo.heap.size wo wq) ∧ ((i = .int .i64 0 ∧ Hid (Fr wq wo.heap.size v [])) ∨ (i = .int .i64 1 ∧ Hid (Fr wq wo.heap.size v S0)) ∨ (i = .int .i64 2 ∧ Hid (Fr wq wo.heap.size v (S0 ++ S1))))) (fun _ i _ => 2 - (intOf i).toNat)
      case atStart => exact ⟨B1, .inl ⟨rfl, F1⟩⟩
      case round =>
        obtain ⟨B, ⟨rfl, F⟩ | ⟨rfl, F⟩ | ⟨rfl, F⟩⟩ := hrel
        · have q0 := (B.out.cell (p := ⟨g, 0, none⟩) HG.out.lt).trans k0
          have q1 := (B.out.cell (p := ⟨g, 1, none⟩) HG.out.lt).trans k1
          have RD := Lib.hid (H0.out.mono B.out)
          go_wp2_with ((with_reducible refine append_rd (o := ⟨some 33, _, _, _, _, _⟩) rfl _ _ rfl wo.heap.size _ [] ?_ F.out a0 m0 c0 S0 ?_ RD.out ?_ B.out.size ?_); (focus (first | (go_simp; done) | (go_simp; rfl))); (focus (first | (go_simp; done) | (go_simp; rfl))); (focus (simp; omega)); intro v2 w2 hN hb2 _; have N2 := Lib.hid hN; have B2 := Lib.hid (B.out.trans hb2); clear hN hb2)
          go_roundw
          case rel => exact ⟨B2, .inr (.inl ⟨vint (by omega), by simpa using N2⟩)⟩
          case measure => simp [intOf]
        · have q0 := (B.out.cell (p := ⟨g, 0, none⟩) HG.out.lt).trans k0
          have q1 := (B.out.cell (p := ⟨g, 1, none⟩) HG.out.lt).trans k1
          have RD := Lib.hid (H1.out.mono B.out)
          go_wp2_with ((with_reducible refine append_rd (o := ⟨some 33, _, _, _, _, _⟩) rfl _ _ rfl wo.heap.size _ S0 ?_ F.out a1 m1 c1 S1 ?_ RD.out ?_ B.out.size ?_); (focus (first | (go_simp; done) | (go_simp; rfl))); (focus (first | (go_simp; done) | (go_simp; rfl))); (focus (rw [L0.out]; omega)); intro v2 w2 hN hb2 _; have N2 := Lib.hid hN; have B2 := Lib.hid (B.out.trans hb2); clear hN hb2)
          go_roundw
          case rel => exact ⟨B2, .inr (.inr ⟨vint (by omega), N2⟩)⟩
          case measure => simp [intOf]
        · go_wp2_with fail
          go_ret
          exact ⟨_, rfl, F.out, B.out⟩

theorem codeI_snoc (l : List Int) (k : Nat) (n : Int) (h : l[k]? = some n) : codeI (l.take (k + 1)) = codeI (l.take k) ++ enc n.toNat := by
  obtain ⟨h1, h2⟩ := List.getElem?_eq_some_iff.1 h
  unfold codeI
  rw [List.take_succ_eq_append_getElem h1, List.flatMap_append, h2]; simp
set_option maxRecDepth 100000 in
set_option maxHeartbeats 8000000 in
theorem pcode (a : Option Addr) (n c : Nat) (l : List Int) (w : World) (h : Sl .i64 w a n l) (h0 : 0 < n) (h8 : n ≤ 8) :
    Calls Try.prog 64 #[.slice a n c] w fun x w' => ∃ y m d, x = .returned (.slice y m d) ∧ Rd w' y m d (codeI l) ∧ m ≤ 72 ∧ Below w.heap.size w w' := by
  obtain ⟨hl, hmax, hb, hc⟩ := h
  obtain ⟨b, off, rfl, hlt0, hcell⟩ := hc.resolve_left (by omega)
  have HC := Lib.hid hcell
  have HLT := Lib.hid hlt0
  have HL := Lib.hid hl
  have HB := Lib.hid (show ∀ x ∈ l, x ≤ 9223372036854775807 from fun x hx => (bd (hb x hx)).2)
  clear hcell hlt0 hl hb hc
  go_enter Try.func64, Try.ntmps64
  go_wp2_with fail
  go_loopw [3, 8] (fun v i wr => ∃ (k : Nat) (y : Option Addr) (m d : Nat), v = .slice y m d ∧ i = .int .i64 (k : Int) ∧ k ≤ n ∧ m ≤ k * 9 ∧ Hid (Rd wr y m d (codeI (l.take k))) ∧ Hid (Below w.heap.size w wr)) (fun _ i _ => n - (intOf i).toNat)
  case atStart => exact ⟨0, none, 0, 0, rfl, rfl, Nat.zero_le _, Nat.zero_le _, Lib.hid rd_nil_ld, Lib.hid (Below.refl _ _)⟩
  case round =>
    obtain ⟨k, y, m, d, rfl, rfl, hk, hm, R, B⟩ := hrel
    by_cases hlt : k < n
    · have hcell := (B.out.cell (p := ⟨b, off + k, none⟩) HLT.out).trans (HC.out k hlt)
      have hk' : k < l.length := by rw [HL.out]; exact hlt
      have e : l.getD k 0 = l[k] := by simp [hk']
      obtain ⟨x, hx⟩ : ∃ x, l[k] = x := ⟨_, rfl⟩
      rw [e, hx] at hcell
      have hle := HB.out l[k] (List.getElem_mem _)
      rw [hx] at hle
      have hst := codeI_snoc l k x (by rw [List.getElem?_eq_getElem hk', hx])
      have HST := Lib.hid hst
      have he := P.enc_len x.toNat (by omega)
      obtain ⟨q, hq⟩ : ∃ q, m + (enc x.toNat).length = q := ⟨_, rfl⟩
      have hqb : q ≤ (k + 1) * 9 := by omega
      have HN := Lib.hid (pnum y m d x _ wr R.out hle (by omega))
      rw [hq, ← hst] at HN
      have g1 : (0 : Int) ≤ (k : Int) := by omega
      have g2 : (k : Int) < (n : Int) := by omega
      have HQ := Lib.hid (show (codeI (l.take (k + 1))).length = q by rw [hst, List.length_append, R.out.hlen]; exact hq)
      clear e hx hst he hq hk'
      go_wp2_with (go_at_call 81; (with_reducible refine HN.out.mono ?_); rintro z w1 ⟨rfl, hbk, hb, -⟩; have K1 := Lib.hid hbk; have B1 := Lib.hid (B.out.trans (hb.mono B.out.size)); clear hbk hb)
      go_roundw
      case rel => exact ⟨k + 1, _, _, _, rfl, vint (by omega), by omega, hqb, Lib.hid (K1.out.rd' q HQ.out (by omega)), B1⟩
      case measure => simp [intOf]; omega
    · obtain rfl : n = k := by omega
      have ht : l.take n = l := List.take_of_length_le (by rw [HL.out]; exact Nat.le_refl _)
      rw [ht] at R
      go_wp2_with fail
      go_ret
      exact ⟨_, _, _, rfl, R.out, by omega, B.out⟩
set_option maxRecDepth 100000 in
set_option maxHeartbeats 8000000 in
theorem pholdcode (s : Hd) (w : World) (h : s.fit) (hs : s.sp.size ≤ 2000000) :
    Calls Try.prog 65 #[.agg s.cells.toArray] w fun x w' => ∃ y m d, x = .returned (.slice y m d) ∧ Rd w' y m d (codeH s) ∧ m ≤ 2000081 ∧ Below w.heap.size w w' := by
  have hcl := codeH_len h hs
  obtain ⟨i1, i2, i3, i4, i5, sp⟩ := s
  have I1 := Lib.hid (show SI64 i1 from h.id)
  have I2 := Lib.hid (show SI64 i2 from h.cl)
  have I3 := Lib.hid (show SI64 i3 from h.by')
  have I4 := Lib.hid (show SI64 i4 from h.un)
  have I5 := Lib.hid (show SI64 i5 from h.ti)
  have hs : sp.size ≤ 2000000 := hs
  have HCH := Lib.hid (show codeI [i1, i2, i3, i4, i5] ++ (enc sp.size ++ sp.data.toList) = codeH ⟨i1, i2, i3, i4, i5, sp⟩ from rfl)
  obtain ⟨C, hC⟩ : ∃ C, codeH ⟨i1, i2, i3, i4, i5, sp⟩ = C := ⟨_, rfl⟩
  rw [hC] at HCH hcl ⊢
  obtain ⟨D, hD⟩ : ∃ D, codeI [i1, i2, i3, i4, i5] = D := ⟨_, rfl⟩
  rw [hD] at HCH
  have HD := Lib.hid hD
  clear h hC hD
  rw [show (Hd.cells ⟨i1, i2, i3, i4, i5, sp⟩) = [.int .i64 i1, .int .i64 i2, .int .i64 i3, .int .i64 i4, .int .i64 i5, .string sp] from rfl]
  go_enter Try.func65, Try.ntmps65
  go_wp2_with (first
    | (with_reducible refine box_row (o := ⟨some 1, _, _, _, _, _⟩) rfl _ _ rfl [.int .i64 i1, .int .i64 i2, .int .i64 i3, .int .i64 i4, .int .i64 i5, .string sp] rfl ?_; intro w1 hr1 hb1 hz1; have R1 := Lib.hid hr1; obtain ⟨c0, c1, c2, c3, c4, c5⟩ := hr1.h6; have C0 := Lib.hid c0; have C1 := Lib.hid c1; have C2 := Lib.hid c2; have C3 := Lib.hid c3; have C4 := Lib.hid c4; have C5 := Lib.hid c5; have B1 := Lib.hid hb1; clear hr1 hb1 hz1 c0 c1 c2 c3 c4 c5))
  refine region_h (fun v => Below w1.heap.size w1 v) (by kernel_rfl) (by kernel_rfl) (Below.refl _ _).drew ?_
  obtain ⟨wd, hwd⟩ : ∃ wd, w1.drew = wd := ⟨_, rfl⟩
  have Jwd : Hid (Below w1.heap.size w1 wd) := Lib.hid (by rw [← hwd]; exact (Below.refl _ _).drew)
  rw [hwd]
  clear hwd
  (refine h_read 0 rfl (by kernel_rfl) (by kernel_rfl) (h_free rfl) ?_ ?_ ?_; rotate_left; (focus (intro v hv; go_simp; rfl)); go_simp)
  (refine h_read 1 rfl (by kernel_rfl) (by kernel_rfl) (h_free rfl) ?_ ?_ ?_; rotate_left; (focus (intro v hv; have x0 := (hv.cell (p := ⟨w.heap.size, 0, none⟩) R1.out.lt).trans C0.out; have x1 := (hv.cell (p := ⟨w.heap.size, 1, none⟩) R1.out.lt).trans C1.out; have x2 := (hv.cell (p := ⟨w.heap.size, 2, none⟩) R1.out.lt).trans C2.out; have x3 := (hv.cell (p := ⟨w.heap.size, 3, none⟩) R1.out.lt).trans C3.out; have x4 := (hv.cell (p := ⟨w.heap.size, 4, none⟩) R1.out.lt).trans C4.out; have x5 := (hv.cell (p := ⟨w.heap.size, 5, none⟩) R1.out.lt).trans C5.out; go_simp; rfl)); go_simp)
  (refine h_read 2 rfl (by kernel_rfl) (by kernel_rfl) (h_free rfl) ?_ ?_ ?_; rotate_left; (focus (intro v hv; go_simp; rfl)); go_simp)
  (refine h_read 3 rfl (by kernel_rfl) (by kernel_rfl) (h_free rfl) ?_ ?_ ?_; rotate_left; (focus (intro v hv; have x0 := (hv.cell (p := ⟨w.heap.size, 0, none⟩) R1.out.lt).trans C0.out; have x1 := (hv.cell (p := ⟨w.heap.size, 1, none⟩) R1.out.lt).trans C1.out; have x2 := (hv.cell (p := ⟨w.heap.size, 2, none⟩) R1.out.lt).trans C2.out; have x3 := (hv.cell (p := ⟨w.heap.size, 3, none⟩) R1.out.lt).trans C3.out; have x4 := (hv.cell (p := ⟨w.heap.size, 4, none⟩) R1.out.lt).trans C4.out; have x5 := (hv.cell (p := ⟨w.heap.size, 5, none⟩) R1.out.lt).trans C5.out; go_simp; rfl)); go_simp)
  (refine h_read 4 rfl (by kernel_rfl) (by kernel_rfl) (h_free rfl) ?_ ?_ ?_; rotate_left; (focus (intro v hv; go_simp; rfl)); go_simp)
  (refine h_read 5 rfl (by kernel_rfl) (by kernel_rfl) (h_free rfl) ?_ ?_ ?_; rotate_left; (focus (intro v hv; have x0 := (hv.cell (p := ⟨w.heap.size, 0, none⟩) R1.out.lt).trans C0.out; have x1 := (hv.cell (p := ⟨w.heap.size, 1, none⟩) R1.out.lt).trans C1.out; have x2 := (hv.cell (p := ⟨w.heap.size, 2, none⟩) R1.out.lt).trans C2.out; have x3 := (hv.cell (p := ⟨w.heap.size, 3, none⟩) R1.out.lt).trans C3.out; have x4 := (hv.cell (p := ⟨w.heap.size, 4, none⟩) R1.out.lt).trans C4.out; have x5 := (hv.cell (p := ⟨w.heap.size, 5, none⟩) R1.out.lt).trans C5.out; go_simp; rfl)); go_simp)
  (refine h_read 6 rfl (by kernel_rfl) (by kernel_rfl) (h_free rfl) ?_ ?_ ?_; rotate_left; (focus (intro v hv; go_simp; rfl)); go_simp)
  (refine h_read 7 rfl (by kernel_rfl) (by kernel_rfl) (h_free rfl) ?_ ?_ ?_; rotate_left; (focus (intro v hv; have x0 := (hv.cell (p := ⟨w.heap.size, 0, none⟩) R1.out.lt).trans C0.out; have x1 := (hv.cell (p := ⟨w.heap.size, 1, none⟩) R1.out.lt).trans C1.out; have x2 := (hv.cell (p := ⟨w.heap.size, 2, none⟩) R1.out.lt).trans C2.out; have x3 := (hv.cell (p := ⟨w.heap.size, 3, none⟩) R1.out.lt).trans C3.out; have x4 := (hv.cell (p := ⟨w.heap.size, 4, none⟩) R1.out.lt).trans C4.out; have x5 := (hv.cell (p := ⟨w.heap.size, 5, none⟩) R1.out.lt).trans C5.out; go_simp; rfl)); go_simp)
  (refine h_read 8 rfl (by kernel_rfl) (by kernel_rfl) (h_free rfl) ?_ ?_ ?_; rotate_left; (focus (intro v hv; go_simp; rfl)); go_simp)
  (refine h_read 9 rfl (by kernel_rfl) (by kernel_rfl) (h_free rfl) ?_ ?_ ?_; rotate_left; (focus (intro v hv; have x0 := (hv.cell (p := ⟨w.heap.size, 0, none⟩) R1.out.lt).trans C0.out; have x1 := (hv.cell (p := ⟨w.heap.size, 1, none⟩) R1.out.lt).trans C1.out; have x2 := (hv.cell (p := ⟨w.heap.size, 2, none⟩) R1.out.lt).trans C2.out; have x3 := (hv.cell (p := ⟨w.heap.size, 3, none⟩) R1.out.lt).trans C3.out; have x4 := (hv.cell (p := ⟨w.heap.size, 4, none⟩) R1.out.lt).trans C4.out; have x5 := (hv.cell (p := ⟨w.heap.size, 5, none⟩) R1.out.lt).trans C5.out; go_simp; rfl)); go_simp)
  (refine h_read 12 rfl (by kernel_rfl) (by kernel_rfl) (h_free rfl) ?_ ?_ ?_; rotate_left; (focus (intro v hv; go_simp; rfl)); go_simp)
  (refine h_read 13 rfl (by kernel_rfl) (by kernel_rfl) (h_free rfl) ?_ ?_ ?_; rotate_left; (focus (intro v hv; have x0 := (hv.cell (p := ⟨w.heap.size, 0, none⟩) R1.out.lt).trans C0.out; have x1 := (hv.cell (p := ⟨w.heap.size, 1, none⟩) R1.out.lt).trans C1.out; have x2 := (hv.cell (p := ⟨w.heap.size, 2, none⟩) R1.out.lt).trans C2.out; have x3 := (hv.cell (p := ⟨w.heap.size, 3, none⟩) R1.out.lt).trans C3.out; have x4 := (hv.cell (p := ⟨w.heap.size, 4, none⟩) R1.out.lt).trans C4.out; have x5 := (hv.cell (p := ⟨w.heap.size, 5, none⟩) R1.out.lt).trans C5.out; go_simp; rfl)); go_simp)
  (refine h_list 10 rfl (by kernel_rfl) ?_; intro K hK)
  refine bi5 rfl _ _ _ _ _ rfl i1 i2 i3 i4 i5 (by go_simp; first | done | rfl) (by go_simp; first | done | rfl) (by go_simp; first | done | rfl) (by go_simp; first | done | rfl) (by go_simp; first | done | rfl) I1.out I2.out I3.out I4.out I5.out ?_
  intro w2 hsl hb hz
  have SL := Lib.hid hsl
  have J2 := Lib.hid (Jwd.out.trans (hb.mono Jwd.out.size))
  clear hsl hb hz
  refine hK _ _ J2.out ?_
  go_simp
  (refine h_call 11 rfl (by kernel_rfl) (h_free rfl) 64 ?_ ?_ ?_; rotate_left; (focus (go_simp; rfl)))
  refine (pcode _ 5 5 [i1, i2, i3, i4, i5] w2 SL.out (by decide) (by decide)).mono ?_
  rw [HD.out]
  rintro z w3 ⟨y, m, d, rfl, hrd, hm, hb⟩
  have R3 := Lib.hid hrd
  have J3 := Lib.hid (J2.out.trans (hb.mono J2.out.size))
  clear hrd hb
  refine ⟨_, rfl, J3.out, ?_⟩
  go_simp
  (refine h_call 14 rfl (by kernel_rfl) (h_free rfl) 82 ?_ ?_ ?_; rotate_left; (focus (go_simp; rfl)))
  refine (ptext y m d sp D w3 R3.out (by omega) (by omega)).mono ?_
  rw [HCH.out]
  rintro z w4 ⟨rfl, hbk, hb, -⟩
  have K4 := Lib.hid hbk
  have J4 := Lib.hid (J3.out.trans (hb.mono J3.out.size))
  clear hbk hb
  refine ⟨_, rfl, J4.out, ?_⟩
  go_simp
  (refine h_read 15 rfl (by kernel_rfl) (by kernel_rfl) (h_free rfl) ?_ ?_ ?_; rotate_left; (focus (intro v hv; go_simp; rfl)); go_simp)
  refine h_done (by kernel_rfl) ?_
  have he := P.enc_len sp.size (by omega)
  have hlen : C.length = m + ((enc sp.size).length + sp.size) := by
    rw [← HCH.out, List.length_append, List.length_append, R3.out.hlen]; rfl
  go_wp2_with fail
  go_ret
  exact ⟨_, _, _, rfl, K4.out.rd' _ hlen (by omega), by omega, B1.out.trans (J4.out.mono B1.out.size)⟩
set_option maxRecDepth 100000 in
set_option maxHeartbeats 16000000 in
theorem plsput (a0 : Option Addr) (m0 c0 : Nat) (S : List UInt8) (a : Option Addr) (n c : Nat) (L : List Hd) (w : World) (hr : Rd w a0 m0 c0 S) (hm0 : m0 ≤ 1000) (h : Ls hdE w a n c L) (hn : n ≤ 100) (hnm : ∀ s ∈ L, s.sp.size ≤ 2000000) :
    Calls Try.prog 63 #[.slice a0 m0 c0, .slice a n c, .func (.func 65) #[] #[]] w fun x w' => ∃ y m d, x = .returned (.slice y m d) ∧ Rd w' y m d (S ++ (enc n ++ L.flatMap codeH)) ∧ m ≤ 300000000 ∧ Below w.heap.size w w' := by
  have H := Lib.hid h
  have HL := Lib.hid h.hlen
  have hm := h.hmax
  have hle := h.hle
  have HSZ := Lib.hid hd_size
  have MZ := Lib.hid hd_zero
  have HB := Lib.hid (fun k => codeH_all (L.take k) (fun s hs => ⟨h.hfit s (List.mem_of_mem_take hs), hnm s (List.mem_of_mem_take hs)⟩))
  have HNM := Lib.hid hnm
  have he := P.enc_len n (by omega)
  obtain ⟨T, hT⟩ : ∃ T, S ++ enc n = T := ⟨_, rfl⟩
  obtain ⟨q, hq⟩ : ∃ q, m0 + (enc n).length = q := ⟨_, rfl⟩
  have hTq : T.length = q := by rw [← hT, List.length_append, hr.hlen]; exact hq
  have hqb : q ≤ 1009 := by omega
  have HN := Lib.hid (pnum a0 m0 c0 (n : Int) S w hr (by omega) (by omega))
  rw [Int.toNat_natCast, hT, hq] at HN
  have HTQ := Lib.hid hTq
  rw [show S ++ (enc n ++ L.flatMap codeH) = T ++ L.flatMap codeH by rw [← hT]; simp]
  clear h hr hnm hT hTq he hq
  go_enter Try.func63, Try.ntmps63
  go_wp2_with (go_at_call 81; (with_reducible refine HN.out.mono ?_); rintro z w1 ⟨rfl, hbk, hb, -⟩; have F1 := Lib.hid (show Fr w1 w.heap.size (.slice (some ⟨w.heap.size, 0, none⟩) q q) T by have := hbk.fr (base := w.heap.size) (Nat.le_refl _) (by rw [HTQ.out]; omega); rw [HTQ.out] at this; exact this); have B1 := Lib.hid hb; clear hbk hb)
  go_loopw [7, 16] (fun v i wr => ∃ (k : Nat) (y : Option Addr) (m d : Nat), v = .slice y m d ∧ i = .int .i64 (k : Int) ∧ k ≤ n ∧ Hid (Fr wr w.heap.size (.slice y m d) (T ++ (L.take k).flatMap codeH)) ∧ Hid (Below w.heap.size w wr)) (fun _ i _ => n - (intOf i).toNat)
  case atStart => exact ⟨0, _, _, _, rfl, rfl, Nat.zero_le _, Lib.hid (by simpa using F1.out), B1⟩
  case round =>
    obtain ⟨k, y, m, d, rfl, rfl, hk, F, B⟩ := hrel
    have hbl := HB.out k
    have hlk : (L.take k).length ≤ 100 := by rw [List.length_take]; omega
    have hcur : (T ++ (L.take k).flatMap codeH).length ≤ 250000000 := by
      rw [List.length_append, HTQ.out]; have : (L.take k).length * 2000054 ≤ 100 * 2000054 := Nat.mul_le_mul_right _ hlk; omega
    by_cases hlt : k < n
    · obtain ⟨b, o, s, rfl, hx, hcell, hfs⟩ := H.out.at hdOk B.out k hlt
      have hmem : s ∈ L := by
        obtain ⟨h1, h2⟩ := List.getElem?_eq_some_iff.1 hx
        rw [← h2]; exact List.getElem_mem h1
      have HCD := Lib.hid (fun w => pholdcode s w hfs (HNM.out s hmem))
      have HST := Lib.hid (show T ++ (L.take (k + 1)).flatMap codeH = (T ++ (L.take k).flatMap codeH) ++ codeH s by rw [codeH_step L k s hx]; simp)
      obtain ⟨U, hU⟩ : ∃ U, T ++ (L.take k).flatMap codeH = U := ⟨_, rfl⟩
      rw [hU] at F hcur HST
      obtain ⟨i1, i2, i3, i4, i5, sp⟩ := s
      have XC := Lib.hid hcell
      have HUB := Lib.hid hcur
      have g1 : (0 : Int) ≤ (k : Int) := by omega
      have g2 : (k : Int) < (n : Int) := by omega
      clear hx hcell hfs hmem hU hbl hlk hcur
      go_wp2_with (first
        | ((with_reducible refine load_cells (o := ⟨some 19, _, _, _, _, _⟩) rfl _ _ rfl b (o + k * 6) ?_ [.int .i64 i1, .int .i64 i2, .int .i64 i3, .int .i64 i4, .int .i64 i5, .string sp] _ XC.out Try.underlying26 rfl ?_ ?_); (focus go_simp); (focus (exact HSZ.out)))
        | ((with_reducible refine alloc_row (o := ⟨some 9, _, _, _, _, _⟩) rfl _ rfl _ MZ.out ?_); intro w5 hr hb hz; have X5 := Lib.hid hr; have F5 := Lib.hid (F.out.kept hb); have NO := Lib.hid (show (Value.slice y m d).ownBlock ≠ some wr.heap.size from fun e => Nat.lt_irrefl _ (World.ownsRow.lt F.out _ e).2); have B5 := Lib.hid (B.out.trans (hb.mono B.out.size)); clear hr hb hz)
        | ((with_reducible refine store_row (o := ⟨none, _, _, _, _, _⟩) rfl _ (.tmp 9) _ rfl wr.heap.size [.int .i64 i1, .int .i64 i2, .int .i64 i3, .int .i64 i4, .int .i64 i5, .string sp] ?_ ?_ 26 _ X5.out ?_ ?_ ?_ ?_); (focus go_simp); (focus (first | (go_simp; done) | (go_simp; rfl))); (focus (exact HSZ.out)); (focus rfl); (focus (exact hd_one ⟨i1, i2, i3, i4, i5, sp⟩)); intro w6 hr hu; have X6 := Lib.hid hr; have F6 := Lib.hid (fr_upd F5.out hu NO.out); have B6 := Lib.hid (B5.out.trans (hu.below B.out.size)); clear hr hu)
        | ((with_reducible refine load_row (o := ⟨some 22, _, _, _, _, _⟩) rfl _ _ rfl wr.heap.size ?_ _ [.int .i64 i1, .int .i64 i2, .int .i64 i3, .int .i64 i4, .int .i64 i5, .string sp] _ X6.out Try.underlying26 rfl ?_ ?_); (focus go_simp); (focus (exact HSZ.out)))
        | (go_at_call 65; (with_reducible refine (HCD.out w6).mono ?_); rintro z w7 ⟨y7, m7, d7, rfl, hrd, hm7, hb⟩; have R7 := Lib.hid hrd; have HM7 := Lib.hid hm7; have F7 := Lib.hid (F6.out.kept hb); have B7 := Lib.hid (B6.out.trans (hb.mono B6.out.size)); clear hrd hb hm7)
        | ((with_reducible refine append_rd (o := ⟨some 24, _, _, _, _, _⟩) rfl _ _ rfl w.heap.size _ U ?_ F7.out y7 m7 d7 _ ?_ R7.out ?_ B7.out.size ?_); (focus (first | (go_simp; done) | (go_simp; rfl))); (focus (first | (go_simp; done) | (go_simp; rfl))); (focus (have := HUB.out; have := HM7.out; omega)); intro v8 w8 hN hb2 _; rw [← HST.out] at hN; obtain ⟨q8, hq8⟩ : ∃ q, (T ++ (L.take (k + 1)).flatMap codeH).length = q := ⟨_, rfl⟩; obtain ⟨y8, d8, rfl, -⟩ := hN.form' q8 hq8; have F8 := Lib.hid hN; have B8 := Lib.hid (B7.out.trans hb2); clear hN hb2 hq8))
      go_roundw
      case rel => exact ⟨k + 1, _, _, _, rfl, vint (by omega), by omega, F8, B8⟩
      case measure => simp [intOf]; omega
    · obtain rfl : n = k := by omega
      have ht : L.take n = L := List.take_of_length_le (by rw [HL.out]; exact Nat.le_refl _)
      rw [ht] at F hcur
      obtain ⟨u, hu⟩ : ∃ u, (T ++ L.flatMap codeH).length = u := ⟨_, rfl⟩
      obtain ⟨y', d', hv, hrd⟩ := F.out.form' u hu
      obtain ⟨rfl, rfl, rfl⟩ : y = y' ∧ m = u ∧ d = d' := by injection hv with e1 e2 e3; exact ⟨e1, e2, e3⟩
      have RX := Lib.hid hrd
      have hmb : m ≤ 250000000 := by rw [← hu]; exact hcur
      clear hv hrd hu ht hbl hlk hcur
      go_wp2_with fail
      go_ret
      exact ⟨_, _, _, rfl, RX.out, by omega, B.out⟩
theorem infoBss : (Try.prog.info? 48).map (fun i => (i.zero, i.size, i.bytes)) = some (some (.slice none 0 0), 1, 24) := by kernel_rfl
set_option maxRecDepth 100000 in
theorem bss2 {w : World} {ops : Array Oper} {rest : List Oper} {o : Oper} {a : Act} {Q : Exit → Act → World → Prop} (hgd : o.guard = none) (x y : Operand)
    (ho : o.op = .buildSlice 98 2 #[(0, x), (1, y)]) (a0 a1 : Option Addr) (m0 c0 m1 c1 : Nat) (hx : a.eval x = .slice a0 m0 c0) (hy : a.eval y = .slice a1 m1 c1)
    (hk : ∀ w', Row w' w.heap.size 48 [.slice a0 m0 c0, .slice a1 m1 c1] → Below w.heap.size w w' → w'.heap.size = w.heap.size + 1 → wpList Try.prog ops Q rest (a.put o.dst (.slice (some ⟨w.heap.size, 0, none⟩) 2 2)) w') : wpList Try.prog ops Q (o :: rest) a w := by
  obtain ⟨i0, hi0, hz0, hz1, hz2⟩ := info_parts infoBss
  refine wpList_buildSlice hgd 98 48 2 _ ho #[.slice a0 m0 c0, .slice a1 m1 c1] i0 _ Try.underlying98 hi0 hz0 (by rw [hz1]; decide) (by rw [hz1]; decide) (by rw [hz1]; simp only [List.map_toArray, List.map_cons, List.map_nil, hx, hy]; go_simp; first | done | rfl) ?_
  exact hk _ (Row.new w 48 [.slice a0 m0 c0, .slice a1 m1 c1]) ((Below.refl _ _).alloc (Nat.le_refl _) _) (by simp)
set_option maxRecDepth 100000 in
set_option maxHeartbeats 16000000 in
theorem pput (a0 : Option Addr) (m0 c0 : Nat) (S : List UInt8) (q u h' nx : Int) (a : Option Addr) (n c : Nat) (L : List Hd) (w : World) (hr : Rd w a0 m0 c0 S) (hm0 : m0 ≤ 2000000) (h : Ls hdE w a n c L) (hn : n ≤ 100) (hnm : ∀ s ∈ L, s.sp.size ≤ 2000000) (iq : SI64 q) (iu : SI64 u) (ih : SI64 h') (ix : SI64 nx) :
    Calls Try.prog 24 #[.slice a0 m0 c0, .agg (ldC q u h' nx a n c).toArray] w fun x w' => ∃ v, x = .returned v ∧ Fr w' w.heap.size v (S ++ putLd ⟨q, u, h', nx, L⟩) ∧ Below w.heap.size w w' := by
  have H := Lib.hid h
  have HR := Lib.hid hr
  have HNM := Lib.hid hnm
  have HL := Lib.hid h.hlen
  have I1 := Lib.hid iq
  have I2 := Lib.hid iu
  have I3 := Lib.hid ih
  have I4 := Lib.hid ix
  obtain ⟨D, hD⟩ : ∃ D, codeI [q, u, h', nx] = D := ⟨_, rfl⟩
  have HD := Lib.hid hD
  rw [show S ++ putLd ⟨q, u, h', nx, L⟩ = S ++ (D ++ (enc n ++ L.flatMap codeH)) by rw [← hD]; unfold putLd; rw [h.hlen]]
  clear h hr hnm iq iu ih ix hD
  go_enter Try.func24, Try.ntmps24
  go_wp2_with (first
    | ((with_reducible refine box_row (o := ⟨some 3, _, _, _, _, _⟩) rfl _ _ rfl (ldC q u h' nx a n c) rfl ?_); intro w1 hr hb hz; have R1 := Lib.hid hr; have B1 := Lib.hid hb; obtain ⟨c0', c1, c2, c3, c4⟩ := hr.l5; have C0 := Lib.hid c0'; have C1 := Lib.hid c1; have C2 := Lib.hid c2; have C3 := Lib.hid c3; have C4 := Lib.hid c4; clear hr hb hz c0' c1 c2 c3 c4))
  refine region_h (fun v => Below w1.heap.size w1 v) (by kernel_rfl) (by kernel_rfl) (Below.refl _ _).drew ?_
  obtain ⟨wd, hwd⟩ : ∃ wd, w1.drew = wd := ⟨_, rfl⟩
  have Jwd : Hid (Below w1.heap.size w1 wd) := Lib.hid (by rw [← hwd]; exact (Below.refl _ _).drew)
  rw [hwd]
  clear hwd
  (refine h_read 0 rfl (by kernel_rfl) (by kernel_rfl) (h_free rfl) ?_ ?_ ?_; rotate_left; (focus (intro v hv; go_simp; rfl)); go_simp)
  (refine h_read 1 rfl (by kernel_rfl) (by kernel_rfl) (h_free rfl) ?_ ?_ ?_; rotate_left; (focus (intro v hv; go_simp; rfl)); go_simp)
  (refine h_read 2 rfl (by kernel_rfl) (by kernel_rfl) (h_free rfl) ?_ ?_ ?_; rotate_left; (focus (intro v hv; have x0 := (hv.cell (p := ⟨w.heap.size, 0, none⟩) R1.out.lt).trans C0.out; have x1 := (hv.cell (p := ⟨w.heap.size, 1, none⟩) R1.out.lt).trans C1.out; have x2 := (hv.cell (p := ⟨w.heap.size, 2, none⟩) R1.out.lt).trans C2.out; have x3 := (hv.cell (p := ⟨w.heap.size, 3, none⟩) R1.out.lt).trans C3.out; have x4 := (hv.cell (p := ⟨w.heap.size, 4, none⟩) R1.out.lt).trans C4.out; go_simp; rfl)); go_simp)
  (refine h_read 3 rfl (by kernel_rfl) (by kernel_rfl) (h_free rfl) ?_ ?_ ?_; rotate_left; (focus (intro v hv; go_simp; rfl)); go_simp)
  (refine h_read 4 rfl (by kernel_rfl) (by kernel_rfl) (h_free rfl) ?_ ?_ ?_; rotate_left; (focus (intro v hv; have x0 := (hv.cell (p := ⟨w.heap.size, 0, none⟩) R1.out.lt).trans C0.out; have x1 := (hv.cell (p := ⟨w.heap.size, 1, none⟩) R1.out.lt).trans C1.out; have x2 := (hv.cell (p := ⟨w.heap.size, 2, none⟩) R1.out.lt).trans C2.out; have x3 := (hv.cell (p := ⟨w.heap.size, 3, none⟩) R1.out.lt).trans C3.out; have x4 := (hv.cell (p := ⟨w.heap.size, 4, none⟩) R1.out.lt).trans C4.out; go_simp; rfl)); go_simp)
  (refine h_read 5 rfl (by kernel_rfl) (by kernel_rfl) (h_free rfl) ?_ ?_ ?_; rotate_left; (focus (intro v hv; go_simp; rfl)); go_simp)
  (refine h_read 6 rfl (by kernel_rfl) (by kernel_rfl) (h_free rfl) ?_ ?_ ?_; rotate_left; (focus (intro v hv; have x0 := (hv.cell (p := ⟨w.heap.size, 0, none⟩) R1.out.lt).trans C0.out; have x1 := (hv.cell (p := ⟨w.heap.size, 1, none⟩) R1.out.lt).trans C1.out; have x2 := (hv.cell (p := ⟨w.heap.size, 2, none⟩) R1.out.lt).trans C2.out; have x3 := (hv.cell (p := ⟨w.heap.size, 3, none⟩) R1.out.lt).trans C3.out; have x4 := (hv.cell (p := ⟨w.heap.size, 4, none⟩) R1.out.lt).trans C4.out; go_simp; rfl)); go_simp)
  (refine h_read 7 rfl (by kernel_rfl) (by kernel_rfl) (h_free rfl) ?_ ?_ ?_; rotate_left; (focus (intro v hv; go_simp; rfl)); go_simp)
  (refine h_read 8 rfl (by kernel_rfl) (by kernel_rfl) (h_free rfl) ?_ ?_ ?_; rotate_left; (focus (intro v hv; have x0 := (hv.cell (p := ⟨w.heap.size, 0, none⟩) R1.out.lt).trans C0.out; have x1 := (hv.cell (p := ⟨w.heap.size, 1, none⟩) R1.out.lt).trans C1.out; have x2 := (hv.cell (p := ⟨w.heap.size, 2, none⟩) R1.out.lt).trans C2.out; have x3 := (hv.cell (p := ⟨w.heap.size, 3, none⟩) R1.out.lt).trans C3.out; have x4 := (hv.cell (p := ⟨w.heap.size, 4, none⟩) R1.out.lt).trans C4.out; go_simp; rfl)); go_simp)
  (refine h_read 11 rfl (by kernel_rfl) (by kernel_rfl) (h_free rfl) ?_ ?_ ?_; rotate_left; (focus (intro v hv; go_simp; rfl)); go_simp)
  (refine h_read 12 rfl (by kernel_rfl) (by kernel_rfl) (h_free rfl) ?_ ?_ ?_; rotate_left; (focus (intro v hv; have x0 := (hv.cell (p := ⟨w.heap.size, 0, none⟩) R1.out.lt).trans C0.out; have x1 := (hv.cell (p := ⟨w.heap.size, 1, none⟩) R1.out.lt).trans C1.out; have x2 := (hv.cell (p := ⟨w.heap.size, 2, none⟩) R1.out.lt).trans C2.out; have x3 := (hv.cell (p := ⟨w.heap.size, 3, none⟩) R1.out.lt).trans C3.out; have x4 := (hv.cell (p := ⟨w.heap.size, 4, none⟩) R1.out.lt).trans C4.out; go_simp; rfl)); go_simp)
  (refine h_list 9 rfl (by kernel_rfl) ?_; intro K hK)
  refine bi4 rfl _ _ _ _ rfl q u h' nx (by go_simp; first | done | rfl) (by go_simp; first | done | rfl) (by go_simp; first | done | rfl) (by go_simp; first | done | rfl) I1.out I2.out I3.out I4.out ?_
  intro w2 hsl hb hz
  have SL := Lib.hid hsl
  have J2 := Lib.hid (Jwd.out.trans (hb.mono Jwd.out.size))
  clear hsl hb hz
  refine hK _ _ J2.out ?_
  go_simp
  (refine h_call 10 rfl (by kernel_rfl) (h_free rfl) 64 ?_ ?_ ?_; rotate_left; (focus (go_simp; rfl)))
  refine (pcode _ 4 4 [q, u, h', nx] w2 SL.out (by decide) (by decide)).mono ?_
  rw [HD.out]
  rintro z w3 ⟨y3, m3, d3, rfl, hrd, hm3, hb⟩
  have R3 := Lib.hid hrd
  have J3 := Lib.hid (J2.out.trans (hb.mono J2.out.size))
  clear hrd hb
  refine ⟨_, rfl, J3.out, ?_⟩
  go_simp
  (refine h_call 13 rfl (by kernel_rfl) (h_free rfl) 63 ?_ ?_ ?_; rotate_left; (focus (go_simp; rfl)))
  refine (plsput y3 m3 d3 D a n c L w3 R3.out (by omega) (H.out.mono hdOk (B1.out.trans (J3.out.mono B1.out.size))) hn HNM.out).mono ?_
  rintro z w4 ⟨y4, m4, d4, rfl, hrd, hm4, hb⟩
  have R4 := Lib.hid hrd
  have J4 := Lib.hid (J3.out.trans (hb.mono J3.out.size))
  clear hrd hb
  refine ⟨_, rfl, J4.out, ?_⟩
  go_simp
  (refine h_list 14 rfl (by kernel_rfl) ?_; intro K hK)
  refine bss2 rfl _ _ rfl a0 y4 m0 c0 m4 d4 (by go_simp; first | done | rfl) (by go_simp; first | done | rfl) ?_
  intro w5 hg hb hz
  have G5 := Lib.hid hg
  have N5 := Lib.hid hb
  have J5 := Lib.hid (J4.out.trans (hb.mono J4.out.size))
  clear hg hb hz
  refine hK _ _ J5.out ?_
  go_simp
  (refine h_call 15 rfl (by kernel_rfl) (h_free rfl) 62 ?_ ?_ ?_; rotate_left; (focus (go_simp; rfl)))
  refine (pconcat2 _ a0 y4 m0 c0 m4 d4 S _ w5 G5.out (HR.out.mono (B1.out.trans (J5.out.mono B1.out.size))) (R4.out.mono N5.out) (by omega) (by omega)).mono ?_
  rintro z w6 ⟨v6, rfl, hf, hb⟩
  have F6 := Lib.hid hf
  have J6 := Lib.hid (J5.out.trans (hb.mono J5.out.size))
  clear hf hb
  refine ⟨_, rfl, J6.out, ?_⟩
  go_simp
  (refine h_read 16 rfl (by kernel_rfl) (by kernel_rfl) (h_free rfl) ?_ ?_ ?_; rotate_left; (focus (intro v hv; go_simp; rfl)); go_simp)
  refine h_done (by kernel_rfl) ?_
  go_wp2_with fail
  go_ret
  exact ⟨_, rfl, F6.out.base (Nat.le_trans B1.out.size J5.out.size), B1.out.trans (J6.out.mono B1.out.size)⟩
end Go.Proofs.Ytckfggffoohcjaa.W
