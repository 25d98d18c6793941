/- LAYER 22 (chain): linked, Link, All, Start, Check of the program. -/
import Derived.Test.YtnkpcolkhmphmaaDoorChO
import Derived.Test.YtnkpcolkhmphmaaDoorLg
import Derived.Test.YtnkpcolkhmphmaaDoorPackR5
set_option linter.unusedSimpArgs false
set_option linter.unusedVariables false
namespace Go.Proofs.YtnkpcolkhmphmaaDoor.W
open Go Go.ChangeShapes Go.WideShapes Go.ChangeAt Go.RowKit
open Go.Proofs.YtnkpcolkhmphmaaDoor.P (enc dec shaL shaL_len)

theorem exb (p : Prop) : ∃ d : Bool, (d = true ↔ p) := by
  by_cases h : p
  · exact ⟨true, by simp [h]⟩
  · exact ⟨false, by simp [h]⟩
theorem r22 {p : Prop} {d : Bool} {r : Int} (hd : d = true ↔ p) (hr : (p ∧ r = 0) ∨ (¬ p ∧ r = 23)) : r = if d = true then 0 else 23 := by
  rcases hr with ⟨h1, h2⟩ | ⟨h1, h2⟩
  · rw [h2, if_pos (hd.2 h1)]
  · rw [h2, if_neg (fun x => h1 (hd.1 x))]
theorem infoBssC : (Tryd.prog.info? 24).map (fun i => (i.zero, i.size, i.bytes)) = some (some (.slice none 0 0), 1, 24) := by kernel_rfl
set_option maxRecDepth 100000 in
theorem bs1 {w : World} {ops : Array Oper} {rest : List Oper} {o : Oper} {a : Act} {Q : Exit → Act → World → Prop} (hgd : o.guard = none) (x : Operand)
    (ho : o.op = .buildSlice 25 1 #[(0, x)]) (x0 : BsX) (h0 : a.eval x = .slice x0.a x0.n x0.c) (r0 : Rd w x0.a x0.n x0.c x0.l)
    (hk : ∀ w', Ls bsE w' (some ⟨w.heap.size, 0, none⟩) 1 1 [x0] → Below w.heap.size w w' → w'.heap.size = w.heap.size + 1 → wpList Tryd.prog ops Q rest (a.put o.dst (.slice (some ⟨w.heap.size, 0, none⟩) 1 1)) w') : wpList Tryd.prog ops Q (o :: rest) a w := by
  obtain ⟨i0, hi0, hz0, hz1, hz2⟩ := info_parts infoBssC
  refine wpList_buildSlice hgd 25 24 1 _ ho #[.slice x0.a x0.n x0.c] i0 _ Tryd.underlying25 hi0 hz0 (by rw [hz1]; decide) (by rw [hz1]; decide) (by rw [hz1]; simp only [List.map_toArray, List.map_cons, List.map_nil, h0]; go_simp; first | done | rfl) ?_
  exact hk _ (ls_new bsOk w x0 _ rfl r0) ((Below.refl _ _).alloc (Nat.le_refl _) _) (by simp)
set_option maxRecDepth 100000 in
theorem bs3 {w : World} {ops : Array Oper} {rest : List Oper} {o : Oper} {a : Act} {Q : Exit → Act → World → Prop} (hgd : o.guard = none) (x y z : Operand)
    (ho : o.op = .buildSlice 25 3 #[(0, x), (1, y), (2, z)]) (x0 x1 x2 : BsX) (h0 : a.eval x = .slice x0.a x0.n x0.c) (h1 : a.eval y = .slice x1.a x1.n x1.c) (h2 : a.eval z = .slice x2.a x2.n x2.c)
    (r0 : Rd w x0.a x0.n x0.c x0.l) (r1 : Rd w x1.a x1.n x1.c x1.l) (r2 : Rd w x2.a x2.n x2.c x2.l)
    (hk : ∀ w', Ls bsE w' (some ⟨w.heap.size, 0, none⟩) 3 3 [x0, x1, x2] → Below w.heap.size w w' → w'.heap.size = w.heap.size + 1 → wpList Tryd.prog ops Q rest (a.put o.dst (.slice (some ⟨w.heap.size, 0, none⟩) 3 3)) w') : wpList Tryd.prog ops Q (o :: rest) a w := by
  obtain ⟨i0, hi0, hz0, hz1, hz2⟩ := info_parts infoBssC
  refine wpList_buildSlice hgd 25 24 3 _ ho #[.slice x0.a x0.n x0.c, .slice x1.a x1.n x1.c, .slice x2.a x2.n x2.c] i0 _ Tryd.underlying25 hi0 hz0 (by rw [hz1]; decide) (by rw [hz1]; decide) (by rw [hz1]; simp only [List.map_toArray, List.map_cons, List.map_nil, h0, h1, h2]; go_simp; first | done | rfl) ?_
  have hb := (Below.refl w.heap.size w).alloc (Nat.le_refl _) (.cells #[.slice x0.a x0.n x0.c, .slice x1.a x1.n x1.c, .slice x2.a x2.n x2.c] 24)
  have hr := Row.new w 24 [.slice x0.a x0.n x0.c, .slice x1.a x1.n x1.c, .slice x2.a x2.n x2.c]
  refine hk _ ⟨rfl, Nat.le_refl _, by decide, ?_, (fun h => by cases h), .inr ⟨w.heap.size, 0, rfl, hr.lt, fun i x hi j v hj => ?_⟩⟩ hb (by simp)
  · intro x hx
    simp at hx
    rcases hx with rfl | rfl | rfl
    · exact r0.mono hb
    · exact r1.mono hb
    · exact r2.mono hb
  · have hj1 : j < 1 := (List.getElem?_eq_some_iff.1 hj).1
    obtain rfl : j = 0 := by omega
    have hc := hr.cellV i
    have e : 0 + i * bsE.k + 0 = i := by show 0 + i * 1 + 0 = i; omega
    rw [e]
    rcases i with _ | _ | _ | i
    · simp at hi hj; subst hi hj; exact hc
    · simp at hi hj; subst hi hj; exact hc
    · simp at hi hj; subst hi hj; exact hc
    · simp at hi
set_option maxRecDepth 100000 in
set_option maxHeartbeats 16000000 in
theorem chlinked (c : Ch) (a : Option Addr) (n cp : Nat) (L : List BsX) (w : World) (hK : Ks w) (hc : c.fit) (h : Ls bsE w a n cp L) (hn : n ≤ 100) (hs : ∀ x ∈ L, x.l.length ≤ 100000) :
    Calls Tryd.prog 31 #[.agg (chC c).toArray, .slice a n cp] w fun e w' => e = .returned (.agg (chC (c.all L)).toArray) ∧ Below w.heap.size w w' := by
  have H := Lib.hid h
  have HK := Lib.hid hK
  have HL := Lib.hid h.hlen
  have HS := Lib.hid hs
  have hm := h.hmax
  have hle := h.hle
  have LZS := Lib.hid ch_size
  have LZ := Lib.hid ch_zero
  have HF := Lib.hid (fun k => all_fit (L.take k) c hc)
  clear h hK hs hc
  go_enter Tryd.func31, Tryd.ntmps31
  go_wp2_with (first
    | ((with_reducible refine box_row (o := ⟨some 2, _, _, _, _, _⟩) rfl _ _ rfl (chC c) rfl ?_); intro w1 hr hb hz; have R1 := Lib.hid hr; have B1 := Lib.hid hb; have S1 := Lib.hid (show w.heap.size < w1.heap.size by omega); clear hr hb hz)
    | ((with_reducible refine alloc_row (o := ⟨some 4, _, _, _, _, _⟩) rfl _ rfl _ LZ.out ?_); intro w2 hr hb hz; have R42 := Lib.hid hr; have R22 := Lib.hid (R1.out.below hb R1.out.lt); have B2 := Lib.hid (B1.out.trans (hb.mono B1.out.size)); clear hr hb hz))
  go_loopw [9] (fun i wr => ∃ (k : Nat) (q : Ch), i = .int .i64 (k : Int) ∧ k ≤ n ∧ Hid (c.all (L.take k) = q) ∧ Hid (Row wr w.heap.size 23 (chC q)) ∧ Hid (Row wr w1.heap.size 23 (chC ⟨0, ⟨#[]⟩⟩)) ∧ Hid (Below w.heap.size w wr)) (fun i _ => n - (intOf i).toNat)
  case atStart => exact ⟨0, c, rfl, Nat.zero_le _, Lib.hid rfl, R22, R42, B2⟩
  case round =>
    obtain ⟨k, q, rfl, hk, HQ, R, R4, B⟩ := hrel
    have HQF := Lib.hid (show q.fit by rw [← HQ.out]; exact HF.out k)
    by_cases hlt : k < n
    · have hfit0 := H.out
      obtain ⟨b, o, x, rfl, hx, hcell, hfx⟩ := H.out.at bsOk B.out k hlt
      have hcell0 := hcell 0 _ rfl
      have hxl := HS.out x (List.mem_of_getElem? hx)
      have HN := Lib.hid (all_next c L k x hx)
      obtain ⟨xa, xn, xc, xl⟩ := x
      dsimp only at hxl HN
      have RX := Lib.hid (show Rd wr xa xn xc xl from hfx)
      have k0 : wr.cell? ⟨b, o + k, none⟩ = some (.slice xa xn xc) := by
        have e : o + k * bsE.k + 0 = o + k := by show o + k * 1 + 0 = o + k; omega
        rw [e] at hcell0; exact hcell0
      have g1 : (0 : Int) ≤ (k : Int) := by omega
      have g2 : (k : Int) < (n : Int) := by omega
      obtain ⟨ql, qh⟩ := q
      have l1 := HQF.out.l.1
      have l2 := HQF.out.l.2
      have lh := HQF.out.h
      dsimp only at l1 l2 lh
      have he := P.enc_len ql.toNat (by omega)
      obtain ⟨eq, heq⟩ : ∃ eq, (enc ql.toNat).length = eq := ⟨_, rfl⟩
      have HNN := Lib.hid (fun w' => pnum none 0 0 ql [] w' (Rd_nil w') l2 (by omega))
      simp only [List.nil_append, Nat.zero_add, heq] at HNN
      have HEQ := Lib.hid heq
      rw [heq] at he
      obtain ⟨s, hs⟩ : ∃ s, str (shaL (qh.data.toList ++ (enc ql.toNat ++ xl))) = s := ⟨_, rfl⟩
      have HSS := Lib.hid (show ∀ x0 x1 x2 : BsX, x0.l = qh.data.toList → x1.l = enc ql.toNat → x2.l = xl → str (shaL (catB [x0, x1, x2])) = s from fun x0 x1 x2 e0 e1 e2 => by rw [← hs]; unfold catB; simp [e0, e1, e2])
      have HBD := Lib.hid (show ∀ x0 x1 x2 : BsX, x0.l = qh.data.toList → x1.l = enc ql.toNat → x2.l = xl → ∀ x ∈ [x0, x1, x2], x.l.length ≤ 200000 from fun x0 x1 x2 e0 e1 e2 x hx => by
        have hq0 : qh.data.toList.length = qh.size := rfl
        have h1 := heq
        simp at hx
        rcases hx with rfl | rfl | rfl
        · rw [e0]; omega
        · rw [e1]; omega
        · rw [e2]; omega)
      clear hfit0 hx hcell hfx hcell0 heq
      obtain ⟨m, hm1, hm2⟩ : ∃ m : Int, (if ql ≤ 4611686018427387903 then ql else 4611686018427387903) + 1 = m ∧ True := ⟨_, rfl, trivial⟩
      have HLK := Lib.hid (show c.all (L.take (k + 1)) = ⟨m, s⟩ by rw [HN.out, HQ.out]; unfold Ch.link; dsimp only; rw [hs, hm1])
      clear hs hm2
      by_cases hmin : ql ≤ 4611686018427387903
      · have hm2 : m = ql + 1 := by rw [← hm1, if_pos hmin]
        have hwm : IntKind.i64.wrap (ql + 1) = m := by rw [IntKind.wrap_i64]; omega
        have hng : ¬ (4611686018427387903 < ql) := by omega
        clear hm1
        go_wp2_with fail
        refine region_t (fun v => Row v w.heap.size 23 (chC ⟨ql, qh⟩)) 14 (by kernel_rfl) (by kernel_rfl) (by kernel_rfl) (R.out.drewN 1) ?_
        obtain ⟨wd, hwd⟩ : ∃ wd, wr.drew = wd := ⟨_, rfl⟩
        have D0 : Hid (Below wr.heap.size wr wd) := Lib.hid (by rw [← hwd]; exact (Below.refl _ _).drew)
        rw [hwd]
        clear hwd k0
        have RD := Lib.hid (R.out.below D0.out R.out.lt)
        have R4D := Lib.hid (R4.out.below D0.out R4.out.lt)
        have BD := Lib.hid (B.out.trans (D0.out.mono B.out.size))
        have XD := Lib.hid (RX.out.mono D0.out)
        (refine t_read 0 rfl (by kernel_rfl) (by kernel_rfl) (by kernel_rfl) (t_free rfl) ?_ ?_ ?_; rotate_left; (focus (intro v hv; go_simp; rfl)); go_simp)
        (refine t_read 1 rfl (by kernel_rfl) (by kernel_rfl) (by kernel_rfl) (t_free rfl) ?_ ?_ ?_; rotate_left; (focus (intro v hv; have y0 := hv.c2.1; have y1 := hv.c2.2; go_simp; rfl)); go_simp)
        (refine t_read 2 rfl (by kernel_rfl) (by kernel_rfl) (by kernel_rfl) (t_free rfl) (.int .i64 (ql)) ?_ ?_; (focus (intro v hv; go_simp; first | done | rfl | (intros; omega) | (rw [if_neg (by omega)]) | (rw [if_pos (by omega)]) | (split <;> first | rfl | omega))); go_simp)
        (refine t_read 3 rfl (by kernel_rfl) (by kernel_rfl) (by kernel_rfl) (t_free rfl) ?_ ?_ ?_; rotate_left; (focus (intro v hv; go_simp; rfl)); go_simp)
        (refine t_read 4 rfl (by kernel_rfl) (by kernel_rfl) (by kernel_rfl) (t_free rfl) ?_ ?_ ?_; rotate_left; (focus (intro v hv; go_simp; rfl)); go_simp)
        (refine t_read 5 rfl (by kernel_rfl) (by kernel_rfl) (by kernel_rfl) (t_free rfl) ?_ ?_ ?_; rotate_left; (focus (intro v hv; have y0 := hv.c2.1; have y1 := hv.c2.2; go_simp; rfl)); go_simp)
        (refine t_read 7 rfl (by kernel_rfl) (by kernel_rfl) (by kernel_rfl) (t_free rfl) ?_ ?_ ?_; rotate_left; (focus (intro v hv; go_simp; rfl)); go_simp)
        (refine t_read 8 rfl (by kernel_rfl) (by kernel_rfl) (by kernel_rfl) (t_free rfl) ?_ ?_ ?_; rotate_left; (focus (intro v hv; have y0 := hv.c2.1; have y1 := hv.c2.2; go_simp; rfl)); go_simp)
        (refine t_read 10 rfl (by kernel_rfl) (by kernel_rfl) (by kernel_rfl) (t_free rfl) ?_ ?_ ?_; rotate_left; (focus (intro v hv; go_simp; rfl)); go_simp)
        (refine t_two 6 9 rfl rfl (by kernel_rfl) rfl rfl ?_ (t_free rfl) 43 ?_ ?_ ?_; rotate_left; rotate_left; (focus (go_simp; rfl)))
        rotate_left
        · intro K hK
          refine conv_frx rfl _ rfl qh (by go_simp) (by unfold maxLen; omega) ?_
          intro w3 v3 hF hb
          obtain ⟨a3, c3, rfl, hrd⟩ := hF.form' qh.size rfl
          have R3 := Lib.hid (RD.out.below hb RD.out.lt)
          have Y3 := Lib.hid hrd
          have D3 := Lib.hid hb
          clear hF hb hrd
          refine hK _ _ R3.out ?_
          go_simp
          (refine t_call 9 rfl (by kernel_rfl) rfl (t_free rfl) 43 ?_ ?_ ?_; rotate_left; (focus (go_simp; rfl)))
          refine (HNN.out w3).mono ?_
          rintro e w4 ⟨rfl, hbk, hb, -⟩
          have D4 := Lib.hid (D3.out.trans (hb.mono D3.out.size))
          have Z4 := Lib.hid (hbk.rd' eq HEQ.out (by omega))
          have Y4 := Lib.hid (Y3.out.mono hb)
          have R34 := Lib.hid (R3.out.below hb R3.out.lt)
          clear hbk hb
          refine ⟨_, rfl, R34.out, ?_⟩
          go_simp
          (refine t_list 11 rfl (by kernel_rfl) rfl ?_; intro K hK)
          refine bs3 rfl _ _ _ rfl ⟨a3, qh.size, c3, qh.data.toList⟩ ⟨_, eq, eq, enc ql.toNat⟩ ⟨xa, xn, xc, xl⟩ (by first | (go_simp; done) | (go_simp; rfl)) (by first | (go_simp; done) | (go_simp; rfl)) (by first | (go_simp; done) | (go_simp; rfl)) Y4.out Z4.out (XD.out.mono D4.out) ?_
          intro w5 hl hb hz
          have L5 := Lib.hid hl
          have D5 := Lib.hid (D4.out.trans (hb.mono D4.out.size))
          have R35 := Lib.hid (R34.out.below hb R34.out.lt)
          clear hl hb hz
          refine hK _ _ R35.out ?_
          go_simp
          (refine t_call 12 rfl (by kernel_rfl) rfl (t_free rfl) 45 ?_ ?_ ?_; rotate_left; (focus (go_simp; rfl)))
          refine (chsum _ 3 3 _ w5 (HK.out.below (BD.out.trans (D5.out.mono BD.out.size)) HK.out.pos) L5.out (by omega) (HBD.out _ _ _ rfl rfl rfl)).mono ?_
          rintro e w6 ⟨rfl, hb⟩
          rw [HSS.out _ _ _ rfl rfl rfl]
          have D6 := Lib.hid (D5.out.trans (hb.mono D5.out.size))
          have R36 := Lib.hid (R35.out.below hb R35.out.lt)
          clear hb
          refine ⟨_, rfl, R36.out, ?_⟩
          go_simp
          have qb := ch_built (m) s
          (refine t_read 13 rfl (by kernel_rfl) (by kernel_rfl) (by kernel_rfl) (t_free rfl) ?_ ?_ ?_; rotate_left; (focus (intro v hv; go_simp; rfl)); go_simp)
          (refine t_last 14 rfl (by kernel_rfl) rfl (by kernel_rfl) (by kernel_rfl) ?_; intro K hK)
          refine store_row rfl _ _ _ rfl w.heap.size (chC ⟨m, s⟩) (by go_simp) (by first | (go_simp; done) | (go_simp; rfl)) 23 _ R36.out LZS.out rfl (ch_one _) ?_
          intro w7 hr hu
          have R7 := Lib.hid hr
          have R47 := Lib.hid ((R4D.out.below D6.out R4D.out.lt).upd hu (Nat.ne_of_gt S1.out))
          have B7 := Lib.hid ((BD.out.trans (D6.out.mono BD.out.size)).trans (hu.below (Nat.le_refl _)))
          clear hr hu
          refine hK _ _ ?_
          go_simp
          go_wp2_with fail
          go_roundw
          case rel => exact ⟨k + 1, ⟨m, s⟩, vint (by omega), by omega, HLK, R7, R47, B7⟩
          case measure => simp [intOf]; omega
        · refine (HNN.out wd).mono ?_
          rintro e w3 ⟨rfl, hbk, hb, -⟩
          have D3 := Lib.hid hb
          have Z3 := Lib.hid (hbk.rd' eq HEQ.out (by omega))
          have R3 := Lib.hid (RD.out.below hb RD.out.lt)
          clear hbk hb
          refine ⟨_, rfl, R3.out, ?_⟩
          go_simp
          (refine t_list 6 rfl (by kernel_rfl) rfl ?_; intro K hK)
          refine conv_frx rfl _ rfl qh (by go_simp) (by unfold maxLen; omega) ?_
          intro w4 v3 hF hb
          obtain ⟨a3, c3, rfl, hrd⟩ := hF.form' qh.size rfl
          have D4 := Lib.hid (D3.out.trans (hb.mono D3.out.size))
          have R34 := Lib.hid (R3.out.below hb R3.out.lt)
          have Y4 := Lib.hid hrd
          have Z4 := Lib.hid (Z3.out.mono hb)
          clear hF hb hrd
          refine hK _ _ R34.out ?_
          go_simp
          (refine t_list 11 rfl (by kernel_rfl) rfl ?_; intro K hK)
          refine bs3 rfl _ _ _ rfl ⟨a3, qh.size, c3, qh.data.toList⟩ ⟨_, eq, eq, enc ql.toNat⟩ ⟨xa, xn, xc, xl⟩ (by first | (go_simp; done) | (go_simp; rfl)) (by first | (go_simp; done) | (go_simp; rfl)) (by first | (go_simp; done) | (go_simp; rfl)) Y4.out Z4.out (XD.out.mono D4.out) ?_
          intro w5 hl hb hz
          have L5 := Lib.hid hl
          have D5 := Lib.hid (D4.out.trans (hb.mono D4.out.size))
          have R35 := Lib.hid (R34.out.below hb R34.out.lt)
          clear hl hb hz
          refine hK _ _ R35.out ?_
          go_simp
          (refine t_call 12 rfl (by kernel_rfl) rfl (t_free rfl) 45 ?_ ?_ ?_; rotate_left; (focus (go_simp; rfl)))
          refine (chsum _ 3 3 _ w5 (HK.out.below (BD.out.trans (D5.out.mono BD.out.size)) HK.out.pos) L5.out (by omega) (HBD.out _ _ _ rfl rfl rfl)).mono ?_
          rintro e w6 ⟨rfl, hb⟩
          rw [HSS.out _ _ _ rfl rfl rfl]
          have D6 := Lib.hid (D5.out.trans (hb.mono D5.out.size))
          have R36 := Lib.hid (R35.out.below hb R35.out.lt)
          clear hb
          refine ⟨_, rfl, R36.out, ?_⟩
          go_simp
          have qb := ch_built (m) s
          (refine t_read 13 rfl (by kernel_rfl) (by kernel_rfl) (by kernel_rfl) (t_free rfl) ?_ ?_ ?_; rotate_left; (focus (intro v hv; go_simp; rfl)); go_simp)
          (refine t_last 14 rfl (by kernel_rfl) rfl (by kernel_rfl) (by kernel_rfl) ?_; intro K hK)
          refine store_row rfl _ _ _ rfl w.heap.size (chC ⟨m, s⟩) (by go_simp) (by first | (go_simp; done) | (go_simp; rfl)) 23 _ R36.out LZS.out rfl (ch_one _) ?_
          intro w7 hr hu
          have R7 := Lib.hid hr
          have R47 := Lib.hid ((R4D.out.below D6.out R4D.out.lt).upd hu (Nat.ne_of_gt S1.out))
          have B7 := Lib.hid ((BD.out.trans (D6.out.mono BD.out.size)).trans (hu.below (Nat.le_refl _)))
          clear hr hu
          refine hK _ _ ?_
          go_simp
          go_wp2_with fail
          go_roundw
          case rel => exact ⟨k + 1, ⟨m, s⟩, vint (by omega), by omega, HLK, R7, R47, B7⟩
          case measure => simp [intOf]; omega
      · have hm2 : m = 4611686018427387904 := by rw [← hm1, if_neg hmin]; rfl
        have hgt : 4611686018427387903 < ql := by omega
        subst hm2
        clear hm1
        go_wp2_with fail
        refine region_t (fun v => Row v w.heap.size 23 (chC ⟨ql, qh⟩)) 14 (by kernel_rfl) (by kernel_rfl) (by kernel_rfl) (R.out.drewN 1) ?_
        obtain ⟨wd, hwd⟩ : ∃ wd, wr.drew = wd := ⟨_, rfl⟩
        have D0 : Hid (Below wr.heap.size wr wd) := Lib.hid (by rw [← hwd]; exact (Below.refl _ _).drew)
        rw [hwd]
        clear hwd k0
        have RD := Lib.hid (R.out.below D0.out R.out.lt)
        have R4D := Lib.hid (R4.out.below D0.out R4.out.lt)
        have BD := Lib.hid (B.out.trans (D0.out.mono B.out.size))
        have XD := Lib.hid (RX.out.mono D0.out)
        (refine t_read 0 rfl (by kernel_rfl) (by kernel_rfl) (by kernel_rfl) (t_free rfl) ?_ ?_ ?_; rotate_left; (focus (intro v hv; go_simp; rfl)); go_simp)
        (refine t_read 1 rfl (by kernel_rfl) (by kernel_rfl) (by kernel_rfl) (t_free rfl) ?_ ?_ ?_; rotate_left; (focus (intro v hv; have y0 := hv.c2.1; have y1 := hv.c2.2; go_simp; rfl)); go_simp)
        (refine t_read 2 rfl (by kernel_rfl) (by kernel_rfl) (by kernel_rfl) (t_free rfl) (.int .i64 (4611686018427387903)) ?_ ?_; (focus (intro v hv; go_simp; first | done | rfl | (intros; omega) | (rw [if_neg (by omega)]) | (rw [if_pos (by omega)]) | (split <;> first | rfl | omega))); go_simp)
        (refine t_read 3 rfl (by kernel_rfl) (by kernel_rfl) (by kernel_rfl) (t_free rfl) ?_ ?_ ?_; rotate_left; (focus (intro v hv; go_simp; rfl)); go_simp)
        (refine t_read 4 rfl (by kernel_rfl) (by kernel_rfl) (by kernel_rfl) (t_free rfl) ?_ ?_ ?_; rotate_left; (focus (intro v hv; go_simp; rfl)); go_simp)
        (refine t_read 5 rfl (by kernel_rfl) (by kernel_rfl) (by kernel_rfl) (t_free rfl) ?_ ?_ ?_; rotate_left; (focus (intro v hv; have y0 := hv.c2.1; have y1 := hv.c2.2; go_simp; rfl)); go_simp)
        (refine t_read 7 rfl (by kernel_rfl) (by kernel_rfl) (by kernel_rfl) (t_free rfl) ?_ ?_ ?_; rotate_left; (focus (intro v hv; go_simp; rfl)); go_simp)
        (refine t_read 8 rfl (by kernel_rfl) (by kernel_rfl) (by kernel_rfl) (t_free rfl) ?_ ?_ ?_; rotate_left; (focus (intro v hv; have y0 := hv.c2.1; have y1 := hv.c2.2; go_simp; rfl)); go_simp)
        (refine t_read 10 rfl (by kernel_rfl) (by kernel_rfl) (by kernel_rfl) (t_free rfl) ?_ ?_ ?_; rotate_left; (focus (intro v hv; go_simp; rfl)); go_simp)
        (refine t_two 6 9 rfl rfl (by kernel_rfl) rfl rfl ?_ (t_free rfl) 43 ?_ ?_ ?_; rotate_left; rotate_left; (focus (go_simp; rfl)))
        rotate_left
        · intro K hK
          refine conv_frx rfl _ rfl qh (by go_simp) (by unfold maxLen; omega) ?_
          intro w3 v3 hF hb
          obtain ⟨a3, c3, rfl, hrd⟩ := hF.form' qh.size rfl
          have R3 := Lib.hid (RD.out.below hb RD.out.lt)
          have Y3 := Lib.hid hrd
          have D3 := Lib.hid hb
          clear hF hb hrd
          refine hK _ _ R3.out ?_
          go_simp
          (refine t_call 9 rfl (by kernel_rfl) rfl (t_free rfl) 43 ?_ ?_ ?_; rotate_left; (focus (go_simp; rfl)))
          refine (HNN.out w3).mono ?_
          rintro e w4 ⟨rfl, hbk, hb, -⟩
          have D4 := Lib.hid (D3.out.trans (hb.mono D3.out.size))
          have Z4 := Lib.hid (hbk.rd' eq HEQ.out (by omega))
          have Y4 := Lib.hid (Y3.out.mono hb)
          have R34 := Lib.hid (R3.out.below hb R3.out.lt)
          clear hbk hb
          refine ⟨_, rfl, R34.out, ?_⟩
          go_simp
          (refine t_list 11 rfl (by kernel_rfl) rfl ?_; intro K hK)
          refine bs3 rfl _ _ _ rfl ⟨a3, qh.size, c3, qh.data.toList⟩ ⟨_, eq, eq, enc ql.toNat⟩ ⟨xa, xn, xc, xl⟩ (by first | (go_simp; done) | (go_simp; rfl)) (by first | (go_simp; done) | (go_simp; rfl)) (by first | (go_simp; done) | (go_simp; rfl)) Y4.out Z4.out (XD.out.mono D4.out) ?_
          intro w5 hl hb hz
          have L5 := Lib.hid hl
          have D5 := Lib.hid (D4.out.trans (hb.mono D4.out.size))
          have R35 := Lib.hid (R34.out.below hb R34.out.lt)
          clear hl hb hz
          refine hK _ _ R35.out ?_
          go_simp
          (refine t_call 12 rfl (by kernel_rfl) rfl (t_free rfl) 45 ?_ ?_ ?_; rotate_left; (focus (go_simp; rfl)))
          refine (chsum _ 3 3 _ w5 (HK.out.below (BD.out.trans (D5.out.mono BD.out.size)) HK.out.pos) L5.out (by omega) (HBD.out _ _ _ rfl rfl rfl)).mono ?_
          rintro e w6 ⟨rfl, hb⟩
          rw [HSS.out _ _ _ rfl rfl rfl]
          have D6 := Lib.hid (D5.out.trans (hb.mono D5.out.size))
          have R36 := Lib.hid (R35.out.below hb R35.out.lt)
          clear hb
          refine ⟨_, rfl, R36.out, ?_⟩
          go_simp
          have qb := ch_built (4611686018427387904) s
          (refine t_read 13 rfl (by kernel_rfl) (by kernel_rfl) (by kernel_rfl) (t_free rfl) ?_ ?_ ?_; rotate_left; (focus (intro v hv; go_simp; rfl)); go_simp)
          (refine t_last 14 rfl (by kernel_rfl) rfl (by kernel_rfl) (by kernel_rfl) ?_; intro K hK)
          refine store_row rfl _ _ _ rfl w.heap.size (chC ⟨4611686018427387904, s⟩) (by go_simp) (by first | (go_simp; done) | (go_simp; rfl)) 23 _ R36.out LZS.out rfl (ch_one _) ?_
          intro w7 hr hu
          have R7 := Lib.hid hr
          have R47 := Lib.hid ((R4D.out.below D6.out R4D.out.lt).upd hu (Nat.ne_of_gt S1.out))
          have B7 := Lib.hid ((BD.out.trans (D6.out.mono BD.out.size)).trans (hu.below (Nat.le_refl _)))
          clear hr hu
          refine hK _ _ ?_
          go_simp
          go_wp2_with fail
          go_roundw
          case rel => exact ⟨k + 1, ⟨4611686018427387904, s⟩, vint (by omega), by omega, HLK, R7, R47, B7⟩
          case measure => simp [intOf]; omega
        · refine (HNN.out wd).mono ?_
          rintro e w3 ⟨rfl, hbk, hb, -⟩
          have D3 := Lib.hid hb
          have Z3 := Lib.hid (hbk.rd' eq HEQ.out (by omega))
          have R3 := Lib.hid (RD.out.below hb RD.out.lt)
          clear hbk hb
          refine ⟨_, rfl, R3.out, ?_⟩
          go_simp
          (refine t_list 6 rfl (by kernel_rfl) rfl ?_; intro K hK)
          refine conv_frx rfl _ rfl qh (by go_simp) (by unfold maxLen; omega) ?_
          intro w4 v3 hF hb
          obtain ⟨a3, c3, rfl, hrd⟩ := hF.form' qh.size rfl
          have D4 := Lib.hid (D3.out.trans (hb.mono D3.out.size))
          have R34 := Lib.hid (R3.out.below hb R3.out.lt)
          have Y4 := Lib.hid hrd
          have Z4 := Lib.hid (Z3.out.mono hb)
          clear hF hb hrd
          refine hK _ _ R34.out ?_
          go_simp
          (refine t_list 11 rfl (by kernel_rfl) rfl ?_; intro K hK)
          refine bs3 rfl _ _ _ rfl ⟨a3, qh.size, c3, qh.data.toList⟩ ⟨_, eq, eq, enc ql.toNat⟩ ⟨xa, xn, xc, xl⟩ (by first | (go_simp; done) | (go_simp; rfl)) (by first | (go_simp; done) | (go_simp; rfl)) (by first | (go_simp; done) | (go_simp; rfl)) Y4.out Z4.out (XD.out.mono D4.out) ?_
          intro w5 hl hb hz
          have L5 := Lib.hid hl
          have D5 := Lib.hid (D4.out.trans (hb.mono D4.out.size))
          have R35 := Lib.hid (R34.out.below hb R34.out.lt)
          clear hl hb hz
          refine hK _ _ R35.out ?_
          go_simp
          (refine t_call 12 rfl (by kernel_rfl) rfl (t_free rfl) 45 ?_ ?_ ?_; rotate_left; (focus (go_simp; rfl)))
          refine (chsum _ 3 3 _ w5 (HK.out.below (BD.out.trans (D5.out.mono BD.out.size)) HK.out.pos) L5.out (by omega) (HBD.out _ _ _ rfl rfl rfl)).mono ?_
          rintro e w6 ⟨rfl, hb⟩
          rw [HSS.out _ _ _ rfl rfl rfl]
          have D6 := Lib.hid (D5.out.trans (hb.mono D5.out.size))
          have R36 := Lib.hid (R35.out.below hb R35.out.lt)
          clear hb
          refine ⟨_, rfl, R36.out, ?_⟩
          go_simp
          have qb := ch_built (4611686018427387904) s
          (refine t_read 13 rfl (by kernel_rfl) (by kernel_rfl) (by kernel_rfl) (t_free rfl) ?_ ?_ ?_; rotate_left; (focus (intro v hv; go_simp; rfl)); go_simp)
          (refine t_last 14 rfl (by kernel_rfl) rfl (by kernel_rfl) (by kernel_rfl) ?_; intro K hK)
          refine store_row rfl _ _ _ rfl w.heap.size (chC ⟨4611686018427387904, s⟩) (by go_simp) (by first | (go_simp; done) | (go_simp; rfl)) 23 _ R36.out LZS.out rfl (ch_one _) ?_
          intro w7 hr hu
          have R7 := Lib.hid hr
          have R47 := Lib.hid ((R4D.out.below D6.out R4D.out.lt).upd hu (Nat.ne_of_gt S1.out))
          have B7 := Lib.hid ((BD.out.trans (D6.out.mono BD.out.size)).trans (hu.below (Nat.le_refl _)))
          clear hr hu
          refine hK _ _ ?_
          go_simp
          go_wp2_with fail
          go_roundw
          case rel => exact ⟨k + 1, ⟨4611686018427387904, s⟩, vint (by omega), by omega, HLK, R7, R47, B7⟩
          case measure => simp [intOf]; omega
    · obtain rfl : n = k := by omega
      have ht : L.take n = L := List.take_of_length_le (by rw [HL.out]; exact Nat.le_refl _)
      rw [ht] at HQ
      clear ht
      go_wp2_with (first
        | ((with_reducible refine load_row (o := ⟨some 28, _, _, _, _, _⟩) rfl _ _ rfl w.heap.size ?_ _ (chC q) _ R.out Tryd.underlying23 rfl ?_ ?_); (focus go_simp); (focus (exact LZS.out)))
        | ((with_reducible refine store_row (o := ⟨none, _, _, _, _, _⟩) rfl _ (.tmp 4) _ rfl w1.heap.size (chC q) ?_ ?_ 23 _ R4.out ?_ ?_ ?_ ?_); (focus go_simp); (focus (first | (go_simp; done) | (go_simp; rfl))); (focus (exact LZS.out)); (focus rfl); (focus (exact ch_one _)); intro w9 hr hu; have R49 := Lib.hid hr; have B9 := Lib.hid (B.out.trans (hu.below B1.out.size)); clear hr hu))
      exact bodyPost_ret (results_cell_row rfl _ _ w1.heap.size 23 _ _ _ (by go_simp) R49.out Tryd.underlying23 rfl LZS.out) rfl ⟨by rw [HQ.out], B9.out⟩
set_option maxRecDepth 100000 in
set_option maxHeartbeats 16000000 in
theorem chlink (c : Ch) (a : Option Addr) (n cp : Nat) (l : List UInt8) (w : World) (hK : Ks w) (hc : c.fit) (h : Rd w a n cp l) (hn : l.length ≤ 100000) :
    Calls Tryd.prog 8 #[.agg (chC c).toArray, .slice a n cp] w fun e w' => e = .returned (.agg (chC (c.link l)).toArray) ∧ Below w.heap.size w w' := by
  have H := Lib.hid h
  have LZS := Lib.hid ch_size
  have LZ := Lib.hid ch_zero
  have HC := Lib.hid (fun a2 c2 w' (hb : Below w.heap.size w w') (hl : Ls bsE w' a2 1 c2 [⟨a, n, cp, l⟩]) => (chlinked c a2 1 c2 [⟨a, n, cp, l⟩] w' (hK.below hb hK.pos) hc hl (by omega) (fun x hx => by simp at hx; subst hx; exact hn)))
  have e : c.all [⟨a, n, cp, l⟩] = c.link l := rfl
  rw [e] at HC
  obtain ⟨q, hq⟩ : ∃ q, c.link l = q := ⟨_, rfl⟩
  rw [hq] at HC ⊢
  clear h hK hc e hq
  go_enter Tryd.func8, Tryd.ntmps8
  go_wp2_with (first
    | ((with_reducible refine box_row (o := ⟨some 2, _, _, _, _, _⟩) rfl _ _ rfl (chC c) rfl ?_); intro w1 hr hb hz; have R1 := Lib.hid hr; have B1 := Lib.hid hb; clear hr hb hz)
    | ((with_reducible refine alloc_row (o := ⟨some 4, _, _, _, _, _⟩) rfl _ rfl _ LZ.out ?_); intro w2 hr hb hz; have R42 := Lib.hid hr; have R22 := Lib.hid (R1.out.below hb R1.out.lt); have B2 := Lib.hid (B1.out.trans (hb.mono B1.out.size)); clear hr hb hz)
    | ((with_reducible refine load_row (o := ⟨some 5, _, _, _, _, _⟩) rfl _ _ rfl w.heap.size ?_ _ (chC c) _ R22.out Tryd.underlying23 rfl ?_ ?_); (focus go_simp); (focus (exact LZS.out)))
    | ((with_reducible refine bs1 (o := ⟨some 7, _, _, _, _, _⟩) rfl _ rfl ⟨a, n, cp, l⟩ ?_ ?_ ?_); (focus (first | (go_simp; done) | (go_simp; rfl))); (focus (exact H.out.mono B2.out)); intro w3 hl hb hz; have L3 := Lib.hid hl; have R43 := Lib.hid (R42.out.below hb R42.out.lt); have B3 := Lib.hid (B2.out.trans (hb.mono B2.out.size)); clear hl hb hz)
    | (go_at_call 31; (with_reducible refine (HC.out _ _ w3 B3.out L3.out).mono ?_); rintro x w4 ⟨rfl, hb⟩; have R44 := Lib.hid (R43.out.below hb R43.out.lt); have B4 := Lib.hid (B3.out.trans (hb.mono B3.out.size)); clear hb)
    | ((with_reducible refine store_row (o := ⟨none, _, _, _, _, _⟩) rfl _ (.tmp 4) _ rfl w1.heap.size (chC q) ?_ ?_ 23 _ R44.out ?_ ?_ ?_ ?_); (focus go_simp); (focus (first | (go_simp; done) | (go_simp; rfl))); (focus (exact LZS.out)); (focus rfl); (focus (exact ch_one _)); intro w9 hr hu; have R49 := Lib.hid hr; have B9 := Lib.hid (B4.out.trans (hu.below B1.out.size)); clear hr hu))
  exact bodyPost_ret (results_cell_row rfl _ _ w1.heap.size 23 _ _ _ (by go_simp) R49.out Tryd.underlying23 rfl LZS.out) rfl ⟨rfl, B9.out⟩
set_option maxRecDepth 100000 in
set_option maxHeartbeats 16000000 in
theorem chall (c : Ch) (a : Option Addr) (n cp : Nat) (L : List BsX) (w : World) (hK : Ks w) (hc : c.fit) (h : Ls bsE w a n cp L) (hn : n ≤ 100) (hs : ∀ x ∈ L, x.l.length ≤ 100000) :
    Calls Tryd.prog 10 #[.agg (chC c).toArray, .slice a n cp] w fun e w' => e = .returned (.agg (chC (c.all L)).toArray) ∧ Below w.heap.size w w' := by
  have LZS := Lib.hid ch_size
  have LZ := Lib.hid ch_zero
  have HC := Lib.hid (fun w' (hb : Below w.heap.size w w') => (chlinked c a n cp L w' (hK.below hb hK.pos) hc (h.mono bsOk hb) hn hs))
  obtain ⟨q, hq⟩ : ∃ q, c.all L = q := ⟨_, rfl⟩
  rw [hq] at HC ⊢
  clear h hK hc hq hs
  go_enter Tryd.func10, Tryd.ntmps10
  go_wp2_with (first
    | ((with_reducible refine box_row (o := ⟨some 2, _, _, _, _, _⟩) rfl _ _ rfl (chC c) rfl ?_); intro w1 hr hb hz; have R1 := Lib.hid hr; have B1 := Lib.hid hb; clear hr hb hz)
    | ((with_reducible refine alloc_row (o := ⟨some 4, _, _, _, _, _⟩) rfl _ rfl _ LZ.out ?_); intro w2 hr hb hz; have R42 := Lib.hid hr; have R22 := Lib.hid (R1.out.below hb R1.out.lt); have B2 := Lib.hid (B1.out.trans (hb.mono B1.out.size)); clear hr hb hz)
    | ((with_reducible refine load_row (o := ⟨some 5, _, _, _, _, _⟩) rfl _ _ rfl w.heap.size ?_ _ (chC c) _ R22.out Tryd.underlying23 rfl ?_ ?_); (focus go_simp); (focus (exact LZS.out)))
    | (go_at_call 31; (with_reducible refine (HC.out w2 B2.out).mono ?_); rintro x w4 ⟨rfl, hb⟩; have R44 := Lib.hid (R42.out.below hb R42.out.lt); have B4 := Lib.hid (B2.out.trans (hb.mono B2.out.size)); clear hb)
    | ((with_reducible refine store_row (o := ⟨none, _, _, _, _, _⟩) rfl _ (.tmp 4) _ rfl w1.heap.size (chC q) ?_ ?_ 23 _ R44.out ?_ ?_ ?_ ?_); (focus go_simp); (focus (first | (go_simp; done) | (go_simp; rfl))); (focus (exact LZS.out)); (focus rfl); (focus (exact ch_one _)); intro w9 hr hu; have R49 := Lib.hid hr; have B9 := Lib.hid (B4.out.trans (hu.below B1.out.size)); clear hr hu))
  exact bodyPost_ret (results_cell_row rfl _ _ w1.heap.size 23 _ _ _ (by go_simp) R49.out Tryd.underlying23 rfl LZS.out) rfl ⟨rfl, B9.out⟩
end Go.Proofs.YtnkpcolkhmphmaaDoor.W
