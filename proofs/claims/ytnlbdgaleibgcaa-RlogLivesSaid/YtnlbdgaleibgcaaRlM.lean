/- LAYER 13 (rlog): From of the program. -/
import Derived.Test.YtnlbdgaleibgcaaRlA
import Derived.Test.YtnlbdgaleibgcaaRlC
import Derived.Test.YtnlbdgaleibgcaaRlE
import Derived.Test.YtnlbdgaleibgcaaRlH
set_option linter.unusedSimpArgs false
set_option linter.unusedVariables false
namespace Go.Proofs.Ytnlbdgaleibgcaa.W
open Go Go.ChangeShapes Go.WideShapes Go.ChangeAt Go.RowKit

/-- entries of the call's own, each with its bytes; all in blocks from base on -/
structure Fre (w : World) (base : Nat) (a : Option Addr) (n c : Nat) (L : List (En × List UInt8)) : Prop where
  es : EnO w a n c (L.map (·.1))
  fit : ∀ x ∈ L, EnF w x.1 x.2
  ne : ∀ x off, a = some ⟨x, off, none⟩ → base ≤ x
  fa : ∀ x ∈ L, x.1.n ≠ 0 → ∀ k off, x.1.a = some ⟨k, off, none⟩ → base ≤ k
theorem Fre.nil (w : World) (base : Nat) : Fre w base none 0 0 [] := ⟨EnO.nil _, by simp, (fun _ _ e => by cases e), by simp⟩
theorem Fre.len {w : World} {base : Nat} {a : Option Addr} {n c : Nat} {L : List (En × List UInt8)} (h : Fre w base a n c L) : L.length = n := by have := h.es.1; simpa using this
theorem Fre.ents {w : World} {base : Nat} {a : Option Addr} {n c : Nat} {L : List (En × List UInt8)} (h : Fre w base a n c L) : Ents w a n c L := h.es.ents rfl h.fit
theorem Fre.mono {w w' : World} {base : Nat} {a : Option Addr} {n c : Nat} {L : List (En × List UInt8)} (h : Fre w base a n c L) (hb : Below w.heap.size w w') : Fre w' base a n c L :=
  ⟨h.es.mono hb, fun x hx => (h.fit x hx).mono hb, h.ne, h.fa⟩
/-- one entry more: behind its copy and the slice of one, append -/
theorem Fre.app {w w1 w2 w3 : World} {base : Nat} {a a' : Option Addr} {n c c' : Nat} {L : List (En × List UInt8)} {e : En} {l : List UInt8} (h : Fre w base a n c L) (hb : Below w.heap.size w w1) (hw : base ≤ w.heap.size)
    (hr : Rd w1 e.a e.n e.c l) (hf : ∀ k off, e.a = some ⟨k, off, none⟩ → w.heap.size ≤ k) (hx : I64 e.ix) (ht : I64 e.tm) (hk : I64 e.kd)
    (hg : Row w2 w1.heap.size 34 e.cells) (hb2 : Below w1.heap.size w1 w2) (ho : EnO w3 a' (n + 1) c' (L.map (·.1) ++ [e]))
    (hc : (∃ g, a = some ⟨g, 0, none⟩ ∧ a' = a ∧ c' = c ∧ n < c ∧ Upd w2 w3 g) ∨ (a' = some ⟨w2.heap.size, 0, none⟩ ∧ Below w2.heap.size w2 w3)) : Fre w3 base a' (n + 1) c' (L ++ [(e, l)]) ∧ Below base w w3 := by
  have hB : Below w.heap.size w w2 := hb.trans (hb2.mono hb.size)
  have O2 := h.es.mono hB
  have hns : base ≤ w2.heap.size := Nat.le_trans hw hB.size
  have hG := grow2 ⟨_, Lib.hid O2⟩ hc (by
    rcases hc with ⟨g, h1, h2, -, -, hu⟩ | ⟨h1, h2⟩
    · right
      intro x hx
      rw [h2, h1] at hx
      have e1 : g = w2.heap.size := congrArg Addr.block (Option.some.inj hx)
      rcases O2.2 with ⟨h3, -⟩ | ⟨g', R, h3, h4, -⟩
      · rw [h3] at h1; cases h1
      · rw [h3] at h1
        have := h4.lt
        have e2 : g' = g := congrArg Addr.block (Option.some.inj h1)
        omega
    · left
      rcases ho.2 with ⟨h3, -⟩ | ⟨g, R, h3, h4, -⟩
      · rw [h3] at h1; cases h1
      · have h5 := h4.lt
        rw [h3] at h1
        have : g = w2.heap.size := congrArg Addr.block (Option.some.inj h1)
        omega)
  have hbl : Below base w w3 := by
    rcases hc with ⟨g, h1, -, -, -, hu⟩ | ⟨-, hb3⟩
    · exact (hB.mono hw).trans (hu.below (h.ne g 0 h1))
    · exact (hB.mono hw).trans (hb3.mono hns)
  refine ⟨⟨by rw [List.map_append]; exact ho, fun x hx' => ?_, fun x off e' => ?_, fun x hx' hn0 k off e' => ?_⟩, hbl⟩
  · rcases List.mem_append.1 hx' with hx' | hx'
    · exact hG.1.en ((h.fit x hx').mono hB)
    · rw [List.mem_singleton.1 hx']
      exact ⟨hx, ht, hk, hG.1.rd (hr.mono hb2)⟩
  · rcases hG.2.2 x off e' with ⟨o, e2⟩ | ⟨h1, h2⟩
    · exact h.ne x o e2
    · omega
  · rcases List.mem_append.1 hx' with hx' | hx'
    · exact h.fa x hx' hn0 k off e'
    · rw [List.mem_singleton.1 hx'] at e'
      exact Nat.le_trans hw (hf k off e')
theorem take_drop_pe (L : List (En × List UInt8)) {k j : Nat} (h : k + j < L.length) : ((L.map pe).drop k).take (j + 1) = ((L.map pe).drop k).take j ++ [pe (L.getD (k + j) Ez)] := by
  have h1 : j < ((L.map pe).drop k).length := by rw [List.length_drop, List.length_map]; omega
  rw [List.take_succ_eq_append_getElem h1]
  congr 2
  simp [List.getD_eq_getElem?_getD, h]
set_option maxRecDepth 100000 in
set_option maxHeartbeats 8000000 in
theorem gfrom (p : Nat) (F : Nat → Prop) (b t c : Int) (ea : Option Addr) (en ec : Nat) (L : List (En × List UInt8)) (i m : Int) (w : World) (h : LG w p F b t c ea en ec L) (ho : LOK (lsOf b t c L)) (wm : (Lit.int .i64 m).wf = true) :
    Calls Try.prog 22 #[.pointer (some ⟨p, 0, none⟩), .int .i64 i, .int .i64 m] w fun x w' => ∃ a n cp R, x = .returned (.slice a n cp) ∧ Fre w' w.heap.size a n cp R ∧ R.map pe = (lsOf b t c L).from i m ∧ Below w.heap.size w w' := by
  have hl := h.len
  have hb := ho.b
  have hn := ho.n
  rw [show (lsOf b t c L).l.length = en by rw [← hl]; simp [lsOf]] at hn
  dsimp only [lsOf] at hb
  have RD := Lib.hid (gready p F b t c ea en ec L w h ho)
  have GH := Lib.hid (fun (W : World) (hb : Below w.heap.size w W) => ghas p F b t c ea en ec L i W (h.mono hb) ho)
  have GP := Lib.hid (fun (W : World) (hb : Below w.heap.size w W) => gplace p F b t c ea en ec L i W (h.mono hb) ho)
  have HG := Lib.hid h
  have HO := Lib.hid ho
  have HL := Lib.hid hl
  unfold LS.from
  rcases hhas : (lsOf b t c L).has i with _ | _
  · rw [hhas] at GH
    rw [if_neg (by decide)]
    clear h ho hhas GP hl hb hn wm
    go_enter Try.func22, Try.ntmps22
    go_wp2_with (first | (go_at_call 41; (with_reducible refine RD.out.mono ?_); rintro x w1 ⟨rfl, rfl⟩) | (go_at_call 49; (with_reducible refine (GH.out w (Below.refl _ _)).mono ?_); rintro x w1 ⟨rfl, hb1⟩; have B1 := Lib.hid hb1; clear hb1))
    go_ret
    exact ⟨none, 0, 0, [], rfl, Fre.nil _ _, rfl, B1.out⟩
  · rw [hhas] at GH
    rw [if_pos rfl]
    have hh : b < i ∧ i ≤ b + (en : Int) := by
      unfold LS.has LS.last lsOf at hhas
      simp at hhas
      rw [hl] at hhas
      exact hhas
    obtain ⟨k, hk⟩ : ∃ k : Nat, i = b + 1 + (k : Int) := ⟨(i - b - 1).toNat, by omega⟩
    have hkn : k < en := by omega
    have hpv : i - b - 1 = (k : Int) := by omega
    have hkt : (i - (lsOf b t c L).b - 1).toNat = k := by show (i - b - 1).toNat = k; omega
    rw [hkt]
    have GPx := Lib.hid (fun (W : World) (hb : Below w.heap.size w W) => GP.out W hb (by omega))
    rw [hpv] at GPx
    obtain ⟨g, R0, hea, hrow, hR0, hle, hmx, htk⟩ : ∃ g R, ea = some ⟨g, 0, none⟩ ∧ Row w g 34 (flat R) ∧ R.length = ec ∧ en ≤ ec ∧ ec ≤ maxLen ∧ R.take en = L.map (·.1) := by
      rcases h.es.2 with ⟨-, h2, -⟩ | h2
      · omega
      · exact h2
    subst hea
    have HROW := Lib.hid hrow
    have hqm2 : (lsOf b t c L).l.drop k = (L.map pe).drop k := rfl
    rw [hqm2]
    obtain ⟨n1, hn1⟩ : ∃ n1, en - k = n1 := ⟨_, rfl⟩
    obtain ⟨c1, hc1⟩ : ∃ c1, ec - k = c1 := ⟨_, rfl⟩
    have hdl : ((L.map pe).drop k).length = n1 := by rw [List.length_drop, List.length_map, hl]; exact hn1
    have hkn1 : k + n1 ≤ en := by omega
    have hnc1 : n1 ≤ c1 := by omega
    have hcm : n1 ≤ 1000000 := by omega
    have hck : ¬ ec = k := by omega
    have HN1 := Lib.hid hn1
    have HC1 := Lib.hid hc1
    have HDL := Lib.hid hdl
    have HKN := Lib.hid hkn1
    have HE := Lib.hid (fun (W : World) (hb : Below w.heap.size w W) (j : Nat) (hj : j < en) => h.ents.at hb j hj)
    have HFIT := Lib.hid (fun (k : Nat) (hk : k < en) => (show (L.getD k Ez).1.n ≤ 140737488355000 from by
      have hm : L.getD k Ez ∈ L := by rw [show L.getD k Ez = L[k]'(by omega) by simp [List.getD_eq_getElem?_getD, show k < L.length by omega]]; exact List.getElem_mem _
      have := ho.x (pe (L.getD k Ez)) (List.mem_map.2 ⟨_, hm, rfl⟩)
      have h3 := (h.fit _ hm).rd.hlen
      have h4 : (L.getD k Ez).2.length ≤ 4096 := this
      omega))
    have ES := Lib.hid en_size
    have EZ := Lib.hid en_zero
    have g1 : (0 : Int) ≤ (k : Int) := by omega
    have g2 : (k : Int) ≤ (en : Int) := by omega
    have g3 : k ≤ ec := by omega
    clear h ho hhas GP hrow htk hqm2 hkt hk hpv hh hl hb hn hn1 hc1 hdl hkn1
    have HB1x := Lib.hid hck
    go_enter Try.func22, Try.ntmps22
    go_wp2_with (first | (go_at_call 41; (with_reducible refine RD.out.mono ?_); rintro x w1 ⟨rfl, rfl⟩) | (go_at_call 49; (with_reducible refine (GH.out w (Below.refl _ _)).mono ?_); rintro x w1 ⟨rfl, hb1⟩; have B1 := Lib.hid hb1; clear hb1))
    refine region_h (fun v => Below w1.heap.size w1 v) (by kernel_rfl) (by kernel_rfl) (Below.refl _ _).drew ?_
    obtain ⟨wd, hwd⟩ : ∃ wd, w1.drew = wd := ⟨_, rfl⟩
    have D0 : Hid (Below w1.heap.size w1 wd) := Lib.hid (by rw [← hwd]; exact (Below.refl _ _).drew)
    rw [hwd]
    clear hwd
    (refine h_read 0 rfl (by kernel_rfl) (by kernel_rfl) (h_free rfl) ?_ ?_ ?_; rotate_left; (focus (intro v hv; go_simp; rfl)); go_simp)
    (refine h_read 1 rfl (by kernel_rfl) (by kernel_rfl) (h_free rfl) ?_ ?_ ?_; rotate_left; (focus (intro v hv; go_simp; rfl)); go_simp)
    (refine h_read 2 rfl (by kernel_rfl) (by kernel_rfl) (h_free rfl) ?_ ?_ ?_; rotate_left; (focus (intro v hv; go_simp; rfl)); go_simp)
    (refine h_read 3 rfl (by kernel_rfl) (by kernel_rfl) (h_free rfl) ?_ ?_ ?_; rotate_left; (focus (intro v hv; have hbv := B1.out.trans (hv.mono B1.out.size); have H9 := HG.out.mono hbv; obtain ⟨c0, c1, c2, c3, c4⟩ := H9.row.c5; go_simp; rfl)); go_simp)
    (refine h_read 4 rfl (by kernel_rfl) (by kernel_rfl) (h_free rfl) ?_ ?_ ?_; rotate_left; (focus (intro v hv; go_simp; rfl)); go_simp)
    (refine h_read 5 rfl (by kernel_rfl) (by kernel_rfl) (h_free rfl) ?_ ?_ ?_; rotate_left; (focus (intro v hv; go_simp; rfl)); go_simp)
    (refine h_call 6 rfl (by kernel_rfl) (h_free rfl) 50 ?_ ?_ ?_; rotate_left; (focus (go_simp; rfl)))
    refine (GPx.out wd (B1.out.trans (D0.out.mono B1.out.size))).mono ?_
    rintro x w2 ⟨rfl, rfl⟩
    refine ⟨_, rfl, D0.out, ?_⟩
    go_simp
    (refine h_read 7 rfl (by kernel_rfl) (by kernel_rfl) (h_free rfl) ?_ ?_ ?_; rotate_left; (focus (intro v hv; go_simp; rfl)); go_simp)
    (refine h_read 8 rfl (by kernel_rfl) (by kernel_rfl) (h_free rfl) ?_ ?_ ?_; rotate_left; (focus (intro v hv; go_simp; rfl)); go_simp)
    refine h_done (by kernel_rfl) ?_

    rw [HN1.out, HC1.out]
    by_cases hm0 : m < 0
    · have HT := Lib.hid (show ((L.map pe).drop k).take m.toNat = ((L.map pe).drop k).take 0 by rw [show m.toNat = 0 by omega])
      have BD := Lib.hid (B1.out.trans (D0.out.mono B1.out.size))
      go_wp2_with fail
      go_loopw [8, 36] (fun v iv wr => ∃ (j : Nat) (a : Option Addr) (cp : Nat) (R : List (En × List UInt8)), v = .slice a j cp ∧ iv = .int .i64 (j : Int) ∧ j ≤ 0 ∧ Hid (Fre wr w.heap.size a j cp R) ∧ Hid (R.map pe = ((L.map pe).drop k).take j) ∧ Hid (Below w.heap.size w wr)) (fun _ iv _ => 0 - (intOf iv).toNat)
      case atStart => exact ⟨0, none, 0, [], rfl, rfl, Nat.zero_le _, Lib.hid (Fre.nil _ _), Lib.hid rfl, BD⟩
      case round =>
        obtain ⟨j, a, cp, R, rfl, rfl, hj, HF, HR, HB⟩ := hrel
        by_cases hlt : j < 0
        · exact absurd hlt (Nat.not_lt_zero _)
        · obtain rfl : j = 0 := by omega
          go_wp2_with fail
          go_ret
          exact ⟨a, _, cp, R, rfl, HF.out, by rw [HT.out]; exact HR.out, HB.out⟩
    · by_cases hm1 : (n1 : Int) < m
      · have hm2 : 0 ≤ m := by omega
        have HT := Lib.hid (show ((L.map pe).drop k).take m.toNat = ((L.map pe).drop k).take n1 by rw [List.take_of_length_le (by rw [HDL.out]; omega), List.take_of_length_le (by rw [HDL.out]; exact Nat.le_refl _)])
        have BD := Lib.hid (B1.out.trans (D0.out.mono B1.out.size))
        go_wp2_with fail
        go_loopw [8, 36] (fun v iv wr => ∃ (j : Nat) (a : Option Addr) (cp : Nat) (R : List (En × List UInt8)), v = .slice a j cp ∧ iv = .int .i64 (j : Int) ∧ j ≤ n1 ∧ Hid (Fre wr w.heap.size a j cp R) ∧ Hid (R.map pe = ((L.map pe).drop k).take j) ∧ Hid (Below w.heap.size w wr)) (fun _ iv _ => n1 - (intOf iv).toNat)
        case atStart => exact ⟨0, none, 0, [], rfl, rfl, Nat.zero_le _, Lib.hid (Fre.nil _ _), Lib.hid rfl, BD⟩
        case round =>
          obtain ⟨j, a, cp, R, rfl, rfl, hj, HF, HR, HB⟩ := hrel
          by_cases hlt : j < n1
          · have hkj : k + j < en := by have := HKN.out; omega
            have hjm : j ≤ 1000000 := by omega
            obtain ⟨x1, o1, he1, hx1, hf1, hk1⟩ := HE.out wr HB.out (k + j) hkj
            simp only [Option.some.injEq, Addr.mk.injEq, and_true] at he1
            obtain ⟨rfl, rfl⟩ := he1
            have hnx := HFIT.out (k + j) hkj
            have hstep := take_drop_pe L (k := k) (j := j) hk1
            obtain ⟨⟨e, l⟩, hq⟩ : ∃ y, L.getD (k + j) Ez = y := ⟨_, rfl⟩
            rw [hq] at hx1 hf1 hnx hstep
            dsimp only at hx1 hf1 hnx
            have X1 : Hid (∀ i v, e.cells[i]? = some v → wr.cell? ⟨g, k * 4 + j * 4 + i, none⟩ = some v) := Lib.hid (fun i v hv => by have := hx1 i v hv; rw [show k * 4 + j * 4 + i = 0 + (k + j) * 4 + i by omega]; exact this)
            have F1 := Lib.hid hf1
            have HS := Lib.hid hstep
            have g5 : (0 : Int) ≤ (j : Int) := by omega
            have g6 : (j : Int) < (n1 : Int) := by omega
            clear hx1 hf1 hq hk1 hstep hkj
            go_wp2_with (first
              | ((with_reducible refine load_cells (o := ⟨some 39, _, _, _, _, _⟩) rfl _ _ rfl g (k * 4 + j * 4) ?_ e.cells _ X1.out Try.underlying34 rfl ?_ ?_); (focus go_simp); (focus (exact ES.out)))
              | ((with_reducible refine alloc_row (o := ⟨some 10, _, _, _, _, _⟩) rfl _ rfl _ EZ.out ?_); intro w2 hr hb hz; have E2 := Lib.hid hr; have C2 := Lib.hid hb; clear hr hb hz)
              | ((with_reducible refine store_row (o := ⟨none, _, _, _, _, _⟩) rfl _ (.tmp 10) _ rfl wr.heap.size e.cells ?_ ?_ 34 _ E2.out ?_ ?_ (cells_one _) ?_); (focus go_simp); (focus (first | (go_simp; done) | (go_simp; rfl))); (focus (exact ES.out)); (focus rfl); intro w3 hr hu; have E3 := Lib.hid hr; have C3 := Lib.hid (C2.out.trans (hu.below (Nat.le_refl _))); clear hr hu)
              | ((with_reducible refine load_row (o := ⟨some 41, _, _, _, _, _⟩) rfl _ _ rfl wr.heap.size ?_ _ e.cells _ E3.out Try.underlying34 rfl ?_ ?_); (focus go_simp); (focus (exact ES.out)))
              | (go_at_call 43; (with_reducible refine (gcopied e l w3 ?_ hnx).mono ?_); (focus (exact F1.out.rd.mono C3.out)); rintro x w4 ⟨ra, rc, rfl, hrd, hfr, hb⟩; have R4 := Lib.hid hrd; have FR4 := Lib.hid (fun b off e' => Nat.le_trans C3.out.size (hfr b off e')); have C4 := Lib.hid (C3.out.trans (hb.mono C3.out.size)); clear hrd hfr hb)
              | ((with_reducible refine build_en (o := ⟨some 43, _, _, _, _, _⟩) rfl _ rfl ⟨e.ix, e.tm, e.kd, ra, e.n, rc⟩ ?_ ?_); (focus go_simp); intro w5 hr5 hb5 hz5; have A5 := Lib.hid hr5; have C5 := Lib.hid hb5; have Oa := Lib.hid ((HF.out.mono (C4.out.trans (hb5.mono C4.out.size))).es); clear hr5 hb5 hz5)
              | (at_builtin; (refine append_en rfl _ _ rfl a j cp (R.map (·.1)) (by go_simp) Oa.out hjm ⟨w4.heap.size, 0, none⟩ 1 ⟨e.ix, e.tm, e.kd, ra, e.n, rc⟩ (by go_simp) (fun i u hi => by rw [Go.WideShapes.add_plain, Nat.zero_add, A5.out.cellV]; exact hi) ?_); intro a' cp' w6 ho hcase; have AP := Lib.hid (Fre.app (l := l) (e := ⟨e.ix, e.tm, e.kd, ra, e.n, rc⟩) HF.out C4.out HB.out.size R4.out FR4.out F1.out.ix F1.out.tm F1.out.kd A5.out C5.out ho hcase); clear ho hcase))
            go_roundw
            case rel => exact ⟨j + 1, a', cp', R ++ [(⟨e.ix, e.tm, e.kd, ra, e.n, rc⟩, l)], rfl, vint (by omega), by omega, Lib.hid AP.out.1, Lib.hid (by rw [List.map_append, HR.out, HS.out]; rfl), Lib.hid (HB.out.trans AP.out.2)⟩
            case measure => (simp [intOf]; try omega)
          · obtain rfl : j = n1 := by omega
            go_wp2_with fail
            go_ret
            exact ⟨a, _, cp, R, rfl, HF.out, by rw [HT.out]; exact HR.out, HB.out⟩
      · obtain ⟨q, rfl⟩ : ∃ q : Nat, m = (q : Int) := ⟨m.toNat, by omega⟩
        have hqn : q ≤ n1 := by omega
        have hm2 : (0 : Int) ≤ (q : Int) := by omega
        have hm3 : (q : Int) ≤ (n1 : Int) := by omega
        have HT := Lib.hid (show ((L.map pe).drop k).take ((q : Int)).toNat = ((L.map pe).drop k).take q by rw [Int.toNat_natCast])
        have BD := Lib.hid (B1.out.trans (D0.out.mono B1.out.size))
        go_wp2_with fail
        go_loopw [8, 36] (fun v iv wr => ∃ (j : Nat) (a : Option Addr) (cp : Nat) (R : List (En × List UInt8)), v = .slice a j cp ∧ iv = .int .i64 (j : Int) ∧ j ≤ q ∧ Hid (Fre wr w.heap.size a j cp R) ∧ Hid (R.map pe = ((L.map pe).drop k).take j) ∧ Hid (Below w.heap.size w wr)) (fun _ iv _ => q - (intOf iv).toNat)
        case atStart => exact ⟨0, none, 0, [], rfl, rfl, Nat.zero_le _, Lib.hid (Fre.nil _ _), Lib.hid rfl, BD⟩
        case round =>
          obtain ⟨j, a, cp, R, rfl, rfl, hj, HF, HR, HB⟩ := hrel
          by_cases hlt : j < q
          · have hkj : k + j < en := by have := HKN.out; omega
            have hjm : j ≤ 1000000 := by omega
            obtain ⟨x1, o1, he1, hx1, hf1, hk1⟩ := HE.out wr HB.out (k + j) hkj
            simp only [Option.some.injEq, Addr.mk.injEq, and_true] at he1
            obtain ⟨rfl, rfl⟩ := he1
            have hnx := HFIT.out (k + j) hkj
            have hstep := take_drop_pe L (k := k) (j := j) hk1
            obtain ⟨⟨e, l⟩, hq⟩ : ∃ y, L.getD (k + j) Ez = y := ⟨_, rfl⟩
            rw [hq] at hx1 hf1 hnx hstep
            dsimp only at hx1 hf1 hnx
            have X1 : Hid (∀ i v, e.cells[i]? = some v → wr.cell? ⟨g, k * 4 + j * 4 + i, none⟩ = some v) := Lib.hid (fun i v hv => by have := hx1 i v hv; rw [show k * 4 + j * 4 + i = 0 + (k + j) * 4 + i by omega]; exact this)
            have F1 := Lib.hid hf1
            have HS := Lib.hid hstep
            have g5 : (0 : Int) ≤ (j : Int) := by omega
            have g6 : (j : Int) < (q : Int) := by omega
            clear hx1 hf1 hq hk1 hstep hkj
            go_wp2_with (first
              | ((with_reducible refine load_cells (o := ⟨some 39, _, _, _, _, _⟩) rfl _ _ rfl g (k * 4 + j * 4) ?_ e.cells _ X1.out Try.underlying34 rfl ?_ ?_); (focus go_simp); (focus (exact ES.out)))
              | ((with_reducible refine alloc_row (o := ⟨some 10, _, _, _, _, _⟩) rfl _ rfl _ EZ.out ?_); intro w2 hr hb hz; have E2 := Lib.hid hr; have C2 := Lib.hid hb; clear hr hb hz)
              | ((with_reducible refine store_row (o := ⟨none, _, _, _, _, _⟩) rfl _ (.tmp 10) _ rfl wr.heap.size e.cells ?_ ?_ 34 _ E2.out ?_ ?_ (cells_one _) ?_); (focus go_simp); (focus (first | (go_simp; done) | (go_simp; rfl))); (focus (exact ES.out)); (focus rfl); intro w3 hr hu; have E3 := Lib.hid hr; have C3 := Lib.hid (C2.out.trans (hu.below (Nat.le_refl _))); clear hr hu)
              | ((with_reducible refine load_row (o := ⟨some 41, _, _, _, _, _⟩) rfl _ _ rfl wr.heap.size ?_ _ e.cells _ E3.out Try.underlying34 rfl ?_ ?_); (focus go_simp); (focus (exact ES.out)))
              | (go_at_call 43; (with_reducible refine (gcopied e l w3 ?_ hnx).mono ?_); (focus (exact F1.out.rd.mono C3.out)); rintro x w4 ⟨ra, rc, rfl, hrd, hfr, hb⟩; have R4 := Lib.hid hrd; have FR4 := Lib.hid (fun b off e' => Nat.le_trans C3.out.size (hfr b off e')); have C4 := Lib.hid (C3.out.trans (hb.mono C3.out.size)); clear hrd hfr hb)
              | ((with_reducible refine build_en (o := ⟨some 43, _, _, _, _, _⟩) rfl _ rfl ⟨e.ix, e.tm, e.kd, ra, e.n, rc⟩ ?_ ?_); (focus go_simp); intro w5 hr5 hb5 hz5; have A5 := Lib.hid hr5; have C5 := Lib.hid hb5; have Oa := Lib.hid ((HF.out.mono (C4.out.trans (hb5.mono C4.out.size))).es); clear hr5 hb5 hz5)
              | (at_builtin; (refine append_en rfl _ _ rfl a j cp (R.map (·.1)) (by go_simp) Oa.out hjm ⟨w4.heap.size, 0, none⟩ 1 ⟨e.ix, e.tm, e.kd, ra, e.n, rc⟩ (by go_simp) (fun i u hi => by rw [Go.WideShapes.add_plain, Nat.zero_add, A5.out.cellV]; exact hi) ?_); intro a' cp' w6 ho hcase; have AP := Lib.hid (Fre.app (l := l) (e := ⟨e.ix, e.tm, e.kd, ra, e.n, rc⟩) HF.out C4.out HB.out.size R4.out FR4.out F1.out.ix F1.out.tm F1.out.kd A5.out C5.out ho hcase); clear ho hcase))
            go_roundw
            case rel => exact ⟨j + 1, a', cp', R ++ [(⟨e.ix, e.tm, e.kd, ra, e.n, rc⟩, l)], rfl, vint (by omega), by omega, Lib.hid AP.out.1, Lib.hid (by rw [List.map_append, HR.out, HS.out]; rfl), Lib.hid (HB.out.trans AP.out.2)⟩
            case measure => (simp [intOf]; try omega)
          · obtain rfl : j = q := by omega
            go_wp2_with fail
            go_ret
            exact ⟨a, _, cp, R, rfl, HF.out, by rw [HT.out]; exact HR.out, HB.out⟩
end Go.Proofs.Ytnlbdgaleibgcaa.W
