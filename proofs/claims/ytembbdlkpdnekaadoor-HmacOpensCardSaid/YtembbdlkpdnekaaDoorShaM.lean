/- THE LAW ShaParts: in whatever parts a text is written, its sum is the same. -/
import Derived.Test.YtembbdlkpdnekaaDoorShaK
import Derived.Deep.Matrix
namespace Go.Proofs.YtembbdlkpdnekaaDoor.W
open Go.ChangeShapes Go.WideShapes Go.ChangeAt Go.RowKit
open Go.Proofs.YtembbdlkpdnekaaDoor.P

/-- A slice of slices of bytes: row r reads as the bytes X r. -/
structure Bss (w : World) (a : Option Addr) (len cap : Nat) (X : Nat → List UInt8) : Prop where
  hmax : len ≤ 9223372036854775807
  hcells : len = 0 ∨ ∃ b off, a = some ⟨b, off, none⟩ ∧ b < w.heap.size ∧ ∀ r, r < len → ∃ A n c, w.cell? ⟨b, off + r, none⟩ = some (.slice A n c) ∧ Rd w A n c (X r)

theorem bss_open {H : Type} {enc : TypeId × Value → H} {w : World} {base : Nat} {held : Bool} {a : Option Addr} {len cap : Nat} {d : DataW H} {pl : List MemPlace}
    (h : DataW.Trod enc Tryd.prog w base (fun _ => true) held 36 (.slice a len cap) d pl) : ∃ X, Bss w a len cap X := by
  obtain ⟨fuel, hf⟩ := h
  rcases Go.Deep.open_int_rows Tryd.underlying36 Tryd.underlying29 Tryd.underlying5 (by kernel_rfl) (by kernel_rfl) hf with ⟨hcs, -⟩ | ⟨x, len', cap', A, L, C, Z, hcs, -, hl, hm, -, hx⟩
  · simp [Value.cells] at hcs
    obtain ⟨rfl, rfl, rfl⟩ := hcs
    exact ⟨fun _ => [], by omega, .inl rfl⟩
  · simp [Value.cells] at hcs
    obtain ⟨rfl, rfl, rfl⟩ := hcs
    refine ⟨fun r => ((Z r).take (L r)).map fun n => UInt8.ofNat n.toNat, by unfold maxLen at hm; omega, ?_⟩
    by_cases h0 : len = 0
    · exact .inl h0
    · right
      obtain ⟨b, off, spot⟩ := x
      have hspot : spot = none := by simpa [Addr.add] using World.cell?_spot (hx 0 (by omega)).1
      subst hspot
      refine ⟨b, off, rfl, ?_, fun r hr => ?_⟩
      · exact World.block_lt_of_cell? w _ (by have := (hx 0 (by omega)).1; rw [Go.WideShapes.add_plain] at this; exact this)
      · obtain ⟨c0, h1, h2, h3, h4, h5, h6⟩ := hx r (by omega)
        rw [Go.WideShapes.add_plain] at c0
        refine ⟨A r, L r, C r, c0, Rd.of_row ?_⟩
        rcases ha : A r with _ | ad
        · have hc0 := h5 ha
          exact .inl ⟨rfl, by omega, hc0, List.eq_nil_of_length_eq_zero (by omega)⟩
        · exact .inr ⟨ad, rfl, h1, h2, h3, fun i hi => (h6 ad ha).2 i (by omega), h4⟩

theorem Fr.gw {w w' : World} {base g : Nat} {v : Value} {l : List UInt8} (h : Fr w base v l) (k : Gw g w w') (hg : g < base) : Fr w' base v l := by
  have hlt := World.ownsRow.lt h
  obtain ⟨h1, h2⟩ := h
  refine ⟨h1, ?_⟩
  rcases h2 with h2 | ⟨q, cap, cur, rfl, hq, hh, r⟩
  · exact .inl h2
  · exact .inr ⟨q, cap, cur, rfl, hq, by rw [k.block q (hlt q rfl).2 (by omega)]; exact hh, r⟩
/-- a store into a block that is newer than the world w -/
theorem Gw.newer {g q : Nat} {w w' w'' : World} (h : Gw g w w') (hu : Upd w' w'' q) (hq : w.heap.size ≤ q) : Gw g w w'' :=
  ⟨hu.os.trans h.os, hu.tape.trans h.tape, hu.output.trans h.output, by rw [hu.size]; exact h.size, fun k hk hg => by rw [hu.block k (by omega)]; exact h.block k hk hg⟩

set_option maxRecDepth 100000 in
set_option maxHeartbeats 4000000 in
theorem law_ShaParts (a : Option Addr) (len cap : Nat) (X : Nat → List UInt8) (w : World) (hK : Ks w) (h : Bss w a len cap X) :
    Calls Tryd.prog 6 #[.slice a len cap] w fun e w' => e = .returned (.bool true) ∧ Below w.heap.size w w' := by
  have HK := Lib.hid hK
  have hm := h.hmax
  have H := Lib.hid h
  clear hK h
  go_enter Tryd.func6, Tryd.ntmps6
  go_wp2_with fail
  refine (new_any w).mono ?_
  rintro e w1 ⟨g, rfl, hg, hht1, hb1⟩
  have HG0 := Lib.hid (show g ≠ 0 by have := HK.out.pos; omega)
  have HB1 := Lib.hid hb1
  have HT1 := Lib.hid hht1
  have HGW := Lib.hid hg
  have hglt := hht1.lt
  have HGLT := Lib.hid hglt
  clear hb1 hht1 hg hglt
  go_wp2_with fail
  go_loopw [4, 14] (fun v i wr => ∃ (k : Nat) (lst : List UInt8), k ≤ len ∧ i = .int .i64 k ∧ lst.length ≤ 300 * k ∧ k ≤ 20 ∧ Hid (Fr wr w1.heap.size v lst ∧ HT wr g lst ∧ Below w.heap.size w wr ∧ w1.heap.size ≤ wr.heap.size)) (fun _ i _ => len - (intOf i).toNat)
  case atStart => exact ⟨0, [], Nat.zero_le _, rfl, by simp, by omega, Lib.hid ⟨Fr.nil _ _, HT1.out, HB1.out, Nat.le_refl _⟩⟩
  case round =>
    obtain ⟨k, lst, hk, rfl, hll, hk20, HI⟩ := hrel
    obtain ⟨hfr, hht, hbw, hsz⟩ := HI.out
    have HFR := Lib.hid hfr
    have HHT := Lib.hid hht
    have HBW := Lib.hid hbw
    have HSZ := Lib.hid hsz
    clear hfr hht hbw hsz HI
    by_cases hlt : k < len
    · obtain ⟨b, off, rfl, hblt, hcell⟩ := H.out.hcells.resolve_left (by omega)
      obtain ⟨A, n, c, hc, hrd⟩ := hcell k hlt
      have hc' : _ = some (Value.slice A n c) := (HBW.out.cell (p := ⟨b, off + k, none⟩) hblt).trans hc
      have HRD := Lib.hid (hrd.mono HBW.out)
      have hnl := hrd.hlen
      have hnc := hrd.hle
      have hncm := hrd.hmax
      have HAP := Lib.hid (show ∀ b' off', A = some ⟨b', off', none⟩ → n ≠ 0 → b' ≠ g from fun b' off' he hn0 => by
        obtain ⟨b2, o2, he2, hl2, -⟩ := hrd.lt_of hn0
        have := HGW.out
        rw [he] at he2
        simp at he2
        omega)
      obtain ⟨x, hx⟩ : ∃ x, X k = x := ⟨_, rfl⟩
      rw [hx] at HRD hnl
      have HNL := Lib.hid hnl
      clear hcell hc hrd hx hnl
      by_cases h20 : 20 ≤ k
      · obtain ⟨S, hS⟩ : ∃ S, str (shaL lst) = S := ⟨_, rfl⟩
        have HSS := Lib.hid hS
        clear hS
        obtain ⟨av, cv, hv, hrv⟩ := HFR.out.form' lst.length rfl
        have HRV := Lib.hid hrv
        subst hv
        clear hrv
        go_wp2_with fail
        refine (sum_any g lst wr (HK.out.below HBW.out HK.out.pos) HG0.out HHT.out (by omega)).mono ?_
        rw [HSS.out]
        rintro e f1 ⟨rfl, hf1⟩
        have HF1 := Lib.hid (HBW.out.trans (hf1.mono HBW.out.size))
        have HRV1 := Lib.hid (HRV.out.mono hf1)
        clear hf1
        go_wp2_with fail
        refine (shasum_any av lst.length cv lst f1 (HK.out.below HF1.out HK.out.pos) HRV1.out (by omega)).mono ?_
        rw [HSS.out]
        rintro e f2 ⟨rfl, hf2⟩
        have HF2 := Lib.hid (HF1.out.trans (hf2.mono HF1.out.size))
        clear hf2
        go_wp2_with fail
        refine (awake3 f2 (HK.out.below HF2.out HK.out.pos)).mono ?_
        rintro e f3 ⟨rfl, hf3⟩
        go_wp2_with fail
        go_ret
        exact ⟨rfl, HF2.out.trans (hf3.mono HF2.out.size)⟩
      · by_cases h300 : 300 < n
        · obtain ⟨S, hS⟩ : ∃ S, str (shaL lst) = S := ⟨_, rfl⟩
          have HSS := Lib.hid hS
          clear hS
          obtain ⟨av, cv, hv, hrv⟩ := HFR.out.form' lst.length rfl
          have HRV := Lib.hid hrv
          subst hv
          clear hrv
          go_wp2_with fail
          refine (sum_any g lst wr (HK.out.below HBW.out HK.out.pos) HG0.out HHT.out (by omega)).mono ?_
          rw [HSS.out]
          rintro e f1 ⟨rfl, hf1⟩
          have HF1 := Lib.hid (HBW.out.trans (hf1.mono HBW.out.size))
          have HRV1 := Lib.hid (HRV.out.mono hf1)
          clear hf1
          go_wp2_with fail
          refine (shasum_any av lst.length cv lst f1 (HK.out.below HF1.out HK.out.pos) HRV1.out (by omega)).mono ?_
          rw [HSS.out]
          rintro e f2 ⟨rfl, hf2⟩
          have HF2 := Lib.hid (HF1.out.trans (hf2.mono HF1.out.size))
          clear hf2
          go_wp2_with fail
          refine (awake3 f2 (HK.out.below HF2.out HK.out.pos)).mono ?_
          rintro e f3 ⟨rfl, hf3⟩
          go_wp2_with fail
          go_ret
          exact ⟨rfl, HF2.out.trans (hf3.mono HF2.out.size)⟩
        · go_wp2_with fail
          refine (sclone A n c x wr HRD.out (by omega)).mono ?_
          rintro e w3 ⟨v7, rfl, hf7, hb3⟩
          obtain ⟨a7, c7, hv7, hr7, hown7⟩ := hf7.form
          rw [HNL.out] at hv7 hr7
          subst hv7
          have HGR3 := Lib.hid (Gw.of_below (g := g) hb3)
          have HT3 := Lib.hid (HHT.out.below hb3 HHT.out.lt)
          have HF7 := Lib.hid hf7
          have HR7 := Lib.hid hr7
          have HAP7 := Lib.hid (show n ≠ 0 → ∀ b' off', a7 = some ⟨b', off', none⟩ → b' ≠ g from fun hn0 b' off' he => by
            rcases hown7 with h7 | ⟨g7, h7, hge, -⟩
            · rw [h7] at he; cases he
            · rw [h7] at he
              simp at he
              have := HHT.out.lt
              omega)
          have HK3 := Lib.hid (HK.out.below (HBW.out.trans (hb3.mono HBW.out.size)) HK.out.pos)
          have HS3 := Lib.hid hb3.size
          clear hf7 hr7 hb3 hc'
          go_wp2_with fail
          refine (write_any g a7 n c7 x lst w3 HK3.out HG0.out HT3.out HR7.out HAP7.out (by omega)).mono ?_
          rintro e w4 ⟨rfl, hht4, hgw4⟩
          have HT4 := Lib.hid hht4
          have HG4 := Lib.hid (HGR3.out.trans hgw4)
          have HF74 := Lib.hid (HF7.out.gw hgw4 HHT.out.lt)
          clear hht4 hgw4
          have HOWN := Lib.hid hown7
          clear hown7
          obtain ⟨wo, hwo⟩ : ∃ wo : World, wo = wr := ⟨_, rfl⟩
          subst hwo
          have HXL := Lib.hid (show (lst ++ x).length = lst.length + n by rw [List.length_append, HNL.out])
          go_wp2_with fail
          go_loopw [33] (fun i wq => ∃ (q : Nat) (y : List UInt8), q ≤ n ∧ i = .int .i64 q ∧ y.length = n ∧ Hid (Fr wq wo.heap.size (.slice a7 n c7) y ∧ Gw g wo wq ∧ HT wq g (lst ++ x))) (fun i _ => n - (intOf i).toNat)
          case atStart => exact ⟨0, x, Nat.zero_le _, rfl, HNL.out, Lib.hid ⟨HF74.out, HG4.out, HT4.out⟩⟩
          case round =>
            obtain ⟨q, y, hq, rfl, hy, HI2⟩ := hrel
            obtain ⟨hfy, hgy, hty⟩ := HI2.out
            by_cases hqn : q < n
            · rcases HOWN.out with h7 | ⟨g7, h7, hge, hlt7⟩
              · have h8 := HR7.out.hnil h7
                have h9 := HR7.out.hle
                omega
              · subst h7
                have hcq : _ = some (Value.int .u8 ((y.getD q 0).toNat : Int)) := hfy.cellAt q (by omega) hy.symm
                have hfz := hfy.frozenAt q hy.symm
                have hset := hfy.set q 255 hy.symm
                have hne7 : g ≠ g7 := by have := HHT.out.lt; omega
                have HI3 := Lib.hid (show Fr (wr.setCell ⟨g7, q, none⟩ (.int .u8 255)) wo.heap.size (.slice (some ⟨g7, 0, none⟩) n c7) (y.set q 255) ∧ Gw g wo (wr.setCell ⟨g7, q, none⟩ (.int .u8 255)) ∧ HT (wr.setCell ⟨g7, q, none⟩ (.int .u8 255)) g (lst ++ x) from
                  ⟨hset, hgy.newer (Upd.setCell wr g7 q _) hge, hty.gw (Gw.upd (Upd.setCell wr g7 q _)) hne7⟩)
                have hyl : (y.set q 255).length = n := by rw [List.length_set]; exact hy
                have HYL := Lib.hid hyl
                clear hfy hgy hty HI2 hset hyl
                obtain ⟨z, hz⟩ : ∃ z : Int, ((y.getD q 0).toNat : Int) = z := ⟨_, rfl⟩
                rw [hz] at hcq
                clear hz
                go_wp2_with fail
                go_roundw
                case rel => exact ⟨q + 1, y.set q 255, by omega, by go_num, HYL.out, HI3⟩
                case measure => simp [intOf]; omega
            · have HG5 := Lib.hid hgy
              have HT5 := Lib.hid hty
              have HB5 := Lib.hid (HBW.out.trans (hgy.below HGW.out HBW.out.size))
              have HS5 := Lib.hid (Nat.le_trans HSZ.out hgy.size)
              have HFR5 := Lib.hid (HFR.out.gw hgy HGLT.out)
              have HRD5 := Lib.hid (HRD.out.gw hgy (fun hn0 b' off' he => HAP.out b' off' he hn0))
              clear hfy hgy hty HI2
              go_wp2_with (at_builtin; refine append_rd rfl _ _ rfl w1.heap.size _ lst rfl HFR5.out A n c x rfl HRD5.out (by omega) HS5.out ?_; intro v6 w6 hf6 hb6 _)
              have HT6 := Lib.hid (HT5.out.below hb6 HGLT.out)
              have HB6 := Lib.hid (HB5.out.trans (hb6.mono HB1.out.size))
              have HS6 := Lib.hid (Nat.le_trans HS5.out hb6.size)
              have HF6 := Lib.hid hf6
              obtain ⟨av, cv, hv, hrv⟩ := hf6.form' (lst.length + n) HXL.out
              have HRV := Lib.hid hrv
              subst hv
              obtain ⟨S, hS⟩ : ∃ S, str (shaL (lst ++ x)) = S := ⟨_, rfl⟩
              have HSS := Lib.hid hS
              clear hf6 hb6 hrv hS
              go_wp2_with fail
              refine (sum_any g (lst ++ x) w6 (HK.out.below HB6.out HK.out.pos) HG0.out HT6.out (by rw [HXL.out]; omega)).mono ?_
              rw [HSS.out]
              rintro e w7 ⟨rfl, hb7⟩
              have HB7 := Lib.hid (HB6.out.trans (hb7.mono HB6.out.size))
              have HRV7 := Lib.hid (HRV.out.mono hb7)
              have HT7 := Lib.hid (HT6.out.below hb7 HT6.out.lt)
              have HF7' := Lib.hid (HF6.out.kept hb7)
              have HS7 := Lib.hid (Nat.le_trans HS6.out hb7.size)
              clear hb7
              go_wp2_with fail
              refine (shasum_any av (lst.length + n) cv (lst ++ x) w7 (HK.out.below HB7.out HK.out.pos) HRV7.out (by omega)).mono ?_
              rw [HSS.out]
              rintro e w8 ⟨rfl, hb8⟩
              have HB8 := Lib.hid (HB7.out.trans (hb8.mono HB7.out.size))
              have HT8 := Lib.hid (HT7.out.below hb8 HT7.out.lt)
              have HF8 := Lib.hid (HF7'.out.kept hb8)
              have HS8 := Lib.hid (Nat.le_trans HS7.out hb8.size)
              clear hb8
              go_wp2_with fail
              refine (len_any g (lst ++ x) w8 HT8.out).mono ?_
              rw [HXL.out]
              rintro e w9 ⟨rfl, rfl⟩
              go_wp2_with fail
              go_roundw
              case rel => exact ⟨k + 1, lst ++ x, by omega, by go_num, by rw [HXL.out]; omega, by omega, Lib.hid ⟨HF8.out, HT8.out, HB8.out, HS8.out⟩⟩
              case measure => simp [intOf]; omega
    · obtain ⟨S, hS⟩ : ∃ S, str (shaL lst) = S := ⟨_, rfl⟩
      have HSS := Lib.hid hS
      clear hS
      obtain ⟨av, cv, hv, hrv⟩ := HFR.out.form' lst.length rfl
      have HRV := Lib.hid hrv
      subst hv
      clear hrv
      go_wp2_with fail
      refine (sum_any g lst wr (HK.out.below HBW.out HK.out.pos) HG0.out HHT.out (by omega)).mono ?_
      rw [HSS.out]
      rintro e f1 ⟨rfl, hf1⟩
      have HF1 := Lib.hid (HBW.out.trans (hf1.mono HBW.out.size))
      have HRV1 := Lib.hid (HRV.out.mono hf1)
      clear hf1
      go_wp2_with fail
      refine (shasum_any av lst.length cv lst f1 (HK.out.below HF1.out HK.out.pos) HRV1.out (by omega)).mono ?_
      rw [HSS.out]
      rintro e f2 ⟨rfl, hf2⟩
      have HF2 := Lib.hid (HF1.out.trans (hf2.mono HF1.out.size))
      clear hf2
      go_wp2_with fail
      refine (awake3 f2 (HK.out.below HF2.out HK.out.pos)).mono ?_
      rintro e f3 ⟨rfl, hf3⟩
      go_wp2_with fail
      go_ret
      exact ⟨rfl, HF2.out.trans (hf3.mono HF2.out.size)⟩

end Go.Proofs.YtembbdlkpdnekaaDoor.W
