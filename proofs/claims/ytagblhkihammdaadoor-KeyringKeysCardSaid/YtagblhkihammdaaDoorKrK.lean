/- THE LAW KeyringKeys: a ring of any master key has the keys of the document, however often and in whatever order it is asked. -/
import Derived.Test.YtagblhkihammdaaDoorKrF
namespace Go.Proofs.YtagblhkihammdaaDoor.W
open Go Go.ChangeShapes Go.WideShapes Go.ChangeAt Go.RowKit

theorem wrap_div (n : Int) (h0 : -9223372036854775808 ≤ n) (h1 : n ≤ 9223372036854775807) : wrap64 (n.tdiv 3) = n.tdiv 3 := by
  have hq : -9223372036854775808 ≤ n.tdiv 3 ∧ n.tdiv 3 ≤ 9223372036854775807 := by
    by_cases h2 : 0 ≤ n
    · rw [Int.tdiv_eq_ediv_of_nonneg h2]; omega
    · have e : n.tdiv 3 = -((-n).tdiv 3) := by rw [Int.neg_tdiv, Int.neg_neg]
      rw [e, Int.tdiv_eq_ediv_of_nonneg (by omega)]; omega
  generalize n.tdiv 3 = q at *
  unfold wrap64
  omega
theorem lane_of (q : Int) (h : 0 ≤ q ∧ q < 5) : ∃ l : Nat, q = (l : Int) ∧ l < 5 := ⟨q.toNat, by omega, by omega⟩
theorem lane_out (q : Int) (h : ¬(0 ≤ q ∧ q < 5)) : q < 0 ∨ (¬ q < 0 ∧ 5 ≤ q) := by omega
theorem count_ge (b : Nat → Bool) (l : Nat) (hl : l < 5) : countV b ≤ countV (upd b l) ∧ 1 ≤ countV (upd b l) := by
  rcases h : b l with _ | _
  · rw [count_upd b l hl h]
    have := count_bound b
    omega
  · rw [upd_same b l h]
    refine ⟨Int.le_refl _, ?_⟩
    have h01 : ∀ c : Bool, 0 ≤ one01 c ∧ one01 c ≤ 1 := by decide
    have := h01 (b 0); have := h01 (b 1); have := h01 (b 2); have := h01 (b 3); have := h01 (b 4)
    have hb1 : one01 (b l) = 1 := by rw [h]; rfl
    unfold countV
    rcases five l hl with rfl | rfl | rfl | rfl | rfl <;> omega

set_option maxRecDepth 100000 in
set_option maxHeartbeats 1000000 in
theorem rkey_any (s p : ByteArray) (n : Int) (w : World) (hs : s.size ≤ 50000000000000) (hp : p.size ≤ 40000000000000) :
    Calls Tryd.prog 21 #[.string s, .string p, .int .i64 n] w fun e w' => e = .returned (.string (str (derL s.data.toList p.data.toList n))) ∧ Below w.heap.size w w' := by
  have key := rderive_any s p n w hs hp
  obtain ⟨S, hS⟩ : ∃ S, str (derL s.data.toList p.data.toList n) = S := ⟨_, rfl⟩
  rw [hS] at key ⊢
  have HK := Lib.hid key
  clear key hS
  go_enter Tryd.func21, Tryd.ntmps21
  go_wp2_with fail
  refine HK.out.mono ?_
  rintro e w' ⟨rfl, hb⟩
  have HB := Lib.hid hb
  clear hb
  go_wp2_with fail
  go_ret
  exact ⟨rfl, HB.out⟩

set_option maxRecDepth 100000 in
set_option maxHeartbeats 4000000 in
theorem law_KeyringKeys (s : ByteArray) (a : Option Addr) (len cap : Nat) (zs : List Int) (w : World) (hK : Ks w) (hs : s.size ≤ maxLen) (hrow : IsRow .i64 w a len cap zs) :
    Calls Tryd.prog 4 #[.string s, .slice a len cap] w fun x w' => x = .returned (.bool true) ∧ Below w.heap.size w w' := by
  have HK := Lib.hid hK
  obtain ⟨hsl, hlc⟩ := Sl.of_row hrow
  have HROW := Lib.hid hsl
  unfold maxLen at hs
  obtain ⟨K, hKK⟩ : ∃ K, (fun i j => keyV s i j) = K := ⟨_, rfl⟩
  have HKK := Lib.hid (show ∀ i j, i < 5 → j < 3 → keyV s i j = K i j from fun i j _ _ => by rw [← hKK])
  clear hK hKK hrow hsl
  by_cases h1 : 500 < s.size
  · clear hs
    go_enter Tryd.func4, Tryd.ntmps4
    go_wp2_with fail
    refine (krnew_any s K w HKK.out).mono ?_
    rintro e w1 ⟨rfl, hr1, hb1, hz1⟩
    have HB1 := Lib.hid hb1
    clear hr1 hb1 hz1
    go_wp2_with (go_at_call 17; refine (awake7 w1 (HK.out.below HB1.out HK.out.pos)).mono ?_; rintro e w' ⟨rfl, hb⟩)
    go_ret
    exact ⟨rfl, HB1.out.trans (hb.mono HB1.out.size)⟩
  have HS5 := Lib.hid (show s.size ≤ 40000000000000 by omega)
  clear hs hlc
  go_enter Tryd.func4, Tryd.ntmps4
  go_wp2_with fail
  refine (krnew_any s K w HKK.out).mono ?_
  rintro e w1 ⟨rfl, hr1, hb1, hz1⟩
  have HR1 := Lib.hid hr1
  have HB1 := Lib.hid hb1
  have HG0 := Lib.hid (show w.heap.size ≠ 0 by have := HK.out.pos; omega)
  clear hr1 hb1 hz1
  go_wp2_with fail
  go_loopw [6, 30] (fun v i wr => ∃ (k : Nat) (b : Nat → Bool) (mv : Int), v = .int .i64 mv ∧ i = .int .i64 (k : Int) ∧ k ≤ len ∧ 0 ≤ mv ∧ mv ≤ countV b ∧ Hid (Ring wr w.heap.size s K b) ∧ Hid (Below w.heap.size w wr)) (fun _ i _ => len - (intOf i).toNat)
  case atStart => exact ⟨0, fun _ => false, 0, rfl, rfl, Nat.zero_le _, by decide, by decide, HR1, HB1⟩
  case round =>
    obtain ⟨k, b, mv, rfl, rfl, hk, hmv0, hmv, HRG, HB⟩ := hrel
    by_cases hlt : k < len
    · obtain ⟨bb, off, hae, hblt, hcell⟩ := HROW.out.2.2.2.resolve_left (by omega)
      subst hae
      have hc := hcell k hlt
      have hwf := HROW.out.2.2.1
      have hlen := HROW.out.1
      obtain ⟨n, hn⟩ : ∃ n, (zs.take len).getD k 0 = n := ⟨_, rfl⟩
      have hnb : (Lit.int .i64 n).wf = true := hwf n (by rw [← hn]; have hk2 : k < (zs.take len).length := by rw [hlen]; exact hlt
                                                         have : (zs.take len).getD k 0 = (zs.take len)[k] := by rw [List.getD_eq_getElem?_getD, List.getElem?_eq_getElem hk2]; rfl
                                                         rw [this]; exact List.getElem_mem hk2)
      rw [hn] at hc
      rw [← HB.out.cell (p := ⟨bb, off + k, none⟩) hblt] at hc
      obtain ⟨n0, n1⟩ := bd hnb
      clear hcell hwf hlen hn hnb
      by_cases h20 : 20 ≤ k
      · go_wp2_with (go_at_call 17; refine (awake7 wr (HK.out.below HB.out HK.out.pos)).mono ?_; rintro x w7 ⟨rfl, hb7⟩)
        go_ret
        exact ⟨rfl, HB.out.trans (hb7.mono HB.out.size)⟩
      · obtain ⟨q, hq⟩ : ∃ q, n.tdiv 3 = q := ⟨_, rfl⟩
        obtain ⟨r, hr⟩ : ∃ r, n.tmod 3 = r := ⟨_, rfl⟩
        have hw3 : wrap64 q = q := by rw [← hq]; exact wrap_div n n0 n1
        clear n0 n1
        by_cases h1r : r = 1
        · subst h1r
          by_cases hql : 0 ≤ q ∧ q < 5
          · obtain ⟨l, rfl, hl5⟩ := lane_of q hql
            go_wp2_with fail
            clear hq hr
            refine (put_ok w.heap.size s K b l wr (HK.out.below HB.out HK.out.pos) HRG.out HG0.out hl5 HS5.out).mono ?_
            rintro e w3 ⟨rfl, hr3, hg3⟩
            have HR3 := Lib.hid hr3
            have HB3 := Lib.hid (HB.out.trans (hg3.below (Nat.le_refl _) HB.out.size))
            clear hr3 hg3 hc
            go_wp2_with (go_at_call 21; refine (rkey_any s ⟨#[112, 117, 116]⟩ (l : Int) w3 (Nat.le_trans HS5.out (by decide)) (by decide)).mono ?_; rw [show str (derL s.data.toList (ByteArray.mk #[112, 117, 116]).data.toList (l : Int)) = K l 1 from HKK.out l 1 hl5 (by decide)]; rintro e w4 ⟨rfl, hb4⟩; have HR4 := Lib.hid (HR3.out.below hb4); have HB4 := Lib.hid (HB3.out.trans (hb4.mono HB3.out.size)); clear hb4)
            obtain ⟨cu, hcu⟩ : ∃ cu, countV (upd b l) = cu := ⟨_, rfl⟩
            have HCU := Lib.hid hcu
            have hge := count_ge b l hl5
            have hcb := count_bound (upd b l)
            rw [hcu] at hge hcb
            have g1 : ¬ cu < mv := by omega
            have g2 : ¬ 5 < cu := by omega
            have g3 : ¬ cu < 1 := by omega
            clear hcu
            go_wp2_with (go_at_call 22; refine (made_ring _ _ _ _ _ HR4.out).mono ?_; rw [HCU.out]; rintro e w' ⟨rfl, rfl⟩)
            go_roundw
            case rel => exact ⟨k + 1, upd b l, cu, rfl, vint (by omega), by omega, by omega, by rw [HCU.out]; exact Int.le_refl _, HR4, HB4⟩
            case measure => simp [intOf]; omega
          · rcases lane_out q hql with hq0 | ⟨hq0, hq5⟩
            · clear hql
              go_wp2_with fail
              clear hq hr
              refine (put_out w.heap.size q wr HRG.out.made HRG.out.row.lt (.inl hq0)).mono ?_
              rintro e w3 ⟨rfl, hb3⟩
              have HR3 := Lib.hid (HRG.out.below hb3)
              have HB3 := Lib.hid (HB.out.trans (hb3.mono HB.out.size))
              clear hb3 hc
              go_wp2_with fail
              go_roundw
              case rel => exact ⟨k + 1, b, mv, rfl, vint (by omega), by omega, hmv0, hmv, HR3, HB3⟩
              case measure => simp [intOf]; omega
            · clear hql
              go_wp2_with fail
              clear hq hr
              refine (put_out w.heap.size q wr HRG.out.made HRG.out.row.lt (.inr hq5)).mono ?_
              rintro e w3 ⟨rfl, hb3⟩
              have HR3 := Lib.hid (HRG.out.below hb3)
              have HB3 := Lib.hid (HB.out.trans (hb3.mono HB.out.size))
              clear hb3 hc
              go_wp2_with fail
              go_roundw
              case rel => exact ⟨k + 1, b, mv, rfl, vint (by omega), by omega, hmv0, hmv, HR3, HB3⟩
              case measure => simp [intOf]; omega
        · by_cases h2r : r = 2
          · subst h2r
            by_cases hql : 0 ≤ q ∧ q < 5
            · obtain ⟨l, rfl, hl5⟩ := lane_of q hql
              go_wp2_with fail
              clear hq hr
              refine (get_ok w.heap.size s K b l wr (HK.out.below HB.out HK.out.pos) HRG.out HG0.out hl5 HS5.out).mono ?_
              rintro e w3 ⟨rfl, hr3, hg3⟩
              have HR3 := Lib.hid hr3
              have HB3 := Lib.hid (HB.out.trans (hg3.below (Nat.le_refl _) HB.out.size))
              clear hr3 hg3 hc
              go_wp2_with (go_at_call 21; refine (rkey_any s ⟨#[103, 101, 116]⟩ (l : Int) w3 (Nat.le_trans HS5.out (by decide)) (by decide)).mono ?_; rw [show str (derL s.data.toList (ByteArray.mk #[103, 101, 116]).data.toList (l : Int)) = K l 2 from HKK.out l 2 hl5 (by decide)]; rintro e w4 ⟨rfl, hb4⟩; have HR4 := Lib.hid (HR3.out.below hb4); have HB4 := Lib.hid (HB3.out.trans (hb4.mono HB3.out.size)); clear hb4)
              obtain ⟨cu, hcu⟩ : ∃ cu, countV (upd b l) = cu := ⟨_, rfl⟩
              have HCU := Lib.hid hcu
              have hge := count_ge b l hl5
              have hcb := count_bound (upd b l)
              rw [hcu] at hge hcb
              have g1 : ¬ cu < mv := by omega
              have g2 : ¬ 5 < cu := by omega
              have g3 : ¬ cu < 1 := by omega
              clear hcu
              go_wp2_with (go_at_call 22; refine (made_ring _ _ _ _ _ HR4.out).mono ?_; rw [HCU.out]; rintro e w' ⟨rfl, rfl⟩)
              go_roundw
              case rel => exact ⟨k + 1, upd b l, cu, rfl, vint (by omega), by omega, by omega, by rw [HCU.out]; exact Int.le_refl _, HR4, HB4⟩
              case measure => simp [intOf]; omega
            · rcases lane_out q hql with hq0 | ⟨hq0, hq5⟩
              · clear hql
                go_wp2_with fail
                clear hq hr
                refine (get_out w.heap.size q wr HRG.out.made HRG.out.row.lt (.inl hq0)).mono ?_
                rintro e w3 ⟨rfl, hb3⟩
                have HR3 := Lib.hid (HRG.out.below hb3)
                have HB3 := Lib.hid (HB.out.trans (hb3.mono HB.out.size))
                clear hb3 hc
                go_wp2_with fail
                go_roundw
                case rel => exact ⟨k + 1, b, mv, rfl, vint (by omega), by omega, hmv0, hmv, HR3, HB3⟩
                case measure => simp [intOf]; omega
              · clear hql
                go_wp2_with fail
                clear hq hr
                refine (get_out w.heap.size q wr HRG.out.made HRG.out.row.lt (.inr hq5)).mono ?_
                rintro e w3 ⟨rfl, hb3⟩
                have HR3 := Lib.hid (HRG.out.below hb3)
                have HB3 := Lib.hid (HB.out.trans (hb3.mono HB.out.size))
                clear hb3 hc
                go_wp2_with fail
                go_roundw
                case rel => exact ⟨k + 1, b, mv, rfl, vint (by omega), by omega, hmv0, hmv, HR3, HB3⟩
                case measure => simp [intOf]; omega
          · have t1 : (r == 1) = false := by simpa using h1r
            have t2 : (r == 2) = false := by simpa using h2r
            by_cases hql : 0 ≤ q ∧ q < 5
            · obtain ⟨l, rfl, hl5⟩ := lane_of q hql
              go_wp2_with fail
              clear hq hr
              refine (tok_ok w.heap.size s K b l wr (HK.out.below HB.out HK.out.pos) HRG.out HG0.out hl5 HS5.out).mono ?_
              rintro e w3 ⟨rfl, hr3, hg3⟩
              have HR3 := Lib.hid hr3
              have HB3 := Lib.hid (HB.out.trans (hg3.below (Nat.le_refl _) HB.out.size))
              clear hr3 hg3 hc
              go_wp2_with (go_at_call 21; refine (rkey_any s ⟨#[116, 111, 107, 101, 110]⟩ (l : Int) w3 (Nat.le_trans HS5.out (by decide)) (by decide)).mono ?_; rw [show str (derL s.data.toList (ByteArray.mk #[116, 111, 107, 101, 110]).data.toList (l : Int)) = K l 0 from HKK.out l 0 hl5 (by decide)]; rintro e w4 ⟨rfl, hb4⟩; have HR4 := Lib.hid (HR3.out.below hb4); have HB4 := Lib.hid (HB3.out.trans (hb4.mono HB3.out.size)); clear hb4)
              obtain ⟨cu, hcu⟩ : ∃ cu, countV (upd b l) = cu := ⟨_, rfl⟩
              have HCU := Lib.hid hcu
              have hge := count_ge b l hl5
              have hcb := count_bound (upd b l)
              rw [hcu] at hge hcb
              have g1 : ¬ cu < mv := by omega
              have g2 : ¬ 5 < cu := by omega
              have g3 : ¬ cu < 1 := by omega
              clear hcu
              go_wp2_with (go_at_call 22; refine (made_ring _ _ _ _ _ HR4.out).mono ?_; rw [HCU.out]; rintro e w' ⟨rfl, rfl⟩)
              go_roundw
              case rel => exact ⟨k + 1, upd b l, cu, rfl, vint (by omega), by omega, by omega, by rw [HCU.out]; exact Int.le_refl _, HR4, HB4⟩
              case measure => simp [intOf]; omega
            · rcases lane_out q hql with hq0 | ⟨hq0, hq5⟩
              · clear hql
                go_wp2_with fail
                clear hq hr
                refine (tok_out w.heap.size q wr HRG.out.made HRG.out.row.lt (.inl hq0)).mono ?_
                rintro e w3 ⟨rfl, hb3⟩
                have HR3 := Lib.hid (HRG.out.below hb3)
                have HB3 := Lib.hid (HB.out.trans (hb3.mono HB.out.size))
                clear hb3 hc
                go_wp2_with fail
                go_roundw
                case rel => exact ⟨k + 1, b, mv, rfl, vint (by omega), by omega, hmv0, hmv, HR3, HB3⟩
                case measure => simp [intOf]; omega
              · clear hql
                go_wp2_with fail
                clear hq hr
                refine (tok_out w.heap.size q wr HRG.out.made HRG.out.row.lt (.inr hq5)).mono ?_
                rintro e w3 ⟨rfl, hb3⟩
                have HR3 := Lib.hid (HRG.out.below hb3)
                have HB3 := Lib.hid (HB.out.trans (hb3.mono HB.out.size))
                clear hb3 hc
                go_wp2_with fail
                go_roundw
                case rel => exact ⟨k + 1, b, mv, rfl, vint (by omega), by omega, hmv0, hmv, HR3, HB3⟩
                case measure => simp [intOf]; omega
    · go_wp2_with (go_at_call 17; refine (awake7 wr (HK.out.below HB.out HK.out.pos)).mono ?_; rintro x w7 ⟨rfl, hb7⟩)
      go_ret
      exact ⟨rfl, HB.out.trans (hb7.mono HB.out.size)⟩

end Go.Proofs.YtagblhkihammdaaDoor.W
