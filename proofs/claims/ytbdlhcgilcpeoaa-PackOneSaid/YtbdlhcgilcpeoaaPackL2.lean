/- THE LAWS of layer 2 (pack), the second part: PackBack, PackOne. -/
import Derived.Test.YtbdlhcgilcpeoaaPackL
import Derived.Deep.RegionHeld3
namespace Go.Proofs.Ytbdlhcgilcpeoaa.W
open Go.ChangeShapes Go.WideShapes Go.ChangeAt Go.RowKit
open Go.Proofs.Ytbdlhcgilcpeoaa.P (mk lo hi enc tl gr up dec)

theorem str_of (s : ByteArray) : str s.data.toList = s := rfl
theorem numR_enc (most : Int) (n : Nat) (t : List UInt8) (hn : n < 9223372036854775808) (hm : ¬ most < (n : Int)) : numR most (enc n ++ t) 0 = (n, t, 0) := by
  have h := P.dec_enc n hn t
  rw [numR_ok (by rw [h]) (by rw [h]; exact hm), h]
  simp
theorem textR_enc (most : Int) (s : ByteArray) (t : List UInt8) (hn : s.size < 9223372036854775808) (hm : ¬ most < (s.size : Int)) : textR most (enc s.size ++ (s.data.toList ++ t)) 0 = (s.data.toList, t, 0) := by
  have h := numR_enc most s.size (s.data.toList ++ t) hn hm
  unfold textR
  rw [h]
  have hl : s.data.toList.length = s.size := by simp
  simp only
  rw [if_neg (by simp), if_neg (by simp), List.take_left' hl, List.drop_left' hl]
theorem yesR_enc (y : Bool) (t : List UInt8) : yesR ((if y then (1 : UInt8) else 0) :: t) 0 = (y, t, 0) := by
  cases y <;> rfl

set_option maxHeartbeats 4000000 in
theorem law_PackBack (n : Int) (s : ByteArray) (yes : Bool) (a : Option Addr) (len cap : Nat) (zs : List Int) (w : World) (w0 : (Lit.int .i64 n).wf = true) (w1 : s.size ≤ maxLen) (w3 : IsRow .u8 w a len cap zs) :
    Calls Try.prog 11 #[.int .i64 n, .string s, .bool yes, .slice a len cap] w fun e w' => e = .returned (.bool true) ∧ Below w.heap.size w w' := by
  have hr := Rd.of_row w3
  obtain ⟨l, hl⟩ : ∃ l, (zs.take len).map (fun n => UInt8.ofNat n.toNat) = l := ⟨_, rfl⟩
  rw [hl] at hr
  clear hl w3
  have hle := hr.hle
  have hmax := hr.hmax
  have hn := (bd w0).2
  unfold maxLen at w1
  have hsi : (s.size : Int) ≤ 9223372036854775807 := by omega
  have HR := Lib.hid hr
  have HLL := Lib.hid hr.hlen
  clear hr w0 w1
  by_cases h1 : (2000 : Int) < (len : Int)
  · go_enter Try.func11, Try.ntmps11
    go_wp2_with (go_at_call 32; refine (awake2 _).mono ?_; rintro e w' ⟨rfl, hb⟩)
    go_ret
    exact ⟨rfl, by assumption⟩
  · by_cases h2 : (2000 : Int) < (s.size : Int)
    · go_enter Try.func11, Try.ntmps11
      go_wp2_with (go_at_call 32; refine (awake2 _).mono ?_; rintro e w' ⟨rfl, hb⟩)
      go_ret
      exact ⟨rfl, by assumption⟩
    · have e9 : (enc n.toNat).length ≤ 9 := P.enc_len n.toNat (by omega)
      have f9 : (enc s.size).length ≤ 9 := P.enc_len s.size (by omega)
      obtain ⟨E, hE⟩ : ∃ E, enc n.toNat = E := ⟨_, rfl⟩
      obtain ⟨F, hF⟩ : ∃ F, enc s.size = F := ⟨_, rfl⟩
      obtain ⟨Y, hY⟩ : ∃ Y : UInt8, (if yes then (1 : UInt8) else 0) = Y := ⟨_, rfl⟩
      have r1 := numR_enc 9223372036854775807 n.toNat (F ++ (s.data.toList ++ (Y :: l))) (by omega) (by omega)
      have r2 := textR_enc 2000 s (Y :: l) (by omega) (by omega)
      have r3 := yesR_enc yes l
      rw [hE] at r1 e9
      rw [hF] at r2 f9
      rw [hY] at r3
      have HE := Lib.hid hE
      have HF := Lib.hid hF
      have HY := Lib.hid hY
      have R1 := Lib.hid r1
      have R2 := Lib.hid r2
      have R3 := Lib.hid r3
      clear hE hF hY r1 r2 r3
      have hs : ∀ (x : Nat), (E ++ (F ++ s.data.toList) ++ [Y]).length = E.length + (F.length + s.size) + 1 := fun _ => by simp; omega
      have HS := Lib.hid (hs 0)
      clear hs
      by_cases hneg : n < 0
      all_goals
        go_enter Try.func11, Try.ntmps11
        go_wp2_with fail
        refine (pnum none 0 0 n [] w (Rd_nil w) hn (by omega)).mono ?_
        rw [HE.out, List.nil_append]
        rintro e w1 ⟨rfl, hk1, hb1, -⟩
        have hs1 := hb1.size
        go_wp2_with fail
        refine (ptext _ _ _ s E w1 (hk1.rd' E.length rfl (by omega)) (by omega) (by omega)).mono ?_
        rw [HF.out]
        rintro e w2 ⟨rfl, hk2, hb2, -⟩
        have hb2' := hb1.trans (hb2.mono hs1)
        have hs2 := hb2'.size
        clear hk1 hb2
        go_wp2_with fail
        refine (pyes _ _ _ yes (E ++ (F ++ s.data.toList)) w2 (hk2.rd' (E.length + (F.length + s.size)) (by simp) (by omega)) (by omega)).mono ?_
        rw [HY.out]
        rintro e w3 ⟨rfl, hk3, hb3, -⟩
        have hb3' := hb2'.trans (hb3.mono hs2)
        have hf3 := hk3.fr hs2 (by rw [HS.out]; omega)
        rw [HS.out] at hf3
        have HF3 := Lib.hid hf3
        have HR3 := Lib.hid (HR.out.mono hb3')
        have hs3 := hb3'.size
        clear hk2 hb3 hk3 hf3 hb1 hb2'
        go_wp2_with (at_builtin; refine append_rd rfl _ _ rfl w.heap.size _ (E ++ (F ++ s.data.toList) ++ [Y]) rfl HF3.out _ _ _ l rfl HR3.out (by rw [HS.out]; omega) hs3 ?_; intro v4 w4 hf4 hb4 _)
        have hb4' := hb3'.trans hb4
        have hlist : E ++ (F ++ s.data.toList) ++ [Y] ++ l = E ++ (F ++ (s.data.toList ++ (Y :: l))) := by simp
        rw [hlist] at hf4
        have hll := HLL.out
        obtain ⟨T, hT⟩ : ∃ T, (E ++ (F ++ (s.data.toList ++ (Y :: l)))).length = T := ⟨_, rfl⟩
        have hT2 : T ≤ 5000 := by rw [← hT]; simp; omega
        obtain ⟨a4, c4, hv4, hr4⟩ := hf4.form' T hT
        rw [hv4]
        have HR4 := Lib.hid hr4
        have hs4 := hb4'.size
        clear hb3' hb4 hlist hf4 hll hT hv4 hr4 hs3
        go_wp2_with fail
        refine (popen _ _ _ _ w4 HR4.out (by omega)).mono ?_
        rintro e w5 ⟨p, rfl, hp, hrp, hb5⟩
        have hb5' := hb4'.trans (hb5.mono hs4)
        have hwp : w.heap.size ≤ p := by omega
        clear hb4' hb5 hp
        go_wp2_with fail
        refine (pnumR p _ _ 0 w5 hrp).mono ?_
        rw [R1.out]
        rintro e w6 ⟨rfl, hrp6, hu6⟩
        simp only at hrp6
        have hb6 := hb5'.trans (hu6.below hwp)
        clear hu6 hb5' hrp
        go_wp2_with fail
        refine (ptextR p _ _ 0 w6 hrp6).mono ?_
        rw [R2.out]
        rintro e w7 ⟨rfl, hrp7, hu7⟩
        simp only [str_of] at hrp7 ⊢
        have hb7 := hb6.trans (hu7.below hwp)
        clear hu7 hb6 hrp6
        go_wp2_with fail
        refine (pyesR p _ 0 w7 hrp7).mono ?_
        rw [R3.out]
        rintro e w8 ⟨rfl, hrp8, hu8⟩
        simp only at hrp8
        have hb8 := hb7.trans (hu8.below hwp)
        clear hu8 hb7 hrp7
        go_wp2_with fail
        refine (perr p _ 0 w8 hrp8).mono ?_
        rintro e w9 ⟨rfl, rfl⟩
        go_wp2_with fail
        refine (pleft p _ 0 w8 hrp8).mono ?_
        rw [HLL.out]
        rintro e w9 ⟨rfl, rfl⟩
        go_wp2_with (go_at_call 32; refine (awake2 _).mono ?_; rintro e w' ⟨rfl, hb⟩)
        go_ret
        exact ⟨rfl, hb8.trans ((by assumption : Below w8.heap.size w8 _).mono hb8.size)⟩

set_option maxHeartbeats 4000000 in
theorem law_PackOne (a : Option Addr) (len cap : Nat) (zs : List Int) (most : Int) (w : World) (w0 : IsRow .u8 w a len cap zs) (_w1 : (Lit.int .i64 most).wf = true) :
    Calls Try.prog 12 #[.slice a len cap, .int .i64 most] w fun e w' => e = .returned (.bool true) ∧ Below w.heap.size w w' := by
  have hr := Rd.of_row w0
  obtain ⟨l, hl⟩ : ∃ l, (zs.take len).map (fun n => UInt8.ofNat n.toNat) = l := ⟨_, rfl⟩
  rw [hl] at hr
  clear hl w0
  have hle := hr.hle
  have hmax := hr.hmax
  have HR := Lib.hid hr
  have hll := hr.hlen
  have HLL := Lib.hid hll
  clear hr
  by_cases h1 : (2000 : Int) < (len : Int)
  · clear hll
    go_enter Try.func12, Try.ntmps12
    go_wp2_with (go_at_call 32; refine (awake2 _).mono ?_; rintro e w' ⟨rfl, hb⟩)
    go_ret
    exact ⟨rfl, by assumption⟩
  · by_cases hd : (dec 9 0 0 l).2.2 = 0
    · by_cases hm : most < ((dec 9 0 0 l).1 : Int)
      · have hn := numR_long hd hm
        have HN := Lib.hid hn
        clear hd hm hn hll
        go_enter Try.func12, Try.ntmps12
        go_wp2_with fail
        refine (sclone a len cap l w HR.out (by omega)).mono ?_
        rintro e w1 ⟨v1, rfl, hf1, hb1⟩
        obtain ⟨a1, c1, hv1, hr1⟩ := hf1.form' len HLL.out
        rw [hv1]
        have HR1 := Lib.hid hr1
        have hs1 := hb1.size
        clear hf1 hv1 hr1
        go_wp2_with fail
        refine (popen _ _ _ _ w1 HR1.out (by omega)).mono ?_
        rintro e w2 ⟨p, rfl, hp, hrp, hb2⟩
        have hb2' := hb1.trans (hb2.mono hs1)
        have hwp : w.heap.size ≤ p := by omega
        clear hb2 hp hb1
        go_wp2_with fail
        refine (pnumR p _ _ 0 w2 hrp).mono ?_
        rw [HN.out]
        rintro e w3 ⟨rfl, hrp3, hu3⟩
        simp only at hrp3
        have hb3 := hb2'.trans (hu3.below hwp)
        clear hu3 hb2' hrp
        go_wp2_with fail
        refine (perr p _ 5 w3 hrp3).mono ?_
        rintro e w9 ⟨rfl, rfl⟩
        go_wp2_with fail
        refine (pleft p _ 5 w3 hrp3).mono ?_
        rintro e w9 ⟨rfl, rfl⟩
        go_wp2_with (go_at_call 32; refine (awake2 _).mono ?_; rintro e w' ⟨rfl, hb⟩)
        go_ret
        exact ⟨rfl, hb3.trans ((by assumption : Below w3.heap.size w3 _).mono hb3.size)⟩
      · obtain ⟨-, hs2, -⟩ := P.dec_size 9 0 0 l hd
        have hs0 := (P.dec_size 9 0 0 l hd).1
        have hrng := P.dec_rng l
        have henc := P.enc_dec9 l hd
        have hn := numR_ok hd hm
        generalize dec 9 0 0 l = d at *
        obtain ⟨N, sz, d3⟩ := d
        simp only at hd hm hs2 hs0 hrng henc hn
        subst hd
        obtain ⟨m, hm2⟩ : ∃ m, (l.drop sz).length = m := ⟨_, rfl⟩
        have hml : m + sz = len := by rw [← hm2, List.length_drop]; omega
        have HN := Lib.hid hn
        have HENC := Lib.hid henc
        have HM2 := Lib.hid hm2
        have hNi : (N : Int) ≤ 9223372036854775807 := by omega
        have hNm : (N : Int) ≤ most := by omega
        have htk : (l.take sz).length = sz := by rw [List.length_take]; omega
        have HTK := Lib.hid htk
        clear hn henc hm2 hll hm htk
        subst hml
        go_enter Try.func12, Try.ntmps12
        go_wp2_with fail
        refine (sclone a (m + sz) cap l w HR.out (by omega)).mono ?_
        rintro e w1 ⟨v1, rfl, hf1, hb1⟩
        obtain ⟨a1, c1, hv1, hr1⟩ := hf1.form' (m + sz) HLL.out
        rw [hv1]
        have HR1 := Lib.hid hr1
        have hs1 := hb1.size
        clear hf1 hv1 hr1
        go_wp2_with fail
        refine (popen _ _ _ _ w1 HR1.out (by omega)).mono ?_
        rintro e w2 ⟨p, rfl, hp, hrp, hb2⟩
        have hb2' := hb1.trans (hb2.mono hs1)
        have hwp : w.heap.size ≤ p := by omega
        clear hb2 hp hb1
        go_wp2_with fail
        refine (pnumR p _ _ 0 w2 hrp).mono ?_
        rw [HN.out]
        rintro e w3 ⟨rfl, hrp3, hu3⟩
        simp only at hrp3
        have hb3 := hb2'.trans (hu3.below hwp)
        clear hu3 hb2' hrp
        go_wp2_with fail
        refine (perr p _ 0 w3 hrp3).mono ?_
        rintro e w9 ⟨rfl, rfl⟩
        go_wp2_with fail
        refine (pleft p _ 0 w3 hrp3).mono ?_
        rw [HM2.out]
        rintro e w9 ⟨rfl, rfl⟩
        have hPN : ∀ W, Below w.heap.size w W → Calls Try.prog 35 #[.slice none 0 0, .int .i64 (N : Int)] W fun e w' => e = .returned (.slice (some ⟨W.heap.size, 0, none⟩) sz sz) ∧ Blk w' W.heap.size (l.take sz) ∧ Below w.heap.size w w' := by
          intro W hW
          refine (pnum none 0 0 (N : Int) [] W (Rd_nil W) hNi (by omega)).mono ?_
          rw [Int.toNat_natCast, HENC.out, HTK.out, Nat.zero_add]
          rintro e w' ⟨rfl, hk, hb, -⟩
          exact ⟨rfl, hk, hW.trans (hb.mono hW.size)⟩
        have hSE : ∀ W g, Blk W g (l.take sz) → Below w.heap.size w W → Calls Try.prog 34 #[.slice (some ⟨g, 0, none⟩) sz sz, .slice a sz cap] W fun e w' => e = .returned (.bool true) ∧ Below w.heap.size w w' := by
          intro W g hk hW
          refine (sequal _ _ _ _ _ _ _ _ W (hk.rd' sz HTK.out (by omega)) (rd_take (HR.out.mono hW) sz (by omega) cap (by omega) (Nat.le_refl _))).mono ?_
          rintro e w' ⟨rfl, hq⟩
          exact ⟨by simp, hW.trans ((hq.below W.heap.size).mono hW.size)⟩
        have hPS : ∀ W, Calls Try.prog 41 #[.int .i64 (N : Int)] W fun e w' => e = .returned (.int .i64 (sz : Int)) ∧ W = w' := by
          intro W
          have := psize (N : Int) W hNi
          rw [Int.toNat_natCast, HENC.out, HTK.out] at this
          exact this
        have hAW : ∀ W, Below w.heap.size w W → Calls Try.prog 32 #[] W fun e w' => e = .returned (.bool true) ∧ Below w.heap.size w w' := by
          intro W hW
          refine (awake2 W).mono ?_
          rintro e w' ⟨rfl, hb⟩
          exact ⟨rfl, hW.trans (hb.mono hW.size)⟩
        have HPN := Lib.hid hPN
        have HSE := Lib.hid hSE
        have HPS := Lib.hid hPS
        have HAW := Lib.hid hAW
        clear hPN hSE hPS hAW
        go_wp2_with fail
        rw [show (m : Int) + (sz : Int) - (m : Int) = (sz : Int) by omega]
        have hz1 : (1 : Int) ≤ (sz : Int) := by omega
        have hz2 : (sz : Int) ≤ (m : Int) + (sz : Int) := by omega
        have hz3 : (sz : Int) ≤ (cap : Int) := by omega
        have hz4 : ¬ cap = 0 := by omega
        clear hrp3
        go_region_held3 (fun w' => Below w.heap.size w w') (first | assumption | exact Below.drew (by assumption)) (first | (go_at_call 35; refine (HPN.out _ (by assumption)).mono ?_; rintro e w4 ⟨rfl, hk4, hb4⟩) | (go_at_call 34; refine (HSE.out _ _ (by assumption) (by assumption)).mono ?_; rintro e w5 ⟨rfl, hb5⟩) | (go_at_call 41; refine (HPS.out _).mono ?_; rintro e w6 ⟨rfl, rfl⟩) | (go_at_call 32; refine (HAW.out _ (by assumption)).mono ?_; rintro e w7 ⟨rfl, hb7⟩))
        go_wp2_with fail
        go_ret
        exact ⟨rfl, by assumption⟩
    · have her := P.dec_err 9 0 0 l
      obtain ⟨er, her0⟩ : ∃ er, (dec 9 0 0 l).2.2 = er := ⟨_, rfl⟩
      have hn := numR_bad (most := most) hd
      rw [her0] at hn hd
      have HN := Lib.hid hn
      have he1 : (er != 0) = true := by simpa using hd
      clear hd hn hll her her0
      go_enter Try.func12, Try.ntmps12
      go_wp2_with fail
      refine (sclone a len cap l w HR.out (by omega)).mono ?_
      rintro e w1 ⟨v1, rfl, hf1, hb1⟩
      obtain ⟨a1, c1, hv1, hr1⟩ := hf1.form' len HLL.out
      rw [hv1]
      have HR1 := Lib.hid hr1
      have hs1 := hb1.size
      clear hf1 hv1 hr1
      go_wp2_with fail
      refine (popen _ _ _ _ w1 HR1.out (by omega)).mono ?_
      rintro e w2 ⟨p, rfl, hp, hrp, hb2⟩
      have hb2' := hb1.trans (hb2.mono hs1)
      have hwp : w.heap.size ≤ p := by omega
      clear hb2 hp hb1
      go_wp2_with fail
      refine (pnumR p _ _ 0 w2 hrp).mono ?_
      rw [HN.out]
      rintro e w3 ⟨rfl, hrp3, hu3⟩
      simp only at hrp3
      have hb3 := hb2'.trans (hu3.below hwp)
      clear hu3 hb2' hrp
      go_wp2_with fail
      refine (perr p _ er w3 hrp3).mono ?_
      rintro e w9 ⟨rfl, rfl⟩
      go_wp2_with fail
      refine (pleft p _ er w3 hrp3).mono ?_
      rintro e w9 ⟨rfl, rfl⟩
      go_wp2_with (go_at_call 32; refine (awake2 _).mono ?_; rintro e w' ⟨rfl, hb⟩)
      go_ret
      exact ⟨rfl, hb3.trans ((by assumption : Below w3.heap.size w3 _).mono hb3.size)⟩

end Go.Proofs.Ytbdlhcgilcpeoaa.W
