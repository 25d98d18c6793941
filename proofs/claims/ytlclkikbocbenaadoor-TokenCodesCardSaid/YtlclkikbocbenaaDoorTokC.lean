/- CONTRACTS of layer 8 (token): which tokens may be. CONTRACTS of layer 8 (token): Mint; the reference's Check and Mint. -/
import Derived.Test.YtlclkikbocbenaaDoorTokA
import Derived.Test.YtlclkikbocbenaaDoorArr
set_option linter.unusedSimpArgs false
set_option linter.unusedVariables false
namespace Go.Proofs.YtlclkikbocbenaaDoor.W
open Go.ChangeShapes Go.WideShapes Go.ChangeAt Go.RowKit
open Go.Proofs.YtlclkikbocbenaaDoor.P (enc)

def headV (lane id epoch : Int) : Bool := (decide (0 ≤ lane) && decide (lane ≤ 4)) && ((decide (1 ≤ id) && decide (id ≤ 2147483648)) && (decide (0 ≤ epoch) && decide (epoch ≤ 2147483648)))
def tokOk (lane id epoch : Int) (L : List Cv) (tag : ByteArray) : Bool := headV lane id epoch && (decide (tag.size = 32) && (decide (L.length ≤ 8) && L.all Cv.ok))
def tokErr (lane id epoch : Int) (L : List Cv) (tag : ByteArray) : Int := if tokOk lane id epoch L tag then 0 else 1

set_option maxRecDepth 100000 in
set_option maxHeartbeats 1000000 in
theorem tkcheck_any (lane id epoch : Int) (a : Option Addr) (len cap : Nat) (L : List Cv) (tag : ByteArray) (w : World) (h : Cvs w a len cap L) :
    Calls Tryd.prog 35 #[.agg #[.int .i64 lane, .int .i64 id, .int .i64 epoch, .slice a len cap, .string tag]] w fun e w' => e = .returned (.int .i64 (tokErr lane id epoch L tag)) ∧ Below w.heap.size w w' := by
  have H := Lib.hid h
  have hlen := h.hlen
  obtain ⟨R, hR⟩ : ∃ R, tokErr lane id epoch L tag = R := ⟨_, rfl⟩
  rw [hR]
  unfold tokErr tokOk headV at hR
  rw [hlen] at hR
  clear h hlen
  rcases hb1 : (decide (0 ≤ lane) && decide (lane ≤ 4)) with _ | _
  · have HB1 := Lib.hid hb1
    have HB2 := Lib.hid (rfl : (decide (1 ≤ id) && decide (id ≤ 2147483648)) = _)
    have HB3 := Lib.hid (rfl : (decide (0 ≤ epoch) && decide (epoch ≤ 2147483648)) = _)
    rw [hb1] at hR
    have HRR := Lib.hid (show R = 1 by rw [← hR]; rfl)
    clear hb1 hR
    go_enter Tryd.func35, Tryd.ntmps35
    go_wp2_with (first
        | (with_reducible refine box_row (o := ⟨some 1, _, _, _, _, _⟩) rfl _ _ rfl [.int .i64 lane, .int .i64 id, .int .i64 epoch, .slice a len cap, .string tag] rfl ?_; intro w1 hr1 hb1 hz1; have HR1 := Lib.hid hr1; have HW1 := Lib.hid hb1; clear hr1 hb1 hz1; have g0 := HR1.out.cellV 0; have g1 := HR1.out.cellV 1; have g2 := HR1.out.cellV 2; have g3 := HR1.out.cellV 3; have g4 := HR1.out.cellV 4; simp only [List.getElem?_cons_zero, List.getElem?_cons_succ] at g0 g1 g2 g3 g4)
        | (go_at_call 65; first | ((with_reducible refine (cwithin_b lane 0 4 _ _ HB1.out).mono ?_); rintro e w' ⟨rfl, rfl⟩) | ((with_reducible refine (cwithin_b id 1 2147483648 _ _ HB2.out).mono ?_); rintro e w' ⟨rfl, rfl⟩) | ((with_reducible refine (cwithin_b epoch 0 2147483648 _ _ HB3.out).mono ?_); rintro e w' ⟨rfl, rfl⟩)))
    go_ret
    exact ⟨by rw [HRR.out]; rfl, HW1.out⟩
  rcases hb2 : (decide (1 ≤ id) && decide (id ≤ 2147483648)) with _ | _
  · have HB1 := Lib.hid hb1
    have HB2 := Lib.hid hb2
    have HB3 := Lib.hid (rfl : (decide (0 ≤ epoch) && decide (epoch ≤ 2147483648)) = _)
    rw [hb1, hb2] at hR
    have HRR := Lib.hid (show R = 1 by rw [← hR]; rfl)
    clear hb1 hb2 hR
    go_enter Tryd.func35, Tryd.ntmps35
    go_wp2_with (first
        | (with_reducible refine box_row (o := ⟨some 1, _, _, _, _, _⟩) rfl _ _ rfl [.int .i64 lane, .int .i64 id, .int .i64 epoch, .slice a len cap, .string tag] rfl ?_; intro w1 hr1 hb1 hz1; have HR1 := Lib.hid hr1; have HW1 := Lib.hid hb1; clear hr1 hb1 hz1; have g0 := HR1.out.cellV 0; have g1 := HR1.out.cellV 1; have g2 := HR1.out.cellV 2; have g3 := HR1.out.cellV 3; have g4 := HR1.out.cellV 4; simp only [List.getElem?_cons_zero, List.getElem?_cons_succ] at g0 g1 g2 g3 g4)
        | (go_at_call 65; first | ((with_reducible refine (cwithin_b lane 0 4 _ _ HB1.out).mono ?_); rintro e w' ⟨rfl, rfl⟩) | ((with_reducible refine (cwithin_b id 1 2147483648 _ _ HB2.out).mono ?_); rintro e w' ⟨rfl, rfl⟩) | ((with_reducible refine (cwithin_b epoch 0 2147483648 _ _ HB3.out).mono ?_); rintro e w' ⟨rfl, rfl⟩)))
    go_ret
    exact ⟨by rw [HRR.out]; rfl, HW1.out⟩
  rcases hb3 : (decide (0 ≤ epoch) && decide (epoch ≤ 2147483648)) with _ | _
  · have HB1 := Lib.hid hb1
    have HB2 := Lib.hid hb2
    have HB3 := Lib.hid hb3
    rw [hb1, hb2, hb3] at hR
    have HRR := Lib.hid (show R = 1 by rw [← hR]; rfl)
    clear hb1 hb2 hb3 hR
    go_enter Tryd.func35, Tryd.ntmps35
    go_wp2_with (first
        | (with_reducible refine box_row (o := ⟨some 1, _, _, _, _, _⟩) rfl _ _ rfl [.int .i64 lane, .int .i64 id, .int .i64 epoch, .slice a len cap, .string tag] rfl ?_; intro w1 hr1 hb1 hz1; have HR1 := Lib.hid hr1; have HW1 := Lib.hid hb1; clear hr1 hb1 hz1; have g0 := HR1.out.cellV 0; have g1 := HR1.out.cellV 1; have g2 := HR1.out.cellV 2; have g3 := HR1.out.cellV 3; have g4 := HR1.out.cellV 4; simp only [List.getElem?_cons_zero, List.getElem?_cons_succ] at g0 g1 g2 g3 g4)
        | (go_at_call 65; first | ((with_reducible refine (cwithin_b lane 0 4 _ _ HB1.out).mono ?_); rintro e w' ⟨rfl, rfl⟩) | ((with_reducible refine (cwithin_b id 1 2147483648 _ _ HB2.out).mono ?_); rintro e w' ⟨rfl, rfl⟩) | ((with_reducible refine (cwithin_b epoch 0 2147483648 _ _ HB3.out).mono ?_); rintro e w' ⟨rfl, rfl⟩)))
    go_ret
    exact ⟨by rw [HRR.out]; rfl, HW1.out⟩
  have HB1 := Lib.hid hb1
  have HB2 := Lib.hid hb2
  have HB3 := Lib.hid hb3
  rw [hb1, hb2, hb3] at hR
  clear hb1 hb2 hb3
  by_cases ht : tag.size = 32
  · rcases hft : (decide (len ≤ 8) && L.all Cv.ok) with _ | _
    · have HFT := Lib.hid hft
      have HRR := Lib.hid (show R = 1 by rw [← hR, hft, decide_eq_true ht]; rfl)
      clear hR hft
      go_enter Tryd.func35, Tryd.ntmps35
      go_wp2_with (first
          | (with_reducible refine box_row (o := ⟨some 1, _, _, _, _, _⟩) rfl _ _ rfl [.int .i64 lane, .int .i64 id, .int .i64 epoch, .slice a len cap, .string tag] rfl ?_; intro w1 hr1 hb1 hz1; have HR1 := Lib.hid hr1; have HW1 := Lib.hid hb1; clear hr1 hb1 hz1; have g0 := HR1.out.cellV 0; have g1 := HR1.out.cellV 1; have g2 := HR1.out.cellV 2; have g3 := HR1.out.cellV 3; have g4 := HR1.out.cellV 4; simp only [List.getElem?_cons_zero, List.getElem?_cons_succ] at g0 g1 g2 g3 g4)
          | (go_at_call 65; first | ((with_reducible refine (cwithin_b lane 0 4 _ _ HB1.out).mono ?_); rintro e w' ⟨rfl, rfl⟩) | ((with_reducible refine (cwithin_b id 1 2147483648 _ _ HB2.out).mono ?_); rintro e w' ⟨rfl, rfl⟩) | ((with_reducible refine (cwithin_b epoch 0 2147483648 _ _ HB3.out).mono ?_); rintro e w' ⟨rfl, rfl⟩))
          | (go_at_call 66; refine (fit_any a len cap L w1 (H.out.mono HW1.out)).mono ?_; rw [HFT.out]; rintro e w2 ⟨rfl, hb2⟩; have HW2 := Lib.hid (HW1.out.trans (hb2.mono HW1.out.size)); clear hb2 g0 g1 g2 g3 g4))
      go_ret
      exact ⟨by rw [HRR.out]; rfl, HW2.out⟩
    · have HFT := Lib.hid hft
      have HRR := Lib.hid (show R = 0 by rw [← hR, hft, decide_eq_true ht]; rfl)
      clear hR hft
      go_enter Tryd.func35, Tryd.ntmps35
      go_wp2_with (first
          | (with_reducible refine box_row (o := ⟨some 1, _, _, _, _, _⟩) rfl _ _ rfl [.int .i64 lane, .int .i64 id, .int .i64 epoch, .slice a len cap, .string tag] rfl ?_; intro w1 hr1 hb1 hz1; have HR1 := Lib.hid hr1; have HW1 := Lib.hid hb1; clear hr1 hb1 hz1; have g0 := HR1.out.cellV 0; have g1 := HR1.out.cellV 1; have g2 := HR1.out.cellV 2; have g3 := HR1.out.cellV 3; have g4 := HR1.out.cellV 4; simp only [List.getElem?_cons_zero, List.getElem?_cons_succ] at g0 g1 g2 g3 g4)
          | (go_at_call 65; first | ((with_reducible refine (cwithin_b lane 0 4 _ _ HB1.out).mono ?_); rintro e w' ⟨rfl, rfl⟩) | ((with_reducible refine (cwithin_b id 1 2147483648 _ _ HB2.out).mono ?_); rintro e w' ⟨rfl, rfl⟩) | ((with_reducible refine (cwithin_b epoch 0 2147483648 _ _ HB3.out).mono ?_); rintro e w' ⟨rfl, rfl⟩))
          | (go_at_call 66; refine (fit_any a len cap L w1 (H.out.mono HW1.out)).mono ?_; rw [HFT.out]; rintro e w2 ⟨rfl, hb2⟩; have HW2 := Lib.hid (HW1.out.trans (hb2.mono HW1.out.size)); clear hb2 g0 g1 g2 g3 g4))
      go_ret
      exact ⟨by rw [HRR.out]; rfl, HW2.out⟩
  · have HRR := Lib.hid (show R = 1 by rw [← hR, decide_eq_false ht]; rfl)
    have ht2 : ((tag.size : Int) != 32) = true := by simp; omega
    clear hR
    go_enter Tryd.func35, Tryd.ntmps35
    go_wp2_with (first
        | (with_reducible refine box_row (o := ⟨some 1, _, _, _, _, _⟩) rfl _ _ rfl [.int .i64 lane, .int .i64 id, .int .i64 epoch, .slice a len cap, .string tag] rfl ?_; intro w1 hr1 hb1 hz1; have HR1 := Lib.hid hr1; have HW1 := Lib.hid hb1; clear hr1 hb1 hz1; have g0 := HR1.out.cellV 0; have g1 := HR1.out.cellV 1; have g2 := HR1.out.cellV 2; have g3 := HR1.out.cellV 3; have g4 := HR1.out.cellV 4; simp only [List.getElem?_cons_zero, List.getElem?_cons_succ] at g0 g1 g2 g3 g4)
        | (go_at_call 65; first | ((with_reducible refine (cwithin_b lane 0 4 _ _ HB1.out).mono ?_); rintro e w' ⟨rfl, rfl⟩) | ((with_reducible refine (cwithin_b id 1 2147483648 _ _ HB2.out).mono ?_); rintro e w' ⟨rfl, rfl⟩) | ((with_reducible refine (cwithin_b epoch 0 2147483648 _ _ HB3.out).mono ?_); rintro e w' ⟨rfl, rfl⟩)))
    go_ret
    exact ⟨by rw [HRR.out]; rfl, HW1.out⟩

end Go.Proofs.YtlclkikbocbenaaDoor.W

namespace Go.Proofs.YtlclkikbocbenaaDoor.W
open Go.ChangeShapes Go.WideShapes Go.ChangeAt Go.RowKit
open Go.Proofs.YtlclkikbocbenaaDoor.P (enc)

def tokC (lane id epoch : Int) (s : Value) (tag : ByteArray) : List Value := [.int .i64 lane, .int .i64 id, .int .i64 epoch, s, .string tag]
theorem tok_zero : (Tryd.prog.info? 25).map (·.zero) = some (some (.agg (tokC 0 0 0 (.slice none 0 0) ⟨#[]⟩).toArray)) := by kernel_rfl
theorem tok_size : (Tryd.prog.info? 25).map (·.size) = some 5 := by kernel_rfl
theorem tok_one (lane id epoch : Int) (a : Option Addr) (n c : Nat) (tag : ByteArray) : ∀ v ∈ tokC lane id epoch (.slice a n c) tag, v.oneCell' = true := by
  intro v hv
  simp [tokC] at hv
  rcases hv with rfl | rfl | rfl | rfl | rfl <;> rfl
theorem Cvs_nil (w : World) : Cvs w none 0 0 [] := ⟨rfl, by omega, by omega, by simp, fun _ => rfl, .inl rfl⟩
theorem built_tok (lane id epoch : Int) (tag : ByteArray) : Tryd.prog.built 25 [(0, .int .i64 lane), (1, .int .i64 id), (2, .int .i64 epoch), (4, .string tag)] = some (tokC lane id epoch (.slice none 0 0) tag).toArray := by kernel_rfl
theorem built_none : Tryd.prog.built 25 [] = some (tokC 0 0 0 (.slice none 0 0) ⟨#[]⟩).toArray := by kernel_rfl
/-- what Mint answers -/
def mintV (k : List UInt8) (lane id epoch : Int) : Value :=
  if headV lane id epoch then .tuple #[.agg (tokC lane id epoch (.slice none 0 0) (str (firstL k lane id epoch))).toArray, .int .i64 0] else .tuple #[.agg (tokC 0 0 0 (.slice none 0 0) ⟨#[]⟩).toArray, .int .i64 1]

set_option maxRecDepth 100000 in
set_option maxHeartbeats 1000000 in
theorem mint_big (s : ByteArray) (lane id epoch : Int) (w : World) (hK : Ks w) (hs : s.size ≤ 140737488351232) (hf : ∀ z ∈ [lane, id, epoch], z ≤ 9223372036854775807) :
    Calls Tryd.prog 9 #[.string s, .int .i64 lane, .int .i64 id, .int .i64 epoch] w fun e w' => e = .returned (mintV s.data.toList lane id epoch) ∧ Below w.heap.size w w' := by
  have HK := Lib.hid hK
  have HF := Lib.hid hf
  have TZ := Lib.hid tok_zero
  have TS := Lib.hid tok_size
  obtain ⟨S, hS⟩ : ∃ S, str (firstL s.data.toList lane id epoch) = S := ⟨_, rfl⟩
  have hsz : S.size = 32 := by rw [← hS, str_size]; exact tagL_len _ _
  obtain ⟨V, hV⟩ : ∃ V, mintV s.data.toList lane id epoch = V := ⟨_, rfl⟩
  rw [hV]
  unfold mintV at hV
  rw [hS] at hV
  have hte : tokErr lane id epoch [] S = if headV lane id epoch then 0 else 1 := by
    unfold tokErr tokOk
    rw [decide_eq_true hsz]
    rcases headV lane id epoch <;> rfl
  have HS := Lib.hid hS
  clear hK hf hS hsz
  rcases hh : headV lane id epoch with _ | _
  · rw [hh] at hV hte
    have HV := Lib.hid (show V = .tuple #[.agg (tokC 0 0 0 (.slice none 0 0) ⟨#[]⟩).toArray, .int .i64 1] from hV.symm)
    have HTE := Lib.hid (show tokErr lane id epoch [] S = 1 from hte)
    clear hV hte hh
    go_enter Tryd.func9, Tryd.ntmps9
    go_wp2_with ((with_reducible refine alloc_row (o := ⟨some 8, _, _, _, _, _⟩) rfl _ rfl _ TZ.out ?_); intro w1 hr1 hb1 hz1; have HR1 := Lib.hid hr1; have HB1 := Lib.hid hb1; clear hr1 hb1 hz1)
    refine (first_big s lane id epoch w1 (HK.out.below HB1.out HK.out.pos) hs HF.out).mono ?_
    rw [HS.out]
    rintro e w2 ⟨rfl, hb2⟩
    have HR2 := Lib.hid (HR1.out.below hb2 HR1.out.lt)
    have HB2 := Lib.hid (HB1.out.trans (hb2.mono HB1.out.size))
    clear hb2
    go_wp2_with (first
      | ((with_reducible refine build_row (o := ⟨some 20, _, _, _, _, _⟩) rfl _ _ rfl [.int .i64 lane, .int .i64 id, .int .i64 epoch, .slice none 0 0, .string S] ?_ ?_); (focus (go_simp; exact built_tok _ _ _ _)))
      | ((with_reducible refine alloc_row (o := ⟨some 10, _, _, _, _, _⟩) rfl _ rfl _ TZ.out ?_); intro w3 hr3 hb3 hz3; have HR3 := Lib.hid hr3; have HR2b := Lib.hid (HR2.out.below hb3 HR2.out.lt); have HB3 := Lib.hid (HB2.out.trans (hb3.mono HB2.out.size)); have HL3 := Lib.hid (show w.heap.size ≤ w2.heap.size from HB2.out.size); have HNE := Lib.hid (show w.heap.size ≠ w2.heap.size by have := HR2.out.lt; omega); clear hr3 hb3 hz3)
      | ((with_reducible refine store_row (o := ⟨none, _, _, _, _, _⟩) rfl _ (.tmp 10) _ rfl w2.heap.size [.int .i64 lane, .int .i64 id, .int .i64 epoch, .slice none 0 0, .string S] ?_ ?_ 25 _ HR3.out ?_ ?_ ?_ ?_); (focus go_simp); (focus go_simp); (focus (exact TS.out)); (focus rfl); (focus (exact tok_one _ _ _ _ _ _ _)); intro w4 hr4 hu4; have HR4 := Lib.hid hr4; have HR2c := Lib.hid (HR2b.out.upd hu4 HNE.out); have HB4 := Lib.hid (HB3.out.trans (hu4.below HL3.out)); clear hr4 hu4; have g0 := HR4.out.cellV 0; have g1 := HR4.out.cellV 1; have g2 := HR4.out.cellV 2; have g3 := HR4.out.cellV 3; have g4 := HR4.out.cellV 4; simp only [List.getElem?_cons_zero, List.getElem?_cons_succ] at g0 g1 g2 g3 g4))
    refine (tkcheck_any lane id epoch none 0 0 [] S w4 (Cvs_nil w4)).mono ?_
    rw [HTE.out]
    rintro e w5 ⟨rfl, hb5⟩
    have HR5 := Lib.hid (HR2c.out.below hb5 HR2c.out.lt)
    have HR5b := Lib.hid (HR4.out.below hb5 HR4.out.lt)
    have HB5 := Lib.hid (HB4.out.trans (hb5.mono HB4.out.size))
    clear hb5 g0 g1 g2 g3 g4
    have g0 := HR5b.out.cellV 0
    have g1 := HR5b.out.cellV 1
    have g2 := HR5b.out.cellV 2
    have g3 := HR5b.out.cellV 3
    have g4 := HR5b.out.cellV 4
    simp only [List.getElem?_cons_zero, List.getElem?_cons_succ] at g0 g1 g2 g3 g4
    go_wp2_with (first
      | ((with_reducible refine build_row (o := ⟨some 25, _, _, _, _, _⟩) rfl _ _ rfl [.int .i64 0, .int .i64 0, .int .i64 0, .slice none 0 0, .string ⟨#[]⟩] ?_ ?_); (focus (go_simp; exact built_none)))
      | ((with_reducible refine store_row (o := ⟨none, _, _, _, _, _⟩) rfl _ (.tmp 8) _ rfl w.heap.size [.int .i64 0, .int .i64 0, .int .i64 0, .slice none 0 0, .string ⟨#[]⟩] ?_ ?_ 25 _ HR5.out ?_ ?_ ?_ ?_); (focus go_simp); (focus go_simp); (focus (exact TS.out)); (focus rfl); (focus (exact tok_one _ _ _ _ _ _ _)); intro w6 hr6 hu6; have HR6 := Lib.hid hr6; have HB6 := Lib.hid (HB5.out.trans (hu6.below (Nat.le_refl _))); clear hr6 hu6))
    exact bodyPost_ret (results_row_tmp rfl _ _ w.heap.size 25 _ _ _ (by go_simp) HR6.out Tryd.underlying25 rfl TS.out) rfl ⟨by rw [HV.out]; rfl, HB6.out⟩
  · rw [hh] at hV hte
    have HV := Lib.hid (show V = .tuple #[.agg (tokC lane id epoch (.slice none 0 0) S).toArray, .int .i64 0] from hV.symm)
    have HTE := Lib.hid (show tokErr lane id epoch [] S = 0 from hte)
    clear hV hte hh
    go_enter Tryd.func9, Tryd.ntmps9
    go_wp2_with ((with_reducible refine alloc_row (o := ⟨some 8, _, _, _, _, _⟩) rfl _ rfl _ TZ.out ?_); intro w1 hr1 hb1 hz1; have HR1 := Lib.hid hr1; have HB1 := Lib.hid hb1; clear hr1 hb1 hz1)
    refine (first_big s lane id epoch w1 (HK.out.below HB1.out HK.out.pos) hs HF.out).mono ?_
    rw [HS.out]
    rintro e w2 ⟨rfl, hb2⟩
    have HR2 := Lib.hid (HR1.out.below hb2 HR1.out.lt)
    have HB2 := Lib.hid (HB1.out.trans (hb2.mono HB1.out.size))
    clear hb2
    go_wp2_with (first
      | ((with_reducible refine build_row (o := ⟨some 20, _, _, _, _, _⟩) rfl _ _ rfl [.int .i64 lane, .int .i64 id, .int .i64 epoch, .slice none 0 0, .string S] ?_ ?_); (focus (go_simp; exact built_tok _ _ _ _)))
      | ((with_reducible refine alloc_row (o := ⟨some 10, _, _, _, _, _⟩) rfl _ rfl _ TZ.out ?_); intro w3 hr3 hb3 hz3; have HR3 := Lib.hid hr3; have HR2b := Lib.hid (HR2.out.below hb3 HR2.out.lt); have HB3 := Lib.hid (HB2.out.trans (hb3.mono HB2.out.size)); have HL3 := Lib.hid (show w.heap.size ≤ w2.heap.size from HB2.out.size); have HNE := Lib.hid (show w.heap.size ≠ w2.heap.size by have := HR2.out.lt; omega); clear hr3 hb3 hz3)
      | ((with_reducible refine store_row (o := ⟨none, _, _, _, _, _⟩) rfl _ (.tmp 10) _ rfl w2.heap.size [.int .i64 lane, .int .i64 id, .int .i64 epoch, .slice none 0 0, .string S] ?_ ?_ 25 _ HR3.out ?_ ?_ ?_ ?_); (focus go_simp); (focus go_simp); (focus (exact TS.out)); (focus rfl); (focus (exact tok_one _ _ _ _ _ _ _)); intro w4 hr4 hu4; have HR4 := Lib.hid hr4; have HR2c := Lib.hid (HR2b.out.upd hu4 HNE.out); have HB4 := Lib.hid (HB3.out.trans (hu4.below HL3.out)); clear hr4 hu4; have g0 := HR4.out.cellV 0; have g1 := HR4.out.cellV 1; have g2 := HR4.out.cellV 2; have g3 := HR4.out.cellV 3; have g4 := HR4.out.cellV 4; simp only [List.getElem?_cons_zero, List.getElem?_cons_succ] at g0 g1 g2 g3 g4))
    refine (tkcheck_any lane id epoch none 0 0 [] S w4 (Cvs_nil w4)).mono ?_
    rw [HTE.out]
    rintro e w5 ⟨rfl, hb5⟩
    have HR5 := Lib.hid (HR2c.out.below hb5 HR2c.out.lt)
    have HR5b := Lib.hid (HR4.out.below hb5 HR4.out.lt)
    have HB5 := Lib.hid (HB4.out.trans (hb5.mono HB4.out.size))
    clear hb5 g0 g1 g2 g3 g4
    have g0 := HR5b.out.cellV 0
    have g1 := HR5b.out.cellV 1
    have g2 := HR5b.out.cellV 2
    have g3 := HR5b.out.cellV 3
    have g4 := HR5b.out.cellV 4
    simp only [List.getElem?_cons_zero, List.getElem?_cons_succ] at g0 g1 g2 g3 g4
    go_wp2_with (first
      | ((with_reducible refine store_row (o := ⟨none, _, _, _, _, _⟩) rfl _ (.tmp 8) _ rfl w.heap.size [.int .i64 lane, .int .i64 id, .int .i64 epoch, .slice none 0 0, .string S] ?_ ?_ 25 _ HR5.out ?_ ?_ ?_ ?_); (focus go_simp); (focus go_simp); (focus (exact TS.out)); (focus rfl); (focus (exact tok_one _ _ _ _ _ _ _)); intro w6 hr6 hu6; have HR6 := Lib.hid hr6; have HB6 := Lib.hid (HB5.out.trans (hu6.below (Nat.le_refl _))); clear hr6 hu6))
    exact bodyPost_ret (results_row_tmp rfl _ _ w.heap.size 25 _ _ _ (by go_simp) HR6.out Tryd.underlying25 rfl TS.out) rfl ⟨by rw [HV.out]; rfl, HB6.out⟩

theorem mint_any (s : ByteArray) (lane id epoch : Int) (w : World) (hK : Ks w) (hs : s.size ≤ 50000000000000) (hf : ∀ z ∈ [lane, id, epoch], z ≤ 9223372036854775807) :
    Calls Tryd.prog 9 #[.string s, .int .i64 lane, .int .i64 id, .int .i64 epoch] w fun e w' => e = .returned (mintV s.data.toList lane id epoch) ∧ Below w.heap.size w w' :=
  mint_big s lane id epoch w hK (Nat.le_trans hs (by decide)) hf

end Go.Proofs.YtlclkikbocbenaaDoor.W
