/- CONTRACTS of layer 2 (pack): the reader, the third part: numbers, texts, flags. -/
import Derived.Test.YtagblhkihammdaaPackR2
import Derived.Laws.IdiomStrings
import Derived.Laws.BytesArg
namespace Go.Proofs.Ytagblhkihammdaa.W
open Go.ChangeShapes Go.WideShapes Go.ChangeAt Go.RowKit
open Go.Proofs.Ytagblhkihammdaa.P (mk lo hi enc tl gr up dec)

/-- what reading a number answers, what is left, the error -/
def numR (most : Int) (l : List UInt8) (e : Int) : Nat × List UInt8 × Int :=
  if e ≠ 0 then (0, l, e)
  else if (dec 9 0 0 l).2.2 ≠ 0 then (0, [], (dec 9 0 0 l).2.2)
  else if most < ((dec 9 0 0 l).1 : Int) then (0, [], 5)
  else ((dec 9 0 0 l).1, l.drop (dec 9 0 0 l).2.1, 0)
theorem numR_err {most : Int} {l : List UInt8} {e : Int} (h : e ≠ 0) : numR most l e = (0, l, e) := by unfold numR; rw [if_pos h]
theorem numR_bad {most : Int} {l : List UInt8} (h : (dec 9 0 0 l).2.2 ≠ 0) : numR most l 0 = (0, [], (dec 9 0 0 l).2.2) := by unfold numR; rw [if_neg (by simp), if_pos h]
theorem numR_long {most : Int} {l : List UInt8} (h : (dec 9 0 0 l).2.2 = 0) (hm : most < ((dec 9 0 0 l).1 : Int)) : numR most l 0 = (0, [], 5) := by unfold numR; rw [if_neg (by simp), if_neg (by simp [h]), if_pos hm]
theorem numR_ok {most : Int} {l : List UInt8} (h : (dec 9 0 0 l).2.2 = 0) (hm : ¬ most < ((dec 9 0 0 l).1 : Int)) : numR most l 0 = ((dec 9 0 0 l).1, l.drop (dec 9 0 0 l).2.1, 0) := by unfold numR; rw [if_neg (by simp), if_neg (by simp [h]), if_neg hm]
theorem numR_lt (most : Int) (l : List UInt8) (e : Int) : ((numR most l e).1 : Int) ≤ 9223372036854775807 := by
  have := P.dec_rng l
  unfold numR; split
  · simp
  · split
    · simp
    · split
      · simp
      · simp only; omega

set_option maxHeartbeats 1000000 in
theorem pnumR (p : Nat) (most : Int) (l : List UInt8) (e : Int) (w : World) (h : RP w p l e) :
    Calls Try.prog 35 #[.pointer (some ⟨p, 0, none⟩), .int .i64 most] w fun x w' => x = .returned (.int .i64 ((numR most l e).1 : Int)) ∧ RP w' p (numR most l e).2.1 (numR most l e).2.2 ∧ Upd w w' p := by
  have HE := Lib.hid (perr p l e w h)
  have H := Lib.hid h
  by_cases he : e = 0
  · subst he
    have hsz := P.dec_size 9 0 0 l
    have hrng := P.dec_rng l
    obtain ⟨a, cap, c0, c1, c2, f1, f2, hr, hap⟩ := h.cells
    have HL := Lib.hid (plead a l.length cap l w hr)
    clear c0 c2 f1 f2 hr hap h
    by_cases hd : (dec 9 0 0 l).2.2 = 0
    · obtain ⟨-, hs2, -⟩ := hsz hd
      by_cases hm : most < ((dec 9 0 0 l).1 : Int)
      · rw [numR_long hd hm]
        have HF := Lib.hid (pfail p l 0 5 w H.out)
        generalize dec 9 0 0 l = d at *
        obtain ⟨d1, d2, d3⟩ := d
        simp only at hd hm hs2
        subst hd
        clear hsz
        go_enter Try.func35, Try.ntmps35
        go_wp2_with fail
        refine HE.out.mono ?_
        rintro x w' ⟨rfl, rfl⟩
        go_wp2_with fail
        refine HL.out.mono ?_
        rintro x w' ⟨rfl, rfl⟩
        go_wp2_with fail
        refine HF.out.mono ?_
        rintro x w' ⟨rfl, hp, hu⟩
        go_wp2_with fail
        go_ret
        exact ⟨rfl, hp, hu⟩
      · rw [numR_ok hd hm]
        have HT := Lib.hid (ptake_ok p l (dec 9 0 0 l).2.1 w H.out (by omega))
        generalize dec 9 0 0 l = d at *
        obtain ⟨d1, d2, d3⟩ := d
        simp only at hd hm hs2
        subst hd
        clear hsz
        go_enter Try.func35, Try.ntmps35
        go_wp2_with fail
        refine HE.out.mono ?_
        rintro x w' ⟨rfl, rfl⟩
        go_wp2_with fail
        refine HL.out.mono ?_
        rintro x w' ⟨rfl, rfl⟩
        go_wp2_with fail
        refine HT.out.mono ?_
        rintro x w' ⟨a', rfl, -, hp, hu⟩
        go_wp2_with fail
        go_ret
        exact ⟨rfl, hp, hu⟩
    · rw [numR_bad hd]
      have hd1 : ((dec 9 0 0 l).2.2 != 0) = true := by simpa using hd
      have hd2 : ((dec 9 0 0 l).2.2 == 0) = false := by simpa using hd
      have HF := Lib.hid (pfail p l 0 (dec 9 0 0 l).2.2 w H.out)
      have hfe : failE 0 (dec 9 0 0 l).2.2 = (dec 9 0 0 l).2.2 := by unfold failE; rw [if_neg (by simp [hd])]
      have hfl : failL l 0 (dec 9 0 0 l).2.2 = [] := by unfold failL; rw [if_neg (by simp [hd])]
      rw [hfe, hfl] at HF
      generalize dec 9 0 0 l = d at *
      obtain ⟨d1, d2, d3⟩ := d
      simp only at hd hd1 hd2
      clear hsz hfe hfl
      go_enter Try.func35, Try.ntmps35
      go_wp2_with fail
      refine HE.out.mono ?_
      rintro x w' ⟨rfl, rfl⟩
      go_wp2_with fail
      refine HL.out.mono ?_
      rintro x w' ⟨rfl, rfl⟩
      go_wp2_with fail
      refine HF.out.mono ?_
      rintro x w' ⟨rfl, hp, hu⟩
      go_wp2_with fail
      go_ret
      exact ⟨rfl, hp, hu⟩
  · rw [numR_err he]
    have he2 : (e != 0) = true := by simpa using he
    clear h
    go_enter Try.func35, Try.ntmps35
    go_wp2_with fail
    refine HE.out.mono ?_
    rintro x w' ⟨rfl, rfl⟩
    go_wp2_with fail
    go_ret
    exact ⟨rfl, H.out, Upd.refl _ _⟩


/-- what reading a text answers, what is left, the error -/
def textR (most : Int) (l : List UInt8) (e : Int) : List UInt8 × List UInt8 × Int :=
  if (numR most l e).2.2 ≠ 0 then ([], (numR most l e).2.1, (numR most l e).2.2)
  else if (numR most l e).2.1.length < (numR most l e).1 then ([], [], 4)
  else ((numR most l e).2.1.take (numR most l e).1, (numR most l e).2.1.drop (numR most l e).1, 0)

set_option maxHeartbeats 1000000 in
theorem ptextR (p : Nat) (most : Int) (l : List UInt8) (e : Int) (w : World) (h : RP w p l e) :
    Calls Try.prog 42 #[.pointer (some ⟨p, 0, none⟩), .int .i64 most] w fun x w' => x = .returned (.string (str (textR most l e).1)) ∧ RP w' p (textR most l e).2.1 (textR most l e).2.2 ∧ Upd w w' p := by
  have HN := Lib.hid (pnumR p most l e w h)
  unfold textR
  generalize numR most l e = d at *
  obtain ⟨n, l1, e1⟩ := d
  clear h
  simp only
  by_cases he : e1 = 0
  · subst he
    rw [if_neg (by simp)]
    by_cases hl : l1.length < n
    · rw [if_pos hl]
      go_enter Try.func42, Try.ntmps42
      go_wp2_with fail
      refine HN.out.mono ?_
      rintro x w1 ⟨rfl, hp, hu⟩
      go_wp2_with fail
      refine (ptake_short p l1 n w1 hp (by omega)).mono ?_
      rintro x w2 ⟨rfl, hp2, hu2⟩
      have hcv := conv_rd (Rd_nil w2)
      go_wp2_with fail
      go_ret
      exact ⟨rfl, hp2, hu.trans hu2⟩
    · rw [if_neg hl]
      go_enter Try.func42, Try.ntmps42
      go_wp2_with fail
      refine HN.out.mono ?_
      rintro x w1 ⟨rfl, hp, hu⟩
      go_wp2_with fail
      refine (ptake_ok p l1 n w1 hp (by omega)).mono ?_
      rintro x w2 ⟨a', rfl, hr, hp2, hu2⟩
      have hcv := conv_rd hr
      go_wp2_with fail
      go_ret
      exact ⟨rfl, hp2, hu.trans hu2⟩
  · rw [if_pos he]
    go_enter Try.func42, Try.ntmps42
    go_wp2_with fail
    refine HN.out.mono ?_
    rintro x w1 ⟨rfl, hp, hu⟩
    go_wp2_with fail
    refine (ptake_err p l1 e1 n w1 hp he).mono ?_
    rintro x w2 ⟨rfl, rfl⟩
    have hcv := conv_rd (Rd_nil w1)
    go_wp2_with fail
    go_ret
    exact ⟨rfl, hp, hu⟩

end Go.Proofs.Ytagblhkihammdaa.W
