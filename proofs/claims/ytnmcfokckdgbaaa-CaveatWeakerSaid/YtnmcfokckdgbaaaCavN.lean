/- THE LAWS of layer 6 (caveat): CaveatSame. -/
import Derived.Test.YtnmcfokckdgbaaaCavS
namespace Go.Proofs.Ytnmcfokckdgbaaa.W
open Go.ChangeShapes Go.WideShapes Go.ChangeAt Go.RowKit

def extV (L M : List Cv) : Bool := decide (M.length ≤ L.length) && sameV (L.take M.length) M
theorem Cvs.take {w : World} {a : Option Addr} {len cap : Nat} {L : List Cv} (h : Cvs w a len cap L) (n : Nat) (hn : n ≤ len) : Cvs w a n cap (L.take n) := by
  refine ⟨by rw [List.length_take, h.hlen]; omega, Nat.le_trans hn h.hle, h.hmax, fun c hc => h.hfit c (List.mem_of_mem_take hc), h.hnil, ?_⟩
  by_cases h0 : n = 0
  · exact .inl h0
  · obtain ⟨b, off, rfl, hlt, hc⟩ := h.hcells.resolve_left (by omega)
    refine .inr ⟨b, off, rfl, hlt, fun i hi j v hj => hc i (by omega) j v ?_⟩
    rw [← hj]; congr 2; simp [hi]

set_option maxHeartbeats 4000000 in
theorem cext_any (a a' : Option Addr) (n n' cap cap' : Nat) (L M : List Cv) (w : World) (h : Cvs w a n cap L) (h' : Cvs w a' n' cap' M) :
    Calls Try.prog 50 #[.slice a n cap, .slice a' n' cap'] w fun e w' => e = .returned (.bool (extV L M)) ∧ Below w.heap.size w w' := by
  obtain ⟨r, hr⟩ : ∃ r, extV L M = r := ⟨_, rfl⟩
  rw [hr]
  have HR := Lib.hid hr
  have HL := Lib.hid h.hlen
  have HM := Lib.hid h'.hlen
  have hm := h.hmax
  have hle := h.hle
  have hm' := h'.hmax
  have hle' := h'.hle
  have hnil := h.hnil
  clear hr
  by_cases hlt : n' ≤ n
  · have H := Lib.hid (h.take n' hlt)
    have H' := Lib.hid h'
    have HE := Lib.hid (show sameV (L.take n') M = r from by rw [← HR.out]; unfold extV; rw [decide_eq_true (by rw [HL.out, HM.out]; exact hlt), Bool.true_and, HM.out])
    clear h h'
    rcases a with _ | ad
    · obtain rfl : cap = 0 := hnil rfl
      obtain rfl : n = 0 := by omega
      obtain rfl : n' = 0 := by omega
      clear hnil
      go_enter Try.func50, Try.ntmps50
      go_wp2_with (go_at_call 48; refine (csame_any _ _ _ _ _ _ (L.take 0) M _ H.out H'.out).mono ?_; rw [HE.out]; rintro e w1 ⟨rfl, hb1⟩)
      go_ret
      exact ⟨rfl, hb1⟩
    · clear hnil
      go_enter Try.func50, Try.ntmps50
      go_wp2_with (go_at_call 48; refine (csame_any _ _ _ _ _ _ (L.take n') M _ H.out H'.out).mono ?_; rw [HE.out]; rintro e w1 ⟨rfl, hb1⟩)
      go_ret
      exact ⟨rfl, hb1⟩
  · have HF := Lib.hid (show r = false from by rw [← HR.out]; unfold extV; rw [decide_eq_false (by rw [HL.out, HM.out]; exact hlt), Bool.false_and])
    clear h h' hnil
    go_enter Try.func50, Try.ntmps50
    go_wp2_with fail
    go_ret
    exact ⟨by rw [HF.out]; rfl, Below.refl _ _⟩

set_option maxHeartbeats 4000000 in
theorem uext_any (a a' : Option Addr) (n n' cap cap' : Nat) (L M : List Cv) (w : World) (h : Cvs w a n cap L) (h' : Cvs w a' n' cap' M) :
    Calls Try.prog 51 #[.slice a n cap, .slice a' n' cap'] w fun e w' => e = .returned (.bool (extV L M)) ∧ Below w.heap.size w w' := by
  obtain ⟨r, hr⟩ : ∃ r, extV L M = r := ⟨_, rfl⟩
  rw [hr]
  have HR := Lib.hid hr
  have HL := Lib.hid h.hlen
  have HM := Lib.hid h'.hlen
  have hm := h.hmax
  have hle := h.hle
  have hm' := h'.hmax
  have hle' := h'.hle
  have hnil := h.hnil
  clear hr
  by_cases hlt : n' ≤ n
  · have H := Lib.hid (h.take n' hlt)
    have H' := Lib.hid h'
    have HE := Lib.hid (show sameV (L.take n') M = r from by rw [← HR.out]; unfold extV; rw [decide_eq_true (by rw [HL.out, HM.out]; exact hlt), Bool.true_and, HM.out])
    clear h h'
    rcases a with _ | ad
    · obtain rfl : cap = 0 := hnil rfl
      obtain rfl : n = 0 := by omega
      obtain rfl : n' = 0 := by omega
      clear hnil
      go_enter Try.func51, Try.ntmps51
      go_wp2_with (go_at_call 43; refine (usame_any _ _ _ _ _ _ (L.take 0) M _ H.out H'.out).mono ?_; rw [HE.out]; rintro e w1 ⟨rfl, hb1⟩)
      go_ret
      exact ⟨rfl, hb1⟩
    · clear hnil
      go_enter Try.func51, Try.ntmps51
      go_wp2_with (go_at_call 43; refine (usame_any _ _ _ _ _ _ (L.take n') M _ H.out H'.out).mono ?_; rw [HE.out]; rintro e w1 ⟨rfl, hb1⟩)
      go_ret
      exact ⟨rfl, hb1⟩
  · have HF := Lib.hid (show r = false from by rw [← HR.out]; unfold extV; rw [decide_eq_false (by rw [HL.out, HM.out]; exact hlt), Bool.false_and])
    clear h h' hnil
    go_enter Try.func51, Try.ntmps51
    go_wp2_with fail
    go_ret
    exact ⟨by rw [HF.out]; rfl, Below.refl _ _⟩

set_option maxHeartbeats 4000000 in
theorem law_CaveatSame (a : Option Addr) (n cap : Nat) (L : List Cv) (a' : Option Addr) (n' cap' : Nat) (M : List Cv) (w : World) (h : Cvs w a n cap L) (h' : Cvs w a' n' cap' M) :
    Calls Try.prog 12 #[.slice a n cap, .slice a' n' cap'] w fun e w' => e = .returned (.bool true) ∧ Below w.heap.size w w' := by
  have H := Lib.hid h
  have H' := Lib.hid h'
  clear h h'
  rcases hf : fewV L with _ | _
  · have F1 := Lib.hid hf
    clear hf
    go_enter Try.func12, Try.ntmps12
    go_wp2_with fail
    refine (few_any a n cap L w H.out).mono ?_
    rw [F1.out]
    rintro e w1 ⟨rfl, hb1⟩
    go_wp2_with fail
    refine (awake6 _).mono ?_
    rintro e w2 ⟨rfl, hb2⟩
    go_wp2_with fail
    go_ret
    exact ⟨rfl, hb1.trans (hb2.mono hb1.size)⟩
  · have F1 := Lib.hid hf
    clear hf
    rcases hg : fewV M with _ | _
    · have F2 := Lib.hid hg
      clear hg
      go_enter Try.func12, Try.ntmps12
      go_wp2_with fail
      refine (few_any a n cap L w H.out).mono ?_
      rw [F1.out]
      rintro e w1 ⟨rfl, hb1⟩
      go_wp2_with fail
      refine (few_any a' n' cap' M w1 (H'.out.mono hb1)).mono ?_
      rw [F2.out]
      rintro e w2 ⟨rfl, hb2⟩
      have hb2' := hb1.trans (hb2.mono hb1.size)
      go_wp2_with fail
      refine (awake6 _).mono ?_
      rintro e w3 ⟨rfl, hb3⟩
      go_wp2_with fail
      go_ret
      exact ⟨rfl, hb2'.trans (hb3.mono hb2'.size)⟩
    · have F2 := Lib.hid hg
      clear hg
      have SR := Lib.hid (same_refl L)
      go_enter Try.func12, Try.ntmps12
      go_wp2_with fail
      refine (few_any a n cap L w H.out).mono ?_
      rw [F1.out]
      rintro e w1 ⟨rfl, hb1⟩
      go_wp2_with fail
      refine (few_any a' n' cap' M w1 (H'.out.mono hb1)).mono ?_
      rw [F2.out]
      rintro e w2 ⟨rfl, hb2⟩
      have HB2 := Lib.hid (hb1.trans (hb2.mono hb1.size))
      clear hb1 hb2
      go_wp2_with fail
      refine (csame_any a a' n n' cap cap' L M w2 (H.out.mono HB2.out) (H'.out.mono HB2.out)).mono ?_
      rintro e w3 ⟨rfl, hb3⟩
      have HB3 := Lib.hid (HB2.out.trans (hb3.mono HB2.out.size))
      clear hb3
      go_wp2_with fail
      refine (usame_any a a' n n' cap cap' L M w3 (H.out.mono HB3.out) (H'.out.mono HB3.out)).mono ?_
      rintro e w4 ⟨rfl, hb4⟩
      have HB4 := Lib.hid (HB3.out.trans (hb4.mono HB3.out.size))
      clear hb4
      go_wp2_with fail
      refine (csame_any a a n n cap cap L L w4 (H.out.mono HB4.out) (H.out.mono HB4.out)).mono ?_
      rw [SR.out]
      rintro e w5 ⟨rfl, hb5⟩
      have HB5 := Lib.hid (HB4.out.trans (hb5.mono HB4.out.size))
      clear hb5
      go_wp2_with fail
      refine (cext_any a a' n n' cap cap' L M w5 (H.out.mono HB5.out) (H'.out.mono HB5.out)).mono ?_
      rintro e w6 ⟨rfl, hb6⟩
      have HB6 := Lib.hid (HB5.out.trans (hb6.mono HB5.out.size))
      clear hb6
      go_wp2_with fail
      refine (uext_any a a' n n' cap cap' L M w6 (H.out.mono HB6.out) (H'.out.mono HB6.out)).mono ?_
      rintro e w7 ⟨rfl, hb7⟩
      have HB7 := Lib.hid (HB6.out.trans (hb7.mono HB6.out.size))
      clear hb7
      go_wp2_with fail
      refine (awake6 _).mono ?_
      rintro e w8 ⟨rfl, hb8⟩
      go_wp2_with fail
      go_ret
      exact ⟨rfl, HB7.out.trans (hb8.mono HB7.out.size)⟩

end Go.Proofs.Ytnmcfokckdgbaaa.W
