/- THE LAW KeyringTexts: what tickets are of is what the document says. -/
import Derived.Test.YtagblhkihammdaaDoorKrH
namespace Go.Proofs.YtagblhkihammdaaDoor.W
open Go Go.ChangeShapes Go.WideShapes Go.ChangeAt Go.RowKit
open Go.Proofs.YtagblhkihammdaaDoor.P (enc)

def putW : List UInt8 := [112, 117, 116]
def getW : List UInt8 := [103, 101, 116]
/-- cells of numbers, in new memory -/
theorem ints_new (w : World) (zs : List Int) (n : Nat) (hn : zs.length = n) (i : Nat) (hi : i < n) : (w.alloc (.cells (zs.map (Value.int .i64)).toArray 3)).cell? ⟨w.heap.size, i, none⟩ = some (.int .i64 (zs.getD i 0)) := by
  rw [cell_of_row _ w.heap.size i _ 3 _ (heap_alloc_new w _)]
  simp [hn, hi]
theorem five_fit (a b c d e : Int) (ha : a ≤ 9223372036854775807) (hb : b ≤ 9223372036854775807) (hc : c ≤ 9223372036854775807) (hd : d ≤ 9223372036854775807) (he : e ≤ 9223372036854775807) : ∀ z ∈ [a, b, c, d, e], z ≤ 9223372036854775807 := by
  intro z hz
  simp at hz
  rcases hz with rfl | rfl | rfl | rfl | rfl <;> assumption
theorem two_fit (a b : Int) (ha : a ≤ 9223372036854775807) (hb : b ≤ 9223372036854775807) : ∀ z ∈ [a, b], z ≤ 9223372036854775807 := by
  intro z hz
  simp at hz
  rcases hz with rfl | rfl <;> assumption

set_option maxRecDepth 100000 in
set_option maxHeartbeats 1000000 in
theorem puttext_any (a b c d e : Int) (w : World) (hf : ∀ z ∈ [a, b, c, d, e], z ≤ 9223372036854775807) :
    Calls Tryd.prog 24 #[.int .i64 a, .int .i64 b, .int .i64 c, .int .i64 d, .int .i64 e] w fun x w' => ∃ p m q, x = .returned (.slice p m q) ∧ Rd w' p m q (putW ++ [a, b, c, d, e].flatMap encI) ∧ m ≤ 1100 ∧ Below w.heap.size w w' := by
  have HF := Lib.hid hf
  clear hf
  obtain ⟨E, hE⟩ : ∃ E, putW ++ [a, b, c, d, e].flatMap encI = E := ⟨_, rfl⟩
  rw [hE]
  have HE := Lib.hid hE
  clear hE
  go_enter Tryd.func24, Tryd.ntmps24
  go_wp2_with fail
  refine (krtext_any ⟨#[112, 117, 116]⟩ (by decide) w.heap.size [a, b, c, d, e] 5 _ rfl (by decide) HF.out (by simp) (fun i hi => ints_new w [a, b, c, d, e] 5 rfl i hi)).mono ?_
  rw [show (ByteArray.mk #[112, 117, 116]).data.toList ++ [a, b, c, d, e].flatMap encI = E from HE.out]
  rintro x w1 ⟨p, m, q, rfl, hr, hm, hb⟩
  have HR := Lib.hid hr
  have HB := Lib.hid (((Below.refl _ _).alloc (Nat.le_refl _) _).trans (hb.mono (by simp)))
  clear hr hb
  go_wp2_with fail
  go_ret
  exact ⟨p, m, q, rfl, HR.out, hm, HB.out⟩

set_option maxRecDepth 100000 in
set_option maxHeartbeats 1000000 in
theorem gettext_any (a b : Int) (s : ByteArray) (w : World) (hf : ∀ z ∈ [a, b], z ≤ 9223372036854775807) (hs : s.size ≤ 1000) :
    Calls Tryd.prog 26 #[.int .i64 a, .int .i64 b, .string s] w fun x w' => ∃ p m q, x = .returned (.slice p m q) ∧ Rd w' p m q (getW ++ [a, b].flatMap encI ++ (enc s.size ++ s.data.toList)) ∧ m ≤ 3000 ∧ Below w.heap.size w w' := by
  have HF := Lib.hid hf
  clear hf
  obtain ⟨E, hE⟩ : ∃ E, getW ++ [a, b].flatMap encI = E := ⟨_, rfl⟩
  rw [hE]
  have HE := Lib.hid hE
  have el := P.enc_len s.size (by omega)
  obtain ⟨q0, hq0⟩ : ∃ q, (enc s.size).length = q := ⟨_, rfl⟩
  rw [hq0] at el
  have HQ0 := Lib.hid hq0
  clear hE hq0
  go_enter Tryd.func26, Tryd.ntmps26
  go_wp2_with fail
  refine (krtext_any ⟨#[103, 101, 116]⟩ (by decide) w.heap.size [a, b] 2 _ rfl (by decide) HF.out (by simp) (fun i hi => ints_new w [a, b] 2 rfl i hi)).mono ?_
  rw [show (ByteArray.mk #[103, 101, 116]).data.toList ++ [a, b].flatMap encI = E from HE.out]
  rintro x w1 ⟨p, m, q, rfl, hr, hm, hb⟩
  have HR := Lib.hid hr
  have HB := Lib.hid (((Below.refl _ _).alloc (Nat.le_refl _) _).trans (hb.mono (by simp)))
  clear hr hb
  go_wp2_with fail
  refine (ptext p m q s E w1 HR.out (by omega) (by omega)).mono ?_
  rw [HQ0.out]
  rintro x w2 ⟨rfl, hk, hb2, hz2⟩
  have HR2 := Lib.hid (hk.rd' (m + (q0 + s.size)) (by rw [List.length_append, List.length_append, HR.out.hlen, HQ0.out]; simp) (by omega))
  have HB2 := Lib.hid (HB.out.trans (hb2.mono HB.out.size))
  clear hk hb2 hz2
  go_wp2_with fail
  go_ret
  exact ⟨_, _, _, rfl, HR2.out, by omega, HB2.out⟩

set_option maxRecDepth 100000 in
set_option maxHeartbeats 1000000 in
theorem rputtext_any (a b c d e : Int) (w : World) (hf : ∀ z ∈ [a, b, c, d, e], z ≤ 9223372036854775807) :
    Calls Tryd.prog 25 #[.int .i64 a, .int .i64 b, .int .i64 c, .int .i64 d, .int .i64 e] w fun x w' => ∃ p m q, x = .returned (.slice p m q) ∧ Rd w' p m q (putW ++ [a, b, c, d, e].flatMap encI) ∧ m ≤ 3000 ∧ Below w.heap.size w w' := by
  have kc := fun (w : World) (C : Array Value) (n c : Nat) => Lib.run_convert_bytes_const (P := Tryd.prog) w 34 5 C n c Tryd.underlying34 Tryd.underlying5
  have l0 := encI_len a (hf a (by simp))
  have f0 := hf a (by simp)
  have l1 := encI_len b (hf b (by simp))
  have f1 := hf b (by simp)
  have l2 := encI_len c (hf c (by simp))
  have f2 := hf c (by simp)
  have l3 := encI_len d (hf d (by simp))
  have f3 := hf d (by simp)
  have l4 := encI_len e (hf e (by simp))
  have f4 := hf e (by simp)
  unfold encI at l0 l1 l2 l3 l4
  have e0 : putW ++ [a, b, c, d, e].flatMap encI = putW ++ enc a.toNat ++ enc b.toNat ++ enc c.toNat ++ enc d.toNat ++ enc e.toNat := by simp [encI]
  rw [e0]
  obtain ⟨E0, hE0⟩ : ∃ E, putW ++ enc a.toNat = E := ⟨_, rfl⟩
  rw [hE0]
  have HE0 := Lib.hid hE0
  have HN0 : Hid (E0.length ≤ 12) := Lib.hid (by rw [← hE0, List.length_append]; simp [putW]; omega)
  obtain ⟨E1, hE1⟩ : ∃ E, E0 ++ enc b.toNat = E := ⟨_, rfl⟩
  rw [hE1]
  have HE1 := Lib.hid hE1
  have HN1 : Hid (E1.length ≤ 21) := Lib.hid (by rw [← hE1, List.length_append]; have := HN0.out; omega)
  obtain ⟨E2, hE2⟩ : ∃ E, E1 ++ enc c.toNat = E := ⟨_, rfl⟩
  rw [hE2]
  have HE2 := Lib.hid hE2
  have HN2 : Hid (E2.length ≤ 30) := Lib.hid (by rw [← hE2, List.length_append]; have := HN1.out; omega)
  obtain ⟨E3, hE3⟩ : ∃ E, E2 ++ enc d.toNat = E := ⟨_, rfl⟩
  rw [hE3]
  have HE3 := Lib.hid hE3
  have HN3 : Hid (E3.length ≤ 39) := Lib.hid (by rw [← hE3, List.length_append]; have := HN2.out; omega)
  obtain ⟨E4, hE4⟩ : ∃ E, E3 ++ enc e.toNat = E := ⟨_, rfl⟩
  rw [hE4]
  have HE4 := Lib.hid hE4
  have HN4 : Hid (E4.length ≤ 48) := Lib.hid (by rw [← hE4, List.length_append]; have := HN3.out; omega)
  clear hf e0 hE0 hE1 hE2 hE3 hE4 l0 l1 l2 l3 l4
  go_enter Tryd.func25, Tryd.ntmps25
  go_wp2_with fail
  have hr0 : Rd (w.alloc (.cells (putW.map B).toArray 5 (3, 4))) (some ⟨w.heap.size, 0, none⟩) 3 3 putW := rd_made w putW _ _ _ rfl (by decide)
  have hb0 : Below w.heap.size w (w.alloc (.cells (putW.map B).toArray 5 (3, 4))) := (Below.refl _ _).alloc (Nat.le_refl _) _
  refine (rnum (some ⟨w.heap.size, 0, none⟩) 3 3 a putW _ hr0 f0 (by omega)).mono ?_
  rw [HE0.out]
  rintro x w1 ⟨v1, rfl, hf1, hb1⟩
  obtain ⟨p1, c1, hv1, hr1⟩ := hf1.form' E0.length rfl
  subst hv1
  have HR1 := Lib.hid hr1
  have HB1 := Lib.hid (hb0.trans (hb1.mono hb0.size))
  clear hf1 hb1 hr1
  go_wp2_with fail
  refine (rnum p1 E0.length c1 b E0 w1 HR1.out f1 (by have := HN0.out; omega)).mono ?_
  rw [HE1.out]
  rintro x w2 ⟨v2, rfl, hf2, hb2⟩
  obtain ⟨p2, c2, hv2, hr2⟩ := hf2.form' E1.length rfl
  subst hv2
  have HR2 := Lib.hid hr2
  have HB2 := Lib.hid (HB1.out.trans (hb2.mono HB1.out.size))
  clear hf2 hb2 hr2
  go_wp2_with fail
  refine (rnum p2 E1.length c2 c E1 w2 HR2.out f2 (by have := HN1.out; omega)).mono ?_
  rw [HE2.out]
  rintro x w3 ⟨v3, rfl, hf3, hb3⟩
  obtain ⟨p3, c3, hv3, hr3⟩ := hf3.form' E2.length rfl
  subst hv3
  have HR3 := Lib.hid hr3
  have HB3 := Lib.hid (HB2.out.trans (hb3.mono HB2.out.size))
  clear hf3 hb3 hr3
  go_wp2_with fail
  refine (rnum p3 E2.length c3 d E2 w3 HR3.out f3 (by have := HN2.out; omega)).mono ?_
  rw [HE3.out]
  rintro x w4 ⟨v4, rfl, hf4, hb4⟩
  obtain ⟨p4, c4, hv4, hr4⟩ := hf4.form' E3.length rfl
  subst hv4
  have HR4 := Lib.hid hr4
  have HB4 := Lib.hid (HB3.out.trans (hb4.mono HB3.out.size))
  clear hf4 hb4 hr4
  go_wp2_with fail
  refine (rnum p4 E3.length c4 e E3 w4 HR4.out f4 (by have := HN3.out; omega)).mono ?_
  rw [HE4.out]
  rintro x w5 ⟨v5, rfl, hf5, hb5⟩
  obtain ⟨p5, c5, hv5, hr5⟩ := hf5.form' E4.length rfl
  subst hv5
  have HR5 := Lib.hid hr5
  have HB5 := Lib.hid (HB4.out.trans (hb5.mono HB4.out.size))
  clear hf5 hb5 hr5
  go_wp2_with fail
  go_ret
  exact ⟨_, _, _, rfl, HR5.out, by have := HN4.out; omega, HB5.out⟩

set_option maxRecDepth 100000 in
set_option maxHeartbeats 1000000 in
theorem rgettext_any (a b : Int) (s : ByteArray) (w : World) (hf : ∀ z ∈ [a, b], z ≤ 9223372036854775807) (hs : s.size ≤ 1000) :
    Calls Tryd.prog 27 #[.int .i64 a, .int .i64 b, .string s] w fun x w' => ∃ p m q, x = .returned (.slice p m q) ∧ Rd w' p m q (getW ++ [a, b].flatMap encI ++ (enc s.size ++ s.data.toList)) ∧ m ≤ 3000 ∧ Below w.heap.size w w' := by
  have kc := fun (w : World) (C : Array Value) (n c : Nat) => Lib.run_convert_bytes_const (P := Tryd.prog) w 34 5 C n c Tryd.underlying34 Tryd.underlying5
  have l0 := encI_len a (hf a (by simp))
  have f0 := hf a (by simp)
  have l1 := encI_len b (hf b (by simp))
  have f1 := hf b (by simp)
  unfold encI at l0 l1
  have e0 : getW ++ [a, b].flatMap encI = getW ++ enc a.toNat ++ enc b.toNat := by simp [encI]
  rw [e0]
  obtain ⟨E0, hE0⟩ : ∃ E, getW ++ enc a.toNat = E := ⟨_, rfl⟩
  rw [hE0]
  have HE0 := Lib.hid hE0
  have HN0 : Hid (E0.length ≤ 12) := Lib.hid (by rw [← hE0, List.length_append]; simp [getW]; omega)
  obtain ⟨E1, hE1⟩ : ∃ E, E0 ++ enc b.toNat = E := ⟨_, rfl⟩
  rw [hE1]
  have HE1 := Lib.hid hE1
  have HN1 : Hid (E1.length ≤ 21) := Lib.hid (by rw [← hE1, List.length_append]; have := HN0.out; omega)
  clear hf e0 hE0 hE1 l0 l1
  go_enter Tryd.func27, Tryd.ntmps27
  go_wp2_with fail
  have hr0 : Rd (w.alloc (.cells (getW.map B).toArray 5 (3, 4))) (some ⟨w.heap.size, 0, none⟩) 3 3 getW := rd_made w getW _ _ _ rfl (by decide)
  have hb0 : Below w.heap.size w (w.alloc (.cells (getW.map B).toArray 5 (3, 4))) := (Below.refl _ _).alloc (Nat.le_refl _) _
  refine (rnum (some ⟨w.heap.size, 0, none⟩) 3 3 a getW _ hr0 f0 (by omega)).mono ?_
  rw [HE0.out]
  rintro x w1 ⟨v1, rfl, hf1, hb1⟩
  obtain ⟨p1, c1, hv1, hr1⟩ := hf1.form' E0.length rfl
  subst hv1
  have HR1 := Lib.hid hr1
  have HB1 := Lib.hid (hb0.trans (hb1.mono hb0.size))
  clear hf1 hb1 hr1
  go_wp2_with fail
  refine (rnum p1 E0.length c1 b E0 w1 HR1.out f1 (by have := HN0.out; omega)).mono ?_
  rw [HE1.out]
  rintro x w2 ⟨v2, rfl, hf2, hb2⟩
  obtain ⟨p2, c2, hv2, hr2⟩ := hf2.form' E1.length rfl
  subst hv2
  have HR2 := Lib.hid hr2
  have HB2 := Lib.hid (HB1.out.trans (hb2.mono HB1.out.size))
  clear hf2 hb2 hr2
  go_wp2_with fail
  refine (rtext p2 E1.length c2 s E1 w2 HR2.out (by omega) (by have := HN1.out; omega)).mono ?_
  rintro x w9 ⟨v9, rfl, hf9, hb9⟩
  obtain ⟨p9, c9, hv9, hr9⟩ := hf9.form' (E1.length + ((enc s.size).length + s.size)) (by simp)
  subst hv9
  have HR9 := Lib.hid hr9
  have HB9 := Lib.hid (HB2.out.trans (hb9.mono HB2.out.size))
  have el := P.enc_len s.size (by omega)
  clear hf9 hb9 hr9
  go_wp2_with fail
  go_ret
  exact ⟨_, _, _, rfl, HR9.out, by have := HN1.out; omega, HB9.out⟩


set_option maxRecDepth 100000 in
set_option maxHeartbeats 4000000 in
theorem law_KeyringTexts (a b c d e : Int) (s : ByteArray) (w : World) (hK : Ks w) (ha : (Lit.int .i64 a).wf = true) (hb : (Lit.int .i64 b).wf = true) (hc : (Lit.int .i64 c).wf = true) (hd : (Lit.int .i64 d).wf = true) (he : (Lit.int .i64 e).wf = true) (hs : s.size ≤ maxLen) :
    Calls Tryd.prog 5 #[.int .i64 a, .int .i64 b, .int .i64 c, .int .i64 d, .int .i64 e, .string s] w fun x w' => x = .returned (.bool true) ∧ Below w.heap.size w w' := by
  have HK := Lib.hid hK
  have HF5 := Lib.hid (five_fit a b c d e (bd ha).2 (bd hb).2 (bd hc).2 (bd hd).2 (bd he).2)
  have HF2 := Lib.hid (two_fit a b (bd ha).2 (bd hb).2)
  unfold maxLen at hs
  clear hK ha hb hc hd he
  by_cases h1 : 500 < s.size
  · go_enter Tryd.func5, Tryd.ntmps5
    go_wp2_with (go_at_call 17; refine (awake7 _ HK.out).mono ?_; rintro e w' ⟨rfl, hb⟩)
    go_ret
    exact ⟨rfl, by assumption⟩
  obtain ⟨E, hE⟩ : ∃ E, putW ++ [a, b, c, d, e].flatMap encI = E := ⟨_, rfl⟩
  obtain ⟨G, hG⟩ : ∃ G, getW ++ [a, b].flatMap encI ++ (enc s.size ++ s.data.toList) = G := ⟨_, rfl⟩
  have HE := Lib.hid hE
  have HG := Lib.hid hG
  clear hE hG
  go_enter Tryd.func5, Tryd.ntmps5
  go_wp2_with fail
  refine (puttext_any a b c d e w HF5.out).mono ?_
  rw [HE.out]
  rintro x w1 ⟨p1, m1, q1, rfl, hr1, hm1, hb1⟩
  have HR1 := Lib.hid hr1
  have HB1 := Lib.hid hb1
  clear hr1 hb1
  go_wp2_with fail
  refine (rputtext_any a b c d e w1 HF5.out).mono ?_
  rw [HE.out]
  rintro x w2 ⟨p2, m2, q2, rfl, hr2, hm2, hb2⟩
  have HR2 := Lib.hid hr2
  have HB2 := Lib.hid (HB1.out.trans (hb2.mono HB1.out.size))
  have HR12 := Lib.hid (HR1.out.mono hb2)
  clear hr2 hb2
  go_wp2_with fail
  refine (sequal p1 p2 m1 m2 q1 q2 E E w2 HR12.out HR2.out).mono ?_
  rw [decide_eq_true rfl]
  rintro x w3 ⟨rfl, hq3⟩
  have HB3 := Lib.hid (HB2.out.trans ((hq3.below w2.heap.size).mono HB2.out.size))
  clear hq3
  go_wp2_with fail
  refine (gettext_any a b s w3 HF2.out (by omega)).mono ?_
  rw [HG.out]
  rintro x w4 ⟨p4, m4, q4, rfl, hr4, hm4, hb4⟩
  have HR4 := Lib.hid hr4
  have HB4 := Lib.hid (HB3.out.trans (hb4.mono HB3.out.size))
  clear hr4 hb4
  go_wp2_with fail
  refine (rgettext_any a b s w4 HF2.out (by omega)).mono ?_
  rw [HG.out]
  rintro x w5 ⟨p5, m5, q5, rfl, hr5, hm5, hb5⟩
  have HR5 := Lib.hid hr5
  have HB5 := Lib.hid (HB4.out.trans (hb5.mono HB4.out.size))
  have HR45 := Lib.hid (HR4.out.mono hb5)
  clear hr5 hb5
  go_wp2_with fail
  refine (sequal p4 p5 m4 m5 q4 q5 G G w5 HR45.out HR5.out).mono ?_
  rw [decide_eq_true rfl]
  rintro x w6 ⟨rfl, hq6⟩
  have HB6 := Lib.hid (HB5.out.trans ((hq6.below w5.heap.size).mono HB5.out.size))
  clear hq6
  go_wp2_with (go_at_call 17; refine (awake7 w6 (HK.out.below HB6.out HK.out.pos)).mono ?_; rintro x w7 ⟨rfl, hb7⟩)
  go_ret
  exact ⟨rfl, HB6.out.trans (hb7.mono HB6.out.size)⟩

end Go.Proofs.YtagblhkihammdaaDoor.W
