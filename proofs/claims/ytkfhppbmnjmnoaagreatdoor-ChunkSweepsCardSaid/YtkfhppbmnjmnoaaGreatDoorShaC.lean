/- CONTRACTS of layer 3 (sha): the reference's block. -/
import Derived.Test.YtkfhppbmnjmnoaaGreatDoorShaB
set_option linter.unusedSimpArgs false
set_option linter.unusedVariables false
namespace Go.Proofs.YtkfhppbmnjmnoaaGreatDoor.W
open Go.ChangeShapes Go.WideShapes Go.ChangeAt Go.RowKit
open Go.Proofs.YtkfhppbmnjmnoaaGreatDoor.P

/-- what holds in the region that makes the three arrays, whatever of it has been done -/
structure RI (b : List UInt8) (W KK h : List UInt32) (base : Nat) (w3 w : World) (d0 d1 d2 d3 d4 d5 d6 d7 d8 d9 : Bool) (u14 u15 u16 u17 u5 u6 u7 : Value) (g5 g6 g7 : Nat) : Prop where
  bel : Below base w3 w
  siz : base ≤ w.heap.size
  f0 : d0 = true → u14 = .agg (b.map B).toArray
  f1 : d1 = true → u15 = .agg (W.map U).toArray
  f2 : d2 = true → u16 = .agg (KK.map U).toArray
  f3 : d3 = true → u17 = .agg (h.map U).toArray
  f4 : d4 = true → u5 = .pointer (some ⟨g5, 0, none⟩) ∧ base ≤ g5 ∧ Row w g5 99 ((if d7 then W else List.replicate 64 0).map U)
  f5 : d5 = true → u6 = .pointer (some ⟨g6, 0, none⟩) ∧ base ≤ g6 ∧ Row w g6 99 ((if d8 then KK else List.replicate 64 0).map U)
  f6 : d6 = true → u7 = .pointer (some ⟨g7, 0, none⟩) ∧ base ≤ g7 ∧ Row w g7 77 ((if d9 then h else List.replicate 8 0).map U)
  s4 : d4 = false → d7 = false
  s5 : d5 = false → d8 = false
  s6 : d6 = false → d9 = false
  n56 : d4 = true → d5 = true → g5 ≠ g6
  n57 : d4 = true → d6 = true → g5 ≠ g7
  n67 : d5 = true → d6 = true → g6 ≠ g7

section
variable {b : List UInt8} {W KK h : List UInt32} {base : Nat} {w3 w w' : World} {d0 d1 d2 d3 d4 d5 d6 d7 d8 d9 : Bool} {u14 u15 u16 u17 u5 u6 u7 : Value} {g5 g6 g7 : Nat}
/-- memory that is new changes nothing of it -/
theorem RI.grow (x : RI b W KK h base w3 w d0 d1 d2 d3 d4 d5 d6 d7 d8 d9 u14 u15 u16 u17 u5 u6 u7 g5 g6 g7) (hb : Below w.heap.size w w') : RI b W KK h base w3 w' d0 d1 d2 d3 d4 d5 d6 d7 d8 d9 u14 u15 u16 u17 u5 u6 u7 g5 g6 g7 :=
  { x with bel := x.bel.trans (hb.mono x.siz), siz := Nat.le_trans x.siz hb.size
           f4 := fun h => ⟨(x.f4 h).1, (x.f4 h).2.1, (x.f4 h).2.2.below hb (x.f4 h).2.2.lt⟩
           f5 := fun h => ⟨(x.f5 h).1, (x.f5 h).2.1, (x.f5 h).2.2.below hb (x.f5 h).2.2.lt⟩
           f6 := fun h => ⟨(x.f6 h).1, (x.f6 h).2.1, (x.f6 h).2.2.below hb (x.f6 h).2.2.lt⟩ }
end

set_option maxRecDepth 100000 in
set_option maxHeartbeats 4000000 in
theorem rblock_any (h : List UInt32) (b : List UInt8) (hh : h.length = 8) (hb : b.length = 64) (w : World) : Calls Tryz.prog 56 #[.agg (h.map U).toArray, .agg (b.map B).toArray] w fun e w' => e = .returned (.agg ((blk h b).map U).toArray) ∧ Below w.heap.size w w' := by
  have HB := Lib.hid hb
  have HBL := Lib.hid (show (Tryz.prog.info? 79).map (·.size) = some (b.map B).length by rw [List.length_map, hb]; exact size64b)
  have HH := Lib.hid hh
  have HHL := Lib.hid (show (Tryz.prog.info? 77).map (·.size) = some (h.map U).length by rw [List.length_map, hh]; exact size8)
  clear hh hb
  go_enter Tryz.func56, Tryz.ntmps56
  go_wp2_with (first
    | (with_reducible refine box_row (o := ⟨some 2, _, _, _, _, _⟩) rfl _ _ rfl (h.map U) rfl ?_; intro w1 hr1 hb1 hz1; have HR1 := Lib.hid hr1; clear hr1; have HZ1 := Lib.hid hz1; clear hz1)
    | (with_reducible refine box_row (o := ⟨some 3, _, _, _, _, _⟩) rfl _ _ rfl (b.map B) rfl ?_; intro w2 hr2 hb2 hz2; have HR2 := Lib.hid hr2; clear hr2; have HZ2 := Lib.hid hz2; clear hz2)
    | (with_reducible refine alloc_row (o := ⟨some 4, _, _, _, _, _⟩) rfl _ rfl _ zero8 ?_; intro w3 hr3 hb3 hz3; have HR3 := Lib.hid hr3; clear hr3; have HZ3 := Lib.hid hz3; clear hz3
       have HR1 := Lib.hid ((HR1.out.below hb2 (by have := HZ1.out; omega)).below hb3 (by have := HZ1.out; have := HZ2.out; omega)); have HR2 := Lib.hid (HR2.out.below hb3 (by have := HZ2.out; omega))
       have hbl : Below w.heap.size w w3 := (hb1.trans (hb2.mono (by have := HZ1.out; omega))).trans (hb3.mono (by have := HZ1.out; have := HZ2.out; omega))))
  have hgg : w.heap.size < w1.heap.size ∧ w1.heap.size < w2.heap.size ∧ w2.heap.size < w3.heap.size := by have := HZ1.out; have := HZ2.out; have := HZ3.out; omega
  have HGG := Lib.hid hgg
  clear hgg hb1 hb2 hb3 HZ1 HZ2 HZ3
  generalize w1.heap.size = gb at *
  generalize w2.heap.size = gr at *
  obtain ⟨W, hW⟩ : ∃ W, W = ws b := ⟨_, rfl⟩
  obtain ⟨KK, hKK⟩ : ∃ KK, KK = Kc := ⟨_, rfl⟩
  have HW := Lib.hid hW
  have HKE := Lib.hid hKK
  have HWL := Lib.hid (show W.length = 64 by rw [hW, ws_len])
  have HKL := Lib.hid (show KK.length = 64 by rw [hKK]; rfl)
  have HSW := Lib.hid (show (Tryz.prog.info? 99).map (·.size) = some (W.map U).length by rw [List.length_map, HWL.out]; exact size64)
  have HSK := Lib.hid (show (Tryz.prog.info? 99).map (·.size) = some (KK.map U).length by rw [List.length_map, HKL.out]; exact size64)
  have HSH := Lib.hid (show (Tryz.prog.info? 77).map (·.size) = some (h.map U).length by rw [List.length_map, HH.out]; exact size8)
  have HOW := Lib.hid (show ((if false = true then W else List.replicate 64 (0 : UInt32)).map U).length = (W.map U).length by rw [List.length_map, List.length_map, HWL.out]; rfl)
  have HOK := Lib.hid (show ((if false = true then KK else List.replicate 64 (0 : UInt32)).map U).length = (KK.map U).length by rw [List.length_map, List.length_map, HKL.out]; rfl)
  have HOH := Lib.hid (show ((if false = true then h else List.replicate 8 (0 : UInt32)).map U).length = (h.map U).length by rw [List.length_map, List.length_map, HH.out]; rfl)
  clear hW hKK
  go_wp2_with fail
  refine wp_region_inv (by kernel_rfl) (by kernel_rfl) (fun a0 d a v => ∃ u14 u15 u16 u17 u5 u6 u7 g5 g6 g7, a = ((((((a0.put (some 14) u14).put (some 15) u15).put (some 16) u16).put (some 17) u17).put (some 5) u5).put (some 6) u6).put (some 7) u7 ∧
    RI b W KK h w3.heap.size w3 v (d.getD 0 false) (d.getD 1 false) (d.getD 2 false) (d.getD 3 false) (d.getD 4 false) (d.getD 5 false) (d.getD 6 false) (d.getD 7 false) (d.getD 8 false) (d.getD 9 false) u14 u15 u16 u17 u5 u6 u7 g5 g6 g7) ?_ ?_ ?_
  · refine ⟨undef, undef, undef, undef, undef, undef, undef, 0, 0, 0, by go_simp, ?_⟩
    exact { bel := (Below.refl _ _).drew, siz := Nat.le_refl _, f0 := (by intro h; cases h), f1 := (by intro h; cases h), f2 := (by intro h; cases h), f3 := (by intro h; cases h), f4 := (by intro h; cases h), f5 := (by intro h; cases h), f6 := (by intro h; cases h), s4 := fun _ => rfl, s5 := fun _ => rfl, s6 := fun _ => rfl, n56 := (by intro h; cases h), n57 := (by intro h; cases h), n67 := (by intro h; cases h) }
  · intro d a v i o hs hI ho hu he M hM
    obtain ⟨u14, u15, u16, u17, u5, u6, u7, g5, g6, g7, rfl, x⟩ := hI
    obtain ⟨dl⟩ := d
    match dl, hs with
    | [e0, e1, e2, e3, e4, e5, e6, e7, e8, e9], _ =>
    have x : RI b W KK h w3.heap.size w3 v e0 e1 e2 e3 e4 e5 e6 e7 e8 e9 u14 u15 u16 u17 u5 u6 u7 g5 g6 g7 := x
    have hrb := HR2.out.below x.bel HR2.out.lt
    have hrh := HR1.out.below x.bel HR1.out.lt
    have hi : i < 10 := by have := (List.getElem?_eq_some_iff.1 ho).1; simpa using this
    have hi' : i = 0 ∨ i = 1 ∨ i = 2 ∨ i = 3 ∨ i = 4 ∨ i = 5 ∨ i = 6 ∨ i = 7 ∨ i = 8 ∨ i = 9 := by omega
    rcases hi' with rfl | rfl | rfl | rfl | rfl | rfl | rfl | rfl | rfl | rfl
    all_goals
      simp only [List.getElem?_cons_zero, List.getElem?_cons_succ, Option.some.injEq] at ho
      subst ho
      simp [Region.binds] at he hu
    · refine load_row rfl _ _ rfl gb (by go_simp) 79 _ (.array 64 5) hrb Tryz.underlying79 rfl HBL.out ?_
      refine hM _ _ ⟨.agg (b.map B).toArray, u15, u16, u17, u5, u6, u7, g5, g6, g7, by go_simp, ?_⟩
      show RI b W KK h w3.heap.size w3 v true e1 e2 e3 e4 e5 e6 e7 e8 e9 (.agg (b.map B).toArray) u15 u16 u17 u5 u6 u7 g5 g6 g7
      exact { x with f0 := fun _ => rfl }
    · have hf0 := x.f0 he
      subst hf0
      refine call_list rfl 79 #[.agg (b.map B).toArray] (by go_simp) (fun r w' => r = .agg (W.map U).toArray ∧ Below v.heap.size v w') ((rwords_any b HB.out _).mono fun e w' ⟨he, hb⟩ => ⟨_, he, by rw [HW.out], hb⟩) ?_
      rintro _ w' ⟨rfl, hb⟩
      refine hM _ _ ⟨.agg (b.map B).toArray, .agg (W.map U).toArray, u16, u17, u5, u6, u7, g5, g6, g7, by go_simp, ?_⟩
      have y := x.grow hb
      exact { y with f1 := fun _ => rfl }
    · refine call_list rfl 80 #[] (by go_simp) (fun r w' => r = .agg (KK.map U).toArray ∧ Below v.heap.size v w') ((rconst_any _).mono fun e w' ⟨he, hb⟩ => ⟨_, he, by rw [HKE.out], hb⟩) ?_
      rintro _ w' ⟨rfl, hb⟩
      refine hM _ _ ⟨u14, u15, .agg (KK.map U).toArray, u17, u5, u6, u7, g5, g6, g7, by go_simp, ?_⟩
      have y := x.grow hb
      exact { y with f2 := fun _ => rfl }
    · refine load_row rfl _ _ rfl w.heap.size (by go_simp) 77 _ (.array 8 76) hrh Tryz.underlying77 rfl HHL.out ?_
      refine hM _ _ ⟨u14, u15, u16, .agg (h.map U).toArray, u5, u6, u7, g5, g6, g7, by go_simp, ?_⟩
      show RI b W KK h w3.heap.size w3 v e0 e1 e2 true e4 e5 e6 e7 e8 e9 u14 u15 u16 (.agg (h.map U).toArray) u5 u6 u7 g5 g6 g7
      exact { x with f3 := fun _ => rfl }
    · have hst : e7 = false := x.s4 hu
      subst hst
      refine alloc_row rfl _ rfl _ zero64 ?_
      intro w' hr hb hz
      refine hM _ _ ⟨u14, u15, u16, u17, (.pointer (some ⟨v.heap.size, 0, none⟩)), u6, u7, v.heap.size, g6, g7, by go_simp, ?_⟩
      show RI b W KK h w3.heap.size w3 w' e0 e1 e2 e3 true e5 e6 false e8 e9 u14 u15 u16 u17 ((.pointer (some ⟨v.heap.size, 0, none⟩))) u6 u7 v.heap.size g6 g7
      have y := x.grow hb
      exact { y with f4 := fun _ => ⟨rfl, x.siz, hr⟩, s4 := (by intro h; cases h), n56 := fun _ h => (Nat.ne_of_lt (x.f5 h).2.2.lt).symm, n57 := fun _ h => (Nat.ne_of_lt (x.f6 h).2.2.lt).symm }
    · have hst : e8 = false := x.s5 hu
      subst hst
      refine alloc_row rfl _ rfl _ zero64 ?_
      intro w' hr hb hz
      refine hM _ _ ⟨u14, u15, u16, u17, u5, (.pointer (some ⟨v.heap.size, 0, none⟩)), u7, g5, v.heap.size, g7, by go_simp, ?_⟩
      show RI b W KK h w3.heap.size w3 w' e0 e1 e2 e3 e4 true e6 e7 false e9 u14 u15 u16 u17 u5 ((.pointer (some ⟨v.heap.size, 0, none⟩))) u7 g5 v.heap.size g7
      have y := x.grow hb
      exact { y with f5 := fun _ => ⟨rfl, x.siz, hr⟩, s5 := (by intro h; cases h), n56 := fun h _ => Nat.ne_of_lt (x.f4 h).2.2.lt, n67 := fun _ h => (Nat.ne_of_lt (x.f6 h).2.2.lt).symm }
    · have hst : e9 = false := x.s6 hu
      subst hst
      refine alloc_row rfl _ rfl _ zero8 ?_
      intro w' hr hb hz
      refine hM _ _ ⟨u14, u15, u16, u17, u5, u6, (.pointer (some ⟨v.heap.size, 0, none⟩)), g5, g6, v.heap.size, by go_simp, ?_⟩
      show RI b W KK h w3.heap.size w3 w' e0 e1 e2 e3 e4 e5 true e7 e8 false u14 u15 u16 u17 u5 u6 ((.pointer (some ⟨v.heap.size, 0, none⟩))) g5 g6 v.heap.size
      have y := x.grow hb
      exact { y with f6 := fun _ => ⟨rfl, x.siz, hr⟩, s6 := (by intro h; cases h), n57 := fun h _ => Nat.ne_of_lt (x.f4 h).2.2.lt, n67 := fun h _ => Nat.ne_of_lt (x.f5 h).2.2.lt }
    · have hA := he.1
      have hZ := he.2.1
      obtain ⟨hp, hg, hr⟩ := x.f4 hA
      have hs := x.f1 hZ
      subst hp hs
      rw [hu] at hr
      refine store_row rfl _ _ _ rfl g5 (W.map U) (by go_simp) (by go_simp) 99 _ hr HSW.out HOW.out (U_one _) ?_
      intro w' hr' hu'
      refine hM _ _ ⟨u14, (.agg (W.map U).toArray), u16, u17, (.pointer (some ⟨g5, 0, none⟩)), u6, u7, g5, g6, g7, by go_simp, ?_⟩
      show RI b W KK h w3.heap.size w3 w' e0 e1 e2 e3 e4 e5 e6 true e8 e9 u14 ((.agg (W.map U).toArray)) u16 u17 ((.pointer (some ⟨g5, 0, none⟩))) u6 u7 g5 g6 g7
      exact { x with bel := x.bel.trans (hu'.below hg), siz := (by rw [hu'.size]; exact x.siz), f4 := fun _ => ⟨rfl, hg, hr'⟩, s4 := fun h' => (by rw [hA] at h'; cases h'), f5 := fun h' => ⟨(x.f5 h').1, (x.f5 h').2.1, (x.f5 h').2.2.upd hu' ((x.n56 hA h').symm)⟩, f6 := fun h' => ⟨(x.f6 h').1, (x.f6 h').2.1, (x.f6 h').2.2.upd hu' ((x.n57 hA h').symm)⟩ }
    · have hA := he.1
      have hZ := he.2.1
      obtain ⟨hp, hg, hr⟩ := x.f5 hA
      have hs := x.f2 hZ
      subst hp hs
      rw [hu] at hr
      refine store_row rfl _ _ _ rfl g6 (KK.map U) (by go_simp) (by go_simp) 99 _ hr HSK.out HOK.out (U_one _) ?_
      intro w' hr' hu'
      refine hM _ _ ⟨u14, u15, (.agg (KK.map U).toArray), u17, u5, (.pointer (some ⟨g6, 0, none⟩)), u7, g5, g6, g7, by go_simp, ?_⟩
      show RI b W KK h w3.heap.size w3 w' e0 e1 e2 e3 e4 e5 e6 e7 true e9 u14 u15 ((.agg (KK.map U).toArray)) u17 u5 ((.pointer (some ⟨g6, 0, none⟩))) u7 g5 g6 g7
      exact { x with bel := x.bel.trans (hu'.below hg), siz := (by rw [hu'.size]; exact x.siz), f5 := fun _ => ⟨rfl, hg, hr'⟩, s5 := fun h' => (by rw [hA] at h'; cases h'), f4 := fun h' => ⟨(x.f4 h').1, (x.f4 h').2.1, (x.f4 h').2.2.upd hu' (x.n56 h' hA)⟩, f6 := fun h' => ⟨(x.f6 h').1, (x.f6 h').2.1, (x.f6 h').2.2.upd hu' ((x.n67 hA h').symm)⟩ }
    · have hA := he.1
      have hZ := he.2.1
      obtain ⟨hp, hg, hr⟩ := x.f6 hA
      have hs := x.f3 hZ
      subst hp hs
      rw [hu] at hr
      refine store_row rfl _ _ _ rfl g7 (h.map U) (by go_simp) (by go_simp) 77 _ hr HSH.out HOH.out (U_one _) ?_
      intro w' hr' hu'
      refine hM _ _ ⟨u14, u15, u16, (.agg (h.map U).toArray), u5, u6, (.pointer (some ⟨g7, 0, none⟩)), g5, g6, g7, by go_simp, ?_⟩
      show RI b W KK h w3.heap.size w3 w' e0 e1 e2 e3 e4 e5 e6 e7 e8 true u14 u15 u16 ((.agg (h.map U).toArray)) u5 u6 ((.pointer (some ⟨g7, 0, none⟩))) g5 g6 g7
      exact { x with bel := x.bel.trans (hu'.below hg), siz := (by rw [hu'.size]; exact x.siz), f6 := fun _ => ⟨rfl, hg, hr'⟩, s6 := fun h' => (by rw [hA] at h'; cases h'), f4 := fun h' => ⟨(x.f4 h').1, (x.f4 h').2.1, (x.f4 h').2.2.upd hu' (x.n57 h' hA)⟩, f5 := fun h' => ⟨(x.f5 h').1, (x.f5 h').2.1, (x.f5 h').2.2.upd hu' (x.n67 h' hA)⟩ }
  · intro a' v hI
    obtain ⟨u14, u15, u16, u17, u5, u6, u7, g5, g6, g7, rfl, x⟩ := hI
    have x : RI b W KK h w3.heap.size w3 v true true true true true true true true true true u14 u15 u16 u17 u5 u6 u7 g5 g6 g7 := x
    obtain ⟨hp5, hg5, hr5⟩ := x.f4 rfl
    obtain ⟨hp6, hg6, hr6⟩ := x.f5 rfl
    obtain ⟨hp7, hg7, hr7⟩ := x.f6 rfl
    have h56 := x.n56 rfl rfl
    have h57 := x.n57 rfl rfl
    have h67 := x.n67 rfl rfl
    have hbl3 := hbl.trans (x.bel.mono (by have := HGG.out; omega))
    have HRG := Lib.hid (HR3.out.below x.bel (by have := HGG.out; omega))
    have HRH := Lib.hid (HR1.out.below x.bel (by have := HGG.out; omega))
    have hf0 := x.f0 rfl
    have hf1 := x.f1 rfl
    have hf2 := x.f2 rfl
    have hf3 := x.f3 rfl
    subst hp5 hp6 hp7 hf0 hf1 hf2 hf3
    simp only [if_true] at hr5 hr6 hr7
    have HR5 := Lib.hid hr5
    have HR6 := Lib.hid hr6
    have HGX := Lib.hid (show g5 ≠ g7 ∧ g6 ≠ g7 ∧ w.heap.size ≠ g7 ∧ gr ≠ g7 ∧ w.heap.size ≤ g7 ∧ w.heap.size < gr by have := HGG.out; omega)
    have HS0 : Hid (rs h b 0 = sOf h) := Lib.hid rfl
    obtain ⟨s0, hs0⟩ : ∃ s, sOf h = s := ⟨_, rfl⟩
    have hsl : s0.list = h := by
      rw [← hs0]
      match h, HH.out with
      | [_, _, _, _, _, _, _, _], _ => rfl
    rw [hs0] at HS0
    rw [← hsl] at hr7
    have HR7 := Lib.hid hr7
    clear x hr5 hr6 hr7 h56 h57 h67 hg5 hg6 hg7 hbl HR1 HR2 HR3 hs0 hsl HSW HSK HSH HOW HOK HOH
    go_wp2_with fail
    go_loopw [8] (fun i wr => ∃ k : Nat, ∃ s : S8, i = .int .i64 k ∧ k ≤ 64 ∧ Hid (rs h b k = s) ∧ Hid (Row wr g7 77 (s.list.map U)) ∧ Hid (Row wr g5 99 (W.map U)) ∧ Hid (Row wr g6 99 (KK.map U)) ∧ Hid (Row wr w.heap.size 77 (h.map U)) ∧ Hid (Row wr gr 77 ((List.replicate 8 0).map U)) ∧ Hid (Below w.heap.size w wr)) (fun i _ => 64 - (intOf i).toNat)
    case atStart => exact ⟨0, s0, rfl, by omega, HS0, HR7, HR5, HR6, HRH, HRG, hbl3⟩
    case round =>
      obtain ⟨k, s, rfl, hk, HS, HRS, HRW, HRK, HRA, HRB, HBV⟩ := hrel
      by_cases hlt : k < 64
      · obtain ⟨p, q, r, s1, t, u, vv, x⟩ := s
        have c0 : wr.cell? ⟨g7, 0, none⟩ = some (U p) := HRS.out.cell 0 0 (show (0 : Nat) < 8 by decide)
        have c4 : wr.cell? ⟨g7, 4, none⟩ = some (U t) := HRS.out.cell 0 4 (show (4 : Nat) < 8 by decide)
        unfold U at c0 c4
        go_wp2_with fail
        go_quiet (fail)
        go_wp2_with fail
        have HRS' := Lib.hid (HRS.out.drewN nq)
        have HRW' := Lib.hid (HRW.out.drewN nq)
        have HRK' := Lib.hid (HRK.out.drewN nq)
        have HRA' := Lib.hid (HRA.out.drewN nq)
        have HRB' := Lib.hid (HRB.out.drewN nq)
        have HBV' := Lib.hid (below_drewN HBV.out nq)
        clear HRS HRW HRK HRA HRB HBV c0 c4
        generalize wr.drewN nq = wa at *
        obtain ⟨kk, hkk⟩ : ∃ y, KK.getD k 0 = y := ⟨_, rfl⟩
        obtain ⟨m0, hm0⟩ : ∃ y, W.getD k 0 = y := ⟨_, rfl⟩
        have ck := HRK'.out.cell 0 k (by rw [HKL.out]; exact hlt)
        have cw := HRW'.out.cell 0 k (by rw [HWL.out]; exact hlt)
        rw [hkk] at ck
        rw [hm0] at cw
        have HKK := Lib.hid hkk
        have HM0 := Lib.hid hm0
        clear hkk hm0
        have c5 : wa.cell? ⟨g7, 5, none⟩ = some (U u) := HRS'.out.cell 0 5 (show (5 : Nat) < 8 by decide)
        have c6 : wa.cell? ⟨g7, 6, none⟩ = some (U vv) := HRS'.out.cell 0 6 (show (6 : Nat) < 8 by decide)
        have c7 : wa.cell? ⟨g7, 7, none⟩ = some (U x) := HRS'.out.cell 0 7 (show (7 : Nat) < 8 by decide)
        unfold U at c5 c6 c7 ck cw
        go_quiet ((go_at_call 81; exact Calls.quiet_of (rot_at _ _ (by decide) _)))
        have em : (if IntKind.u32.signed = true then (-1 : Int) else IntKind.u32.max) = 4294967295 := rfl
        have hB : rot t 6 ^^^ rot t 11 ^^^ rot t 25 = bB t := rfl
        have hC : (t &&& u) ^^^ (~~~t &&& vv) = ch t u vv := rfl
        simp only [em, i_not, i_and, i_xor, hB, hC]
        obtain ⟨X, hX⟩ : ∃ X, x + bB t + ch t u vv + kk + m0 = X := ⟨_, rfl⟩
        have iX : (((x.toNat : Int) + (bB t).toNat + (ch t u vv).toNat + kk.toNat) % 4294967296 + m0.toNat) % 4294967296 = (X.toNat : Int) := by
          rw [← hX]; simp only [UInt32.toNat_add]; omega
        rw [iX]
        have HX := Lib.hid hX
        have HRS := Lib.hid (HRS'.out.drewN nq)
        have HRW := Lib.hid (HRW'.out.drewN nq)
        have HRK := Lib.hid (HRK'.out.drewN nq)
        have HRA := Lib.hid (HRA'.out.drewN nq)
        have HRB := Lib.hid (HRB'.out.drewN nq)
        have HBV := Lib.hid (below_drewN HBV'.out nq)
        clear HRS' HRW' HRK' HRA' HRB' HBV' c5 c6 c7 ck cw em hB hC hX iX
        generalize wa.drewN nq = wb at *
        go_wp2_with fail
        have c1 : wb.cell? ⟨g7, 1, none⟩ = some (U q) := HRS.out.cell 0 1 (show (1 : Nat) < 8 by decide)
        have c2 : wb.cell? ⟨g7, 2, none⟩ = some (U r) := HRS.out.cell 0 2 (show (2 : Nat) < 8 by decide)
        unfold U at c1 c2
        go_quiet ((go_at_call 81; exact Calls.quiet_of (rot_at _ _ (by decide) _)))
        have hA : rot p 2 ^^^ rot p 13 ^^^ rot p 22 = bA p := rfl
        have hM : (p &&& q) ^^^ (p &&& r) ^^^ (q &&& r) = maj p q r := rfl
        simp only [i_and, i_xor, hA, hM]
        obtain ⟨Y, hY⟩ : ∃ Y, bA p + maj p q r = Y := ⟨_, rfl⟩
        have iY : (((bA p).toNat : Int) + (maj p q r).toNat) % 4294967296 = (Y.toNat : Int) := by rw [← hY]; simp only [UInt32.toNat_add]; omega
        rw [iY]
        have HY := Lib.hid hY
        have HRS' := Lib.hid (HRS.out.drewN nq)
        have HRW' := Lib.hid (HRW.out.drewN nq)
        have HRK' := Lib.hid (HRK.out.drewN nq)
        have HRA' := Lib.hid (HRA.out.drewN nq)
        have HRB' := Lib.hid (HRB.out.drewN nq)
        have HBV' := Lib.hid (below_drewN HBV.out nq)
        clear HRS HRW HRK HRA HRB HBV c1 c2 hA hM hY iY
        generalize wb.drewN nq = wc at *
        have c0 : wc.cell? ⟨g7, 0, none⟩ = some (U p) := HRS'.out.cell 0 0 (show (0 : Nat) < 8 by decide)
        have c1 : wc.cell? ⟨g7, 1, none⟩ = some (U q) := HRS'.out.cell 0 1 (show (1 : Nat) < 8 by decide)
        have c2 : wc.cell? ⟨g7, 2, none⟩ = some (U r) := HRS'.out.cell 0 2 (show (2 : Nat) < 8 by decide)
        have c3 : wc.cell? ⟨g7, 3, none⟩ = some (U s1) := HRS'.out.cell 0 3 (show (3 : Nat) < 8 by decide)
        have c4 : wc.cell? ⟨g7, 4, none⟩ = some (U t) := HRS'.out.cell 0 4 (show (4 : Nat) < 8 by decide)
        have c5 : wc.cell? ⟨g7, 5, none⟩ = some (U u) := HRS'.out.cell 0 5 (show (5 : Nat) < 8 by decide)
        have c6 : wc.cell? ⟨g7, 6, none⟩ = some (U vv) := HRS'.out.cell 0 6 (show (6 : Nat) < 8 by decide)
        unfold U at c0 c1 c2 c3 c4 c5 c6
        obtain ⟨x1, hx1⟩ : ∃ x1, X + Y = x1 := ⟨_, rfl⟩
        obtain ⟨x5, hx5⟩ : ∃ x5, s1 + X = x5 := ⟨_, rfl⟩
        have i1 : ((X.toNat : Int) + (Y.toNat : Int)) % 4294967296 = (x1.toNat : Int) := by rw [← hx1]; simp only [UInt32.toNat_add]; omega
        have i5 : ((s1.toNat : Int) + (X.toNat : Int)) % 4294967296 = (x5.toNat : Int) := by rw [← hx5]; simp only [UInt32.toNat_add]; omega
        have hnx : rs h b (k + 1) = ⟨x1, p, q, r, x5, t, u, vv⟩ := by
          rw [rs_succ, HS.out, ← HKE.out, HKK.out, ← HW.out, HM0.out, ← hx1, ← hx5, ← HX.out, ← HY.out]; rfl
        have HNX := Lib.hid hnx
        obtain ⟨sn, hsn⟩ : ∃ sn : List UInt32, [x1, p, q, r, x5, t, u, vv] = sn := ⟨_, rfl⟩
        have HSN := Lib.hid hsn
        have HBU := Lib.hid (show Tryz.prog.built 77 [(0, .int .u32 x1.toNat), (1, .int .u32 p.toNat), (2, .int .u32 q.toNat), (3, .int .u32 r.toNat), (4, .int .u32 x5.toNat), (5, .int .u32 t.toNat), (6, .int .u32 u.toNat), (7, .int .u32 vv.toNat)] = some (sn.map U).toArray by rw [← hsn]; kernel_rfl)
        have HSS := Lib.hid (show (Tryz.prog.info? 77).map (·.size) = some (sn.map U).length by rw [← hsn]; exact size8)
        have HSO := Lib.hid (show ((S8.list ⟨p, q, r, s1, t, u, vv, x⟩).map U).length = (sn.map U).length by rw [← hsn]; rfl)
        clear hx1 hx5 hnx hsn
        go_wp2_with (first
          | (refine build_row (o := ⟨some 99, .build _ _, _, _, _, _⟩) rfl _ _ rfl (sn.map U) (by go_simp; with_reducible exact HBU.out) ?_)
          | (with_reducible refine store_row (o := ⟨none, .store 77 _ _, _, _, _, _⟩) rfl _ _ _ rfl _ _ rfl rfl 77 _ HRS'.out HSS.out HSO.out (U_one _) ?_; intro wd hrd hud; clear HBU c0 c1 c2 c3 c4 c5 c6))
        go_roundw
        case rel =>
          have hg := HGX.out
          refine ⟨k + 1, _, by go_num, by omega, HNX, ?_, Lib.hid (HRW'.out.upd hud hg.1), Lib.hid (HRK'.out.upd hud hg.2.1), Lib.hid (HRA'.out.upd hud hg.2.2.1), Lib.hid (HRB'.out.upd hud hg.2.2.2.1), Lib.hid (HBV'.out.trans (hud.below hg.2.2.2.2.1))⟩
          rw [← HSN.out] at hrd; exact Lib.hid hrd
        case measure => simp [intOf]; omega
      · have hk64 : k = 64 := by omega
        have HK64 := Lib.hid hk64
        clear hk64
        obtain ⟨sl, hsl⟩ : ∃ sl, s.list = sl := ⟨_, rfl⟩
        have hsl8 : sl.length = 8 := by rw [← hsl]; rfl
        have hHR := HRS.out
        rw [hsl] at hHR
        have HSL := Lib.hid hsl
        have HSL8 := Lib.hid hsl8
        have HRS := Lib.hid hHR
        have HM0 := Lib.hid (show Row wr w.heap.size 77 ((mixd h sl 0).map U) by rw [mixd_zero]; exact HRA.out)
        clear hsl hsl8 hHR
        go_wp2_with fail
        go_loopw [13] (fun i wv => ∃ n : Nat, i = .int .i64 n ∧ n ≤ 8 ∧ Hid (Row wv w.heap.size 77 ((mixd h sl n).map U)) ∧ Hid (Row wv g7 77 (sl.map U)) ∧ Hid (Row wv gr 77 ((List.replicate 8 0).map U)) ∧ Hid (Below w.heap.size w wv)) (fun i _ => 8 - (intOf i).toNat)
        case atStart => exact ⟨0, rfl, by omega, HM0, HRS, HRB, HBV⟩
        case round =>
          obtain ⟨n, rfl, hn, HMX, HRT, HRV, HBX⟩ := hrel
          by_cases hn8 : n < 8
          · go_wp2_with fail
            have hc := HMX.out.cell 0 n (by rw [mixd_len _ _ _ HH.out HSL8.out hn]; exact hn8)
            rw [mixd_get _ _ _ HH.out HSL8.out hn8] at hc
            have hc2 := HRT.out.cell 0 n (by rw [HSL8.out]; exact hn8)
            obtain ⟨a0, ha0⟩ : ∃ x, h.getD n 0 = x := ⟨_, rfl⟩
            obtain ⟨b0, hb0⟩ : ∃ x, sl.getD n 0 = x := ⟨_, rfl⟩
            rw [ha0] at hc
            rw [hb0] at hc2
            unfold U at hc hc2
            refine wp_region_tail 9 (by kernel_rfl) (by kernel_rfl) ?_
            simp only [List.take_succ_cons, List.take_zero, List.drop_succ_cons, List.drop_zero]
            repeat (quiet_step (fail))
            refine wpQuiet_nil ?_
            rintro _ ⟨nq, rfl⟩
            have iadd : ((a0.toNat : Int) + (b0.toNat : Int)) % 4294967296 = ((a0 + b0).toNat : Int) := by rw [UInt32.toNat_add]; omega
            try rw [i_add]
            try rw [iadd]
            have hset := (HMX.out.drewN nq).set n (h.getD n 0 + sl.getD n 0)
            rw [mixd_set _ _ _ HH.out HSL8.out hn8, ha0, hb0] at hset
            generalize a0 + b0 = cs at *
            have hf := (HMX.out.drewN nq).frozen n
            have HSET := Lib.hid hset
            have hg := HGX.out
            have HR2' := Lib.hid ((HRT.out.drewN nq).upd (Upd.setCell _ w.heap.size n (U cs)) (by omega))
            have HR3' := Lib.hid ((HRV.out.drewN nq).upd (Upd.setCell _ w.heap.size n (U cs)) (by omega))
            have HB2 := Lib.hid ((below_drewN HBX.out nq).trans ((Upd.setCell _ w.heap.size n (U cs)).below (Nat.le_refl _)))
            have hc' : (wr.drewN nq).cell? ⟨w.heap.size, n, none⟩ = some (.int .u32 a0.toNat) := hc
            clear hset ha0 hb0 hg hc hc2 iadd
            generalize wr.drewN nq = wx at *
            go_wp2_with fail
            go_roundw
            case rel => exact ⟨n + 1, by go_num, by omega, HSET, HR2', HR3', HB2⟩
            case measure => simp [intOf]; omega
          · obtain rfl : n = 8 := by omega
            have hmx := HMX.out
            rw [mixd_full _ _ HH.out HSL8.out] at hmx
            obtain ⟨L8, hL8⟩ : ∃ x, List.zipWith (· + ·) h sl = x := ⟨_, rfl⟩
            rw [hL8] at hmx
            have hl : L8.length = 8 := by rw [← hL8]; simp [HH.out, HSL8.out]
            have HMX' := Lib.hid hmx
            have HL8 := Lib.hid hL8
            have HLS := Lib.hid (show (Tryz.prog.info? 77).map (·.size) = some (L8.map U).length by rw [List.length_map, hl]; exact size8)
            have HLO := Lib.hid (show ((List.replicate 8 (0 : UInt32)).map U).length = (L8.map U).length by rw [List.length_map, List.length_map, hl]; rfl)
            clear hmx hL8 hl
            go_wp2_with (first | (with_reducible refine load_row rfl _ _ rfl _ rfl 77 _ (.array 8 76) HMX'.out Tryz.underlying77 rfl HLS.out ?_) | (with_reducible refine store_row rfl _ _ _ rfl _ _ rfl rfl 77 _ HRV.out HLS.out HLO.out (U_one _) ?_; intro w5 hr5 hu5))
            have HS2 : (Tryz.prog.info? 77).map (·.size) = some (L8.map U).toArray.size := by rw [List.size_toArray]; exact HLS.out
            refine bodyPost_ret (results_cell_row rfl _ _ gr 77 (L8.map U).toArray _ (.array 8 76) rfl hr5 Tryz.underlying77 rfl HS2) rfl ⟨?_, ?_⟩
            · rw [← HL8.out, ← HSL.out, ← HS.out, HK64.out]; rfl
            · exact HBX.out.trans (hu5.below (by have := HGX.out; omega))
end Go.Proofs.YtkfhppbmnjmnoaaGreatDoor.W
