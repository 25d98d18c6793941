/- LAYER 28 (chunk): the program's New, sums, Used, Loose. -/
import Derived.Test.YtkncbckmgcklfaaDoorCkB
import Derived.Test.YtkncbckmgcklfaaDoorCavW
set_option linter.unusedSimpArgs false
set_option linter.unusedVariables false
namespace Go.Proofs.YtkncbckmgcklfaaDoor.W
open Go Go.ChangeShapes Go.WideShapes Go.ChangeAt Go.RowKit
open Go.Proofs.YtkncbckmgcklfaaDoor.P (shaL shaL_len)

theorem pkeys2 (mb : Option Nat) (w : World) : Calls Tryd.prog 45 #[.map mb] w fun e w' => e = .returned (.func (.func 59) #[] #[.pointer (some ⟨w.heap.size, 0, none⟩)]) ∧ Row w' w.heap.size 24 [.map mb] ∧ Below w.heap.size w w' := by
  refine (pkeys mb w).mono ?_
  rintro e w' ⟨h1, rfl⟩
  exact ⟨h1, Row.new w 24 [.map mb], (Below.refl _ _).alloc (Nat.le_refl _) _⟩
theorem mx_keys (X : List FX) : (MX X).map (·.1) = X.map (·.f.s) := by unfold MX; rw [List.map_map]; rfl
theorem mx_len (X : List FX) : (MX X).length = X.length := by simp [MX]
set_option maxRecDepth 100000 in
set_option maxHeartbeats 4000000 in
theorem csums {p m : Nat} {room : Int} {X : List FX} {S : Nat → Prop} {w : World} (h : CK w p m room X S) (hn : X.length ≤ 524288) :
    Calls Tryd.prog 27 #[.pointer (some ⟨p, 0, none⟩)] w fun e w' => ∃ v, e = .returned v ∧ LsO strE w' w.heap.size v (X.map (·.f.s)) ∧ Below w.heap.size w w' := by
  have H := Lib.hid h
  have HR := Lib.hid (cready p m room w h.rp)
  have HN := Lib.hid hn
  have c1 := h.rp.k2.2
  clear h hn
  go_enter Tryd.func27, Tryd.ntmps27
  go_wp2_with (first
    | (go_at_call 19; (with_reducible refine HR.out.mono ?_); rintro e w1 ⟨rfl, rfl⟩)
    | (go_at_call 45; (with_reducible refine (pkeys2 (some m) w).mono ?_); rintro e w1 ⟨rfl, hr, hb⟩; have R1 := Lib.hid hr; have B1 := Lib.hid hb; clear hr hb c1)
    | (go_at_call 44; refine (psorted w.heap.size m X.length (MX X) w1 R1.out.k0 R1.out.lt (H.out.sm.kept B1.out) (by have := HN.out; omega)).mono ?_; rintro e w2 ⟨v, rfl, hl, hb⟩; rw [mx_keys] at hl; have L2 := Lib.hid hl; have B2 := Lib.hid hb; clear hl hb))
  go_ret
  exact ⟨_, rfl, L2.out.base B1.out.size, B1.out.trans (B2.out.mono B1.out.size)⟩
set_option maxRecDepth 100000 in
set_option maxHeartbeats 4000000 in
theorem csums_not (v : Value) (w : World) (h : Calls Tryd.prog 19 #[v] w fun e w' => e = .returned (.bool false) ∧ w = w') :
    Calls Tryd.prog 27 #[v] w fun e w' => e = .returned (.slice none 0 0) ∧ w = w' := by
  have H := Lib.hid h
  clear h
  go_enter Tryd.func27, Tryd.ntmps27
  go_wp2_with (go_at_call 19; (with_reducible refine H.out.mono ?_); rintro e w1 ⟨rfl, rfl⟩)
  go_ret
  exact ⟨rfl, rfl⟩
-- ---- a map gone through
/-- those of X that have come -/
structure Vis (X : List FX) (left : Lit → Bool) (D : List FX) : Prop where
  mem : ∀ x, x ∈ D ↔ x ∈ X ∧ left (kS x.f.s) = false
  nd : D.Pairwise fun x y => x.f.s ≠ y.f.s
theorem Vis.start (X : List FX) : Vis X (Maps.has (.map (entS (MX X)) : DataW Value)) [] := by
  refine ⟨fun x => ⟨fun h => (by cases h), fun ⟨h1, h2⟩ => ?_⟩, List.Pairwise.nil⟩
  have := has_yes (M := MX X) (List.mem_map.2 ⟨x, h1, rfl⟩ : (x.f.s, x.val) ∈ MX X)
  rw [this] at h2; cases h2
theorem risx_uniq {X : List FX} (h : Ris (MX X)) {x y : FX} (hx : x ∈ X) (hy : y ∈ X) (e : x.f.s = y.f.s) : x = y := by
  unfold Ris MX at h
  rw [List.pairwise_map] at h
  induction X with
  | nil => cases hx
  | cons z X ih =>
    obtain ⟨h1, h2⟩ := List.pairwise_cons.1 h
    have ne : ∀ u ∈ X, z.f.s ≠ u.f.s := fun u hu e => by have := h1 u hu; dsimp only at this; rw [e, ltM_self] at this; cases this
    rcases List.mem_cons.1 hx with ep | hp'
    · rcases List.mem_cons.1 hy with eq | hq'
      · rw [ep, eq]
      · exact absurd (by rw [← ep]; exact e) (ne y hq')
    · rcases List.mem_cons.1 hy with eq | hq'
      · exact absurd (by rw [← eq]; exact e.symm) (ne x hp')
      · exact ih h2 hp' hq'
theorem Vis.step {X : List FX} {left : Lit → Bool} {D : List FX} (hr : Ris (MX X)) (h : Vis X left D) {x : FX} (hx : x ∈ X) (hl : left (kS x.f.s) = true) : Vis X (fun z => left z && !z.sameKey (kS x.f.s)) (D ++ [x]) := by
  refine ⟨fun y => ?_, ?_⟩
  · rw [List.mem_append, h.mem y, List.mem_singleton, kS_same]
    constructor
    · rintro (⟨h1, h2⟩ | rfl)
      · exact ⟨h1, by rw [h2]; rfl⟩
      · exact ⟨hx, by simp⟩
    · rintro ⟨h1, h2⟩
      cases hq : left (kS y.f.s) with
      | false => exact .inl ⟨h1, rfl⟩
      | true =>
        rw [hq] at h2
        have : y.f.s = x.f.s := by simpa using h2
        exact .inr (risx_uniq hr h1 hx this)
  · rw [List.pairwise_append]
    refine ⟨h.nd, by simp, fun y hy z hz => ?_⟩
    rw [List.mem_singleton] at hz
    rw [hz]
    intro e
    have h1 := ((h.mem y).1 hy).2
    rw [e, hl] at h1; cases h1
theorem Vis.all {X : List FX} {left : Lit → Bool} {D : List FX} (hr : Ris (MX X)) (h : Vis X left D) (hl : ∀ s, left (kS s) = false) : D.Perm X := by
  have nd : ∀ L : List FX, L.Pairwise (fun x y => x.f.s ≠ y.f.s) → L.Nodup := fun L hL => hL.imp fun {a b} hab e => hab (by rw [e])
  refine (List.perm_ext_iff_of_nodup (nd D h.nd) (nd X ?_)).2 fun x => ⟨fun hx => ((h.mem x).1 hx).1, fun hx => (h.mem x).2 ⟨hx, hl _⟩⟩
  have := ris_ne hr
  unfold MX at this
  rwa [List.pairwise_map] at this
theorem used_app (L M : List Fi) : usedC (L ++ M) = usedC L + usedC M := by unfold usedC; rw [List.map_append, List.sum_append]
theorem used_perm {L M : List Fi} (h : L.Perm M) : usedC L = usedC M := by unfold usedC; exact (h.map _).sum_nat
theorem used_le : ∀ {L : List Fi}, (∀ f ∈ L, f.b.length ≤ 256) → usedC L ≤ L.length * 256
  | [], _ => Nat.zero_le _
  | f :: L, h => by
    have h1 := used_le (fun g hg => h g (List.mem_cons_of_mem _ hg))
    have h2 := h f (List.mem_cons_self ..)
    unfold usedC at h1 ⊢
    rw [List.map_cons, List.sum_cons, List.length_cons, Nat.add_mul]; omega
theorem loose_perm {L M : List Fi} (h : L.Perm M) : looseC L = looseC M := (h.filter _).length_eq
theorem loose_app (L M : List Fi) : looseC (L ++ M) = looseC L + looseC M := by unfold looseC; rw [List.filter_append, List.length_append]
set_option maxRecDepth 100000 in
set_option maxHeartbeats 4000000 in
theorem cused {p m : Nat} {room : Int} {X : List FX} {S : Nat → Prop} {w : World} (h : CK w p m room X S) (hb256 : ∀ x ∈ X, x.f.b.length ≤ 256) (hn : X.length ≤ 524288) :
    Calls Tryd.prog 13 #[.pointer (some ⟨p, 0, none⟩)] w fun e w' => e = .returned (.int .i64 (usedC (X.map (·.f)) : Nat)) ∧ Below w.heap.size w w' := by
  have H := Lib.hid h
  have HR := Lib.hid (cready p m room w h.rp)
  have HN := Lib.hid hn
  have H256 := Lib.hid hb256
  have HRIS := Lib.hid h.sm.ris
  have c1 := h.rp.k2.2
  have FZ := Lib.hid file_zero
  have SZ := Lib.hid file_size
  clear h hn hb256
  go_enter Tryd.func13, Tryd.ntmps13
  go_wp2_with (first
    | (go_at_call 19; (with_reducible refine HR.out.mono ?_); rintro e w1 ⟨rfl, rfl⟩)
    | ((with_reducible refine map_range (o := ⟨some 12, _, _, _, _, _⟩) rfl _ 24 50 rfl map_type m X.length (MX X) ?_ H.out.sm ?_); (focus go_simp); intro w1 hrg hb hz; have G1 := Lib.hid hrg; have B1 := Lib.hid hb; have HI := Lib.hid (show w.heap.size < w1.heap.size by omega); clear hrg hb hz c1))
  go_frame
  go_loopw [3, 5] (fun n t5 wr => ∃ left cnt D, n = .int .i64 ((usedC (D.map (·.f)) : Nat) : Int) ∧ D.length + cnt ≤ X.length ∧ Hid (Vis X left D) ∧ Hid (RgS wr m w.heap.size (MX X) left cnt) ∧ Hid (Below w.heap.size w wr)) (fun _ _ wr => wr.rangeLeft m w.heap.size)
  case atStart => exact ⟨_, _, [], rfl, by rw [mx_len]; simp, Lib.hid (Vis.start X), G1, B1⟩
  case round =>
    obtain ⟨left, cnt, D, rfl, hcnt, V, G, B⟩ := hrel
    go_wp2_with ((with_reducible refine map_next (o := ⟨some 13, _, _, _, _, _⟩) rfl _ rfl m w.heap.size (MX X) left cnt ?_ G.out ?_ ?_); (focus go_simp))
    · intro hl
      have e1 := Lib.hid (used_perm ((V.out.all HRIS.out hl).map (·.f)))
      clear hl
      go_simp
      go_wp2_with fail
      go_ret
      exact ⟨one (vint (by rw [e1.out])), B.out⟩
    · intro s v w2 cnt2 hmem hsz hl hrg hlt hg hs hen
      obtain ⟨x, hx, e⟩ := List.mem_map.1 hmem
      obtain ⟨rfl, rfl⟩ := Prod.mk.inj e
      have V2 := Lib.hid (V.out.step HRIS.out hx hl)
      have hD := used_le (L := D.map (·.f)) (fun f hf => by obtain ⟨y, hy, rfl⟩ := List.mem_map.1 hf; exact H256.out y ((V.out.mem y).1 hy).1)
      have hx256 := H256.out x hx
      rw [List.length_map] at hD
      have e2 := Lib.hid (used_app (D.map (·.f)) [x.f])
      have e3 : usedC [x.f] = x.f.b.length := by simp [usedC]
      rw [e3] at e2
      obtain ⟨U, hU⟩ : ∃ U, usedC (D.map (·.f)) = U := ⟨_, rfl⟩
      rw [hU] at hD e2 ⊢
      have B2 := Lib.hid (B.out.trans (show Below w.heap.size wr w2 from ⟨hg.os, hg.tape, hg.output, hg.size, fun i hi => hg.block i (Nat.lt_of_lt_of_le hi B.out.size) (by intro e; injection e with e; omega)⟩))
      have G2 := Lib.hid hrg
      have hD2 : U ≤ 524288 * 256 := by have := HN.out; have h3 : D.length * 256 ≤ X.length * 256 := Nat.mul_le_mul_right _ (by omega); have h4 : X.length * 256 ≤ 524288 * 256 := Nat.mul_le_mul_right _ this; omega
      obtain ⟨fa, fc, hbv, -⟩ := (H.out.ob x hx).form
      obtain ⟨⟨xs, xb, xu, xt⟩, xbv, xtv⟩ := x
      dsimp only at hbv hx256 e2 V2 hen G2 ⊢
      obtain ⟨bl, hbl⟩ : ∃ bl, xb.length = bl := ⟨_, rfl⟩
      rw [hbl] at hbv hx256 e2
      have hw : IntKind.i64.wrap ((U : Int) + (bl : Int)) = (U : Int) + bl := by rw [IntKind.wrap_i64]; omega
      have OT := Lib.hid (H.out.ot _ hx)
      have OC := Lib.hid (lso_cell OT.out)
      dsimp only at OC
      subst hbv
      clear hmem e hl hrg hg hs hU hD hx
      go_simp
      go_wp2_with (first
        | ((with_reducible refine alloc_row (o := ⟨some 5, _, _, _, _, _⟩) rfl _ rfl _ FZ.out ?_); intro w3 hr hb hz; have R3 := Lib.hid hr; have G3 := Lib.hid (G2.out.kept hb); have B3 := Lib.hid (B2.out.trans (hb.mono B2.out.size)); clear hr hb hz)
        | ((with_reducible refine store_row (o := ⟨none, _, _, _, _, _⟩) rfl _ (.tmp 5) _ rfl w2.heap.size (fiC xs (.slice fa bl fc) xu xtv) ?_ ?_ 50 _ R3.out ?_ ?_ ?_ ?_); (focus go_simp); (focus (first | (go_simp; done) | (go_simp; rfl))); (focus (exact SZ.out)); (focus rfl); (focus (exact fi_one _ _ _ _ rfl OC.out)); intro w4 hr hu; have G4 := Lib.hid (G3.out.upd R3.out hu); have B4 := Lib.hid (B3.out.trans (hu.below B2.out.size)); obtain ⟨c0, c1, c2, c3⟩ := hr.k4; clear hr hu c0 c2 c3))
      go_roundw
      case rel => exact ⟨_, cnt2, _, vint (by rw [List.map_append, List.map_cons, List.map_nil, e2.out]; omega), by rw [List.length_append]; simp; omega, V2, G4, B4⟩
      case measure => rw [G4.out.eq, G.out.eq]; omega
set_option maxRecDepth 100000 in
set_option maxHeartbeats 4000000 in
theorem clooseN {p m : Nat} {room : Int} {X : List FX} {S : Nat → Prop} {w : World} (h : CK w p m room X S) (hb256 : ∀ x ∈ X, x.f.b.length ≤ 256 ∧ x.f.su ≤ x.f.b.length) (hn : X.length ≤ 524288) :
    Calls Tryd.prog 14 #[.pointer (some ⟨p, 0, none⟩)] w fun e w' => e = .returned (.int .i64 (looseC (X.map (·.f)) : Nat)) ∧ Below w.heap.size w w' := by
  have H := Lib.hid h
  have HR := Lib.hid (cready p m room w h.rp)
  have HN := Lib.hid hn
  have H256 := Lib.hid hb256
  have HRIS := Lib.hid h.sm.ris
  have c1 := h.rp.k2.2
  have FZ := Lib.hid file_zero
  have SZ := Lib.hid file_size
  clear h hn hb256
  go_enter Tryd.func14, Tryd.ntmps14
  go_wp2_with (first
    | (go_at_call 19; (with_reducible refine HR.out.mono ?_); rintro e w1 ⟨rfl, rfl⟩)
    | ((with_reducible refine map_range (o := ⟨some 12, _, _, _, _, _⟩) rfl _ 24 50 rfl map_type m X.length (MX X) ?_ H.out.sm ?_); (focus go_simp); intro w1 hrg hb hz; have G1 := Lib.hid hrg; have B1 := Lib.hid hb; have HI := Lib.hid (show w.heap.size < w1.heap.size by omega); clear hrg hb hz c1))
  go_frame
  go_loopw [3, 5] (fun n t5 wr => ∃ left cnt D, n = .int .i64 ((looseC (D.map (·.f)) : Nat) : Int) ∧ D.length + cnt ≤ X.length ∧ Hid (Vis X left D) ∧ Hid (RgS wr m w.heap.size (MX X) left cnt) ∧ Hid (Below w.heap.size w wr)) (fun _ _ wr => wr.rangeLeft m w.heap.size)
  case atStart => exact ⟨_, _, [], rfl, by rw [mx_len]; simp, Lib.hid (Vis.start X), G1, B1⟩
  case round =>
    obtain ⟨left, cnt, D, rfl, hcnt, V, G, B⟩ := hrel
    go_wp2_with ((with_reducible refine map_next (o := ⟨some 13, _, _, _, _, _⟩) rfl _ rfl m w.heap.size (MX X) left cnt ?_ G.out ?_ ?_); (focus go_simp))
    · intro hl
      have e1 := Lib.hid (loose_perm ((V.out.all HRIS.out hl).map (·.f)))
      clear hl
      go_simp
      go_wp2_with fail
      go_ret
      exact ⟨one (vint (by rw [e1.out])), B.out⟩
    · intro s v w2 cnt2 hmem hsz hl hrg hlt hg hs hen
      obtain ⟨x, hx, e⟩ := List.mem_map.1 hmem
      obtain ⟨rfl, rfl⟩ := Prod.mk.inj e
      have V2 := Lib.hid (V.out.step HRIS.out hx hl)
      have hD : looseC (D.map (·.f)) ≤ (D.map (·.f)).length := List.length_filter_le _ _
      obtain ⟨hx256, hxsu⟩ := H256.out x hx
      rw [List.length_map] at hD
      have e2 := Lib.hid (loose_app (D.map (·.f)) [x.f])
      have e3 := Lib.hid (show looseC [x.f] = if x.f.su < x.f.b.length then 1 else 0 by unfold looseC isLoose; by_cases hq : x.f.su < x.f.b.length <;> simp [hq])
      obtain ⟨U, hU⟩ : ∃ U, looseC (D.map (·.f)) = U := ⟨_, rfl⟩
      rw [hU] at hD e2 ⊢
      have B2 := Lib.hid (B.out.trans (show Below w.heap.size wr w2 from ⟨hg.os, hg.tape, hg.output, hg.size, fun i hi => hg.block i (Nat.lt_of_lt_of_le hi B.out.size) (by intro e; injection e with e; omega)⟩))
      have G2 := Lib.hid hrg
      have hD2 : U ≤ 524288 := by have := HN.out; omega
      obtain ⟨fa, fc, hbv, -⟩ := (H.out.ob x hx).form
      obtain ⟨⟨xs, xb, xu, xt⟩, xbv, xtv⟩ := x
      dsimp only at hbv hx256 hxsu e2 e3 V2 hen G2 ⊢
      obtain ⟨bl, hbl⟩ : ∃ bl, xb.length = bl := ⟨_, rfl⟩
      rw [hbl] at hbv hx256 hxsu e3
      have hw : IntKind.i64.wrap ((U : Int) + 1) = (U : Int) + 1 := by rw [IntKind.wrap_i64]; omega
      have HCL := Lib.hid (fun w => cloose xs (.slice fa bl fc) xtv fa bl fc xu w rfl ⟨by omega, hxsu⟩)
      have OT := Lib.hid (H.out.ot _ hx)
      have OC := Lib.hid (lso_cell OT.out)
      dsimp only at OC
      subst hbv
      clear hmem e hl hrg hg hs hU hD hx
      go_simp
      go_wp2_with (first
        | ((with_reducible refine alloc_row (o := ⟨some 5, _, _, _, _, _⟩) rfl _ rfl _ FZ.out ?_); intro w3 hr hb hz; have R3 := Lib.hid hr; have G3 := Lib.hid (G2.out.kept hb); have B3 := Lib.hid (B2.out.trans (hb.mono B2.out.size)); clear hr hb hz)
        | ((with_reducible refine store_row (o := ⟨none, _, _, _, _, _⟩) rfl _ (.tmp 5) _ rfl w2.heap.size (fiC xs (.slice fa bl fc) xu xtv) ?_ ?_ 50 _ R3.out ?_ ?_ ?_ ?_); (focus go_simp); (focus (first | (go_simp; done) | (go_simp; rfl))); (focus (exact SZ.out)); (focus rfl); (focus (exact fi_one _ _ _ _ rfl OC.out)); intro w4 hr hu; have G4 := Lib.hid (G3.out.upd R3.out hu); have B4 := Lib.hid (B3.out.trans (hu.below B2.out.size)); have R4 := Lib.hid hr; clear hr hu)
        | ((with_reducible refine load_row (o := ⟨some 17, _, _, _, _, _⟩) rfl _ _ rfl w2.heap.size ?_ _ (fiC xs (.slice fa bl fc) xu xtv) _ R4.out Tryd.underlying50 rfl ?_ ?_); (focus go_simp); (focus (exact SZ.out)))
        | (go_at_call 28; (with_reducible refine (HCL.out w4).mono ?_); rintro e w5 ⟨rfl, hb⟩; have G5 := Lib.hid (G4.out.kept hb); have B5 := Lib.hid (B4.out.trans (hb.mono B4.out.size)); clear hb))

      · go_roundw
        case rel => exact ⟨_, cnt2, _, vint (by rw [List.map_append, List.map_cons, List.map_nil, e2.out, e3.out, if_pos (by omega)]; omega), by rw [List.length_append]; simp; omega, V2, G5, B5⟩
        case measure => rw [G5.out.eq, G.out.eq]; omega
      · go_roundw
        case rel => exact ⟨_, cnt2, _, vint (by rw [List.map_append, List.map_cons, List.map_nil, e2.out, e3.out, if_neg (by omega)]; omega), by rw [List.length_append]; simp; omega, V2, G5, B5⟩
        case measure => rw [G5.out.eq, G.out.eq]; omega
end Go.Proofs.YtkncbckmgcklfaaDoor.W
