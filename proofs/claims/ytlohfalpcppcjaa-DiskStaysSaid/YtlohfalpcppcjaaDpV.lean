/- LAYER 9 (disk): what the program's disk promises (DkC); Copy; a disk that no call made. -/
import Derived.Test.YtlohfalpcppcjaaDpU
set_option linter.unusedSimpArgs false
set_option linter.unusedVariables false
namespace Go.Proofs.Ytlohfalpcppcjaa.W
open Go Go.ChangeShapes Go.WideShapes Go.ChangeAt Go.RowKit

theorem PD.ft {F : Nat → Prop} {w w' : World} {p : Nat} {S : Nat → Prop} {d : DSt} (h : PD w p S d) (k : Ft F w w') (hd : Disj S F) : PD w' p S d := by
  obtain ⟨g, L, vs, hx⟩ := h
  exact ⟨g, L, vs, hx.ft k hd⟩
theorem DSt.most_eta (d : DSt) (B : List (List UInt8)) (s : List Int) : ({ d with B := B, s := s } : DSt) = ⟨B, s, d.most⟩ := rfl
theorem dappend_any (p : Nat) (S : Nat → Prop) (d : DSt) (slot : Int) (a : Option Addr) (m c : Nat) (l : List UInt8) (w : World) (h : PD w p S d) (hr : Rd w a m c l) :
    Calls Try.prog 13 #[.pointer (some ⟨p, 0, none⟩), .int .i64 slot, .slice a m c] w fun e w' => e = .returned (.int .i64 (d.apE slot l)) ∧ ∃ S', PD w' p S' (d.ap slot l) ∧ Ft S w w' ∧ Grew w S S' := by
  obtain ⟨g, L, vs, hx⟩ := h
  have hm := hr.hlen
  cases hb : slotV d.B slot
  · refine (dappend_bad p slot 1 a m c w _ (by decide) (dfind_bad p g L vs S d slot w hx hb)).mono ?_
    rintro e w' ⟨rfl, rfl⟩
    have he : d.apE slot l = 1 := by unfold DSt.apE; rw [if_pos hb]
    refine ⟨by rw [he], S, ?_, Ft.refl _ _, Grew.refl _ _⟩
    unfold DSt.ap
    rw [he, if_neg (by decide)]
    exact ⟨g, L, vs, hx⟩
  · obtain ⟨k, rfl, hk⟩ := slot_nat hb
    by_cases hf : d.most - ((d.B.getD k []).length : Int) < (m : Int)
    · refine (dappend_full p g L vs S d k a m c l w hx hk hr hf).mono ?_
      rintro e w' ⟨rfl, hw⟩
      have he : d.apE (k : Int) l = 7 := by unfold DSt.apE; rw [if_neg (by rw [hb]; decide), if_pos (by unfold DSt.at; rw [Int.toNat_natCast]; omega)]
      refine ⟨by rw [he], S, ?_, Ft.of_below hw, Grew.refl _ _⟩
      unfold DSt.ap
      rw [he, if_neg (by decide)]
      exact ⟨g, L, vs, hx.mono hw⟩
    · refine (dappend_ok p g L vs S d k a m c l w hx hk hr (by omega)).mono ?_
      rintro e w' ⟨rfl, S', h1, h2, h3⟩
      have he : d.apE (k : Int) l = 0 := by unfold DSt.apE; rw [if_neg (by rw [hb]; decide), if_neg (by unfold DSt.at; rw [Int.toNat_natCast]; omega)]
      refine ⟨by rw [he], S', ?_, h2, h3⟩
      unfold DSt.ap
      rw [he, if_pos rfl]
      exact h1
/-- what the program's disk promises -/
theorem dkC : DkC PD where
  ft := PD.ft
  lt := by
    rintro w p S d ⟨g, L, vs, hx⟩
    exact hx.lt
  append := fun p S d slot a m c l w h hr _ => dappend_any p S d slot a m c l w h hr
  clear := by
    rintro p S d slot w ⟨g, L, vs, hx⟩
    cases hb : slotV d.B slot
    · refine (dclear_bad slot 1 w _ (by decide) (dfind_bad p g L vs S d slot w hx hb)).mono ?_
      rintro e w' ⟨rfl, rfl⟩
      unfold DSt.clE DSt.cl
      rw [if_pos hb, if_pos hb]
      exact ⟨rfl, S, ⟨g, L, vs, hx⟩, Ft.refl _ _, Grew.refl _ _⟩
    · obtain ⟨k, rfl, hk⟩ := slot_nat hb
      refine (dclear_ok p g L vs S d k w hx hk).mono ?_
      rintro e w' ⟨rfl, S', h1, h2, h3⟩
      unfold DSt.clE DSt.cl
      rw [if_neg (by rw [hb]; decide), if_neg (by rw [hb]; decide)]
      exact ⟨rfl, S', h1, h2, h3⟩
  cut := by
    rintro p S d slot size w ⟨g, L, vs, hx⟩
    cases hb : slotV d.B slot
    · refine (dcut_bad slot size 1 w _ (by decide) (dfind_bad p g L vs S d slot w hx hb)).mono ?_
      rintro e w' ⟨rfl, rfl⟩
      have he : d.cutE slot size = 1 := by unfold DSt.cutE; rw [if_pos hb]
      unfold DSt.cut
      rw [he, if_neg (by decide)]
      exact ⟨rfl, S, ⟨g, L, vs, hx⟩, Ft.refl _ _, Grew.refl _ _⟩
    · obtain ⟨k, rfl, hk⟩ := slot_nat hb
      by_cases hf : size < 0 ∨ ((d.B.getD k []).length : Int) < size
      · refine (dcut_size p g L vs S d k size w hx hk hf).mono ?_
        rintro e w' ⟨rfl, rfl⟩
        have he : d.cutE (k : Int) size = 1 := by unfold DSt.cutE; rw [if_neg (by rw [hb]; decide), if_pos (by unfold DSt.at; rw [Int.toNat_natCast]; exact hf)]
        unfold DSt.cut
        rw [he, if_neg (by decide)]
        exact ⟨rfl, S, ⟨g, L, vs, hx⟩, Ft.refl _ _, Grew.refl _ _⟩
      · have he : d.cutE (k : Int) size = 0 := by unfold DSt.cutE; rw [if_neg (by rw [hb]; decide), if_neg (by unfold DSt.at; rw [Int.toNat_natCast]; exact hf)]
        obtain ⟨s, rfl⟩ : ∃ s : Nat, size = (s : Int) := ⟨size.toNat, by omega⟩
        refine (dcut_ok p g L vs S d k s w hx hk (by omega)).mono ?_
        rintro e w' ⟨rfl, S', h1, h2, h3⟩
        unfold DSt.cut
        rw [he, if_pos rfl]
        exact ⟨rfl, S', h1, h2, h3⟩
  sync := by
    rintro p S d w ⟨g, L, vs, hx⟩
    refine (dsync p g L vs S d w hx).mono ?_
    rintro e w' ⟨rfl, L', h1, h2⟩
    exact ⟨rfl, S, ⟨g, L', vs, h1⟩, h2, Grew.refl _ _⟩
  crash := by
    rintro p S d ka kl kc ks w ⟨g, L, vs, hx⟩ hk hka
    refine (dcrash p g L vs S d ka kl kc ks w hx hk hka).mono ?_
    rintro e w' ⟨rfl, L', vs', h1, h2⟩
    exact ⟨rfl, S, ⟨g, L', vs', h1⟩, h2, Grew.refl _ _⟩
  size := by
    rintro p S d slot w ⟨g, L, vs, hx⟩
    unfold DSt.size
    cases hb : slotV d.B slot
    · refine (dsize_bad slot 1 w _ (by decide) (dfind_bad p g L vs S d slot w hx hb)).mono ?_
      rintro e w' ⟨rfl, rfl⟩
      exact ⟨rfl, Below.refl _ _⟩
    · obtain ⟨k, rfl, hk⟩ := slot_nat hb
      refine (dsize_ok p g L vs S d k w hx hk).mono ?_
      rintro e w' ⟨rfl, rfl⟩
      exact ⟨rfl, Below.refl _ _⟩
  read := by
    rintro p S d slot w ⟨g, L, vs, hx⟩
    unfold DSt.clE DSt.rd
    cases hb : slotV d.B slot
    · refine (dread_bad slot 1 w _ (by decide) (dfind_bad p g L vs S d slot w hx hb)).mono ?_
      rintro e w' ⟨rfl, rfl⟩
      exact ⟨_, rfl, Fr.nil _ _, Below.refl _ _⟩
    · obtain ⟨k, rfl, hk⟩ := slot_nat hb
      exact dread_ok p g L vs S d k w hx hk
  loose := by
    rintro p S d w ⟨g, L, vs, hx⟩
    exact dloose p g L vs S d w hx
  room := by
    rintro p S d w ⟨g, L, vs, hx⟩
    refine (droom p _ _ _ w hx.rp hx.p0).mono ?_
    rintro e w' ⟨rfl, rfl⟩
    exact ⟨rfl, Below.refl _ _⟩
  slots := by
    rintro p S d w ⟨g, L, vs, hx⟩
    refine (dslots p _ _ _ _ _ w hx.rp hx.p0).mono ?_
    rintro e w' ⟨rfl, rfl⟩
    exact ⟨rfl, Below.refl _ _⟩

set_option maxRecDepth 100000 in
set_option maxHeartbeats 4000000 in
theorem dloose_nob (q : Option Addr) (w : World) (h : Calls Try.prog 35 #[.pointer q] w fun e w' => e = .returned (.bool false) ∧ w = w') :
    Calls Try.prog 15 #[.pointer q] w fun e w' => e = .returned (.int .i64 0) ∧ w = w' := by
  have HR := Lib.hid h
  clear h
  go_enter Try.func15, Try.ntmps15
  go_wp2_with (go_at_call 35; refine HR.out.mono ?_; rintro e w1 ⟨rfl, rfl⟩)
  go_ret
  exact ⟨rfl, rfl⟩
set_option maxRecDepth 100000 in
set_option maxHeartbeats 4000000 in
theorem droom_nob (q : Option Addr) (w : World) (h : Calls Try.prog 35 #[.pointer q] w fun e w' => e = .returned (.bool false) ∧ w = w') :
    Calls Try.prog 24 #[.pointer q] w fun e w' => e = .returned (.int .i64 0) ∧ w = w' := by
  have HR := Lib.hid h
  clear h
  go_enter Try.func24, Try.ntmps24
  go_wp2_with (go_at_call 35; refine HR.out.mono ?_; rintro e w1 ⟨rfl, rfl⟩)
  go_ret
  exact ⟨rfl, rfl⟩
set_option maxRecDepth 100000 in
set_option maxHeartbeats 4000000 in
theorem dslots_nob (q : Option Addr) (w : World) (h : Calls Try.prog 35 #[.pointer q] w fun e w' => e = .returned (.bool false) ∧ w = w') :
    Calls Try.prog 25 #[.pointer q] w fun e w' => e = .returned (.int .i64 0) ∧ w = w' := by
  have HR := Lib.hid h
  clear h
  go_enter Try.func25, Try.ntmps25
  go_wp2_with (go_at_call 35; refine HR.out.mono ?_; rintro e w1 ⟨rfl, rfl⟩)
  go_ret
  exact ⟨rfl, rfl⟩
set_option maxRecDepth 100000 in
set_option maxHeartbeats 4000000 in
theorem dcopy_nob (q : Option Addr) (w : World) (h : Calls Try.prog 35 #[.pointer q] w fun e w' => e = .returned (.bool false) ∧ w = w') :
    Calls Try.prog 20 #[.pointer q] w fun e w' => e = .returned (.pointer none) ∧ w = w' := by
  have HR := Lib.hid h
  clear h
  go_enter Try.func20, Try.ntmps20
  go_wp2_with (go_at_call 35; refine HR.out.mono ?_; rintro e w1 ⟨rfl, rfl⟩)
  go_ret
  exact ⟨rfl, rfl⟩
set_option maxRecDepth 100000 in
set_option maxHeartbeats 4000000 in
theorem dcrash_nob (q : Option Addr) (ka : Option Addr) (kl kc : Nat) (w : World) (h : Calls Try.prog 35 #[.pointer q] w fun e w' => e = .returned (.bool false) ∧ w = w') :
    Calls Try.prog 16 #[.pointer q, .slice ka kl kc] w fun e w' => e = .returned (.tuple #[]) ∧ w = w' := by
  have HR := Lib.hid h
  clear h
  go_enter Try.func16, Try.ntmps16
  go_wp2_with (go_at_call 35; refine HR.out.mono ?_; rintro e w1 ⟨rfl, rfl⟩)
  first | go_end0 | (refine bodyPost_ret (results_none rfl _ _ _) rfl ?_)
  exact ⟨rfl, rfl⟩
set_option maxRecDepth 100000 in
set_option maxHeartbeats 4000000 in
theorem dsync_nob (q : Option Addr) (w : World) (h : Calls Try.prog 35 #[.pointer q] w fun e w' => e = .returned (.bool false) ∧ w = w') :
    Calls Try.prog 14 #[.pointer q] w fun e w' => e = .returned (.int .i64 0) ∧ w = w' := by
  have HR := Lib.hid h
  have HL := Lib.hid (dloose_nob q w h)
  clear h
  go_enter Try.func14, Try.ntmps14
  go_wp2_with (first
    | (go_at_call 15; refine HL.out.mono ?_; rintro e w1 ⟨rfl, rfl⟩)
    | (go_at_call 35; refine HR.out.mono ?_; rintro e w1 ⟨rfl, rfl⟩))
  go_ret
  exact ⟨rfl, rfl⟩
end Go.Proofs.Ytlohfalpcppcjaa.W
