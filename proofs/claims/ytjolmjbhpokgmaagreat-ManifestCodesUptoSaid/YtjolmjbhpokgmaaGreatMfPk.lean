/- LAYER 20 (manifest): pieces: a clone; lists of the call. -/
import Derived.Test.YtjolmjbhpokgmaaGreatMfA
set_option linter.unusedSimpArgs false
set_option linter.unusedVariables false
namespace Go.Proofs.YtjolmjbhpokgmaaGreat.W
open Go Go.ChangeShapes Go.WideShapes Go.ChangeAt Go.RowKit
open Go.Proofs.YtjolmjbhpokgmaaGreat.P (enc dec)
open Go.Proofs.YtjolmjbhpokgmaaGreat.S

set_option maxRecDepth 100000 in
set_option maxHeartbeats 16000000 in
theorem pcclone (a : Option Addr) (n c : Nat) (L : List Pc) (w : World) (h : Ls pcE w a n c L) (hn : n ≤ 1000) :
    Calls Tryz.prog 71 #[.slice a n c] w fun x w' => ∃ a' c', x = .returned (.slice a' n c') ∧ LsO pcE w' w.heap.size (.slice a' n c') L ∧ Below w.heap.size w w' := by
  have H := Lib.hid h
  have hnil := fun (w : World) (a : Option Addr) (n c : Nat) => Lib.run_eql_slice_nil (P := Tryz.prog) w 23 47 a n c 0 0 Tryz.underlying23
  rcases a with _ | ad
  · have h0 := h.hnil rfl
    have h1 := h.hle
    have h2 := h.hlen
    obtain rfl : n = 0 := by omega
    have : L = [] := List.eq_nil_of_length_eq_zero h2
    subst this h0
    clear h h1 h2
    go_enter Tryz.func71, Tryz.ntmps71
    go_wp2_with fail
    go_ret
    exact ⟨none, 0, rfl, LsO.nil _ _, Below.refl _ _⟩
  · have HL := Lib.hid h.hlen
    have HFIT := Lib.hid (show ∀ w', Below w.heap.size w w' → ∀ x ∈ L, pcE.fit w' x from fun w' hb x hx => pcOk.mono x _ _ (h.hfit x hx) hb)
    clear h
    go_enter Tryz.func71, Tryz.ntmps71
    go_wp2_with (at_builtin; refine append_ls pcOk rfl _ _ rfl w.heap.size _ [] rfl (LsO.empty w _ (Nat.le_refl _)) (some ad) n c L rfl (H.out.mono pcOk ((Below.refl _ _).alloc (Nat.le_refl _) _)) (by simp; omega) (by simp) ?_; intro v2 w2 hN hb2 _ _; have N2 := Lib.hid (show LsO pcE w2 w.heap.size v2 L from hN); have B2 := Lib.hid (((Below.refl _ _).alloc (Nat.le_refl _) _).trans hb2); clear hN hb2)
    obtain ⟨a2, c2, hv, -, -⟩ := N2.out.ls pcOk (HFIT.out _ B2.out)
    subst hv
    rw [HL.out] at N2 ⊢
    go_ret
    exact ⟨a2, c2, rfl, N2.out, B2.out⟩
theorem lso_upd_lt {α : Type} {E : El α} {w w' : World} {base g : Nat} {v : Value} {L : List α} (h : LsO E w base v L) (hu : Upd w w' g) (hg : g < base) : LsO E w' base v L :=
  h.upd hu (fun e => by have := (World.ownsRow.lt h g e).1; omega)
theorem lso_out {α : Type} {E : El α} {P : Program} (hE : E.Ok P) {w' : World} {base : Nat} {a : Option Addr} {n c : Nat} {L : List α} (h : LsO E w' base (.slice a n c) L) (hl : L.length = n) (hf : ∀ x ∈ L, E.fit w' x) : Ls E w' a n c L := by
  obtain ⟨a', c', e, hl', -⟩ := h.ls hE hf
  rw [hl] at e hl'
  injection e with e1 e2 e3
  subst e1 e3
  exact hl'
theorem lso_ptr2 {α : Type} {E : El α} {w : World} {base : Nat} {a : Option Addr} {n c : Nat} {L : List α} (h : LsO E w base (.slice a n c) L) (hn : 0 < n) : ∃ g, a = some ⟨g, 0, none⟩ ∧ base ≤ g ∧ g < w.heap.size ∧ n ≤ c ∧ c ≤ maxLen := by
  have hlt := World.ownsRow.lt h
  obtain ⟨-, h2⟩ := h
  rcases h2 with ⟨e, -⟩ | ⟨g, cap, cur, e, hg, hh, hnc, hm, -⟩
  · injection e with e1 e2 e3; omega
  · injection e with e1 e2 e3
    subst e1 e2 e3
    exact ⟨g, rfl, hg, (hlt g rfl).2, hnc, hm⟩
theorem lso_ne {α : Type} {E : El α} {w : World} {base g : Nat} {v : Value} {L : List α} {t : TypeId} {C : List Value} (h : LsO E w base v L) (hr : Row w g t C) (ht : E.eT ≠ t) : v.ownBlock ≠ some g := by
  obtain ⟨-, h2⟩ := h
  rcases h2 with ⟨rfl, -⟩ | ⟨b, cap, cur, rfl, -, hh, -⟩
  · simp [Value.ownBlock]
  · intro e
    have : b = g := by simpa [Value.ownBlock] using e
    subst this
    unfold Row at hr
    rw [hh] at hr
    simp at hr
    exact ht hr.2
theorem lso_form {α : Type} {E : El α} {w : World} {base n : Nat} {v : Value} {L : List α} (h : LsO E w base v L) (hn : L.length = n) : ∃ a c, v = .slice a n c ∧ True := by
  subst hn
  obtain ⟨-, h2⟩ := h
  rcases h2 with ⟨rfl, h0⟩ | ⟨g, c, cur, rfl, -⟩
  · exact ⟨none, 0, by rw [h0], trivial⟩
  · exact ⟨_, _, rfl, trivial⟩
end Go.Proofs.YtjolmjbhpokgmaaGreat.W
