/- CONTRACTS of layer 2 (pack): the reader, the second part. -/
import Derived.Test.YtagblhkihammdaaPackR
namespace Go.Proofs.Ytagblhkihammdaa.W
open Go.ChangeShapes Go.WideShapes Go.ChangeAt Go.RowKit
open Go.Proofs.Ytagblhkihammdaa.P (mk lo hi enc tl gr up dec)

/-- a reader's cells -/
theorem RP.cells {w : World} {p : Nat} {l : List UInt8} {e : Int} (h : RP w p l e) : ∃ a cap, w.cell? ⟨p, 0, none⟩ = some (.bool true) ∧ w.cell? ⟨p, 1, none⟩ = some (.slice a l.length cap) ∧ w.cell? ⟨p, 2, none⟩ = some (.int .i64 e) ∧
    w.frozen? ⟨p, 1, none⟩ = false ∧ w.frozen? ⟨p, 2, none⟩ = false ∧ Rd w a l.length cap l ∧ (l.length = 0 ∨ ∀ b off, a = some ⟨b, off, none⟩ → b ≠ p) := by
  obtain ⟨a, cap, hh, hr⟩ := h.ex
  refine ⟨a, cap, cell_at hh 0 _ rfl, cell_at hh 1 _ rfl, cell_at hh 2 _ rfl, frozen_of_row w p 1 _ _ hh, frozen_of_row w p 2 _ _ hh, hr, hr.apart hh ?_⟩
  intro x hx
  simp [B] at hx

set_option maxHeartbeats 400000 in
theorem perr (p : Nat) (l : List UInt8) (e : Int) (w : World) (h : RP w p l e) :
    Calls Try.prog 19 #[.pointer (some ⟨p, 0, none⟩)] w fun x w' => x = .returned (.int .i64 e) ∧ w = w' := by
  obtain ⟨a, cap, c0, c1, c2, f1, f2, -, -⟩ := h.cells
  clear h c1 f1 f2
  go_enter Try.func19, Try.ntmps19
  go_wp2
  go_ret
  exact ⟨rfl, rfl⟩

set_option maxHeartbeats 400000 in
theorem pleft (p : Nat) (l : List UInt8) (e : Int) (w : World) (h : RP w p l e) :
    Calls Try.prog 21 #[.pointer (some ⟨p, 0, none⟩)] w fun x w' => x = .returned (.int .i64 (l.length : Int)) ∧ w = w' := by
  obtain ⟨a, cap, c0, c1, c2, f1, f2, -, -⟩ := h.cells
  clear h c0 c2 f1 f2
  go_enter Try.func21, Try.ntmps21
  go_wp2
  go_ret
  exact ⟨rfl, rfl⟩

/-- how a reader stands at its end -/
def endV (l : List UInt8) (e : Int) : Int := if e ≠ 0 then e else if l.length = 0 then 0 else 3

set_option maxHeartbeats 400000 in
theorem pend (p : Nat) (l : List UInt8) (e : Int) (w : World) (h : RP w p l e) :
    Calls Try.prog 36 #[.pointer (some ⟨p, 0, none⟩)] w fun x w' => x = .returned (.int .i64 (endV l e)) ∧ w = w' := by
  have HE := Lib.hid (perr p l e w h)
  obtain ⟨a, cap, c0, c1, c2, f1, f2, -, -⟩ := h.cells
  clear h c0 c2 f1 f2
  by_cases he : e = 0
  · subst he
    by_cases hl : l.length ≤ 0
    · go_enter Try.func36, Try.ntmps36
      go_wp2_with fail
      refine HE.out.mono ?_
      rintro x w' ⟨rfl, rfl⟩
      go_wp2_with fail
      go_ret
      exact ⟨one (vint (by unfold endV; rw [if_neg (by simp), if_pos (by omega)])), rfl⟩
    · have hl2 : (0 : Int) < (l.length : Int) := by omega
      go_enter Try.func36, Try.ntmps36
      go_wp2_with fail
      refine HE.out.mono ?_
      rintro x w' ⟨rfl, rfl⟩
      go_wp2_with fail
      go_ret
      exact ⟨one (vint (by unfold endV; rw [if_neg (by simp), if_neg (by omega)])), rfl⟩
  · have he2 : (e != 0) = true := by simpa using he
    go_enter Try.func36, Try.ntmps36
    go_wp2_with fail
    refine HE.out.mono ?_
    rintro x w' ⟨rfl, rfl⟩
    go_wp2_with fail
    go_ret
    exact ⟨one (vint (by unfold endV; rw [if_pos he])), rfl⟩

/-- a reader behind a failure -/
def failL (l : List UInt8) (e f : Int) : List UInt8 := if e ≠ 0 ∨ f = 0 then l else []
def failE (e f : Int) : Int := if e ≠ 0 ∨ f = 0 then e else f

/-- a reader whose rest and error were written anew -/
theorem RP.store {w : World} {p : Nat} {l : List UInt8} {e : Int} (h : RP w p l e) (a' : Option Addr) (cap' : Nat) (l' : List UInt8) (hr : Rd w a' l'.length cap' l') (hap : l'.length = 0 ∨ ∀ b off, a' = some ⟨b, off, none⟩ → b ≠ p) (hs : l'.length ≤ 140737488355000) (he : e ≠ 0 → l' = []) :
    RP (w.setCell ⟨p, 1, none⟩ (.slice a' l'.length cap')) p l' e := by
  obtain ⟨a, cap, hh, -⟩ := h.ex
  refine ⟨⟨a', cap', ?_, hr.upd' (Upd.setCell _ _ _ _) hap⟩, hs, he⟩
  exact heap_setCell_same w p 1 _ _ _ hh

set_option maxHeartbeats 400000 in
theorem pfail (p : Nat) (l : List UInt8) (e f : Int) (w : World) (h : RP w p l e) :
    Calls Try.prog 43 #[.pointer (some ⟨p, 0, none⟩), .int .i64 f] w fun x w' => x = .returned (.tuple #[]) ∧ RP w' p (failL l e f) (failE e f) ∧ Upd w w' p := by
  have HE := Lib.hid (perr p l e w h)
  have H := Lib.hid h
  obtain ⟨a0, cap0, hh, -⟩ := h.ex
  have HH := Lib.hid hh
  obtain ⟨a, cap, c0, c1, c2, f1, f2, -, -⟩ := h.cells
  clear h hh
  by_cases he : e = 0
  · subst he
    by_cases hf : f = 0
    · subst hf
      go_enter Try.func43, Try.ntmps43
      go_wp2_with fail
      refine HE.out.mono ?_
      rintro x w' ⟨rfl, rfl⟩
      go_wp2_with fail
      refine bodyPost_ret (results_none rfl _ _ _) rfl ?_
      exact ⟨rfl, H.out, Upd.refl _ _⟩
    · have hf2 : (f == 0) = false := by simpa using hf
      go_enter Try.func43, Try.ntmps43
      go_wp2_with fail
      refine HE.out.mono ?_
      rintro x w' ⟨rfl, rfl⟩
      go_wp2_with fail
      go_end0
      refine ⟨rfl, ?_, (Upd.setCell _ _ _ _).trans (Upd.setCell _ _ _ _)⟩
      unfold failL failE
      rw [if_neg (by simp [hf]), if_neg (by simp [hf])]
      refine ⟨⟨none, 0, ?_, Rd_nil _⟩, by simp, fun _ => rfl⟩
      have h1 := heap_setCell_same w p 2 _ _ (.int .i64 f) HH.out
      exact heap_setCell_same _ p 1 _ _ (.slice none 0 0) h1
  · have he2 : (e != 0) = true := by simpa using he
    go_enter Try.func43, Try.ntmps43
    go_wp2_with fail
    refine HE.out.mono ?_
    rintro x w' ⟨rfl, rfl⟩
    go_wp2_with fail
    refine bodyPost_ret (results_none rfl _ _ _) rfl ?_
    refine ⟨rfl, ?_, Upd.refl _ _⟩
    unfold failL failE
    rw [if_pos (.inl he), if_pos (.inl he)]; exact H.out

set_option maxHeartbeats 400000 in
theorem ptake_err (p : Nat) (l : List UInt8) (e n : Int) (w : World) (h : RP w p l e) (he : e ≠ 0) :
    Calls Try.prog 57 #[.pointer (some ⟨p, 0, none⟩), .int .i64 n] w fun x w' => x = .returned (.slice none 0 0) ∧ w = w' := by
  have HE := Lib.hid (perr p l e w h)
  have he2 : (e != 0) = true := by simpa using he
  clear h
  go_enter Try.func57, Try.ntmps57
  go_wp2_with fail
  refine HE.out.mono ?_
  rintro x w' ⟨rfl, rfl⟩
  go_wp2_with fail
  go_ret
  exact ⟨rfl, rfl⟩

set_option maxHeartbeats 400000 in
theorem ptake_short (p : Nat) (l : List UInt8) (n : Int) (w : World) (h : RP w p l 0) (hl : (l.length : Int) < n) :
    Calls Try.prog 57 #[.pointer (some ⟨p, 0, none⟩), .int .i64 n] w fun x w' => x = .returned (.slice none 0 0) ∧ RP w' p [] 4 ∧ Upd w w' p := by
  have HE := Lib.hid (perr p l 0 w h)
  have HF := Lib.hid (pfail p l 0 4 w h)
  obtain ⟨a, cap, c0, c1, c2, f1, f2, hr, hap⟩ := h.cells
  clear hr hap h
  go_enter Try.func57, Try.ntmps57
  go_wp2_with fail
  refine HE.out.mono ?_
  rintro x w' ⟨rfl, rfl⟩
  go_wp2_with fail
  refine HF.out.mono ?_
  rintro x w' ⟨rfl, hp, hu⟩
  go_wp2_with fail
  go_ret
  exact ⟨rfl, hp, hu⟩

set_option maxHeartbeats 1000000 in
theorem ptake_ok (p : Nat) (l : List UInt8) (n : Nat) (w : World) (h : RP w p l 0) (hl : n ≤ l.length) :
    Calls Try.prog 57 #[.pointer (some ⟨p, 0, none⟩), .int .i64 (n : Int)] w fun x w' =>
      ∃ a', x = .returned (.slice a' n n) ∧ Rd w' a' n n (l.take n) ∧ RP w' p (l.drop n) 0 ∧ Upd w w' p := by
  have HE := Lib.hid (perr p l 0 w h)
  have H := Lib.hid h
  obtain ⟨a, cap, c0, c1, c2, f1, f2, hr, hap⟩ := h.cells
  have hsm := h.small
  have hle := hr.hle
  have hmax := hr.hmax
  have hd := rd_drop hr n hl
  have ht := rd_take hr n hl n (Nat.le_refl _) (by omega)
  have hdl : (l.drop n).length = l.length - n := by simp
  have hda : (l.drop n).length = 0 ∨ ∀ b off, (if cap = n then a else a.map (·.add n)) = some ⟨b, off, none⟩ → b ≠ p := by
    rcases hap with h0 | hap
    · left; omega
    · by_cases hz : (l.drop n).length = 0
      · exact .inl hz
      · right
        intro b off hb
        rw [if_neg (by omega)] at hb
        rcases hr.hcells with h0 | ⟨b2, off2, rfl, -, -⟩
        · omega
        · simp only [Option.map_some, Go.WideShapes.add_plain] at hb
          obtain ⟨rfl, -⟩ := by simpa using hb
          exact hap _ _ rfl
  have hst := H.out.store _ (cap - n) (l.drop n) (by rw [hdl]; exact hd) hda (by omega) (fun h => absurd rfl h)
  have hta : n = 0 ∨ ∀ b off, a = some ⟨b, off, none⟩ → b ≠ p := by
    rcases hap with h0 | hap
    · left; omega
    · exact .inr hap
  have ht' := fun v => ht.upd' (Upd.setCell w p 1 v) hta
  rw [hdl] at hst
  have HST := Lib.hid hst
  have HT := Lib.hid ht'
  clear hd ht hdl hda hst hta ht' hr hap h H
  by_cases hc : cap ≤ n
  · have hcn : cap = n := by omega
    rw [if_pos hcn] at HST
    have hln : l.length = n := by omega
    subst hcn
    have hz : l.length - cap = 0 := by omega
    rw [hz, Nat.sub_self] at HST
    clear hz
    go_enter Try.func57, Try.ntmps57
    go_wp2_with fail
    refine HE.out.mono ?_
    rintro x w' ⟨rfl, rfl⟩
    go_wp2_with fail
    go_ret
    exact ⟨a, rfl, HT.out _, HST.out, Upd.setCell _ _ _ _⟩
  · rw [if_neg (by omega)] at HST
    go_enter Try.func57, Try.ntmps57
    go_wp2_with fail
    refine HE.out.mono ?_
    rintro x w' ⟨rfl, rfl⟩
    go_wp2_with fail
    go_ret
    exact ⟨a, rfl, HT.out _, HST.out, Upd.setCell _ _ _ _⟩

end Go.Proofs.Ytagblhkihammdaa.W
