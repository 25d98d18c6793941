/- CONTRACTS of layer 2 (pack): the reader, the fourth part: flags, Open; the reference's reader. -/
import Derived.Test.YtagblhkihammdaaPackR3
namespace Go.Proofs.Ytagblhkihammdaa.W
open Go.ChangeShapes Go.WideShapes Go.ChangeAt Go.RowKit
open Go.Proofs.Ytagblhkihammdaa.P (mk lo hi enc tl gr up dec)

/-- what reading a flag answers, what is left, the error -/
def yesR (l : List UInt8) (e : Int) : Bool × List UInt8 × Int :=
  if e ≠ 0 then (false, l, e) else
  match l with
  | [] => (false, [], 4)
  | x :: t => if 1 < x.toNat then (false, [], 3) else (x.toNat == 1, t, 0)


set_option maxHeartbeats 400000 in
theorem popen (a : Option Addr) (len cap : Nat) (l : List UInt8) (w : World) (hr : Rd w a len cap l) (hmax : len ≤ 140737488355000) :
    Calls Try.prog 14 #[.slice a len cap] w fun x w' => ∃ p, x = .returned (.pointer (some ⟨p, 0, none⟩)) ∧ w.heap.size ≤ p ∧ RP w' p l 0 ∧ Below w.heap.size w w' := by
  have hlen := hr.hlen
  subst hlen
  have HR := Lib.hid hr
  clear hr
  go_enter Try.func14, Try.ntmps14
  go_wp2_with fail
  refine (pgrown a l.length cap 0 l w HR.out (by omega)).mono ?_
  rintro x w1 ⟨rfl, hb1, hbl1, hsz1⟩
  rw [List.replicate_zero, List.append_nil] at hb1
  have hs1 := hbl1.size
  go_wp2_with fail
  go_ret
  refine ⟨w.heap.size + 1, rfl, by omega, ⟨⟨some ⟨w.heap.size, 0, none⟩, l.length, ?_, ?_⟩, hmax, fun h => absurd rfl h⟩, hbl1.alloc hs1 _⟩
  · rw [← hsz1]; exact heap_alloc_new w1 _
  · exact (hb1.rd (by omega)).mono ((Below.refl _ _).alloc (Nat.le_refl _) _)

/-- A reader of the reference at block p: what is left, and its error. -/
structure RR (w : World) (p : Nat) (l : List UInt8) (e : Int) : Prop where
  ex : ∃ a cap, w.heap[p]? = some (.cells #[.slice a l.length cap, .int .i64 e] 59 (0, 0)) ∧ Rd w a l.length cap l
  small : l.length ≤ 140737488355000
  hnone : e ≠ 0 → l = []
theorem RR.cells {w : World} {p : Nat} {l : List UInt8} {e : Int} (h : RR w p l e) : ∃ a cap, w.cell? ⟨p, 0, none⟩ = some (.slice a l.length cap) ∧ w.cell? ⟨p, 1, none⟩ = some (.int .i64 e) ∧
    w.frozen? ⟨p, 0, none⟩ = false ∧ w.frozen? ⟨p, 1, none⟩ = false ∧ Rd w a l.length cap l ∧ (l.length = 0 ∨ ∀ b off, a = some ⟨b, off, none⟩ → b ≠ p) := by
  obtain ⟨a, cap, hh, hr⟩ := h.ex
  refine ⟨a, cap, cell_at hh 0 _ rfl, cell_at hh 1 _ rfl, frozen_of_row w p 0 _ _ hh, frozen_of_row w p 1 _ _ hh, hr, hr.apart hh ?_⟩
  intro x hx
  simp [B] at hx
theorem RR.store {w : World} {p : Nat} {l : List UInt8} {e : Int} (h : RR w p l e) (a' : Option Addr) (cap' : Nat) (l' : List UInt8) (hr : Rd w a' l'.length cap' l') (hap : l'.length = 0 ∨ ∀ b off, a' = some ⟨b, off, none⟩ → b ≠ p) (hs : l'.length ≤ 140737488355000) (he : e ≠ 0 → l' = []) :
    RR (w.setCell ⟨p, 0, none⟩ (.slice a' l'.length cap')) p l' e := by
  obtain ⟨a, cap, hh, -⟩ := h.ex
  refine ⟨⟨a', cap', ?_, hr.upd' (Upd.setCell _ _ _ _) hap⟩, hs, he⟩
  exact heap_setCell_same w p 0 _ _ _ hh
/-- the first n bytes go -/
theorem RR.dropped {w : World} {p : Nat} {l : List UInt8} (h : RR w p l 0) {a : Option Addr} {cap : Nat} (hc : w.cell? ⟨p, 0, none⟩ = some (.slice a l.length cap)) (n : Nat) (hl : n ≤ l.length) :
    RR (w.setCell ⟨p, 0, none⟩ (.slice (if cap = n then a else a.map (·.add n)) (l.length - n) (cap - n))) p (l.drop n) 0 := by
  obtain ⟨a2, cap2, c0, -, -, -, hr, hap⟩ := h.cells
  rw [c0] at hc
  simp only [Option.some.injEq, Value.slice.injEq, true_and] at hc
  obtain ⟨rfl, rfl⟩ := hc
  have hsm := h.small
  have hd := rd_drop hr n hl
  have hdl : (l.drop n).length = l.length - n := by simp
  have hda : (l.drop n).length = 0 ∨ ∀ b off, (if cap2 = n then a2 else a2.map (·.add n)) = some ⟨b, off, none⟩ → b ≠ p := by
    rcases hap with h0 | hap
    · left; omega
    · by_cases hz : (l.drop n).length = 0
      · exact .inl hz
      · right
        intro b off hb
        have hle := hr.hle
        rw [if_neg (by omega)] at hb
        rcases hr.hcells with h0 | ⟨b2, off2, rfl, -, -⟩
        · omega
        · simp only [Option.map_some, Go.WideShapes.add_plain] at hb
          obtain ⟨rfl, -⟩ := by simpa using hb
          exact hap _ _ rfl
  have := h.store _ (cap2 - n) (l.drop n) (by rw [hdl]; exact hd) hda (by omega) (fun h => absurd rfl h)
  rw [hdl] at this; exact this

set_option maxHeartbeats 400000 in
theorem rerr (p : Nat) (l : List UInt8) (e : Int) (w : World) (h : RR w p l e) :
    Calls Try.prog 20 #[.pointer (some ⟨p, 0, none⟩)] w fun x w' => x = .returned (.int .i64 e) ∧ w = w' := by
  obtain ⟨a, cap, c0, c1, f0, f1, -, -⟩ := h.cells
  clear h c0 f0 f1
  go_enter Try.func20, Try.ntmps20
  go_wp2
  go_ret
  exact ⟨rfl, rfl⟩

set_option maxHeartbeats 400000 in
theorem rleft (p : Nat) (l : List UInt8) (e : Int) (w : World) (h : RR w p l e) :
    Calls Try.prog 22 #[.pointer (some ⟨p, 0, none⟩)] w fun x w' => x = .returned (.int .i64 (l.length : Int)) ∧ w = w' := by
  obtain ⟨a, cap, c0, c1, f0, f1, -, -⟩ := h.cells
  clear h c1 f0 f1
  go_enter Try.func22, Try.ntmps22
  go_wp2
  go_ret
  exact ⟨rfl, rfl⟩

set_option maxHeartbeats 400000 in
theorem rend (p : Nat) (l : List UInt8) (e : Int) (w : World) (h : RR w p l e) :
    Calls Try.prog 38 #[.pointer (some ⟨p, 0, none⟩)] w fun x w' => x = .returned (.int .i64 (endV l e)) ∧ w = w' := by
  obtain ⟨a, cap, c0, c1, f0, f1, -, -⟩ := h.cells
  clear h f0 f1
  by_cases he : e = 0
  · subst he
    by_cases hl : l.length ≤ 0
    · go_enter Try.func38, Try.ntmps38
      go_wp2
      go_ret
      exact ⟨one (vint (by unfold endV; rw [if_neg (by simp), if_pos (by omega)])), rfl⟩
    · have hl2 : (0 : Int) < (l.length : Int) := by omega
      go_enter Try.func38, Try.ntmps38
      go_wp2
      go_ret
      exact ⟨one (vint (by unfold endV; rw [if_neg (by simp), if_neg (by omega)])), rfl⟩
  · have he2 : (e == 0) = false := by simpa using he
    go_enter Try.func38, Try.ntmps38
    go_wp2
    go_ret
    exact ⟨one (vint (by unfold endV; rw [if_pos he])), rfl⟩

set_option maxHeartbeats 400000 in
theorem rfail (p : Nat) (l : List UInt8) (e f : Int) (w : World) (h : RR w p l e) :
    Calls Try.prog 45 #[.pointer (some ⟨p, 0, none⟩), .int .i64 f] w fun x w' => x = .returned (.tuple #[]) ∧ RR w' p (failL l e f) (failE e f) ∧ Upd w w' p := by
  have H := Lib.hid h
  obtain ⟨a0, cap0, hh, -⟩ := h.ex
  have HH := Lib.hid hh
  obtain ⟨a, cap, c0, c1, f0, f1, -, -⟩ := h.cells
  have hnone := h.hnone
  have HN := Lib.hid hnone
  clear h hh hnone
  by_cases he : e = 0
  · subst he
    by_cases hf : f = 0
    · subst hf
      go_enter Try.func45, Try.ntmps45
      go_wp2
      go_end0
      refine ⟨rfl, ?_, Upd.setCell _ _ _ _⟩
      unfold failL failE
      rw [if_pos (.inr rfl), if_pos (.inr rfl)]
      have h := H.out
      obtain ⟨a2, cap2, h1, h2⟩ := h.ex
      exact ⟨⟨a2, cap2, heap_setCell_same w p 1 _ _ _ h1, h2.upd' (Upd.setCell _ _ _ _) (h2.apart h1 (by intro x hx; simp [B] at hx))⟩, h.small, fun h => absurd rfl h⟩
    · have hf2 : (f != 0) = true := by simpa using hf
      go_enter Try.func45, Try.ntmps45
      go_wp2
      go_end0
      refine ⟨rfl, ?_, (Upd.setCell _ _ _ _).trans (Upd.setCell _ _ _ _)⟩
      unfold failL failE
      rw [if_neg (by simp [hf]), if_neg (by simp [hf])]
      refine ⟨⟨none, 0, ?_, Rd_nil _⟩, by simp, fun _ => rfl⟩
      have h1 := heap_setCell_same w p 1 _ _ (.int .i64 f) HH.out
      exact heap_setCell_same _ p 0 _ _ (.slice none 0 0) h1
  · have he2 : (e == 0) = false := by simpa using he
    have he3 : (e != 0) = true := by simpa using he
    go_enter Try.func45, Try.ntmps45
    go_wp2
    go_end0
    refine ⟨rfl, ?_, Upd.setCell _ _ _ _⟩
    unfold failL failE
    rw [if_pos (.inl he), if_pos (.inl he), HN.out he]
    refine ⟨⟨none, 0, ?_, Rd_nil _⟩, by simp, fun _ => rfl⟩
    exact heap_setCell_same w p 0 _ _ (.slice none 0 0) HH.out



end Go.Proofs.Ytagblhkihammdaa.W
