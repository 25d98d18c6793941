/- CONTRACTS of layer 2 (pack): the reference's reader of texts and flags. -/
import Derived.Test.YtagblhkihammdaaPackR4b
namespace Go.Proofs.Ytagblhkihammdaa.W
open Go.ChangeShapes Go.WideShapes Go.ChangeAt Go.RowKit
open Go.Proofs.Ytagblhkihammdaa.P (mk lo hi enc tl gr up dec)

theorem RR.of_upd {w w' : World} {p q : Nat} {l : List UInt8} {e : Int} (h : RR w p l e) (hu : Upd w w' q) (hpq : p ≠ q) (hap : ∀ a cap, w.cell? ⟨p, 0, none⟩ = some (.slice a l.length cap) → l.length = 0 ∨ ∀ b off, a = some ⟨b, off, none⟩ → b ≠ q) : RR w' p l e := by
  obtain ⟨a, cap, hh, hr⟩ := h.ex
  exact ⟨⟨a, cap, by rw [hu.block p hpq]; exact hh, hr.upd' hu (hap a cap (cell_at hh 0 _ rfl))⟩, h.small, h.hnone⟩

theorem map_add0 (a : Option Addr) : a.map (·.add 0) = a := by
  cases a with
  | none => rfl
  | some x => simp [Addr.add]

set_option maxHeartbeats 1000000 in
theorem rtextR (p : Nat) (most : Int) (l : List UInt8) (e : Int) (w : World) (h : RR w p l e) :
    Calls Try.prog 46 #[.pointer (some ⟨p, 0, none⟩), .int .i64 most] w fun x w' => x = .returned (.string (str (textR most l e).1)) ∧ RR w' p (textR most l e).2.1 (textR most l e).2.2 ∧ Upd w w' p := by
  have HN := Lib.hid (rnumR p most l e w h)
  have hlt := numR_lt most l e
  unfold textR
  generalize numR most l e = d at *
  obtain ⟨n, l1, e1⟩ := d
  clear h
  simp only at *
  by_cases he : e1 = 0
  · subst he
    rw [if_neg (by simp)]
    by_cases hl : l1.length < n
    · rw [if_pos hl]
      go_enter Try.func46, Try.ntmps46
      go_wp2_with fail
      refine HN.out.mono ?_
      rintro x w1 ⟨rfl, hp, hu⟩
      obtain ⟨a, cap, c0, c1, f0, f1, -, -⟩ := hp.cells
      have HP := Lib.hid hp
      clear hp f0 f1
      go_wp2_with fail
      refine (rfail p l1 0 4 w1 HP.out).mono ?_
      rintro x w2 ⟨rfl, hp2, hu2⟩
      obtain ⟨a2, cap2, d0, d1, g0, g1, -, -⟩ := hp2.cells
      rw [show failE 0 4 = 4 from rfl] at d1
      clear c0 c1 d0 g0 g1
      go_wp2_with fail
      go_ret
      exact ⟨rfl, hp2, hu.trans hu2⟩
    · rw [if_neg hl]
      go_enter Try.func46, Try.ntmps46
      go_wp2_with fail
      refine HN.out.mono ?_
      rintro x w1 ⟨rfl, hp, hu⟩
      obtain ⟨a, cap, c0, c1, f0, f1, hr, -⟩ := hp.cells
      have hle := hr.hle
      have hmax := hr.hmax
      have hli : ¬ (l1.length : Int) < (n : Int) := by omega
      have HD := Lib.hid (hp.dropped c0 n (by omega))
      by_cases hz : n ≤ 0
      · have ht := rd_take hr n (by omega) cap (by omega) (Nat.le_refl _)
        have hcv := conv_rd ht
        have hn0 : n = 0 := by omega
        subst hn0
        have hzz : l1.length - 0 = l1.length := by omega
        have hzc : cap - 0 = cap := by omega
        rw [hzz, hzc] at HD
        clear hp f1 hr ht hzz hzc
        by_cases hcap : cap ≤ 0
        · rw [if_pos (by omega)] at HD
          obtain rfl : cap = 0 := by omega
          have hl0 : l1.length = 0 := by omega
          rw [hl0] at c0 HD
          go_wp2_with fail
          go_ret
          exact ⟨rfl, HD.out, hu.trans (Upd.setCell _ _ _ _)⟩
        · rw [if_neg (by omega), map_add0] at HD
          go_wp2_with fail
          go_ret
          exact ⟨rfl, HD.out, hu.trans (Upd.setCell _ _ _ _)⟩
      · have ht := rd_take hr n (by omega) cap (by omega) (Nat.le_refl _)
        have hcv := conv_rd ht
        clear hp f1 hr ht
        by_cases hcap : cap ≤ n
        · rw [if_pos (by omega), show cap - n = 0 by omega] at HD
          go_wp2_with fail
          go_ret
          exact ⟨rfl, HD.out, hu.trans (Upd.setCell _ _ _ _)⟩
        · rw [if_neg (by omega)] at HD
          go_wp2_with fail
          go_ret
          exact ⟨rfl, HD.out, hu.trans (Upd.setCell _ _ _ _)⟩
  · rw [if_pos he]
    have he2 : (e1 == 0) = false := by simpa using he
    have he3 : (e1 != 0) = true := by simpa using he
    go_enter Try.func46, Try.ntmps46
    go_wp2_with fail
    refine HN.out.mono ?_
    rintro x w1 ⟨rfl, hp, hu⟩
    obtain ⟨a, cap, c0, c1, f0, f1, -, -⟩ := hp.cells
    have HP := Lib.hid hp
    clear hp f0 f1
    go_wp2_with fail
    go_ret
    exact ⟨rfl, HP.out, hu⟩



set_option maxHeartbeats 400000 in
theorem ropen (a : Option Addr) (len cap : Nat) (l : List UInt8) (w : World) (hr : Rd w a len cap l) (hmax : len ≤ 140737488355000) :
    Calls Try.prog 15 #[.slice a len cap] w fun x w' => ∃ p, x = .returned (.pointer (some ⟨p, 0, none⟩)) ∧ w.heap.size ≤ p ∧ RR w' p l 0 ∧ Below w.heap.size w w' := by
  have hlen := hr.hlen
  subst hlen
  have HR := Lib.hid hr
  clear hr
  go_enter Try.func15, Try.ntmps15
  go_wp2_with fail
  refine (rcopied a l.length cap l w HR.out (by omega)).mono ?_
  rintro x w1 ⟨v, rfl, hf1, hbl1⟩
  obtain ⟨a2, cap2, hv, hrd, -⟩ := hf1.form
  rw [hv]
  have HRD := Lib.hid hrd
  clear hv hf1 hrd
  have hs1 := hbl1.size
  go_wp2_with fail
  go_ret
  refine ⟨w1.heap.size, rfl, hs1, ⟨⟨a2, cap2, ?_, HRD.out.mono ((Below.refl _ _).alloc (Nat.le_refl _) _)⟩, hmax, fun h => absurd rfl h⟩, hbl1.alloc hs1 _⟩
  exact heap_alloc_new w1 _

end Go.Proofs.Ytagblhkihammdaa.W
