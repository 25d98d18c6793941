/- CONTRACTS of layer 2 (pack): the reference's reader of texts and flags. READERS OF BYTES, the program's and the reference's, beside each other: each stays where the other one is written. -/
import Derived.Test.YtjolmjbhpokgmaaGreatPackR4b
import Derived.Test.YtjolmjbhpokgmaaGreatArr
set_option linter.unusedSimpArgs false
set_option linter.unusedVariables false
namespace Go.Proofs.YtjolmjbhpokgmaaGreat.W
open Go.ChangeShapes Go.WideShapes Go.ChangeAt Go.RowKit
open Go.Proofs.YtjolmjbhpokgmaaGreat.P (mk lo hi enc tl gr up dec)

theorem RR.of_upd {w w' : World} {p q : Nat} {l : List UInt8} {e : Int} (h : RR w p l e) (hu : Upd w w' q) (hpq : p ≠ q) (hap : ∀ a cap, w.cell? ⟨p, 0, none⟩ = some (.slice a l.length cap) → l.length = 0 ∨ ∀ b off, a = some ⟨b, off, none⟩ → b ≠ q) : RR w' p l e := by
  obtain ⟨a, cap, hh, hr⟩ := h.ex
  exact ⟨⟨a, cap, by rw [hu.block p hpq]; exact hh, hr.upd' hu (hap a cap (cell_at hh 0 _ rfl))⟩, h.small, h.hnone⟩

theorem map_add0 (a : Option Addr) : a.map (·.add 0) = a := by
  cases a with
  | none => rfl
  | some x => simp [Addr.add]

set_option maxRecDepth 100000 in
set_option maxHeartbeats 1000000 in
theorem rtextR (p : Nat) (most : Int) (l : List UInt8) (e : Int) (w : World) (h : RR w p l e) :
    Calls Tryz.prog 36 #[.pointer (some ⟨p, 0, none⟩), .int .i64 most] w fun x w' => x = .returned (.string (str (textR most l e).1)) ∧ RR w' p (textR most l e).2.1 (textR most l e).2.2 ∧ Upd w w' p := by
  have HN := Lib.hid (rnumR p most l e w h)
  have hlt := numR_lt most l e
  unfold textR
  generalize numR most l e = d at *
  obtain ⟨n, l1, e1⟩ := d
  clear h
  simp only at *
  by_cases he : e1 = 0
  · subst he
    rw [if_neg (by simp)]
    by_cases hl : l1.length < n
    · rw [if_pos hl]
      go_enter Tryz.func36, Tryz.ntmps36
      go_wp2_with fail
      refine HN.out.mono ?_
      rintro x w1 ⟨rfl, hp, hu⟩
      obtain ⟨a, cap, c0, c1, f0, f1, -, -⟩ := hp.cells
      have HP := Lib.hid hp
      clear hp f0 f1
      go_wp2_with fail
      refine (rfail p l1 0 4 w1 HP.out).mono ?_
      rintro x w2 ⟨rfl, hp2, hu2⟩
      obtain ⟨a2, cap2, d0, d1, g0, g1, -, -⟩ := hp2.cells
      rw [show failE 0 4 = 4 from rfl] at d1
      clear c0 c1 d0 g0 g1
      go_wp2_with fail
      go_ret
      exact ⟨rfl, hp2, hu.trans hu2⟩
    · rw [if_neg hl]
      go_enter Tryz.func36, Tryz.ntmps36
      go_wp2_with fail
      refine HN.out.mono ?_
      rintro x w1 ⟨rfl, hp, hu⟩
      obtain ⟨a, cap, c0, c1, f0, f1, hr, -⟩ := hp.cells
      have hle := hr.hle
      have hmax := hr.hmax
      have hli : ¬ (l1.length : Int) < (n : Int) := by omega
      have HD := Lib.hid (hp.dropped c0 n (by omega))
      by_cases hz : n ≤ 0
      · have ht := rd_take hr n (by omega) cap (by omega) (Nat.le_refl _)
        have hcv := conv_rd ht
        have hn0 : n = 0 := by omega
        subst hn0
        have hzz : l1.length - 0 = l1.length := by omega
        have hzc : cap - 0 = cap := by omega
        rw [hzz, hzc] at HD
        clear hp f1 hr ht hzz hzc
        by_cases hcap : cap ≤ 0
        · rw [if_pos (by omega)] at HD
          obtain rfl : cap = 0 := by omega
          have hl0 : l1.length = 0 := by omega
          rw [hl0] at c0 HD
          go_wp2_with fail
          go_ret
          exact ⟨rfl, HD.out, hu.trans (Upd.setCell _ _ _ _)⟩
        · rw [if_neg (by omega), map_add0] at HD
          go_wp2_with fail
          go_ret
          exact ⟨rfl, HD.out, hu.trans (Upd.setCell _ _ _ _)⟩
      · have ht := rd_take hr n (by omega) cap (by omega) (Nat.le_refl _)
        have hcv := conv_rd ht
        clear hp f1 hr ht
        by_cases hcap : cap ≤ n
        · rw [if_pos (by omega), show cap - n = 0 by omega] at HD
          go_wp2_with fail
          go_ret
          exact ⟨rfl, HD.out, hu.trans (Upd.setCell _ _ _ _)⟩
        · rw [if_neg (by omega)] at HD
          go_wp2_with fail
          go_ret
          exact ⟨rfl, HD.out, hu.trans (Upd.setCell _ _ _ _)⟩
  · rw [if_pos he]
    have he2 : (e1 == 0) = false := by simpa using he
    have he3 : (e1 != 0) = true := by simpa using he
    go_enter Tryz.func36, Tryz.ntmps36
    go_wp2_with fail
    refine HN.out.mono ?_
    rintro x w1 ⟨rfl, hp, hu⟩
    obtain ⟨a, cap, c0, c1, f0, f1, -, -⟩ := hp.cells
    have HP := Lib.hid hp
    clear hp f0 f1
    go_wp2_with fail
    go_ret
    exact ⟨rfl, HP.out, hu⟩



set_option maxHeartbeats 400000 in
theorem ropen (a : Option Addr) (len cap : Nat) (l : List UInt8) (w : World) (hr : Rd w a len cap l) (hmax : len ≤ 140737488355000) :
    Calls Tryz.prog 7 #[.slice a len cap] w fun x w' => ∃ p, x = .returned (.pointer (some ⟨p, 0, none⟩)) ∧ w.heap.size ≤ p ∧ RR w' p l 0 ∧ Below w.heap.size w w' := by
  have hlen := hr.hlen
  subst hlen
  have HR := Lib.hid hr
  clear hr
  go_enter Tryz.func7, Tryz.ntmps7
  go_wp2_with fail
  refine (rcopied a l.length cap l w HR.out (by omega)).mono ?_
  rintro x w1 ⟨v, rfl, hf1, hbl1⟩
  obtain ⟨a2, cap2, hv, hrd, -⟩ := hf1.form
  rw [hv]
  have HRD := Lib.hid hrd
  clear hv hf1 hrd
  have hs1 := hbl1.size
  go_wp2_with fail
  go_ret
  refine ⟨w1.heap.size, rfl, hs1, ⟨⟨a2, cap2, ?_, HRD.out.mono ((Below.refl _ _).alloc (Nat.le_refl _) _)⟩, hmax, fun h => absurd rfl h⟩, hbl1.alloc hs1 _⟩
  exact heap_alloc_new w1 _

end Go.Proofs.YtjolmjbhpokgmaaGreat.W

namespace Go.Proofs.YtjolmjbhpokgmaaGreat.W
open Go.ChangeShapes Go.WideShapes Go.ChangeAt Go.RowKit

theorem RP.lt {w : World} {p : Nat} {l : List UInt8} {e : Int} (h : RP w p l e) : p < w.heap.size := by
  obtain ⟨a, cap, hh, -⟩ := h.ex; exact heap_lt hh
theorem RR.lt {w : World} {p : Nat} {l : List UInt8} {e : Int} (h : RR w p l e) : p < w.heap.size := by
  obtain ⟨a, cap, hh, -⟩ := h.ex; exact heap_lt hh
theorem RP.mono {w w' : World} {p : Nat} {l : List UInt8} {e : Int} (h : RP w p l e) (hb : Below w.heap.size w w') : RP w' p l e := by
  have hlt := h.lt
  obtain ⟨a, cap, hh, hr⟩ := h.ex
  exact ⟨⟨a, cap, by rw [hb.block p hlt]; exact hh, hr.mono hb⟩, h.small, h.hnone⟩
theorem RR.mono {w w' : World} {p : Nat} {l : List UInt8} {e : Int} (h : RR w p l e) (hb : Below w.heap.size w w') : RR w' p l e := by
  have hlt := h.lt
  obtain ⟨a, cap, hh, hr⟩ := h.ex
  exact ⟨⟨a, cap, by rw [hb.block p hlt]; exact hh, hr.mono hb⟩, h.small, h.hnone⟩
theorem RP.drew {w : World} {p : Nat} {l : List UInt8} {e : Int} (h : RP w p l e) : RP w.drew p l e := h.mono (Below.refl _ _).drew
theorem RR.drew {w : World} {p : Nat} {l : List UInt8} {e : Int} (h : RR w p l e) : RR w.drew p l e := h.mono (Below.refl _ _).drew
/-- a reader stays where another one is written -/
theorem RP.other {w w' : World} {p q : Nat} {l l' : List UInt8} {e e' : Int} (h : RP w p l e) (hq : RR w q l' e') (hu : Upd w w' q) : RP w' p l e := by
  obtain ⟨a, cap, hh, hr⟩ := h.ex
  obtain ⟨a2, cap2, hh2, -⟩ := hq.ex
  have hpq : p ≠ q := by
    rintro rfl
    rw [hh] at hh2
    simp at hh2
  exact ⟨⟨a, cap, by rw [hu.block p hpq]; exact hh, hr.upd' hu (hr.apart hh2 (by intro x hx; simp [B] at hx))⟩, h.small, h.hnone⟩
theorem RR.other {w w' : World} {p q : Nat} {l l' : List UInt8} {e e' : Int} (h : RR w p l e) (hq : RP w q l' e') (hu : Upd w w' q) : RR w' p l e := by
  obtain ⟨a, cap, hh, hr⟩ := h.ex
  obtain ⟨a2, cap2, hh2, -⟩ := hq.ex
  have hpq : p ≠ q := by
    rintro rfl
    rw [hh] at hh2
    simp at hh2
  exact ⟨⟨a, cap, by rw [hu.block p hpq]; exact hh, hr.upd' hu (hr.apart hh2 (by intro x hx; simp [B] at hx))⟩, h.small, h.hnone⟩

theorem Rd.gwp {w w' : World} {a : Option Addr} {len cap g : Nat} {l : List UInt8} (h : Rd w a len cap l) (k : Gw g w w') (hap : len = 0 ∨ ∀ b off, a = some ⟨b, off, none⟩ → b ≠ g) : Rd w' a len cap l :=
  h.gw k fun h0 => hap.resolve_left h0
theorem RP.gw {w w' : World} {p q : Nat} {l l' : List UInt8} {e e' : Int} (h : RP w p l e) (hq : RR w q l' e') (hu : Gw q w w') : RP w' p l e := by
  have hlt := h.lt
  obtain ⟨a, cap, hh, hr⟩ := h.ex
  obtain ⟨a2, cap2, hh2, -⟩ := hq.ex
  have hpq : p ≠ q := by
    rintro rfl
    rw [hh] at hh2
    simp at hh2
  exact ⟨⟨a, cap, by rw [hu.block p hlt hpq]; exact hh, hr.gwp hu (hr.apart hh2 (by intro x hx; simp [B] at hx))⟩, h.small, h.hnone⟩
theorem RR.gw {w w' : World} {p q : Nat} {l l' : List UInt8} {e e' : Int} (h : RR w p l e) (hq : RP w q l' e') (hu : Gw q w w') : RR w' p l e := by
  have hlt := h.lt
  obtain ⟨a, cap, hh, hr⟩ := h.ex
  obtain ⟨a2, cap2, hh2, -⟩ := hq.ex
  have hpq : p ≠ q := by
    rintro rfl
    rw [hh] at hh2
    simp at hh2
  exact ⟨⟨a, cap, by rw [hu.block p hlt hpq]; exact hh, hr.gwp hu (hr.apart hh2 (by intro x hx; simp [B] at hx))⟩, h.small, h.hnone⟩
/-- bytes that came in stay where a reader is written -/
theorem Rd.rp {w w' : World} {a : Option Addr} {len cap p : Nat} {l l' : List UInt8} {e : Int} (h : Rd w a len cap l) (hp : RP w p l' e) (hu : Gw p w w') : Rd w' a len cap l := by
  obtain ⟨a2, cap2, hh2, -⟩ := hp.ex
  exact h.gwp hu (h.apart hh2 (by intro x hx; simp [B] at hx))
theorem Rd.rr {w w' : World} {a : Option Addr} {len cap p : Nat} {l l' : List UInt8} {e : Int} (h : Rd w a len cap l) (hp : RR w p l' e) (hu : Gw p w w') : Rd w' a len cap l := by
  obtain ⟨a2, cap2, hh2, -⟩ := hp.ex
  exact h.gwp hu (h.apart hh2 (by intro x hx; simp [B] at hx))

end Go.Proofs.YtjolmjbhpokgmaaGreat.W
