/- CONTRACTS of layer 2 (pack): the reader. -/
import Derived.Test.YtagblhkihammdaaPackW3
namespace Go.Proofs.Ytagblhkihammdaa.W
open Go.ChangeShapes Go.WideShapes Go.ChangeAt Go.RowKit
open Go.Proofs.Ytagblhkihammdaa.P (mk lo hi enc tl gr up dec)

/-- A reader of package pack at block p: what is left, and its error. -/
structure RP (w : World) (p : Nat) (l : List UInt8) (e : Int) : Prop where
  ex : ∃ a cap, w.heap[p]? = some (.cells #[.bool true, .slice a l.length cap, .int .i64 e] 57 (0, 0)) ∧ Rd w a l.length cap l
  small : l.length ≤ 140737488355000
  hnone : e ≠ 0 → l = []

theorem heap_lt {w : World} {p : Nat} {o : Obj} (h : w.heap[p]? = some o) : p < w.heap.size := (Array.getElem?_eq_some_iff.1 h).1
theorem cell_at {w : World} {p : Nat} {cs : Array Value} {t : TypeId} (h : w.heap[p]? = some (.cells cs t (0, 0))) (j : Nat) (v : Value) (hj : cs[j]? = some v) : w.cell? ⟨p, j, none⟩ = some v := by
  rw [cell_of_row w p j cs t _ h]; exact hj
/-- bytes lie in no block whose cells are no bytes -/
theorem Rd.apart {w : World} {a : Option Addr} {len cap : Nat} {l : List UInt8} (h : Rd w a len cap l) {p : Nat} {cs : Array Value} {t : TypeId} (hp : w.heap[p]? = some (.cells cs t (0, 0)))
    (hn : ∀ (x : UInt8), B x ∉ cs.toList) : len = 0 ∨ ∀ b off, a = some ⟨b, off, none⟩ → b ≠ p := by
  by_cases h0 : len = 0
  · exact .inl h0
  · right
    obtain ⟨b, off, rfl, -, hc⟩ := h.lt_of h0
    intro b' off' e
    simp at e
    obtain ⟨rfl, rfl⟩ := e
    rintro rfl
    have h1 := hc 0 (by omega)
    rw [cell_of_row w b (off + 0) cs t _ hp] at h1
    exact hn _ (by rw [← Array.mem_def]; exact Array.mem_of_getElem? h1)
theorem Rd.upd' {w w' : World} {a : Option Addr} {len cap g : Nat} {l : List UInt8} (h : Rd w a len cap l) (hu : Upd w w' g) (hg : len = 0 ∨ ∀ b off, a = some ⟨b, off, none⟩ → b ≠ g) : Rd w' a len cap l := by
  rcases hg with h0 | hg
  · exact ⟨h.hlen, h.hle, h.hmax, h.hnil, .inl h0⟩
  · exact h.upd hu hg

/-- a number in front of bytes, and what is left -/
theorem rd_drop {w : World} {a : Option Addr} {len cap : Nat} {l : List UInt8} (h : Rd w a len cap l) (n : Nat) (hn : n ≤ len) :
    Rd w (if cap = n then a else a.map (·.add n)) (len - n) (cap - n) (l.drop n) := by
  obtain ⟨h1, h2, h3, h4, h5⟩ := h
  refine ⟨by simp [h1], by omega, by omega, ?_, ?_⟩
  · intro h
    split at h
    · omega
    · have : a = none := by simpa using h
      have := h4 this; omega
  · by_cases hl : len - n = 0
    · exact .inl hl
    · right
      rcases h5 with h5 | ⟨b, off, rfl, hlt, hc⟩
      · omega
      · refine ⟨b, off + n, ?_, hlt, fun i hi => ?_⟩
        · rw [if_neg (by omega)]; simp [Go.WideShapes.add_plain]
        · have := hc (n + i) (by omega)
          rw [show off + n + i = off + (n + i) by omega, this]
          simp [List.getD_eq_getElem?_getD]
theorem rd_take {w : World} {a : Option Addr} {len cap : Nat} {l : List UInt8} (h : Rd w a len cap l) (n : Nat) (hn : n ≤ len) (c : Nat) (hc1 : n ≤ c) (hc2 : c ≤ cap) :
    Rd w a n c (l.take n) := by
  obtain ⟨h1, h2, h3, h4, h5⟩ := h
  refine ⟨by simp; omega, hc1, by omega, fun h => by have := h4 h; omega, ?_⟩
  by_cases hl : n = 0
  · exact .inl hl
  · right
    rcases h5 with h5 | ⟨b, off, rfl, hlt, hc⟩
    · omega
    · refine ⟨b, off, rfl, hlt, fun i hi => ?_⟩
      rw [hc i (by omega)]
      simp [List.getD_eq_getElem?_getD, hi]

theorem or_add (acc : Nat) (x : UInt8) (h : (acc : Int) ≤ 72057594037927935) : bits .or .i64 ((acc : Int) * 128) ((x.toNat : Int) % 128) = ((acc * 128 + x.toNat % 128 : Nat) : Int) := by
  rw [Go.Proofs.Ytagblhkihammdaa.B.or_i64]
  have h1 : Go.Proofs.Ytagblhkihammdaa.B.U ((acc : Int) * 128) = acc * 128 := by unfold Go.Proofs.Ytagblhkihammdaa.B.U; omega
  have h2 : Go.Proofs.Ytagblhkihammdaa.B.U ((x.toNat : Int) % 128) = x.toNat % 128 := by unfold Go.Proofs.Ytagblhkihammdaa.B.U; omega
  rw [h1, h2, nat_join 7 (acc * 128) (x.toNat % 128) (by omega) (by omega), IntKind.wrap_i64]
  omega

set_option maxRecDepth 100000 in
set_option maxHeartbeats 1000000 in
theorem plead (a : Option Addr) (len cap : Nat) (l : List UInt8) (w : World) (hr : Rd w a len cap l) :
    Calls Try.prog 56 #[.slice a len cap] w fun e w' => e = .returned (.tuple #[.int .i64 ((dec 9 0 0 l).1 : Int), .int .i64 ((dec 9 0 0 l).2.1 : Int), .int .i64 (dec 9 0 0 l).2.2]) ∧ w = w' := by
  have hlen := hr.hlen
  have hcells := hr.hcells
  have HL := Lib.hid hlen
  have HC := Lib.hid hcells
  have hm : (len : Int) ≤ 9223372036854775807 := by have := hr.hmax; have := hr.hle; omega
  clear hlen hcells hr
  go_enter Try.func56, Try.ntmps56
  go_wp2
  go_loop [2, 6] (fun n i => ∃ (k acc : Nat), n = .int .i64 acc ∧ i = .int .i64 k ∧ k ≤ 9 ∧ k ≤ len ∧ Hid (acc < 128 ^ k) ∧ Hid (dec 9 0 0 l = dec (9 - k) k acc (l.drop k))) (fun _ i => 9 - (intOf i).toNat)
  case atStart => exact ⟨0, 0, rfl, rfl, by omega, by omega, Lib.hid (by decide), Lib.hid rfl⟩
  case round =>
    obtain ⟨k, acc, rfl, rfl, hk9, hkl, HA, HD⟩ := hrel
    by_cases h9 : k = 9
    · subst h9
      have hd := HD.out
      have e : dec 9 0 0 l = (0, 0, 3) := by rw [hd]; rfl
      have HE := Lib.hid e
      clear hd e
      go_wp2
      go_ret3
      exact ⟨by rw [HE.out]; rfl, rfl⟩
    · have hk8 : k ≤ 8 := by omega
      obtain ⟨f, hf⟩ : ∃ f, 9 - k = f + 1 := ⟨8 - k, by omega⟩
      have hd := HD.out
      rw [hf] at hd
      by_cases hlt : k < len
      · have hc := HC.out
        have h0 : len ≠ 0 := by omega
        obtain ⟨b, off, rfl, -, hcell⟩ := hc.resolve_left h0
        have hc1 := hcell k hlt
        have hkl' : k < l.length := by rw [HL.out]; exact hlt
        have hdr : l.drop k = l[k] :: l.drop (k + 1) := List.drop_eq_getElem_cons hkl'
        have hge : l.getD k 0 = l[k] := by simp [hkl']
        rw [hge] at hc1
        generalize l[k] = x at *
        rw [hdr] at hd
        simp only [dec] at hd
        have hx : (x.toNat : Int) ≤ 255 := by have := x.toNat_lt; omega
        have hacc : (acc : Int) ≤ 72057594037927935 := by
          have h1 := HA.out
          have h2 : 128 ^ k ≤ 128 ^ 8 := Nat.pow_le_pow_right (by omega) hk8
          omega
        have hor := or_add acc x hacc
        have HOR := Lib.hid hor
        clear hc hcell hkl' hdr hge hor
        unfold B at hc1
        by_cases hA : k = 0 ∧ x.toNat = 128
        · obtain ⟨rfl, hx8⟩ := hA
          rw [if_pos ⟨rfl, hx8⟩] at hd
          have HE := Lib.hid hd
          have hx1 : ((x.toNat : Int) == 128) = true := by simp; omega
          rw [Nat.add_zero] at hc1
          clear hd hx8
          go_wp2
          go_ret3
          exact ⟨by rw [HE.out]; rfl, rfl⟩
        · rw [if_neg hA] at hd
          by_cases hB : x.toNat < 128
          · rw [if_pos hB] at hd
            have HE := Lib.hid hd
            have hBi : (x.toNat : Int) < 128 := by omega
            have hx1 : ((x.toNat : Int) == 128) = false := by simp; omega
            clear hd hA hB
            by_cases hk0 : k = 0
            · subst hk0
              rw [Nat.add_zero] at hc1
              go_wp2
              go_ret3
              exact ⟨by rw [HE.out]; exact tup3 (vint HOR.out) (vint (by simp)) rfl, rfl⟩
            · have hk1 : ((k : Int) == 0) = false := by simp; omega
              go_wp2
              go_ret3
              exact ⟨by rw [HE.out]; exact tup3 (vint HOR.out) (vint (by simp)) rfl, rfl⟩
          · rw [if_neg hB] at hd
            have HE := Lib.hid hd
            clear hd
            have HA2 : Hid (acc * 128 + x.toNat % 128 < 128 ^ (k + 1)) := by
              have h1 := HA.out
              have : acc * 128 + x.toNat % 128 < 128 ^ (k + 1) := by rw [Nat.pow_succ]; omega
              exact Lib.hid this
            have hBi : 128 ≤ (x.toNat : Int) := by omega
            rw [show f = 9 - (k + 1) by omega] at HE
            by_cases hk0 : k = 0
            · subst hk0
              have hx1 : ((x.toNat : Int) == 128) = false := by simp; omega
              rw [Nat.add_zero] at hc1
              clear hA hB
              go_wp2
              go_round
              case rel => exact ⟨1, acc * 128 + x.toNat % 128, vint HOR.out, by go_num, by omega, by omega, HA2, HE⟩
              case measure => simp [intOf]
            · have hk1 : ((k : Int) == 0) = false := by simp; omega
              clear hA hB
              go_wp2
              go_round
              case rel => exact ⟨k + 1, acc * 128 + x.toNat % 128, vint HOR.out, by go_num, by omega, by omega, HA2, HE⟩
              case measure => simp [intOf]; omega
      · obtain rfl : k = len := by omega
        have e : dec 9 0 0 l = (0, 0, 4) := by
          rw [hd, List.drop_eq_nil_of_le (by rw [HL.out]; omega)]; rfl
        have HE := Lib.hid e
        clear hd e
        go_wp2
        go_ret3
        exact ⟨by rw [HE.out]; rfl, rfl⟩

end Go.Proofs.Ytagblhkihammdaa.W
