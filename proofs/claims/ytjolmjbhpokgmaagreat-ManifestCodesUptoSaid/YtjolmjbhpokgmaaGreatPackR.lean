/- CONTRACTS of layer 2 (pack): the reader. CONTRACTS of layer 2 (pack): the reader, the second part. CONTRACTS of layer 2 (pack): the reader, the third part: numbers, texts, flags. CONTRACTS of layer 2 (pack): the reader, the fourth part: flags, Open; the reference's reader. -/
import Derived.Test.YtjolmjbhpokgmaaGreatPackW
import Derived.Laws.IdiomStrings
import Derived.Laws.BytesArg
set_option linter.unusedSimpArgs false
set_option linter.unusedVariables false
namespace Go.Proofs.YtjolmjbhpokgmaaGreat.W
open Go.ChangeShapes Go.WideShapes Go.ChangeAt Go.RowKit
open Go.Proofs.YtjolmjbhpokgmaaGreat.P (mk lo hi enc tl gr up dec)

/-- A reader of package pack at block p: what is left, and its error. -/
structure RP (w : World) (p : Nat) (l : List UInt8) (e : Int) : Prop where
  ex : ∃ a cap, w.heap[p]? = some (.cells #[.bool true, .slice a l.length cap, .int .i64 e] 56 (0, 0)) ∧ Rd w a l.length cap l
  small : l.length ≤ 140737488355000
  hnone : e ≠ 0 → l = []

theorem heap_lt {w : World} {p : Nat} {o : Obj} (h : w.heap[p]? = some o) : p < w.heap.size := (Array.getElem?_eq_some_iff.1 h).1
theorem cell_at {w : World} {p : Nat} {cs : Array Value} {t : TypeId} (h : w.heap[p]? = some (.cells cs t (0, 0))) (j : Nat) (v : Value) (hj : cs[j]? = some v) : w.cell? ⟨p, j, none⟩ = some v := by
  rw [cell_of_row w p j cs t _ h]; exact hj
/-- bytes lie in no block whose cells are no bytes -/
theorem Rd.apart {w : World} {a : Option Addr} {len cap : Nat} {l : List UInt8} (h : Rd w a len cap l) {p : Nat} {cs : Array Value} {t : TypeId} (hp : w.heap[p]? = some (.cells cs t (0, 0)))
    (hn : ∀ (x : UInt8), B x ∉ cs.toList) : len = 0 ∨ ∀ b off, a = some ⟨b, off, none⟩ → b ≠ p := by
  by_cases h0 : len = 0
  · exact .inl h0
  · right
    obtain ⟨b, off, rfl, -, hc⟩ := h.lt_of h0
    intro b' off' e
    simp at e
    obtain ⟨rfl, rfl⟩ := e
    rintro rfl
    have h1 := hc 0 (by omega)
    rw [cell_of_row w b (off + 0) cs t _ hp] at h1
    exact hn _ (by rw [← Array.mem_def]; exact Array.mem_of_getElem? h1)
theorem Rd.upd' {w w' : World} {a : Option Addr} {len cap g : Nat} {l : List UInt8} (h : Rd w a len cap l) (hu : Upd w w' g) (hg : len = 0 ∨ ∀ b off, a = some ⟨b, off, none⟩ → b ≠ g) : Rd w' a len cap l := by
  rcases hg with h0 | hg
  · exact ⟨h.hlen, h.hle, h.hmax, h.hnil, .inl h0⟩
  · exact h.upd hu hg

/-- a number in front of bytes, and what is left -/
theorem rd_drop {w : World} {a : Option Addr} {len cap : Nat} {l : List UInt8} (h : Rd w a len cap l) (n : Nat) (hn : n ≤ len) :
    Rd w (if cap = n then a else a.map (·.add n)) (len - n) (cap - n) (l.drop n) := by
  obtain ⟨h1, h2, h3, h4, h5⟩ := h
  refine ⟨by simp [h1], by omega, by omega, ?_, ?_⟩
  · intro h
    split at h
    · omega
    · have : a = none := by simpa using h
      have := h4 this; omega
  · by_cases hl : len - n = 0
    · exact .inl hl
    · right
      rcases h5 with h5 | ⟨b, off, rfl, hlt, hc⟩
      · omega
      · refine ⟨b, off + n, ?_, hlt, fun i hi => ?_⟩
        · rw [if_neg (by omega)]; simp [Go.WideShapes.add_plain]
        · have := hc (n + i) (by omega)
          rw [show off + n + i = off + (n + i) by omega, this]
          simp [List.getD_eq_getElem?_getD]
theorem rd_take {w : World} {a : Option Addr} {len cap : Nat} {l : List UInt8} (h : Rd w a len cap l) (n : Nat) (hn : n ≤ len) (c : Nat) (hc1 : n ≤ c) (hc2 : c ≤ cap) :
    Rd w a n c (l.take n) := by
  obtain ⟨h1, h2, h3, h4, h5⟩ := h
  refine ⟨by simp; omega, hc1, by omega, fun h => by have := h4 h; omega, ?_⟩
  by_cases hl : n = 0
  · exact .inl hl
  · right
    rcases h5 with h5 | ⟨b, off, rfl, hlt, hc⟩
    · omega
    · refine ⟨b, off, rfl, hlt, fun i hi => ?_⟩
      rw [hc i (by omega)]
      simp [List.getD_eq_getElem?_getD, hi]

theorem or_add (acc : Nat) (x : UInt8) (h : (acc : Int) ≤ 72057594037927935) : bits .or .i64 ((acc : Int) * 128) ((x.toNat : Int) % 128) = ((acc * 128 + x.toNat % 128 : Nat) : Int) := by
  rw [Go.Proofs.YtjolmjbhpokgmaaGreat.B.or_i64]
  have h1 : Go.Proofs.YtjolmjbhpokgmaaGreat.B.U ((acc : Int) * 128) = acc * 128 := by unfold Go.Proofs.YtjolmjbhpokgmaaGreat.B.U; omega
  have h2 : Go.Proofs.YtjolmjbhpokgmaaGreat.B.U ((x.toNat : Int) % 128) = x.toNat % 128 := by unfold Go.Proofs.YtjolmjbhpokgmaaGreat.B.U; omega
  rw [h1, h2, nat_join 7 (acc * 128) (x.toNat % 128) (by omega) (by omega), IntKind.wrap_i64]
  omega

set_option maxRecDepth 100000 in
set_option maxHeartbeats 1000000 in
theorem plead (a : Option Addr) (len cap : Nat) (l : List UInt8) (w : World) (hr : Rd w a len cap l) :
    Calls Tryz.prog 82 #[.slice a len cap] w fun e w' => e = .returned (.tuple #[.int .i64 ((dec 9 0 0 l).1 : Int), .int .i64 ((dec 9 0 0 l).2.1 : Int), .int .i64 (dec 9 0 0 l).2.2]) ∧ w = w' := by
  have hlen := hr.hlen
  have hcells := hr.hcells
  have HL := Lib.hid hlen
  have HC := Lib.hid hcells
  have hm : (len : Int) ≤ 9223372036854775807 := by have := hr.hmax; have := hr.hle; omega
  clear hlen hcells hr
  go_enter Tryz.func82, Tryz.ntmps82
  go_wp2
  go_loop [2, 6] (fun n i => ∃ (k acc : Nat), n = .int .i64 acc ∧ i = .int .i64 k ∧ k ≤ 9 ∧ k ≤ len ∧ Hid (acc < 128 ^ k) ∧ Hid (dec 9 0 0 l = dec (9 - k) k acc (l.drop k))) (fun _ i => 9 - (intOf i).toNat)
  case atStart => exact ⟨0, 0, rfl, rfl, by omega, by omega, Lib.hid (by decide), Lib.hid rfl⟩
  case round =>
    obtain ⟨k, acc, rfl, rfl, hk9, hkl, HA, HD⟩ := hrel
    by_cases h9 : k = 9
    · subst h9
      have hd := HD.out
      have e : dec 9 0 0 l = (0, 0, 3) := by rw [hd]; rfl
      have HE := Lib.hid e
      clear hd e
      go_wp2
      go_ret3
      exact ⟨by rw [HE.out]; rfl, rfl⟩
    · have hk8 : k ≤ 8 := by omega
      obtain ⟨f, hf⟩ : ∃ f, 9 - k = f + 1 := ⟨8 - k, by omega⟩
      have hd := HD.out
      rw [hf] at hd
      by_cases hlt : k < len
      · have hc := HC.out
        have h0 : len ≠ 0 := by omega
        obtain ⟨b, off, rfl, -, hcell⟩ := hc.resolve_left h0
        have hc1 := hcell k hlt
        have hkl' : k < l.length := by rw [HL.out]; exact hlt
        have hdr : l.drop k = l[k] :: l.drop (k + 1) := List.drop_eq_getElem_cons hkl'
        have hge : l.getD k 0 = l[k] := by simp [hkl']
        rw [hge] at hc1
        generalize l[k] = x at *
        rw [hdr] at hd
        simp only [dec] at hd
        have hx : (x.toNat : Int) ≤ 255 := by have := x.toNat_lt; omega
        have hacc : (acc : Int) ≤ 72057594037927935 := by
          have h1 := HA.out
          have h2 : 128 ^ k ≤ 128 ^ 8 := Nat.pow_le_pow_right (by omega) hk8
          omega
        have hor := or_add acc x hacc
        have HOR := Lib.hid hor
        clear hc hcell hkl' hdr hge hor
        unfold B at hc1
        by_cases hA : k = 0 ∧ x.toNat = 128
        · obtain ⟨rfl, hx8⟩ := hA
          rw [if_pos ⟨rfl, hx8⟩] at hd
          have HE := Lib.hid hd
          have hx1 : ((x.toNat : Int) == 128) = true := by simp; omega
          rw [Nat.add_zero] at hc1
          clear hd hx8
          go_wp2
          go_ret3
          exact ⟨by rw [HE.out]; rfl, rfl⟩
        · rw [if_neg hA] at hd
          by_cases hB : x.toNat < 128
          · rw [if_pos hB] at hd
            have HE := Lib.hid hd
            have hBi : (x.toNat : Int) < 128 := by omega
            have hx1 : ((x.toNat : Int) == 128) = false := by simp; omega
            clear hd hA hB
            by_cases hk0 : k = 0
            · subst hk0
              rw [Nat.add_zero] at hc1
              go_wp2
              go_ret3
              exact ⟨by rw [HE.out]; exact tup3 (vint HOR.out) (vint (by simp)) rfl, rfl⟩
            · have hk1 : ((k : Int) == 0) = false := by simp; omega
              go_wp2
              go_ret3
              exact ⟨by rw [HE.out]; exact tup3 (vint HOR.out) (vint (by simp)) rfl, rfl⟩
          · rw [if_neg hB] at hd
            have HE := Lib.hid hd
            clear hd
            have HA2 : Hid (acc * 128 + x.toNat % 128 < 128 ^ (k + 1)) := by
              have h1 := HA.out
              have : acc * 128 + x.toNat % 128 < 128 ^ (k + 1) := by rw [Nat.pow_succ]; omega
              exact Lib.hid this
            have hBi : 128 ≤ (x.toNat : Int) := by omega
            rw [show f = 9 - (k + 1) by omega] at HE
            by_cases hk0 : k = 0
            · subst hk0
              have hx1 : ((x.toNat : Int) == 128) = false := by simp; omega
              rw [Nat.add_zero] at hc1
              clear hA hB
              go_wp2
              go_round
              case rel => exact ⟨1, acc * 128 + x.toNat % 128, vint HOR.out, by go_num, by omega, by omega, HA2, HE⟩
              case measure => simp [intOf]
            · have hk1 : ((k : Int) == 0) = false := by simp; omega
              clear hA hB
              go_wp2
              go_round
              case rel => exact ⟨k + 1, acc * 128 + x.toNat % 128, vint HOR.out, by go_num, by omega, by omega, HA2, HE⟩
              case measure => simp [intOf]; omega
      · obtain rfl : k = len := by omega
        have e : dec 9 0 0 l = (0, 0, 4) := by
          rw [hd, List.drop_eq_nil_of_le (by rw [HL.out]; omega)]; rfl
        have HE := Lib.hid e
        clear hd e
        go_wp2
        go_ret3
        exact ⟨by rw [HE.out]; rfl, rfl⟩

end Go.Proofs.YtjolmjbhpokgmaaGreat.W

namespace Go.Proofs.YtjolmjbhpokgmaaGreat.W
open Go.ChangeShapes Go.WideShapes Go.ChangeAt Go.RowKit
open Go.Proofs.YtjolmjbhpokgmaaGreat.P (mk lo hi enc tl gr up dec)

/-- a reader's cells -/
theorem RP.cells {w : World} {p : Nat} {l : List UInt8} {e : Int} (h : RP w p l e) : ∃ a cap, w.cell? ⟨p, 0, none⟩ = some (.bool true) ∧ w.cell? ⟨p, 1, none⟩ = some (.slice a l.length cap) ∧ w.cell? ⟨p, 2, none⟩ = some (.int .i64 e) ∧
    w.frozen? ⟨p, 1, none⟩ = false ∧ w.frozen? ⟨p, 2, none⟩ = false ∧ Rd w a l.length cap l ∧ (l.length = 0 ∨ ∀ b off, a = some ⟨b, off, none⟩ → b ≠ p) := by
  obtain ⟨a, cap, hh, hr⟩ := h.ex
  refine ⟨a, cap, cell_at hh 0 _ rfl, cell_at hh 1 _ rfl, cell_at hh 2 _ rfl, frozen_of_row w p 1 _ _ hh, frozen_of_row w p 2 _ _ hh, hr, hr.apart hh ?_⟩
  intro x hx
  simp [B] at hx

set_option maxHeartbeats 400000 in
theorem perr (p : Nat) (l : List UInt8) (e : Int) (w : World) (h : RP w p l e) :
    Calls Tryz.prog 13 #[.pointer (some ⟨p, 0, none⟩)] w fun x w' => x = .returned (.int .i64 e) ∧ w = w' := by
  obtain ⟨a, cap, c0, c1, c2, f1, f2, -, -⟩ := h.cells
  clear h c1 f1 f2
  go_enter Tryz.func13, Tryz.ntmps13
  go_wp2
  go_ret
  exact ⟨rfl, rfl⟩

set_option maxHeartbeats 400000 in
theorem pleft (p : Nat) (l : List UInt8) (e : Int) (w : World) (h : RP w p l e) :
    Calls Tryz.prog 15 #[.pointer (some ⟨p, 0, none⟩)] w fun x w' => x = .returned (.int .i64 (l.length : Int)) ∧ w = w' := by
  obtain ⟨a, cap, c0, c1, c2, f1, f2, -, -⟩ := h.cells
  clear h c0 c2 f1 f2
  go_enter Tryz.func15, Tryz.ntmps15
  go_wp2
  go_ret
  exact ⟨rfl, rfl⟩

/-- how a reader stands at its end -/
def endV (l : List UInt8) (e : Int) : Int := if e ≠ 0 then e else if l.length = 0 then 0 else 3


/-- a reader behind a failure -/
def failL (l : List UInt8) (e f : Int) : List UInt8 := if e ≠ 0 ∨ f = 0 then l else []
def failE (e f : Int) : Int := if e ≠ 0 ∨ f = 0 then e else f

/-- a reader whose rest and error were written anew -/
theorem RP.store {w : World} {p : Nat} {l : List UInt8} {e : Int} (h : RP w p l e) (a' : Option Addr) (cap' : Nat) (l' : List UInt8) (hr : Rd w a' l'.length cap' l') (hap : l'.length = 0 ∨ ∀ b off, a' = some ⟨b, off, none⟩ → b ≠ p) (hs : l'.length ≤ 140737488355000) (he : e ≠ 0 → l' = []) :
    RP (w.setCell ⟨p, 1, none⟩ (.slice a' l'.length cap')) p l' e := by
  obtain ⟨a, cap, hh, -⟩ := h.ex
  refine ⟨⟨a', cap', ?_, hr.upd' (Upd.setCell _ _ _ _) hap⟩, hs, he⟩
  exact heap_setCell_same w p 1 _ _ _ hh

set_option maxHeartbeats 400000 in
theorem pfail (p : Nat) (l : List UInt8) (e f : Int) (w : World) (h : RP w p l e) :
    Calls Tryz.prog 34 #[.pointer (some ⟨p, 0, none⟩), .int .i64 f] w fun x w' => x = .returned (.tuple #[]) ∧ RP w' p (failL l e f) (failE e f) ∧ Upd w w' p := by
  have HE := Lib.hid (perr p l e w h)
  have H := Lib.hid h
  obtain ⟨a0, cap0, hh, -⟩ := h.ex
  have HH := Lib.hid hh
  obtain ⟨a, cap, c0, c1, c2, f1, f2, -, -⟩ := h.cells
  clear h hh
  by_cases he : e = 0
  · subst he
    by_cases hf : f = 0
    · subst hf
      go_enter Tryz.func34, Tryz.ntmps34
      go_wp2_with fail
      refine HE.out.mono ?_
      rintro x w' ⟨rfl, rfl⟩
      go_wp2_with fail
      refine bodyPost_ret (results_none rfl _ _ _) rfl ?_
      exact ⟨rfl, H.out, Upd.refl _ _⟩
    · have hf2 : (f == 0) = false := by simpa using hf
      go_enter Tryz.func34, Tryz.ntmps34
      go_wp2_with fail
      refine HE.out.mono ?_
      rintro x w' ⟨rfl, rfl⟩
      go_wp2_with fail
      go_end0
      refine ⟨rfl, ?_, (Upd.setCell _ _ _ _).trans (Upd.setCell _ _ _ _)⟩
      unfold failL failE
      rw [if_neg (by simp [hf]), if_neg (by simp [hf])]
      refine ⟨⟨none, 0, ?_, Rd_nil _⟩, by simp, fun _ => rfl⟩
      have h1 := heap_setCell_same w p 2 _ _ (.int .i64 f) HH.out
      exact heap_setCell_same _ p 1 _ _ (.slice none 0 0) h1
  · have he2 : (e != 0) = true := by simpa using he
    go_enter Tryz.func34, Tryz.ntmps34
    go_wp2_with fail
    refine HE.out.mono ?_
    rintro x w' ⟨rfl, rfl⟩
    go_wp2_with fail
    refine bodyPost_ret (results_none rfl _ _ _) rfl ?_
    refine ⟨rfl, ?_, Upd.refl _ _⟩
    unfold failL failE
    rw [if_pos (.inl he), if_pos (.inl he)]; exact H.out

set_option maxHeartbeats 400000 in
theorem ptake_err (p : Nat) (l : List UInt8) (e n : Int) (w : World) (h : RP w p l e) (he : e ≠ 0) :
    Calls Tryz.prog 83 #[.pointer (some ⟨p, 0, none⟩), .int .i64 n] w fun x w' => x = .returned (.slice none 0 0) ∧ w = w' := by
  have HE := Lib.hid (perr p l e w h)
  have he2 : (e != 0) = true := by simpa using he
  clear h
  go_enter Tryz.func83, Tryz.ntmps83
  go_wp2_with fail
  refine HE.out.mono ?_
  rintro x w' ⟨rfl, rfl⟩
  go_wp2_with fail
  go_ret
  exact ⟨rfl, rfl⟩

set_option maxHeartbeats 400000 in
theorem ptake_short (p : Nat) (l : List UInt8) (n : Int) (w : World) (h : RP w p l 0) (hl : (l.length : Int) < n) :
    Calls Tryz.prog 83 #[.pointer (some ⟨p, 0, none⟩), .int .i64 n] w fun x w' => x = .returned (.slice none 0 0) ∧ RP w' p [] 4 ∧ Upd w w' p := by
  have HE := Lib.hid (perr p l 0 w h)
  have HF := Lib.hid (pfail p l 0 4 w h)
  obtain ⟨a, cap, c0, c1, c2, f1, f2, hr, hap⟩ := h.cells
  clear hr hap h
  go_enter Tryz.func83, Tryz.ntmps83
  go_wp2_with fail
  refine HE.out.mono ?_
  rintro x w' ⟨rfl, rfl⟩
  go_wp2_with fail
  refine HF.out.mono ?_
  rintro x w' ⟨rfl, hp, hu⟩
  go_wp2_with fail
  go_ret
  exact ⟨rfl, hp, hu⟩

set_option maxHeartbeats 1000000 in
theorem ptake_ok (p : Nat) (l : List UInt8) (n : Nat) (w : World) (h : RP w p l 0) (hl : n ≤ l.length) :
    Calls Tryz.prog 83 #[.pointer (some ⟨p, 0, none⟩), .int .i64 (n : Int)] w fun x w' =>
      ∃ a', x = .returned (.slice a' n n) ∧ Rd w' a' n n (l.take n) ∧ RP w' p (l.drop n) 0 ∧ Upd w w' p := by
  have HE := Lib.hid (perr p l 0 w h)
  have H := Lib.hid h
  obtain ⟨a, cap, c0, c1, c2, f1, f2, hr, hap⟩ := h.cells
  have hsm := h.small
  have hle := hr.hle
  have hmax := hr.hmax
  have hd := rd_drop hr n hl
  have ht := rd_take hr n hl n (Nat.le_refl _) (by omega)
  have hdl : (l.drop n).length = l.length - n := by simp
  have hda : (l.drop n).length = 0 ∨ ∀ b off, (if cap = n then a else a.map (·.add n)) = some ⟨b, off, none⟩ → b ≠ p := by
    rcases hap with h0 | hap
    · left; omega
    · by_cases hz : (l.drop n).length = 0
      · exact .inl hz
      · right
        intro b off hb
        rw [if_neg (by omega)] at hb
        rcases hr.hcells with h0 | ⟨b2, off2, rfl, -, -⟩
        · omega
        · simp only [Option.map_some, Go.WideShapes.add_plain] at hb
          obtain ⟨rfl, -⟩ := by simpa using hb
          exact hap _ _ rfl
  have hst := H.out.store _ (cap - n) (l.drop n) (by rw [hdl]; exact hd) hda (by omega) (fun h => absurd rfl h)
  have hta : n = 0 ∨ ∀ b off, a = some ⟨b, off, none⟩ → b ≠ p := by
    rcases hap with h0 | hap
    · left; omega
    · exact .inr hap
  have ht' := fun v => ht.upd' (Upd.setCell w p 1 v) hta
  rw [hdl] at hst
  have HST := Lib.hid hst
  have HT := Lib.hid ht'
  clear hd ht hdl hda hst hta ht' hr hap h H
  by_cases hc : cap ≤ n
  · have hcn : cap = n := by omega
    rw [if_pos hcn] at HST
    have hln : l.length = n := by omega
    subst hcn
    have hz : l.length - cap = 0 := by omega
    rw [hz, Nat.sub_self] at HST
    clear hz
    go_enter Tryz.func83, Tryz.ntmps83
    go_wp2_with fail
    refine HE.out.mono ?_
    rintro x w' ⟨rfl, rfl⟩
    go_wp2_with fail
    go_ret
    exact ⟨a, rfl, HT.out _, HST.out, Upd.setCell _ _ _ _⟩
  · rw [if_neg (by omega)] at HST
    go_enter Tryz.func83, Tryz.ntmps83
    go_wp2_with fail
    refine HE.out.mono ?_
    rintro x w' ⟨rfl, rfl⟩
    go_wp2_with fail
    go_ret
    exact ⟨a, rfl, HT.out _, HST.out, Upd.setCell _ _ _ _⟩

end Go.Proofs.YtjolmjbhpokgmaaGreat.W

namespace Go.Proofs.YtjolmjbhpokgmaaGreat.W
open Go.ChangeShapes Go.WideShapes Go.ChangeAt Go.RowKit
open Go.Proofs.YtjolmjbhpokgmaaGreat.P (mk lo hi enc tl gr up dec)

/-- what reading a number answers, what is left, the error -/
def numR (most : Int) (l : List UInt8) (e : Int) : Nat × List UInt8 × Int :=
  if e ≠ 0 then (0, l, e)
  else if (dec 9 0 0 l).2.2 ≠ 0 then (0, [], (dec 9 0 0 l).2.2)
  else if most < ((dec 9 0 0 l).1 : Int) then (0, [], 5)
  else ((dec 9 0 0 l).1, l.drop (dec 9 0 0 l).2.1, 0)
theorem numR_err {most : Int} {l : List UInt8} {e : Int} (h : e ≠ 0) : numR most l e = (0, l, e) := by unfold numR; rw [if_pos h]
theorem numR_bad {most : Int} {l : List UInt8} (h : (dec 9 0 0 l).2.2 ≠ 0) : numR most l 0 = (0, [], (dec 9 0 0 l).2.2) := by unfold numR; rw [if_neg (by simp), if_pos h]
theorem numR_long {most : Int} {l : List UInt8} (h : (dec 9 0 0 l).2.2 = 0) (hm : most < ((dec 9 0 0 l).1 : Int)) : numR most l 0 = (0, [], 5) := by unfold numR; rw [if_neg (by simp), if_neg (by simp [h]), if_pos hm]
theorem numR_ok {most : Int} {l : List UInt8} (h : (dec 9 0 0 l).2.2 = 0) (hm : ¬ most < ((dec 9 0 0 l).1 : Int)) : numR most l 0 = ((dec 9 0 0 l).1, l.drop (dec 9 0 0 l).2.1, 0) := by unfold numR; rw [if_neg (by simp), if_neg (by simp [h]), if_neg hm]
theorem numR_lt (most : Int) (l : List UInt8) (e : Int) : ((numR most l e).1 : Int) ≤ 9223372036854775807 := by
  have := P.dec_rng l
  unfold numR; split
  · simp
  · split
    · simp
    · split
      · simp
      · simp only; omega

set_option maxHeartbeats 1000000 in
theorem pnumR (p : Nat) (most : Int) (l : List UInt8) (e : Int) (w : World) (h : RP w p l e) :
    Calls Tryz.prog 61 #[.pointer (some ⟨p, 0, none⟩), .int .i64 most] w fun x w' => x = .returned (.int .i64 ((numR most l e).1 : Int)) ∧ RP w' p (numR most l e).2.1 (numR most l e).2.2 ∧ Upd w w' p := by
  have HE := Lib.hid (perr p l e w h)
  have H := Lib.hid h
  by_cases he : e = 0
  · subst he
    have hsz := P.dec_size 9 0 0 l
    have hrng := P.dec_rng l
    obtain ⟨a, cap, c0, c1, c2, f1, f2, hr, hap⟩ := h.cells
    have HL := Lib.hid (plead a l.length cap l w hr)
    clear c0 c2 f1 f2 hr hap h
    by_cases hd : (dec 9 0 0 l).2.2 = 0
    · obtain ⟨-, hs2, -⟩ := hsz hd
      by_cases hm : most < ((dec 9 0 0 l).1 : Int)
      · rw [numR_long hd hm]
        have HF := Lib.hid (pfail p l 0 5 w H.out)
        generalize dec 9 0 0 l = d at *
        obtain ⟨d1, d2, d3⟩ := d
        simp only at hd hm hs2
        subst hd
        clear hsz
        go_enter Tryz.func61, Tryz.ntmps61
        go_wp2_with fail
        refine HE.out.mono ?_
        rintro x w' ⟨rfl, rfl⟩
        go_wp2_with fail
        refine HL.out.mono ?_
        rintro x w' ⟨rfl, rfl⟩
        go_wp2_with fail
        refine HF.out.mono ?_
        rintro x w' ⟨rfl, hp, hu⟩
        go_wp2_with fail
        go_ret
        exact ⟨rfl, hp, hu⟩
      · rw [numR_ok hd hm]
        have HT := Lib.hid (ptake_ok p l (dec 9 0 0 l).2.1 w H.out (by omega))
        generalize dec 9 0 0 l = d at *
        obtain ⟨d1, d2, d3⟩ := d
        simp only at hd hm hs2
        subst hd
        clear hsz
        go_enter Tryz.func61, Tryz.ntmps61
        go_wp2_with fail
        refine HE.out.mono ?_
        rintro x w' ⟨rfl, rfl⟩
        go_wp2_with fail
        refine HL.out.mono ?_
        rintro x w' ⟨rfl, rfl⟩
        go_wp2_with fail
        refine HT.out.mono ?_
        rintro x w' ⟨a', rfl, -, hp, hu⟩
        go_wp2_with fail
        go_ret
        exact ⟨rfl, hp, hu⟩
    · rw [numR_bad hd]
      have hd1 : ((dec 9 0 0 l).2.2 != 0) = true := by simpa using hd
      have hd2 : ((dec 9 0 0 l).2.2 == 0) = false := by simpa using hd
      have HF := Lib.hid (pfail p l 0 (dec 9 0 0 l).2.2 w H.out)
      have hfe : failE 0 (dec 9 0 0 l).2.2 = (dec 9 0 0 l).2.2 := by unfold failE; rw [if_neg (by simp [hd])]
      have hfl : failL l 0 (dec 9 0 0 l).2.2 = [] := by unfold failL; rw [if_neg (by simp [hd])]
      rw [hfe, hfl] at HF
      generalize dec 9 0 0 l = d at *
      obtain ⟨d1, d2, d3⟩ := d
      simp only at hd hd1 hd2
      clear hsz hfe hfl
      go_enter Tryz.func61, Tryz.ntmps61
      go_wp2_with fail
      refine HE.out.mono ?_
      rintro x w' ⟨rfl, rfl⟩
      go_wp2_with fail
      refine HL.out.mono ?_
      rintro x w' ⟨rfl, rfl⟩
      go_wp2_with fail
      refine HF.out.mono ?_
      rintro x w' ⟨rfl, hp, hu⟩
      go_wp2_with fail
      go_ret
      exact ⟨rfl, hp, hu⟩
  · rw [numR_err he]
    have he2 : (e != 0) = true := by simpa using he
    clear h
    go_enter Tryz.func61, Tryz.ntmps61
    go_wp2_with fail
    refine HE.out.mono ?_
    rintro x w' ⟨rfl, rfl⟩
    go_wp2_with fail
    go_ret
    exact ⟨rfl, H.out, Upd.refl _ _⟩


/-- what reading a text answers, what is left, the error -/
def textR (most : Int) (l : List UInt8) (e : Int) : List UInt8 × List UInt8 × Int :=
  if (numR most l e).2.2 ≠ 0 then ([], (numR most l e).2.1, (numR most l e).2.2)
  else if (numR most l e).2.1.length < (numR most l e).1 then ([], [], 4)
  else ((numR most l e).2.1.take (numR most l e).1, (numR most l e).2.1.drop (numR most l e).1, 0)

set_option maxHeartbeats 1000000 in
theorem ptextR (p : Nat) (most : Int) (l : List UInt8) (e : Int) (w : World) (h : RP w p l e) :
    Calls Tryz.prog 62 #[.pointer (some ⟨p, 0, none⟩), .int .i64 most] w fun x w' => x = .returned (.string (str (textR most l e).1)) ∧ RP w' p (textR most l e).2.1 (textR most l e).2.2 ∧ Upd w w' p := by
  have HN := Lib.hid (pnumR p most l e w h)
  unfold textR
  generalize numR most l e = d at *
  obtain ⟨n, l1, e1⟩ := d
  clear h
  simp only
  by_cases he : e1 = 0
  · subst he
    rw [if_neg (by simp)]
    by_cases hl : l1.length < n
    · rw [if_pos hl]
      go_enter Tryz.func62, Tryz.ntmps62
      go_wp2_with fail
      refine HN.out.mono ?_
      rintro x w1 ⟨rfl, hp, hu⟩
      go_wp2_with fail
      refine (ptake_short p l1 n w1 hp (by omega)).mono ?_
      rintro x w2 ⟨rfl, hp2, hu2⟩
      have hcv := conv_rd (Rd_nil w2)
      go_wp2_with fail
      go_ret
      exact ⟨rfl, hp2, hu.trans hu2⟩
    · rw [if_neg hl]
      go_enter Tryz.func62, Tryz.ntmps62
      go_wp2_with fail
      refine HN.out.mono ?_
      rintro x w1 ⟨rfl, hp, hu⟩
      go_wp2_with fail
      refine (ptake_ok p l1 n w1 hp (by omega)).mono ?_
      rintro x w2 ⟨a', rfl, hr, hp2, hu2⟩
      have hcv := conv_rd hr
      go_wp2_with fail
      go_ret
      exact ⟨rfl, hp2, hu.trans hu2⟩
  · rw [if_pos he]
    go_enter Tryz.func62, Tryz.ntmps62
    go_wp2_with fail
    refine HN.out.mono ?_
    rintro x w1 ⟨rfl, hp, hu⟩
    go_wp2_with fail
    refine (ptake_err p l1 e1 n w1 hp he).mono ?_
    rintro x w2 ⟨rfl, rfl⟩
    have hcv := conv_rd (Rd_nil w1)
    go_wp2_with fail
    go_ret
    exact ⟨rfl, hp, hu⟩

end Go.Proofs.YtjolmjbhpokgmaaGreat.W

namespace Go.Proofs.YtjolmjbhpokgmaaGreat.W
open Go.ChangeShapes Go.WideShapes Go.ChangeAt Go.RowKit
open Go.Proofs.YtjolmjbhpokgmaaGreat.P (mk lo hi enc tl gr up dec)

/-- what reading a flag answers, what is left, the error -/
def yesR (l : List UInt8) (e : Int) : Bool × List UInt8 × Int :=
  if e ≠ 0 then (false, l, e) else
  match l with
  | [] => (false, [], 4)
  | x :: t => if 1 < x.toNat then (false, [], 3) else (x.toNat == 1, t, 0)


set_option maxHeartbeats 400000 in
theorem popen (a : Option Addr) (len cap : Nat) (l : List UInt8) (w : World) (hr : Rd w a len cap l) (hmax : len ≤ 140737488355000) :
    Calls Tryz.prog 6 #[.slice a len cap] w fun x w' => ∃ p, x = .returned (.pointer (some ⟨p, 0, none⟩)) ∧ w.heap.size ≤ p ∧ RP w' p l 0 ∧ Below w.heap.size w w' := by
  have hlen := hr.hlen
  subst hlen
  have HR := Lib.hid hr
  clear hr
  go_enter Tryz.func6, Tryz.ntmps6
  go_wp2_with fail
  refine (pgrown a l.length cap 0 l w HR.out (by omega)).mono ?_
  rintro x w1 ⟨rfl, hb1, hbl1, hsz1⟩
  rw [List.replicate_zero, List.append_nil] at hb1
  have hs1 := hbl1.size
  go_wp2_with fail
  go_ret
  refine ⟨w.heap.size + 1, rfl, by omega, ⟨⟨some ⟨w.heap.size, 0, none⟩, l.length, ?_, ?_⟩, hmax, fun h => absurd rfl h⟩, hbl1.alloc hs1 _⟩
  · rw [← hsz1]; exact heap_alloc_new w1 _
  · exact (hb1.rd (by omega)).mono ((Below.refl _ _).alloc (Nat.le_refl _) _)

/-- A reader of the reference at block p: what is left, and its error. -/
structure RR (w : World) (p : Nat) (l : List UInt8) (e : Int) : Prop where
  ex : ∃ a cap, w.heap[p]? = some (.cells #[.slice a l.length cap, .int .i64 e] 59 (0, 0)) ∧ Rd w a l.length cap l
  small : l.length ≤ 140737488355000
  hnone : e ≠ 0 → l = []
theorem RR.cells {w : World} {p : Nat} {l : List UInt8} {e : Int} (h : RR w p l e) : ∃ a cap, w.cell? ⟨p, 0, none⟩ = some (.slice a l.length cap) ∧ w.cell? ⟨p, 1, none⟩ = some (.int .i64 e) ∧
    w.frozen? ⟨p, 0, none⟩ = false ∧ w.frozen? ⟨p, 1, none⟩ = false ∧ Rd w a l.length cap l ∧ (l.length = 0 ∨ ∀ b off, a = some ⟨b, off, none⟩ → b ≠ p) := by
  obtain ⟨a, cap, hh, hr⟩ := h.ex
  refine ⟨a, cap, cell_at hh 0 _ rfl, cell_at hh 1 _ rfl, frozen_of_row w p 0 _ _ hh, frozen_of_row w p 1 _ _ hh, hr, hr.apart hh ?_⟩
  intro x hx
  simp [B] at hx
theorem RR.store {w : World} {p : Nat} {l : List UInt8} {e : Int} (h : RR w p l e) (a' : Option Addr) (cap' : Nat) (l' : List UInt8) (hr : Rd w a' l'.length cap' l') (hap : l'.length = 0 ∨ ∀ b off, a' = some ⟨b, off, none⟩ → b ≠ p) (hs : l'.length ≤ 140737488355000) (he : e ≠ 0 → l' = []) :
    RR (w.setCell ⟨p, 0, none⟩ (.slice a' l'.length cap')) p l' e := by
  obtain ⟨a, cap, hh, -⟩ := h.ex
  refine ⟨⟨a', cap', ?_, hr.upd' (Upd.setCell _ _ _ _) hap⟩, hs, he⟩
  exact heap_setCell_same w p 0 _ _ _ hh
/-- the first n bytes go -/
theorem RR.dropped {w : World} {p : Nat} {l : List UInt8} (h : RR w p l 0) {a : Option Addr} {cap : Nat} (hc : w.cell? ⟨p, 0, none⟩ = some (.slice a l.length cap)) (n : Nat) (hl : n ≤ l.length) :
    RR (w.setCell ⟨p, 0, none⟩ (.slice (if cap = n then a else a.map (·.add n)) (l.length - n) (cap - n))) p (l.drop n) 0 := by
  obtain ⟨a2, cap2, c0, -, -, -, hr, hap⟩ := h.cells
  rw [c0] at hc
  simp only [Option.some.injEq, Value.slice.injEq, true_and] at hc
  obtain ⟨rfl, rfl⟩ := hc
  have hsm := h.small
  have hd := rd_drop hr n hl
  have hdl : (l.drop n).length = l.length - n := by simp
  have hda : (l.drop n).length = 0 ∨ ∀ b off, (if cap2 = n then a2 else a2.map (·.add n)) = some ⟨b, off, none⟩ → b ≠ p := by
    rcases hap with h0 | hap
    · left; omega
    · by_cases hz : (l.drop n).length = 0
      · exact .inl hz
      · right
        intro b off hb
        have hle := hr.hle
        rw [if_neg (by omega)] at hb
        rcases hr.hcells with h0 | ⟨b2, off2, rfl, -, -⟩
        · omega
        · simp only [Option.map_some, Go.WideShapes.add_plain] at hb
          obtain ⟨rfl, -⟩ := by simpa using hb
          exact hap _ _ rfl
  have := h.store _ (cap2 - n) (l.drop n) (by rw [hdl]; exact hd) hda (by omega) (fun h => absurd rfl h)
  rw [hdl] at this; exact this

set_option maxHeartbeats 400000 in
theorem rerr (p : Nat) (l : List UInt8) (e : Int) (w : World) (h : RR w p l e) :
    Calls Tryz.prog 14 #[.pointer (some ⟨p, 0, none⟩)] w fun x w' => x = .returned (.int .i64 e) ∧ w = w' := by
  obtain ⟨a, cap, c0, c1, f0, f1, -, -⟩ := h.cells
  clear h c0 f0 f1
  go_enter Tryz.func14, Tryz.ntmps14
  go_wp2
  go_ret
  exact ⟨rfl, rfl⟩

set_option maxHeartbeats 400000 in
theorem rleft (p : Nat) (l : List UInt8) (e : Int) (w : World) (h : RR w p l e) :
    Calls Tryz.prog 16 #[.pointer (some ⟨p, 0, none⟩)] w fun x w' => x = .returned (.int .i64 (l.length : Int)) ∧ w = w' := by
  obtain ⟨a, cap, c0, c1, f0, f1, -, -⟩ := h.cells
  clear h c1 f0 f1
  go_enter Tryz.func16, Tryz.ntmps16
  go_wp2
  go_ret
  exact ⟨rfl, rfl⟩


set_option maxHeartbeats 400000 in
theorem rfail (p : Nat) (l : List UInt8) (e f : Int) (w : World) (h : RR w p l e) :
    Calls Tryz.prog 38 #[.pointer (some ⟨p, 0, none⟩), .int .i64 f] w fun x w' => x = .returned (.tuple #[]) ∧ RR w' p (failL l e f) (failE e f) ∧ Upd w w' p := by
  have H := Lib.hid h
  obtain ⟨a0, cap0, hh, -⟩ := h.ex
  have HH := Lib.hid hh
  obtain ⟨a, cap, c0, c1, f0, f1, -, -⟩ := h.cells
  have hnone := h.hnone
  have HN := Lib.hid hnone
  clear h hh hnone
  by_cases he : e = 0
  · subst he
    by_cases hf : f = 0
    · subst hf
      go_enter Tryz.func38, Tryz.ntmps38
      go_wp2
      go_end0
      refine ⟨rfl, ?_, Upd.setCell _ _ _ _⟩
      unfold failL failE
      rw [if_pos (.inr rfl), if_pos (.inr rfl)]
      have h := H.out
      obtain ⟨a2, cap2, h1, h2⟩ := h.ex
      exact ⟨⟨a2, cap2, heap_setCell_same w p 1 _ _ _ h1, h2.upd' (Upd.setCell _ _ _ _) (h2.apart h1 (by intro x hx; simp [B] at hx))⟩, h.small, fun h => absurd rfl h⟩
    · have hf2 : (f != 0) = true := by simpa using hf
      go_enter Tryz.func38, Tryz.ntmps38
      go_wp2
      go_end0
      refine ⟨rfl, ?_, (Upd.setCell _ _ _ _).trans (Upd.setCell _ _ _ _)⟩
      unfold failL failE
      rw [if_neg (by simp [hf]), if_neg (by simp [hf])]
      refine ⟨⟨none, 0, ?_, Rd_nil _⟩, by simp, fun _ => rfl⟩
      have h1 := heap_setCell_same w p 1 _ _ (.int .i64 f) HH.out
      exact heap_setCell_same _ p 0 _ _ (.slice none 0 0) h1
  · have he2 : (e == 0) = false := by simpa using he
    have he3 : (e != 0) = true := by simpa using he
    go_enter Tryz.func38, Tryz.ntmps38
    go_wp2
    go_end0
    refine ⟨rfl, ?_, Upd.setCell _ _ _ _⟩
    unfold failL failE
    rw [if_pos (.inl he), if_pos (.inl he), HN.out he]
    refine ⟨⟨none, 0, ?_, Rd_nil _⟩, by simp, fun _ => rfl⟩
    exact heap_setCell_same w p 0 _ _ (.slice none 0 0) HH.out



end Go.Proofs.YtjolmjbhpokgmaaGreat.W
