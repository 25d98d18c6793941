/- LAYER 28 (chunk): a call of a store, as the laws have it: as it lies in memory, as it comes in; few. -/
import Derived.Test.YtkfhppbmnjmnoaaGreatDoorCkO
import Derived.Test.YtkfhppbmnjmnoaaGreatDoorStrO
import Derived.Test.YtkfhppbmnjmnoaaGreatDoorLg
set_option linter.unusedSimpArgs false
set_option linter.unusedVariables false
namespace Go.Proofs.YtkfhppbmnjmnoaaGreatDoor.W
open Go Go.ChangeShapes Go.WideShapes Go.ChangeAt Go.RowKit
open Go.Proofs.YtkfhppbmnjmnoaaGreatDoor.P (shaL shaL_len)

/-- a call of a store -/
structure DoK where
  op : Int
  n : Int
  at' : Int
  ba : Option Addr
  bn : Nat
  bc : Nat
  b : List UInt8
  s : ByteArray
  ka : Option Addr
  kn : Nat
  kc : Nat
  ks : List Int
  na : Option Addr
  nn : Nat
  nc : Nat
  ns : List ByteArray
  la : Option Addr
  ln : Nat
  lc : Nat
  ls : List Int
@[reducible] def doC (op n at' : Int) (ba : Option Addr) (bn bc : Nat) (s : ByteArray) (ka : Option Addr) (kn kc : Nat) (na : Option Addr) (nn nc : Nat) (la : Option Addr) (ln lc : Nat) : List Value :=
  [.int .i64 op, .int .i64 n, .int .i64 at', .slice ba bn bc, .string s, .slice ka kn kc, .slice na nn nc, .slice la ln lc]
@[reducible] def DoK.cells (d : DoK) : List Value := doC d.op d.n d.at' d.ba d.bn d.bc d.s d.ka d.kn d.kc d.na d.nn d.nc d.la d.ln d.lc
structure DoK.fit (w : World) (d : DoK) : Prop where
  o64 : SI64 d.op
  n64 : SI64 d.n
  a64 : SI64 d.at'
  rb : Rd w d.ba d.bn d.bc d.b
  s : d.s.size ≤ maxLen
  rk : Ls intE w d.ka d.kn d.kc d.ks
  rn : Ls strE w d.na d.nn d.nc d.ns
  rl : Ls intE w d.la d.ln d.lc d.ls
theorem DoK.fit.mono {w w' : World} {d : DoK} (h : d.fit w) (hb : Below w.heap.size w w') : d.fit w' := ⟨h.o64, h.n64, h.a64, h.rb.mono hb, h.s, h.rk.mono intOk hb, h.rn.mono strOk hb, h.rl.mono intOk hb⟩
@[reducible] def doE : El DoK := ⟨22, 34, 8, 136, .agg (doC 0 0 0 none 0 0 ⟨#[]⟩ none 0 0 none 0 0 none 0 0).toArray, DoK.cells, fun w d => d.fit w⟩
theorem doOk28 : doE.Ok Tryz.prog where
  und := Tryz.underlying22
  info := by kernel_rfl
  zs := rfl
  pos := by decide
  len := fun _ => rfl
  one := fun d v hv => by simp at hv; rcases hv with rfl | rfl | rfl | rfl | rfl | rfl | rfl | rfl <;> rfl
  mono := fun _ _ _ h hb => h.mono hb
  small := by decide
theorem do_size28 : (Tryz.prog.info? 34).map (·.size) = some 8 := by kernel_rfl
theorem Row.d8 {w : World} {g : Nat} {t : TypeId} {v0 v1 v2 v3 v4 v5 v6 v7 : Value} (h : Row w g t [v0, v1, v2, v3, v4, v5, v6, v7]) : w.cell? ⟨g, 0, none⟩ = some v0 ∧ w.cell? ⟨g, 1, none⟩ = some v1 ∧ w.cell? ⟨g, 2, none⟩ = some v2 ∧ w.cell? ⟨g, 3, none⟩ = some v3 ∧ w.cell? ⟨g, 4, none⟩ = some v4 ∧ w.cell? ⟨g, 5, none⟩ = some v5 ∧ w.cell? ⟨g, 6, none⟩ = some v6 ∧ w.cell? ⟨g, 7, none⟩ = some v7 := by
  refine ⟨?_, ?_, ?_, ?_, ?_, ?_, ?_, ?_⟩ <;> (rw [h.cellV]; rfl)
section
variable {H : Type} {enc : TypeId × Value → H} {w : World} {base : Nat} {held : Bool}
theorem int_cells {fuel : Nat} {cs : List Value} {x : DataW H × List MemPlace} (h : DataW.trod enc Tryz.prog w base (fun _ => true) held fuel 3 cs = some x) : ∃ y : Int, cs = intE.cells y ∧ intE.fit w y := by
  obtain ⟨n, e, -, hn⟩ := DataW.trod_int Tryz.underlying3 h
  exact ⟨n, e, bd hn⟩
theorem byte_cells {fuel : Nat} {cs : List Value} {x : DataW H × List MemPlace} (h : DataW.trod enc Tryz.prog w base (fun _ => true) held fuel 30 cs = some x) : ∃ a n c l, cs = [.slice a n c] ∧ Rd w a n c l := by
  rcases open_ints Tryz.underlying30 Tryz.underlying5 (by kernel_rfl) h with ⟨hcs, _⟩ | ⟨x, l, c, zs, hcs, _, hl, hm, hz, _, hcell, hwz⟩
  · exact ⟨none, 0, 0, [], hcs, Rd_nil w⟩
  · exact ⟨some x, l, c, _, hcs, Rd.of_row (.inr ⟨x, rfl, hl, hm, by simpa using hz, hcell, hwz⟩)⟩
set_option maxRecDepth 100000 in
set_option maxHeartbeats 4000000 in
theorem do_cells28 {fuel : Nat} {cs : List Value} {x : DataW H × List MemPlace} (h : DataW.trod enc Tryz.prog w base (fun _ => true) held fuel 34 cs = some x) : ∃ y : DoK, cs = doE.cells y ∧ doE.fit w y := by
  obtain ⟨xs, n, hn, rfl, hl, hlen, hf⟩ := DataW.trod_struct Tryz.underlying34 h
  have hcl : Tryz.prog.cellsOf 34 = 8 := by kernel_rfl
  rw [hcl] at hl
  have f0 := hf 0 _ rfl
  have f1 := hf 1 _ rfl
  have f2 := hf 2 _ rfl
  have f3 := hf 3 _ rfl
  have f4 := hf 4 _ rfl
  have f5 := hf 5 _ rfl
  have f6 := hf 6 _ rfl
  have f7 := hf 7 _ rfl
  match cs, hl with
  | [v0, v1, v2, v3, v4, v5, v6, v7], _ =>
    have c1 : Tryz.prog.cellsOf 3 = 1 := by kernel_rfl
    have c2 : Tryz.prog.cellsOf 9 = 1 := by kernel_rfl
    have c3 : Tryz.prog.cellsOf 30 = 1 := by kernel_rfl
    have c4 : Tryz.prog.cellsOf 31 = 1 := by kernel_rfl
    have c5 : Tryz.prog.cellsOf 32 = 1 := by kernel_rfl
    match xs, hlen with
    | [x0, x1, x2, x3, x4, x5, x6, x7], _ =>
    simp [c1] at f0 f1 f2
    simp [c1, c3] at f3
    simp [c1, c2, c3] at f4
    simp [c1, c2, c3, c4] at f5
    simp [c1, c2, c3, c4, c5] at f6 f7
    obtain ⟨n0, e0, -, w0⟩ := DataW.trod_int Tryz.underlying3 f0
    obtain ⟨n1, e1, -, w1⟩ := DataW.trod_int Tryz.underlying3 f1
    obtain ⟨n2, e2, -, w2⟩ := DataW.trod_int Tryz.underlying3 f2
    obtain ⟨a3, m3, k3, l3, e3, w3⟩ := byte_cells f3
    obtain ⟨s4, e4, -, w4⟩ := DataW.trod_string Tryz.underlying9 f4
    obtain ⟨a5, m5, k5, L5, e5, w5⟩ := ls_cells intOk (by kernel_rfl) (fun hx => int_cells hx) f5
    obtain ⟨a6, m6, k6, L6, e6, w6⟩ := ls_cells strOk (by kernel_rfl) (fun hx => str_cells hx) f6
    obtain ⟨a7, m7, k7, L7, e7, w7⟩ := ls_cells intOk (by kernel_rfl) (fun hx => int_cells hx) f7
    simp at e0 e1 e2 e3 e4 e5 e6 e7
    exact ⟨⟨n0, n1, n2, a3, m3, k3, l3, s4, a5, m5, k5, L5, a6, m6, k6, L6, a7, m7, k7, L7⟩, by simp [DoK.cells, doC, e0, e1, e2, e3, e4, e5, e6, e7], ⟨bd w0, bd w1, bd w2, w3, w4, w5, w6, w7⟩⟩
theorem dos_open28 {a : Option Addr} {len cap : Nat} {d : DataW H} {pl : List MemPlace} (h : DataW.Trod enc Tryz.prog w base (fun _ => true) held 22 (.slice a len cap) d pl) : ∃ L, Ls doE w a len cap L := by
  obtain ⟨fuel, hf⟩ := h
  obtain ⟨a', n', c', L, hc, hL⟩ := ls_cells doOk28 (by kernel_rfl) (fun hx => do_cells28 hx) hf
  simp [Value.cells] at hc
  obtain ⟨rfl, rfl, rfl⟩ := hc
  exact ⟨L, hL⟩
theorem bytes_open28 {a : Option Addr} {len cap : Nat} {d : DataW H} {pl : List MemPlace} (h : DataW.Trod enc Tryz.prog w base (fun _ => true) held 30 (.slice a len cap) d pl) : ∃ l, Rd w a len cap l := by
  obtain ⟨fuel, hf⟩ := h
  obtain ⟨a', n', c', L, hc, hL⟩ := byte_cells hf
  simp [Value.cells] at hc
  obtain ⟨rfl, rfl, rfl⟩ := hc
  exact ⟨L, hL⟩
theorem ints_open28 {a : Option Addr} {len cap : Nat} {d : DataW H} {pl : List MemPlace} (h : DataW.Trod enc Tryz.prog w base (fun _ => true) held 31 (.slice a len cap) d pl) : ∃ l, Ls intE w a len cap l := by
  obtain ⟨fuel, hf⟩ := h
  obtain ⟨a', n', c', L, hc, hL⟩ := ls_cells intOk (by kernel_rfl) (fun hx => int_cells hx) hf
  simp [Value.cells] at hc
  obtain ⟨rfl, rfl, rfl⟩ := hc
  exact ⟨L, hL⟩
end
def DoK.few (d : DoK) : Bool := decide (d.bn ≤ 400) && (decide (d.s.size ≤ 100) && (decide (d.kn ≤ 20) && (decide (d.nn ≤ 20) && decide (d.ln ≤ 20))))
theorem few28 (d : DoK) (w : World) : Calls Tryz.prog 9 #[.agg d.cells.toArray] w fun e w' => e = .returned (.bool d.few) ∧ Below w.heap.size w w' := by
  obtain ⟨op, n, at', ba, bn, bc, b, s, ka, kn, kc, ks, na, nn, nc, ns, la, ln, lc, ls⟩ := d
  obtain ⟨V, hV⟩ : ∃ V, DoK.few ⟨op, n, at', ba, bn, bc, b, s, ka, kn, kc, ks, na, nn, nc, ns, la, ln, lc, ls⟩ = V := ⟨_, rfl⟩
  rw [hV]
  have HV := Lib.hid hV
  unfold DoK.few at hV
  dsimp only at hV
  by_cases q1 : bn ≤ 400
  rotate_left
  · have g1 : ¬ (bn : Int) ≤ 400 := by omega
    have HT := Lib.hid (show V = false by rw [← hV]; simp [q1])
    clear hV
    go_enter Tryz.func9, Tryz.ntmps9
    go_wp2_with (first
      | ((with_reducible refine box_row (o := ⟨some 1, _, _, _, _, _⟩) rfl _ _ rfl (doC op n at' ba bn bc s ka kn kc na nn nc la ln lc) rfl ?_); intro w1 hr hb hz; obtain ⟨c0, c1, c2, c3, c4, c5, c6, c7⟩ := hr.d8; have B1 := Lib.hid hb; clear hr hb hz))
    go_ret
    exact ⟨one (vbool (by rw [HT.out])), B1.out⟩
  have g1 : (bn : Int) ≤ 400 := by omega
  by_cases q2 : s.size ≤ 100
  rotate_left
  · have g2 : ¬ (s.size : Int) ≤ 100 := by omega
    have HT := Lib.hid (show V = false by rw [← hV]; simp [q2])
    clear hV
    go_enter Tryz.func9, Tryz.ntmps9
    go_wp2_with (first
      | ((with_reducible refine box_row (o := ⟨some 1, _, _, _, _, _⟩) rfl _ _ rfl (doC op n at' ba bn bc s ka kn kc na nn nc la ln lc) rfl ?_); intro w1 hr hb hz; obtain ⟨c0, c1, c2, c3, c4, c5, c6, c7⟩ := hr.d8; have B1 := Lib.hid hb; clear hr hb hz))
    go_ret
    exact ⟨one (vbool (by rw [HT.out])), B1.out⟩
  have g2 : (s.size : Int) ≤ 100 := by omega
  by_cases q3 : kn ≤ 20
  rotate_left
  · have g3 : ¬ (kn : Int) ≤ 20 := by omega
    have HT := Lib.hid (show V = false by rw [← hV]; simp [q3])
    clear hV
    go_enter Tryz.func9, Tryz.ntmps9
    go_wp2_with (first
      | ((with_reducible refine box_row (o := ⟨some 1, _, _, _, _, _⟩) rfl _ _ rfl (doC op n at' ba bn bc s ka kn kc na nn nc la ln lc) rfl ?_); intro w1 hr hb hz; obtain ⟨c0, c1, c2, c3, c4, c5, c6, c7⟩ := hr.d8; have B1 := Lib.hid hb; clear hr hb hz))
    go_ret
    exact ⟨one (vbool (by rw [HT.out])), B1.out⟩
  have g3 : (kn : Int) ≤ 20 := by omega
  by_cases q4 : nn ≤ 20
  rotate_left
  · have g4 : ¬ (nn : Int) ≤ 20 := by omega
    have HT := Lib.hid (show V = false by rw [← hV]; simp [q4])
    clear hV
    go_enter Tryz.func9, Tryz.ntmps9
    go_wp2_with (first
      | ((with_reducible refine box_row (o := ⟨some 1, _, _, _, _, _⟩) rfl _ _ rfl (doC op n at' ba bn bc s ka kn kc na nn nc la ln lc) rfl ?_); intro w1 hr hb hz; obtain ⟨c0, c1, c2, c3, c4, c5, c6, c7⟩ := hr.d8; have B1 := Lib.hid hb; clear hr hb hz))
    go_ret
    exact ⟨one (vbool (by rw [HT.out])), B1.out⟩
  have g4 : (nn : Int) ≤ 20 := by omega
  by_cases q5 : ln ≤ 20
  · have g5 : (ln : Int) ≤ 20 := by omega
    have HT := Lib.hid (show V = true by rw [← hV]; simp [q1, q2, q3, q4, q5])
    clear hV
    go_enter Tryz.func9, Tryz.ntmps9
    go_wp2_with (first
      | ((with_reducible refine box_row (o := ⟨some 1, _, _, _, _, _⟩) rfl _ _ rfl (doC op n at' ba bn bc s ka kn kc na nn nc la ln lc) rfl ?_); intro w1 hr hb hz; obtain ⟨c0, c1, c2, c3, c4, c5, c6, c7⟩ := hr.d8; have B1 := Lib.hid hb; clear hr hb hz))
    go_ret
    exact ⟨one (vbool (by rw [HT.out])), B1.out⟩
  · have g5 : ¬ (ln : Int) ≤ 20 := by omega
    have HT := Lib.hid (show V = false by rw [← hV]; simp [q5])
    clear hV
    go_enter Tryz.func9, Tryz.ntmps9
    go_wp2_with (first
      | ((with_reducible refine box_row (o := ⟨some 1, _, _, _, _, _⟩) rfl _ _ rfl (doC op n at' ba bn bc s ka kn kc na nn nc la ln lc) rfl ?_); intro w1 hr hb hz; obtain ⟨c0, c1, c2, c3, c4, c5, c6, c7⟩ := hr.d8; have B1 := Lib.hid hb; clear hr hb hz))
    go_ret
    exact ⟨one (vbool (by rw [HT.out])), B1.out⟩
end Go.Proofs.YtkfhppbmnjmnoaaGreatDoor.W
