/- LAYER 16 (msg), the program: where the fields stand; a number's field. LAYER 16 (msg), the program: a number that is read; the fields OK, Data, Sum. LAYER 16 (msg), the program: entries: may they be; put; read. LAYER 16 (msg), the program: the field Entries; all fields. LAYER 16 (msg), the program: its table of fields; what each field's functions answer. -/
import Derived.Test.YtdcioeoofngibaaMsO
import Derived.Test.YtdcioeoofngibaaRcQ
import Derived.Test.YtdcioeoofngibaaRcEq
import Derived.Test.YtdcioeoofngibaaLg
import Derived.Test.YtdcioeoofngibaaSt
import Derived.Test.YtdcioeoofngibaaLn
import Derived.Test.YtdcioeoofngibaaMsA
import Derived.Great.BuildSlice
set_option linter.unusedSimpArgs false
set_option linter.unusedVariables false
namespace Go.Proofs.Ytdcioeoofngibaa.W
open Go Go.ChangeShapes Go.WideShapes Go.ChangeAt Go.RowKit
open Go.Proofs.Ytdcioeoofngibaa.P (enc dec)

/-- a call of f enters it -/
abbrev Ent (f : FuncId) : Prop := ∀ (xs : Array Value) (w : World), (callFunc f xs).run Try.prog w = .ok (.enter f xs) w
/-- f tells where field k of a message stands -/
structure AtP (f : FuncId) (k : Nat) : Prop where
  ent : Ent f
  at' : ∀ (b : Nat) (w : World), Calls Try.prog f #[.pointer (some ⟨b, 0, none⟩)] w fun x w' => x = .returned (.pointer (some ⟨b, k, none⟩)) ∧ w = w'
set_option maxRecDepth 100000 in
theorem mpat1 : AtP 29 1 := by
  refine ⟨fun _ _ => rfl, fun b w => ?_⟩
  go_enter Try.func29, Try.ntmps29
  go_wp2_with fail
  go_ret
  exact ⟨rfl, rfl⟩
set_option maxRecDepth 100000 in
theorem mpat2 : AtP 30 2 := by
  refine ⟨fun _ _ => rfl, fun b w => ?_⟩
  go_enter Try.func30, Try.ntmps30
  go_wp2_with fail
  go_ret
  exact ⟨rfl, rfl⟩
set_option maxRecDepth 100000 in
theorem mpat3 : AtP 31 3 := by
  refine ⟨fun _ _ => rfl, fun b w => ?_⟩
  go_enter Try.func31, Try.ntmps31
  go_wp2_with fail
  go_ret
  exact ⟨rfl, rfl⟩
set_option maxRecDepth 100000 in
theorem mpat4 : AtP 32 4 := by
  refine ⟨fun _ _ => rfl, fun b w => ?_⟩
  go_enter Try.func32, Try.ntmps32
  go_wp2_with fail
  go_ret
  exact ⟨rfl, rfl⟩
set_option maxRecDepth 100000 in
theorem mpat5 : AtP 33 5 := by
  refine ⟨fun _ _ => rfl, fun b w => ?_⟩
  go_enter Try.func33, Try.ntmps33
  go_wp2_with fail
  go_ret
  exact ⟨rfl, rfl⟩
set_option maxRecDepth 100000 in
theorem mpat6 : AtP 34 6 := by
  refine ⟨fun _ _ => rfl, fun b w => ?_⟩
  go_enter Try.func34, Try.ntmps34
  go_wp2_with fail
  go_ret
  exact ⟨rfl, rfl⟩
set_option maxRecDepth 100000 in
theorem mpat7 : AtP 35 7 := by
  refine ⟨fun _ _ => rfl, fun b w => ?_⟩
  go_enter Try.func35, Try.ntmps35
  go_wp2_with fail
  go_ret
  exact ⟨rfl, rfl⟩
set_option maxRecDepth 100000 in
theorem mpat8 : AtP 36 8 := by
  refine ⟨fun _ _ => rfl, fun b w => ?_⟩
  go_enter Try.func36, Try.ntmps36
  go_wp2_with fail
  go_ret
  exact ⟨rfl, rfl⟩
set_option maxRecDepth 100000 in
set_option maxHeartbeats 4000000 in
theorem mpn1 (f : FuncId) (k : Nat) (hat : AtP f k) (A : Nat) (b M : Nat) (z most : Int) (w : World) (hz : w.cell? ⟨b, k, none⟩ = some (.int .i64 z)) (hM : w.cell? ⟨M, 0, none⟩ = some (.int .i64 most)) (hA : w.cell? ⟨A, 0, none⟩ = some (.func (.func f) #[] #[])) :
    Calls Try.prog 49 #[.pointer (some ⟨b, 0, none⟩), .pointer (some ⟨A, 0, none⟩), .pointer (some ⟨M, 0, none⟩)] w fun x w' => x = .returned (.bool (inV z 0 most)) ∧ Below w.heap.size w w' := by
  have HE := Lib.hid hat.ent
  have HT := Lib.hid hat.at'
  have EA := Lib.hid hA
  clear hat hA
  have EV := Lib.hid hz
  have EM := Lib.hid hM
  obtain ⟨V, hV⟩ : ∃ V, inV z 0 most = V := ⟨_, rfl⟩
  rw [hV]
  have HV := Lib.hid hV
  clear hz hM hV
  by_cases h1 : 0 ≤ z
  · go_enter Try.func49, Try.ntmps49
    go_wp2_with fail
    refine region_h (fun v => Below w.heap.size w v) (by kernel_rfl) (by kernel_rfl) (Below.refl _ _).drew ?_
    obtain ⟨wd, hwd⟩ : ∃ wd, w.drew = wd := ⟨_, rfl⟩
    have D0 : Hid (Below w.heap.size w wd) := Lib.hid (by rw [← hwd]; exact (Below.refl _ _).drew)
    rw [hwd]
    clear hwd
    (refine h_read 0 rfl (by kernel_rfl) (by kernel_rfl) (h_free rfl) ?_ ?_ ?_; rotate_left; (focus (intro v hv; have q0 := (hv.cell (p := ⟨A, 0, none⟩) (World.block_lt_of_cell? w _ EA.out)).trans EA.out; have q1 := (hv.cell (p := ⟨b, k, none⟩) (World.block_lt_of_cell? w _ EV.out)).trans EV.out; have q2 := (hv.cell (p := ⟨M, 0, none⟩) (World.block_lt_of_cell? w _ EM.out)).trans EM.out; go_simp; rfl)); go_simp)
    (refine h_read 1 rfl (by kernel_rfl) (by kernel_rfl) (h_free rfl) ?_ ?_ ?_; rotate_left; (focus (intro v hv; go_simp; rfl)); go_simp)
    (refine h_call 2 rfl (by kernel_rfl) (h_free rfl) f ?_ ?_ ?_; rotate_left; (focus (go_simp; exact HE.out _ _)))
    refine (HT.out b wd).mono ?_
    rintro x w5 ⟨rfl, rfl⟩
    refine ⟨_, rfl, D0.out, ?_⟩
    go_simp
    (refine h_read 3 rfl (by kernel_rfl) (by kernel_rfl) (h_free rfl) ?_ ?_ ?_; rotate_left; (focus (intro v hv; go_simp; rfl)); go_simp)
    (refine h_read 4 rfl (by kernel_rfl) (by kernel_rfl) (h_free rfl) ?_ ?_ ?_; rotate_left; (focus (intro v hv; have q0 := (hv.cell (p := ⟨A, 0, none⟩) (World.block_lt_of_cell? w _ EA.out)).trans EA.out; have q1 := (hv.cell (p := ⟨b, k, none⟩) (World.block_lt_of_cell? w _ EV.out)).trans EV.out; have q2 := (hv.cell (p := ⟨M, 0, none⟩) (World.block_lt_of_cell? w _ EM.out)).trans EM.out; go_simp; rfl)); go_simp)
    (refine h_read 5 rfl (by kernel_rfl) (by kernel_rfl) (h_free rfl) ?_ ?_ ?_; rotate_left; (focus (intro v hv; go_simp; rfl)); go_simp)
    (refine h_read 6 rfl (by kernel_rfl) (by kernel_rfl) (h_free rfl) ?_ ?_ ?_; rotate_left; (focus (intro v hv; go_simp; rfl)); go_simp)
    (refine h_read 7 rfl (by kernel_rfl) (by kernel_rfl) ?_ ?_ ?_ ?_; (focus (go_simp; done)); rotate_left; (focus (intro v hv; have q0 := (hv.cell (p := ⟨A, 0, none⟩) (World.block_lt_of_cell? w _ EA.out)).trans EA.out; have q1 := (hv.cell (p := ⟨b, k, none⟩) (World.block_lt_of_cell? w _ EV.out)).trans EV.out; have q2 := (hv.cell (p := ⟨M, 0, none⟩) (World.block_lt_of_cell? w _ EM.out)).trans EM.out; go_simp; rfl)); go_simp)
    (refine h_read 8 rfl (by kernel_rfl) (by kernel_rfl) ?_ ?_ ?_ ?_; (focus (go_simp; done)); rotate_left; (focus (intro v hv; go_simp; rfl)); go_simp)
    (refine h_read 12 rfl (by kernel_rfl) (by kernel_rfl) ?_ ?_ ?_ ?_; (focus (go_simp; done)); rotate_left; (focus (intro v hv; have q0 := (hv.cell (p := ⟨A, 0, none⟩) (World.block_lt_of_cell? w _ EA.out)).trans EA.out; have q1 := (hv.cell (p := ⟨b, k, none⟩) (World.block_lt_of_cell? w _ EV.out)).trans EV.out; have q2 := (hv.cell (p := ⟨M, 0, none⟩) (World.block_lt_of_cell? w _ EM.out)).trans EM.out; go_simp; rfl)); go_simp)
    (refine h_call 9 rfl (by kernel_rfl) ?_ f ?_ ?_ ?_; (focus (go_simp; done)); rotate_left; (focus (go_simp; exact HE.out _ _)))
    refine (HT.out b wd).mono ?_
    rintro x w5 ⟨rfl, rfl⟩
    refine ⟨_, rfl, D0.out, ?_⟩
    go_simp
    (refine h_read 10 rfl (by kernel_rfl) (by kernel_rfl) ?_ ?_ ?_ ?_; (focus (go_simp; done)); rotate_left; (focus (intro v hv; go_simp; rfl)); go_simp)
    (refine h_read 11 rfl (by kernel_rfl) (by kernel_rfl) ?_ ?_ ?_ ?_; (focus (go_simp; done)); rotate_left; (focus (intro v hv; have q0 := (hv.cell (p := ⟨A, 0, none⟩) (World.block_lt_of_cell? w _ EA.out)).trans EA.out; have q1 := (hv.cell (p := ⟨b, k, none⟩) (World.block_lt_of_cell? w _ EV.out)).trans EV.out; have q2 := (hv.cell (p := ⟨M, 0, none⟩) (World.block_lt_of_cell? w _ EM.out)).trans EM.out; go_simp; rfl)); go_simp)
    (refine h_read 13 rfl (by kernel_rfl) (by kernel_rfl) ?_ ?_ ?_ ?_; (focus (go_simp; done)); rotate_left; (focus (intro v hv; go_simp; rfl)); go_simp)
    (refine h_read 14 rfl (by kernel_rfl) (by kernel_rfl) (h_free rfl) ?_ ?_ ?_; rotate_left; (focus (intro v hv; go_simp; rfl)); go_simp)
    (refine h_read 15 rfl (by kernel_rfl) (by kernel_rfl) (h_free rfl) ?_ ?_ ?_; rotate_left; (focus (intro v hv; go_simp; rfl)); go_simp)
    refine h_done (by kernel_rfl) ?_
    go_wp2_with fail
    go_ret
    exact ⟨one (vbool (by rw [← HV.out]; simp [inV, h1])), D0.out⟩
  · go_enter Try.func49, Try.ntmps49
    go_wp2_with fail
    refine region_h (fun v => Below w.heap.size w v) (by kernel_rfl) (by kernel_rfl) (Below.refl _ _).drew ?_
    obtain ⟨wd, hwd⟩ : ∃ wd, w.drew = wd := ⟨_, rfl⟩
    have D0 : Hid (Below w.heap.size w wd) := Lib.hid (by rw [← hwd]; exact (Below.refl _ _).drew)
    rw [hwd]
    clear hwd
    (refine h_read 0 rfl (by kernel_rfl) (by kernel_rfl) (h_free rfl) ?_ ?_ ?_; rotate_left; (focus (intro v hv; have q0 := (hv.cell (p := ⟨A, 0, none⟩) (World.block_lt_of_cell? w _ EA.out)).trans EA.out; have q1 := (hv.cell (p := ⟨b, k, none⟩) (World.block_lt_of_cell? w _ EV.out)).trans EV.out; have q2 := (hv.cell (p := ⟨M, 0, none⟩) (World.block_lt_of_cell? w _ EM.out)).trans EM.out; go_simp; rfl)); go_simp)
    (refine h_read 1 rfl (by kernel_rfl) (by kernel_rfl) (h_free rfl) ?_ ?_ ?_; rotate_left; (focus (intro v hv; go_simp; rfl)); go_simp)
    (refine h_call 2 rfl (by kernel_rfl) (h_free rfl) f ?_ ?_ ?_; rotate_left; (focus (go_simp; exact HE.out _ _)))
    refine (HT.out b wd).mono ?_
    rintro x w5 ⟨rfl, rfl⟩
    refine ⟨_, rfl, D0.out, ?_⟩
    go_simp
    (refine h_read 3 rfl (by kernel_rfl) (by kernel_rfl) (h_free rfl) ?_ ?_ ?_; rotate_left; (focus (intro v hv; go_simp; rfl)); go_simp)
    (refine h_read 4 rfl (by kernel_rfl) (by kernel_rfl) (h_free rfl) ?_ ?_ ?_; rotate_left; (focus (intro v hv; have q0 := (hv.cell (p := ⟨A, 0, none⟩) (World.block_lt_of_cell? w _ EA.out)).trans EA.out; have q1 := (hv.cell (p := ⟨b, k, none⟩) (World.block_lt_of_cell? w _ EV.out)).trans EV.out; have q2 := (hv.cell (p := ⟨M, 0, none⟩) (World.block_lt_of_cell? w _ EM.out)).trans EM.out; go_simp; rfl)); go_simp)
    (refine h_read 5 rfl (by kernel_rfl) (by kernel_rfl) (h_free rfl) ?_ ?_ ?_; rotate_left; (focus (intro v hv; go_simp; rfl)); go_simp)
    (refine h_read 6 rfl (by kernel_rfl) (by kernel_rfl) (h_free rfl) ?_ ?_ ?_; rotate_left; (focus (intro v hv; go_simp; rfl)); go_simp)
    (refine h_skip 7 rfl (by kernel_rfl) (by kernel_rfl) ?_ ?_; (focus (go_simp; first | done | (intro h; cases h) | simp)); go_simp)
    (refine h_skip 8 rfl (by kernel_rfl) (by kernel_rfl) ?_ ?_; (focus (go_simp; first | done | (intro h; cases h) | simp)); go_simp)
    (refine h_skip 9 rfl (by kernel_rfl) (by kernel_rfl) ?_ ?_; (focus (go_simp; first | done | (intro h; cases h) | simp)); go_simp)
    (refine h_skip 10 rfl (by kernel_rfl) (by kernel_rfl) ?_ ?_; (focus (go_simp; first | done | (intro h; cases h) | simp)); go_simp)
    (refine h_skip 11 rfl (by kernel_rfl) (by kernel_rfl) ?_ ?_; (focus (go_simp; first | done | (intro h; cases h) | simp)); go_simp)
    (refine h_skip 12 rfl (by kernel_rfl) (by kernel_rfl) ?_ ?_; (focus (go_simp; first | done | (intro h; cases h) | simp)); go_simp)
    (refine h_skip 13 rfl (by kernel_rfl) (by kernel_rfl) ?_ ?_; (focus (go_simp; first | done | (intro h; cases h) | simp)); go_simp)
    (refine h_read 14 rfl (by kernel_rfl) (by kernel_rfl) (h_free rfl) ?_ ?_ ?_; rotate_left; (focus (intro v hv; go_simp; rfl)); go_simp)
    (refine h_read 15 rfl (by kernel_rfl) (by kernel_rfl) (h_free rfl) ?_ ?_ ?_; rotate_left; (focus (intro v hv; go_simp; rfl)); go_simp)
    refine h_done (by kernel_rfl) ?_
    go_wp2_with fail
    go_ret
    exact ⟨one (vbool (by rw [← HV.out]; simp [inV]; omega)), D0.out⟩
set_option maxRecDepth 100000 in
set_option maxHeartbeats 4000000 in
theorem mpn2 (f : FuncId) (k : Nat) (hat : AtP f k) (A : Nat) (b b2 : Nat) (z y : Int) (w : World) (hz : w.cell? ⟨b, k, none⟩ = some (.int .i64 z)) (hy : w.cell? ⟨b2, k, none⟩ = some (.int .i64 y)) (hA : w.cell? ⟨A, 0, none⟩ = some (.func (.func f) #[] #[])) :
    Calls Try.prog 50 #[.pointer (some ⟨b, 0, none⟩), .pointer (some ⟨b2, 0, none⟩), .pointer (some ⟨A, 0, none⟩)] w fun x w' => x = .returned (.bool (z == y)) ∧ Below w.heap.size w w' := by
  have HE := Lib.hid hat.ent
  have HT := Lib.hid hat.at'
  have EA := Lib.hid hA
  clear hat hA
  have EV := Lib.hid hz
  have EM := Lib.hid hy
  clear hz hy
  go_enter Try.func50, Try.ntmps50
  go_wp2_with fail
  refine region_h (fun v => Below w.heap.size w v) (by kernel_rfl) (by kernel_rfl) (Below.refl _ _).drew ?_
  obtain ⟨wd, hwd⟩ : ∃ wd, w.drew = wd := ⟨_, rfl⟩
  have D0 : Hid (Below w.heap.size w wd) := Lib.hid (by rw [← hwd]; exact (Below.refl _ _).drew)
  rw [hwd]
  clear hwd
  (refine h_read 0 rfl (by kernel_rfl) (by kernel_rfl) (h_free rfl) ?_ ?_ ?_; rotate_left; (focus (intro v hv; have q0 := (hv.cell (p := ⟨A, 0, none⟩) (World.block_lt_of_cell? w _ EA.out)).trans EA.out; have q1 := (hv.cell (p := ⟨b, k, none⟩) (World.block_lt_of_cell? w _ EV.out)).trans EV.out; have q2 := (hv.cell (p := ⟨b2, k, none⟩) (World.block_lt_of_cell? w _ EM.out)).trans EM.out; go_simp; rfl)); go_simp)
  (refine h_read 1 rfl (by kernel_rfl) (by kernel_rfl) (h_free rfl) ?_ ?_ ?_; rotate_left; (focus (intro v hv; go_simp; rfl)); go_simp)
  (refine h_read 5 rfl (by kernel_rfl) (by kernel_rfl) (h_free rfl) ?_ ?_ ?_; rotate_left; (focus (intro v hv; have q0 := (hv.cell (p := ⟨A, 0, none⟩) (World.block_lt_of_cell? w _ EA.out)).trans EA.out; have q1 := (hv.cell (p := ⟨b, k, none⟩) (World.block_lt_of_cell? w _ EV.out)).trans EV.out; have q2 := (hv.cell (p := ⟨b2, k, none⟩) (World.block_lt_of_cell? w _ EM.out)).trans EM.out; go_simp; rfl)); go_simp)
  (refine h_read 6 rfl (by kernel_rfl) (by kernel_rfl) (h_free rfl) ?_ ?_ ?_; rotate_left; (focus (intro v hv; go_simp; rfl)); go_simp)
  (refine h_call 2 rfl (by kernel_rfl) (h_free rfl) f ?_ ?_ ?_; rotate_left; (focus (go_simp; exact HE.out _ _)))
  refine (HT.out b wd).mono ?_
  rintro x w5 ⟨rfl, rfl⟩
  refine ⟨_, rfl, D0.out, ?_⟩
  go_simp
  (refine h_read 3 rfl (by kernel_rfl) (by kernel_rfl) (h_free rfl) ?_ ?_ ?_; rotate_left; (focus (intro v hv; go_simp; rfl)); go_simp)
  (refine h_read 4 rfl (by kernel_rfl) (by kernel_rfl) (h_free rfl) ?_ ?_ ?_; rotate_left; (focus (intro v hv; have q0 := (hv.cell (p := ⟨A, 0, none⟩) (World.block_lt_of_cell? w _ EA.out)).trans EA.out; have q1 := (hv.cell (p := ⟨b, k, none⟩) (World.block_lt_of_cell? w _ EV.out)).trans EV.out; have q2 := (hv.cell (p := ⟨b2, k, none⟩) (World.block_lt_of_cell? w _ EM.out)).trans EM.out; go_simp; rfl)); go_simp)
  (refine h_call 7 rfl (by kernel_rfl) (h_free rfl) f ?_ ?_ ?_; rotate_left; (focus (go_simp; exact HE.out _ _)))
  refine (HT.out b2 wd).mono ?_
  rintro x w5 ⟨rfl, rfl⟩
  refine ⟨_, rfl, D0.out, ?_⟩
  go_simp
  (refine h_read 8 rfl (by kernel_rfl) (by kernel_rfl) (h_free rfl) ?_ ?_ ?_; rotate_left; (focus (intro v hv; go_simp; rfl)); go_simp)
  (refine h_read 9 rfl (by kernel_rfl) (by kernel_rfl) (h_free rfl) ?_ ?_ ?_; rotate_left; (focus (intro v hv; have q0 := (hv.cell (p := ⟨A, 0, none⟩) (World.block_lt_of_cell? w _ EA.out)).trans EA.out; have q1 := (hv.cell (p := ⟨b, k, none⟩) (World.block_lt_of_cell? w _ EV.out)).trans EV.out; have q2 := (hv.cell (p := ⟨b2, k, none⟩) (World.block_lt_of_cell? w _ EM.out)).trans EM.out; go_simp; rfl)); go_simp)
  (refine h_read 10 rfl (by kernel_rfl) (by kernel_rfl) (h_free rfl) ?_ ?_ ?_; rotate_left; (focus (intro v hv; go_simp; rfl)); go_simp)
  (refine h_read 11 rfl (by kernel_rfl) (by kernel_rfl) (h_free rfl) ?_ ?_ ?_; rotate_left; (focus (intro v hv; go_simp; rfl)); go_simp)
  refine h_done (by kernel_rfl) ?_
  go_wp2_with fail
  go_ret
  exact ⟨one (vbool (by first | rfl | simp)), D0.out⟩
set_option maxRecDepth 100000 in
set_option maxHeartbeats 4000000 in
theorem mpn3 (f : FuncId) (k : Nat) (hat : AtP f k) (A : Nat) (b : Nat) (z : Int) (sa : Option Addr) (sn sc : Nat) (l : List UInt8) (w : World) (hz : w.cell? ⟨b, k, none⟩ = some (.int .i64 z)) (hl : Rd w sa sn sc l) (h2 : z ≤ 9223372036854775807) (hm : sn ≤ 140737488355000) (hA : w.cell? ⟨A, 0, none⟩ = some (.func (.func f) #[] #[])) :
    Calls Try.prog 51 #[.slice sa sn sc, .pointer (some ⟨b, 0, none⟩), .pointer (some ⟨A, 0, none⟩)] w fun x w' => ∃ v, x = .returned v ∧ Fr w' w.heap.size v (l ++ encZ z) ∧ Below w.heap.size w w' := by
  have HE := Lib.hid hat.ent
  have HT := Lib.hid hat.at'
  have EA := Lib.hid hA
  clear hat hA
  have EV := Lib.hid hz
  have HN := Lib.hid (pnum sa sn sc z l w hl h2 hm)
  have HL := Lib.hid hl.hlen
  have hzl := encZ_len z h2
  unfold encZ at hzl ⊢
  have he := HE.out
  have e1 := EA.out
  have e2 := EV.out
  clear hz hl
  go_enter Try.func51, Try.ntmps51
  go_wp2_with fail
  refine (HT.out b w).mono ?_
  rintro x w5 ⟨rfl, rfl⟩
  go_wp2_with fail
  refine HN.out.mono ?_
  rintro x w5 ⟨rfl, hk, hb, hs⟩
  have K5 := Lib.hid hk
  have B5 := Lib.hid hb
  clear hk hb hs
  go_wp2_with fail
  go_ret
  exact ⟨_, rfl, fr_of_blk K5.out (Nat.le_refl _) _ (by simp [HL.out]) (by omega), B5.out⟩
end Go.Proofs.Ytdcioeoofngibaa.W

namespace Go.Proofs.Ytdcioeoofngibaa.W
open Go Go.ChangeShapes Go.WideShapes Go.ChangeAt Go.RowKit
open Go.Proofs.Ytdcioeoofngibaa.P (enc dec)

theorem mpInt : (Try.prog.info? 3).map (·.size) = some 1 := by kernel_rfl
/-- of the old blocks only the reader's and the message's changed -/
abbrev F2 (r b : Nat) : Nat → Prop := fun g => g = r ∨ g = b
theorem Gw.ft {g : Nat} {F : Nat → Prop} {w w' : World} (h : Gw g w w') (hF : F g) : Ft F w w' := ⟨h.os, h.tape, h.output, h.size, fun k hk hn => h.block k hk fun e => hn (by rw [e]; exact hF)⟩
theorem textR_small (most : Int) (hm : most ≤ 140737488355000) (l : List UInt8) (e : Int) : (textR most l e).1.length ≤ 140737488355000 := by
  by_cases hz : (textR most l e).2.2 = 0
  · by_cases he3 : e = 0
    · subst he3; have := (text_back most l hz).2; omega
    · rw [textR_err he3] at hz; exact absurd hz he3
  · rw [textR_none hz]; decide
theorem NB.set {L : List Value} (h : NB L) (i : Nat) (v : Value) (hv : ∀ x : UInt8, B x ≠ v) : NB (L.set i v) := fun x hx => by
  rcases List.mem_or_eq_of_mem_set hx with h1 | h1
  · exact h x h1
  · exact hv x h1
set_option maxRecDepth 100000 in
set_option maxHeartbeats 4000000 in
theorem mpn4 (f : FuncId) (k : Nat) (hat : AtP f k) (A r b M : Nat) (L : List Value) (most : Int) (l : List UInt8) (e : Int) (w : World) (hA : w.cell? ⟨A, 0, none⟩ = some (.func (.func f) #[] #[])) (hM : w.cell? ⟨M, 0, none⟩ = some (.int .i64 most))
    (hL : Row w b 25 L) (hk : k < L.length) (hnb : NB L) (hr : RP w r l e) (hbr : b ≠ r) (hAr : A ≠ r) (hMr : M ≠ r) :
    Calls Try.prog 52 #[.pointer (some ⟨r, 0, none⟩), .pointer (some ⟨b, 0, none⟩), .pointer (some ⟨M, 0, none⟩), .pointer (some ⟨A, 0, none⟩)] w fun x w' => x = .returned (.tuple #[]) ∧ Row w' b 25 (L.set k (.int .i64 ((numR most l e).1 : Int))) ∧ RP w' r (numR most l e).2.1 (numR most l e).2.2 ∧ Ft (F2 r b) w w' := by
  have HE := Lib.hid hat.ent
  have HT := Lib.hid hat.at'
  have EA := Lib.hid hA
  have EM := Lib.hid hM
  have HAR := Lib.hid hAr
  have HMR := Lib.hid hMr
  have HBR := Lib.hid hbr
  have HK := Lib.hid hk
  have HNB := Lib.hid hnb
  have HR := Lib.hid hr
  have HL := Lib.hid hL
  clear hat hA hM hL hk hnb hr hbr hAr hMr
  go_enter Try.func52, Try.ntmps52
  go_wp2_with fail
  refine region_t (fun v => Gw r w v) 7 (by kernel_rfl) (by kernel_rfl) (by kernel_rfl) (Gw.of_below (Below.refl _ _).drew) ?_
  obtain ⟨wd, hwd⟩ : ∃ wd, w.drew = wd := ⟨_, rfl⟩
  have D0 : Hid (Gw r w wd) := Lib.hid (by rw [← hwd]; exact Gw.of_below (Below.refl _ _).drew)
  have P0 : Hid (RP wd r l e) := Lib.hid (by rw [← hwd]; exact HR.out.drew)
  have R0 : Hid (Row wd b 25 L) := Lib.hid (by rw [← hwd]; exact HL.out)
  rw [hwd]
  clear hwd
  (refine t_read 0 rfl (by kernel_rfl) (by kernel_rfl) (by kernel_rfl) (t_free rfl) ?_ ?_ ?_; rotate_left; (focus (intro v hv; have q0 := (hv.cell (p := ⟨A, 0, none⟩) (World.block_lt_of_cell? w _ EA.out) HAR.out).trans EA.out; have q2 := (hv.cell (p := ⟨M, 0, none⟩) (World.block_lt_of_cell? w _ EM.out) HMR.out).trans EM.out; go_simp; rfl)); go_simp)
  (refine t_read 1 rfl (by kernel_rfl) (by kernel_rfl) (by kernel_rfl) (t_free rfl) ?_ ?_ ?_; rotate_left; (focus (intro v hv; go_simp; rfl)); go_simp)
  (refine t_read 3 rfl (by kernel_rfl) (by kernel_rfl) (by kernel_rfl) (t_free rfl) ?_ ?_ ?_; rotate_left; (focus (intro v hv; go_simp; rfl)); go_simp)
  (refine t_read 4 rfl (by kernel_rfl) (by kernel_rfl) (by kernel_rfl) (t_free rfl) ?_ ?_ ?_; rotate_left; (focus (intro v hv; have q0 := (hv.cell (p := ⟨A, 0, none⟩) (World.block_lt_of_cell? w _ EA.out) HAR.out).trans EA.out; have q2 := (hv.cell (p := ⟨M, 0, none⟩) (World.block_lt_of_cell? w _ EM.out) HMR.out).trans EM.out; go_simp; rfl)); go_simp)
  (refine t_call 2 rfl (by kernel_rfl) rfl (t_free rfl) f ?_ ?_ ?_; rotate_left; (focus (go_simp; exact HE.out _ _)))
  refine (HT.out b wd).mono ?_
  rintro x w5 ⟨rfl, rfl⟩
  refine ⟨_, rfl, D0.out, ?_⟩
  go_simp
  (refine t_call 5 rfl (by kernel_rfl) rfl (t_free rfl) 25 ?_ ?_ ?_; rotate_left; (focus (go_simp; rfl)))
  refine (pnumR r most l e wd P0.out).mono ?_
  rintro x w5 ⟨rfl, hp, hu⟩
  have P5 := Lib.hid hp
  have G5 := Lib.hid (D0.out.trans (Gw.upd hu))
  have R5 := Lib.hid (R0.out.upd hu HBR.out)
  clear hp hu
  refine ⟨_, rfl, G5.out, ?_⟩
  go_simp
  (refine t_read 6 rfl (by kernel_rfl) (by kernel_rfl) (by kernel_rfl) (t_free rfl) ?_ ?_ ?_; rotate_left; (focus (intro v hv; go_simp; rfl)); go_simp)
  (refine t_last 7 rfl (by kernel_rfl) rfl (by kernel_rfl) (by kernel_rfl) ?_; intro K hK)
  refine store_cell rfl _ _ _ rfl b k (.int .i64 ((numR most l e).1 : Int)) (by go_simp) (by go_simp) rfl rfl 25 L R5.out mpInt HK.out ?_
  intro w6 hr6 hu6
  refine hK _ _ ?_
  have P6 := P5.out.put (Ne.symm HBR.out) R5.out HNB.out hu6
  have F6 := ((Gw.ft G5.out (.inl rfl) : Ft (F2 r b) w w5).trans (Ft.of_upd hu6 (.inr rfl)))
  go_simp
  refine bodyPost_end (results_none rfl _ _ _) rfl ?_
  exact ⟨rfl, hr6, P6, F6⟩
set_option maxRecDepth 100000 in
set_option maxHeartbeats 4000000 in
theorem mpy1 (b : Nat) (w : World) : Calls Try.prog 53 #[.pointer (some ⟨b, 0, none⟩)] w fun x w' => x = .returned (.bool true) ∧ Below w.heap.size w w' := by
  go_enter Try.func53, Try.ntmps53
  go_wp2_with fail
  go_ret
  exact ⟨rfl, Below.refl _ _⟩
set_option maxRecDepth 100000 in
set_option maxHeartbeats 4000000 in
theorem mpy2 (b b2 : Nat) (y1 y2 : Bool) (w : World) (h1 : w.cell? ⟨b, 9, none⟩ = some (.bool y1)) (h2 : w.cell? ⟨b2, 9, none⟩ = some (.bool y2)) :
    Calls Try.prog 54 #[.pointer (some ⟨b, 0, none⟩), .pointer (some ⟨b2, 0, none⟩)] w fun x w' => x = .returned (.bool (y1 == y2)) ∧ Below w.heap.size w w' := by
  have E1 := Lib.hid h1
  have E2 := Lib.hid h2
  clear h1 h2
  go_enter Try.func54, Try.ntmps54
  go_wp2_with fail
  refine region_h (fun v => Below w.heap.size w v) (by kernel_rfl) (by kernel_rfl) ((Below.refl _ _).drew) ?_
  obtain ⟨wd, hwd⟩ : ∃ wd, w.drew = wd := ⟨_, rfl⟩
  have D0 : Hid (Below w.heap.size w wd) := Lib.hid (by rw [← hwd]; exact (Below.refl _ _).drew)
  rw [hwd]
  clear hwd
  (refine h_read 0 rfl (by kernel_rfl) (by kernel_rfl) (h_free rfl) ?_ ?_ ?_; rotate_left; (focus (intro v hv; go_simp; rfl)); go_simp)
  (refine h_read 1 rfl (by kernel_rfl) (by kernel_rfl) (h_free rfl) ?_ ?_ ?_; rotate_left; (focus (intro v hv; go_simp; rfl)); go_simp)
  (refine h_read 2 rfl (by kernel_rfl) (by kernel_rfl) (h_free rfl) ?_ ?_ ?_; rotate_left; (focus (intro v hv; go_simp; rfl)); go_simp)
  (refine h_read 3 rfl (by kernel_rfl) (by kernel_rfl) (h_free rfl) ?_ ?_ ?_; rotate_left; (focus (intro v hv; have q1 := (hv.cell (p := ⟨b, 9, none⟩) (World.block_lt_of_cell? w _ E1.out)).trans E1.out; have q2 := (hv.cell (p := ⟨b2, 9, none⟩) (World.block_lt_of_cell? w _ E2.out)).trans E2.out; go_simp; rfl)); go_simp)
  (refine h_read 4 rfl (by kernel_rfl) (by kernel_rfl) (h_free rfl) ?_ ?_ ?_; rotate_left; (focus (intro v hv; go_simp; rfl)); go_simp)
  (refine h_read 5 rfl (by kernel_rfl) (by kernel_rfl) (h_free rfl) ?_ ?_ ?_; rotate_left; (focus (intro v hv; go_simp; rfl)); go_simp)
  (refine h_read 6 rfl (by kernel_rfl) (by kernel_rfl) (h_free rfl) ?_ ?_ ?_; rotate_left; (focus (intro v hv; go_simp; rfl)); go_simp)
  (refine h_read 7 rfl (by kernel_rfl) (by kernel_rfl) (h_free rfl) ?_ ?_ ?_; rotate_left; (focus (intro v hv; have q1 := (hv.cell (p := ⟨b, 9, none⟩) (World.block_lt_of_cell? w _ E1.out)).trans E1.out; have q2 := (hv.cell (p := ⟨b2, 9, none⟩) (World.block_lt_of_cell? w _ E2.out)).trans E2.out; go_simp; rfl)); go_simp)
  (refine h_read 8 rfl (by kernel_rfl) (by kernel_rfl) (h_free rfl) ?_ ?_ ?_; rotate_left; (focus (intro v hv; go_simp; rfl)); go_simp)
  (refine h_read 9 rfl (by kernel_rfl) (by kernel_rfl) (h_free rfl) ?_ ?_ ?_; rotate_left; (focus (intro v hv; go_simp; rfl)); go_simp)
  refine h_done (by kernel_rfl) ?_
  go_wp2_with fail
  go_ret
  exact ⟨one (vbool (by first | rfl | simp)), D0.out⟩
set_option maxRecDepth 100000 in
set_option maxHeartbeats 4000000 in
theorem mps2 (b b2 : Nat) (s1 s2 : ByteArray) (w : World) (h1 : w.cell? ⟨b, 12, none⟩ = some (.string s1)) (h2 : w.cell? ⟨b2, 12, none⟩ = some (.string s2)) :
    Calls Try.prog 76 #[.pointer (some ⟨b, 0, none⟩), .pointer (some ⟨b2, 0, none⟩)] w fun x w' => x = .returned (.bool (s1.toList == s2.toList)) ∧ Below w.heap.size w w' := by
  have E1 := Lib.hid h1
  have E2 := Lib.hid h2
  clear h1 h2
  go_enter Try.func76, Try.ntmps76
  go_wp2_with fail
  refine region_h (fun v => Below w.heap.size w v) (by kernel_rfl) (by kernel_rfl) ((Below.refl _ _).drew) ?_
  obtain ⟨wd, hwd⟩ : ∃ wd, w.drew = wd := ⟨_, rfl⟩
  have D0 : Hid (Below w.heap.size w wd) := Lib.hid (by rw [← hwd]; exact (Below.refl _ _).drew)
  rw [hwd]
  clear hwd
  (refine h_read 0 rfl (by kernel_rfl) (by kernel_rfl) (h_free rfl) ?_ ?_ ?_; rotate_left; (focus (intro v hv; go_simp; rfl)); go_simp)
  (refine h_read 1 rfl (by kernel_rfl) (by kernel_rfl) (h_free rfl) ?_ ?_ ?_; rotate_left; (focus (intro v hv; go_simp; rfl)); go_simp)
  (refine h_read 2 rfl (by kernel_rfl) (by kernel_rfl) (h_free rfl) ?_ ?_ ?_; rotate_left; (focus (intro v hv; go_simp; rfl)); go_simp)
  (refine h_read 3 rfl (by kernel_rfl) (by kernel_rfl) (h_free rfl) ?_ ?_ ?_; rotate_left; (focus (intro v hv; have q1 := (hv.cell (p := ⟨b, 12, none⟩) (World.block_lt_of_cell? w _ E1.out)).trans E1.out; have q2 := (hv.cell (p := ⟨b2, 12, none⟩) (World.block_lt_of_cell? w _ E2.out)).trans E2.out; go_simp; rfl)); go_simp)
  (refine h_read 4 rfl (by kernel_rfl) (by kernel_rfl) (h_free rfl) ?_ ?_ ?_; rotate_left; (focus (intro v hv; go_simp; rfl)); go_simp)
  (refine h_read 5 rfl (by kernel_rfl) (by kernel_rfl) (h_free rfl) ?_ ?_ ?_; rotate_left; (focus (intro v hv; go_simp; rfl)); go_simp)
  (refine h_read 6 rfl (by kernel_rfl) (by kernel_rfl) (h_free rfl) ?_ ?_ ?_; rotate_left; (focus (intro v hv; go_simp; rfl)); go_simp)
  (refine h_read 7 rfl (by kernel_rfl) (by kernel_rfl) (h_free rfl) ?_ ?_ ?_; rotate_left; (focus (intro v hv; have q1 := (hv.cell (p := ⟨b, 12, none⟩) (World.block_lt_of_cell? w _ E1.out)).trans E1.out; have q2 := (hv.cell (p := ⟨b2, 12, none⟩) (World.block_lt_of_cell? w _ E2.out)).trans E2.out; go_simp; rfl)); go_simp)
  (refine h_read 8 rfl (by kernel_rfl) (by kernel_rfl) (h_free rfl) ?_ ?_ ?_; rotate_left; (focus (intro v hv; go_simp; rfl)); go_simp)
  (refine h_read 9 rfl (by kernel_rfl) (by kernel_rfl) (h_free rfl) ?_ ?_ ?_; rotate_left; (focus (intro v hv; go_simp; rfl)); go_simp)
  refine h_done (by kernel_rfl) ?_
  go_wp2_with fail
  go_ret
  exact ⟨one (vbool (by first | rfl | simp)), D0.out⟩
set_option maxRecDepth 100000 in
set_option maxHeartbeats 4000000 in
theorem mpd2 (b b2 : Nat) (a1 a2 : Option Addr) (n1 n2 c1 c2 : Nat) (l1 l2 : List UInt8) (w : World) (h1 : w.cell? ⟨b, 11, none⟩ = some (.slice a1 n1 c1)) (h2 : w.cell? ⟨b2, 11, none⟩ = some (.slice a2 n2 c2)) (g1 : Rd w a1 n1 c1 l1) (g2 : Rd w a2 n2 c2 l2) :
    Calls Try.prog 69 #[.pointer (some ⟨b, 0, none⟩), .pointer (some ⟨b2, 0, none⟩)] w fun x w' => x = .returned (.bool (decide (l1 = l2))) ∧ Below w.heap.size w w' := by
  have E1 := Lib.hid h1
  have E2 := Lib.hid h2
  have H1 := Lib.hid g1
  have H2 := Lib.hid g2
  obtain ⟨V, hV⟩ : ∃ V, decide (l1 = l2) = V := ⟨_, rfl⟩
  rw [hV]
  have HV := Lib.hid hV
  clear g1 g2 hV
  clear h1 h2
  go_enter Try.func69, Try.ntmps69
  go_wp2_with fail
  refine region_h (fun v => Below w.heap.size w v) (by kernel_rfl) (by kernel_rfl) ((Below.refl _ _).drew) ?_
  obtain ⟨wd, hwd⟩ : ∃ wd, w.drew = wd := ⟨_, rfl⟩
  have D0 : Hid (Below w.heap.size w wd) := Lib.hid (by rw [← hwd]; exact (Below.refl _ _).drew)
  rw [hwd]
  clear hwd
  (refine h_read 0 rfl (by kernel_rfl) (by kernel_rfl) (h_free rfl) ?_ ?_ ?_; rotate_left; (focus (intro v hv; go_simp; rfl)); go_simp)
  (refine h_read 1 rfl (by kernel_rfl) (by kernel_rfl) (h_free rfl) ?_ ?_ ?_; rotate_left; (focus (intro v hv; go_simp; rfl)); go_simp)
  (refine h_read 2 rfl (by kernel_rfl) (by kernel_rfl) (h_free rfl) ?_ ?_ ?_; rotate_left; (focus (intro v hv; go_simp; rfl)); go_simp)
  (refine h_read 3 rfl (by kernel_rfl) (by kernel_rfl) (h_free rfl) ?_ ?_ ?_; rotate_left; (focus (intro v hv; have q1 := (hv.cell (p := ⟨b, 11, none⟩) (World.block_lt_of_cell? w _ E1.out)).trans E1.out; have q2 := (hv.cell (p := ⟨b2, 11, none⟩) (World.block_lt_of_cell? w _ E2.out)).trans E2.out; go_simp; rfl)); go_simp)
  (refine h_read 4 rfl (by kernel_rfl) (by kernel_rfl) (h_free rfl) ?_ ?_ ?_; rotate_left; (focus (intro v hv; go_simp; rfl)); go_simp)
  (refine h_read 5 rfl (by kernel_rfl) (by kernel_rfl) (h_free rfl) ?_ ?_ ?_; rotate_left; (focus (intro v hv; go_simp; rfl)); go_simp)
  (refine h_read 6 rfl (by kernel_rfl) (by kernel_rfl) (h_free rfl) ?_ ?_ ?_; rotate_left; (focus (intro v hv; go_simp; rfl)); go_simp)
  (refine h_read 7 rfl (by kernel_rfl) (by kernel_rfl) (h_free rfl) ?_ ?_ ?_; rotate_left; (focus (intro v hv; have q1 := (hv.cell (p := ⟨b, 11, none⟩) (World.block_lt_of_cell? w _ E1.out)).trans E1.out; have q2 := (hv.cell (p := ⟨b2, 11, none⟩) (World.block_lt_of_cell? w _ E2.out)).trans E2.out; go_simp; rfl)); go_simp)
  (refine h_call 8 rfl (by kernel_rfl) (h_free rfl) 70 ?_ ?_ ?_; rotate_left; (focus (go_simp; rfl)))
  refine (bequal a1 a2 n1 c1 n2 c2 l1 l2 wd (H1.out.mono D0.out) (H2.out.mono D0.out)).mono ?_
  rw [HV.out]
  rintro x w5 ⟨rfl, rfl⟩
  refine ⟨_, rfl, D0.out, ?_⟩
  go_simp
  (refine h_read 9 rfl (by kernel_rfl) (by kernel_rfl) (h_free rfl) ?_ ?_ ?_; rotate_left; (focus (intro v hv; go_simp; rfl)); go_simp)
  refine h_done (by kernel_rfl) ?_
  go_wp2_with fail
  go_ret
  exact ⟨rfl, D0.out⟩
set_option maxRecDepth 100000 in
set_option maxHeartbeats 4000000 in
theorem mpy3 (b : Nat) (y : Bool) (sa : Option Addr) (sn sc : Nat) (l : List UInt8) (w : World) (hz : w.cell? ⟨b, 9, none⟩ = some (.bool y)) (hl : Rd w sa sn sc l) (hm : sn ≤ 70000000000000) :
    Calls Try.prog 55 #[.slice sa sn sc, .pointer (some ⟨b, 0, none⟩)] w fun x w' => ∃ v, x = .returned v ∧ Fr w' w.heap.size v (l ++ [if y then 1 else 0]) ∧ Below w.heap.size w w' := by
  have HN := Lib.hid (pyes sa sn sc y l w hl (by omega))
  obtain ⟨u, hu⟩ : ∃ u : List UInt8, [if y then 1 else 0] = u := ⟨_, rfl⟩
  have hul : u.length = 1 := by rw [← hu]; rfl
  rw [hu] at HN ⊢
  clear hu
  have HL := Lib.hid hl.hlen
  clear hl
  go_enter Try.func55, Try.ntmps55
  go_wp2_with (go_at_call 56; refine HN.out.mono ?_; rintro x w5 ⟨rfl, hk, hb, hs⟩; have K5 := Lib.hid hk; have B5 := Lib.hid hb; clear hk hb hs)
  go_ret
  exact ⟨_, rfl, fr_of_blk K5.out (Nat.le_refl _) _ (by simp [HL.out, hul]) (by omega), B5.out⟩
set_option maxRecDepth 100000 in
set_option maxHeartbeats 4000000 in
theorem mps3 (b : Nat) (s : ByteArray) (sa : Option Addr) (sn sc : Nat) (l : List UInt8) (w : World) (hz : w.cell? ⟨b, 12, none⟩ = some (.string s)) (hl : Rd w sa sn sc l) (hs : s.size ≤ 70000000000000) (hm : sn ≤ 70000000000000) :
    Calls Try.prog 77 #[.slice sa sn sc, .pointer (some ⟨b, 0, none⟩)] w fun x w' => ∃ v, x = .returned v ∧ Fr w' w.heap.size v (l ++ (enc s.size ++ s.data.toList)) ∧ Below w.heap.size w w' := by
  have HN := Lib.hid (ptext sa sn sc s l w hl hs hm)
  have HEL := P.enc_len s.size (by omega)
  have HL := Lib.hid hl.hlen
  clear hl
  go_enter Try.func77, Try.ntmps77
  go_wp2_with (go_at_call 72; refine HN.out.mono ?_; rintro x w5 ⟨rfl, hk, hb, hs⟩; have K5 := Lib.hid hk; have B5 := Lib.hid hb; clear hk hb hs)
  go_ret
  have h5 : s.data.toList.length = s.size := rfl
  exact ⟨_, rfl, fr_of_blk K5.out (Nat.le_refl _) _ (by simp only [List.length_append, HL.out, h5]) (by omega), B5.out⟩
set_option maxRecDepth 100000 in
set_option maxHeartbeats 4000000 in
theorem mpd1 (b : Nat) (a : Option Addr) (n c : Nat) (w : World) (hz : w.cell? ⟨b, 11, none⟩ = some (.slice a n c)) :
    Calls Try.prog 68 #[.pointer (some ⟨b, 0, none⟩)] w fun x w' => x = .returned (.bool (decide (n ≤ 131072))) ∧ Below w.heap.size w w' := by
  go_enter Try.func68, Try.ntmps68
  go_wp2_with fail
  go_ret
  exact ⟨one (vbool (by rw [decide_eq_decide]; omega)), Below.refl _ _⟩
set_option maxRecDepth 100000 in
set_option maxHeartbeats 4000000 in
theorem mps1 (b : Nat) (s : ByteArray) (w : World) (hz : w.cell? ⟨b, 12, none⟩ = some (.string s)) :
    Calls Try.prog 75 #[.pointer (some ⟨b, 0, none⟩)] w fun x w' => x = .returned (.bool (decide (s.data.toList.length = 0) || decide (s.data.toList.length = 32))) ∧ Below w.heap.size w w' := by
  have h5 : s.data.toList.length = s.size := rfl
  rw [h5]
  have hq : (s.toList == []) = decide (s.size = 0) := by
    rw [Bool.eq_iff_iff]
    simp only [beq_iff_eq, decide_eq_true_eq]
    constructor
    · intro h; have := congrArg List.length h; rw [ByteArray.toList_eq] at this; simpa using this
    · intro h; rw [ByteArray.toList_eq]; exact List.eq_nil_of_length_eq_zero h
  obtain ⟨z, hz0⟩ : ∃ z, decide (s.size = 0) = z := ⟨_, rfl⟩
  rw [hz0] at hq ⊢
  cases z
  · have hn : ¬ s.size = 0 := of_decide_eq_false hz0
    go_enter Try.func75, Try.ntmps75
    go_wp2_with fail
    all_goals go_ret
    all_goals exact ⟨one (vbool (by first | rfl | (simp; omega) | (rw [Bool.eq_iff_iff]; simp; omega))), Below.refl _ _⟩
  · go_enter Try.func75, Try.ntmps75
    go_wp2_with fail
    all_goals go_ret
    all_goals exact ⟨one (vbool (by first | rfl | simp)), Below.refl _ _⟩
set_option maxRecDepth 100000 in
set_option maxHeartbeats 4000000 in
theorem mpy4 (r b : Nat) (L : List Value) (l : List UInt8) (e : Int) (w : World) (hL : Row w b 25 L) (hk : 9 < L.length) (hnb : NB L) (hr : RP w r l e) (hbr : b ≠ r) :
    Calls Try.prog 57 #[.pointer (some ⟨r, 0, none⟩), .pointer (some ⟨b, 0, none⟩)] w fun x w' => x = .returned (.tuple #[]) ∧ Row w' b 25 (L.set 9 (.bool (yesR l e).1)) ∧ RP w' r (yesR l e).2.1 (yesR l e).2.2 ∧ Ft (F2 r b) w w' := by
  have HBR := Lib.hid hbr
  have HNB := Lib.hid hnb
  have HR := Lib.hid hr
  have HL := Lib.hid hL
  obtain ⟨vk, hvk⟩ : ∃ v, L[9]? = some v := ⟨_, List.getElem?_eq_getElem hk⟩
  have HVK := Lib.hid hvk
  clear hL hk hnb hr hbr hvk
  go_enter Try.func57, Try.ntmps57
  go_wp2_with fail
  refine (pyesR r l e w HR.out).mono ?_
  rintro x w5 ⟨rfl, hp, hu⟩
  have P5 := Lib.hid hp
  have G5 : Hid (Ft (F2 r b) w w5) := Lib.hid (Ft.of_upd hu (.inl rfl))
  have R5 := Lib.hid (HL.out.upd hu HBR.out)
  clear hp hu
  have xk : w5.cell? ⟨b, 9, none⟩ = some vk := by rw [R5.out.cellV]; exact HVK.out
  have fk := R5.out.frozen 9
  go_wp2_with fail
  have hr6 := R5.out.setV 9 (.bool (yesR l e).1)
  have hu6 := Upd.setCell w5 b 9 (.bool (yesR l e).1)
  have P6 := P5.out.put (Ne.symm HBR.out) R5.out HNB.out hu6
  have F6 := (G5.out.trans (Ft.of_upd hu6 (.inr rfl)))
  clear xk fk
  go_end0
  exact ⟨rfl, hr6, P6, F6⟩
set_option maxRecDepth 100000 in
set_option maxHeartbeats 4000000 in
theorem mps4 (r b : Nat) (L : List Value) (l : List UInt8) (e : Int) (w : World) (hL : Row w b 25 L) (hk : 12 < L.length) (hnb : NB L) (hr : RP w r l e) (hbr : b ≠ r) :
    Calls Try.prog 78 #[.pointer (some ⟨r, 0, none⟩), .pointer (some ⟨b, 0, none⟩)] w fun x w' => x = .returned (.tuple #[]) ∧ Row w' b 25 (L.set 12 (.string (str (textR 32 l e).1))) ∧ RP w' r (textR 32 l e).2.1 (textR 32 l e).2.2 ∧ Ft (F2 r b) w w' := by
  have HBR := Lib.hid hbr
  have HNB := Lib.hid hnb
  have HR := Lib.hid hr
  have HL := Lib.hid hL
  obtain ⟨vk, hvk⟩ : ∃ v, L[12]? = some v := ⟨_, List.getElem?_eq_getElem hk⟩
  have HVK := Lib.hid hvk
  clear hL hk hnb hr hbr hvk
  go_enter Try.func78, Try.ntmps78
  go_wp2_with fail
  refine (ptextR r 32 l e w HR.out).mono ?_
  rintro x w5 ⟨rfl, hp, hu⟩
  have P5 := Lib.hid hp
  have G5 : Hid (Ft (F2 r b) w w5) := Lib.hid (Ft.of_upd hu (.inl rfl))
  have R5 := Lib.hid (HL.out.upd hu HBR.out)
  clear hp hu
  have xk : w5.cell? ⟨b, 12, none⟩ = some vk := by rw [R5.out.cellV]; exact HVK.out
  have fk := R5.out.frozen 12
  go_wp2_with fail
  have hr6 := R5.out.setV 12 (.string (str (textR 32 l e).1))
  have hu6 := Upd.setCell w5 b 12 (.string (str (textR 32 l e).1))
  have P6 := P5.out.put (Ne.symm HBR.out) R5.out HNB.out hu6
  have F6 := (G5.out.trans (Ft.of_upd hu6 (.inr rfl)))
  clear xk fk
  go_end0
  exact ⟨rfl, hr6, P6, F6⟩
set_option maxRecDepth 100000 in
set_option maxHeartbeats 4000000 in
theorem mpd4 (r b : Nat) (L : List Value) (l : List UInt8) (e : Int) (w : World) (hL : Row w b 25 L) (hk : 11 < L.length) (hnb : NB L) (hr : RP w r l e) (hbr : b ≠ r) :
    Calls Try.prog 73 #[.pointer (some ⟨r, 0, none⟩), .pointer (some ⟨b, 0, none⟩)] w fun x w' => ∃ a c, x = .returned (.tuple #[]) ∧ Row w' b 25 (L.set 11 (.slice a (textR 131072 l e).1.length c)) ∧ Rd w' a (textR 131072 l e).1.length c (textR 131072 l e).1 ∧ RP w' r (textR 131072 l e).2.1 (textR 131072 l e).2.2 ∧ Ft (F2 r b) w w' := by
  have HBR := Lib.hid hbr
  have HNB := Lib.hid hnb
  have HR := Lib.hid hr
  have HL := Lib.hid hL
  obtain ⟨vk, hvk⟩ : ∃ v, L[11]? = some v := ⟨_, List.getElem?_eq_getElem hk⟩
  have HVK := Lib.hid hvk
  have htx := textR_small 131072 (by omega) l e
  obtain ⟨t4, ht4⟩ : ∃ t4, str (textR 131072 l e).1 = t4 := ⟨_, rfl⟩
  have htz : t4.data.toList = (textR 131072 l e).1 := by rw [← ht4]; rfl
  have hts : t4.size ≤ 140737488355000 := by
    have hq : t4.size = (textR 131072 l e).1.length := by rw [← htz]; simp
    rw [hq]; exact htx
  have HT := Lib.hid ht4
  have HTZ := Lib.hid htz
  have HTS := Lib.hid hts
  clear htx ht4 htz hts
  clear hL hk hnb hr hbr hvk
  go_enter Try.func73, Try.ntmps73
  go_wp2_with fail
  refine (ptextR r 131072 l e w HR.out).mono ?_
  rw [HT.out]
  rintro x w4 ⟨rfl, hp, hu⟩
  have P4 := Lib.hid hp
  have G4 : Hid (Ft (F2 r b) w w4) := Lib.hid (Ft.of_upd hu (.inl rfl))
  have R4 := Lib.hid (HL.out.upd hu HBR.out)
  clear hp hu
  go_wp2_with ((with_reducible refine conv_frx (o := ⟨some 7, _, _, _, _, _⟩) rfl _ rfl t4 ?_ ?_ ?_); (focus go_simp); (focus (have := HTS.out; unfold maxLen; omega)); intro w5 v8 hf8 hb8; rw [HTZ.out] at hf8; obtain ⟨a8, c8, hv8, hr8⟩ := hf8.form' (textR 131072 l e).1.length rfl; subst hv8; have R8 := Lib.hid hr8; have P5 := Lib.hid (P4.out.mono hb8); have R5 := Lib.hid (R4.out.below hb8 R4.out.lt); have G5 : Hid (Ft (F2 r b) w w5) := Lib.hid (G4.out.trans (Ft.of_below hb8)); have xk : w5.cell? ⟨b, 11, none⟩ = some vk := (by rw [R5.out.cellV]; exact HVK.out); have fk := R5.out.frozen 11; clear hf8 hb8 hr8)
  have hr6 := R5.out.setV 11 (.slice a8 (textR 131072 l e).1.length c8)
  have hu6 := Upd.setCell w5 b 11 (.slice a8 (textR 131072 l e).1.length c8)
  have P6 := P5.out.put (Ne.symm HBR.out) R5.out HNB.out hu6
  have F6 := (G5.out.trans (Ft.of_upd hu6 (.inr rfl)))
  have R9 := R8.out.put R5.out HNB.out hu6
  clear xk fk
  go_end0
  exact ⟨a8, c8, rfl, hr6, R9, P6, F6⟩
end Go.Proofs.Ytdcioeoofngibaa.W

namespace Go.Proofs.Ytdcioeoofngibaa.W
open Go Go.ChangeShapes Go.WideShapes Go.ChangeAt Go.RowKit
open Go.Proofs.Ytdcioeoofngibaa.P (enc dec)

@[reducible] def enE : El En := ⟨22, 40, 4, 48, .agg #[.int .i64 0, .int .i64 0, .int .i64 0, .slice none 0 0], En.cells, fun _ _ => True⟩
theorem enEOk : enE.Ok Try.prog where
  und := Try.underlying22
  info := by kernel_rfl
  zs := rfl
  pos := by decide
  len := fun _ => rfl
  one := fun s v hv => cells_one s v hv
  mono := fun _ _ _ h _ => h
  small := by decide
theorem enNb : enE.Nb where
  z := by intro x hx; simp [Value.cells, B] at hx
  c := by intro s x hx; simp [En.cells, B] at hx
  p := by decide
theorem en_fill (y : En) : Instr.fill (fun i => some (i * enE.k, enE.k)) ((Array.range (1 * enE.k)).map (enE.z.cells[· % enE.z.cells.size]!)) [(0, .agg (enE.cells y).toArray)] = some (enE.cells y).toArray := by
  obtain ⟨ix, tm, kd, a, n, c⟩ := y
  kernel_rfl
/-- may they be -/
def entsOk (n : Nat) (L : List (En × List UInt8)) : Bool := decide (n ≤ 8) && L.all (fun p => enOk p.1)
set_option maxRecDepth 100000 in
set_option maxHeartbeats 8000000 in
theorem mpfit (a : Option Addr) (n c : Nat) (L : List (En × List UInt8)) (w : World) (h : Ents w a n c L) :
    Calls Try.prog 60 #[.slice a n c] w fun x w' => x = .returned (.bool (entsOk n L)) ∧ Below w.heap.size w w' := by
  have H := Lib.hid h
  have HL := Lib.hid h.hlen
  have EZ := Lib.hid en_zero
  have ES := Lib.hid en_size
  clear h
  by_cases h8 : n ≤ 8
  · obtain ⟨V, hV⟩ : ∃ V, L.all (fun p => enOk p.1) = V := ⟨_, rfl⟩
    have hE : entsOk n L = V := by unfold entsOk; rw [decide_eq_true h8, hV]; rfl
    rw [hE]
    have HV := Lib.hid hV
    have g8 : ¬ (8 : Int) < (n : Int) := by omega
    clear hV hE
    go_enter Try.func60, Try.ntmps60
    go_wp2_with fail
    go_loopw [10] (fun i wr => ∃ k : Nat, i = .int .i64 (k : Int) ∧ k ≤ n ∧ Hid ((L.take k).all (fun p => enOk p.1) = true) ∧ Hid (Below w.heap.size w wr)) (fun i _ => n - (intOf i).toNat)
    case atStart => exact ⟨0, rfl, Nat.zero_le _, Lib.hid rfl, Lib.hid (Below.refl _ _)⟩
    case round =>
      obtain ⟨k, rfl, hk, P, B⟩ := hrel
      by_cases hlt : k < n
      · obtain ⟨x1, o1, rfl, hx1, hf1, hk1⟩ := H.out.at B.out k hlt
        obtain ⟨⟨e1, l1⟩, hq1⟩ : ∃ y, L.getD k Ez = y := ⟨_, rfl⟩
        have hnx := ms_next L (fun p => enOk p.1) k Ez _ hk1 hq1 P.out
        have hno := ms_not L (fun p => enOk p.1) k Ez _ hk1 hq1
        rw [hq1] at hx1 hf1
        dsimp only at hx1 hf1 hnx hno
        have X1 := Lib.hid hx1
        obtain ⟨ok, hok⟩ : ∃ ok, enOk e1 = ok := ⟨_, rfl⟩
        have HOK := Lib.hid hok
        have g1 : (0 : Int) ≤ (k : Int) := by omega
        have g2 : (k : Int) < (n : Int) := by omega
        rw [hok] at hnx hno
        clear hx1 hf1 hq1 hk1 hok
        cases ok
        · have HN := Lib.hid (hno rfl)
          clear hnx hno
          go_wp2_with (first
            | ((with_reducible refine load_cells (o := ⟨some 13, _, _, _, _, _⟩) rfl _ _ rfl x1 (o1 + k * 4) ?_ e1.cells _ X1.out Try.underlying40 rfl ?_ ?_); (focus go_simp); (focus (exact ES.out)))
            | ((with_reducible refine alloc_row (o := ⟨some 4, _, _, _, _, _⟩) rfl _ rfl _ EZ.out ?_); intro w1 hr hb hz; have A1 := Lib.hid hr; have B1 := Lib.hid hb; clear hr hb hz)
            | ((with_reducible refine store_row (o := ⟨none, _, _, _, _, _⟩) rfl _ (.tmp 4) _ rfl wr.heap.size e1.cells ?_ ?_ 40 _ A1.out ?_ ?_ (cells_one _) ?_); (focus go_simp); (focus (first | (go_simp; done) | (go_simp; rfl))); (focus (exact ES.out)); (focus rfl); intro w2 hr hu; have A2 := Lib.hid hr; have B2 := Lib.hid (B1.out.trans (hu.below (Nat.le_refl _))); clear hr hu)
            | ((with_reducible refine load_row (o := ⟨some 14, _, _, _, _, _⟩) rfl _ _ rfl wr.heap.size ?_ _ e1.cells _ A2.out Try.underlying40 rfl ?_ ?_); (focus go_simp); (focus (exact ES.out)))
            | (go_at_call 79; refine (rentry e1 w2).mono ?_; rw [HOK.out]; rintro x w5 ⟨rfl, hb5⟩; have B5 := Lib.hid ((B.out.trans (B2.out.mono B.out.size)).trans (hb5.mono (Nat.le_trans B.out.size B2.out.size))); clear hb5))
          go_ret
          exact ⟨one (vbool (by rw [← HV.out]; exact HN.out.symm)), B5.out⟩
        · have HN := Lib.hid (hnx rfl)
          clear hnx hno
          go_wp2_with (first
            | ((with_reducible refine load_cells (o := ⟨some 13, _, _, _, _, _⟩) rfl _ _ rfl x1 (o1 + k * 4) ?_ e1.cells _ X1.out Try.underlying40 rfl ?_ ?_); (focus go_simp); (focus (exact ES.out)))
            | ((with_reducible refine alloc_row (o := ⟨some 4, _, _, _, _, _⟩) rfl _ rfl _ EZ.out ?_); intro w1 hr hb hz; have A1 := Lib.hid hr; have B1 := Lib.hid hb; clear hr hb hz)
            | ((with_reducible refine store_row (o := ⟨none, _, _, _, _, _⟩) rfl _ (.tmp 4) _ rfl wr.heap.size e1.cells ?_ ?_ 40 _ A1.out ?_ ?_ (cells_one _) ?_); (focus go_simp); (focus (first | (go_simp; done) | (go_simp; rfl))); (focus (exact ES.out)); (focus rfl); intro w2 hr hu; have A2 := Lib.hid hr; have B2 := Lib.hid (B1.out.trans (hu.below (Nat.le_refl _))); clear hr hu)
            | ((with_reducible refine load_row (o := ⟨some 14, _, _, _, _, _⟩) rfl _ _ rfl wr.heap.size ?_ _ e1.cells _ A2.out Try.underlying40 rfl ?_ ?_); (focus go_simp); (focus (exact ES.out)))
            | (go_at_call 79; refine (rentry e1 w2).mono ?_; rw [HOK.out]; rintro x w5 ⟨rfl, hb5⟩; have B5 := Lib.hid ((B.out.trans (B2.out.mono B.out.size)).trans (hb5.mono (Nat.le_trans B.out.size B2.out.size))); clear hb5))
          go_roundw
          case rel => exact ⟨k + 1, vint (by omega), by omega, HN, B5⟩
          case measure => simp [intOf]; omega
      · obtain rfl : n = k := by omega
        have hp := P.out
        rw [List.take_of_length_le (by rw [HL.out]; exact Nat.le_refl _)] at hp
        have HP := Lib.hid hp
        clear hp
        go_wp2_with fail
        go_ret
        exact ⟨one (vbool (by rw [← HV.out]; exact HP.out.symm)), B.out⟩
  · have hE : entsOk n L = false := by unfold entsOk; rw [decide_eq_false h8]; rfl
    rw [hE]
    have g8 : (8 : Int) < (n : Int) := by omega
    clear hE
    go_enter Try.func60, Try.ntmps60
    go_wp2_with fail
    go_ret
    exact ⟨rfl, Below.refl _ _⟩
-- ---- put
theorem codes_len (L : List (En × List UInt8)) (hok : ∀ p ∈ L, enOk p.1 = true) (w : World) (hf : ∀ p ∈ L, EnF w p.1 p.2) : (L.flatMap (fun p => codeE p.1 p.2)).length ≤ L.length * 4132 := by
  induction L with
  | nil => simp
  | cons p L ih =>
    have i1 := ih (fun q hq => hok q (by simp [hq])) (fun q hq => hf q (by simp [hq]))
    have h1 := enOk_facts (hok p (by simp))
    have h2 := (hf p (by simp)).rd.hlen
    have e1 := encZ_len p.1.ix (by omega)
    have e2 := encZ_len p.1.tm (by omega)
    have e3 := encZ_len p.1.kd (by omega)
    have e4 := P.enc_len p.2.length (by omega)
    rw [List.flatMap_cons, List.length_append, List.length_cons]
    have : (codeE p.1 p.2).length ≤ 4132 := by
      unfold codeE
      simp only [List.flatMap_cons, List.flatMap_nil, List.length_append, List.length_nil]
      omega
    omega
theorem codes_next (L : List (En × List UInt8)) (k : Nat) (hk : k < L.length) (e : En) (l : List UInt8) (h : L.getD k Ez = (e, l)) : (L.take (k + 1)).flatMap (fun p => codeE p.1 p.2) = (L.take k).flatMap (fun p => codeE p.1 p.2) ++ codeE e l := by
  have h1 : L.take (k + 1) = L.take k ++ [L.getD k Ez] := by
    rw [List.take_succ_eq_append_getElem hk]; simp [List.getD_eq_getElem?_getD, hk]
  rw [h1, h, List.flatMap_append]
  simp
set_option maxRecDepth 100000 in
set_option maxHeartbeats 8000000 in
theorem mpput (sa : Option Addr) (sn sc : Nat) (S : List UInt8) (a : Option Addr) (n c : Nat) (L : List (En × List UInt8)) (w : World) (hS : Rd w sa sn sc S) (hsn : sn ≤ 100000) (h : Ents w a n c L) (h8 : n ≤ 8) (hok : ∀ p ∈ L, enOk p.1 = true) :
    Calls Try.prog 65 #[.slice sa sn sc, .slice a n c] w fun x w' => ∃ v, x = .returned v ∧ Fr w' w.heap.size v (S ++ (enc n ++ L.flatMap (fun p => codeE p.1 p.2))) ∧ Below w.heap.size w w' := by
  have H := Lib.hid h
  have HL := Lib.hid h.hlen
  have EZ := Lib.hid en_zero
  have ES := Lib.hid en_size
  have HN := Lib.hid (pnum sa sn sc n S w hS (by omega) (by omega))
  have HSL := Lib.hid hS.hlen
  have HOK := Lib.hid hok
  have hel := P.enc_len n (by omega)
  have hlens : ∀ k, ((L.take k).flatMap (fun p => codeE p.1 p.2)).length ≤ 8 * 4132 := fun k => by
    have := codes_len (L.take k) (fun p hp => hok p (List.mem_of_mem_take hp)) w (fun p hp => h.hfit p (List.mem_of_mem_take hp))
    have h2 : (L.take k).length ≤ 8 := by rw [List.length_take, h.hlen]; omega
    have := Nat.mul_le_mul_right 4132 h2
    omega
  have HLS := Lib.hid hlens
  have HF : Hid (S ++ (enc n ++ L.flatMap (fun p => codeE p.1 p.2)) = (S ++ enc n) ++ L.flatMap (fun p => codeE p.1 p.2)) := Lib.hid (by simp)
  rw [show ((n : Int)).toNat = n by omega] at HN
  obtain ⟨T, hT⟩ : ∃ T, S ++ enc n = T := ⟨_, rfl⟩
  have hTl : T.length = sn + (enc n).length := by rw [← hT, List.length_append, HSL.out]
  rw [hT] at HN HF
  rw [HF.out]
  obtain ⟨m1, hm1⟩ : ∃ m, (enc n).length = m := ⟨_, rfl⟩
  rw [hm1] at HN hTl hel
  obtain ⟨Z, hZ⟩ : ∃ Z, T ++ L.flatMap (fun p => codeE p.1 p.2) = Z := ⟨_, rfl⟩
  rw [hZ]
  have HZ := Lib.hid hZ
  clear h hS hok hlens hT hm1 hZ HF
  go_enter Try.func65, Try.ntmps65
  go_wp2_with (go_at_call 23; refine HN.out.mono ?_; rintro x w1 ⟨rfl, hk, hb, hs⟩; have F1 := Lib.hid (fr_of_blk hk (Nat.le_refl _) _ hTl (by omega)); have B1 := Lib.hid hb; clear hk hb hs)
  go_loopw [0, 13] (fun v i wr => ∃ k : Nat, i = .int .i64 (k : Int) ∧ k ≤ n ∧ Hid (Fr wr w.heap.size v (T ++ (L.take k).flatMap (fun p => codeE p.1 p.2))) ∧ Hid (Below w.heap.size w wr)) (fun _ i _ => n - (intOf i).toNat)
  case atStart => exact ⟨0, rfl, Nat.zero_le _, Lib.hid (by simpa using F1.out), B1⟩
  case round =>
    obtain ⟨k, rfl, hk, F, B⟩ := hrel
    by_cases hlt : k < n
    · obtain ⟨x1, o1, rfl, hx1, hf1, hk1⟩ := H.out.at B.out k hlt
      obtain ⟨⟨e1, l1⟩, hq1⟩ : ∃ y, L.getD k Ez = y := ⟨_, rfl⟩
      have hnx := codes_next L k hk1 e1 l1 hq1
      have ho1 := HOK.out (L.getD k Ez) (by rw [List.getD_eq_getElem?_getD, List.getElem?_eq_getElem hk1]; exact List.getElem_mem hk1)
      have hls := HLS.out k
      rw [hq1] at hx1 hf1 ho1
      dsimp only at hx1 hf1 ho1
      obtain ⟨Q, hQ⟩ : ∃ Q, T ++ (L.take k).flatMap (fun p => codeE p.1 p.2) = Q := ⟨_, rfl⟩
      have hQl : Q.length ≤ 190000 := by rw [← hQ, List.length_append, hTl]; omega
      have hQ2 : T ++ (L.take (k + 1)).flatMap (fun p => codeE p.1 p.2) = Q ++ codeE e1 l1 := by rw [hnx, ← hQ, List.append_assoc]
      have X1 := Lib.hid hx1
      have F1' := Lib.hid hf1
      have HPE := Lib.hid (show putE Q e1 l1 = Q ++ codeE e1 l1 by unfold putE; rw [ho1, if_pos rfl])
      have HQ2 := Lib.hid hQ2
      rw [hQ] at F
      obtain ⟨qn, hqn⟩ : ∃ q, Q.length = q := ⟨_, rfl⟩
      obtain ⟨av, cv, hv, hrv⟩ := F.out.form' qn hqn
      subst hv
      have RV := Lib.hid hrv
      rw [hqn] at hQl
      have g1 : (0 : Int) ≤ (k : Int) := by omega
      have g2 : (k : Int) < (n : Int) := by omega
      clear hx1 hf1 hq1 hk1 hls ho1 hnx hQ hQ2 hqn hrv
      go_wp2_with (first
        | ((with_reducible refine load_cells (o := ⟨some 16, _, _, _, _, _⟩) rfl _ _ rfl x1 (o1 + k * 4) ?_ e1.cells _ X1.out Try.underlying40 rfl ?_ ?_); (focus go_simp); (focus (exact ES.out)))
        | ((with_reducible refine alloc_row (o := ⟨some 6, _, _, _, _, _⟩) rfl _ rfl _ EZ.out ?_); intro w1 hr hb hz; have A1 := Lib.hid hr; have B1 := Lib.hid hb; clear hr hb hz)
        | ((with_reducible refine store_row (o := ⟨none, _, _, _, _, _⟩) rfl _ (.tmp 6) _ rfl wr.heap.size e1.cells ?_ ?_ 40 _ A1.out ?_ ?_ (cells_one _) ?_); (focus go_simp); (focus (first | (go_simp; done) | (go_simp; rfl))); (focus (exact ES.out)); (focus rfl); intro w2 hr hu; have A2 := Lib.hid hr; have B2 := Lib.hid (B1.out.trans (hu.below (Nat.le_refl _))); clear hr hu)
        | ((with_reducible refine load_row (o := ⟨some 18, _, _, _, _, _⟩) rfl _ _ rfl wr.heap.size ?_ _ e1.cells _ A2.out Try.underlying40 rfl ?_ ?_); (focus go_simp); (focus (exact ES.out)))
        | (go_at_call 80; refine (rputE av qn cv Q e1 l1 w2 (RV.out.mono B2.out) hQl (F1'.out.rd.mono B2.out)).mono ?_; rw [HPE.out]; rintro x w5 ⟨v5, rfl, hf5, hb5⟩; have F5 := Lib.hid (hf5.base (Nat.le_trans B.out.size B2.out.size)); have B5 := Lib.hid ((B.out.trans (B2.out.mono B.out.size)).trans (hb5.mono (Nat.le_trans B.out.size B2.out.size))); clear hb5 hf5))
      go_roundw
      case rel => exact ⟨k + 1, vint (by omega), by omega, Lib.hid (by rw [HQ2.out]; exact F5.out), B5⟩
      case measure => simp [intOf]; omega
    · obtain rfl : n = k := by omega
      have hF := F.out
      rw [List.take_of_length_le (by rw [HL.out]; exact Nat.le_refl _), HZ.out] at hF
      have HF := Lib.hid hF
      clear hF
      go_wp2_with fail
      go_ret
      exact ⟨_, rfl, HF.out, B.out⟩
-- ---- read
theorem rdE_i64 (l : List UInt8) (e : Int) : I64 (rdE l e).1.1 ∧ I64 (rdE l e).1.2.1 ∧ I64 (rdE l e).1.2.2.1 := by
  have h1 := numR_lt 2147483648 l e
  have h2 : ((eR1 l e).1 : Int) ≤ 9223372036854775807 := numR_lt _ _ _
  have h3 : ((eR2 l e).1 : Int) ≤ 9223372036854775807 := numR_lt _ _ _
  unfold rdE finE
  split
  · split
    · exact ⟨⟨by dsimp only; decide, by dsimp only; decide⟩, ⟨by dsimp only; decide, by dsimp only; decide⟩, ⟨by dsimp only; decide, by dsimp only; decide⟩⟩
    · refine ⟨?_, ?_, ?_⟩ <;> (constructor <;> dsimp only <;> omega)
  · exact ⟨⟨by dsimp only; decide, by dsimp only; decide⟩, ⟨by dsimp only; decide, by dsimp only; decide⟩, ⟨by dsimp only; decide, by dsimp only; decide⟩⟩
theorem mp_num_le (most : Int) (hm : 0 ≤ most) (l : List UInt8) (e : Int) : ((numR most l e).1 : Int) ≤ most := by
  by_cases he : e = 0
  · subst he
    by_cases h0 : (numR most l 0).2.2 = 0
    · exact (num_back most l h0).2
    · rw [numR_zero h0]; simpa using hm
  · rw [numR_err he]; simpa using hm
theorem mp_gw_below {p : Nat} {w w1 w2 : World} (h : Gw p w w1) (hb : Below w.heap.size w1 w2) : Gw p w w2 := ⟨hb.os.trans h.os, hb.tape.trans h.tape, hb.output.trans h.output, Nat.le_trans h.size hb.size, fun k hk hn => (hb.block k hk).trans (h.block k hk hn)⟩
/-- some entries with their bytes, each in memory -/
def Efs (w : World) (M : List (En × List UInt8)) : Prop := ∀ p ∈ M, EnF w p.1 p.2
theorem Efs.mono {w w' : World} {M : List (En × List UInt8)} (h : Efs w M) (hb : Below w.heap.size w w') : Efs w' M := fun p hp => (h p hp).mono hb
theorem Efs.rp {w w' : World} {M : List (En × List UInt8)} {r : Nat} {l : List UInt8} {e : Int} (h : Efs w M) (hp : RP w r l e) (hu : Gw r w w') : Efs w' M := fun p hq => ⟨(h p hq).ix, (h p hq).tm, (h p hq).kd, (h p hq).rd.rp hp hu⟩
theorem Efs.own {w w' : World} {base : Nat} {v : Value} {L : List En} {M : List (En × List UInt8)} (h : Efs w M) (hv : LsN enE w base v L) (hg : w.grownBy w' v.ownBlock) : Efs w' M := fun p hq => ⟨(h p hq).ix, (h p hq).tm, (h p hq).kd, (h p hq).rd.ownL hv hg⟩
theorem ents_of {w : World} {a : Option Addr} {n c : Nat} {M : List (En × List UInt8)} (h : Ls enE w a n c (M.map (·.1))) (hf : Efs w M) : Ents w a n c M := by
  have hl := h.hlen
  rw [List.length_map] at hl
  refine ⟨hl, h.hle, h.hmax, hf, h.hnil, ?_⟩
  rcases h.hcells with h0 | ⟨b, off, rfl, hlt, hc⟩
  · exact .inl h0
  · refine .inr ⟨b, off, rfl, hlt, fun i hi j v hj => ?_⟩
    have hil : i < M.length := by rw [hl]; exact hi
    have hx : (M.map (·.1))[i]? = some (M.getD i Ez).1 := by simp [List.getD_eq_getElem?_getD, hil]
    exact hc i _ hx j v hj
set_option maxRecDepth 100000 in
set_option maxHeartbeats 16000000 in
theorem mprd (r : Nat) (l : List UInt8) (e : Int) (w : World) (h : RP w r l e) :
    Calls Try.prog 67 #[.pointer (some ⟨r, 0, none⟩)] w fun x w' => ∃ a n c M, x = .returned (.slice a n c) ∧ Ents w' a n c M ∧ (∀ b off, a = some ⟨b, off, none⟩ → w.heap.size ≤ b) ∧ M.map pe = (rdEs (numR 8 l e).1 (numR 8 l e).2.1 (numR 8 l e).2.2).1 ∧ RP w' r (rdEs (numR 8 l e).1 (numR 8 l e).2.1 (numR 8 l e).2.2).2.1 (rdEs (numR 8 l e).1 (numR 8 l e).2.1 (numR 8 l e).2.2).2.2 ∧ Gw r w w' := by
  have H := Lib.hid h
  have hn8 := mp_num_le 8 (by decide) l e
  obtain ⟨n, l1, e1, hq⟩ : ∃ a b c, numR 8 l e = (a, b, c) := ⟨_, _, _, rfl⟩
  rw [hq] at hn8 ⊢
  dsimp only at hn8 ⊢
  have HQ := Lib.hid hq
  have hn : n ≤ 8 := by omega
  obtain ⟨Z, hZ⟩ : ∃ Z, rdEs n l1 e1 = Z := ⟨_, rfl⟩
  rw [hZ]
  have HZ := Lib.hid hZ
  clear h hq hn8 hZ
  go_enter Try.func67, Try.ntmps67
  go_wp2_with (first
    | (go_at_call 25; (with_reducible refine (pnumR r 8 l e w H.out).mono ?_); rw [HQ.out]; rintro x w1 ⟨rfl, hP, hu⟩; have P0 := Lib.hid hP; have G0 := Lib.hid (Gw.upd hu); clear hP hu))
  go_loopw [3, 6] (fun v i wr => ∃ (k : Nat) (Mk : List (En × List UInt8)) (lk : List UInt8) (ek : Int), i = .int .i64 (k : Int) ∧ k ≤ n ∧ Hid (rdEs k l1 e1 = (Mk.map pe, lk, ek)) ∧ Hid (Mk.length = k) ∧ Hid (LsN enE wr w.heap.size v (Mk.map (·.1))) ∧ Hid (Efs wr Mk) ∧ Hid (RP wr r lk ek) ∧ Hid (Gw r w wr)) (fun _ i _ => n - (intOf i).toNat)
  case atStart => exact ⟨0, [], l1, e1, rfl, Nat.zero_le _, Lib.hid rfl, Lib.hid rfl, Lib.hid (LsN.nil _ _), Lib.hid (fun p hp => by cases hp), P0, G0⟩
  case round =>
    obtain ⟨k, Mk, lk, ek, rfl, hk, HK, LK, N, F, PR, G⟩ := hrel
    by_cases hlt : k < n
    · obtain ⟨⟨ix, tm, kd, dt⟩, l4, e4, hrd⟩ : ∃ a b c, rdE lk ek = (a, b, c) := ⟨_, _, _, rfl⟩
      have hi := rdE_i64 lk ek
      rw [hrd] at hi
      dsimp only at hi
      have HI := Lib.hid hi
      have HRD := Lib.hid hrd
      have HK2 := Lib.hid (show rdEs (k + 1) l1 e1 = (Mk.map pe ++ [(ix, tm, kd, dt)], l4, e4) by simp only [rdEs]; rw [HK.out]; dsimp only; rw [hrd])
      have LL := Lib.hid (show (Mk.map (·.1)).length ≤ 8 by rw [List.length_map, LK.out]; omega)
      have g2 : (k : Int) < (n : Int) := by omega
      clear hrd hi
      go_wp2_with (first
        | (go_at_call 81; (with_reducible refine (rreadE r lk ek wr PR.out ix tm kd dt l4 e4 HRD.out).mono ?_); rintro x w1 ⟨a1, n1, c1, rfl, hrd1, hP, hu⟩; have P1 := Lib.hid hP; have R1 := Lib.hid hrd1; have N1 := Lib.hid (LsN.rp enNb N.out PR.out hu); have F1 := Lib.hid (Efs.rp F.out PR.out hu); have G1 := Lib.hid (G.out.trans hu); clear hP hu hrd1)
        | ((with_reducible refine build_ls enEOk en_fill (o := ⟨some 11, _, _, _, _, _⟩) rfl _ rfl ⟨ix, tm, kd, a1, n1, c1⟩ ?_ trivial (by decide) ?_); (focus (first | (go_simp; done) | (go_simp; rfl))); intro w8 hl hb hz; have Q8 := Lib.hid hl; have P8 := Lib.hid (P1.out.mono hb); have R8 := Lib.hid (R1.out.mono hb); have N8 := Lib.hid (N1.out.kept hb); have F8 := Lib.hid (F1.out.mono hb); have G8 := Lib.hid (G1.out.trans (Gw.of_below hb)); clear hl hb hz)
        | (at_builtin; (with_reducible refine append_lsn enEOk enNb rfl _ _ rfl w.heap.size u3 (Mk.map (·.1)) ?_ N8.out _ 0 1 1 [⟨ix, tm, kd, a1, n1, c1⟩] ?_ Q8.out (by decide) ?_ G8.out.size ?_); (focus (first | (go_simp; done) | (go_simp; rfl))); (focus (first | (go_simp; done) | (go_simp; rfl))); (focus (have := LL.out; omega)); intro v9 w9 hN hb hg; have N9 := Lib.hid hN; have P9 := Lib.hid (RP.ownL enNb P8.out N8.out hg); have R9 := Lib.hid (R8.out.ownL N8.out hg); have F9 := Lib.hid (F8.out.own N8.out hg); have G9 := Lib.hid (mp_gw_below G8.out hb); clear hN hb hg))
      have hn1 := R9.out.hlen
      have F10 : Hid (Efs w9 (Mk ++ [(⟨ix, tm, kd, a1, n1, c1⟩, dt)])) := Lib.hid (fun p hp => by
        rcases List.mem_append.1 hp with hp | hp
        · exact F9.out p hp
        · rw [List.mem_singleton] at hp
          subst hp
          exact ⟨HI.out.1, HI.out.2.1, HI.out.2.2, R9.out⟩)
      have N10 : Hid (LsN enE w9 w.heap.size v9 ((Mk ++ [((⟨ix, tm, kd, a1, n1, c1⟩ : En), dt)]).map (·.1))) := Lib.hid (by rw [List.map_append]; exact N9.out)
      have HK3 : Hid (rdEs (k + 1) l1 e1 = ((Mk ++ [((⟨ix, tm, kd, a1, n1, c1⟩ : En), dt)]).map pe, l4, e4)) := Lib.hid (by rw [HK2.out, List.map_append]; rfl)
      go_roundw
      case rel => exact ⟨k + 1, Mk ++ [(⟨ix, tm, kd, a1, n1, c1⟩, dt)], l4, e4, vint (by omega), by omega, HK3, Lib.hid (by rw [List.length_append, LK.out]; rfl), N10, F10, P9, G9⟩
      case measure => simp [intOf]; omega
    · obtain rfl : n = k := by omega
      obtain ⟨a, c, hv, hls, hbase⟩ := (N.out.lso enEOk).ls enEOk (fun _ _ => trivial)
      have hZ := HZ.out
      rw [HK.out] at hZ
      subst hZ
      have HLs := Lib.hid (ents_of hls F.out)
      have HBs := Lib.hid hbase
      subst hv
      obtain ⟨m, hm⟩ : ∃ m, (Mk.map (·.1)).length = m := ⟨_, rfl⟩
      rw [hm] at N HLs HBs ⊢
      clear hls hbase hm
      go_wp2_with fail
      go_ret
      exact ⟨a, m, c, rfl, Mk, HLs.out, fun b off hb => (HBs.out b off hb).1, rfl, PR.out, G.out⟩
end Go.Proofs.Ytdcioeoofngibaa.W

namespace Go.Proofs.Ytdcioeoofngibaa.W
open Go Go.ChangeShapes Go.WideShapes Go.ChangeAt Go.RowKit
open Go.Proofs.Ytdcioeoofngibaa.P (enc dec)

set_option maxRecDepth 100000 in
set_option maxHeartbeats 4000000 in
theorem mpe1 (b : Nat) (a : Option Addr) (n c : Nat) (L : List (En × List UInt8)) (w : World) (hz : w.cell? ⟨b, 10, none⟩ = some (.slice a n c)) (h : Ents w a n c L) :
    Calls Try.prog 59 #[.pointer (some ⟨b, 0, none⟩)] w fun x w' => x = .returned (.bool (entsOk n L)) ∧ Below w.heap.size w w' := by
  obtain ⟨V, hV⟩ : ∃ V, entsOk n L = V := ⟨_, rfl⟩
  have HF := Lib.hid (mpfit a n c L w h)
  rw [hV] at HF ⊢
  clear h hV
  go_enter Try.func59, Try.ntmps59
  go_wp2_with (go_at_call 60; refine HF.out.mono ?_; rintro x w5 ⟨rfl, hb⟩; have B5 := Lib.hid hb; clear hb)
  go_ret
  exact ⟨rfl, B5.out⟩
set_option maxRecDepth 100000 in
set_option maxHeartbeats 4000000 in
theorem mpe2 (b b2 : Nat) (a1 a2 : Option Addr) (n1 n2 c1 c2 : Nat) (l1 l2 : List (En × List UInt8)) (w : World) (h1 : w.cell? ⟨b, 10, none⟩ = some (.slice a1 n1 c1)) (h2 : w.cell? ⟨b2, 10, none⟩ = some (.slice a2 n2 c2)) (g1 : Ents w a1 n1 c1 l1) (g2 : Ents w a2 n2 c2 l2) (hm : n1 ≤ 1000000) :
    Calls Try.prog 61 #[.pointer (some ⟨b, 0, none⟩), .pointer (some ⟨b2, 0, none⟩)] w fun x w' => x = .returned (.bool (decide (l1.map pe = l2.map pe))) ∧ Below w.heap.size w w' := by
  have E1 := Lib.hid h1
  have E2 := Lib.hid h2
  have H1 := Lib.hid g1
  have H2 := Lib.hid g2
  have HM := Lib.hid hm
  obtain ⟨V, hV⟩ : ∃ V, decide (l1.map pe = l2.map pe) = V := ⟨_, rfl⟩
  rw [hV]
  have HV := Lib.hid hV
  clear g1 g2 hV h1 h2 hm
  go_enter Try.func61, Try.ntmps61
  go_wp2_with fail
  refine region_h (fun v => Below w.heap.size w v) (by kernel_rfl) (by kernel_rfl) ((Below.refl _ _).drew) ?_
  obtain ⟨wd, hwd⟩ : ∃ wd, w.drew = wd := ⟨_, rfl⟩
  have D0 : Hid (Below w.heap.size w wd) := Lib.hid (by rw [← hwd]; exact (Below.refl _ _).drew)
  rw [hwd]
  clear hwd
  (refine h_read 0 rfl (by kernel_rfl) (by kernel_rfl) (h_free rfl) ?_ ?_ ?_; rotate_left; (focus (intro v hv; go_simp; rfl)); go_simp)
  (refine h_read 1 rfl (by kernel_rfl) (by kernel_rfl) (h_free rfl) ?_ ?_ ?_; rotate_left; (focus (intro v hv; go_simp; rfl)); go_simp)
  (refine h_read 2 rfl (by kernel_rfl) (by kernel_rfl) (h_free rfl) ?_ ?_ ?_; rotate_left; (focus (intro v hv; go_simp; rfl)); go_simp)
  (refine h_read 3 rfl (by kernel_rfl) (by kernel_rfl) (h_free rfl) ?_ ?_ ?_; rotate_left; (focus (intro v hv; have q1 := (hv.cell (p := ⟨b, 10, none⟩) (World.block_lt_of_cell? w _ E1.out)).trans E1.out; have q2 := (hv.cell (p := ⟨b2, 10, none⟩) (World.block_lt_of_cell? w _ E2.out)).trans E2.out; go_simp; rfl)); go_simp)
  (refine h_read 4 rfl (by kernel_rfl) (by kernel_rfl) (h_free rfl) ?_ ?_ ?_; rotate_left; (focus (intro v hv; go_simp; rfl)); go_simp)
  (refine h_read 5 rfl (by kernel_rfl) (by kernel_rfl) (h_free rfl) ?_ ?_ ?_; rotate_left; (focus (intro v hv; go_simp; rfl)); go_simp)
  (refine h_read 6 rfl (by kernel_rfl) (by kernel_rfl) (h_free rfl) ?_ ?_ ?_; rotate_left; (focus (intro v hv; go_simp; rfl)); go_simp)
  (refine h_read 7 rfl (by kernel_rfl) (by kernel_rfl) (h_free rfl) ?_ ?_ ?_; rotate_left; (focus (intro v hv; have q1 := (hv.cell (p := ⟨b, 10, none⟩) (World.block_lt_of_cell? w _ E1.out)).trans E1.out; have q2 := (hv.cell (p := ⟨b2, 10, none⟩) (World.block_lt_of_cell? w _ E2.out)).trans E2.out; go_simp; rfl)); go_simp)
  (refine h_call 8 rfl (by kernel_rfl) (h_free rfl) 62 ?_ ?_ ?_; rotate_left; (focus (go_simp; rfl)))
  refine (eqEntsR a1 a2 n1 c1 n2 c2 l1 l2 wd (H1.out.mono D0.out) (H2.out.mono D0.out) HM.out).mono ?_
  rw [HV.out]
  rintro x w5 ⟨rfl, hb⟩
  have J5 := Lib.hid (D0.out.trans (hb.mono D0.out.size))
  clear hb
  refine ⟨_, rfl, J5.out, ?_⟩
  go_simp
  (refine h_read 9 rfl (by kernel_rfl) (by kernel_rfl) (h_free rfl) ?_ ?_ ?_; rotate_left; (focus (intro v hv; go_simp; rfl)); go_simp)
  refine h_done (by kernel_rfl) ?_
  go_wp2_with fail
  go_ret
  exact ⟨rfl, J5.out⟩
set_option maxRecDepth 100000 in
set_option maxHeartbeats 4000000 in
theorem mpe3 (b : Nat) (a : Option Addr) (n c : Nat) (L : List (En × List UInt8)) (sa : Option Addr) (sn sc : Nat) (S : List UInt8) (w : World) (hz : w.cell? ⟨b, 10, none⟩ = some (.slice a n c)) (hS : Rd w sa sn sc S) (hsn : sn ≤ 100000) (h : Ents w a n c L) (hk : entsOk n L = true) :
    Calls Try.prog 64 #[.slice sa sn sc, .pointer (some ⟨b, 0, none⟩)] w fun x w' => ∃ v, x = .returned v ∧ Fr w' w.heap.size v (S ++ (enc n ++ L.flatMap (fun p => codeE p.1 p.2))) ∧ Below w.heap.size w w' := by
  unfold entsOk at hk
  simp only [Bool.and_eq_true, decide_eq_true_eq, List.all_eq_true] at hk
  have HF := Lib.hid (mpput sa sn sc S a n c L w hS hsn h hk.1 hk.2)
  obtain ⟨Z, hZ⟩ : ∃ Z, S ++ (enc n ++ L.flatMap (fun p => codeE p.1 p.2)) = Z := ⟨_, rfl⟩
  rw [hZ] at HF ⊢
  clear h hS hk hZ
  go_enter Try.func64, Try.ntmps64
  go_wp2_with (go_at_call 65; refine HF.out.mono ?_; rintro x w5 ⟨v5, rfl, hf, hb⟩; have F5 := Lib.hid hf; have B5 := Lib.hid hb; clear hf hb)
  go_ret
  exact ⟨_, rfl, F5.out, B5.out⟩
theorem EnF.putm {w w' : World} {e : En} {l : List UInt8} {g : Nat} {t : TypeId} {L : List Value} (h : EnF w e l) (hq : Row w g t L) (hnb : NB L) (hu : Upd w w' g) : EnF w' e l := ⟨h.ix, h.tm, h.kd, h.rd.put hq hnb hu⟩
theorem Ents.putm {w w' : World} {a : Option Addr} {n c g : Nat} {t : TypeId} {L : List (En × List UInt8)} {C : List Value} (h : Ents w a n c L) (hq : Row w g t C) (hnb : NB C) (hu : Upd w w' g) (hne : n ≠ 0 → ∀ b off, a = some ⟨b, off, none⟩ → b ≠ g) : Ents w' a n c L := by
  refine ⟨h.hlen, h.hle, h.hmax, fun p hp => EnF.putm (h.hfit p hp) hq hnb hu, h.hnil, ?_⟩
  rcases h.hcells with h0 | ⟨b, o, rfl, hlt, hc⟩
  · exact .inl h0
  · by_cases hn : n = 0
    · exact .inl hn
    · right
      have hbg := hne hn b o rfl
      refine ⟨b, o, rfl, by rw [hu.size]; exact hlt, fun i hi j v hj => ?_⟩
      rw [hu.cell (p := ⟨b, o + i * 4 + j, none⟩) hbg]; exact hc i hi j v hj
set_option maxRecDepth 100000 in
set_option maxHeartbeats 4000000 in
theorem mpe4 (r b : Nat) (L : List Value) (l : List UInt8) (e : Int) (w : World) (hL : Row w b 25 L) (hk : 10 < L.length) (hnb : NB L) (hr : RP w r l e) (hbr : b ≠ r) :
    Calls Try.prog 66 #[.pointer (some ⟨r, 0, none⟩), .pointer (some ⟨b, 0, none⟩)] w fun x w' => ∃ a n c, x = .returned (.tuple #[]) ∧ ∃ M, Row w' b 25 (L.set 10 (.slice a n c)) ∧ Ents w' a n c M ∧ (∀ b off, a = some ⟨b, off, none⟩ → w.heap.size ≤ b) ∧ M.map pe = (rdEs (numR 8 l e).1 (numR 8 l e).2.1 (numR 8 l e).2.2).1 ∧ RP w' r (rdEs (numR 8 l e).1 (numR 8 l e).2.1 (numR 8 l e).2.2).2.1 (rdEs (numR 8 l e).1 (numR 8 l e).2.1 (numR 8 l e).2.2).2.2 ∧ Ft (F2 r b) w w' := by
  have HBR := Lib.hid hbr
  have HNB := Lib.hid hnb
  have HL := Lib.hid hL
  have HB := Lib.hid (show b < w.heap.size from hL.lt)
  obtain ⟨vk, hvk⟩ : ∃ v, L[10]? = some v := ⟨_, List.getElem?_eq_getElem hk⟩
  have HVK := Lib.hid hvk
  have HC := Lib.hid (mprd r l e w hr)
  obtain ⟨Z, hZ⟩ : ∃ Z, rdEs (numR 8 l e).1 (numR 8 l e).2.1 (numR 8 l e).2.2 = Z := ⟨_, rfl⟩
  rw [hZ] at HC ⊢
  clear hL hk hnb hr hbr hvk hZ
  go_enter Try.func66, Try.ntmps66
  go_wp2_with fail
  refine HC.out.mono ?_
  rintro x w5 ⟨a5, n5, c5, M5, rfl, he, hba, hm, hp, hg⟩
  have P5 := Lib.hid hp
  have G5 : Hid (Ft (F2 r b) w w5) := Lib.hid (Gw.ft hg (.inl rfl))
  have R5 := Lib.hid (HL.out.gw hg HBR.out)
  have E5 := Lib.hid he
  have HBA := Lib.hid hba
  have HM5 := Lib.hid hm
  clear he hba hm hp hg
  have xk : w5.cell? ⟨b, 10, none⟩ = some vk := by rw [R5.out.cellV]; exact HVK.out
  have fk := R5.out.frozen 10
  go_wp2_with fail
  have hr6 := R5.out.setV 10 (.slice a5 n5 c5)
  have hu6 := Upd.setCell w5 b 10 (.slice a5 n5 c5)
  have P6 := P5.out.put (Ne.symm HBR.out) R5.out HNB.out hu6
  have F6 := (G5.out.trans (Ft.of_upd hu6 (.inr rfl)))
  have E6 := E5.out.putm R5.out HNB.out hu6 (fun _ b' off h => by have := HBA.out b' off h; have := HB.out; omega)
  clear xk fk
  go_end0
  exact ⟨a5, n5, c5, rfl, M5, hr6, E6, HBA.out, HM5.out, P6, F6⟩
/-- what a kind has -/
def partsV (k : Int) : Int := if k = 1 ∨ k = 3 then 7 else if k = 2 ∨ k = 4 then 65 else if k = 5 then 159 else if k = 6 then 83 else if k = 7 then 311 else if k = 8 then 771 else if k = 9 then 577 else if k = 10 then 529 else if k = 11 then 849 else 1
theorem kinds11 (k : Int) : (k = 1 ∨ k = 2 ∨ k = 3 ∨ k = 4 ∨ k = 5 ∨ k = 6 ∨ k = 7 ∨ k = 8 ∨ k = 9 ∨ k = 10 ∨ k = 11) ∨ (k ≠ 1 ∧ k ≠ 2 ∧ k ≠ 3 ∧ k ≠ 4 ∧ k ≠ 5 ∧ k ≠ 6 ∧ k ≠ 7 ∧ k ≠ 8 ∧ k ≠ 9 ∧ k ≠ 10 ∧ k ≠ 11) := by omega
set_option maxRecDepth 100000 in
set_option maxHeartbeats 4000000 in
theorem mpparts (k : Int) (w : World) : Calls Try.prog 16 #[.int .i64 k] w fun x w' => x = .returned (.int .i64 (partsV k)) ∧ w = w' := by
  rcases kinds11 k with h | ⟨h1, h2, h3, h4, h5, h6, h7, h8, h9, h10, h11⟩
  · rcases h with rfl | rfl | rfl | rfl | rfl | rfl | rfl | rfl | rfl | rfl | rfl
    all_goals
      go_enter Try.func16, Try.ntmps16
      go_wp2_with fail
      go_ret
      exact ⟨by first | rfl | (exact one (vint (by decide))), rfl⟩
  · have hv : partsV k = 1 := by unfold partsV; simp [h1, h2, h3, h4, h5, h6, h7, h8, h9, h10, h11]
    rw [hv]
    have q1 : (k == 1) = false := by simpa using h1
    have q2 : (k == 2) = false := by simpa using h2
    have q3 : (k == 3) = false := by simpa using h3
    have q4 : (k == 4) = false := by simpa using h4
    have q5 : (k == 5) = false := by simpa using h5
    have q6 : (k == 6) = false := by simpa using h6
    have q7 : (k == 7) = false := by simpa using h7
    have q8 : (k == 8) = false := by simpa using h8
    have q9 : (k == 9) = false := by simpa using h9
    have q10 : (k == 10) = false := by simpa using h10
    have q11 : (k == 11) = false := by simpa using h11
    clear hv
    go_enter Try.func16, Try.ntmps16
    go_wp2_with fail
    go_ret
    exact ⟨rfl, rfl⟩
def partN (i : Nat) : Int := [1, 1, 1, 2, 4, 8, 16, 32, 64, 128, 256, 512].getD i 0
def mostN (i : Nat) : Int := [6, 6, 2147483648, 2147483648, 2147483648, 2147483648, 2147483648, 127].getD i 0
def atN (i : Nat) : FuncId := [29, 30, 31, 32, 33, 34, 35, 36].getD i 0
def fn1 (i : Nat) : FuncId := if i < 8 then 49 else [53, 59, 68, 75].getD (i - 8) 0
def fn2 (i : Nat) : FuncId := if i < 8 then 50 else [54, 61, 69, 76].getD (i - 8) 0
def fn3 (i : Nat) : FuncId := if i < 8 then 51 else [55, 64, 71, 77].getD (i - 8) 0
def fn4 (i : Nat) : FuncId := if i < 8 then 52 else [57, 66, 73, 78].getD (i - 8) 0
def fc1 (A M : Nat → Nat) (i : Nat) : Array Value := if i < 8 then #[.pointer (some ⟨A i, 0, none⟩), .pointer (some ⟨M i, 0, none⟩)] else #[]
def fc2 (A : Nat → Nat) (i : Nat) : Array Value := if i < 8 then #[.pointer (some ⟨A i, 0, none⟩)] else #[]
def fc4 (A M : Nat → Nat) (i : Nat) : Array Value := if i < 8 then #[.pointer (some ⟨M i, 0, none⟩), .pointer (some ⟨A i, 0, none⟩)] else #[]
/-- the cells of a field, and of all -/
def fdC (A M : Nat → Nat) (i : Nat) : List Value := [.int .i64 (partN i), .func (.func (fn1 i)) #[] (fc1 A M i), .func (.func (fn2 i)) #[] (fc2 A i), .func (.func (fn3 i)) #[] (fc2 A i), .func (.func (fn4 i)) #[] (fc4 A M i)]
def fdsC (A M : Nat → Nat) : List Value := (List.range 12).flatMap (fdC A M)
def numF (part : Int) (A M : Nat) : List Value := [.int .i64 part, .func (.func 49) #[] #[.pointer (some ⟨A, 0, none⟩), .pointer (some ⟨M, 0, none⟩)], .func (.func 50) #[] #[.pointer (some ⟨A, 0, none⟩)], .func (.func 51) #[] #[.pointer (some ⟨A, 0, none⟩)], .func (.func 52) #[] #[.pointer (some ⟨M, 0, none⟩), .pointer (some ⟨A, 0, none⟩)]]
theorem infoFd : (Try.prog.info? 49).map (fun i => (i.zero, i.size, i.bytes)) = some (some (.agg #[.int .i64 0, .nilFunc, .nilFunc, .nilFunc, .nilFunc]), 5, 40) := by kernel_rfl
theorem fd_zero : (Try.prog.info? 49).map (·.zero) = some (some (.agg [.int .i64 0, .nilFunc, .nilFunc, .nilFunc, .nilFunc].toArray)) := by kernel_rfl
theorem fd_size : (Try.prog.info? 49).map (·.size) = some 5 := by kernel_rfl
theorem built_num (p : Int) (A M : Nat) : Try.prog.built 49 [(0, .int .i64 p), (1, .func (.func 49) #[] #[.pointer (some ⟨A, 0, none⟩), .pointer (some ⟨M, 0, none⟩)]), (2, .func (.func 50) #[] #[.pointer (some ⟨A, 0, none⟩)]), (3, .func (.func 51) #[] #[.pointer (some ⟨A, 0, none⟩)]), (4, .func (.func 52) #[] #[.pointer (some ⟨M, 0, none⟩), .pointer (some ⟨A, 0, none⟩)])] = some (numF p A M).toArray := by kernel_rfl
theorem num_one (p : Int) (A M : Nat) : ∀ v ∈ numF p A M, v.oneCell' = true := by
  intro v hv
  simp [numF] at hv
  rcases hv with rfl | rfl | rfl | rfl | rfl <;> rfl
set_option maxRecDepth 100000 in
set_option maxHeartbeats 4000000 in
theorem mpnum (part most : Int) (f : FuncId) (w : World) : Calls Try.prog 28 #[.int .i64 part, .int .i64 most, .func (.func f) #[] #[]] w fun x w' => ∃ A M, x = .returned (.agg (numF part A M).toArray) ∧ Row w' A 63 [.func (.func f) #[] #[]] ∧ Row w' M 3 [.int .i64 most] ∧ w.heap.size ≤ A ∧ w.heap.size ≤ M ∧ Below w.heap.size w w' := by
  have FZ := Lib.hid fd_zero
  have FS := Lib.hid fd_size
  go_enter Try.func28, Try.ntmps28
  go_wp2_with (first
    | ((with_reducible refine box_cell (o := ⟨some 4, _, _, _, _, _⟩) rfl _ _ rfl (.int .i64 most) ?_ rfl ?_); (focus go_simp); intro w1 hr hb hz; have M1 := Lib.hid hr; have B1 := Lib.hid hb; have Z1 := Lib.hid hz; clear hr hb hz)
    | ((with_reducible refine box_cell (o := ⟨some 5, _, _, _, _, _⟩) rfl _ _ rfl (.func (.func f) #[] #[]) ?_ rfl ?_); (focus go_simp); intro w2 hr hb hz; have A2 := Lib.hid hr; have M2 := Lib.hid (M1.out.below hb M1.out.lt); have B2 := Lib.hid (B1.out.trans (hb.mono B1.out.size)); have Z2 := Lib.hid (show w2.heap.size = w.heap.size + 2 by rw [hz, Z1.out]); clear hr hb hz)
    | ((with_reducible refine alloc_row (o := ⟨some 6, _, _, _, _, _⟩) rfl _ rfl _ FZ.out ?_); intro w3 hr hb hz; have R3 := Lib.hid hr; have A3 := Lib.hid (A2.out.below hb A2.out.lt); have M3 := Lib.hid (M2.out.below hb M2.out.lt); have B3 := Lib.hid (B2.out.trans (hb.mono B2.out.size)); clear hr hb hz)
    | ((with_reducible refine build_row (o := ⟨some 12, _, _, _, _, _⟩) rfl _ _ rfl (numF part w1.heap.size w.heap.size) ?_ ?_); (focus (go_simp; exact built_num _ _ _)))
    | ((with_reducible refine store_row (o := ⟨none, _, _, _, _, _⟩) rfl _ (.tmp 6) _ rfl w2.heap.size (numF part w1.heap.size w.heap.size) ?_ ?_ 49 _ R3.out ?_ ?_ (num_one _ _ _) ?_); (focus go_simp); (focus (first | (go_simp; done) | (go_simp; rfl))); (focus (exact FS.out)); (focus rfl); intro w4 hr hu; have R4 := Lib.hid hr; have A4 := Lib.hid (A3.out.upd hu (by have := Z1.out; have := Z2.out; omega)); have M4 := Lib.hid (M3.out.upd hu (by have := Z2.out; omega)); have B4 := Lib.hid (B3.out.trans (hu.below B2.out.size)); clear hr hu))
  exact bodyPost_ret (results_cell_row rfl _ _ w2.heap.size 49 _ _ _ (by go_simp) R4.out Try.underlying49 rfl FS.out) rfl ⟨w1.heap.size, w.heap.size, rfl, A4.out, M4.out, by have := Z1.out; omega, Nat.le_refl _, B4.out⟩
def con8 : List Value := [.int .i64 64, .func (.func 53) #[] #[], .func (.func 54) #[] #[], .func (.func 55) #[] #[], .func (.func 57) #[] #[]]
theorem built8 : Try.prog.built 49 [(0, .int .i64 64), (1, .func (.func 53) #[] #[]), (2, .func (.func 54) #[] #[]), (3, .func (.func 55) #[] #[]), (4, .func (.func 57) #[] #[])] = some con8.toArray := by kernel_rfl
theorem con8_one : ∀ v ∈ con8, v.oneCell' = true := by decide
set_option maxRecDepth 100000 in
set_option maxHeartbeats 4000000 in
theorem mpyes (w : World) : Calls Try.prog 37 #[] w fun x w' => x = .returned (.agg con8.toArray) ∧ Below w.heap.size w w' := by
  have FZ := Lib.hid fd_zero
  have FS := Lib.hid fd_size
  go_enter Try.func37, Try.ntmps37
  go_wp2_with (first
    | ((with_reducible refine alloc_row (o := ⟨some 0, _, _, _, _, _⟩) rfl _ rfl _ FZ.out ?_); intro w3 hr hb hz; have R3 := Lib.hid hr; have B3 := Lib.hid hb; clear hr hb hz)
    | ((with_reducible refine build_row (o := ⟨some 1, _, _, _, _, _⟩) rfl _ _ rfl con8 ?_ ?_); (focus (go_simp; exact built8)))
    | ((with_reducible refine store_row (o := ⟨none, _, _, _, _, _⟩) rfl _ (.tmp 0) _ rfl w.heap.size con8 ?_ ?_ 49 _ R3.out ?_ ?_ con8_one ?_); (focus go_simp); (focus (first | (go_simp; done) | (go_simp; rfl))); (focus (exact FS.out)); (focus rfl); intro w4 hr hu; have R4 := Lib.hid hr; have B4 := Lib.hid (B3.out.trans (hu.below (Nat.le_refl _))); clear hr hu))
  exact bodyPost_ret (results_cell_row rfl _ _ w.heap.size 49 _ _ _ (by go_simp) R4.out Try.underlying49 rfl FS.out) rfl ⟨rfl, B4.out⟩
def con9 : List Value := [.int .i64 128, .func (.func 59) #[] #[], .func (.func 61) #[] #[], .func (.func 64) #[] #[], .func (.func 66) #[] #[]]
theorem built9 : Try.prog.built 49 [(0, .int .i64 128), (1, .func (.func 59) #[] #[]), (2, .func (.func 61) #[] #[]), (3, .func (.func 64) #[] #[]), (4, .func (.func 66) #[] #[])] = some con9.toArray := by kernel_rfl
theorem con9_one : ∀ v ∈ con9, v.oneCell' = true := by decide
set_option maxRecDepth 100000 in
set_option maxHeartbeats 4000000 in
theorem mpent (w : World) : Calls Try.prog 38 #[] w fun x w' => x = .returned (.agg con9.toArray) ∧ Below w.heap.size w w' := by
  have FZ := Lib.hid fd_zero
  have FS := Lib.hid fd_size
  go_enter Try.func38, Try.ntmps38
  go_wp2_with (first
    | ((with_reducible refine alloc_row (o := ⟨some 0, _, _, _, _, _⟩) rfl _ rfl _ FZ.out ?_); intro w3 hr hb hz; have R3 := Lib.hid hr; have B3 := Lib.hid hb; clear hr hb hz)
    | ((with_reducible refine build_row (o := ⟨some 1, _, _, _, _, _⟩) rfl _ _ rfl con9 ?_ ?_); (focus (go_simp; exact built9)))
    | ((with_reducible refine store_row (o := ⟨none, _, _, _, _, _⟩) rfl _ (.tmp 0) _ rfl w.heap.size con9 ?_ ?_ 49 _ R3.out ?_ ?_ con9_one ?_); (focus go_simp); (focus (first | (go_simp; done) | (go_simp; rfl))); (focus (exact FS.out)); (focus rfl); intro w4 hr hu; have R4 := Lib.hid hr; have B4 := Lib.hid (B3.out.trans (hu.below (Nat.le_refl _))); clear hr hu))
  exact bodyPost_ret (results_cell_row rfl _ _ w.heap.size 49 _ _ _ (by go_simp) R4.out Try.underlying49 rfl FS.out) rfl ⟨rfl, B4.out⟩
def con10 : List Value := [.int .i64 256, .func (.func 68) #[] #[], .func (.func 69) #[] #[], .func (.func 71) #[] #[], .func (.func 73) #[] #[]]
theorem built10 : Try.prog.built 49 [(0, .int .i64 256), (1, .func (.func 68) #[] #[]), (2, .func (.func 69) #[] #[]), (3, .func (.func 71) #[] #[]), (4, .func (.func 73) #[] #[])] = some con10.toArray := by kernel_rfl
theorem con10_one : ∀ v ∈ con10, v.oneCell' = true := by decide
set_option maxRecDepth 100000 in
set_option maxHeartbeats 4000000 in
theorem mpdat (w : World) : Calls Try.prog 39 #[] w fun x w' => x = .returned (.agg con10.toArray) ∧ Below w.heap.size w w' := by
  have FZ := Lib.hid fd_zero
  have FS := Lib.hid fd_size
  go_enter Try.func39, Try.ntmps39
  go_wp2_with (first
    | ((with_reducible refine alloc_row (o := ⟨some 0, _, _, _, _, _⟩) rfl _ rfl _ FZ.out ?_); intro w3 hr hb hz; have R3 := Lib.hid hr; have B3 := Lib.hid hb; clear hr hb hz)
    | ((with_reducible refine build_row (o := ⟨some 1, _, _, _, _, _⟩) rfl _ _ rfl con10 ?_ ?_); (focus (go_simp; exact built10)))
    | ((with_reducible refine store_row (o := ⟨none, _, _, _, _, _⟩) rfl _ (.tmp 0) _ rfl w.heap.size con10 ?_ ?_ 49 _ R3.out ?_ ?_ con10_one ?_); (focus go_simp); (focus (first | (go_simp; done) | (go_simp; rfl))); (focus (exact FS.out)); (focus rfl); intro w4 hr hu; have R4 := Lib.hid hr; have B4 := Lib.hid (B3.out.trans (hu.below (Nat.le_refl _))); clear hr hu))
  exact bodyPost_ret (results_cell_row rfl _ _ w.heap.size 49 _ _ _ (by go_simp) R4.out Try.underlying49 rfl FS.out) rfl ⟨rfl, B4.out⟩
def con11 : List Value := [.int .i64 512, .func (.func 75) #[] #[], .func (.func 76) #[] #[], .func (.func 77) #[] #[], .func (.func 78) #[] #[]]
theorem built11 : Try.prog.built 49 [(0, .int .i64 512), (1, .func (.func 75) #[] #[]), (2, .func (.func 76) #[] #[]), (3, .func (.func 77) #[] #[]), (4, .func (.func 78) #[] #[])] = some con11.toArray := by kernel_rfl
theorem con11_one : ∀ v ∈ con11, v.oneCell' = true := by decide
set_option maxRecDepth 100000 in
set_option maxHeartbeats 4000000 in
theorem mpsum (w : World) : Calls Try.prog 40 #[] w fun x w' => x = .returned (.agg con11.toArray) ∧ Below w.heap.size w w' := by
  have FZ := Lib.hid fd_zero
  have FS := Lib.hid fd_size
  go_enter Try.func40, Try.ntmps40
  go_wp2_with (first
    | ((with_reducible refine alloc_row (o := ⟨some 0, _, _, _, _, _⟩) rfl _ rfl _ FZ.out ?_); intro w3 hr hb hz; have R3 := Lib.hid hr; have B3 := Lib.hid hb; clear hr hb hz)
    | ((with_reducible refine build_row (o := ⟨some 1, _, _, _, _, _⟩) rfl _ _ rfl con11 ?_ ?_); (focus (go_simp; exact built11)))
    | ((with_reducible refine store_row (o := ⟨none, _, _, _, _, _⟩) rfl _ (.tmp 0) _ rfl w.heap.size con11 ?_ ?_ 49 _ R3.out ?_ ?_ con11_one ?_); (focus go_simp); (focus (first | (go_simp; done) | (go_simp; rfl))); (focus (exact FS.out)); (focus rfl); intro w4 hr hu; have R4 := Lib.hid hr; have B4 := Lib.hid (B3.out.trans (hu.below (Nat.le_refl _))); clear hr hu))
  exact bodyPost_ret (results_cell_row rfl _ _ w.heap.size 49 _ _ _ (by go_simp) R4.out Try.underlying49 rfl FS.out) rfl ⟨rfl, B4.out⟩
end Go.Proofs.Ytdcioeoofngibaa.W

namespace Go.Proofs.Ytdcioeoofngibaa.W
open Go Go.ChangeShapes Go.WideShapes Go.ChangeAt Go.RowKit
open Go.Proofs.Ytdcioeoofngibaa.P (enc dec)

theorem fill12 (A0 M0 A1 M1 A2 M2 A3 M3 A4 M4 A5 M5 A6 M6 A7 M7 : Nat) : Instr.fill (fun i => some (i * 5, 5)) ((Array.range (12 * 5)).map ((Value.agg #[.int .i64 0, .nilFunc, .nilFunc, .nilFunc, .nilFunc]).cells[· % (Value.agg #[.int .i64 0, .nilFunc, .nilFunc, .nilFunc, .nilFunc]).cells.size]!)) [(0, .agg (numF 1 A0 M0).toArray), (1, .agg (numF 1 A1 M1).toArray), (2, .agg (numF 1 A2 M2).toArray), (3, .agg (numF 2 A3 M3).toArray), (4, .agg (numF 4 A4 M4).toArray), (5, .agg (numF 8 A5 M5).toArray), (6, .agg (numF 16 A6 M6).toArray), (7, .agg (numF 32 A7 M7).toArray), (8, .agg con8.toArray), (9, .agg con9.toArray), (10, .agg con10.toArray), (11, .agg con11.toArray)] = some (fdsC (fun i => [A0, A1, A2, A3, A4, A5, A6, A7].getD i 0) (fun i => [M0, M1, M2, M3, M4, M5, M6, M7].getD i 0)).toArray := by
  kernel_rfl
structure FdR (w : World) (base : Nat) (A M : Nat → Nat) : Prop where
  a : ∀ i, i < 8 → Row w (A i) 63 [.func (.func (atN i)) #[] #[]] ∧ base ≤ A i
  m : ∀ i, i < 8 → Row w (M i) 3 [.int .i64 (mostN i)] ∧ base ≤ M i
theorem FdR.below {w w' : World} {base : Nat} {A M : Nat → Nat} (h : FdR w base A M) (hb : Below w.heap.size w w') : FdR w' base A M :=
  ⟨fun i hi => ⟨(h.a i hi).1.below hb (h.a i hi).1.lt, (h.a i hi).2⟩, fun i hi => ⟨(h.m i hi).1.below hb (h.m i hi).1.lt, (h.m i hi).2⟩⟩
theorem FdR.ft {w w' : World} {base : Nat} {A M : Nat → Nat} {F : Nat → Prop} (h : FdR w base A M) (k : Ft F w w') (hF : ∀ g, F g → g < base) : FdR w' base A M :=
  ⟨fun i hi => ⟨(h.a i hi).1.ft k (fun hf => by have := hF _ hf; have := (h.a i hi).2; omega), (h.a i hi).2⟩, fun i hi => ⟨(h.m i hi).1.ft k (fun hf => by have := hF _ hf; have := (h.m i hi).2; omega), (h.m i hi).2⟩⟩
set_option maxRecDepth 100000 in
set_option maxHeartbeats 16000000 in
theorem mpfields (w0 : World) : Calls Try.prog 17 #[] w0 fun x w' => ∃ g A M, x = .returned (.slice (some ⟨g, 0, none⟩) 12 12) ∧ Row w' g 49 (fdsC A M) ∧ FdR w' w0.heap.size A M ∧ w0.heap.size ≤ g ∧ Below w0.heap.size w0 w' := by
  obtain ⟨i0, hi, hz0, hz1, hz2⟩ := info_parts infoFd
  have IFO := Lib.hid hi
  have IZ0 := Lib.hid hz0
  have IZ1 := Lib.hid hz1
  have B0 : Hid (Below w0.heap.size w0 w0) := Lib.hid (Below.refl _ _)
  clear hi hz0 hz1 hz2
  go_enter Try.func17, Try.ntmps17
  go_wp2_with fail
  refine (mpnum 1 6 29 w0).mono ?_
  rintro x w1 ⟨A0, M0, rfl, ha, hm, hA, hM, hb⟩
  have RA0 := Lib.hid ha
  have RM0 := Lib.hid hm
  have GA0 := Lib.hid (show w0.heap.size ≤ A0 from Nat.le_trans B0.out.size hA)
  have GM0 := Lib.hid (show w0.heap.size ≤ M0 from Nat.le_trans B0.out.size hM)
  have B1 := Lib.hid (B0.out.trans (hb.mono B0.out.size))
  clear ha hm hA hM hb
  go_wp2_with fail
  refine (mpnum 1 6 30 w1).mono ?_
  rintro x w2 ⟨A1, M1, rfl, ha, hm, hA, hM, hb⟩
  have RA0 := Lib.hid (RA0.out.below hb RA0.out.lt)
  have RM0 := Lib.hid (RM0.out.below hb RM0.out.lt)
  have RA1 := Lib.hid ha
  have RM1 := Lib.hid hm
  have GA1 := Lib.hid (show w0.heap.size ≤ A1 from Nat.le_trans B1.out.size hA)
  have GM1 := Lib.hid (show w0.heap.size ≤ M1 from Nat.le_trans B1.out.size hM)
  have B2 := Lib.hid (B1.out.trans (hb.mono B1.out.size))
  clear ha hm hA hM hb
  go_wp2_with fail
  refine (mpnum 1 2147483648 31 w2).mono ?_
  rintro x w3 ⟨A2, M2, rfl, ha, hm, hA, hM, hb⟩
  have RA0 := Lib.hid (RA0.out.below hb RA0.out.lt)
  have RM0 := Lib.hid (RM0.out.below hb RM0.out.lt)
  have RA1 := Lib.hid (RA1.out.below hb RA1.out.lt)
  have RM1 := Lib.hid (RM1.out.below hb RM1.out.lt)
  have RA2 := Lib.hid ha
  have RM2 := Lib.hid hm
  have GA2 := Lib.hid (show w0.heap.size ≤ A2 from Nat.le_trans B2.out.size hA)
  have GM2 := Lib.hid (show w0.heap.size ≤ M2 from Nat.le_trans B2.out.size hM)
  have B3 := Lib.hid (B2.out.trans (hb.mono B2.out.size))
  clear ha hm hA hM hb
  go_wp2_with fail
  refine (mpnum 2 2147483648 32 w3).mono ?_
  rintro x w4 ⟨A3, M3, rfl, ha, hm, hA, hM, hb⟩
  have RA0 := Lib.hid (RA0.out.below hb RA0.out.lt)
  have RM0 := Lib.hid (RM0.out.below hb RM0.out.lt)
  have RA1 := Lib.hid (RA1.out.below hb RA1.out.lt)
  have RM1 := Lib.hid (RM1.out.below hb RM1.out.lt)
  have RA2 := Lib.hid (RA2.out.below hb RA2.out.lt)
  have RM2 := Lib.hid (RM2.out.below hb RM2.out.lt)
  have RA3 := Lib.hid ha
  have RM3 := Lib.hid hm
  have GA3 := Lib.hid (show w0.heap.size ≤ A3 from Nat.le_trans B3.out.size hA)
  have GM3 := Lib.hid (show w0.heap.size ≤ M3 from Nat.le_trans B3.out.size hM)
  have B4 := Lib.hid (B3.out.trans (hb.mono B3.out.size))
  clear ha hm hA hM hb
  go_wp2_with fail
  refine (mpnum 4 2147483648 33 w4).mono ?_
  rintro x w5 ⟨A4, M4, rfl, ha, hm, hA, hM, hb⟩
  have RA0 := Lib.hid (RA0.out.below hb RA0.out.lt)
  have RM0 := Lib.hid (RM0.out.below hb RM0.out.lt)
  have RA1 := Lib.hid (RA1.out.below hb RA1.out.lt)
  have RM1 := Lib.hid (RM1.out.below hb RM1.out.lt)
  have RA2 := Lib.hid (RA2.out.below hb RA2.out.lt)
  have RM2 := Lib.hid (RM2.out.below hb RM2.out.lt)
  have RA3 := Lib.hid (RA3.out.below hb RA3.out.lt)
  have RM3 := Lib.hid (RM3.out.below hb RM3.out.lt)
  have RA4 := Lib.hid ha
  have RM4 := Lib.hid hm
  have GA4 := Lib.hid (show w0.heap.size ≤ A4 from Nat.le_trans B4.out.size hA)
  have GM4 := Lib.hid (show w0.heap.size ≤ M4 from Nat.le_trans B4.out.size hM)
  have B5 := Lib.hid (B4.out.trans (hb.mono B4.out.size))
  clear ha hm hA hM hb
  go_wp2_with fail
  refine (mpnum 8 2147483648 34 w5).mono ?_
  rintro x w6 ⟨A5, M5, rfl, ha, hm, hA, hM, hb⟩
  have RA0 := Lib.hid (RA0.out.below hb RA0.out.lt)
  have RM0 := Lib.hid (RM0.out.below hb RM0.out.lt)
  have RA1 := Lib.hid (RA1.out.below hb RA1.out.lt)
  have RM1 := Lib.hid (RM1.out.below hb RM1.out.lt)
  have RA2 := Lib.hid (RA2.out.below hb RA2.out.lt)
  have RM2 := Lib.hid (RM2.out.below hb RM2.out.lt)
  have RA3 := Lib.hid (RA3.out.below hb RA3.out.lt)
  have RM3 := Lib.hid (RM3.out.below hb RM3.out.lt)
  have RA4 := Lib.hid (RA4.out.below hb RA4.out.lt)
  have RM4 := Lib.hid (RM4.out.below hb RM4.out.lt)
  have RA5 := Lib.hid ha
  have RM5 := Lib.hid hm
  have GA5 := Lib.hid (show w0.heap.size ≤ A5 from Nat.le_trans B5.out.size hA)
  have GM5 := Lib.hid (show w0.heap.size ≤ M5 from Nat.le_trans B5.out.size hM)
  have B6 := Lib.hid (B5.out.trans (hb.mono B5.out.size))
  clear ha hm hA hM hb
  go_wp2_with fail
  refine (mpnum 16 2147483648 35 w6).mono ?_
  rintro x w7 ⟨A6, M6, rfl, ha, hm, hA, hM, hb⟩
  have RA0 := Lib.hid (RA0.out.below hb RA0.out.lt)
  have RM0 := Lib.hid (RM0.out.below hb RM0.out.lt)
  have RA1 := Lib.hid (RA1.out.below hb RA1.out.lt)
  have RM1 := Lib.hid (RM1.out.below hb RM1.out.lt)
  have RA2 := Lib.hid (RA2.out.below hb RA2.out.lt)
  have RM2 := Lib.hid (RM2.out.below hb RM2.out.lt)
  have RA3 := Lib.hid (RA3.out.below hb RA3.out.lt)
  have RM3 := Lib.hid (RM3.out.below hb RM3.out.lt)
  have RA4 := Lib.hid (RA4.out.below hb RA4.out.lt)
  have RM4 := Lib.hid (RM4.out.below hb RM4.out.lt)
  have RA5 := Lib.hid (RA5.out.below hb RA5.out.lt)
  have RM5 := Lib.hid (RM5.out.below hb RM5.out.lt)
  have RA6 := Lib.hid ha
  have RM6 := Lib.hid hm
  have GA6 := Lib.hid (show w0.heap.size ≤ A6 from Nat.le_trans B6.out.size hA)
  have GM6 := Lib.hid (show w0.heap.size ≤ M6 from Nat.le_trans B6.out.size hM)
  have B7 := Lib.hid (B6.out.trans (hb.mono B6.out.size))
  clear ha hm hA hM hb
  go_wp2_with fail
  refine (mpnum 32 127 36 w7).mono ?_
  rintro x w8 ⟨A7, M7, rfl, ha, hm, hA, hM, hb⟩
  have RA0 := Lib.hid (RA0.out.below hb RA0.out.lt)
  have RM0 := Lib.hid (RM0.out.below hb RM0.out.lt)
  have RA1 := Lib.hid (RA1.out.below hb RA1.out.lt)
  have RM1 := Lib.hid (RM1.out.below hb RM1.out.lt)
  have RA2 := Lib.hid (RA2.out.below hb RA2.out.lt)
  have RM2 := Lib.hid (RM2.out.below hb RM2.out.lt)
  have RA3 := Lib.hid (RA3.out.below hb RA3.out.lt)
  have RM3 := Lib.hid (RM3.out.below hb RM3.out.lt)
  have RA4 := Lib.hid (RA4.out.below hb RA4.out.lt)
  have RM4 := Lib.hid (RM4.out.below hb RM4.out.lt)
  have RA5 := Lib.hid (RA5.out.below hb RA5.out.lt)
  have RM5 := Lib.hid (RM5.out.below hb RM5.out.lt)
  have RA6 := Lib.hid (RA6.out.below hb RA6.out.lt)
  have RM6 := Lib.hid (RM6.out.below hb RM6.out.lt)
  have RA7 := Lib.hid ha
  have RM7 := Lib.hid hm
  have GA7 := Lib.hid (show w0.heap.size ≤ A7 from Nat.le_trans B7.out.size hA)
  have GM7 := Lib.hid (show w0.heap.size ≤ M7 from Nat.le_trans B7.out.size hM)
  have B8 := Lib.hid (B7.out.trans (hb.mono B7.out.size))
  clear ha hm hA hM hb
  go_wp2_with fail
  refine (mpyes w8).mono ?_
  rintro x w9 ⟨rfl, hb⟩
  have RA0 := Lib.hid (RA0.out.below hb RA0.out.lt)
  have RM0 := Lib.hid (RM0.out.below hb RM0.out.lt)
  have RA1 := Lib.hid (RA1.out.below hb RA1.out.lt)
  have RM1 := Lib.hid (RM1.out.below hb RM1.out.lt)
  have RA2 := Lib.hid (RA2.out.below hb RA2.out.lt)
  have RM2 := Lib.hid (RM2.out.below hb RM2.out.lt)
  have RA3 := Lib.hid (RA3.out.below hb RA3.out.lt)
  have RM3 := Lib.hid (RM3.out.below hb RM3.out.lt)
  have RA4 := Lib.hid (RA4.out.below hb RA4.out.lt)
  have RM4 := Lib.hid (RM4.out.below hb RM4.out.lt)
  have RA5 := Lib.hid (RA5.out.below hb RA5.out.lt)
  have RM5 := Lib.hid (RM5.out.below hb RM5.out.lt)
  have RA6 := Lib.hid (RA6.out.below hb RA6.out.lt)
  have RM6 := Lib.hid (RM6.out.below hb RM6.out.lt)
  have RA7 := Lib.hid (RA7.out.below hb RA7.out.lt)
  have RM7 := Lib.hid (RM7.out.below hb RM7.out.lt)
  have B9 := Lib.hid (B8.out.trans (hb.mono B8.out.size))
  clear hb
  go_wp2_with fail
  refine (mpent w9).mono ?_
  rintro x w10 ⟨rfl, hb⟩
  have RA0 := Lib.hid (RA0.out.below hb RA0.out.lt)
  have RM0 := Lib.hid (RM0.out.below hb RM0.out.lt)
  have RA1 := Lib.hid (RA1.out.below hb RA1.out.lt)
  have RM1 := Lib.hid (RM1.out.below hb RM1.out.lt)
  have RA2 := Lib.hid (RA2.out.below hb RA2.out.lt)
  have RM2 := Lib.hid (RM2.out.below hb RM2.out.lt)
  have RA3 := Lib.hid (RA3.out.below hb RA3.out.lt)
  have RM3 := Lib.hid (RM3.out.below hb RM3.out.lt)
  have RA4 := Lib.hid (RA4.out.below hb RA4.out.lt)
  have RM4 := Lib.hid (RM4.out.below hb RM4.out.lt)
  have RA5 := Lib.hid (RA5.out.below hb RA5.out.lt)
  have RM5 := Lib.hid (RM5.out.below hb RM5.out.lt)
  have RA6 := Lib.hid (RA6.out.below hb RA6.out.lt)
  have RM6 := Lib.hid (RM6.out.below hb RM6.out.lt)
  have RA7 := Lib.hid (RA7.out.below hb RA7.out.lt)
  have RM7 := Lib.hid (RM7.out.below hb RM7.out.lt)
  have B10 := Lib.hid (B9.out.trans (hb.mono B9.out.size))
  clear hb
  go_wp2_with fail
  refine (mpdat w10).mono ?_
  rintro x w11 ⟨rfl, hb⟩
  have RA0 := Lib.hid (RA0.out.below hb RA0.out.lt)
  have RM0 := Lib.hid (RM0.out.below hb RM0.out.lt)
  have RA1 := Lib.hid (RA1.out.below hb RA1.out.lt)
  have RM1 := Lib.hid (RM1.out.below hb RM1.out.lt)
  have RA2 := Lib.hid (RA2.out.below hb RA2.out.lt)
  have RM2 := Lib.hid (RM2.out.below hb RM2.out.lt)
  have RA3 := Lib.hid (RA3.out.below hb RA3.out.lt)
  have RM3 := Lib.hid (RM3.out.below hb RM3.out.lt)
  have RA4 := Lib.hid (RA4.out.below hb RA4.out.lt)
  have RM4 := Lib.hid (RM4.out.below hb RM4.out.lt)
  have RA5 := Lib.hid (RA5.out.below hb RA5.out.lt)
  have RM5 := Lib.hid (RM5.out.below hb RM5.out.lt)
  have RA6 := Lib.hid (RA6.out.below hb RA6.out.lt)
  have RM6 := Lib.hid (RM6.out.below hb RM6.out.lt)
  have RA7 := Lib.hid (RA7.out.below hb RA7.out.lt)
  have RM7 := Lib.hid (RM7.out.below hb RM7.out.lt)
  have B11 := Lib.hid (B10.out.trans (hb.mono B10.out.size))
  clear hb
  go_wp2_with fail
  refine (mpsum w11).mono ?_
  rintro x w12 ⟨rfl, hb⟩
  have RA0 := Lib.hid (RA0.out.below hb RA0.out.lt)
  have RM0 := Lib.hid (RM0.out.below hb RM0.out.lt)
  have RA1 := Lib.hid (RA1.out.below hb RA1.out.lt)
  have RM1 := Lib.hid (RM1.out.below hb RM1.out.lt)
  have RA2 := Lib.hid (RA2.out.below hb RA2.out.lt)
  have RM2 := Lib.hid (RM2.out.below hb RM2.out.lt)
  have RA3 := Lib.hid (RA3.out.below hb RA3.out.lt)
  have RM3 := Lib.hid (RM3.out.below hb RM3.out.lt)
  have RA4 := Lib.hid (RA4.out.below hb RA4.out.lt)
  have RM4 := Lib.hid (RM4.out.below hb RM4.out.lt)
  have RA5 := Lib.hid (RA5.out.below hb RA5.out.lt)
  have RM5 := Lib.hid (RM5.out.below hb RM5.out.lt)
  have RA6 := Lib.hid (RA6.out.below hb RA6.out.lt)
  have RM6 := Lib.hid (RM6.out.below hb RM6.out.lt)
  have RA7 := Lib.hid (RA7.out.below hb RA7.out.lt)
  have RM7 := Lib.hid (RM7.out.below hb RM7.out.lt)
  have B12 := Lib.hid (B11.out.trans (hb.mono B11.out.size))
  clear hb
  go_wp2_with ((with_reducible refine wpList_buildSlice (o := ⟨some 13, _, _, _, _, _⟩) rfl 42 49 12 _ rfl (fdsC (fun i => [A0, A1, A2, A3, A4, A5, A6, A7].getD i 0) (fun i => [M0, M1, M2, M3, M4, M5, M6, M7].getD i 0)).toArray i0 _ Try.underlying42 IFO.out IZ0.out ?_ ?_ ?_ ?_); (focus (rw [IZ1.out]; decide)); (focus (rw [IZ1.out]; decide)); (focus (rw [IZ1.out]; simp only [List.map_toArray, List.map_cons, List.map_nil]; exact fill12 A0 M0 A1 M1 A2 M2 A3 M3 A4 M4 A5 M5 A6 M6 A7 M7)))
  go_ret
  have hnew := (Below.refl w12.heap.size w12).alloc (Nat.le_refl _) (.cells (fdsC (fun i => [A0, A1, A2, A3, A4, A5, A6, A7].getD i 0) (fun i => [M0, M1, M2, M3, M4, M5, M6, M7].getD i 0)).toArray 49)
  refine ⟨w12.heap.size, (fun i => [A0, A1, A2, A3, A4, A5, A6, A7].getD i 0), (fun i => [M0, M1, M2, M3, M4, M5, M6, M7].getD i 0), rfl, Row.new _ _ _, ⟨fun i hi => ?_, fun i hi => ?_⟩, B12.out.size, B12.out.trans (hnew.mono B12.out.size)⟩
  · match i, hi with
    | 0, _ => exact ⟨RA0.out.below hnew RA0.out.lt, GA0.out⟩
    | 1, _ => exact ⟨RA1.out.below hnew RA1.out.lt, GA1.out⟩
    | 2, _ => exact ⟨RA2.out.below hnew RA2.out.lt, GA2.out⟩
    | 3, _ => exact ⟨RA3.out.below hnew RA3.out.lt, GA3.out⟩
    | 4, _ => exact ⟨RA4.out.below hnew RA4.out.lt, GA4.out⟩
    | 5, _ => exact ⟨RA5.out.below hnew RA5.out.lt, GA5.out⟩
    | 6, _ => exact ⟨RA6.out.below hnew RA6.out.lt, GA6.out⟩
    | 7, _ => exact ⟨RA7.out.below hnew RA7.out.lt, GA7.out⟩
  · match i, hi with
    | 0, _ => exact ⟨RM0.out.below hnew RM0.out.lt, GM0.out⟩
    | 1, _ => exact ⟨RM1.out.below hnew RM1.out.lt, GM1.out⟩
    | 2, _ => exact ⟨RM2.out.below hnew RM2.out.lt, GM2.out⟩
    | 3, _ => exact ⟨RM3.out.below hnew RM3.out.lt, GM3.out⟩
    | 4, _ => exact ⟨RM4.out.below hnew RM4.out.lt, GM4.out⟩
    | 5, _ => exact ⟨RM5.out.below hnew RM5.out.lt, GM5.out⟩
    | 6, _ => exact ⟨RM6.out.below hnew RM6.out.lt, GM6.out⟩
    | 7, _ => exact ⟨RM7.out.below hnew RM7.out.lt, GM7.out⟩
set_option maxRecDepth 100000 in
set_option maxHeartbeats 4000000 in
theorem mpd3 (b : Nat) (a : Option Addr) (n c : Nat) (d : List UInt8) (sa : Option Addr) (sn sc : Nat) (l : List UInt8) (w : World) (hz : w.cell? ⟨b, 11, none⟩ = some (.slice a n c)) (hd : Rd w a n c d) (hn : n ≤ 1000000) (hl : Rd w sa sn sc l) (hm : sn ≤ 70000000000000) :
    Calls Try.prog 71 #[.slice sa sn sc, .pointer (some ⟨b, 0, none⟩)] w fun x w' => ∃ v, x = .returned v ∧ Fr w' w.heap.size v (l ++ (enc d.length ++ d)) ∧ Below w.heap.size w w' := by
  have hdl := hd.hlen
  have cv := conv_rd hd
  have hsz : (str d).size = n := by show d.toArray.size = n; simp [hdl]
  have HN := Lib.hid (ptext sa sn sc (str d) l w hl (by omega) hm)
  have HEL := P.enc_len d.length (by omega)
  have HL := Lib.hid hl.hlen
  have h5 : (str d).data.toList = d := rfl
  rw [hsz, h5] at HN
  rw [hdl] at HEL ⊢
  clear hl hd
  go_enter Try.func71, Try.ntmps71
  go_wp2_with (go_at_call 72; refine HN.out.mono ?_; rintro x w5 ⟨rfl, hk, hb, hs⟩; have K5 := Lib.hid hk; have B5 := Lib.hid hb; clear hk hb hs)
  go_ret
  exact ⟨_, rfl, fr_of_blk K5.out (Nat.le_refl _) _ (by simp only [List.length_append, HL.out, hdl]) (by omega), B5.out⟩
/-- is field i of a message within its limits -/
def fitQ (i : Nat) (q : MF) : Bool := if i = 0 then inV q.fr 0 6 else if i = 1 then inV q.dt 0 6 else if i = 2 then inV q.tm 0 2147483648 else if i = 3 then inV q.ix 0 2147483648 else if i = 4 then inV q.lt 0 2147483648 else if i = 5 then inV q.cm 0 2147483648
  else if i = 6 then inV q.rn 0 2147483648 else if i = 7 then inV q.cf 0 127 else if i = 8 then true else if i = 9 then decide (q.l.length ≤ 8) && q.l.all okE else if i = 10 then decide (q.d.length ≤ 131072) else (decide (q.s.length = 0) || decide (q.s.length = 32))
/-- is field i of two messages the same -/
def sameQ (i : Nat) (a b : MF) : Bool := if i = 0 then a.fr == b.fr else if i = 1 then a.dt == b.dt else if i = 2 then a.tm == b.tm else if i = 3 then a.ix == b.ix else if i = 4 then a.lt == b.lt else if i = 5 then a.cm == b.cm
  else if i = 6 then a.rn == b.rn else if i = 7 then a.cf == b.cf else if i = 8 then a.ok == b.ok else if i = 9 then decide (a.l = b.l) else if i = 10 then decide (a.d = b.d) else decide (a.s = b.s)
/-- field i's bytes -/
def putQ (i : Nat) (q : MF) : List UInt8 := if i = 0 then encZ q.fr else if i = 1 then encZ q.dt else if i = 2 then encZ q.tm else putM q (i - 3)
/-- field i is read -/
def takeQ (i : Nat) (q : MF × List UInt8 × Int) : MF × List UInt8 × Int :=
  if i = 0 then ({ q.1 with fr := ((numR 6 q.2.1 q.2.2).1 : Int) }, (numR 6 q.2.1 q.2.2).2) else if i = 1 then ({ q.1 with dt := ((numR 6 q.2.1 q.2.2).1 : Int) }, (numR 6 q.2.1 q.2.2).2)
  else if i = 2 then ({ q.1 with tm := ((numR 2147483648 q.2.1 q.2.2).1 : Int) }, (numR 2147483648 q.2.1 q.2.2).2) else takeM q (i - 3)
theorem below12 {i : Nat} (h : i < 12) : i = 0 ∨ i = 1 ∨ i = 2 ∨ i = 3 ∨ i = 4 ∨ i = 5 ∨ i = 6 ∨ i = 7 ∨ i = 8 ∨ i = 9 ∨ i = 10 ∨ i = 11 := by omega
theorem ents_all {w : World} {L : List (En × List UInt8)} (hf : ∀ p ∈ L, EnF w p.1 p.2) : (L.map pe).all okE = L.all (fun p => enOk p.1) := by
  rw [List.all_map, Bool.eq_iff_iff, List.all_eq_true, List.all_eq_true]
  constructor
  · intro h p hp; rw [← okE_pe (hf p hp)]; exact h p hp
  · intro h p hp; show okE (pe p) = true; rw [show pe p = pe (p.1, p.2) from rfl, okE_pe (hf p hp)]; exact h p hp
theorem ents_codes (L : List (En × List UInt8)) : (L.map pe).flatMap codeP = L.flatMap (fun p => codeE p.1 p.2) := by
  rw [List.flatMap_map]
  congr 1
  funext p
  exact codeP_pe p.1 p.2
theorem fn_ent1 (k : Nat) (hk : k < 12) : Ent (fn1 k) := by
  rcases below12 hk with rfl | rfl | rfl | rfl | rfl | rfl | rfl | rfl | rfl | rfl | rfl | rfl <;> exact fun _ _ => rfl
theorem fn_ent2 (k : Nat) (hk : k < 12) : Ent (fn2 k) := by
  rcases below12 hk with rfl | rfl | rfl | rfl | rfl | rfl | rfl | rfl | rfl | rfl | rfl | rfl <;> exact fun _ _ => rfl
theorem fn_ent3 (k : Nat) (hk : k < 12) : Ent (fn3 k) := by
  rcases below12 hk with rfl | rfl | rfl | rfl | rfl | rfl | rfl | rfl | rfl | rfl | rfl | rfl <;> exact fun _ _ => rfl
theorem fn_ent4 (k : Nat) (hk : k < 12) : Ent (fn4 k) := by
  rcases below12 hk with rfl | rfl | rfl | rfl | rfl | rfl | rfl | rfl | rfl | rfl | rfl | rfl <;> exact fun _ _ => rfl
set_option maxRecDepth 100000 in
set_option maxHeartbeats 4000000 in
theorem fitsK (k : Nat) (hk : k < 12) (A M : Nat → Nat) (base b : Nat) (m : Ms) (d : List UInt8) (L : List (En × List UInt8)) (w : World) (hF : FdR w base A M) (hR : Row w b 25 m.cells) (hf : MsF w m d L) :
    Calls Try.prog (fn1 k) (#[.pointer (some ⟨b, 0, none⟩)] ++ fc1 A M k) w fun x w' => x = .returned (.bool (fitQ k (m.pl d L))) ∧ Below w.heap.size w w' := by
  obtain ⟨c0, c1, c2, c3, c4, c5, c6, c7, c8, c9, c10, c11, c12⟩ := hR.q13
  rcases below12 hk with rfl | rfl | rfl | rfl | rfl | rfl | rfl | rfl | rfl | rfl | rfl | rfl
  · show Calls Try.prog 49 #[.pointer (some ⟨b, 0, none⟩), .pointer (some ⟨(A 0), 0, none⟩), .pointer (some ⟨(M 0), 0, none⟩)] w fun x w' => x = .returned (.bool (inV m.fr 0 6)) ∧ Below w.heap.size w w'
    exact mpn1 29 1 mpat1 (A 0) b (M 0) m.fr 6 w c1 (hF.m 0 (by decide)).1.k0 (hF.a 0 (by decide)).1.k0
  · show Calls Try.prog 49 #[.pointer (some ⟨b, 0, none⟩), .pointer (some ⟨(A 1), 0, none⟩), .pointer (some ⟨(M 1), 0, none⟩)] w fun x w' => x = .returned (.bool (inV m.dt 0 6)) ∧ Below w.heap.size w w'
    exact mpn1 30 2 mpat2 (A 1) b (M 1) m.dt 6 w c2 (hF.m 1 (by decide)).1.k0 (hF.a 1 (by decide)).1.k0
  · show Calls Try.prog 49 #[.pointer (some ⟨b, 0, none⟩), .pointer (some ⟨(A 2), 0, none⟩), .pointer (some ⟨(M 2), 0, none⟩)] w fun x w' => x = .returned (.bool (inV m.tm 0 2147483648)) ∧ Below w.heap.size w w'
    exact mpn1 31 3 mpat3 (A 2) b (M 2) m.tm 2147483648 w c3 (hF.m 2 (by decide)).1.k0 (hF.a 2 (by decide)).1.k0
  · show Calls Try.prog 49 #[.pointer (some ⟨b, 0, none⟩), .pointer (some ⟨(A 3), 0, none⟩), .pointer (some ⟨(M 3), 0, none⟩)] w fun x w' => x = .returned (.bool (inV m.ix 0 2147483648)) ∧ Below w.heap.size w w'
    exact mpn1 32 4 mpat4 (A 3) b (M 3) m.ix 2147483648 w c4 (hF.m 3 (by decide)).1.k0 (hF.a 3 (by decide)).1.k0
  · show Calls Try.prog 49 #[.pointer (some ⟨b, 0, none⟩), .pointer (some ⟨(A 4), 0, none⟩), .pointer (some ⟨(M 4), 0, none⟩)] w fun x w' => x = .returned (.bool (inV m.lt 0 2147483648)) ∧ Below w.heap.size w w'
    exact mpn1 33 5 mpat5 (A 4) b (M 4) m.lt 2147483648 w c5 (hF.m 4 (by decide)).1.k0 (hF.a 4 (by decide)).1.k0
  · show Calls Try.prog 49 #[.pointer (some ⟨b, 0, none⟩), .pointer (some ⟨(A 5), 0, none⟩), .pointer (some ⟨(M 5), 0, none⟩)] w fun x w' => x = .returned (.bool (inV m.cm 0 2147483648)) ∧ Below w.heap.size w w'
    exact mpn1 34 6 mpat6 (A 5) b (M 5) m.cm 2147483648 w c6 (hF.m 5 (by decide)).1.k0 (hF.a 5 (by decide)).1.k0
  · show Calls Try.prog 49 #[.pointer (some ⟨b, 0, none⟩), .pointer (some ⟨(A 6), 0, none⟩), .pointer (some ⟨(M 6), 0, none⟩)] w fun x w' => x = .returned (.bool (inV m.rn 0 2147483648)) ∧ Below w.heap.size w w'
    exact mpn1 35 7 mpat7 (A 6) b (M 6) m.rn 2147483648 w c7 (hF.m 6 (by decide)).1.k0 (hF.a 6 (by decide)).1.k0
  · show Calls Try.prog 49 #[.pointer (some ⟨b, 0, none⟩), .pointer (some ⟨(A 7), 0, none⟩), .pointer (some ⟨(M 7), 0, none⟩)] w fun x w' => x = .returned (.bool (inV m.cf 0 127)) ∧ Below w.heap.size w w'
    exact mpn1 36 8 mpat8 (A 7) b (M 7) m.cf 127 w c8 (hF.m 7 (by decide)).1.k0 (hF.a 7 (by decide)).1.k0
  · show Calls Try.prog 53 #[.pointer (some ⟨b, 0, none⟩)] w fun x w' => x = .returned (.bool true) ∧ Below w.heap.size w w'
    exact mpy1 b w
  · have h1 : fitQ 9 (m.pl d L) = entsOk m.en L := by
      show (decide ((L.map pe).length ≤ 8) && (L.map pe).all okE) = _
      rw [ents_all hf.es.hfit, List.length_map, hf.es.hlen]; rfl
    rw [h1]
    show Calls Try.prog 59 #[.pointer (some ⟨b, 0, none⟩)] w fun x w' => x = .returned (.bool (entsOk m.en L)) ∧ Below w.heap.size w w'
    exact mpe1 b m.ea m.en m.ec L w c10 hf.es
  · have h1 : fitQ 10 (m.pl d L) = decide (m.n ≤ 131072) := by
      show decide (d.length ≤ 131072) = _
      rw [hf.rd.hlen]
    rw [h1]
    show Calls Try.prog 68 #[.pointer (some ⟨b, 0, none⟩)] w fun x w' => x = .returned (.bool (decide (m.n ≤ 131072))) ∧ Below w.heap.size w w'
    exact mpd1 b m.a m.n m.c w c11
  · show Calls Try.prog 75 #[.pointer (some ⟨b, 0, none⟩)] w fun x w' => x = .returned (.bool (decide (m.s.data.toList.length = 0) || decide (m.s.data.toList.length = 32))) ∧ Below w.heap.size w w'
    exact mps1 b m.s w c12
set_option maxRecDepth 100000 in
set_option maxHeartbeats 4000000 in
theorem sameK (k : Nat) (hk : k < 12) (A M : Nat → Nat) (base b b2 : Nat) (m m2 : Ms) (d d2 : List UInt8) (L L2 : List (En × List UInt8)) (w : World) (hF : FdR w base A M) (hR : Row w b 25 m.cells) (hf : MsF w m d L) (hR2 : Row w b2 25 m2.cells) (hf2 : MsF w m2 d2 L2) (hen : m.en ≤ 1000000) :
    Calls Try.prog (fn2 k) (#[.pointer (some ⟨b, 0, none⟩), .pointer (some ⟨b2, 0, none⟩)] ++ fc2 A k) w fun x w' => x = .returned (.bool (sameQ k (m.pl d L) (m2.pl d2 L2))) ∧ Below w.heap.size w w' := by
  obtain ⟨c0, c1, c2, c3, c4, c5, c6, c7, c8, c9, c10, c11, c12⟩ := hR.q13
  obtain ⟨e0, e1, e2, e3, e4, e5, e6, e7, e8, e9, e10, e11, e12⟩ := hR2.q13
  rcases below12 hk with rfl | rfl | rfl | rfl | rfl | rfl | rfl | rfl | rfl | rfl | rfl | rfl
  · show Calls Try.prog 50 #[.pointer (some ⟨b, 0, none⟩), .pointer (some ⟨b2, 0, none⟩), .pointer (some ⟨(A 0), 0, none⟩)] w fun x w' => x = .returned (.bool (m.fr == m2.fr)) ∧ Below w.heap.size w w'
    exact mpn2 29 1 mpat1 (A 0) b b2 m.fr m2.fr w c1 e1 (hF.a 0 (by decide)).1.k0
  · show Calls Try.prog 50 #[.pointer (some ⟨b, 0, none⟩), .pointer (some ⟨b2, 0, none⟩), .pointer (some ⟨(A 1), 0, none⟩)] w fun x w' => x = .returned (.bool (m.dt == m2.dt)) ∧ Below w.heap.size w w'
    exact mpn2 30 2 mpat2 (A 1) b b2 m.dt m2.dt w c2 e2 (hF.a 1 (by decide)).1.k0
  · show Calls Try.prog 50 #[.pointer (some ⟨b, 0, none⟩), .pointer (some ⟨b2, 0, none⟩), .pointer (some ⟨(A 2), 0, none⟩)] w fun x w' => x = .returned (.bool (m.tm == m2.tm)) ∧ Below w.heap.size w w'
    exact mpn2 31 3 mpat3 (A 2) b b2 m.tm m2.tm w c3 e3 (hF.a 2 (by decide)).1.k0
  · show Calls Try.prog 50 #[.pointer (some ⟨b, 0, none⟩), .pointer (some ⟨b2, 0, none⟩), .pointer (some ⟨(A 3), 0, none⟩)] w fun x w' => x = .returned (.bool (m.ix == m2.ix)) ∧ Below w.heap.size w w'
    exact mpn2 32 4 mpat4 (A 3) b b2 m.ix m2.ix w c4 e4 (hF.a 3 (by decide)).1.k0
  · show Calls Try.prog 50 #[.pointer (some ⟨b, 0, none⟩), .pointer (some ⟨b2, 0, none⟩), .pointer (some ⟨(A 4), 0, none⟩)] w fun x w' => x = .returned (.bool (m.lt == m2.lt)) ∧ Below w.heap.size w w'
    exact mpn2 33 5 mpat5 (A 4) b b2 m.lt m2.lt w c5 e5 (hF.a 4 (by decide)).1.k0
  · show Calls Try.prog 50 #[.pointer (some ⟨b, 0, none⟩), .pointer (some ⟨b2, 0, none⟩), .pointer (some ⟨(A 5), 0, none⟩)] w fun x w' => x = .returned (.bool (m.cm == m2.cm)) ∧ Below w.heap.size w w'
    exact mpn2 34 6 mpat6 (A 5) b b2 m.cm m2.cm w c6 e6 (hF.a 5 (by decide)).1.k0
  · show Calls Try.prog 50 #[.pointer (some ⟨b, 0, none⟩), .pointer (some ⟨b2, 0, none⟩), .pointer (some ⟨(A 6), 0, none⟩)] w fun x w' => x = .returned (.bool (m.rn == m2.rn)) ∧ Below w.heap.size w w'
    exact mpn2 35 7 mpat7 (A 6) b b2 m.rn m2.rn w c7 e7 (hF.a 6 (by decide)).1.k0
  · show Calls Try.prog 50 #[.pointer (some ⟨b, 0, none⟩), .pointer (some ⟨b2, 0, none⟩), .pointer (some ⟨(A 7), 0, none⟩)] w fun x w' => x = .returned (.bool (m.cf == m2.cf)) ∧ Below w.heap.size w w'
    exact mpn2 36 8 mpat8 (A 7) b b2 m.cf m2.cf w c8 e8 (hF.a 7 (by decide)).1.k0
  · show Calls Try.prog 54 #[.pointer (some ⟨b, 0, none⟩), .pointer (some ⟨b2, 0, none⟩)] w fun x w' => x = .returned (.bool (m.ok == m2.ok)) ∧ Below w.heap.size w w'
    exact mpy2 b b2 m.ok m2.ok w c9 e9
  · show Calls Try.prog 61 #[.pointer (some ⟨b, 0, none⟩), .pointer (some ⟨b2, 0, none⟩)] w fun x w' => x = .returned (.bool (decide (L.map pe = L2.map pe))) ∧ Below w.heap.size w w'
    exact mpe2 b b2 m.ea m2.ea m.en m2.en m.ec m2.ec L L2 w c10 e10 hf.es hf2.es hen
  · show Calls Try.prog 69 #[.pointer (some ⟨b, 0, none⟩), .pointer (some ⟨b2, 0, none⟩)] w fun x w' => x = .returned (.bool (decide (d = d2))) ∧ Below w.heap.size w w'
    exact mpd2 b b2 m.a m2.a m.n m2.n m.c m2.c d d2 w c11 e11 hf.rd hf2.rd
  · have h1 : sameQ 11 (m.pl d L) (m2.pl d2 L2) = (m.s.toList == m2.s.toList) := by
      rw [str_eqb2]; rfl
    rw [h1]
    show Calls Try.prog 76 #[.pointer (some ⟨b, 0, none⟩), .pointer (some ⟨b2, 0, none⟩)] w fun x w' => x = .returned (.bool (m.s.toList == m2.s.toList)) ∧ Below w.heap.size w w'
    exact mps2 b b2 m.s m2.s w c12 e12
set_option maxRecDepth 100000 in
set_option maxHeartbeats 4000000 in
theorem putK (k : Nat) (hk : k < 12) (A M : Nat → Nat) (base b : Nat) (m : Ms) (d : List UInt8) (L : List (En × List UInt8)) (sa : Option Addr) (sn sc : Nat) (S : List UInt8) (w : World) (hF : FdR w base A M) (hR : Row w b 25 m.cells) (hf : MsF w m d L) (hS : Rd w sa sn sc S) (hsn : sn ≤ 70000000000000) (h9 : k = 9 → sn ≤ 100000) (hfit : fitQ k (m.pl d L) = true) :
    Calls Try.prog (fn3 k) (#[.slice sa sn sc, .pointer (some ⟨b, 0, none⟩)] ++ fc2 A k) w fun x w' => ∃ v, x = .returned v ∧ Fr w' w.heap.size v (S ++ putQ k (m.pl d L)) ∧ Below w.heap.size w w' := by
  obtain ⟨c0, c1, c2, c3, c4, c5, c6, c7, c8, c9, c10, c11, c12⟩ := hR.q13
  rcases below12 hk with rfl | rfl | rfl | rfl | rfl | rfl | rfl | rfl | rfl | rfl | rfl | rfl
  · show Calls Try.prog 51 #[.slice sa sn sc, .pointer (some ⟨b, 0, none⟩), .pointer (some ⟨(A 0), 0, none⟩)] w fun x w' => ∃ v, x = .returned v ∧ Fr w' w.heap.size v (S ++ encZ m.fr) ∧ Below w.heap.size w w'
    exact mpn3 29 1 mpat1 (A 0) b m.fr sa sn sc S w c1 hS hf.fr.2 (by omega) (hF.a 0 (by decide)).1.k0
  · show Calls Try.prog 51 #[.slice sa sn sc, .pointer (some ⟨b, 0, none⟩), .pointer (some ⟨(A 1), 0, none⟩)] w fun x w' => ∃ v, x = .returned v ∧ Fr w' w.heap.size v (S ++ encZ m.dt) ∧ Below w.heap.size w w'
    exact mpn3 30 2 mpat2 (A 1) b m.dt sa sn sc S w c2 hS hf.dt.2 (by omega) (hF.a 1 (by decide)).1.k0
  · show Calls Try.prog 51 #[.slice sa sn sc, .pointer (some ⟨b, 0, none⟩), .pointer (some ⟨(A 2), 0, none⟩)] w fun x w' => ∃ v, x = .returned v ∧ Fr w' w.heap.size v (S ++ encZ m.tm) ∧ Below w.heap.size w w'
    exact mpn3 31 3 mpat3 (A 2) b m.tm sa sn sc S w c3 hS hf.tm.2 (by omega) (hF.a 2 (by decide)).1.k0
  · show Calls Try.prog 51 #[.slice sa sn sc, .pointer (some ⟨b, 0, none⟩), .pointer (some ⟨(A 3), 0, none⟩)] w fun x w' => ∃ v, x = .returned v ∧ Fr w' w.heap.size v (S ++ encZ m.ix) ∧ Below w.heap.size w w'
    exact mpn3 32 4 mpat4 (A 3) b m.ix sa sn sc S w c4 hS hf.ix.2 (by omega) (hF.a 3 (by decide)).1.k0
  · show Calls Try.prog 51 #[.slice sa sn sc, .pointer (some ⟨b, 0, none⟩), .pointer (some ⟨(A 4), 0, none⟩)] w fun x w' => ∃ v, x = .returned v ∧ Fr w' w.heap.size v (S ++ encZ m.lt) ∧ Below w.heap.size w w'
    exact mpn3 33 5 mpat5 (A 4) b m.lt sa sn sc S w c5 hS hf.lt.2 (by omega) (hF.a 4 (by decide)).1.k0
  · show Calls Try.prog 51 #[.slice sa sn sc, .pointer (some ⟨b, 0, none⟩), .pointer (some ⟨(A 5), 0, none⟩)] w fun x w' => ∃ v, x = .returned v ∧ Fr w' w.heap.size v (S ++ encZ m.cm) ∧ Below w.heap.size w w'
    exact mpn3 34 6 mpat6 (A 5) b m.cm sa sn sc S w c6 hS hf.cm.2 (by omega) (hF.a 5 (by decide)).1.k0
  · show Calls Try.prog 51 #[.slice sa sn sc, .pointer (some ⟨b, 0, none⟩), .pointer (some ⟨(A 6), 0, none⟩)] w fun x w' => ∃ v, x = .returned v ∧ Fr w' w.heap.size v (S ++ encZ m.rn) ∧ Below w.heap.size w w'
    exact mpn3 35 7 mpat7 (A 6) b m.rn sa sn sc S w c7 hS hf.rn.2 (by omega) (hF.a 6 (by decide)).1.k0
  · show Calls Try.prog 51 #[.slice sa sn sc, .pointer (some ⟨b, 0, none⟩), .pointer (some ⟨(A 7), 0, none⟩)] w fun x w' => ∃ v, x = .returned v ∧ Fr w' w.heap.size v (S ++ encZ m.cf) ∧ Below w.heap.size w w'
    exact mpn3 36 8 mpat8 (A 7) b m.cf sa sn sc S w c8 hS hf.cf.2 (by omega) (hF.a 7 (by decide)).1.k0
  · show Calls Try.prog 55 #[.slice sa sn sc, .pointer (some ⟨b, 0, none⟩)] w fun x w' => ∃ v, x = .returned v ∧ Fr w' w.heap.size v (S ++ [if m.ok then 1 else 0]) ∧ Below w.heap.size w w'
    exact mpy3 b m.ok sa sn sc S w c9 hS hsn
  · have h1 : putQ 9 (m.pl d L) = enc m.en ++ L.flatMap (fun p => codeE p.1 p.2) := by
      show enc (L.map pe).length ++ (L.map pe).flatMap codeP = _
      rw [ents_codes, List.length_map, hf.es.hlen]
    have h2 : entsOk m.en L = true := by
      have : (decide ((L.map pe).length ≤ 8) && (L.map pe).all okE) = true := hfit
      rw [ents_all hf.es.hfit, List.length_map, hf.es.hlen] at this; exact this
    rw [h1]
    show Calls Try.prog 64 #[.slice sa sn sc, .pointer (some ⟨b, 0, none⟩)] w fun x w' => ∃ v, x = .returned v ∧ Fr w' w.heap.size v (S ++ (enc m.en ++ L.flatMap (fun p => codeE p.1 p.2))) ∧ Below w.heap.size w w'
    exact mpe3 b m.ea m.en m.ec L sa sn sc S w c10 hS (h9 rfl) hf.es h2
  · have h2 : d.length ≤ 131072 := of_decide_eq_true hfit
    rw [hf.rd.hlen] at h2
    show Calls Try.prog 71 #[.slice sa sn sc, .pointer (some ⟨b, 0, none⟩)] w fun x w' => ∃ v, x = .returned v ∧ Fr w' w.heap.size v (S ++ (enc d.length ++ d)) ∧ Below w.heap.size w w'
    exact mpd3 b m.a m.n m.c d sa sn sc S w c11 hf.rd (by omega) hS hsn
  · have h2 : m.s.size ≤ 32 := by
      have h3 : (decide (m.s.data.toList.length = 0) || decide (m.s.data.toList.length = 32)) = true := hfit
      have h5 : m.s.data.toList.length = m.s.size := rfl
      rw [h5] at h3
      simp only [Bool.or_eq_true, decide_eq_true_eq] at h3
      omega
    show Calls Try.prog 77 #[.slice sa sn sc, .pointer (some ⟨b, 0, none⟩)] w fun x w' => ∃ v, x = .returned v ∧ Fr w' w.heap.size v (S ++ (enc m.s.size ++ m.s.data.toList)) ∧ Below w.heap.size w w'
    exact mps3 b m.s sa sn sc S w c12 hS (by omega) hsn
end Go.Proofs.Ytdcioeoofngibaa.W
