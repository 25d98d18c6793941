import Derived.Test.YtkfhppbmnjmnoaaGreatDoorCkO
import Derived.Test.YtkfhppbmnjmnoaaGreatDoorStq
import Derived.Test.YtkfhppbmnjmnoaaGreatDoorByc
import Derived.Test.YtkfhppbmnjmnoaaGreatDoorArr
import Derived.Test.YtkfhppbmnjmnoaaGreatDoorTail
import Derived.Test.YtkfhppbmnjmnoaaGreatDoorSt
import Derived.Test.YtkfhppbmnjmnoaaGreatDoorLg
import Derived.Test.YtkfhppbmnjmnoaaGreatDoorBi
import Derived.Test.YtkfhppbmnjmnoaaGreatDoorCavW
import Derived.Test.YtkfhppbmnjmnoaaGreatDoorLn
import Derived.Test.YtkfhppbmnjmnoaaGreatDoorStr
import Derived.Test.YtkfhppbmnjmnoaaGreatDoorStl
import Derived.Test.YtkfhppbmnjmnoaaGreatDoorIz
/- LAYER 28 (chunk): the program's small functions. -/
set_option linter.unusedSimpArgs false
set_option linter.unusedVariables false
namespace Go.Proofs.YtkfhppbmnjmnoaaGreatDoor.W
open Go Go.ChangeShapes Go.WideShapes Go.ChangeAt Go.RowKit
open Go.Proofs.YtkfhppbmnjmnoaaGreatDoor.P (shaL shaL_len)

theorem Row.k2 {w : World} {g : Nat} {t : TypeId} {a b : Value} (h : Row w g t [a, b]) : w.cell? ⟨g, 0, none⟩ = some a ∧ w.cell? ⟨g, 1, none⟩ = some b := by
  refine ⟨?_, ?_⟩ <;> (rw [h.cellV]; rfl)
theorem Row.k4 {w : World} {g : Nat} {t : TypeId} {a b c d : Value} (h : Row w g t [a, b, c, d]) : w.cell? ⟨g, 0, none⟩ = some a ∧ w.cell? ⟨g, 1, none⟩ = some b ∧ w.cell? ⟨g, 2, none⟩ = some c ∧ w.cell? ⟨g, 3, none⟩ = some d := by
  refine ⟨?_, ?_, ?_, ?_⟩ <;> (rw [h.cellV]; rfl)
theorem fr_one {w : World} {base : Nat} {v : Value} {l : List UInt8} (h : Fr w base v l) : v.oneCell' = true := by
  obtain ⟨a, c, rfl, -⟩ := h.form; rfl
theorem fr_cell {w : World} {base : Nat} {v : Value} {l : List UInt8} (h : Fr w base v l) : v.cells = #[v] := by
  obtain ⟨a, c, rfl, -⟩ := h.form; rfl
theorem lso_cell {α : Type} {E : El α} {w : World} {base : Nat} {v : Value} {L : List α} (h : LsO E w base v L) : v.oneCell' = true := by
  obtain ⟨-, h2⟩ := h
  rcases h2 with ⟨rfl, -⟩ | ⟨g, c, cur, rfl, -⟩ <;> rfl
theorem lso_cells {α : Type} {E : El α} {w : World} {base : Nat} {v : Value} {L : List α} (h : LsO E w base v L) : v.cells = #[v] := by
  obtain ⟨-, h2⟩ := h
  rcases h2 with ⟨rfl, -⟩ | ⟨g, c, cur, rfl, -⟩ <;> rfl
theorem Row.keepK {w w' : World} {g : Nat} {t : TypeId} {L : List Value} {v : Value} (h : Row w g t L) (k : Kp v w w') (hn : v.ownBlock ≠ some g) : Row w' g t L := (k g h.lt hn).trans h
theorem size_bs : (Tryz.prog.info? 30).map (·.size) = some 1 := by kernel_rfl
theorem size_str : (Tryz.prog.info? 9).map (·.size) = some 1 := by kernel_rfl
theorem size_int : (Tryz.prog.info? 3).map (·.size) = some 1 := by kernel_rfl
theorem size_is : (Tryz.prog.info? 31).map (·.size) = some 1 := by kernel_rfl
theorem fi_one (s : ByteArray) (a : Value) (su : Nat) (t : Value) (ha : a.oneCell' = true) (ht : t.oneCell' = true) : ∀ v ∈ fiC s a su t, v.oneCell' = true := by
  intro v hv; simp at hv; rcases hv with rfl | rfl | rfl | rfl
  · rfl
  · exact ha
  · rfl
  · exact ht
theorem neq_map_nil (w : World) (m : Option Nat) : (binOp .neq 64 (.map m) (.map none)).run Tryz.prog w = .ok (.bool m.isSome) w := by
  have h : ∀ d : Nat, (Op.equalIn (d + 1) 64 (.map m) (.map none)).run Tryz.prog w = .ok m.isNone w := fun d => by
    cases m <;> simp [Op.equalIn, run_underlying map_type]
  simp only [binOp]
  simp [Op.equal, Op.maxDepth, h 9999]
theorem eqM_dec (a b : ByteArray) : (a.toList == b.toList) = decide (a = b) := by
  rw [Bool.eq_iff_iff]
  exact (eqM_iff a b).trans (by simp)
set_option maxRecDepth 100000 in
set_option maxHeartbeats 4000000 in
theorem cready (p m : Nat) (room : Int) (w : World) (h : Row w p 66 [.int .i64 room, .map (some m)]) :
    Calls Tryz.prog 50 #[.pointer (some ⟨p, 0, none⟩)] w fun e w' => e = .returned (.bool true) ∧ w = w' := by
  obtain ⟨c0, c1⟩ := h.k2
  have hnm := fun w => neq_map_nil w (some m)
  clear h
  go_enter Tryz.func50, Tryz.ntmps50
  go_wp2_with fail
  go_ret
  exact ⟨rfl, rfl⟩
set_option maxRecDepth 100000 in
set_option maxHeartbeats 4000000 in
theorem cready_nil (w : World) : Calls Tryz.prog 50 #[.pointer none] w fun e w' => e = .returned (.bool false) ∧ w = w' := by
  go_enter Tryz.func50, Tryz.ntmps50
  go_wp2_with fail
  go_ret
  exact ⟨rfl, rfl⟩
set_option maxRecDepth 100000 in
set_option maxHeartbeats 4000000 in
theorem cready_zero (p : Nat) (w : World) (c1 : w.cell? ⟨p, 1, none⟩ = some (.map none)) :
    Calls Tryz.prog 50 #[.pointer (some ⟨p, 0, none⟩)] w fun e w' => e = .returned (.bool false) ∧ w = w' := by
  have hnm := fun w => neq_map_nil w none
  go_enter Tryz.func50, Tryz.ntmps50
  go_wp2_with fail
  go_ret
  exact ⟨rfl, rfl⟩
theorem modulo_eq (i n : Int) (h : 0 < n) : ((i.tmod n) + n).tmod n = i % n := by
  have h1 := Int.tmod_lt_of_pos i h
  have h2 : -n < i.tmod n := by
    by_cases h0 : 0 ≤ i
    · have := Int.tmod_nonneg n h0; omega
    · have h3 : 0 ≤ (-i).tmod n := Int.tmod_nonneg n (by omega)
      have h4 := Int.tmod_lt_of_pos (-i) h
      rw [Int.neg_tmod] at h3 h4
      omega
  rw [Int.tmod_eq_emod_of_nonneg (by omega), Int.add_emod_right]
  by_cases h0 : 0 ≤ i
  · rw [Int.tmod_eq_emod_of_nonneg h0, Int.emod_emod_of_dvd _ (Int.dvd_refl n)]
  · have h5 : i = n * (i.tdiv n) + i.tmod n := (Int.mul_tdiv_add_tmod i n).symm
    conv => rhs; rw [h5]
    rw [Int.mul_add_emod_self_left]
set_option maxRecDepth 100000 in
set_option maxHeartbeats 4000000 in
theorem cmodulo (i n : Int) (w : World) (hn : 0 < n ∧ n ≤ 1000000000) :
    Calls Tryz.prog 72 #[.int .i64 i, .int .i64 n] w fun e w' => e = .returned (.int .i64 (i % n)) ∧ w = w' := by
  have hm := modulo_eq i n hn.1
  have g0 : (n == 0) = false := by simp; omega
  have g1 : ¬ n = 0 := by omega
  have h1 := Int.tmod_lt_of_pos i hn.1
  have h2 : -n < i.tmod n := by
    have h3 := Int.tmod_lt_of_pos (-i) hn.1
    rw [Int.neg_tmod] at h3; omega
  have hw0 : IntKind.i64.wrap (i.tmod n) = i.tmod n := by rw [IntKind.wrap_i64]; omega
  have hw1 : IntKind.i64.wrap (i.tmod n + n) = i.tmod n + n := by rw [IntKind.wrap_i64]; omega
  have he := Int.emod_lt_of_pos i hn.1
  have he0 := Int.emod_nonneg i g1
  have hw2 : IntKind.i64.wrap (i % n) = i % n := by rw [IntKind.wrap_i64]; omega
  obtain ⟨x, hx⟩ : ∃ x, i.tmod n = x := ⟨_, rfl⟩
  obtain ⟨y, hy⟩ : ∃ y, i % n = y := ⟨_, rfl⟩
  rw [hx] at hm hw0 hw1 h1 h2
  rw [hy] at hm hw2 ⊢
  obtain ⟨z, hz⟩ : ∃ z, x + n = z := ⟨_, rfl⟩
  rw [hz] at hm hw1
  have hw3 : IntKind.i64.wrap (z.tmod n) = y := by rw [hm]; exact hw2
  clear hy he he0
  go_enter Tryz.func72, Tryz.ntmps72
  go_wp2_with fail
  go_ret
  exact ⟨rfl, rfl⟩
set_option maxRecDepth 100000 in
set_option maxHeartbeats 4000000 in
theorem cloose (s : ByteArray) (a tv : Value) (x : Option Addr) (n c su : Nat) (w : World) (ha : a = .slice x n c) (hn : n ≤ 1000000 ∧ su ≤ n) :
    Calls Tryz.prog 51 #[.agg (fiC s a su tv).toArray] w fun e w' => e = .returned (.int .i64 ((n : Int) - su)) ∧ Below w.heap.size w w' := by
  subst ha
  have hw1 : IntKind.i64.wrap ((n : Int) - su) = (n : Int) - su := by rw [IntKind.wrap_i64]; omega
  go_enter Tryz.func51, Tryz.ntmps51
  go_wp2_with (first
    | ((with_reducible refine box_row (o := ⟨some 1, _, _, _, _, _⟩) rfl _ _ rfl (fiC s (.slice x n c) su tv) rfl ?_); intro w1 hr hb hz; have R1 := Lib.hid hr; have B1 := Lib.hid hb; obtain ⟨c0, c1, c2, c3⟩ := hr.k4; clear hr hb hz c0 c3))
  go_ret
  exact ⟨rfl, B1.out⟩
set_option maxRecDepth 100000 in
set_option maxHeartbeats 4000000 in
theorem cintact (s : ByteArray) (a tv : Value) (x : Option Addr) (n c su : Nat) (b : List UInt8) (w : World) (ha : a = .slice x n c) (hr : Rd w x n c b) (hn : n ≤ 1000000) (hK : Ks w) :
    Calls Tryz.prog 52 #[.agg (fiC s a su tv).toArray] w fun e w' => e = .returned (.bool (decide (sumOf b = s))) ∧ Below w.heap.size w w' := by
  subst ha
  have HR := Lib.hid hr
  have HK := Lib.hid hK
  have HN := Lib.hid hn
  obtain ⟨V, hV⟩ : ∃ V, decide (sumOf b = s) = V := ⟨_, rfl⟩
  have HV := Lib.hid hV
  rw [hV]
  clear hr hK hn hV
  go_enter Tryz.func52, Tryz.ntmps52
  go_wp2_with (first
    | ((with_reducible refine box_row (o := ⟨some 1, _, _, _, _, _⟩) rfl _ _ rfl (fiC s (.slice x n c) su tv) rfl ?_); intro w1 hr hb hz; have R1 := Lib.hid hr; have B1 := Lib.hid hb; clear hr hb hz))
  refine region_h (fun v => Below w1.heap.size w1 v) (by kernel_rfl) (by kernel_rfl) (Below.refl _ _).drew ?_
  (refine h_read 0 rfl (by kernel_rfl) (by kernel_rfl) (h_free rfl) ?_ ?_ ?_; rotate_left; (focus (intro v hv; go_simp; rfl)); go_simp)
  (refine h_read 1 rfl (by kernel_rfl) (by kernel_rfl) (h_free rfl) ?_ ?_ ?_; rotate_left; (focus (intro v hv; have c0 := (hv.cell (p := ⟨w.heap.size, 0, none⟩) R1.out.lt).trans R1.out.k4.1; have c1 := (hv.cell (p := ⟨w.heap.size, 1, none⟩) R1.out.lt).trans R1.out.k4.2.1; go_simp; rfl)); go_simp)
  (refine h_read 3 rfl (by kernel_rfl) (by kernel_rfl) (h_free rfl) ?_ ?_ ?_; rotate_left; (focus (intro v hv; go_simp; rfl)); go_simp)
  (refine h_read 4 rfl (by kernel_rfl) (by kernel_rfl) (h_free rfl) ?_ ?_ ?_; rotate_left; (focus (intro v hv; have c0 := (hv.cell (p := ⟨w.heap.size, 0, none⟩) R1.out.lt).trans R1.out.k4.1; have c1 := (hv.cell (p := ⟨w.heap.size, 1, none⟩) R1.out.lt).trans R1.out.k4.2.1; go_simp; rfl)); go_simp)
  (refine h_call 2 rfl (by kernel_rfl) (h_free rfl) 57 ?_ ?_ ?_; rotate_left; (focus (go_simp; rfl)))
  refine (shasum_any x n c b w1.drew ?_ ?_ ?_).mono ?_
  · exact HK.out.below (B1.out.drew) HK.out.pos
  · exact HR.out.mono B1.out.drew
  · have := HN.out; omega
  rintro e w4 ⟨rfl, hb4⟩
  refine ⟨_, rfl, (Below.refl _ _).drew.trans (hb4.mono (Nat.le_refl _)), ?_⟩
  go_simp
  (refine h_read 5 rfl (by kernel_rfl) (by kernel_rfl) (h_free rfl) ?_ ?_ ?_; rotate_left; (focus (intro v hv; go_simp; rfl)); go_simp)
  (refine h_read 6 rfl (by kernel_rfl) (by kernel_rfl) (h_free rfl) ?_ ?_ ?_; rotate_left; (focus (intro v hv; go_simp; rfl)); go_simp)
  refine h_done (by kernel_rfl) ?_
  go_wp2_with fail
  go_ret
  exact ⟨one (vbool (by rw [← HV.out]; exact eqM_dec _ _)), B1.out.trans ((Below.drew (Below.refl _ _) |>.trans hb4).mono B1.out.size)⟩
set_option maxRecDepth 100000 in
set_option maxHeartbeats 4000000 in
theorem ccopied (s : ByteArray) (a tv : Value) (x y : Option Addr) (n c k ck su : Nat) (b : List UInt8) (t : List Int) (w : World) (ha : a = .slice x n c) (hr : Rd w x n c b) (hn : n ≤ 1000000) (ht : tv = .slice y k ck) (hl : Ls intE w y k ck t) (hk : k ≤ 1000) :
    Calls Tryz.prog 48 #[.agg (fiC s a su tv).toArray] w fun e w' => ∃ a' tv', e = .returned (.agg (fiC s a' su tv').toArray) ∧ Fr w' w.heap.size a' b ∧ LsO intE w' w.heap.size tv' t ∧ Below w.heap.size w w' := by
  subst ha ht
  have HR := Lib.hid hr
  have HN := Lib.hid hn
  have HL := Lib.hid hl
  have HKK := Lib.hid hk
  have FZ := Lib.hid file_zero
  have SZ := Lib.hid file_size
  clear hr hn hl hk
  go_enter Tryz.func48, Tryz.ntmps48
  go_wp2_with (first
    | ((with_reducible refine box_row (o := ⟨some 1, _, _, _, _, _⟩) rfl _ _ rfl (fiC s (.slice x n c) su (.slice y k ck)) rfl ?_); intro w1 hr hb hz; have R1 := Lib.hid hr; have B1 := Lib.hid hb; have L1 := Lib.hid (show w.heap.size < w1.heap.size by omega); clear hr hb hz)
    | ((with_reducible refine alloc_row (o := ⟨some 2, _, _, _, _, _⟩) rfl _ rfl _ FZ.out ?_); intro w2 hr hb hz; have R22 := Lib.hid hr; have R12 := Lib.hid (R1.out.below hb R1.out.lt); have B2 := Lib.hid (B1.out.trans (hb.mono B1.out.size)); have L2 := Lib.hid (show w1.heap.size < w2.heap.size by omega); clear hr hb hz))
  have D2 : Hid (Below w2.heap.size w2 w2.drew) := Lib.hid (Below.refl _ _).drew
  refine region_t (fun v => Below w2.heap.size w2 v) 7 (by kernel_rfl) (by kernel_rfl) (by kernel_rfl) D2.out ?_
  obtain ⟨wd, hwd⟩ : ∃ wd, w2.drew = wd := ⟨_, rfl⟩
  rw [hwd] at D2 ⊢
  clear hwd
  (refine t_read 0 rfl (by kernel_rfl) (by kernel_rfl) (by kernel_rfl) (t_free rfl) ?_ ?_ ?_; rotate_left; (focus (intro v hv; go_simp; rfl)); go_simp)
  (refine t_read 1 rfl (by kernel_rfl) (by kernel_rfl) (by kernel_rfl) (t_free rfl) ?_ ?_ ?_; rotate_left; (focus (intro v hv; have c1 := (hv.cell (p := ⟨w.heap.size, 1, none⟩) R12.out.lt).trans R12.out.k4.2.1; have c3 := (hv.cell (p := ⟨w.heap.size, 3, none⟩) R12.out.lt).trans R12.out.k4.2.2.2; go_simp; rfl)); go_simp)
  (refine t_read 3 rfl (by kernel_rfl) (by kernel_rfl) (by kernel_rfl) (t_free rfl) ?_ ?_ ?_; rotate_left; (focus (intro v hv; go_simp; rfl)); go_simp)
  (refine t_read 4 rfl (by kernel_rfl) (by kernel_rfl) (by kernel_rfl) (t_free rfl) ?_ ?_ ?_; rotate_left; (focus (intro v hv; have c1 := (hv.cell (p := ⟨w.heap.size, 1, none⟩) R12.out.lt).trans R12.out.k4.2.1; have c3 := (hv.cell (p := ⟨w.heap.size, 3, none⟩) R12.out.lt).trans R12.out.k4.2.2.2; go_simp; rfl)); go_simp)
  (refine t_call 2 rfl (by kernel_rfl) rfl (t_free rfl) 53 ?_ ?_ ?_; rotate_left; (focus (go_simp; rfl)))
  refine (fclone x n c b wd (HR.out.mono (B2.out.trans (D2.out.mono B2.out.size))) (by have := HN.out; omega)).mono ?_
  rintro e w3 ⟨v3, rfl, hf3, hb3⟩
  have F3 := Lib.hid (hf3.base D2.out.size)
  have B3 := Lib.hid (D2.out.trans (hb3.mono D2.out.size))
  clear hf3 hb3
  refine ⟨_, rfl, B3.out, ?_⟩
  go_simp
  (refine t_read 6 rfl (by kernel_rfl) (by kernel_rfl) (by kernel_rfl) (t_free rfl) ?_ ?_ ?_; rotate_left; (focus (intro v hv; go_simp; rfl)); go_simp)
  (refine t_call 5 rfl (by kernel_rfl) rfl (t_free rfl) 78 ?_ ?_ ?_; rotate_left; (focus (go_simp; rfl)))
  refine (iclone y k ck t w3 (HL.out.mono intOk (B2.out.trans (B3.out.mono B2.out.size))) HKK.out).mono ?_
  rintro e w5 ⟨a5, c5, rfl, hl5, hb5⟩
  obtain ⟨v5, hv5⟩ : ∃ v5, Value.slice a5 k c5 = v5 := ⟨_, rfl⟩
  rw [hv5] at hl5 ⊢
  have F5 := Lib.hid (F3.out.kept hb5)
  have T5 := Lib.hid (hl5.base B3.out.size)
  have B5 := Lib.hid (B3.out.trans (hb5.mono B3.out.size))
  have FG := Lib.hid (fun g e => (World.ownsRow.lt F5.out g e).1)
  have TG := Lib.hid (fun g e => (World.ownsRow.lt T5.out g e).1)
  have FB := Lib.hid (fr_one F5.out)
  have FC := Lib.hid (fr_cell F5.out)
  have FTC := Lib.hid (show v5.cells = #[v5] by rw [← hv5]; rfl)
  have FT := Lib.hid (show v5.oneCell' = true by rw [← hv5]; rfl)
  have R15 := Lib.hid (R12.out.below B5.out R12.out.lt)
  have R25 := Lib.hid (R22.out.below B5.out R22.out.lt)
  clear hl5 hb5 hv5
  refine ⟨_, rfl, B5.out, ?_⟩
  go_simp
  (refine t_store 7 rfl (by kernel_rfl) rfl (by kernel_rfl) ?_; intro K hK)
  refine store_cell rfl _ _ _ rfl w.heap.size 1 v3 (by go_simp) (by go_simp) FC.out FB.out 44 _ R15.out size_bs (by show 1 < 4; decide) ?_
  intro w7 hr hu
  have R7 := Lib.hid (show Row w7 w.heap.size 44 (fiC s v3 su (.slice y k ck)) from hr)
  have R27 := Lib.hid (R25.out.upd hu (Nat.ne_of_gt L1.out))
  have F7 := Lib.hid (F5.out.keep fun g e => hu.block g (Nat.ne_of_gt (Nat.lt_trans L1.out (Nat.lt_of_lt_of_le L2.out (FG.out g e)))))
  have T7 := Lib.hid (T5.out.keep fun g e => hu.block g (Nat.ne_of_gt (Nat.lt_trans L1.out (Nat.lt_of_lt_of_le L2.out (TG.out g e)))))
  have B7 := Lib.hid ((B2.out.trans (B5.out.mono B2.out.size)).trans (hu.below (Nat.le_refl _)))
  clear hr hu
  refine hK _ _ ?_
  go_simp
  (refine u_one 8 rfl (by kernel_rfl) rfl ?_ ?_ ?_; rotate_left; (focus (go_simp; rfl)); go_simp)
  (refine u_list 9 rfl (by kernel_rfl) ?_; intro K hK)
  refine store_cell rfl _ _ _ rfl w.heap.size 3 v5 (by go_simp) (by go_simp) FTC.out FT.out 44 _ R7.out size_is (by show 3 < 4; decide) ?_
  intro w8 hr hu
  have R8 := Lib.hid (show Row w8 w.heap.size 44 (fiC s v3 su v5) from hr)
  have R28 := Lib.hid (R27.out.upd hu (Nat.ne_of_gt L1.out))
  have F8 := Lib.hid (F7.out.keep fun g e => hu.block g (Nat.ne_of_gt (Nat.lt_trans L1.out (Nat.lt_of_lt_of_le L2.out (FG.out g e)))))
  have T8 := Lib.hid (T7.out.keep fun g e => hu.block g (Nat.ne_of_gt (Nat.lt_trans L1.out (Nat.lt_of_lt_of_le L2.out (TG.out g e)))))
  have B8 := Lib.hid (B7.out.trans (hu.below (Nat.le_refl _)))
  clear hr hu
  refine hK _ _ ?_
  go_simp
  refine u_done (by kernel_rfl) ?_
  go_wp2_with (first
    | ((with_reducible refine load_row (o := ⟨some 11, _, _, _, _, _⟩) rfl _ _ rfl w.heap.size ?_ _ (fiC s v3 su v5) _ R8.out Tryz.underlying44 rfl ?_ ?_); (focus go_simp); (focus (exact SZ.out)))
    | ((with_reducible refine store_row (o := ⟨none, _, _, _, _, _⟩) rfl _ (.tmp 2) _ rfl w1.heap.size (fiC s v3 su v5) ?_ ?_ 44 _ R28.out ?_ ?_ ?_ ?_); (focus go_simp); (focus (first | (go_simp; done) | (go_simp; rfl))); (focus (exact SZ.out)); (focus rfl); (focus (exact fi_one s _ su _ FB.out FT.out)); intro w9 hr hu; have R9 := Lib.hid hr; have F9 := Lib.hid (F8.out.keep fun g e => hu.block g (Nat.ne_of_gt (Nat.lt_of_lt_of_le L2.out (FG.out g e)))); have T9 := Lib.hid (T8.out.keep fun g e => hu.block g (Nat.ne_of_gt (Nat.lt_of_lt_of_le L2.out (TG.out g e)))); have B9 := Lib.hid (B8.out.trans (hu.below B1.out.size)); clear hr hu))
  exact bodyPost_ret (results_cell_row rfl _ _ w1.heap.size 44 _ _ _ (by go_simp) R9.out Tryz.underlying44 rfl SZ.out) rfl ⟨_, _, rfl, F9.out.base B2.out.size, T9.out.base B2.out.size, B9.out⟩
end Go.Proofs.YtkfhppbmnjmnoaaGreatDoor.W

/- LAYER 28 (chunk): the program's times, with, New, sums, Used, Loose. -/
set_option linter.unusedSimpArgs false
set_option linter.unusedVariables false
namespace Go.Proofs.YtkfhppbmnjmnoaaGreatDoor.W
open Go Go.ChangeShapes Go.WideShapes Go.ChangeAt Go.RowKit
open Go.Proofs.YtkfhppbmnjmnoaaGreatDoor.P (shaL shaL_len)

-- ---- times
theorem timed_eq : ∀ (t : List Int) (x : Int), t.Pairwise (· < ·) → timedL t x = if x ∈ t then t else t.take (t.countP (· < x)) ++ [x] ++ t.drop (t.countP (· < x))
  | [], x, _ => by simp [timedL]
  | y :: r, x, h => by
    obtain ⟨h1, h2⟩ := List.pairwise_cons.1 h
    have ih := timed_eq r x h2
    unfold timedL
    by_cases hxy : x < y
    · have hn : x ∉ y :: r := by
        intro hm
        rcases List.mem_cons.1 hm with e | hm
        · omega
        · have := h1 x hm; omega
      have hc : (y :: r).countP (· < x) = 0 := by
        rw [List.countP_eq_zero]
        intro z hz
        rcases List.mem_cons.1 hz with rfl | hz
        · simp; omega
        · have := h1 z hz; simp; omega
      rw [if_pos hxy, if_neg hn, hc]; rfl
    · by_cases hyx : x = y
      · rw [if_neg hxy, if_pos hyx, if_pos (by rw [hyx]; exact List.mem_cons_self ..)]
      · have hlt : y < x := by omega
        have hc : (y :: r).countP (· < x) = r.countP (· < x) + 1 := by rw [List.countP_cons_of_pos (by simpa using hlt)]
        rw [if_neg hxy, if_neg hyx, ih, hc]
        by_cases hm : x ∈ r
        · rw [if_pos hm, if_pos (List.mem_cons_of_mem _ hm)]
        · rw [if_neg hm, if_neg (fun hm2 => (List.mem_cons.1 hm2).elim hyx hm)]
          rfl
theorem timed_len (t : List Int) (x : Int) : (timedL t x).length ≤ t.length + 1 := by
  induction t with
  | nil => simp [timedL]
  | cons y r ih =>
    unfold timedL
    split
    · simp
    · split
      · simp
      · simp only [List.length_cons]; omega
theorem timed_mem (t : List Int) (x : Int) : ∀ z ∈ timedL t x, z = x ∨ z ∈ t := by
  induction t with
  | nil => intro z hz; simp [timedL] at hz; exact .inl hz
  | cons y r ih =>
    intro z hz
    unfold timedL at hz
    split at hz
    · rcases List.mem_cons.1 hz with h | h
      · exact .inl h
      · exact .inr h
    · split at hz
      · exact .inr hz
      · rcases List.mem_cons.1 hz with h | h
        · exact .inr (by rw [h]; exact List.mem_cons_self ..)
        · rcases ih z h with h | h
          · exact .inl h
          · exact .inr (List.mem_cons_of_mem _ h)
theorem timed_ris : ∀ (t : List Int) (x : Int), t.Pairwise (· < ·) → (timedL t x).Pairwise (· < ·)
  | [], x, _ => by simp [timedL]
  | y :: r, x, h => by
    obtain ⟨h1, h2⟩ := List.pairwise_cons.1 h
    unfold timedL
    split
    · refine List.pairwise_cons.2 ⟨fun z hz => ?_, h⟩
      rcases List.mem_cons.1 hz with rfl | hz
      · assumption
      · have := h1 z hz; omega
    · split
      · exact h
      · refine List.pairwise_cons.2 ⟨fun z hz => ?_, timed_ris r x h2⟩
        rcases timed_mem r x z hz with rfl | hz
        · omega
        · exact h1 z hz
theorem timed_pos (t : List Int) (x : Int) : timedL t x ≠ [] := by
  cases t with
  | nil => simp [timedL]
  | cons y r => unfold timedL; split <;> (try split) <;> simp
theorem bi1r {w : World} {ops : Array Oper} {rest : List Oper} {o : Oper} {a : Act} {Q : Exit → Act → World → Prop} (hgd : o.guard = none) (x0 : Operand)
    (ho : o.op = .buildSlice 31 1 #[(0, x0)]) (v0 : Int) (h0 : a.eval x0 = .int .i64 v0)
    (hk : ∀ w', Row w' w.heap.size 3 [.int .i64 v0] → Below w.heap.size w w' → w'.heap.size = w.heap.size + 1 → wpList Tryz.prog ops Q rest (a.put o.dst (.slice (some ⟨w.heap.size, 0, none⟩) 1 1)) w') : wpList Tryz.prog ops Q (o :: rest) a w := by
  obtain ⟨i0, hi0, hz0, hz1, hz2⟩ := info_parts infoInt19
  refine wpList_buildSlice hgd 31 3 1 _ ho #[.int .i64 v0] i0 _ Tryz.underlying31 hi0 hz0 (by rw [hz1]; decide) (by rw [hz1]; decide) (fill_i1 w o a x0 v0 i0 hz1 h0) ?_
  exact hk _ (Row.new _ _ [.int .i64 v0]) ((Below.refl _ _).alloc (Nat.le_refl _) _) (by simp)
/-- what the call may have changed: but for v's own block nothing that lay in w -/
theorem kp_below {v : Value} {w w' w'' : World} (h : Below w.heap.size w w') (k : Kp v w' w'') : Kp v w w'' := fun g hg hn => (k g (Nat.lt_of_lt_of_le hg h.size) hn).trans (h.block g hg)
set_option maxRecDepth 100000 in
set_option maxHeartbeats 4000000 in
theorem cwith (v : Value) (L : List Int) (x : Int) (w : World) (hv : LsO intE w 0 v L) (hf : ∀ z ∈ L, SI64 z) (hx : SI64 x) (hs : L.Pairwise (· < ·)) (hn : L.length ≤ 900) :
    Calls Tryz.prog 59 #[v, .int .i64 x] w fun e w' => ∃ v', e = .returned v' ∧ LsO intE w' 0 v' (timedL L x) ∧ (∀ g, v'.ownBlock = some g → v.ownBlock = some g ∨ w.heap.size ≤ g) ∧ Below 0 w w' ∧ Kp v w w' := by
  have HV := Lib.hid hv
  obtain ⟨a, c, ev, hl, -⟩ := hv.ls intOk hf
  have hsl := hl.sl
  have hcl : L.countP (· < x) ≤ L.length := List.countP_le_length
  have HE := Lib.hid (timed_eq L x hs)
  obtain ⟨n, hnn⟩ : ∃ n, L.length = n := ⟨_, rfl⟩
  obtain ⟨k, hk⟩ : ∃ k, L.countP (· < x) = k := ⟨_, rfl⟩
  obtain ⟨T, hT⟩ : ∃ T, timedL L x = T := ⟨_, rfl⟩
  rw [hnn] at hsl hn hcl ev
  rw [hk] at hcl HE
  rw [hT] at HE ⊢
  have PB := Lib.hid (pbinary a n c L x w hsl hs (by omega))
  rw [hk] at PB
  have EV := Lib.hid ev
  have HF := Lib.hid hf
  have HX := Lib.hid hx
  have HNN := Lib.hid hnn
  have HN := Lib.hid hn
  have HCL := Lib.hid hcl
  clear hv hf hx hs hn hl hsl hnn hk hT hcl
  by_cases hin : x ∈ L
  · have e1 : T = L := by rw [HE.out, if_pos hin]
    rw [show decide (x ∈ L) = true by simpa using hin] at PB
    subst ev
    rw [e1]
    go_enter Tryz.func59, Tryz.ntmps59
    go_wp2_with (go_at_call 85; (with_reducible refine PB.out.mono ?_); rintro e w1 ⟨rfl, hq⟩; have Q1 := Lib.hid hq; clear hq)
    go_ret
    have hb := Q1.out.below w.heap.size
    exact ⟨_, rfl, HV.out.kept hb, fun g e => .inl e, hb.mono (Nat.zero_le _), fun g hg _ => hb.block g hg⟩
  · have e1 : T = L.take k ++ [x] ++ L.drop k := by rw [HE.out, if_neg hin]
    rw [show decide (x ∈ L) = false by simpa using hin] at PB
    subst ev
    rw [e1]
    go_enter Tryz.func59, Tryz.ntmps59
    go_wp2_with (first
      | (go_at_call 85; (with_reducible refine PB.out.mono ?_); rintro e w1 ⟨rfl, hq⟩; have Q1 := Lib.hid (hq.below w.heap.size); clear hq)
      | ((with_reducible refine bi1r (o := ⟨some 18, _, _, _, _, _⟩) rfl _ rfl x ?_ ?_); (focus (first | (go_simp; done) | (go_simp; rfl))); intro w2 hr hb hz; have R2 := Lib.hid hr; have B2 := Lib.hid hb; have V2 := Lib.hid (HV.out.kept (Q1.out.trans (hb.mono Q1.out.size))); clear hr hb hz)
      | (go_at_call 86; refine (iinsert2 (.slice a n c) 0 n k w1.heap.size L x w2 V2.out HF.out HX.out HNN.out HCL.out (by have := HN.out; omega) R2.out ?_ (Nat.zero_le _)).mono ?_; (focus (intro e; exact Nat.lt_irrefl _ (Nat.lt_of_lt_of_le (World.ownsRow.lt HV.out _ e).2 Q1.out.size))); rintro e w3 ⟨v', rfl, h1, h2, h3, h4⟩; have W3 := Lib.hid h4; have O3 := Lib.hid h1; have B3 := Lib.hid h2; have K3 := Lib.hid h3; clear h1 h2 h3 h4))
    go_ret
    have hb2 := Q1.out.trans (B2.out.mono Q1.out.size)
    refine ⟨_, rfl, O3.out, ?_, (hb2.mono (Nat.zero_le _)).trans B3.out, kp_below hb2 K3.out⟩
    exact fun g hg => (W3.out g hg).imp id (fun h => Nat.le_trans hb2.size h)
end Go.Proofs.YtkfhppbmnjmnoaaGreatDoor.W

/- LAYER 28 (chunk): the program's New, sums, Used, Loose. -/
set_option linter.unusedSimpArgs false
set_option linter.unusedVariables false
namespace Go.Proofs.YtkfhppbmnjmnoaaGreatDoor.W
open Go Go.ChangeShapes Go.WideShapes Go.ChangeAt Go.RowKit
open Go.Proofs.YtkfhppbmnjmnoaaGreatDoor.P (shaL shaL_len)

theorem pkeys2 (mb : Option Nat) (w : World) : Calls Tryz.prog 77 #[.map mb] w fun e w' => e = .returned (.func (.func 92) #[] #[.pointer (some ⟨w.heap.size, 0, none⟩)]) ∧ Row w' w.heap.size 64 [.map mb] ∧ Below w.heap.size w w' := by
  refine (pkeys mb w).mono ?_
  rintro e w' ⟨h1, rfl⟩
  exact ⟨h1, Row.new w 64 [.map mb], (Below.refl _ _).alloc (Nat.le_refl _) _⟩
theorem mx_keys (X : List FX) : (MX X).map (·.1) = X.map (·.f.s) := by unfold MX; rw [List.map_map]; rfl
theorem mx_len (X : List FX) : (MX X).length = X.length := by simp [MX]
set_option maxRecDepth 100000 in
set_option maxHeartbeats 4000000 in
theorem csums {p m : Nat} {room : Int} {X : List FX} {S : Nat → Prop} {w : World} (h : CK w p m room X S) (hn : X.length ≤ 524288) :
    Calls Tryz.prog 47 #[.pointer (some ⟨p, 0, none⟩)] w fun e w' => ∃ v, e = .returned v ∧ LsO strE w' w.heap.size v (X.map (·.f.s)) ∧ Below w.heap.size w w' := by
  have H := Lib.hid h
  have HR := Lib.hid (cready p m room w h.rp)
  have HN := Lib.hid hn
  have c1 := h.rp.k2.2
  clear h hn
  go_enter Tryz.func47, Tryz.ntmps47
  go_wp2_with (first
    | (go_at_call 50; (with_reducible refine HR.out.mono ?_); rintro e w1 ⟨rfl, rfl⟩)
    | (go_at_call 77; (with_reducible refine (pkeys2 (some m) w).mono ?_); rintro e w1 ⟨rfl, hr, hb⟩; have R1 := Lib.hid hr; have B1 := Lib.hid hb; clear hr hb c1)
    | (go_at_call 76; refine (psorted w.heap.size m X.length (MX X) w1 R1.out.k0 R1.out.lt (H.out.sm.kept B1.out) (by have := HN.out; omega)).mono ?_; rintro e w2 ⟨v, rfl, hl, hb⟩; rw [mx_keys] at hl; have L2 := Lib.hid hl; have B2 := Lib.hid hb; clear hl hb))
  go_ret
  exact ⟨_, rfl, L2.out.base B1.out.size, B1.out.trans (B2.out.mono B1.out.size)⟩
set_option maxRecDepth 100000 in
set_option maxHeartbeats 4000000 in
theorem csums_not (v : Value) (w : World) (h : Calls Tryz.prog 50 #[v] w fun e w' => e = .returned (.bool false) ∧ w = w') :
    Calls Tryz.prog 47 #[v] w fun e w' => e = .returned (.slice none 0 0) ∧ w = w' := by
  have H := Lib.hid h
  clear h
  go_enter Tryz.func47, Tryz.ntmps47
  go_wp2_with (go_at_call 50; (with_reducible refine H.out.mono ?_); rintro e w1 ⟨rfl, rfl⟩)
  go_ret
  exact ⟨rfl, rfl⟩
-- ---- a map gone through
/-- those of X that have come -/
structure Vis (X : List FX) (left : Lit → Bool) (D : List FX) : Prop where
  mem : ∀ x, x ∈ D ↔ x ∈ X ∧ left (kS x.f.s) = false
  nd : D.Pairwise fun x y => x.f.s ≠ y.f.s
theorem Vis.start (X : List FX) : Vis X (Maps.has (.map (entS (MX X)) : DataW Value)) [] := by
  refine ⟨fun x => ⟨fun h => (by cases h), fun ⟨h1, h2⟩ => ?_⟩, List.Pairwise.nil⟩
  have := has_yes (M := MX X) (List.mem_map.2 ⟨x, h1, rfl⟩ : (x.f.s, x.val) ∈ MX X)
  rw [this] at h2; cases h2
theorem risx_uniq {X : List FX} (h : Ris (MX X)) {x y : FX} (hx : x ∈ X) (hy : y ∈ X) (e : x.f.s = y.f.s) : x = y := by
  unfold Ris MX at h
  rw [List.pairwise_map] at h
  induction X with
  | nil => cases hx
  | cons z X ih =>
    obtain ⟨h1, h2⟩ := List.pairwise_cons.1 h
    have ne : ∀ u ∈ X, z.f.s ≠ u.f.s := fun u hu e => by have := h1 u hu; dsimp only at this; rw [e, ltM_self] at this; cases this
    rcases List.mem_cons.1 hx with ep | hp'
    · rcases List.mem_cons.1 hy with eq | hq'
      · rw [ep, eq]
      · exact absurd (by rw [← ep]; exact e) (ne y hq')
    · rcases List.mem_cons.1 hy with eq | hq'
      · exact absurd (by rw [← eq]; exact e.symm) (ne x hp')
      · exact ih h2 hp' hq'
theorem Vis.step {X : List FX} {left : Lit → Bool} {D : List FX} (hr : Ris (MX X)) (h : Vis X left D) {x : FX} (hx : x ∈ X) (hl : left (kS x.f.s) = true) : Vis X (fun z => left z && !z.sameKey (kS x.f.s)) (D ++ [x]) := by
  refine ⟨fun y => ?_, ?_⟩
  · rw [List.mem_append, h.mem y, List.mem_singleton, kS_same]
    constructor
    · rintro (⟨h1, h2⟩ | rfl)
      · exact ⟨h1, by rw [h2]; rfl⟩
      · exact ⟨hx, by simp⟩
    · rintro ⟨h1, h2⟩
      cases hq : left (kS y.f.s) with
      | false => exact .inl ⟨h1, rfl⟩
      | true =>
        rw [hq] at h2
        have : y.f.s = x.f.s := by simpa using h2
        exact .inr (risx_uniq hr h1 hx this)
  · rw [List.pairwise_append]
    refine ⟨h.nd, by simp, fun y hy z hz => ?_⟩
    rw [List.mem_singleton] at hz
    rw [hz]
    intro e
    have h1 := ((h.mem y).1 hy).2
    rw [e, hl] at h1; cases h1
theorem Vis.all {X : List FX} {left : Lit → Bool} {D : List FX} (hr : Ris (MX X)) (h : Vis X left D) (hl : ∀ s, left (kS s) = false) : D.Perm X := by
  have nd : ∀ L : List FX, L.Pairwise (fun x y => x.f.s ≠ y.f.s) → L.Nodup := fun L hL => hL.imp fun {a b} hab e => hab (by rw [e])
  refine (List.perm_ext_iff_of_nodup (nd D h.nd) (nd X ?_)).2 fun x => ⟨fun hx => ((h.mem x).1 hx).1, fun hx => (h.mem x).2 ⟨hx, hl _⟩⟩
  have := ris_ne hr
  unfold MX at this
  rwa [List.pairwise_map] at this
theorem used_app (L M : List Fi) : usedC (L ++ M) = usedC L + usedC M := by unfold usedC; rw [List.map_append, List.sum_append]
theorem used_perm {L M : List Fi} (h : L.Perm M) : usedC L = usedC M := by unfold usedC; exact (h.map _).sum_nat
theorem used_le : ∀ {L : List Fi}, (∀ f ∈ L, f.b.length ≤ 256) → usedC L ≤ L.length * 256
  | [], _ => Nat.zero_le _
  | f :: L, h => by
    have h1 := used_le (fun g hg => h g (List.mem_cons_of_mem _ hg))
    have h2 := h f (List.mem_cons_self ..)
    unfold usedC at h1 ⊢
    rw [List.map_cons, List.sum_cons, List.length_cons, Nat.add_mul]; omega
theorem loose_perm {L M : List Fi} (h : L.Perm M) : looseC L = looseC M := (h.filter _).length_eq
theorem loose_app (L M : List Fi) : looseC (L ++ M) = looseC L + looseC M := by unfold looseC; rw [List.filter_append, List.length_append]
set_option maxRecDepth 100000 in
set_option maxHeartbeats 4000000 in
theorem cused {p m : Nat} {room : Int} {X : List FX} {S : Nat → Prop} {w : World} (h : CK w p m room X S) (hb256 : ∀ x ∈ X, x.f.b.length ≤ 256) (hn : X.length ≤ 524288) :
    Calls Tryz.prog 14 #[.pointer (some ⟨p, 0, none⟩)] w fun e w' => e = .returned (.int .i64 (usedC (X.map (·.f)) : Nat)) ∧ Below w.heap.size w w' := by
  have H := Lib.hid h
  have HR := Lib.hid (cready p m room w h.rp)
  have HN := Lib.hid hn
  have H256 := Lib.hid hb256
  have HRIS := Lib.hid h.sm.ris
  have c1 := h.rp.k2.2
  have FZ := Lib.hid file_zero
  have SZ := Lib.hid file_size
  clear h hn hb256
  go_enter Tryz.func14, Tryz.ntmps14
  go_wp2_with (first
    | (go_at_call 50; (with_reducible refine HR.out.mono ?_); rintro e w1 ⟨rfl, rfl⟩)
    | ((with_reducible refine map_range (o := ⟨some 12, _, _, _, _, _⟩) rfl _ 64 44 rfl map_type m X.length (MX X) ?_ H.out.sm ?_); (focus go_simp); intro w1 hrg hb hz; have G1 := Lib.hid hrg; have B1 := Lib.hid hb; have HI := Lib.hid (show w.heap.size < w1.heap.size by omega); clear hrg hb hz c1))
  go_frame
  go_loopw [3, 5] (fun n t5 wr => ∃ left cnt D, n = .int .i64 ((usedC (D.map (·.f)) : Nat) : Int) ∧ D.length + cnt ≤ X.length ∧ Hid (Vis X left D) ∧ Hid (RgS wr m w.heap.size (MX X) left cnt) ∧ Hid (Below w.heap.size w wr)) (fun _ _ wr => wr.rangeLeft m w.heap.size)
  case atStart => exact ⟨_, _, [], rfl, by rw [mx_len]; simp, Lib.hid (Vis.start X), G1, B1⟩
  case round =>
    obtain ⟨left, cnt, D, rfl, hcnt, V, G, B⟩ := hrel
    go_wp2_with ((with_reducible refine map_next (o := ⟨some 13, _, _, _, _, _⟩) rfl _ rfl m w.heap.size (MX X) left cnt ?_ G.out ?_ ?_); (focus go_simp))
    · intro hl
      have e1 := Lib.hid (used_perm ((V.out.all HRIS.out hl).map (·.f)))
      clear hl
      go_simp
      go_wp2_with fail
      go_ret
      exact ⟨one (vint (by rw [e1.out])), B.out⟩
    · intro s v w2 cnt2 hmem hsz hl hrg hlt hg hs hen
      obtain ⟨x, hx, e⟩ := List.mem_map.1 hmem
      obtain ⟨rfl, rfl⟩ := Prod.mk.inj e
      have V2 := Lib.hid (V.out.step HRIS.out hx hl)
      have hD := used_le (L := D.map (·.f)) (fun f hf => by obtain ⟨y, hy, rfl⟩ := List.mem_map.1 hf; exact H256.out y ((V.out.mem y).1 hy).1)
      have hx256 := H256.out x hx
      rw [List.length_map] at hD
      have e2 := Lib.hid (used_app (D.map (·.f)) [x.f])
      have e3 : usedC [x.f] = x.f.b.length := by simp [usedC]
      rw [e3] at e2
      obtain ⟨U, hU⟩ : ∃ U, usedC (D.map (·.f)) = U := ⟨_, rfl⟩
      rw [hU] at hD e2 ⊢
      have B2 := Lib.hid (B.out.trans (show Below w.heap.size wr w2 from ⟨hg.os, hg.tape, hg.output, hg.size, fun i hi => hg.block i (Nat.lt_of_lt_of_le hi B.out.size) (by intro e; injection e with e; omega)⟩))
      have G2 := Lib.hid hrg
      have hD2 : U ≤ 524288 * 256 := by have := HN.out; have h3 : D.length * 256 ≤ X.length * 256 := Nat.mul_le_mul_right _ (by omega); have h4 : X.length * 256 ≤ 524288 * 256 := Nat.mul_le_mul_right _ this; omega
      obtain ⟨fa, fc, hbv, -⟩ := (H.out.ob x hx).form
      obtain ⟨⟨xs, xb, xu, xt⟩, xbv, xtv⟩ := x
      dsimp only at hbv hx256 e2 V2 hen G2 ⊢
      obtain ⟨bl, hbl⟩ : ∃ bl, xb.length = bl := ⟨_, rfl⟩
      rw [hbl] at hbv hx256 e2
      have hw : IntKind.i64.wrap ((U : Int) + (bl : Int)) = (U : Int) + bl := by rw [IntKind.wrap_i64]; omega
      have OT := Lib.hid (H.out.ot _ hx)
      have OC := Lib.hid (lso_cell OT.out)
      dsimp only at OC
      subst hbv
      clear hmem e hl hrg hg hs hU hD hx
      go_simp
      go_wp2_with (first
        | ((with_reducible refine alloc_row (o := ⟨some 5, _, _, _, _, _⟩) rfl _ rfl _ FZ.out ?_); intro w3 hr hb hz; have R3 := Lib.hid hr; have G3 := Lib.hid (G2.out.kept hb); have B3 := Lib.hid (B2.out.trans (hb.mono B2.out.size)); clear hr hb hz)
        | ((with_reducible refine store_row (o := ⟨none, _, _, _, _, _⟩) rfl _ (.tmp 5) _ rfl w2.heap.size (fiC xs (.slice fa bl fc) xu xtv) ?_ ?_ 44 _ R3.out ?_ ?_ ?_ ?_); (focus go_simp); (focus (first | (go_simp; done) | (go_simp; rfl))); (focus (exact SZ.out)); (focus rfl); (focus (exact fi_one _ _ _ _ rfl OC.out)); intro w4 hr hu; have G4 := Lib.hid (G3.out.upd R3.out hu); have B4 := Lib.hid (B3.out.trans (hu.below B2.out.size)); obtain ⟨c0, c1, c2, c3⟩ := hr.k4; clear hr hu c0 c2 c3))
      go_roundw
      case rel => exact ⟨_, cnt2, _, vint (by rw [List.map_append, List.map_cons, List.map_nil, e2.out]; omega), by rw [List.length_append]; simp; omega, V2, G4, B4⟩
      case measure => rw [G4.out.eq, G.out.eq]; omega
set_option maxRecDepth 100000 in
set_option maxHeartbeats 4000000 in
theorem clooseN {p m : Nat} {room : Int} {X : List FX} {S : Nat → Prop} {w : World} (h : CK w p m room X S) (hb256 : ∀ x ∈ X, x.f.b.length ≤ 256 ∧ x.f.su ≤ x.f.b.length) (hn : X.length ≤ 524288) :
    Calls Tryz.prog 16 #[.pointer (some ⟨p, 0, none⟩)] w fun e w' => e = .returned (.int .i64 (looseC (X.map (·.f)) : Nat)) ∧ Below w.heap.size w w' := by
  have H := Lib.hid h
  have HR := Lib.hid (cready p m room w h.rp)
  have HN := Lib.hid hn
  have H256 := Lib.hid hb256
  have HRIS := Lib.hid h.sm.ris
  have c1 := h.rp.k2.2
  have FZ := Lib.hid file_zero
  have SZ := Lib.hid file_size
  clear h hn hb256
  go_enter Tryz.func16, Tryz.ntmps16
  go_wp2_with (first
    | (go_at_call 50; (with_reducible refine HR.out.mono ?_); rintro e w1 ⟨rfl, rfl⟩)
    | ((with_reducible refine map_range (o := ⟨some 12, _, _, _, _, _⟩) rfl _ 64 44 rfl map_type m X.length (MX X) ?_ H.out.sm ?_); (focus go_simp); intro w1 hrg hb hz; have G1 := Lib.hid hrg; have B1 := Lib.hid hb; have HI := Lib.hid (show w.heap.size < w1.heap.size by omega); clear hrg hb hz c1))
  go_frame
  go_loopw [3, 5] (fun n t5 wr => ∃ left cnt D, n = .int .i64 ((looseC (D.map (·.f)) : Nat) : Int) ∧ D.length + cnt ≤ X.length ∧ Hid (Vis X left D) ∧ Hid (RgS wr m w.heap.size (MX X) left cnt) ∧ Hid (Below w.heap.size w wr)) (fun _ _ wr => wr.rangeLeft m w.heap.size)
  case atStart => exact ⟨_, _, [], rfl, by rw [mx_len]; simp, Lib.hid (Vis.start X), G1, B1⟩
  case round =>
    obtain ⟨left, cnt, D, rfl, hcnt, V, G, B⟩ := hrel
    go_wp2_with ((with_reducible refine map_next (o := ⟨some 13, _, _, _, _, _⟩) rfl _ rfl m w.heap.size (MX X) left cnt ?_ G.out ?_ ?_); (focus go_simp))
    · intro hl
      have e1 := Lib.hid (loose_perm ((V.out.all HRIS.out hl).map (·.f)))
      clear hl
      go_simp
      go_wp2_with fail
      go_ret
      exact ⟨one (vint (by rw [e1.out])), B.out⟩
    · intro s v w2 cnt2 hmem hsz hl hrg hlt hg hs hen
      obtain ⟨x, hx, e⟩ := List.mem_map.1 hmem
      obtain ⟨rfl, rfl⟩ := Prod.mk.inj e
      have V2 := Lib.hid (V.out.step HRIS.out hx hl)
      have hD : looseC (D.map (·.f)) ≤ (D.map (·.f)).length := List.length_filter_le _ _
      obtain ⟨hx256, hxsu⟩ := H256.out x hx
      rw [List.length_map] at hD
      have e2 := Lib.hid (loose_app (D.map (·.f)) [x.f])
      have e3 := Lib.hid (show looseC [x.f] = if x.f.su < x.f.b.length then 1 else 0 by unfold looseC isLoose; by_cases hq : x.f.su < x.f.b.length <;> simp [hq])
      obtain ⟨U, hU⟩ : ∃ U, looseC (D.map (·.f)) = U := ⟨_, rfl⟩
      rw [hU] at hD e2 ⊢
      have B2 := Lib.hid (B.out.trans (show Below w.heap.size wr w2 from ⟨hg.os, hg.tape, hg.output, hg.size, fun i hi => hg.block i (Nat.lt_of_lt_of_le hi B.out.size) (by intro e; injection e with e; omega)⟩))
      have G2 := Lib.hid hrg
      have hD2 : U ≤ 524288 := by have := HN.out; omega
      obtain ⟨fa, fc, hbv, -⟩ := (H.out.ob x hx).form
      obtain ⟨⟨xs, xb, xu, xt⟩, xbv, xtv⟩ := x
      dsimp only at hbv hx256 hxsu e2 e3 V2 hen G2 ⊢
      obtain ⟨bl, hbl⟩ : ∃ bl, xb.length = bl := ⟨_, rfl⟩
      rw [hbl] at hbv hx256 hxsu e3
      have hw : IntKind.i64.wrap ((U : Int) + 1) = (U : Int) + 1 := by rw [IntKind.wrap_i64]; omega
      have HCL := Lib.hid (fun w => cloose xs (.slice fa bl fc) xtv fa bl fc xu w rfl ⟨by omega, hxsu⟩)
      have OT := Lib.hid (H.out.ot _ hx)
      have OC := Lib.hid (lso_cell OT.out)
      dsimp only at OC
      subst hbv
      clear hmem e hl hrg hg hs hU hD hx
      go_simp
      go_wp2_with (first
        | ((with_reducible refine alloc_row (o := ⟨some 5, _, _, _, _, _⟩) rfl _ rfl _ FZ.out ?_); intro w3 hr hb hz; have R3 := Lib.hid hr; have G3 := Lib.hid (G2.out.kept hb); have B3 := Lib.hid (B2.out.trans (hb.mono B2.out.size)); clear hr hb hz)
        | ((with_reducible refine store_row (o := ⟨none, _, _, _, _, _⟩) rfl _ (.tmp 5) _ rfl w2.heap.size (fiC xs (.slice fa bl fc) xu xtv) ?_ ?_ 44 _ R3.out ?_ ?_ ?_ ?_); (focus go_simp); (focus (first | (go_simp; done) | (go_simp; rfl))); (focus (exact SZ.out)); (focus rfl); (focus (exact fi_one _ _ _ _ rfl OC.out)); intro w4 hr hu; have G4 := Lib.hid (G3.out.upd R3.out hu); have B4 := Lib.hid (B3.out.trans (hu.below B2.out.size)); have R4 := Lib.hid hr; clear hr hu)
        | ((with_reducible refine load_row (o := ⟨some 17, _, _, _, _, _⟩) rfl _ _ rfl w2.heap.size ?_ _ (fiC xs (.slice fa bl fc) xu xtv) _ R4.out Tryz.underlying44 rfl ?_ ?_); (focus go_simp); (focus (exact SZ.out)))
        | (go_at_call 51; (with_reducible refine (HCL.out w4).mono ?_); rintro e w5 ⟨rfl, hb⟩; have G5 := Lib.hid (G4.out.kept hb); have B5 := Lib.hid (B4.out.trans (hb.mono B4.out.size)); clear hb))

      · go_roundw
        case rel => exact ⟨_, cnt2, _, vint (by rw [List.map_append, List.map_cons, List.map_nil, e2.out, e3.out, if_pos (by omega)]; omega), by rw [List.length_append]; simp; omega, V2, G5, B5⟩
        case measure => rw [G5.out.eq, G.out.eq]; omega
      · go_roundw
        case rel => exact ⟨_, cnt2, _, vint (by rw [List.map_append, List.map_cons, List.map_nil, e2.out, e3.out, if_neg (by omega)]; omega), by rw [List.length_append]; simp; omega, V2, G5, B5⟩
        case measure => rw [G5.out.eq, G.out.eq]; omega
end Go.Proofs.YtkfhppbmnjmnoaaGreatDoor.W

/- LAYER 28 (chunk): a store of the program of which one file is another one, or that has one more, or fewer. -/
set_option linter.unusedSimpArgs false
set_option linter.unusedVariables false
namespace Go.Proofs.YtkfhppbmnjmnoaaGreatDoor.W
open Go Go.ChangeShapes Go.WideShapes Go.ChangeAt Go.RowKit
open Go.Proofs.YtkfhppbmnjmnoaaGreatDoor.P (shaL shaL_len)

/-- no two of them have one block -/
def Apart (g : FX → Option Nat) (X : List FX) : Prop := X.Pairwise fun x y => ∀ b, g x = some b → g y ≠ some b
theorem apart_set {g : FX → Option Nat} {X : List FX} {i : Nat} {x y : FX} (hp : Apart g X) (hi : X[i]? = some x) (hy : ∀ b, g y = some b → g x = some b ∨ ∀ z ∈ X, g z ≠ some b) : Apart g (X.set i y) := by
  unfold Apart at *
  rw [List.pairwise_iff_getElem] at hp ⊢
  obtain ⟨hil, hix⟩ := List.getElem?_eq_some_iff.1 hi
  intro j k hj hk hjk b hb
  rw [List.length_set] at hj hk
  rw [List.getElem_set] at hb ⊢
  by_cases h1 : i = j
  · subst h1
    rw [if_pos rfl] at hb
    rw [if_neg (by omega)]
    rcases hy b hb with h2 | h2
    · exact hp i k hj hk hjk b (by rw [hix]; exact h2)
    · exact h2 _ (List.getElem_mem hk)
  · rw [if_neg h1] at hb
    by_cases h2 : i = k
    · subst h2
      rw [if_pos rfl]
      intro h3
      rcases hy b h3 with h4 | h4
      · exact hp j i hj hk hjk b hb (by rw [hix]; exact h4)
      · exact h4 _ (List.getElem_mem hj) hb
    · rw [if_neg h2]
      exact hp j k hj hk hjk b hb
theorem apart_ins {g : FX → Option Nat} {X : List FX} {k : Nat} {y : FX} (hp : Apart g X) (hy : ∀ b, g y = some b → ∀ z ∈ X, g z ≠ some b) : Apart g (X.take k ++ y :: X.drop k) := by
  unfold Apart at *
  rw [List.pairwise_append]
  refine ⟨hp.sublist (List.take_sublist _ _), List.pairwise_cons.2 ⟨fun z hz b hb => hy b hb z (List.mem_of_mem_drop hz), hp.sublist (List.drop_sublist _ _)⟩, fun a ha b hb q hq => ?_⟩
  rcases List.mem_cons.1 hb with rfl | hb
  · exact fun h => hy q h a (List.mem_of_mem_take ha) hq
  · have h2 : (X.take k ++ X.drop k).Pairwise (fun x y => ∀ b, g x = some b → g y ≠ some b) := by rw [List.take_append_drop]; exact hp
    exact (List.pairwise_append.1 h2).2.2 a ha b hb q hq
theorem apart_at {g : FX → Option Nat} {X : List FX} (h : Apart g X) {x y : FX} (hx : x ∈ X) (hy : y ∈ X) (hne : x ≠ y) {b : Nat} (h1 : g x = some b) (h2 : g y = some b) : False := by
  unfold Apart at h
  induction X with
  | nil => cases hx
  | cons z X ih =>
    obtain ⟨p1, p2⟩ := List.pairwise_cons.1 h
    rcases List.mem_cons.1 hx with ex | hx'
    · rcases List.mem_cons.1 hy with ey | hy'
      · exact hne (by rw [ex, ey])
      · exact p1 y hy' b (by rw [← ex]; exact h1) h2
    · rcases List.mem_cons.1 hy with ey | hy'
      · exact p1 x hx' b (by rw [← ey]; exact h2) h1
      · exact ih p2 hx' hy'
theorem CK.pb {w : World} {p m : Nat} {room : Int} {X : List FX} {S : Nat → Prop} (h : CK w p m room X S) : Apart (fun x => x.bv.ownBlock) X := h.sb
theorem CK.pt {w : World} {p m : Nat} {room : Int} {X : List FX} {S : Nat → Prop} (h : CK w p m room X S) : Apart (fun x => x.tv.ownBlock) X := h.st
theorem keys_set {X : List FX} {i : Nat} {x y : FX} (hi : X[i]? = some x) (e : y.f.s = x.f.s) : (X.set i y).map (·.f.s) = X.map (·.f.s) := by
  obtain ⟨hil, hix⟩ := List.getElem?_eq_some_iff.1 hi
  rw [List.map_set]
  refine List.ext_getElem? fun j => ?_
  by_cases h : i = j
  · subst h
    rw [List.getElem?_set_self (by simpa using hil), List.getElem?_map, hi, e]; rfl
  · rw [List.getElem?_set_ne h]
theorem ris_of_keys {X Y : List FX} (h : Ris (MX X)) (e : Y.map (·.f.s) = X.map (·.f.s)) : Ris (MX Y) := by
  have key : ∀ Z : List FX, Ris (MX Z) ↔ (Z.map (·.f.s)).Pairwise (fun a b => ltM a b = true) := fun Z => by
    unfold Ris MX
    rw [List.pairwise_map, List.pairwise_map]
  rw [key] at h ⊢
  rw [e]; exact h
theorem ris_set {X : List FX} (h : Ris (MX X)) {i : Nat} {x y : FX} (hi : X[i]? = some x) (e : y.f.s = x.f.s) : Ris (MX (X.set i y)) := ris_of_keys h (keys_set hi e)
theorem mx_mem {X : List FX} {p : Ent} : p ∈ MX X ↔ ∃ x ∈ X, p = (x.f.s, x.val) := by
  unfold MX
  rw [List.mem_map]
  exact ⟨fun ⟨q, h, e⟩ => ⟨q, h, e.symm⟩, fun ⟨q, h, e⟩ => ⟨q, h, e.symm⟩⟩
theorem mx_set {X : List FX} (h : Ris (MX X)) {i : Nat} {x y : FX} (hi : X[i]? = some x) (e : y.f.s = x.f.s) (p : Ent) : p ∈ MX (X.set i y) ↔ p = (x.f.s, y.val) ∨ (p ∈ MX X ∧ p.1 ≠ x.f.s) := by
  obtain ⟨hil, hix⟩ := List.getElem?_eq_some_iff.1 hi
  have hxm : x ∈ X := List.mem_of_getElem? hi
  rw [mx_mem, mx_mem]
  constructor
  · rintro ⟨z, hz, rfl⟩
    rcases List.mem_or_eq_of_mem_set hz with h1 | rfl
    · by_cases hzx : z.f.s = x.f.s
      · obtain ⟨j, hj⟩ := List.getElem?_of_mem hz
        by_cases hji : i = j
        · subst hji
          rw [List.getElem?_set_self hil] at hj
          injection hj with hj
          exact .inl (by rw [← hj, e])
        · rw [List.getElem?_set_ne hji] at hj
          have : z = x := risx_uniq h h1 hxm hzx
          subst this
          have hn : X.Pairwise (fun a b => a.f.s ≠ b.f.s) := by
            have h2 := ris_ne h
            unfold MX at h2
            rwa [List.pairwise_map] at h2
          obtain ⟨hjl, hjx⟩ := List.getElem?_eq_some_iff.1 hj
          rw [List.pairwise_iff_getElem] at hn
          rcases Nat.lt_or_gt_of_ne hji with h3 | h3
          · exact absurd (by rw [hix, hjx]) (hn i j hil hjl h3)
          · exact absurd (by rw [hix, hjx]) (hn j i hjl hil h3)
      · exact .inr ⟨⟨z, h1, rfl⟩, hzx⟩
    · exact .inl (by rw [e])
  · rintro (rfl | ⟨⟨z, hz, rfl⟩, h2⟩)
    · exact ⟨y, List.mem_set hil y, by rw [e]⟩
    · obtain ⟨j, hj⟩ := List.getElem?_of_mem hz
      have hji : i ≠ j := by
        rintro rfl
        rw [hi] at hj
        injection hj with hj
        exact h2 (by rw [hj])
      exact ⟨z, List.mem_of_getElem? (by rw [List.getElem?_set_ne hji]; exact hj), rfl⟩
theorem set_f {X : List FX} {i : Nat} {y : FX} : (X.set i y).map (·.f) = (X.map (·.f)).set i y.f := List.map_set ..
/-- of the map alone something else is there -/
theorem CK.turn {w w' : World} {p m : Nat} {room : Int} {X Y : List FX} {S : Nat → Prop} (h : CK w p m room X S) (hg : w.grownBy w' (some m)) (hsm : SM w' m Y.length (MX Y))
    (hb : Apart (fun x => x.bv.ownBlock) Y) (ht : Apart (fun x => x.tv.ownBlock) Y) (ob : ∀ x ∈ Y, Fr w 0 x.bv x.f.b) (ot : ∀ x ∈ Y, LsO intE w 0 x.tv x.f.t)
    (Sb : ∀ x ∈ Y, ∀ g, x.bv.ownBlock = some g → S g) (St : ∀ x ∈ Y, ∀ g, x.tv.ownBlock = some g → S g) : CK w' p m room Y S ∧ Ft S w w' := by
  have hne : ∀ g, g ≠ m → w.heap[g]? = w.heap[g]? := fun _ _ => rfl
  have hpm : p ≠ m := (h.sm.norow h.rp).symm
  have keep : ∀ g, g < w.heap.size → g ≠ m → w'.heap[g]? = w.heap[g]? := fun g hlt hn => hg.block g hlt (fun e => hn (by injection e))
  have nb : ∀ x ∈ Y, ∀ g, x.bv.ownBlock = some g → g ≠ m := fun x hx g e e2 => by
    obtain ⟨a, c, ev, -, -⟩ := (ob x hx).form
    have h2 := (ob x hx).2
    rcases h2 with ⟨e3, -⟩ | ⟨q, cap, cur, e3, -, hh, -⟩
    · rw [e3] at e; cases e
    · rw [e3] at e
      have : q = g := by injection e
      obtain ⟨es, clock, hb2, -⟩ := h.sm.own
      rw [this, e2, hb2] at hh
      cases hh
  have nt : ∀ x ∈ Y, ∀ g, x.tv.ownBlock = some g → g ≠ m := fun x hx g e e2 => by
    have h2 := (ot x hx).2
    rcases h2 with ⟨e3, -⟩ | ⟨q, cap, cur, e3, -, hh, -⟩
    · rw [e3] at e; cases e
    · rw [e3] at e
      have : q = g := by injection e
      obtain ⟨es, clock, hb2, -⟩ := h.sm.own
      rw [this, e2, hb2] at hh
      cases hh
  refine ⟨{ rp := ?_, sm := hsm, ob := fun x hx => (ob x hx).keep fun g e => keep g ((ob x hx).blt e) (nb x hx g e), ot := fun x hx => (ot x hx).keep fun g e => keep g ((ot x hx).blt e) (nt x hx g e), sb := hb, st := ht, Sp := h.Sp, Sm := h.Sm, Sb := Sb, St := St, lt := fun k hk => Nat.lt_of_lt_of_le (h.lt k hk) hg.size }, ⟨hg.os, hg.tape, hg.output, hg.size, fun k hk hn => keep k hk (fun e => hn (e ▸ h.Sm))⟩⟩
  exact (keep p h.rp.lt hpm).trans h.rp
end Go.Proofs.YtkfhppbmnjmnoaaGreatDoor.W

/- LAYER 28 (chunk): the program's New, Get, Has. -/
set_option linter.unusedSimpArgs false
set_option linter.unusedVariables false
namespace Go.Proofs.YtkfhppbmnjmnoaaGreatDoor.W
open Go Go.ChangeShapes Go.WideShapes Go.ChangeAt Go.RowKit
open Go.Proofs.YtkfhppbmnjmnoaaGreatDoor.P (shaL shaL_len)

theorem st_size : (Tryz.prog.info? 66).map (·.size) = some 2 := by kernel_rfl
theorem st_built (room : Int) (m : Nat) : Tryz.prog.built 66 [(0, .int .i64 room), (1, .map (some m))] = some #[.int .i64 room, .map (some m)] := by kernel_rfl
set_option maxRecDepth 100000 in
set_option maxHeartbeats 4000000 in
theorem cnew_bad (room : Int) (w : World) (h : room < 0 ∨ 524288 < room) :
    Calls Tryz.prog 7 #[.int .i64 room] w fun e w' => e = .returned (.tuple #[.pointer none, .int .i64 1]) ∧ w = w' := by
  have HP := Lib.hid (pin room 0 524288 false (by unfold in64; rcases h with h | h <;> simp <;> omega))
  clear h
  go_enter Tryz.func7, Tryz.ntmps7
  go_wp2_with (go_at_call 35; (with_reducible refine (HP.out w).mono ?_); rintro e w1 ⟨rfl, rfl⟩)
  go_ret2
  exact ⟨rfl, rfl⟩
set_option maxRecDepth 100000 in
set_option maxHeartbeats 4000000 in
theorem cnew (room : Int) (w : World) (h : 0 ≤ room ∧ room ≤ 524288) :
    Calls Tryz.prog 7 #[.int .i64 room] w fun e w' => ∃ p m, e = .returned (.tuple #[.pointer (some ⟨p, 0, none⟩), .int .i64 0]) ∧ CK w' p m room [] (fun k => w.heap.size ≤ k ∧ k < w'.heap.size) ∧ Below w.heap.size w w' := by
  have HP := Lib.hid (pin room 0 524288 true (by unfold in64; simp; omega))
  have hmm := @run_makeMap Tryz.prog
  have BT := Lib.hid (st_built room w.heap.size)
  clear h
  go_enter Tryz.func7, Tryz.ntmps7
  go_wp2_with (first
    | (go_at_call 35; (with_reducible refine (HP.out w).mono ?_); rintro e w1 ⟨rfl, rfl⟩)
    | ((with_reducible refine build_row (o := ⟨some 9, _, _, _, _, _⟩) rfl _ _ rfl [.int .i64 room, .map (some w.heap.size)] ?_ ?_); (focus (go_simp; exact BT.out)))
    | ((with_reducible refine box_row (o := ⟨some 10, _, _, _, _, _⟩) rfl _ _ rfl [.int .i64 room, .map (some w.heap.size)] ?_ ?_); (focus (go_simp)); intro w2 hr2 hb2 hz2; have R2 := Lib.hid hr2; have B2 := Lib.hid hb2; have Z2 := Lib.hid hz2; clear hr2 hb2 hz2))
  go_ret2
  have hz2 := Z2.out
  have hb2 := B2.out
  have h1 : (w.alloc (.map #[] 0)).heap.size = w.heap.size + 1 := by simp
  refine ⟨w.heap.size + 1, w.heap.size, by simp, { rp := ?_, sm := ?_, ob := by simp, ot := by simp, sb := List.Pairwise.nil, st := List.Pairwise.nil, Sp := ⟨by omega, by omega⟩, Sm := ⟨Nat.le_refl _, by omega⟩, Sb := by simp, St := by simp, lt := fun k hk => hk.2 }, ?_⟩
  · have := R2.out
    simpa using this
  · have := (SM.made w).kept hb2
    exact this
  · exact ((Below.refl _ _).alloc (Nat.le_refl _) _).trans (hb2.mono (by simp))
set_option maxRecDepth 100000 in
set_option maxHeartbeats 4000000 in
theorem cget {p m : Nat} {room : Int} {X : List FX} {S : Nat → Prop} {w : World} (s : ByteArray) (h : CK w p m room X S) (hok : ∀ x ∈ X, x.f.b.length ≤ 256) (hs : s.size ≤ maxLen) (hK : Ks w) :
    Calls Tryz.prog 19 #[.pointer (some ⟨p, 0, none⟩), .string s] w fun e w' => ∃ v, e = .returned (.tuple #[v, .int .i64 (getC (X.map (·.f)) s).2]) ∧ Fr w' w.heap.size v (getC (X.map (·.f)) s).1 ∧ Below w.heap.size w w' := by
  have HR := Lib.hid (cready p m room w h.rp)
  have c1 := h.rp.k2.2
  have FZ := Lib.hid file_zero
  have SZ := Lib.hid file_size
  unfold getC
  rcases find_or s (X.map (·.f)) with ⟨hf, hno⟩ | ⟨f, hf, hfm, hfs⟩
  · rw [hf]
    dsimp only
    have lk := (look_no (s := s) 64 44 map_type _ (file_zv w) h.sm hs (fun p hp => by obtain ⟨x, hx, rfl⟩ := mx_mem.1 hp; exact hno x.f (List.mem_map.2 ⟨x, hx, rfl⟩))).2
    clear h hf hno hok hs hK
    go_enter Tryz.func19, Tryz.ntmps19
    go_wp2_with (first
      | (go_at_call 50; (with_reducible refine HR.out.mono ?_); rintro e w1 ⟨rfl, rfl⟩)
      | ((with_reducible refine alloc_row (o := ⟨some 6, _, _, _, _, _⟩) rfl _ rfl _ FZ.out ?_); intro w1 hr hb hz; have R1 := Lib.hid hr; have B1 := Lib.hid hb; clear hr hb hz)
      | ((with_reducible refine store_row (o := ⟨none, _, _, _, _, _⟩) rfl _ (.tmp 6) _ rfl w.heap.size (fiC ⟨#[]⟩ (.slice none 0 0) 0 (.slice none 0 0)) ?_ ?_ 44 _ R1.out ?_ ?_ ?_ ?_); (focus go_simp); (focus (first | (go_simp; done) | (go_simp; rfl))); (focus (exact SZ.out)); (focus rfl); (focus (exact fi_one _ _ _ _ rfl rfl)); intro w2 hr hu; have B2 := Lib.hid (B1.out.trans (hu.below (Nat.le_refl _))); clear hr hu))
    go_ret2
    exact ⟨_, rfl, Fr.nil _ _, B2.out⟩
  · rw [hf]
    dsimp only
    obtain ⟨x, hx, rfl⟩ := find_x hfm
    have lk := (look_yes (s := s) 64 44 map_type _ (file_zv w) h.sm hs (by rw [← hfs]; exact h.at hx)).2
    obtain ⟨fa, fc, hbv, hrd, -⟩ := (h.ob x hx).form
    have h256 := hok x hx
    have OC := Lib.hid (lso_cell (h.ot x hx))
    obtain ⟨⟨xs, xb, xu, xt⟩, xbv, xtv⟩ := x
    dsimp only at hbv hrd h256 lk OC hfs ⊢
    subst hfs
    obtain ⟨bl, hbl⟩ : ∃ bl, xb.length = bl := ⟨_, rfl⟩
    rw [hbl] at hbv hrd h256
    have RD := Lib.hid hrd
    have HI := Lib.hid (fun w' (hb : Below w.heap.size w w') => cintact xs (.slice fa bl fc) xtv fa bl fc xu xb w' rfl (hrd.mono hb) (by omega) (hK.below hb hK.pos))
    have HC := Lib.hid (fun w' (hb : Below w.heap.size w w') => fclone fa bl fc xb w' (hrd.mono hb) (by omega))
    obtain ⟨V, hV⟩ : ∃ V, decide (sumOf xb = xs) = V := ⟨_, rfl⟩
    have HV := Lib.hid (show intactC ⟨xs, xb, xu, xt⟩ = V from hV)
    rw [hV] at HI
    subst hbv
    clear h hf hfm hok hs hK hrd hx hV
    go_enter Tryz.func19, Tryz.ntmps19
    cases V
    · rw [HV.out]
      go_wp2_with (first
        | (go_at_call 50; (with_reducible refine HR.out.mono ?_); rintro e w1 ⟨rfl, rfl⟩)
        | ((with_reducible refine alloc_row (o := ⟨some 6, _, _, _, _, _⟩) rfl _ rfl _ FZ.out ?_); intro w1 hr hb hz; have R1 := Lib.hid hr; have B1 := Lib.hid hb; clear hr hb hz)
        | ((with_reducible refine store_row (o := ⟨none, _, _, _, _, _⟩) rfl _ (.tmp 6) _ rfl w.heap.size (fiC xs (.slice fa bl fc) xu xtv) ?_ ?_ 44 _ R1.out ?_ ?_ ?_ ?_); (focus go_simp); (focus (first | (go_simp; done) | (go_simp; rfl))); (focus (exact SZ.out)); (focus rfl); (focus (exact fi_one _ _ _ _ rfl OC.out)); intro w2 hr hu; have R2 := Lib.hid hr; have B2 := Lib.hid (B1.out.trans (hu.below (Nat.le_refl _))); clear hr hu)
        | ((with_reducible refine load_row (o := ⟨some 22, _, _, _, _, _⟩) rfl _ _ rfl w.heap.size ?_ _ (fiC xs (.slice fa bl fc) xu xtv) _ R2.out Tryz.underlying44 rfl ?_ ?_); (focus go_simp); (focus (exact SZ.out)))
        | (go_at_call 52; (with_reducible refine (HI.out w2 B2.out).mono ?_); rintro e w3 ⟨rfl, hb⟩; have B3 := Lib.hid (B2.out.trans (hb.mono B2.out.size)); clear hb))
      go_ret2
      exact ⟨_, rfl, Fr.nil _ _, B3.out⟩
    · rw [HV.out]
      go_wp2_with (first
        | (go_at_call 50; (with_reducible refine HR.out.mono ?_); rintro e w1 ⟨rfl, rfl⟩)
        | ((with_reducible refine alloc_row (o := ⟨some 6, _, _, _, _, _⟩) rfl _ rfl _ FZ.out ?_); intro w1 hr hb hz; have R1 := Lib.hid hr; have B1 := Lib.hid hb; clear hr hb hz)
        | ((with_reducible refine store_row (o := ⟨none, _, _, _, _, _⟩) rfl _ (.tmp 6) _ rfl w.heap.size (fiC xs (.slice fa bl fc) xu xtv) ?_ ?_ 44 _ R1.out ?_ ?_ ?_ ?_); (focus go_simp); (focus (first | (go_simp; done) | (go_simp; rfl))); (focus (exact SZ.out)); (focus rfl); (focus (exact fi_one _ _ _ _ rfl OC.out)); intro w2 hr hu; have R2 := Lib.hid hr; have B2 := Lib.hid (B1.out.trans (hu.below (Nat.le_refl _))); clear hr hu)
        | ((with_reducible refine load_row (o := ⟨some 22, _, _, _, _, _⟩) rfl _ _ rfl w.heap.size ?_ _ (fiC xs (.slice fa bl fc) xu xtv) _ R2.out Tryz.underlying44 rfl ?_ ?_); (focus go_simp); (focus (exact SZ.out)))
        | (go_at_call 52; (with_reducible refine (HI.out w2 B2.out).mono ?_); rintro e w3 ⟨rfl, hb⟩; have B3 := Lib.hid (B2.out.trans (hb.mono B2.out.size)); obtain ⟨c0, c1', c2, c3⟩ := (R2.out.below hb R2.out.lt).k4; clear hb c0 c2 c3)
        | (go_at_call 53; (with_reducible refine (HC.out w3 B3.out).mono ?_); rintro e w4 ⟨v4, rfl, hf, hb⟩; have F4 := Lib.hid (hf.base B3.out.size); have B4 := Lib.hid (B3.out.trans (hb.mono B3.out.size)); clear hf hb))
      go_ret2
      exact ⟨_, rfl, F4.out, B4.out⟩
set_option maxRecDepth 100000 in
set_option maxHeartbeats 4000000 in
theorem chas {p m : Nat} {room : Int} {X : List FX} {S : Nat → Prop} {w : World} (s : ByteArray) (h : CK w p m room X S) (hok : ∀ x ∈ X, x.f.b.length ≤ 256) (hs : s.size ≤ maxLen) (hK : Ks w) :
    Calls Tryz.prog 21 #[.pointer (some ⟨p, 0, none⟩), .string s] w fun e w' => e = .returned (.bool (decide ((getC (X.map (·.f)) s).2 = 0))) ∧ Below w.heap.size w w' := by
  have HG := Lib.hid (cget s h hok hs hK)
  obtain ⟨V, hV⟩ : ∃ V, (getC (X.map (·.f)) s).2 = V := ⟨_, rfl⟩
  rw [hV] at HG ⊢
  clear h hok hs hK hV
  go_enter Tryz.func21, Tryz.ntmps21
  go_wp2_with (go_at_call 19; (with_reducible refine HG.out.mono ?_); rintro e w1 ⟨v, rfl, hf, hb⟩; have B1 := Lib.hid hb; clear hf hb)
  go_ret
  exact ⟨rfl, B1.out⟩
end Go.Proofs.YtkfhppbmnjmnoaaGreatDoor.W

/- LAYER 28 (chunk): lists of files, of both sides; the program's Files, Sync. -/
set_option linter.unusedSimpArgs false
set_option linter.unusedVariables false
namespace Go.Proofs.YtkfhppbmnjmnoaaGreatDoor.W
open Go Go.ChangeShapes Go.WideShapes Go.ChangeAt Go.RowKit
open Go.Proofs.YtkfhppbmnjmnoaaGreatDoor.P (shaL shaL_len)

/-- a block of such elements -/
def IsTy (w : World) (g : Nat) (t : TypeId) : Prop := ∃ cur fz, w.heap[g]? = some (.cells cur t fz)
/-- a file as it lies in a list -/
structure FY where
  f : Fi
  ba : Option Addr
  bn : Nat
  bc : Nat
  ta : Option Addr
  tn : Nat
  tc : Nat
@[reducible] def FY.cells (y : FY) : List Value := fiC y.f.s (.slice y.ba y.bn y.bc) y.f.su (.slice y.ta y.tn y.tc)
structure FYr (w : World) (y : FY) : Prop where
  s : y.f.s.size ≤ 1000000
  rb : Rd w y.ba y.bn y.bc y.f.b
  rt : Ls intE w y.ta y.tn y.tc y.f.t
  b1 : y.bn ≤ 1000000
  su : y.f.su ≤ 1000000
  t1 : y.tn ≤ 1000
  kb : ∀ b off s, y.ba = some ⟨b, off, s⟩ → IsTy w b 5
  kt : ∀ b off s, y.ta = some ⟨b, off, s⟩ → IsTy w b 3
theorem IsTy.lt {w : World} {g : Nat} {t : TypeId} (h : IsTy w g t) : g < w.heap.size := by obtain ⟨_, _, h⟩ := h; exact (Array.getElem?_eq_some_iff.1 h).1
theorem IsTy.of {w w' : World} {g : Nat} {t : TypeId} (h : IsTy w g t) (e : w'.heap[g]? = w.heap[g]?) : IsTy w' g t := by obtain ⟨a, b, h⟩ := h; exact ⟨a, b, e.trans h⟩
theorem IsTy.ne {w : World} {g g' : Nat} {t t' : TypeId} (h : IsTy w g t) (h' : IsTy w g' t') (hn : t ≠ t') : g ≠ g' := by
  rintro rfl
  obtain ⟨_, _, h⟩ := h
  obtain ⟨_, _, h'⟩ := h'
  rw [h] at h'
  injection h' with h'
  injection h' with _ h' _
  exact hn h'
theorem Row.ty {w : World} {g : Nat} {t : TypeId} {L : List Value} (h : Row w g t L) : IsTy w g t := ⟨_, _, h⟩
/-- what reads stays where its own block does -/
theorem Rd.stay {w w' : World} {a : Option Addr} {n c : Nat} {l : List UInt8} (h : Rd w a n c l) (hs : w.heap.size ≤ w'.heap.size) (hk : ∀ b off s, a = some ⟨b, off, s⟩ → b < w.heap.size → w'.heap[b]? = w.heap[b]?) : Rd w' a n c l := by
  refine ⟨h.hlen, h.hle, h.hmax, h.hnil, ?_⟩
  rcases h.hcells with h0 | ⟨b, off, rfl, hlt, hc⟩
  · exact .inl h0
  · exact .inr ⟨b, off, rfl, Nat.lt_of_lt_of_le hlt hs, fun i hi => by rw [World.cell?_of_block (show w'.heap[(⟨b, off + i, none⟩ : Addr).block]? = _ from hk b off none rfl hlt)]; exact hc i hi⟩
theorem Ls.stay {α : Type} {E : El α} {w w' : World} {a : Option Addr} {n c : Nat} {L : List α} (h : Ls E w a n c L) (hs : w.heap.size ≤ w'.heap.size) (hk : ∀ b off s, a = some ⟨b, off, s⟩ → b < w.heap.size → w'.heap[b]? = w.heap[b]?) (hf : ∀ x ∈ L, E.fit w' x) : Ls E w' a n c L := by
  refine ⟨h.hlen, h.hle, h.hmax, hf, h.hnil, ?_⟩
  rcases h.hcells with h0 | ⟨b, off, rfl, hlt, hc⟩
  · exact .inl h0
  · exact .inr ⟨b, off, rfl, Nat.lt_of_lt_of_le hlt hs, fun i x hi j v hj => by rw [World.cell?_of_block (show w'.heap[(⟨b, off + i * E.k + j, none⟩ : Addr).block]? = _ from hk b off none rfl hlt)]; exact hc i x hi j v hj⟩
theorem FYr.stay {w w' : World} {y : FY} (h : FYr w y) (hs : w.heap.size ≤ w'.heap.size) (hk : ∀ g, IsTy w g 5 ∨ IsTy w g 3 → w'.heap[g]? = w.heap[g]?) : FYr w' y :=
  { h with
    rb := h.rb.stay hs fun b off s e _ => hk b (.inl (h.kb b off s e))
    rt := h.rt.stay hs (fun b off s e _ => hk b (.inr (h.kt b off s e))) h.rt.hfit
    kb := fun b off s e => (h.kb b off s e).of (hk b (.inl (h.kb b off s e)))
    kt := fun b off s e => (h.kt b off s e).of (hk b (.inr (h.kt b off s e))) }
theorem FYr.mono {w w' : World} {y : FY} (h : FYr w y) (hb : Below w.heap.size w w') : FYr w' y :=
  h.stay hb.size fun g hg => hb.block g (hg.elim IsTy.lt IsTy.lt)
theorem FYr.upd {w w' : World} {y : FY} {g : Nat} {t : TypeId} {L : List Value} (h : FYr w y) (hr : Row w g t L) (h1 : t ≠ 5) (h2 : t ≠ 3) (hu : Upd w w' g) : FYr w' y :=
  h.stay (Nat.le_of_eq hu.size.symm) fun k hk => hu.block k (hk.elim (fun e => e.ne hr.ty (Ne.symm h1)) (fun e => e.ne hr.ty (Ne.symm h2)))
@[reducible] def fiE : El FY := ⟨38, 44, 4, 72, .agg (fiC ⟨#[]⟩ (.slice none 0 0) 0 (.slice none 0 0)).toArray, FY.cells, fun w y => FYr w y⟩
theorem fiOk : fiE.Ok Tryz.prog where
  und := Tryz.underlying38
  info := by kernel_rfl
  zs := rfl
  pos := by decide
  len := fun _ => rfl
  one := fun y v hv => by simp at hv; rcases hv with rfl | rfl | rfl | rfl <;> rfl
  mono := fun x w w' h hb => h.mono hb
  small := by decide
theorem fi_fill (y : FY) : Instr.fill (fun i => some (i * fiE.k, fiE.k)) ((Array.range (1 * fiE.k)).map (fiE.z.cells[· % fiE.z.cells.size]!)) [(0, .agg (fiE.cells y).toArray)] = some (fiE.cells y).toArray := by
  obtain ⟨⟨s, b, su, t⟩, ba, bn, bc, ta, tn, tc⟩ := y
  kernel_rfl
/-- a list of files that the call made -/
structure LsF (w : World) (base : Nat) (v : Value) (Y : List FY) : Prop where
  own : LsO fiE w base v Y
  fit : ∀ y ∈ Y, FYr w y
theorem LsF.nil (w : World) (base : Nat) : LsF w base (.slice none 0 0) [] := ⟨LsO.nil _ _, by simp⟩
theorem LsF.kept {w w' : World} {base : Nat} {v : Value} {Y : List FY} (h : LsF w base v Y) (hb : Below w.heap.size w w') : LsF w' base v Y := ⟨h.own.kept hb, fun y hy => (h.fit y hy).mono hb⟩
theorem LsF.base {w : World} {b b' : Nat} {v : Value} {Y : List FY} (h : LsF w b v Y) (hb : b' ≤ b) : LsF w b' v Y := ⟨h.own.base hb, h.fit⟩
theorem lso_ty {α : Type} {E : El α} {w : World} {base g : Nat} {v : Value} {L : List α} (h : LsO E w base v L) (e : v.ownBlock = some g) : IsTy w g E.eT := by
  obtain ⟨-, h2⟩ := h
  rcases h2 with ⟨rfl, -⟩ | ⟨q, c, cur, rfl, -, hh, -⟩
  · cases e
  · injection e with e
    subst e
    exact ⟨_, _, hh⟩
theorem LsF.upd {w w' : World} {base g : Nat} {v : Value} {Y : List FY} {t : TypeId} {L : List Value} (h : LsF w base v Y) (hr : Row w g t L) (h0 : v.ownBlock ≠ some g) (h1 : t ≠ 5) (h2 : t ≠ 3) (hu : Upd w w' g) : LsF w' base v Y :=
  ⟨h.own.upd hu h0, fun y hy => (h.fit y hy).upd hr h1 h2 hu⟩
/-- they stay where a list of files is appended to -/
theorem FYr.grown {w w' : World} {base : Nat} {v : Value} {Y : List FY} {y : FY} (h : FYr w y) (ho : LsO fiE w base v Y) (hg : w.grownBy w' v.ownBlock) : FYr w' y :=
  h.stay hg.size fun k hk => hg.block k (hk.elim IsTy.lt IsTy.lt) (fun e => hk.elim (fun q => q.ne (lso_ty ho e.symm) (by decide) rfl) (fun q => q.ne (lso_ty ho e.symm) (by decide) rfl))
theorem append_fi {w : World} {ops : Array Oper} {rest : List Oper} {o : Oper} {a : Act} {Q : Exit → Act → World → Prop} (hgd : o.guard = none) (s x : Operand)
    (ho : o.op = .call { callee := .builtin .append, args := #[s, x], argTypes := #[38, 38] })
    (base : Nat) (v : Value) (Y : List FY) (hs : a.eval s = v) (hown : LsF w base v Y)
    (sa : Option Addr) (m c : Nat) (Z : List FY) (hx : a.eval x = .slice sa m c) (hr : Ls fiE w sa m c Z) (hmax : Y.length + m ≤ 1000000) (hbase : base ≤ w.heap.size)
    (h : ∀ v' w', LsF w' base v' (Y ++ Z) → Below base w w' → w.grownBy w' v.ownBlock → (v'.ownBlock = v.ownBlock ∨ v'.ownBlock = some w.heap.size) → wpList Tryz.prog ops Q rest (a.put o.dst v') w') : wpList Tryz.prog ops Q (o :: rest) a w := by
  refine append_ls fiOk hgd s x ho base v Y hs hown.own sa m c Z hx hr hmax hbase (fun v' w' hN hb hg hv => h v' w' ⟨hN, fun z hz => ?_⟩ hb hg hv)
  rcases List.mem_append.1 hz with hz | hz
  · exact (hown.fit z hz).grown hown.own hg
  · exact (hr.hfit z hz).grown hown.own hg
theorem fr_ty {w : World} {base b off : Nat} {s : Option Nat} {a : Option Addr} {n c : Nat} {l : List UInt8} (h : Fr w base (.slice a n c) l) (e : a = some ⟨b, off, s⟩) : IsTy w b 5 := by
  obtain ⟨-, h2⟩ := h
  rcases h2 with ⟨h3, -⟩ | ⟨q, cap, cur, h3, -, hh, -⟩
  · injection h3 with h3; rw [h3] at e; cases e
  · injection h3 with h3
    rw [h3] at e
    injection e with e
    injection e with e1
    subst e1
    exact ⟨_, _, hh⟩
theorem fr_tyb {w : World} {base g : Nat} {v : Value} {l : List UInt8} (h : Fr w base v l) (e : v.ownBlock = some g) : IsTy w g 5 := by
  obtain ⟨-, h2⟩ := h
  rcases h2 with ⟨rfl, -⟩ | ⟨q, c, cur, rfl, -, hh, -⟩
  · cases e
  · injection e with e
    subst e
    exact ⟨_, _, hh⟩
theorem it_ty {w : World} {base b off : Nat} {s : Option Nat} {a : Option Addr} {n c : Nat} {l : List Int} (h : LsO intE w base (.slice a n c) l) (e : a = some ⟨b, off, s⟩) : IsTy w b 3 := by
  obtain ⟨-, h2⟩ := h
  rcases h2 with ⟨h3, -⟩ | ⟨q, cap, cur, h3, -, hh, -⟩
  · injection h3 with h3; rw [h3] at e; cases e
  · injection h3 with h3
    rw [h3] at e
    injection e with e
    injection e with e1
    subst e1
    exact ⟨_, _, hh⟩
/-- a file whose bytes and times the call made, as it lies in a list -/
theorem fy_made {w : World} {base : Nat} {s : ByteArray} {bv tv : Value} {su : Nat} {b : List UInt8} {t : List Int} (hb : Fr w base bv b) (ht : LsO intE w base tv t) (hf : ∀ x ∈ t, SI64 x) (hs : s.size ≤ 1000000) (h1 : b.length ≤ 1000000) (h2 : su ≤ 1000000) (h3 : t.length ≤ 1000) :
    ∃ y : FY, y.f = ⟨s, b, su, t⟩ ∧ FYr w y ∧ fiC s bv su tv = y.cells ∧ (∀ q off z, y.ba = some ⟨q, off, z⟩ → base ≤ q) ∧ (∀ q off z, y.ta = some ⟨q, off, z⟩ → base ≤ q) := by
  obtain ⟨a, c, rfl, hr, hq⟩ := hb.form
  obtain ⟨ta, tc, rfl, hl, hq2⟩ := ht.ls intOk hf
  refine ⟨⟨⟨s, b, su, t⟩, a, b.length, c, ta, t.length, tc⟩, rfl, ⟨hs, hr, hl, h1, h2, h3, fun q off z e => fr_ty hb e, fun q off z e => it_ty ht e⟩, rfl, fun q off z e => ?_, fun q off z e => ?_⟩
  · dsimp only at e
    rcases hq with hq | ⟨g, hq, hg, -⟩
    · rw [hq] at e; cases e
    · rw [hq] at e; injection e with e; injection e with e1; rw [← e1]; exact hg
  · dsimp only at e
    subst e
    have h5 := (World.ownsRow.lt ht q rfl).1
    exact h5
theorem take_next {α β : Type} (L : List α) (g : α → β) (k : Nat) (x : α) (h : L[k]? = some x) : (L.take (k + 1)).map g = (L.take k).map g ++ [g x] := by
  obtain ⟨h1, h2⟩ := List.getElem?_eq_some_iff.1 h
  rw [List.take_succ_eq_append_getElem h1, h2, List.map_append]; rfl
set_option maxRecDepth 100000 in
set_option maxHeartbeats 4000000 in
theorem cfiles {p m T : Nat} {room : Int} {X : List FX} {S : Nat → Prop} {w : World} (h : CK w p m room X S) (hok : ∀ x ∈ X, FiOk T x.f) (hT : T ≤ 900) (hn : X.length ≤ 524288) :
    Calls Tryz.prog 12 #[.pointer (some ⟨p, 0, none⟩)] w fun e w' => ∃ v Y, e = .returned v ∧ Y.map (·.f) = X.map (·.f) ∧ LsF w' w.heap.size v Y ∧ Below w.heap.size w w' := by
  have H := Lib.hid h
  have HS := Lib.hid (csums h hn)
  have HN := Lib.hid hn
  have HOK := Lib.hid hok
  have HT := Lib.hid hT
  obtain ⟨n, hnn⟩ : ∃ n, X.length = n := ⟨_, rfl⟩
  have HNN := Lib.hid hnn
  have hn2 : n ≤ 524288 := by omega
  clear h hok hn hnn hT
  go_enter Tryz.func12, Tryz.ntmps12
  go_wp2_with (go_at_call 47; (with_reducible refine HS.out.mono ?_); rintro e w1 ⟨sv, rfl, hl, hb⟩; obtain ⟨sa, sc, rfl, hsl, -⟩ := hl.ls strOk (fun s hs => by obtain ⟨x, hx, rfl⟩ := List.mem_map.1 hs; have h5 := (HOK.out x hx).s; show x.f.s.size ≤ maxLen; unfold maxLen; omega); rw [List.length_map, HNN.out] at hsl ⊢; have SL := Lib.hid hsl; have B1 := Lib.hid hb; clear hl hb hsl)
  go_loopw [3, 9] (fun v i wr => ∃ (k : Nat) (Y : List FY), i = .int .i64 (k : Int) ∧ k ≤ n ∧ Hid (Y.map (·.f) = (X.take k).map (·.f)) ∧ Hid (LsF wr w1.heap.size v Y) ∧ Hid (Below w.heap.size w wr) ∧ Hid (Below w1.heap.size w1 wr)) (fun _ i _ => n - (intOf i).toNat)
  case atStart => exact ⟨0, [], rfl, Nat.zero_le _, Lib.hid rfl, Lib.hid (LsF.nil _ _), B1, Lib.hid (Below.refl _ _)⟩
  case round =>
    obtain ⟨k, Y, rfl, hk, HY, O, B, BW⟩ := hrel
    by_cases hlt : k < n
    · obtain ⟨x, hx⟩ : ∃ x, X[k]? = some x := ⟨X[k]'(by rw [HNN.out]; exact hlt), by simp [HNN.out, hlt]⟩
      have hxm : x ∈ X := List.mem_of_getElem? hx
      obtain ⟨sb, so, s, rfl, hs1, hc1, -⟩ := SL.out.at strOk BW.out k hlt
      have hs2 : s = x.f.s := by
        rw [List.getElem?_map, hx] at hs1
        exact (Option.some.inj hs1).symm
      subst hs2
      have d1 : wr.cell? ⟨sb, so + k, none⟩ = some (.string x.f.s) := by have := hc1 0 (.string x.f.s) rfl; rw [show so + k * strE.k + 0 = so + k by show so + k * 1 + 0 = so + k; omega] at this; exact this
      have D1 := Lib.hid d1
      have g1 : (0 : Int) ≤ (k : Int) := by omega
      have g2 : (k : Int) < (n : Int) := by omega
      have hck := H.out.mono B.out
      have okx := HOK.out x hxm
      have hsm : x.f.s.size ≤ maxLen := by have := okx.s; unfold maxLen; omega
      have lk := (look_yes (s := x.f.s) 64 44 map_type _ (file_zv wr) hck.sm hsm (hck.at hxm)).1
      have c1 := hck.rp.k2.2
      obtain ⟨fa, fc, hbv, hrd, -⟩ := (hck.ob x hxm).form
      obtain ⟨ta, tc, htv, hlt2, -⟩ := (hck.ot x hxm).ls intOk okx.t64
      have HTN := Lib.hid (take_next X (·.f) k x hx)
      have OKX := Lib.hid okx
      have HYL := Lib.hid (show Y.length ≤ 524288 by have := congrArg List.length HY.out; simp at this; omega)
      obtain ⟨⟨xs, xb, xu, xt⟩, xbv, xtv⟩ := x
      dsimp only at hbv hrd htv hlt2 lk OKX HTN hs1 d1 D1 hsm ⊢
      replace lk : (Instr.lookup 64 (.map (some m)) (.string xs) false).run Tryz.prog wr = .ok (.agg (fiC xs xbv xu xtv).toArray) wr := lk
      have h256 := OKX.out.b2
      have hsu := OKX.out.su
      have htl := OKX.out.tl
      have ht9 := HT.out
      dsimp only at h256 hsu htl
      have MK := Lib.hid (fun (base : Nat) (w3 : World) (bv tv : Value) (h1 : Fr w3 base bv xb) (h2 : LsO intE w3 base tv xt) => fy_made (su := xu) h1 h2 OKX.out.t64 (show xs.size ≤ 1000000 from OKX.out.s) (by omega) (by omega) (by omega))
      have HCP := Lib.hid (ccopied xs (.slice fa xb.length fc) (.slice ta xt.length tc) fa ta xb.length fc xt.length tc xu xb xt wr rfl hrd (by omega) rfl hlt2 (by omega))
      subst hbv htv
      clear hs1 hc1 hck okx hrd hlt2 hx hxm h256 hsu htl ht9
      go_wp2_with (first
        | (go_at_call 48; (with_reducible refine HCP.out.mono ?_); rintro e w3 ⟨a', tv', rfl, hf, ht, hb⟩; obtain ⟨y, hy, hyr, hyc, -, -⟩ := MK.out _ _ _ _ hf ht; rw [hyc]; have Y3 := Lib.hid hyr; have HYF := Lib.hid hy; have B3 := Lib.hid (B.out.trans (hb.mono B.out.size)); have BW3 := Lib.hid (BW.out.trans (hb.mono BW.out.size)); have O3 := Lib.hid (O.out.kept hb); clear hf ht hb hy hyr hyc c1 lk)
        | ((with_reducible refine build_ls fiOk fi_fill (o := ⟨some 21, _, _, _, _, _⟩) rfl _ rfl y ?_ Y3.out (by decide) ?_); (focus (first | (go_simp; done) | (go_simp; rfl))); intro w4 hl hb hz; have L4 := Lib.hid hl; have B4 := Lib.hid (B3.out.trans (hb.mono B3.out.size)); have BW4 := Lib.hid (BW3.out.trans (hb.mono BW3.out.size)); have O4 := Lib.hid (O3.out.kept hb); clear hl hb hz)
        | ((with_reducible refine append_fi (o := ⟨some 22, _, _, _, _, _⟩) rfl _ _ rfl w1.heap.size _ Y ?_ O4.out (some ⟨w3.heap.size, 0, none⟩) 1 1 [y] ?_ L4.out (by have := HYL.out; omega) BW4.out.size ?_); (focus (first | (go_simp; done) | (go_simp; rfl))); (focus (first | (go_simp; done) | (go_simp; rfl))); intro v5 w5 hN hb2 hg2 hv2; have O5 := Lib.hid hN; have B5 := Lib.hid (B4.out.trans (hb2.mono B1.out.size)); have BW5 := Lib.hid (BW4.out.trans hb2); clear hN hb2 hg2 hv2))
      go_roundw
      case rel => exact ⟨k + 1, Y ++ [y], vint (by omega), by omega, Lib.hid (by rw [List.map_append, HY.out, HTN.out, List.map_cons, List.map_nil, HYF.out]), O5, B5, BW5⟩
      case measure => simp [intOf]; omega
    · obtain rfl : n = k := by omega
      go_wp2_with fail
      go_ret
      exact ⟨_, Y, rfl, by rw [HY.out, List.take_of_length_le (by rw [HNN.out]; exact Nat.le_refl _)], O.out.base B1.out.size, B.out⟩
end Go.Proofs.YtkfhppbmnjmnoaaGreatDoor.W

/- LAYER 28 (chunk): the program's Sync. -/
set_option linter.unusedSimpArgs false
set_option linter.unusedVariables false
namespace Go.Proofs.YtkfhppbmnjmnoaaGreatDoor.W
open Go Go.ChangeShapes Go.WideShapes Go.ChangeAt Go.RowKit
open Go.Proofs.YtkfhppbmnjmnoaaGreatDoor.P (shaL shaL_len)

/-- the first k of them turned -/
def headsX (g : FX → FX) (k : Nat) (X : List FX) : List FX := (X.take k).map g ++ X.drop k
theorem heads_at (g : FX → FX) (k : Nat) (X : List FX) (x : FX) (h : X[k]? = some x) : (headsX g k X)[k]? = some x := by
  obtain ⟨h1, h2⟩ := List.getElem?_eq_some_iff.1 h
  unfold headsX
  rw [List.getElem?_append_right (by simp; omega)]
  simp only [List.length_map, List.length_take, Nat.min_eq_left (Nat.le_of_lt h1), Nat.sub_self]
  rw [List.getElem?_drop]; simpa using h
theorem heads_next (g : FX → FX) (k : Nat) (X : List FX) (x : FX) (h : X[k]? = some x) : headsX g (k + 1) X = (headsX g k X).set k (g x) := by
  obtain ⟨h1, h2⟩ := List.getElem?_eq_some_iff.1 h
  unfold headsX
  rw [List.take_succ_eq_append_getElem h1, h2, List.map_append, List.set_append_right _ _ (by simp; omega)]
  simp only [List.length_map, List.length_take, Nat.min_eq_left (Nat.le_of_lt h1), Nat.sub_self]
  rw [List.drop_eq_getElem_cons h1, h2]
  simp
theorem heads_len (g : FX → FX) (k : Nat) (X : List FX) : (headsX g k X).length = X.length := by unfold headsX; simp; omega
theorem heads_all (g : FX → FX) (X : List FX) : headsX g X.length X = X.map g := by unfold headsX; simp
theorem heads_none (g : FX → FX) (X : List FX) : headsX g 0 X = X := by unfold headsX; simp
/-- one file is another one, with the same blocks -/
theorem CK.same {w w' : World} {p m i : Nat} {room : Int} {X : List FX} {S : Nat → Prop} {x y : FX} (h : CK w p m room X S) (hi : X[i]? = some x) (hs : y.f.s = x.f.s) (hg : w.grownBy w' (some m)) (hsm : SM w' m (X.set i y).length (MX (X.set i y)))
    (eb : ∀ g, y.bv.ownBlock = some g → x.bv.ownBlock = some g) (et : ∀ g, y.tv.ownBlock = some g → x.tv.ownBlock = some g) (ob : Fr w 0 y.bv y.f.b) (ot : LsO intE w 0 y.tv y.f.t) : CK w' p m room (X.set i y) S ∧ Ft S w w' := by
  have hx := List.mem_of_getElem? hi
  refine h.turn hg hsm (apart_set h.pb hi fun b hb => .inl (eb b hb)) (apart_set h.pt hi fun b hb => .inl (et b hb)) (fun z hz => ?_) (fun z hz => ?_) (fun z hz => ?_) (fun z hz => ?_)
  · rcases List.mem_or_eq_of_mem_set hz with h1 | rfl
    · exact h.ob z h1
    · exact ob
  · rcases List.mem_or_eq_of_mem_set hz with h1 | rfl
    · exact h.ot z h1
    · exact ot
  · rcases List.mem_or_eq_of_mem_set hz with h1 | rfl
    · exact h.Sb z h1
    · exact fun g e => h.Sb x hx g (eb g e)
  · rcases List.mem_or_eq_of_mem_set hz with h1 | rfl
    · exact h.St z h1
    · exact fun g e => h.St x hx g (et g e)
def syX (x : FX) : FX := ⟨⟨x.f.s, x.f.b, x.f.b.length, x.f.t⟩, x.bv, x.tv⟩
theorem sy_f (X : List FX) : (X.map syX).map (·.f) = syncC (X.map (·.f)) := by unfold syncC; rw [List.map_map, List.map_map]; rfl
theorem sy_keys (k : Nat) (X : List FX) : (headsX syX k X).map (·.f.s) = X.map (·.f.s) := by
  unfold headsX
  rw [List.map_append, List.map_map]
  conv => rhs; rw [← List.take_append_drop k X, List.map_append]
  rfl
set_option maxRecDepth 100000 in
set_option maxHeartbeats 4000000 in
theorem csync {p m T : Nat} {room : Int} {X : List FX} {S : Nat → Prop} {w : World} (h : CK w p m room X S) (hok : ∀ x ∈ X, FiOk T x.f) (hn : X.length ≤ 524288) :
    Calls Tryz.prog 27 #[.pointer (some ⟨p, 0, none⟩)] w fun e w' => e = .returned (.int .i64 (looseC (X.map (·.f)) : Nat)) ∧ CK w' p m room (X.map syX) S ∧ Ft S w w' := by
  have H := Lib.hid h
  have HL := Lib.hid (clooseN h (fun x hx => ⟨(hok x hx).b2, (hok x hx).su⟩) hn)
  have HS := Lib.hid (fun w' (hb : Below w.heap.size w w') => csums (h.mono hb) hn)
  have HN := Lib.hid hn
  have HOK := Lib.hid hok
  have FZ := Lib.hid file_zero
  have SZ := Lib.hid file_size
  obtain ⟨n, hnn⟩ : ∃ n, X.length = n := ⟨_, rfl⟩
  have HNN := Lib.hid hnn
  obtain ⟨lo, hlo⟩ : ∃ lo : Nat, looseC (X.map (·.f)) = lo := ⟨_, rfl⟩
  rw [hlo] at HL ⊢
  have hn2 : n ≤ 524288 := by omega
  clear h hok hn hnn hlo
  go_enter Tryz.func27, Tryz.ntmps27
  go_wp2_with (first
    | (go_at_call 16; (with_reducible refine HL.out.mono ?_); rintro e w1 ⟨rfl, hb⟩; have B1 := Lib.hid hb; clear hb)
    | (go_at_call 47; (with_reducible refine (HS.out w1 B1.out).mono ?_); rintro e w2 ⟨sv, rfl, hl, hb⟩; obtain ⟨sa, sc, rfl, hsl, -⟩ := hl.ls strOk (fun s hs => by obtain ⟨x, hx, rfl⟩ := List.mem_map.1 hs; have h5 := (HOK.out x hx).s; show x.f.s.size ≤ maxLen; unfold maxLen; omega); have SO := Lib.hid (show ∀ b off s, sa = some ⟨b, off, s⟩ → w.heap.size ≤ b ∧ b < w2.heap.size from fun b off s e => by subst e; exact ⟨Nat.le_trans B1.out.size (World.ownsRow.lt hl b rfl).1, (World.ownsRow.lt hl b rfl).2⟩); rw [List.length_map, HNN.out] at hsl ⊢; have SL := Lib.hid hsl; have B2 := Lib.hid (B1.out.trans (hb.mono B1.out.size)); have C2 := Lib.hid (H.out.mono B2.out); clear hl hb hsl))
  go_loopw [5, 6, 12] (fun _ _ i wr => ∃ (k : Nat), i = .int .i64 (k : Int) ∧ k ≤ n ∧ Hid (CK wr p m room (headsX syX k X) S) ∧ Hid (Ft S w2 wr)) (fun _ _ i _ => n - (intOf i).toNat)
  case atStart => exact ⟨0, rfl, Nat.zero_le _, Lib.hid (by rw [heads_none]; exact C2.out), Lib.hid (Ft.refl _ _)⟩
  case round =>
    obtain ⟨k, rfl, hk, C, F⟩ := hrel
    by_cases hlt : k < n
    · obtain ⟨x, hx⟩ : ∃ x, X[k]? = some x := ⟨X[k]'(by rw [HNN.out]; exact hlt), by simp [HNN.out, hlt]⟩
      have hxm : x ∈ X := List.mem_of_getElem? hx
      have hxk := heads_at syX k X x hx
      have SLr := Lib.hid (SL.out.stay F.out.size (fun b off s e _ => F.out.block b (SO.out b off s e).2 (fun hs => absurd (H.out.lt b hs) (Nat.not_lt.2 (SO.out b off s e).1))) SL.out.hfit)
      obtain ⟨sb, so, s, rfl, hs1, hc1, -⟩ := SLr.out.at strOk (Below.refl _ _) k hlt
      have hs2 : s = x.f.s := by
        rw [List.getElem?_map, hx] at hs1
        exact (Option.some.inj hs1).symm
      subst hs2
      have d1 : wr.cell? ⟨sb, so + k, none⟩ = some (.string x.f.s) := by have := hc1 0 (.string x.f.s) rfl; rw [show so + k * strE.k + 0 = so + k by show so + k * 1 + 0 = so + k; omega] at this; exact this
      have g1 : (0 : Int) ≤ (k : Int) := by omega
      have g2 : (k : Int) < (n : Int) := by omega
      have okx := HOK.out x hxm
      have hsm : x.f.s.size ≤ maxLen := by have := okx.s; unfold maxLen; omega
      have hxm2 : x ∈ headsX syX k X := List.mem_of_getElem? hxk
      have lk := (look_yes (s := x.f.s) 64 44 map_type _ (file_zv wr) C.out.sm hsm (C.out.at hxm2)).1
      have c1 := C.out.rp.k2.2
      have HXK := Lib.hid hxk
      have HXN := Lib.hid (heads_next syX k X x hx)
      have HX := Lib.hid hx
      have HSM := Lib.hid hsm
      obtain ⟨fa, fc, hbv, -⟩ := (C.out.ob x hxm2).form
      have OC := Lib.hid (lso_cell (C.out.ot x hxm2))
      obtain ⟨⟨xs, xb, xu, xt⟩, xbv, xtv⟩ := x
      dsimp only at hbv lk OC hs1 d1 hsm HSM ⊢
      replace lk : (Instr.lookup 64 (.map (some m)) (.string xs) false).run Tryz.prog wr = .ok (.agg (fiC xs xbv xu xtv).toArray) wr := lk
      obtain ⟨bl, hbl⟩ : ∃ bl, xb.length = bl := ⟨_, rfl⟩
      have HBL := Lib.hid hbl
      rw [hbl] at hbv
      subst hbv
      clear hs1 hc1 okx hx hxm hbl hxm2 hxk
      go_wp2_with (first
        | ((with_reducible refine alloc_row (o := ⟨some 6, _, _, _, _, _⟩) rfl _ rfl _ FZ.out ?_); intro w3 hr hb hz; have R3 := Lib.hid hr; have B3 := Lib.hid hb; clear hr hb hz)
        | ((with_reducible refine store_row (o := ⟨none, _, _, _, _, _⟩) rfl _ (.tmp 6) _ rfl wr.heap.size (fiC xs (.slice fa bl fc) xu xtv) ?_ ?_ 44 _ R3.out ?_ ?_ ?_ ?_); (focus go_simp); (focus (first | (go_simp; done) | (go_simp; rfl))); (focus (exact SZ.out)); (focus rfl); (focus (exact fi_one _ _ _ _ rfl OC.out)); intro w4 hr hu; have R4 := Lib.hid hr; have B4 := Lib.hid (B3.out.trans (hu.below (Nat.le_refl _))); obtain ⟨q0, q1, q2, q3⟩ := hr.k4; clear hr hu q0 q3 q2)
        | ((with_reducible refine store_cell (o := ⟨none, _, _, _, _, _⟩) rfl _ (.tmp 25) _ rfl wr.heap.size 2 (.int .i64 (bl : Int)) ?_ ?_ rfl rfl 44 _ R4.out ?_ ?_ ?_); (focus go_simp); (focus (first | (go_simp; done) | (go_simp; rfl))); (focus (kernel_rfl)); (focus (show 2 < 4; decide)); intro w5 hr hu; have R5 := Lib.hid (show Row w5 wr.heap.size 44 (fiC xs (.slice fa bl fc) bl xtv) from hr); have B5 := Lib.hid (B4.out.trans (hu.below (Nat.le_refl _))); clear hr hu q1))
      have D5 : Hid (Below w5.heap.size w5 w5.drew) := Lib.hid (Below.refl _ _).drew
      have C5 := Lib.hid (C.out.mono B5.out)
      refine region_t (fun v => Below w5.heap.size w5 v) 6 (by kernel_rfl) (by kernel_rfl) (by kernel_rfl) D5.out ?_
      obtain ⟨wd, hwd⟩ : ∃ wd, w5.drew = wd := ⟨_, rfl⟩
      rw [hwd] at D5 ⊢
      clear hwd c1 lk d1
      (refine t_read 0 rfl (by kernel_rfl) (by kernel_rfl) (by kernel_rfl) (t_free rfl) ?_ ?_ ?_; rotate_left; (focus (intro v hv; go_simp; rfl)); go_simp)
      (refine t_read 1 rfl (by kernel_rfl) (by kernel_rfl) (by kernel_rfl) (t_free rfl) ?_ ?_ ?_; rotate_left; (focus (intro v hv; go_simp; rfl)); go_simp)
      (refine t_read 2 rfl (by kernel_rfl) (by kernel_rfl) (by kernel_rfl) (t_free rfl) ?_ ?_ ?_; rotate_left; (focus (intro v hv; go_simp; rfl)); go_simp)
      (refine t_read 3 rfl (by kernel_rfl) (by kernel_rfl) (by kernel_rfl) (t_free rfl) ?_ ?_ ?_; rotate_left; (focus (intro v hv; have c1 := (hv.cell (p := ⟨p, 1, none⟩) C5.out.rp.lt).trans C5.out.rp.k2.2; go_simp; rfl)); go_simp)
      (refine t_read 4 rfl (by kernel_rfl) (by kernel_rfl) (by kernel_rfl) (t_free rfl) ?_ ?_ ?_; rotate_left; (focus (intro v hv; go_simp; rfl)); go_simp)
      (refine t_read 5 rfl (by kernel_rfl) (by kernel_rfl) (by kernel_rfl) (t_free rfl) ?_ ?_ ?_; rotate_left; (focus (intro v hv; refine lg_all 44 (.tmp 6) ?_ wr.heap.size ?_ _ _ _ (R5.out.below hv R5.out.lt) Tryz.underlying44 rfl SZ.out; (focus rfl); (focus go_simp))); go_simp)
      (refine t_last 6 rfl (by kernel_rfl) rfl (by kernel_rfl) (by kernel_rfl) ?_; intro K hK)
      have C6 := C5.out.mono D5.out
      refine map_put rfl _ _ _ 64 44 rfl map_type m _ _ (by go_simp) C6.sm (by rw [heads_len]; have := HN.out; omega) xs (.agg (fiC xs (.slice fa bl fc) bl xtv).toArray) (by go_simp) HSM.out (by go_simp) (MX ((headsX syX k X).set k (syX ⟨⟨xs, xb, xu, xt⟩, .slice fa bl fc, xtv⟩))) (ris_set C6.sm.ris HXK.out rfl) (fun q => (mx_set (y := syX ⟨⟨xs, xb, xu, xt⟩, .slice fa bl fc, xtv⟩) C6.sm.ris HXK.out rfl q).trans (Iff.of_eq (by rw [← HBL.out]; rfl))) ?_
      intro w7 hsm7 hg7 hz7
      refine hK _ _ ?_
      have P := C6.same (i := k) (y := syX ⟨⟨xs, xb, xu, xt⟩, .slice fa bl fc, xtv⟩) HXK.out rfl hg7 (by have := hsm7.tight; rw [mx_len] at this; exact this) (fun g e => e) (fun g e => e) (show Fr _ 0 (.slice fa bl fc) xb from C6.ob ⟨⟨xs, xb, xu, xt⟩, .slice fa bl fc, xtv⟩ (List.mem_of_getElem? HXK.out)) (show LsO intE _ 0 xtv xt from C6.ot ⟨⟨xs, xb, xu, xt⟩, .slice fa bl fc, xtv⟩ (List.mem_of_getElem? HXK.out))
      rw [← HXN.out] at P
      have C7 := Lib.hid P.1
      have F7 := Lib.hid (F.out.trans ((Ft.of_below (B5.out.trans (D5.out.mono B5.out.size))).trans P.2))
      clear hsm7 hg7 hz7 P C6
      go_simp
      go_wp2_with fail
      go_roundw
      case rel => exact ⟨k + 1, vint (by omega), by omega, C7, F7⟩
      case measure => simp [intOf]; omega
    · obtain rfl : n = k := by omega
      go_wp2_with fail
      go_ret
      refine ⟨rfl, ?_, (Ft.of_below B2.out).trans F.out⟩
      have := C.out
      rw [← HNN.out, heads_all] at this
      exact this
end Go.Proofs.YtkfhppbmnjmnoaaGreatDoor.W

/- LAYER 28 (chunk): the program's take: a map gone through, from which is taken. -/
set_option linter.unusedSimpArgs false
set_option linter.unusedVariables false
namespace Go.Proofs.YtkfhppbmnjmnoaaGreatDoor.W
open Go Go.ChangeShapes Go.WideShapes Go.ChangeAt Go.RowKit
open Go.Proofs.YtkfhppbmnjmnoaaGreatDoor.P (shaL shaL_len)

theorem mx_filter (X : List FX) (s : ByteArray) : (MX X).filter (fun p => !decide (p.1 = s)) = MX (X.filter fun x => !decide (x.f.s = s)) := by
  unfold MX; rw [List.filter_map]; rfl
/-- those that are left of a map from which what goes, and has come, was taken -/
def leftX (P : Fi → Bool) (left : Lit → Bool) (X : List FX) : List FX := X.filter fun x => !P x.f || left (kS x.f.s)
theorem left_start (P : Fi → Bool) (X : List FX) : leftX P (Maps.has (.map (entS (MX X)) : DataW Value)) X = X := by
  unfold leftX
  refine List.filter_eq_self.2 fun x hx => ?_
  rw [has_yes (M := MX X) (List.mem_map.2 ⟨x, hx, rfl⟩ : (x.f.s, x.val) ∈ MX X)]; simp
theorem left_end (P : Fi → Bool) (left : Lit → Bool) (X : List FX) (h : ∀ s, left (kS s) = false) : leftX P left X = X.filter fun x => !P x.f := by
  unfold leftX
  refine List.filter_congr fun x _ => ?_
  rw [h]; simp
theorem left_stays {P : Fi → Bool} {left : Lit → Bool} {X : List FX} (hr : Ris (MX X)) {x : FX} (hx : x ∈ X) (hp : P x.f = false) : leftX P (fun z => left z && !z.sameKey (kS x.f.s)) X = leftX P left X := by
  unfold leftX
  refine List.filter_congr fun y hy => ?_
  dsimp only
  rw [kS_same]
  by_cases e : y.f.s = x.f.s
  · obtain rfl := risx_uniq hr hy hx e
    rw [hp]; simp
  · simp [e]
theorem left_goes {P : Fi → Bool} {left : Lit → Bool} {X : List FX} (hr : Ris (MX X)) {x : FX} (hx : x ∈ X) (hp : P x.f = true) : leftX P (fun z => left z && !z.sameKey (kS x.f.s)) X = (leftX P left X).filter fun y => !decide (y.f.s = x.f.s) := by
  unfold leftX
  rw [List.filter_filter]
  refine List.filter_congr fun y hy => ?_
  dsimp only
  rw [kS_same]
  by_cases e : y.f.s = x.f.s
  · obtain rfl := risx_uniq hr hy hx e
    rw [hp]; simp
  · simp [e]
theorem left_sub {P : Fi → Bool} {left : Lit → Bool} {X : List FX} {x : FX} (h : x ∈ leftX P left X) : x ∈ X := (List.mem_filter.1 h).1
theorem CK.filter {w w' : World} {p m : Nat} {room : Int} {X : List FX} {S : Nat → Prop} (h : CK w p m room X S) (q : FX → Bool) (hg : w.grownBy w' (some m)) (hsm : SM w' m (X.filter q).length (MX (X.filter q))) : CK w' p m room (X.filter q) S ∧ Ft S w w' :=
  h.turn hg hsm (h.pb.sublist (List.filter_sublist)) (h.pt.sublist (List.filter_sublist)) (fun x hx => h.ob x (List.mem_filter.1 hx).1) (fun x hx => h.ot x (List.mem_filter.1 hx).1) (fun x hx => h.Sb x (List.mem_filter.1 hx).1) (fun x hx => h.St x (List.mem_filter.1 hx).1)
theorem Ft.of_base {base : Nat} {w w' : World} (h : Below base w w') : Ft (fun k => base ≤ k) w w' := ⟨h.os, h.tape, h.output, h.size, fun k _ hn => h.block k (Nat.lt_of_not_le hn)⟩
/-- any order of strings that rise, sorted -/
theorem sortM_keys {X : List FX} (hr : Ris (MX X)) {L : List ByteArray} (h : L.Perm (X.map (·.f.s))) : sortM L = X.map (·.f.s) := by
  unfold sortM
  have h1 : (byL L).Perm ((MX X).map (·.1.data.toList)) := by
    unfold byL MX
    rw [List.map_map]
    have := h.map (fun b : ByteArray => b.data.toList)
    rw [List.map_map] at this
    exact this
  rw [sorted_keys hr h1]
  have : (MX X).map (·.1.data.toList) = byL (X.map (·.f.s)) := by unfold byL MX; rw [List.map_map, List.map_map]; rfl
  rw [this, ofL_byL]
set_option maxRecDepth 100000 in
set_option maxHeartbeats 4000000 in
theorem ctake {p m : Nat} {room : Int} {X : List FX} {S : Nat → Prop} {w : World} (g : FuncId) (caps : Array Value) (P : Fi → Bool) (he : ∀ args w, (callFunc g args).run Tryz.prog w = .ok (.enter g args) w)
    (h : CK w p m room X S) (hs : ∀ x ∈ X, x.f.s.size ≤ 1000000) (hn : X.length ≤ 524288)
    (hG : ∀ (w2 : World) (x : FX), x ∈ X → Ft S w w2 → Fr w2 0 x.bv x.f.b → LsO intE w2 0 x.tv x.f.t → Calls Tryz.prog g (#[x.val] ++ caps) w2 fun e w3 => e = .returned (.bool (P x.f)) ∧ Below w2.heap.size w2 w3) :
    Calls Tryz.prog 63 #[.pointer (some ⟨p, 0, none⟩), .func (.func g) #[] caps] w fun e w' => ∃ v, e = .returned v ∧ LsO strE w' w.heap.size v ((X.filter fun x => P x.f).map (·.f.s)) ∧ CK w' p m room (X.filter fun x => !P x.f) S ∧ Ft S w w' := by
  have H := Lib.hid h
  have HR := Lib.hid (cready p m room w h.rp)
  have HN := Lib.hid hn
  have HSZ := Lib.hid hs
  have HG := Lib.hid hG
  have HRIS := Lib.hid h.sm.ris
  have c1 := h.rp.k2.2
  have FZ := Lib.hid file_zero
  have SZ := Lib.hid file_size
  clear h hn hs hG
  go_enter Tryz.func63, Tryz.ntmps63
  go_wp2_with (first
    | (go_at_call 50; (with_reducible refine HR.out.mono ?_); rintro e w1 ⟨rfl, rfl⟩)
    | ((with_reducible refine map_range (o := ⟨some 15, _, _, _, _, _⟩) rfl _ 64 44 rfl map_type m X.length (MX X) ?_ H.out.sm ?_); (focus go_simp); intro w1 hrg hb hz; have G1 := Lib.hid hrg; have B1 := Lib.hid hb; have HI := Lib.hid (show w.heap.size < w1.heap.size by omega); clear hrg hb hz c1))
  go_frame
  go_loopw [5, 6, 7] (fun v _ _ wr => ∃ left cnt D, D.length + cnt ≤ X.length ∧ Hid (Vis X left D) ∧ Hid (LsO strE wr w1.heap.size v ((D.filter fun x => P x.f).map (·.f.s))) ∧ Hid (RgS wr m w.heap.size (MX (leftX P left X)) left cnt) ∧ Hid (CK wr p m room (leftX P left X) S) ∧ Hid (Ft S w wr) ∧ Hid (w1.heap.size ≤ wr.heap.size)) (fun _ _ _ wr => wr.rangeLeft m w.heap.size)
  case atStart => exact ⟨_, (MX X).length, [], by rw [mx_len]; simp, Lib.hid (Vis.start X), Lib.hid (LsO.nil _ _), Lib.hid (by rw [left_start]; exact G1.out), Lib.hid (by rw [left_start]; exact H.out.mono B1.out), Lib.hid (Ft.of_below B1.out), Lib.hid (Nat.le_refl _)⟩
  case round =>
    obtain ⟨left, cnt, D, hcnt, V, O, G, C, F, ZZ⟩ := hrel
    go_wp2_with ((with_reducible refine map_next (o := ⟨some 16, _, _, _, _, _⟩) rfl _ rfl m w.heap.size (MX (leftX P left X)) left cnt ?_ G.out ?_ ?_); (focus go_simp))
    · intro hl
      have e1 := Lib.hid ((((V.out.all HRIS.out hl).filter fun x => P x.f).map (·.f.s)))
      have e2 := Lib.hid (left_end P left X hl)
      have HRF := Lib.hid (show Ris (MX (X.filter fun x => P x.f)) by
        have h1 := HRIS.out
        unfold Ris MX at h1 ⊢
        rw [List.pairwise_map] at h1 ⊢
        exact h1.sublist List.filter_sublist)
      have e3 := Lib.hid (sortM_keys HRF.out e1.out)
      have HLN := Lib.hid (show ((D.filter fun x => P x.f).map (·.f.s)).length ≤ 1000000 by rw [e1.out.length_eq, List.length_map]; have h1 := List.length_filter_le (fun x : FX => P x.f) X; have := HN.out; omega)
      clear hl
      go_simp
      go_wp2_with (go_at_call 88; refine (psort w1.heap.size _ _ wr O.out HLN.out ZZ.out).mono ?_; rintro e w4 ⟨rfl, hl, hb⟩; rw [e3.out] at hl; have L4 := Lib.hid hl; have C4 := Lib.hid (C.out.ft (Ft.of_base hb) (fun k hk hk2 => absurd (H.out.lt k hk) (Nat.not_lt.2 (Nat.le_trans (Nat.le_of_lt HI.out) hk2)))); have F4 := Lib.hid (F.out.on (Ft.of_base hb) (fun b hb2 => .inr (Nat.le_trans (Nat.le_of_lt HI.out) hb2))); clear hl hb)
      go_ret
      exact ⟨_, rfl, L4.out.base (Nat.le_of_lt HI.out), by rw [← e2.out]; exact C4.out, F4.out⟩
    · intro s v w2 cnt2 hmem hsz hl hrg hlt hg hz2 hen
      obtain ⟨x, hx, e⟩ := mx_mem.1 hmem
      obtain ⟨rfl, rfl⟩ := Prod.mk.inj e
      have hxX := left_sub hx
      have V2 := Lib.hid (V.out.step HRIS.out hxX hl)
      have G2 := Lib.hid hrg
      have hr0 : ∀ k, k ≠ w.heap.size → k < wr.heap.size → w2.heap[k]? = wr.heap[k]? := fun k hk hk2 => hg.block k hk2 (fun e => hk (by injection e))
      have ft2 : Ft (fun k => k = w.heap.size) wr w2 := ⟨hg.os, hg.tape, hg.output, hg.size, fun k hk hn => hr0 k hn hk⟩
      have C2 := Lib.hid (C.out.ft ft2 (fun k hk e => absurd (H.out.lt k hk) (by rw [e]; exact Nat.lt_irrefl _)))
      have F2 := Lib.hid (F.out.on ft2 (fun b hb => .inr (by rw [hb]; exact Nat.le_refl _)))
      have O2 := Lib.hid (O.out.keep fun q hq => hr0 q (fun e => absurd (World.ownsRow.lt O.out q hq).1 (by rw [e]; exact Nat.not_le.2 HI.out)) (World.ownsRow.lt O.out q hq).2)
      have Z2 := Lib.hid (Nat.le_trans ZZ.out hg.size)
      have HSX := Lib.hid hsz
      have OB := C2.out.ob x hx
      have OT := C2.out.ot x hx
      obtain ⟨fa, fc, hbv, -⟩ := OB.form
      have OC := Lib.hid (lso_cell OT)
      have OBC := Lib.hid (fr_one OB)
      have HX := Lib.hid hx
      have HXX := Lib.hid hxX
      have FD : Hid (P x.f = false → leftX P (fun z => left z && !z.sameKey (kS x.f.s)) X = leftX P left X) := Lib.hid (left_stays HRIS.out hxX)
      have FG : Hid (P x.f = true → leftX P (fun z => left z && !z.sameKey (kS x.f.s)) X = (leftX P left X).filter fun y => !decide (y.f.s = x.f.s)) := Lib.hid (left_goes HRIS.out hxX)
      have HFD := Lib.hid (show ((D ++ [x]).filter fun x => P x.f).map (·.f.s) = ((D.filter fun x => P x.f).map (·.f.s)) ++ (if P x.f = true then [x.f.s] else []) by rw [List.filter_append, List.map_append]; by_cases hq : P x.f = true <;> simp [hq])
      have HDL := Lib.hid (show ((D.filter fun x => P x.f).map (·.f.s)).length ≤ 524288 by rw [List.length_map]; have h1 := List.length_filter_le (fun x : FX => P x.f) D; have := HN.out; omega)
      have HZ5 := Lib.hid (show x.f.s.size ≤ maxLen from hsz)
      clear hmem e hl hrg hg hz2 hr0 ft2 OB OT hbv hx hxX
      replace hen : (Instr.entry (.pointer (some ⟨w.heap.size, 0, none⟩))).run Tryz.prog w2 = .ok (.tuple #[.string x.f.s, .agg (fiC x.f.s x.bv x.f.su x.tv).toArray]) w2 := hen
      go_simp
      go_wp2_with (first
        | ((with_reducible refine alloc_row (o := ⟨some 7, _, _, _, _, _⟩) rfl _ rfl _ FZ.out ?_); intro w3 hr hb hz; have R3 := Lib.hid hr; have B3 := Lib.hid hb; clear hr hb hz)
        | ((with_reducible refine store_row (o := ⟨none, _, _, _, _, _⟩) rfl _ (.tmp 7) _ rfl w2.heap.size (fiC x.f.s x.bv x.f.su x.tv) ?_ ?_ 44 _ R3.out ?_ ?_ ?_ ?_); (focus go_simp); (focus (first | (go_simp; done) | (go_simp; rfl))); (focus (exact SZ.out)); (focus rfl); (focus (exact fi_one _ _ _ _ OBC.out OC.out)); intro w4 hr hu; have R4 := Lib.hid hr; have B4 := Lib.hid (B3.out.trans (hu.below (Nat.le_refl _))); clear hr hu)
        | ((with_reducible refine load_row (o := ⟨some 22, _, _, _, _, _⟩) rfl _ _ rfl w2.heap.size ?_ _ (fiC x.f.s x.bv x.f.su x.tv) _ R4.out Tryz.underlying44 rfl ?_ ?_); (focus go_simp); (focus (exact SZ.out))))
      have F4 := Lib.hid (F2.out.trans (Ft.of_below B4.out))
      have C4 := Lib.hid (C2.out.mono B4.out)
      have G4 := Lib.hid (G2.out.kept B4.out)
      have O4 := Lib.hid (O2.out.kept B4.out)
      refine (HG.out w4 x HXX.out F4.out (C4.out.ob x HX.out) (C4.out.ot x HX.out)).mono ?_
      rintro e w5 ⟨rfl, hb5⟩
      have F5 := Lib.hid (F4.out.trans (Ft.of_below hb5))
      have C5 := Lib.hid (C4.out.mono hb5)
      have G5 := Lib.hid (G4.out.kept hb5)
      have O5 := Lib.hid (O4.out.kept hb5)
      have Z5 := Lib.hid (Nat.le_trans Z2.out (Nat.le_trans B4.out.size hb5.size))
      clear hb5
      cases hP : P x.f
      · have e1 := Lib.hid (FD.out hP)
        have e2 := Lib.hid (show ((D ++ [x]).filter fun x => P x.f).map (·.f.s) = ((D.filter fun x => P x.f).map (·.f.s)) by rw [HFD.out, hP]; simp)
        clear hP
        go_simp
        go_wp2_with fail
        go_roundw
        case rel => exact ⟨_, cnt2, D ++ [x], by rw [List.length_append]; simp; omega, V2, Lib.hid (by rw [e2.out]; exact O5.out), Lib.hid (by rw [e1.out]; exact G5.out), Lib.hid (by rw [e1.out]; exact C5.out), F5, Z5⟩
        case measure => rw [G5.out.eq, G.out.eq]; omega
      · have e1 := Lib.hid (FG.out hP)
        have e2 := Lib.hid (show ((D ++ [x]).filter fun x => P x.f).map (·.f.s) = ((D.filter fun x => P x.f).map (·.f.s)) ++ [x.f.s] by rw [HFD.out, hP]; simp)
        have c1 := C5.out.rp.k2.2
        clear hP
        go_simp
        go_wp2_with (first
          | ((with_reducible refine map_del_r (o := ⟨none, _, _, _, _, _⟩) rfl _ _ 64 44 rfl map_type m w.heap.size _ _ cnt2 ?_ G5.out x.f.s ?_ HZ5.out ?_); (focus go_simp); (focus (first | (go_simp; done) | (go_simp; rfl))); intro w6 cnt6 hrg hle hg hz6; rw [mx_filter, ← e1.out, Maps.strike_twice] at hrg; have G6 := Lib.hid hrg; have PC := C5.out.filter (fun y => !decide (y.f.s = x.f.s)) hg (by have h5 := hrg.sm; rw [mx_len, e1.out] at h5; exact h5); rw [← e1.out] at PC; have C6 := Lib.hid PC.1; have F6 := Lib.hid (F5.out.trans PC.2); have O6 := Lib.hid (O5.out.keep fun q hq => hg.block q (World.ownsRow.lt O5.out q hq).2 (fun e => absurd (H.out.lt m H.out.Sm) (Nat.not_lt.2 (Nat.le_trans (Nat.le_of_lt HI.out) (by injection e with e; rw [← e]; exact (World.ownsRow.lt O5.out q hq).1))))); have Z6 := Lib.hid (Nat.le_trans Z5.out hg.size); have HLE := Lib.hid hle; clear hrg hle hg hz6 PC c1)
          | ((with_reducible refine build_str (o := ⟨some 31, _, _, _, _, _⟩) rfl _ rfl x.f.s ?_ HZ5.out ?_); (focus (first | (go_simp; done) | (go_simp; rfl))); intro w7 hl hb; have M7 := Lib.hid hl; have O7 := Lib.hid (O6.out.kept hb); have G7 := Lib.hid (G6.out.kept hb); have C7 := Lib.hid (C6.out.mono hb); have F7 := Lib.hid (F6.out.trans (Ft.of_below hb)); have Z7 := Lib.hid (Nat.le_trans Z6.out hb.size); clear hl hb)
          | ((with_reducible refine append_ls strOk (o := ⟨some 32, _, _, _, _, _⟩) rfl _ _ rfl w1.heap.size _ _ ?_ O7.out (some ⟨w6.heap.size, 0, none⟩) 1 1 [x.f.s] ?_ M7.out (by have := HDL.out; omega) Z7.out ?_); (focus (first | (go_simp; done) | (go_simp; rfl))); (focus (first | (go_simp; done) | (go_simp; rfl))); intro v8 w8 hN hb2 hg2 hv2; have O8 := Lib.hid hN; have G8 := Lib.hid (G7.out.stay (hb2.block m (Nat.lt_trans (H.out.lt m H.out.Sm) HI.out)) (hb2.block w.heap.size HI.out)); have C8 := Lib.hid (C7.out.ft (Ft.of_base hb2) (fun k hk hk2 => absurd (H.out.lt k hk) (Nat.not_lt.2 (Nat.le_trans (Nat.le_of_lt HI.out) hk2)))); have F8 := Lib.hid (F7.out.on (Ft.of_base hb2) (fun b hb3 => .inr (Nat.le_trans (Nat.le_of_lt HI.out) hb3))); have Z8 := Lib.hid (Nat.le_trans Z7.out hb2.size); clear hN hb2 hg2 hv2))
        go_roundw
        case rel => exact ⟨_, cnt6, D ++ [x], by have := HLE.out; rw [List.length_append]; simp; omega, V2, Lib.hid (by rw [e2.out]; exact O8.out), G8, C8, F8, Z8⟩
        case measure => have := HLE.out; rw [G8.out.eq, G.out.eq]; omega
end Go.Proofs.YtkfhppbmnjmnoaaGreatDoor.W

/- slices.Contains of strings; slices.ContainsFunc of ints, whatever the closure, if it leaves the world as it is. -/
set_option linter.unusedSimpArgs false
set_option linter.unusedVariables false
namespace Go.Proofs.YtkfhppbmnjmnoaaGreatDoor.W
open Go Go.ChangeShapes Go.WideShapes Go.ChangeAt Go.RowKit

def hasStr (L : List ByteArray) (s : ByteArray) : Bool := L.any fun x => decide (x = s)
theorem str_beq (a b : ByteArray) : (a.toList == b.toList) = decide (a = b) := by
  rw [Bool.eq_iff_iff]
  exact (eqM_iff a b).trans (by simp)
set_option maxRecDepth 100000 in
set_option maxHeartbeats 4000000 in
theorem sindex (s : ByteArray) (a : Option Addr) (n c : Nat) (L : List ByteArray) (w : World) (h : Ls strE w a n c L) :
    Calls Tryz.prog 67 #[.slice a n c, .string s] w fun x w' => (∃ z : Int, x = .returned (.int .i64 z) ∧ (0 ≤ z ↔ hasStr L s = true)) ∧ Below w.heap.size w w' := by
  have H := Lib.hid h
  have HLN := Lib.hid h.hlen
  have hm := h.hmax
  have hle := h.hle
  clear h
  go_enter Tryz.func67, Tryz.ntmps67
  go_wp2_with fail
  go_loopw [5, 8] (fun _ i wr => ∃ k : Nat, i = .int .i64 (k : Int) ∧ k ≤ n ∧ Hid (hasStr (L.take k) s = false) ∧ Hid (Below w.heap.size w wr)) (fun _ i _ => n - (intOf i).toNat)
  case atStart => exact ⟨0, rfl, Nat.zero_le _, Lib.hid rfl, Lib.hid (Below.refl _ _)⟩
  case round =>
    obtain ⟨k, rfl, hk, HP, B⟩ := hrel
    by_cases hlt : k < n
    · obtain ⟨b, off, x, rfl, hx, hcell, -⟩ := H.out.at strOk B.out k hlt
      have d1 : wr.cell? ⟨b, off + k, none⟩ = some (.string x) := by have := hcell 0 (.string x) rfl; rw [show off + k * strE.k + 0 = off + k by show off + k * 1 + 0 = off + k; omega] at this; exact this
      have g1 : (0 : Int) ≤ (k : Int) := by omega
      have g2 : (k : Int) < (n : Int) := by omega
      obtain ⟨q, hq⟩ : ∃ q, (s.toList == x.toList) = q := ⟨_, rfl⟩
      have HN := Lib.hid (show hasStr (L.take (k + 1)) s = (hasStr (L.take k) s || q) by
        obtain ⟨h1, h2⟩ := List.getElem?_eq_some_iff.1 hx
        unfold hasStr
        rw [List.take_succ_eq_append_getElem h1, h2, List.any_append, ← hq, str_beq]
        simp only [List.any_cons, List.any_nil, Bool.or_false]
        by_cases e : x = s
        · subst e; simp
        · have e2 : ¬ s = x := fun h => e h.symm
          simp [e, e2])
      have HA := Lib.hid (show q = true → hasStr L s = true by
        intro e
        rw [e, str_beq] at hq
        have e2 : s = x := by simpa using hq
        unfold hasStr
        rw [List.any_eq_true]
        exact ⟨x, List.mem_of_getElem? hx, by simp [e2]⟩)
      clear hx hcell
      cases q
      · go_wp2_with fail
        go_roundw
        case rel => exact ⟨k + 1, vint (by omega), by omega, Lib.hid (by rw [HN.out, HP.out]; rfl), B⟩
        case measure => simp [intOf]; omega
      · go_wp2_with fail
        go_ret
        exact ⟨⟨(k : Int), rfl, ⟨fun _ => HA.out (by first | rfl | trivial), fun _ => by omega⟩⟩, B.out⟩
    · obtain rfl : n = k := by omega
      have HF := Lib.hid (show hasStr L s = false by have := HP.out; rwa [List.take_of_length_le (by rw [HLN.out]; exact Nat.le_refl _)] at this)
      go_wp2_with fail
      go_ret
      exact ⟨⟨-1, rfl, ⟨fun h => by omega, fun h => by rw [HF.out] at h; cases h⟩⟩, B.out⟩
set_option maxRecDepth 100000 in
set_option maxHeartbeats 4000000 in
theorem scontains (s : ByteArray) (a : Option Addr) (n c : Nat) (L : List ByteArray) (w : World) (h : Ls strE w a n c L) :
    Calls Tryz.prog 33 #[.slice a n c, .string s] w fun x w' => x = .returned (.bool (hasStr L s)) ∧ Below w.heap.size w w' := by
  have H := Lib.hid (sindex s a n c L w h)
  obtain ⟨V, hV⟩ : ∃ V, hasStr L s = V := ⟨_, rfl⟩
  rw [hV] at H ⊢
  clear h hV
  go_enter Tryz.func33, Tryz.ntmps33
  go_wp2_with (go_at_call 67; (with_reducible refine H.out.mono ?_); rintro e w1 ⟨⟨z, rfl, hz⟩, hb⟩; have HZ := Lib.hid hz; have B1 := Lib.hid hb; clear hz hb)
  go_ret
  refine ⟨one (vbool ?_), B1.out⟩
  have := HZ.out
  cases V
  · have h2 : ¬ 0 ≤ z := fun h => by simpa using this.1 h
    simp; omega
  · have h2 := this.2 rfl
    simp; omega
set_option maxRecDepth 100000 in
set_option maxHeartbeats 4000000 in
theorem iidxf (g : FuncId) (caps : Array Value) (q : Int → Bool) (he : ∀ args w, (callFunc g args).run Tryz.prog w = .ok (.enter g args) w) (a : Option Addr) (n c : Nat) (L : List Int) (w : World) (h : Sl .i64 w a n L)
    (hG : ∀ x ∈ L, Calls Tryz.prog g (#[.int .i64 x] ++ caps) w fun e w' => e = .returned (.bool (q x)) ∧ w = w') :
    Calls Tryz.prog 89 #[.slice a n c, .func (.func g) #[] caps] w fun x w' => (∃ z : Int, x = .returned (.int .i64 z) ∧ (0 ≤ z ↔ L.any q = true)) ∧ w = w' := by
  have H := Lib.hid h
  have HLN := Lib.hid h.1
  have hm := h.2.1
  have HG := Lib.hid hG
  clear h hG
  go_enter Tryz.func89, Tryz.ntmps89
  go_wp2_with fail
  go_loopw [5, 8] (fun _ i wr => ∃ k : Nat, i = .int .i64 (k : Int) ∧ k ≤ n ∧ Hid ((L.take k).any q = false) ∧ w = wr) (fun _ i _ => n - (intOf i).toNat)
  case atStart => exact ⟨0, rfl, Nat.zero_le _, Lib.hid rfl, rfl⟩
  case round =>
    obtain ⟨k, rfl, hk, HP, rfl⟩ := hrel
    by_cases hlt : k < n
    · obtain ⟨b, off, x, rfl, hx, d1, -⟩ := H.out.at (Below.refl _ _) k hlt
      have g1 : (0 : Int) ≤ (k : Int) := by omega
      have g2 : (k : Int) < (n : Int) := by omega
      have hmem := List.mem_of_getElem? hx
      have HN := Lib.hid (show (L.take (k + 1)).any q = ((L.take k).any q || q x) by
        obtain ⟨h1, h2⟩ := List.getElem?_eq_some_iff.1 hx
        rw [List.take_succ_eq_append_getElem h1, h2, List.any_append]; simp)
      have HA := Lib.hid (show q x = true → L.any q = true from fun e => List.any_eq_true.2 ⟨x, hmem, e⟩)
      have HC := Lib.hid (HG.out x hmem)
      clear hx hmem
      go_wp2_with fail
      refine HC.out.mono ?_
      rintro e w1 ⟨rfl, rfl⟩
      cases hq : q x
      · have HN2 := Lib.hid (show (L.take (k + 1)).any q = false by rw [HN.out, HP.out, hq]; rfl)
        clear hq
        go_simp
        go_wp2_with fail
        go_roundw
        case rel => exact ⟨k + 1, vint (by omega), by omega, HN2, trivial⟩
        case measure => simp [intOf]; omega
      · have HA2 := Lib.hid (HA.out hq)
        clear hq
        go_simp
        go_wp2_with fail
        go_ret
        exact ⟨⟨(k : Int), rfl, ⟨fun _ => HA2.out, fun _ => by omega⟩⟩, rfl⟩
    · obtain rfl : n = k := by omega
      have HF := Lib.hid (show L.any q = false by have := HP.out; rwa [List.take_of_length_le (by rw [HLN.out]; exact Nat.le_refl _)] at this)
      go_wp2_with fail
      go_ret
      exact ⟨⟨-1, rfl, ⟨fun h => by omega, fun h => by rw [HF.out] at h; cases h⟩⟩, rfl⟩
set_option maxRecDepth 100000 in
set_option maxHeartbeats 4000000 in
theorem icontf (g : FuncId) (caps : Array Value) (q : Int → Bool) (he : ∀ args w, (callFunc g args).run Tryz.prog w = .ok (.enter g args) w) (a : Option Addr) (n c : Nat) (L : List Int) (w : World) (h : Sl .i64 w a n L)
    (hG : ∀ x ∈ L, Calls Tryz.prog g (#[.int .i64 x] ++ caps) w fun e w' => e = .returned (.bool (q x)) ∧ w = w') :
    Calls Tryz.prog 65 #[.slice a n c, .func (.func g) #[] caps] w fun x w' => x = .returned (.bool (L.any q)) ∧ w = w' := by
  have H := Lib.hid (iidxf g caps q he a n c L w h hG)
  obtain ⟨V, hV⟩ : ∃ V, L.any q = V := ⟨_, rfl⟩
  rw [hV] at H ⊢
  clear h hV hG
  go_enter Tryz.func65, Tryz.ntmps65
  go_wp2_with (go_at_call 89; (with_reducible refine H.out.mono ?_); rintro e w1 ⟨⟨z, rfl, hz⟩, rfl⟩; have HZ := Lib.hid hz; clear hz)
  go_ret
  refine ⟨one (vbool ?_), rfl⟩
  have := HZ.out
  cases V
  · have h2 : ¬ 0 ≤ z := fun h => by simpa using this.1 h
    simp; omega
  · have h2 := this.2 rfl
    simp; omega
end Go.Proofs.YtkfhppbmnjmnoaaGreatDoor.W
