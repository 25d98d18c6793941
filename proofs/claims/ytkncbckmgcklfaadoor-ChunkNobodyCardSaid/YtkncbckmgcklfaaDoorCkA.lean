/- LAYER 28 (chunk): the program's small functions. -/
import Derived.Test.YtkncbckmgcklfaaDoorCkO
import Derived.Test.YtkncbckmgcklfaaDoorStq
import Derived.Test.YtkncbckmgcklfaaDoorByc
import Derived.Test.YtkncbckmgcklfaaDoorArr
import Derived.Test.YtkncbckmgcklfaaDoorTail
import Derived.Test.YtkncbckmgcklfaaDoorSt
import Derived.Test.YtkncbckmgcklfaaDoorLg
set_option linter.unusedSimpArgs false
set_option linter.unusedVariables false
namespace Go.Proofs.YtkncbckmgcklfaaDoor.W
open Go Go.ChangeShapes Go.WideShapes Go.ChangeAt Go.RowKit
open Go.Proofs.YtkncbckmgcklfaaDoor.P (shaL shaL_len)

theorem Row.k2 {w : World} {g : Nat} {t : TypeId} {a b : Value} (h : Row w g t [a, b]) : w.cell? ⟨g, 0, none⟩ = some a ∧ w.cell? ⟨g, 1, none⟩ = some b := by
  refine ⟨?_, ?_⟩ <;> (rw [h.cellV]; rfl)
theorem Row.k4 {w : World} {g : Nat} {t : TypeId} {a b c d : Value} (h : Row w g t [a, b, c, d]) : w.cell? ⟨g, 0, none⟩ = some a ∧ w.cell? ⟨g, 1, none⟩ = some b ∧ w.cell? ⟨g, 2, none⟩ = some c ∧ w.cell? ⟨g, 3, none⟩ = some d := by
  refine ⟨?_, ?_, ?_, ?_⟩ <;> (rw [h.cellV]; rfl)
theorem fr_one {w : World} {base : Nat} {v : Value} {l : List UInt8} (h : Fr w base v l) : v.oneCell' = true := by
  obtain ⟨a, c, rfl, -⟩ := h.form; rfl
theorem fr_cell {w : World} {base : Nat} {v : Value} {l : List UInt8} (h : Fr w base v l) : v.cells = #[v] := by
  obtain ⟨a, c, rfl, -⟩ := h.form; rfl
theorem lso_cell {α : Type} {E : El α} {w : World} {base : Nat} {v : Value} {L : List α} (h : LsO E w base v L) : v.oneCell' = true := by
  obtain ⟨-, h2⟩ := h
  rcases h2 with ⟨rfl, -⟩ | ⟨g, c, cur, rfl, -⟩ <;> rfl
theorem lso_cells {α : Type} {E : El α} {w : World} {base : Nat} {v : Value} {L : List α} (h : LsO E w base v L) : v.cells = #[v] := by
  obtain ⟨-, h2⟩ := h
  rcases h2 with ⟨rfl, -⟩ | ⟨g, c, cur, rfl, -⟩ <;> rfl
theorem Row.keepK {w w' : World} {g : Nat} {t : TypeId} {L : List Value} {v : Value} (h : Row w g t L) (k : Kp v w w') (hn : v.ownBlock ≠ some g) : Row w' g t L := (k g h.lt hn).trans h
theorem size_bs : (Tryd.prog.info? 22).map (·.size) = some 1 := by kernel_rfl
theorem size_str : (Tryd.prog.info? 9).map (·.size) = some 1 := by kernel_rfl
theorem size_int : (Tryd.prog.info? 3).map (·.size) = some 1 := by kernel_rfl
theorem size_is : (Tryd.prog.info? 48).map (·.size) = some 1 := by kernel_rfl
theorem fi_one (s : ByteArray) (a : Value) (su : Nat) (t : Value) (ha : a.oneCell' = true) (ht : t.oneCell' = true) : ∀ v ∈ fiC s a su t, v.oneCell' = true := by
  intro v hv; simp at hv; rcases hv with rfl | rfl | rfl | rfl
  · rfl
  · exact ha
  · rfl
  · exact ht
theorem neq_map_nil (w : World) (m : Option Nat) : (binOp .neq 24 (.map m) (.map none)).run Tryd.prog w = .ok (.bool m.isSome) w := by
  have h : ∀ d : Nat, (Op.equalIn (d + 1) 24 (.map m) (.map none)).run Tryd.prog w = .ok m.isNone w := fun d => by
    cases m <;> simp [Op.equalIn, run_underlying map_type]
  simp only [binOp]
  simp [Op.equal, Op.maxDepth, h 9999]
theorem eqM_dec (a b : ByteArray) : (a.toList == b.toList) = decide (a = b) := by
  rw [Bool.eq_iff_iff]
  exact (eqM_iff a b).trans (by simp)
set_option maxRecDepth 100000 in
set_option maxHeartbeats 4000000 in
theorem cready (p m : Nat) (room : Int) (w : World) (h : Row w p 26 [.int .i64 room, .map (some m)]) :
    Calls Tryd.prog 19 #[.pointer (some ⟨p, 0, none⟩)] w fun e w' => e = .returned (.bool true) ∧ w = w' := by
  obtain ⟨c0, c1⟩ := h.k2
  have hnm := fun w => neq_map_nil w (some m)
  clear h
  go_enter Tryd.func19, Tryd.ntmps19
  go_wp2_with fail
  go_ret
  exact ⟨rfl, rfl⟩
set_option maxRecDepth 100000 in
set_option maxHeartbeats 4000000 in
theorem cready_nil (w : World) : Calls Tryd.prog 19 #[.pointer none] w fun e w' => e = .returned (.bool false) ∧ w = w' := by
  go_enter Tryd.func19, Tryd.ntmps19
  go_wp2_with fail
  go_ret
  exact ⟨rfl, rfl⟩
set_option maxRecDepth 100000 in
set_option maxHeartbeats 4000000 in
theorem cready_zero (p : Nat) (w : World) (c1 : w.cell? ⟨p, 1, none⟩ = some (.map none)) :
    Calls Tryd.prog 19 #[.pointer (some ⟨p, 0, none⟩)] w fun e w' => e = .returned (.bool false) ∧ w = w' := by
  have hnm := fun w => neq_map_nil w none
  go_enter Tryd.func19, Tryd.ntmps19
  go_wp2_with fail
  go_ret
  exact ⟨rfl, rfl⟩
theorem modulo_eq (i n : Int) (h : 0 < n) : ((i.tmod n) + n).tmod n = i % n := by
  have h1 := Int.tmod_lt_of_pos i h
  have h2 : -n < i.tmod n := by
    by_cases h0 : 0 ≤ i
    · have := Int.tmod_nonneg n h0; omega
    · have h3 : 0 ≤ (-i).tmod n := Int.tmod_nonneg n (by omega)
      have h4 := Int.tmod_lt_of_pos (-i) h
      rw [Int.neg_tmod] at h3 h4
      omega
  rw [Int.tmod_eq_emod_of_nonneg (by omega), Int.add_emod_right]
  by_cases h0 : 0 ≤ i
  · rw [Int.tmod_eq_emod_of_nonneg h0, Int.emod_emod_of_dvd _ (Int.dvd_refl n)]
  · have h5 : i = n * (i.tdiv n) + i.tmod n := (Int.mul_tdiv_add_tmod i n).symm
    conv => rhs; rw [h5]
    rw [Int.mul_add_emod_self_left]
set_option maxRecDepth 100000 in
set_option maxHeartbeats 4000000 in
theorem cmodulo (i n : Int) (w : World) (hn : 0 < n ∧ n ≤ 1000000000) :
    Calls Tryd.prog 29 #[.int .i64 i, .int .i64 n] w fun e w' => e = .returned (.int .i64 (i % n)) ∧ w = w' := by
  have hm := modulo_eq i n hn.1
  have g0 : (n == 0) = false := by simp; omega
  have g1 : ¬ n = 0 := by omega
  have h1 := Int.tmod_lt_of_pos i hn.1
  have h2 : -n < i.tmod n := by
    have h3 := Int.tmod_lt_of_pos (-i) hn.1
    rw [Int.neg_tmod] at h3; omega
  have hw0 : IntKind.i64.wrap (i.tmod n) = i.tmod n := by rw [IntKind.wrap_i64]; omega
  have hw1 : IntKind.i64.wrap (i.tmod n + n) = i.tmod n + n := by rw [IntKind.wrap_i64]; omega
  have he := Int.emod_lt_of_pos i hn.1
  have he0 := Int.emod_nonneg i g1
  have hw2 : IntKind.i64.wrap (i % n) = i % n := by rw [IntKind.wrap_i64]; omega
  obtain ⟨x, hx⟩ : ∃ x, i.tmod n = x := ⟨_, rfl⟩
  obtain ⟨y, hy⟩ : ∃ y, i % n = y := ⟨_, rfl⟩
  rw [hx] at hm hw0 hw1 h1 h2
  rw [hy] at hm hw2 ⊢
  obtain ⟨z, hz⟩ : ∃ z, x + n = z := ⟨_, rfl⟩
  rw [hz] at hm hw1
  have hw3 : IntKind.i64.wrap (z.tmod n) = y := by rw [hm]; exact hw2
  clear hy he he0
  go_enter Tryd.func29, Tryd.ntmps29
  go_wp2_with fail
  go_ret
  exact ⟨rfl, rfl⟩
set_option maxRecDepth 100000 in
set_option maxHeartbeats 4000000 in
theorem cloose (s : ByteArray) (a tv : Value) (x : Option Addr) (n c su : Nat) (w : World) (ha : a = .slice x n c) (hn : n ≤ 1000000 ∧ su ≤ n) :
    Calls Tryd.prog 28 #[.agg (fiC s a su tv).toArray] w fun e w' => e = .returned (.int .i64 ((n : Int) - su)) ∧ Below w.heap.size w w' := by
  subst ha
  have hw1 : IntKind.i64.wrap ((n : Int) - su) = (n : Int) - su := by rw [IntKind.wrap_i64]; omega
  go_enter Tryd.func28, Tryd.ntmps28
  go_wp2_with (first
    | ((with_reducible refine box_row (o := ⟨some 1, _, _, _, _, _⟩) rfl _ _ rfl (fiC s (.slice x n c) su tv) rfl ?_); intro w1 hr hb hz; have R1 := Lib.hid hr; have B1 := Lib.hid hb; obtain ⟨c0, c1, c2, c3⟩ := hr.k4; clear hr hb hz c0 c3))
  go_ret
  exact ⟨rfl, B1.out⟩
set_option maxRecDepth 100000 in
set_option maxHeartbeats 4000000 in
theorem cintact (s : ByteArray) (a tv : Value) (x : Option Addr) (n c su : Nat) (b : List UInt8) (w : World) (ha : a = .slice x n c) (hr : Rd w x n c b) (hn : n ≤ 1000000) (hK : Ks w) :
    Calls Tryd.prog 23 #[.agg (fiC s a su tv).toArray] w fun e w' => e = .returned (.bool (decide (sumOf b = s))) ∧ Below w.heap.size w w' := by
  subst ha
  have HR := Lib.hid hr
  have HK := Lib.hid hK
  have HN := Lib.hid hn
  obtain ⟨V, hV⟩ : ∃ V, decide (sumOf b = s) = V := ⟨_, rfl⟩
  have HV := Lib.hid hV
  rw [hV]
  clear hr hK hn hV
  go_enter Tryd.func23, Tryd.ntmps23
  go_wp2_with (first
    | ((with_reducible refine box_row (o := ⟨some 1, _, _, _, _, _⟩) rfl _ _ rfl (fiC s (.slice x n c) su tv) rfl ?_); intro w1 hr hb hz; have R1 := Lib.hid hr; have B1 := Lib.hid hb; clear hr hb hz))
  refine region_h (fun v => Below w1.heap.size w1 v) (by kernel_rfl) (by kernel_rfl) (Below.refl _ _).drew ?_
  (refine h_read 0 rfl (by kernel_rfl) (by kernel_rfl) (h_free rfl) ?_ ?_ ?_; rotate_left; (focus (intro v hv; go_simp; rfl)); go_simp)
  (refine h_read 1 rfl (by kernel_rfl) (by kernel_rfl) (h_free rfl) ?_ ?_ ?_; rotate_left; (focus (intro v hv; have c0 := (hv.cell (p := ⟨w.heap.size, 0, none⟩) R1.out.lt).trans R1.out.k4.1; have c1 := (hv.cell (p := ⟨w.heap.size, 1, none⟩) R1.out.lt).trans R1.out.k4.2.1; go_simp; rfl)); go_simp)
  (refine h_read 3 rfl (by kernel_rfl) (by kernel_rfl) (h_free rfl) ?_ ?_ ?_; rotate_left; (focus (intro v hv; go_simp; rfl)); go_simp)
  (refine h_read 4 rfl (by kernel_rfl) (by kernel_rfl) (h_free rfl) ?_ ?_ ?_; rotate_left; (focus (intro v hv; have c0 := (hv.cell (p := ⟨w.heap.size, 0, none⟩) R1.out.lt).trans R1.out.k4.1; have c1 := (hv.cell (p := ⟨w.heap.size, 1, none⟩) R1.out.lt).trans R1.out.k4.2.1; go_simp; rfl)); go_simp)
  (refine h_call 2 rfl (by kernel_rfl) (h_free rfl) 21 ?_ ?_ ?_; rotate_left; (focus (go_simp; rfl)))
  refine (shasum_any x n c b w1.drew ?_ ?_ ?_).mono ?_
  · exact HK.out.below (B1.out.drew) HK.out.pos
  · exact HR.out.mono B1.out.drew
  · have := HN.out; omega
  rintro e w4 ⟨rfl, hb4⟩
  refine ⟨_, rfl, (Below.refl _ _).drew.trans (hb4.mono (Nat.le_refl _)), ?_⟩
  go_simp
  (refine h_read 5 rfl (by kernel_rfl) (by kernel_rfl) (h_free rfl) ?_ ?_ ?_; rotate_left; (focus (intro v hv; go_simp; rfl)); go_simp)
  (refine h_read 6 rfl (by kernel_rfl) (by kernel_rfl) (h_free rfl) ?_ ?_ ?_; rotate_left; (focus (intro v hv; go_simp; rfl)); go_simp)
  refine h_done (by kernel_rfl) ?_
  go_wp2_with fail
  go_ret
  exact ⟨one (vbool (by rw [← HV.out]; exact eqM_dec _ _)), B1.out.trans ((Below.drew (Below.refl _ _) |>.trans hb4).mono B1.out.size)⟩
set_option maxRecDepth 100000 in
set_option maxHeartbeats 4000000 in
theorem ccopied (s : ByteArray) (a tv : Value) (x y : Option Addr) (n c k ck su : Nat) (b : List UInt8) (t : List Int) (w : World) (ha : a = .slice x n c) (hr : Rd w x n c b) (hn : n ≤ 1000000) (ht : tv = .slice y k ck) (hl : Ls intE w y k ck t) (hk : k ≤ 1000) :
    Calls Tryd.prog 37 #[.agg (fiC s a su tv).toArray] w fun e w' => ∃ a' tv', e = .returned (.agg (fiC s a' su tv').toArray) ∧ Fr w' w.heap.size a' b ∧ LsO intE w' w.heap.size tv' t ∧ Below w.heap.size w w' := by
  subst ha ht
  have HR := Lib.hid hr
  have HN := Lib.hid hn
  have HL := Lib.hid hl
  have HKK := Lib.hid hk
  have FZ := Lib.hid file_zero
  have SZ := Lib.hid file_size
  clear hr hn hl hk
  go_enter Tryd.func37, Tryd.ntmps37
  go_wp2_with (first
    | ((with_reducible refine box_row (o := ⟨some 1, _, _, _, _, _⟩) rfl _ _ rfl (fiC s (.slice x n c) su (.slice y k ck)) rfl ?_); intro w1 hr hb hz; have R1 := Lib.hid hr; have B1 := Lib.hid hb; have L1 := Lib.hid (show w.heap.size < w1.heap.size by omega); clear hr hb hz)
    | ((with_reducible refine alloc_row (o := ⟨some 2, _, _, _, _, _⟩) rfl _ rfl _ FZ.out ?_); intro w2 hr hb hz; have R22 := Lib.hid hr; have R12 := Lib.hid (R1.out.below hb R1.out.lt); have B2 := Lib.hid (B1.out.trans (hb.mono B1.out.size)); have L2 := Lib.hid (show w1.heap.size < w2.heap.size by omega); clear hr hb hz))
  have D2 : Hid (Below w2.heap.size w2 w2.drew) := Lib.hid (Below.refl _ _).drew
  refine region_t (fun v => Below w2.heap.size w2 v) 7 (by kernel_rfl) (by kernel_rfl) (by kernel_rfl) D2.out ?_
  obtain ⟨wd, hwd⟩ : ∃ wd, w2.drew = wd := ⟨_, rfl⟩
  rw [hwd] at D2 ⊢
  clear hwd
  (refine t_read 0 rfl (by kernel_rfl) (by kernel_rfl) (by kernel_rfl) (t_free rfl) ?_ ?_ ?_; rotate_left; (focus (intro v hv; go_simp; rfl)); go_simp)
  (refine t_read 1 rfl (by kernel_rfl) (by kernel_rfl) (by kernel_rfl) (t_free rfl) ?_ ?_ ?_; rotate_left; (focus (intro v hv; have c1 := (hv.cell (p := ⟨w.heap.size, 1, none⟩) R12.out.lt).trans R12.out.k4.2.1; have c3 := (hv.cell (p := ⟨w.heap.size, 3, none⟩) R12.out.lt).trans R12.out.k4.2.2.2; go_simp; rfl)); go_simp)
  (refine t_read 3 rfl (by kernel_rfl) (by kernel_rfl) (by kernel_rfl) (t_free rfl) ?_ ?_ ?_; rotate_left; (focus (intro v hv; go_simp; rfl)); go_simp)
  (refine t_read 4 rfl (by kernel_rfl) (by kernel_rfl) (by kernel_rfl) (t_free rfl) ?_ ?_ ?_; rotate_left; (focus (intro v hv; have c1 := (hv.cell (p := ⟨w.heap.size, 1, none⟩) R12.out.lt).trans R12.out.k4.2.1; have c3 := (hv.cell (p := ⟨w.heap.size, 3, none⟩) R12.out.lt).trans R12.out.k4.2.2.2; go_simp; rfl)); go_simp)
  (refine t_call 2 rfl (by kernel_rfl) rfl (t_free rfl) 24 ?_ ?_ ?_; rotate_left; (focus (go_simp; rfl)))
  refine (fclone x n c b wd (HR.out.mono (B2.out.trans (D2.out.mono B2.out.size))) (by have := HN.out; omega)).mono ?_
  rintro e w3 ⟨v3, rfl, hf3, hb3⟩
  have F3 := Lib.hid (hf3.base D2.out.size)
  have B3 := Lib.hid (D2.out.trans (hb3.mono D2.out.size))
  clear hf3 hb3
  refine ⟨_, rfl, B3.out, ?_⟩
  go_simp
  (refine t_read 6 rfl (by kernel_rfl) (by kernel_rfl) (by kernel_rfl) (t_free rfl) ?_ ?_ ?_; rotate_left; (focus (intro v hv; go_simp; rfl)); go_simp)
  (refine t_call 5 rfl (by kernel_rfl) rfl (t_free rfl) 50 ?_ ?_ ?_; rotate_left; (focus (go_simp; rfl)))
  refine (iclone y k ck t w3 (HL.out.mono intOk (B2.out.trans (B3.out.mono B2.out.size))) HKK.out).mono ?_
  rintro e w5 ⟨a5, c5, rfl, hl5, hb5⟩
  obtain ⟨v5, hv5⟩ : ∃ v5, Value.slice a5 k c5 = v5 := ⟨_, rfl⟩
  rw [hv5] at hl5 ⊢
  have F5 := Lib.hid (F3.out.kept hb5)
  have T5 := Lib.hid (hl5.base B3.out.size)
  have B5 := Lib.hid (B3.out.trans (hb5.mono B3.out.size))
  have FG := Lib.hid (fun g e => (World.ownsRow.lt F5.out g e).1)
  have TG := Lib.hid (fun g e => (World.ownsRow.lt T5.out g e).1)
  have FB := Lib.hid (fr_one F5.out)
  have FC := Lib.hid (fr_cell F5.out)
  have FTC := Lib.hid (show v5.cells = #[v5] by rw [← hv5]; rfl)
  have FT := Lib.hid (show v5.oneCell' = true by rw [← hv5]; rfl)
  have R15 := Lib.hid (R12.out.below B5.out R12.out.lt)
  have R25 := Lib.hid (R22.out.below B5.out R22.out.lt)
  clear hl5 hb5 hv5
  refine ⟨_, rfl, B5.out, ?_⟩
  go_simp
  (refine t_store 7 rfl (by kernel_rfl) rfl (by kernel_rfl) ?_; intro K hK)
  refine store_cell rfl _ _ _ rfl w.heap.size 1 v3 (by go_simp) (by go_simp) FC.out FB.out 50 _ R15.out size_bs (by show 1 < 4; decide) ?_
  intro w7 hr hu
  have R7 := Lib.hid (show Row w7 w.heap.size 50 (fiC s v3 su (.slice y k ck)) from hr)
  have R27 := Lib.hid (R25.out.upd hu (Nat.ne_of_gt L1.out))
  have F7 := Lib.hid (F5.out.keep fun g e => hu.block g (Nat.ne_of_gt (Nat.lt_trans L1.out (Nat.lt_of_lt_of_le L2.out (FG.out g e)))))
  have T7 := Lib.hid (T5.out.keep fun g e => hu.block g (Nat.ne_of_gt (Nat.lt_trans L1.out (Nat.lt_of_lt_of_le L2.out (TG.out g e)))))
  have B7 := Lib.hid ((B2.out.trans (B5.out.mono B2.out.size)).trans (hu.below (Nat.le_refl _)))
  clear hr hu
  refine hK _ _ ?_
  go_simp
  (refine u_one 8 rfl (by kernel_rfl) rfl ?_ ?_ ?_; rotate_left; (focus (go_simp; rfl)); go_simp)
  (refine u_list 9 rfl (by kernel_rfl) ?_; intro K hK)
  refine store_cell rfl _ _ _ rfl w.heap.size 3 v5 (by go_simp) (by go_simp) FTC.out FT.out 50 _ R7.out size_is (by show 3 < 4; decide) ?_
  intro w8 hr hu
  have R8 := Lib.hid (show Row w8 w.heap.size 50 (fiC s v3 su v5) from hr)
  have R28 := Lib.hid (R27.out.upd hu (Nat.ne_of_gt L1.out))
  have F8 := Lib.hid (F7.out.keep fun g e => hu.block g (Nat.ne_of_gt (Nat.lt_trans L1.out (Nat.lt_of_lt_of_le L2.out (FG.out g e)))))
  have T8 := Lib.hid (T7.out.keep fun g e => hu.block g (Nat.ne_of_gt (Nat.lt_trans L1.out (Nat.lt_of_lt_of_le L2.out (TG.out g e)))))
  have B8 := Lib.hid (B7.out.trans (hu.below (Nat.le_refl _)))
  clear hr hu
  refine hK _ _ ?_
  go_simp
  refine u_done (by kernel_rfl) ?_
  go_wp2_with (first
    | ((with_reducible refine load_row (o := ⟨some 11, _, _, _, _, _⟩) rfl _ _ rfl w.heap.size ?_ _ (fiC s v3 su v5) _ R8.out Tryd.underlying50 rfl ?_ ?_); (focus go_simp); (focus (exact SZ.out)))
    | ((with_reducible refine store_row (o := ⟨none, _, _, _, _, _⟩) rfl _ (.tmp 2) _ rfl w1.heap.size (fiC s v3 su v5) ?_ ?_ 50 _ R28.out ?_ ?_ ?_ ?_); (focus go_simp); (focus (first | (go_simp; done) | (go_simp; rfl))); (focus (exact SZ.out)); (focus rfl); (focus (exact fi_one s _ su _ FB.out FT.out)); intro w9 hr hu; have R9 := Lib.hid hr; have F9 := Lib.hid (F8.out.keep fun g e => hu.block g (Nat.ne_of_gt (Nat.lt_of_lt_of_le L2.out (FG.out g e)))); have T9 := Lib.hid (T8.out.keep fun g e => hu.block g (Nat.ne_of_gt (Nat.lt_of_lt_of_le L2.out (TG.out g e)))); have B9 := Lib.hid (B8.out.trans (hu.below B1.out.size)); clear hr hu))
  exact bodyPost_ret (results_cell_row rfl _ _ w1.heap.size 50 _ _ _ (by go_simp) R9.out Tryd.underlying50 rfl SZ.out) rfl ⟨_, _, rfl, F9.out.base B2.out.size, T9.out.base B2.out.size, B9.out⟩
end Go.Proofs.YtkncbckmgcklfaaDoor.W
