/- LAYER 28 (chunk): the program's New, Get, Has. -/
import Derived.Test.YtkncbckmgcklfaaDoorCkD
set_option linter.unusedSimpArgs false
set_option linter.unusedVariables false
namespace Go.Proofs.YtkncbckmgcklfaaDoor.W
open Go Go.ChangeShapes Go.WideShapes Go.ChangeAt Go.RowKit
open Go.Proofs.YtkncbckmgcklfaaDoor.P (shaL shaL_len)

theorem st_size : (Tryd.prog.info? 26).map (·.size) = some 2 := by kernel_rfl
theorem st_built (room : Int) (m : Nat) : Tryd.prog.built 26 [(0, .int .i64 room), (1, .map (some m))] = some #[.int .i64 room, .map (some m)] := by kernel_rfl
set_option maxRecDepth 100000 in
set_option maxHeartbeats 4000000 in
theorem cnew_bad (room : Int) (w : World) (h : room < 0 ∨ 524288 < room) :
    Calls Tryd.prog 16 #[.int .i64 room] w fun e w' => e = .returned (.tuple #[.pointer none, .int .i64 1]) ∧ w = w' := by
  have HP := Lib.hid (pin room 0 524288 false (by unfold in64; rcases h with h | h <;> simp <;> omega))
  clear h
  go_enter Tryd.func16, Tryd.ntmps16
  go_wp2_with (go_at_call 20; (with_reducible refine (HP.out w).mono ?_); rintro e w1 ⟨rfl, rfl⟩)
  go_ret2
  exact ⟨rfl, rfl⟩
set_option maxRecDepth 100000 in
set_option maxHeartbeats 4000000 in
theorem cnew (room : Int) (w : World) (h : 0 ≤ room ∧ room ≤ 524288) :
    Calls Tryd.prog 16 #[.int .i64 room] w fun e w' => ∃ p m, e = .returned (.tuple #[.pointer (some ⟨p, 0, none⟩), .int .i64 0]) ∧ CK w' p m room [] (fun k => w.heap.size ≤ k ∧ k < w'.heap.size) ∧ Below w.heap.size w w' := by
  have HP := Lib.hid (pin room 0 524288 true (by unfold in64; simp; omega))
  have hmm := @run_makeMap Tryd.prog
  have BT := Lib.hid (st_built room w.heap.size)
  clear h
  go_enter Tryd.func16, Tryd.ntmps16
  go_wp2_with (first
    | (go_at_call 20; (with_reducible refine (HP.out w).mono ?_); rintro e w1 ⟨rfl, rfl⟩)
    | ((with_reducible refine build_row (o := ⟨some 9, _, _, _, _, _⟩) rfl _ _ rfl [.int .i64 room, .map (some w.heap.size)] ?_ ?_); (focus (go_simp; exact BT.out)))
    | ((with_reducible refine box_row (o := ⟨some 10, _, _, _, _, _⟩) rfl _ _ rfl [.int .i64 room, .map (some w.heap.size)] ?_ ?_); (focus (go_simp)); intro w2 hr2 hb2 hz2; have R2 := Lib.hid hr2; have B2 := Lib.hid hb2; have Z2 := Lib.hid hz2; clear hr2 hb2 hz2))
  go_ret2
  have hz2 := Z2.out
  have hb2 := B2.out
  have h1 : (w.alloc (.map #[] 0)).heap.size = w.heap.size + 1 := by simp
  refine ⟨w.heap.size + 1, w.heap.size, by simp, { rp := ?_, sm := ?_, ob := by simp, ot := by simp, sb := List.Pairwise.nil, st := List.Pairwise.nil, Sp := ⟨by omega, by omega⟩, Sm := ⟨Nat.le_refl _, by omega⟩, Sb := by simp, St := by simp, lt := fun k hk => hk.2 }, ?_⟩
  · have := R2.out
    simpa using this
  · have := (SM.made w).kept hb2
    exact this
  · exact ((Below.refl _ _).alloc (Nat.le_refl _) _).trans (hb2.mono (by simp))
set_option maxRecDepth 100000 in
set_option maxHeartbeats 4000000 in
theorem cget {p m : Nat} {room : Int} {X : List FX} {S : Nat → Prop} {w : World} (s : ByteArray) (h : CK w p m room X S) (hok : ∀ x ∈ X, x.f.b.length ≤ 256) (hs : s.size ≤ maxLen) (hK : Ks w) :
    Calls Tryd.prog 5 #[.pointer (some ⟨p, 0, none⟩), .string s] w fun e w' => ∃ v, e = .returned (.tuple #[v, .int .i64 (getC (X.map (·.f)) s).2]) ∧ Fr w' w.heap.size v (getC (X.map (·.f)) s).1 ∧ Below w.heap.size w w' := by
  have HR := Lib.hid (cready p m room w h.rp)
  have c1 := h.rp.k2.2
  have FZ := Lib.hid file_zero
  have SZ := Lib.hid file_size
  unfold getC
  rcases find_or s (X.map (·.f)) with ⟨hf, hno⟩ | ⟨f, hf, hfm, hfs⟩
  · rw [hf]
    dsimp only
    have lk := (look_no (s := s) 24 50 map_type _ (file_zv w) h.sm hs (fun p hp => by obtain ⟨x, hx, rfl⟩ := mx_mem.1 hp; exact hno x.f (List.mem_map.2 ⟨x, hx, rfl⟩))).2
    clear h hf hno hok hs hK
    go_enter Tryd.func5, Tryd.ntmps5
    go_wp2_with (first
      | (go_at_call 19; (with_reducible refine HR.out.mono ?_); rintro e w1 ⟨rfl, rfl⟩)
      | ((with_reducible refine alloc_row (o := ⟨some 6, _, _, _, _, _⟩) rfl _ rfl _ FZ.out ?_); intro w1 hr hb hz; have R1 := Lib.hid hr; have B1 := Lib.hid hb; clear hr hb hz)
      | ((with_reducible refine store_row (o := ⟨none, _, _, _, _, _⟩) rfl _ (.tmp 6) _ rfl w.heap.size (fiC ⟨#[]⟩ (.slice none 0 0) 0 (.slice none 0 0)) ?_ ?_ 50 _ R1.out ?_ ?_ ?_ ?_); (focus go_simp); (focus (first | (go_simp; done) | (go_simp; rfl))); (focus (exact SZ.out)); (focus rfl); (focus (exact fi_one _ _ _ _ rfl rfl)); intro w2 hr hu; have B2 := Lib.hid (B1.out.trans (hu.below (Nat.le_refl _))); clear hr hu))
    go_ret2
    exact ⟨_, rfl, Fr.nil _ _, B2.out⟩
  · rw [hf]
    dsimp only
    obtain ⟨x, hx, rfl⟩ := find_x hfm
    have lk := (look_yes (s := s) 24 50 map_type _ (file_zv w) h.sm hs (by rw [← hfs]; exact h.at hx)).2
    obtain ⟨fa, fc, hbv, hrd, -⟩ := (h.ob x hx).form
    have h256 := hok x hx
    have OC := Lib.hid (lso_cell (h.ot x hx))
    obtain ⟨⟨xs, xb, xu, xt⟩, xbv, xtv⟩ := x
    dsimp only at hbv hrd h256 lk OC hfs ⊢
    subst hfs
    obtain ⟨bl, hbl⟩ : ∃ bl, xb.length = bl := ⟨_, rfl⟩
    rw [hbl] at hbv hrd h256
    have RD := Lib.hid hrd
    have HI := Lib.hid (fun w' (hb : Below w.heap.size w w') => cintact xs (.slice fa bl fc) xtv fa bl fc xu xb w' rfl (hrd.mono hb) (by omega) (hK.below hb hK.pos))
    have HC := Lib.hid (fun w' (hb : Below w.heap.size w w') => fclone fa bl fc xb w' (hrd.mono hb) (by omega))
    obtain ⟨V, hV⟩ : ∃ V, decide (sumOf xb = xs) = V := ⟨_, rfl⟩
    have HV := Lib.hid (show intactC ⟨xs, xb, xu, xt⟩ = V from hV)
    rw [hV] at HI
    subst hbv
    clear h hf hfm hok hs hK hrd hx hV
    go_enter Tryd.func5, Tryd.ntmps5
    cases V
    · rw [HV.out]
      go_wp2_with (first
        | (go_at_call 19; (with_reducible refine HR.out.mono ?_); rintro e w1 ⟨rfl, rfl⟩)
        | ((with_reducible refine alloc_row (o := ⟨some 6, _, _, _, _, _⟩) rfl _ rfl _ FZ.out ?_); intro w1 hr hb hz; have R1 := Lib.hid hr; have B1 := Lib.hid hb; clear hr hb hz)
        | ((with_reducible refine store_row (o := ⟨none, _, _, _, _, _⟩) rfl _ (.tmp 6) _ rfl w.heap.size (fiC xs (.slice fa bl fc) xu xtv) ?_ ?_ 50 _ R1.out ?_ ?_ ?_ ?_); (focus go_simp); (focus (first | (go_simp; done) | (go_simp; rfl))); (focus (exact SZ.out)); (focus rfl); (focus (exact fi_one _ _ _ _ rfl OC.out)); intro w2 hr hu; have R2 := Lib.hid hr; have B2 := Lib.hid (B1.out.trans (hu.below (Nat.le_refl _))); clear hr hu)
        | ((with_reducible refine load_row (o := ⟨some 22, _, _, _, _, _⟩) rfl _ _ rfl w.heap.size ?_ _ (fiC xs (.slice fa bl fc) xu xtv) _ R2.out Tryd.underlying50 rfl ?_ ?_); (focus go_simp); (focus (exact SZ.out)))
        | (go_at_call 23; (with_reducible refine (HI.out w2 B2.out).mono ?_); rintro e w3 ⟨rfl, hb⟩; have B3 := Lib.hid (B2.out.trans (hb.mono B2.out.size)); clear hb))
      go_ret2
      exact ⟨_, rfl, Fr.nil _ _, B3.out⟩
    · rw [HV.out]
      go_wp2_with (first
        | (go_at_call 19; (with_reducible refine HR.out.mono ?_); rintro e w1 ⟨rfl, rfl⟩)
        | ((with_reducible refine alloc_row (o := ⟨some 6, _, _, _, _, _⟩) rfl _ rfl _ FZ.out ?_); intro w1 hr hb hz; have R1 := Lib.hid hr; have B1 := Lib.hid hb; clear hr hb hz)
        | ((with_reducible refine store_row (o := ⟨none, _, _, _, _, _⟩) rfl _ (.tmp 6) _ rfl w.heap.size (fiC xs (.slice fa bl fc) xu xtv) ?_ ?_ 50 _ R1.out ?_ ?_ ?_ ?_); (focus go_simp); (focus (first | (go_simp; done) | (go_simp; rfl))); (focus (exact SZ.out)); (focus rfl); (focus (exact fi_one _ _ _ _ rfl OC.out)); intro w2 hr hu; have R2 := Lib.hid hr; have B2 := Lib.hid (B1.out.trans (hu.below (Nat.le_refl _))); clear hr hu)
        | ((with_reducible refine load_row (o := ⟨some 22, _, _, _, _, _⟩) rfl _ _ rfl w.heap.size ?_ _ (fiC xs (.slice fa bl fc) xu xtv) _ R2.out Tryd.underlying50 rfl ?_ ?_); (focus go_simp); (focus (exact SZ.out)))
        | (go_at_call 23; (with_reducible refine (HI.out w2 B2.out).mono ?_); rintro e w3 ⟨rfl, hb⟩; have B3 := Lib.hid (B2.out.trans (hb.mono B2.out.size)); obtain ⟨c0, c1', c2, c3⟩ := (R2.out.below hb R2.out.lt).k4; clear hb c0 c2 c3)
        | (go_at_call 24; (with_reducible refine (HC.out w3 B3.out).mono ?_); rintro e w4 ⟨v4, rfl, hf, hb⟩; have F4 := Lib.hid (hf.base B3.out.size); have B4 := Lib.hid (B3.out.trans (hb.mono B3.out.size)); clear hf hb))
      go_ret2
      exact ⟨_, rfl, F4.out, B4.out⟩
set_option maxRecDepth 100000 in
set_option maxHeartbeats 4000000 in
theorem chas {p m : Nat} {room : Int} {X : List FX} {S : Nat → Prop} {w : World} (s : ByteArray) (h : CK w p m room X S) (hok : ∀ x ∈ X, x.f.b.length ≤ 256) (hs : s.size ≤ maxLen) (hK : Ks w) :
    Calls Tryd.prog 8 #[.pointer (some ⟨p, 0, none⟩), .string s] w fun e w' => e = .returned (.bool (decide ((getC (X.map (·.f)) s).2 = 0))) ∧ Below w.heap.size w w' := by
  have HG := Lib.hid (cget s h hok hs hK)
  obtain ⟨V, hV⟩ : ∃ V, (getC (X.map (·.f)) s).2 = V := ⟨_, rfl⟩
  rw [hV] at HG ⊢
  clear h hok hs hK hV
  go_enter Tryd.func8, Tryd.ntmps8
  go_wp2_with (go_at_call 5; (with_reducible refine HG.out.mono ?_); rintro e w1 ⟨v, rfl, hf, hb⟩; have B1 := Lib.hid hb; clear hf hb)
  go_ret
  exact ⟨rfl, B1.out⟩
end Go.Proofs.YtkncbckmgcklfaaDoor.W
