/- LAYER 16 (msg): the law MsgChecks, out of what the program's calls promise. -/
import Derived.Test.YtdcioeoofngibaaMsA
import Derived.Test.YtdcioeoofngibaaMsC
import Derived.Test.YtdcioeoofngibaaRg
import Derived.Great.BuildSlice
set_option linter.unusedSimpArgs false
set_option linter.unusedVariables false
namespace Go.Proofs.Ytdcioeoofngibaa.W
open Go Go.ChangeShapes Go.WideShapes Go.ChangeAt Go.RowKit
open Go.Proofs.Ytdcioeoofngibaa.P (enc dec)

theorem infoMs : (Try.prog.info? 25).map (fun i => (i.zero, i.size)) = some (some (.agg (Ms.cells (bareT ⟨0, 0, 0, 0, 0, 0, 0, 0, 0, false, none, 0, 0, none, 0, 0, ByteArray.empty⟩).1).toArray), 13) := by kernel_rfl
theorem fill_ms2 (m n : Ms) : Instr.fill (fun i => some (i * 13, 13)) ((Array.range (2 * 13)).map ((Value.agg (Ms.cells (bareT ⟨0, 0, 0, 0, 0, 0, 0, 0, 0, false, none, 0, 0, none, 0, 0, ByteArray.empty⟩).1).toArray).cells[· % (Value.agg (Ms.cells (bareT ⟨0, 0, 0, 0, 0, 0, 0, 0, 0, false, none, 0, 0, none, 0, 0, ByteArray.empty⟩).1).toArray).cells.size]!)) [(0, .agg m.cells.toArray), (1, .agg n.cells.toArray)] = some (m.cells ++ n.cells).toArray := by
  kernel_rfl
theorem fill_ms1 (m : Ms) : Instr.fill (fun i => some (i * 13, 13)) ((Array.range (1 * 13)).map ((Value.agg (Ms.cells (bareT ⟨0, 0, 0, 0, 0, 0, 0, 0, 0, false, none, 0, 0, none, 0, 0, ByteArray.empty⟩).1).toArray).cells[· % (Value.agg (Ms.cells (bareT ⟨0, 0, 0, 0, 0, 0, 0, 0, 0, false, none, 0, 0, none, 0, 0, ByteArray.empty⟩).1).toArray).cells.size]!)) [(0, .agg m.cells.toArray)] = some m.cells.toArray := by
  kernel_rfl
theorem run_build2 (ρ : Operand → Value) (o : Oper) (x y : Operand) (ho : o.op = .buildSlice 32 2 #[(0, x), (1, y)]) (m n : Ms) (hx : ρ x = .agg m.cells.toArray) (hy : ρ y = .agg n.cells.toArray) (w : World) :
    (execOp ρ o).run Try.prog w = .ok (.value (.slice (some ⟨w.heap.size, 0, none⟩) 2 2)) (w.alloc (.cells (m.cells ++ n.cells).toArray 25)) := by
  cases hq : Try.prog.info? 25 with
  | none => have := infoMs; simp [hq] at this
  | some ie =>
    have h := infoMs
    simp [hq] at h
    obtain ⟨hz, hs⟩ := h
    have hrun := run_buildSlice (P := Try.prog) w 32 25 2 #[(0, ρ x), (1, ρ y)] (m.cells ++ n.cells).toArray ie _ Try.underlying32 hq hz (by rw [hs]; decide) (by rw [hs]; decide) (by rw [hs, hx, hy]; exact fill_ms2 m n)
    unfold execOp
    simp only [ho]
    simp [Sem.run_bind, hrun, Result.andThen]
theorem run_build1 (ρ : Operand → Value) (o : Oper) (x : Operand) (ho : o.op = .buildSlice 32 1 #[(0, x)]) (m : Ms) (hx : ρ x = .agg m.cells.toArray) (w : World) :
    (execOp ρ o).run Try.prog w = .ok (.value (.slice (some ⟨w.heap.size, 0, none⟩) 1 1)) (w.alloc (.cells m.cells.toArray 25)) := by
  cases hq : Try.prog.info? 25 with
  | none => have := infoMs; simp [hq] at this
  | some ie =>
    have h := infoMs
    simp [hq] at h
    obtain ⟨hz, hs⟩ := h
    have hrun := run_buildSlice (P := Try.prog) w 32 25 1 #[(0, ρ x)] m.cells.toArray ie _ Try.underlying32 hq hz (by rw [hs]; decide) (by rw [hs]; decide) (by rw [hs, hx]; exact fill_ms1 m)
    unfold execOp
    simp only [ho]
    simp [Sem.run_bind, hrun, Result.andThen]
theorem mss_two (X Y : Mt) (w : World) (hX : MsF w X.1 X.2.1 X.2.2) (hY : MsF w Y.1 Y.2.1 Y.2.2) (eX : X.1.en ≤ 1000000) (eY : Y.1.en ≤ 1000000) : Mss (w.alloc (.cells (X.1.cells ++ Y.1.cells).toArray 25)) (some ⟨w.heap.size, 0, none⟩) 2 [X, Y] := by
  have hb : Below w.heap.size w (w.alloc (.cells (X.1.cells ++ Y.1.cells).toArray 25)) := (Below.refl _ _).alloc (Nat.le_refl _) _
  refine ⟨rfl, by decide, fun p hp => ?_, .inr ⟨_, 0, rfl, by simp, fun i hi j v hj => ?_⟩⟩
  · simp at hp
    rcases hp with rfl | rfl
    · exact ⟨hX.mono hb, eX⟩
    · exact ⟨hY.mono hb, eY⟩
  · rw [(Row.new w 25 (X.1.cells ++ Y.1.cells)).cellV]
    have hl : X.1.cells.length = 13 := rfl
    rcases (show i = 0 ∨ i = 1 by omega) with rfl | rfl
    · have hj2 : j < 13 := by have := (List.getElem?_eq_some_iff.1 hj).1; simpa [Ms.cells] using this
      rw [List.getElem?_append_left (by omega)]
      simpa using hj
    · rw [List.getElem?_append_right (by omega), hl]
      simpa using hj
theorem mss_one (X : Mt) (w : World) (hX : MsF w X.1 X.2.1 X.2.2) (eX : X.1.en ≤ 1000000) : Mss (w.alloc (.cells X.1.cells.toArray 25)) (some ⟨w.heap.size, 0, none⟩) 1 [X] := by
  have hb : Below w.heap.size w (w.alloc (.cells X.1.cells.toArray 25)) := (Below.refl _ _).alloc (Nat.le_refl _) _
  refine ⟨rfl, by decide, fun p hp => ?_, .inr ⟨_, 0, rfl, by simp, fun i hi j v hj => ?_⟩⟩
  · simp at hp
    subst hp
    exact ⟨hX.mono hb, eX⟩
  · rw [(Row.new w 25 X.1.cells).cellV]
    obtain rfl : i = 0 := by omega
    simpa using hj
set_option maxRecDepth 100000 in
set_option maxHeartbeats 32000000 in
theorem checks_of (hE : MsEncP 13) (hC : MsCheckP 7) (hS : MsSameP 9) (hA : MsAllP 11) (m n : Ms) (d d' : List UInt8) (L L' : List (En × List UInt8)) (w : World) (hm : MsF w m d L) (hn : MsF w n d' L') :
    Calls Try.prog 3 #[.agg m.cells.toArray, .agg n.cells.toArray] w fun x w' => x = .returned (.bool true) ∧ Below w.heap.size w w' := by
  have HZ0 := Lib.hid (show (Try.prog.info? 25).map (·.size) = some m.cells.length from ms_size)
  have HY0 := Lib.hid (show (Try.prog.info? 25).map (·.size) = some n.cells.length from ms_size)
  have HAW := Lib.hid (awake16 hE)
  have HF1 := Lib.hid (fun (w' : World) (h : Below w.heap.size w w') => fewM m d L w' (hm.mono h))
  have HF2 := Lib.hid (fun (w' : World) (h : Below w.heap.size w w') => fewM n d' L' w' (hn.mono h))
  obtain ⟨fv, hfv⟩ : ∃ v, fewMV m L = v := ⟨_, rfl⟩
  obtain ⟨gv, hgv⟩ : ∃ v, fewMV n L' = v := ⟨_, rfl⟩
  rw [hfv] at HF1
  rw [hgv] at HF2
  by_cases hbig : fv = false ∨ (fv = true ∧ gv = false)
  · obtain ⟨C, hCx⟩ : ∃ C, m.cells = C := ⟨_, rfl⟩
    obtain ⟨D, hDx⟩ : ∃ D, n.cells = D := ⟨_, rfl⟩
    rw [hCx] at HZ0 HF1 ⊢
    rw [hDx] at HY0 HF2 ⊢
    have HZ := HZ0
    have HY := HY0
    clear HZ0 HY0 hm hn hfv hgv hCx hDx hE hC hS hA
    rcases hbig with rfl | ⟨rfl, rfl⟩
    · go_enter Try.func3, Try.ntmps3
      go_wp2_with (first
        | (with_reducible refine box_row (o := ⟨some 2, _, _, _, _, _⟩) rfl _ _ rfl C rfl ?_; intro w1 hr1 hb1 hz1; have E1 := Lib.hid hr1; have B1 := Lib.hid hb1; clear hr1 hb1 hz1)
        | (with_reducible refine box_row (o := ⟨some 3, _, _, _, _, _⟩) rfl _ _ rfl D rfl ?_; intro w2 hr1 hb1 hz1; have N2 := Lib.hid hr1; have E2 := Lib.hid (E1.out.below hb1 E1.out.lt); have B2 := Lib.hid (B1.out.trans (hb1.mono B1.out.size)); clear hr1 hb1 hz1)
        | ((with_reducible refine load_row (o := ⟨some 6, _, _, _, _, _⟩) rfl _ _ rfl w.heap.size ?_ _ C _ E2.out Try.underlying25 rfl ?_ ?_); (focus go_simp); (focus (exact HZ.out)))
        | (go_at_call 5; (with_reducible refine (HF1.out w2 B2.out).mono ?_); rintro x w2a ⟨rfl, hb⟩; have EA := Lib.hid (E2.out.below hb E2.out.lt); have NA := Lib.hid (N2.out.below hb N2.out.lt); have BA := Lib.hid (B2.out.trans (hb.mono B2.out.size)); clear hb)
        | (go_at_call 6; (with_reducible refine (HAW.out w2a).mono ?_); rintro x wz ⟨rfl, hb⟩; have Bz := Lib.hid (BA.out.trans (hb.mono BA.out.size)); clear hb))
      go_ret
      exact ⟨rfl, Bz.out⟩
    · go_enter Try.func3, Try.ntmps3
      go_wp2_with (first
        | (with_reducible refine box_row (o := ⟨some 2, _, _, _, _, _⟩) rfl _ _ rfl C rfl ?_; intro w1 hr1 hb1 hz1; have E1 := Lib.hid hr1; have B1 := Lib.hid hb1; clear hr1 hb1 hz1)
        | (with_reducible refine box_row (o := ⟨some 3, _, _, _, _, _⟩) rfl _ _ rfl D rfl ?_; intro w2 hr1 hb1 hz1; have N2 := Lib.hid hr1; have E2 := Lib.hid (E1.out.below hb1 E1.out.lt); have B2 := Lib.hid (B1.out.trans (hb1.mono B1.out.size)); clear hr1 hb1 hz1)
        | ((with_reducible refine load_row (o := ⟨some 6, _, _, _, _, _⟩) rfl _ _ rfl w.heap.size ?_ _ C _ E2.out Try.underlying25 rfl ?_ ?_); (focus go_simp); (focus (exact HZ.out)))
        | (go_at_call 5; (with_reducible refine (HF1.out w2 B2.out).mono ?_); rintro x w2a ⟨rfl, hb⟩; have EA := Lib.hid (E2.out.below hb E2.out.lt); have NA := Lib.hid (N2.out.below hb N2.out.lt); have BA := Lib.hid (B2.out.trans (hb.mono B2.out.size)); clear hb)
        | ((with_reducible refine load_rowg (o := ⟨some 10, _, _, _, _, _⟩) 3 false 9 rfl _ _ rfl w1.heap.size _ D _ NA.out Try.underlying25 rfl ?_ ?_ ?_ ?_ ?_); (focus rfl); (focus go_simp); (focus go_simp); (focus (exact HY.out)))
        | (go_at_call 5; (with_reducible refine (HF2.out w2a BA.out).mono ?_); rintro x w3 ⟨rfl, hb⟩; have EM := Lib.hid (EA.out.below hb EA.out.lt); have EN := Lib.hid (NA.out.below hb NA.out.lt); have B3 := Lib.hid (BA.out.trans (hb.mono BA.out.size)); clear hb)
        | (go_at_call 6; (with_reducible refine (HAW.out w3).mono ?_); rintro x wz ⟨rfl, hb⟩; have Bz := Lib.hid (B3.out.trans (hb.mono B3.out.size)); clear hb))
      go_ret
      exact ⟨rfl, Bz.out⟩
  obtain rfl : fv = true := by cases fv with | true => rfl | false => exact absurd (.inl rfl) hbig
  obtain rfl : gv = true := by cases gv with | true => rfl | false => exact absurd (.inr ⟨rfl, rfl⟩) hbig
  clear hbig
  obtain ⟨X, hX⟩ : ∃ X : Mt, (m, d, L) = X := ⟨_, rfl⟩
  obtain ⟨Y, hY⟩ : ∃ Y : Mt, (n, d', L') = Y := ⟨_, rfl⟩
  have he1 : m.en ≤ 1000000 := by have := (fewMV_spec hfv).2.2.1; have := hm.es.hlen; omega
  have he2 : n.en ≤ 1000000 := by have := (fewMV_spec hgv).2.2.1; have := hn.es.hlen; omega
  have HFX : Hid (∀ w', Below w.heap.size w w' → MsF w' X.1 X.2.1 X.2.2) := Lib.hid (fun w' h => by rw [← hX]; exact hm.mono h)
  have HFY : Hid (∀ w', Below w.heap.size w w' → MsF w' Y.1 Y.2.1 Y.2.2) := Lib.hid (fun w' h => by rw [← hY]; exact hn.mono h)
  have HEX : Hid (X.1.en ≤ 1000000) := Lib.hid (by rw [← hX]; exact he1)
  have HEY : Hid (Y.1.en ≤ 1000000) := Lib.hid (by rw [← hY]; exact he2)
  obtain ⟨V, hV⟩ : ∃ V : Bool, (V = true ↔ sameL [X, Y] [Y, X]) := by
    classical
    exact ⟨decide (sameL [X, Y] [Y, X]), by simp⟩
  have HA1 : Hid (∀ w' b1 b2, Mss w' (some ⟨b1, 0, none⟩) 2 [X, Y] → Mss w' (some ⟨b2, 0, none⟩) 2 [Y, X] → Calls Try.prog 11 #[.slice (some ⟨b1, 0, none⟩) 2 2, .slice (some ⟨b2, 0, none⟩) 2 2] w' fun x w2 => x = .returned (.bool V) ∧ Below w'.heap.size w' w2) := Lib.hid (fun w' b1 b2 h1 h2 => hA _ _ _ _ _ _ _ _ w' h1 h2 V hV)
  have HA2 : Hid (∀ w' b1 b2, Mss w' (some ⟨b1, 0, none⟩) 2 [X, Y] → Mss w' (some ⟨b2, 0, none⟩) 2 [Y, X] → Calls Try.prog 12 #[.slice (some ⟨b1, 0, none⟩) 2 2, .slice (some ⟨b2, 0, none⟩) 2 2] w' fun x w2 => x = .returned (.bool V) ∧ Below w'.heap.size w' w2) := Lib.hid (fun w' b1 b2 h1 h2 => vsameAll _ _ _ _ _ _ _ _ w' h1 h2 V hV)
  have HA3 : Hid (∀ w' b1, Mss w' (some ⟨b1, 0, none⟩) 1 [X] → Calls Try.prog 11 #[.slice (some ⟨b1, 0, none⟩) 1 1, .slice none 0 0] w' fun x w2 => x = .returned (.bool false) ∧ Below w'.heap.size w' w2) := Lib.hid (fun w' b1 h1 => hA _ _ _ _ _ _ _ [] w' h1 ⟨rfl, by decide, by simp, .inl rfl⟩ false (by simp [sameL]))
  obtain ⟨ck, hck⟩ : ∃ c, (m.pl d L).chk = c := ⟨_, rfl⟩
  obtain ⟨sm, hsm⟩ : ∃ c, (m.pl d L).same (n.pl d' L') = c := ⟨_, rfl⟩
  have HC1 : Hid (∀ w', Below w.heap.size w w' → Calls Try.prog 7 #[.agg m.cells.toArray] w' fun x w2 => x = .returned (.int .i64 ck) ∧ Below w'.heap.size w' w2) := Lib.hid (fun w' h => by rw [← hck]; exact hC m d L w' (hm.mono h) hfv)
  have HC2 : Hid (∀ w', Below w.heap.size w w' → Calls Try.prog 8 #[.agg m.cells.toArray] w' fun x w2 => x = .returned (.int .i64 ck) ∧ Below w'.heap.size w' w2) := Lib.hid (fun w' h => by rw [← hck]; exact vcheck m d L w' (hm.mono h))
  have HS1 : Hid (∀ w', Below w.heap.size w w' → Calls Try.prog 9 #[.agg m.cells.toArray, .agg n.cells.toArray] w' fun x w2 => x = .returned (.bool sm) ∧ Below w'.heap.size w' w2) := Lib.hid (fun w' h => by rw [← hsm]; exact hS m n d d' L L' w' (hm.mono h) (hn.mono h) he1 he2)
  have HS2 : Hid (∀ w', Below w.heap.size w w' → Calls Try.prog 10 #[.agg m.cells.toArray, .agg n.cells.toArray] w' fun x w2 => x = .returned (.bool sm) ∧ Below w'.heap.size w' w2) := Lib.hid (fun w' h => by rw [← hsm]; exact vsame m n d d' L L' w' (hm.mono h) (hn.mono h) he1)
  have HS3 : Hid (∀ w', Below w.heap.size w w' → Calls Try.prog 9 #[.agg m.cells.toArray, .agg m.cells.toArray] w' fun x w2 => x = .returned (.bool true) ∧ Below w'.heap.size w' w2) := Lib.hid (fun w' h => by have := hS m m d d L L w' (hm.mono h) (hm.mono h) he1 he1; rw [MF.same_self] at this; exact this)
  obtain ⟨C, hC1⟩ : ∃ C, m.cells = C := ⟨_, rfl⟩
  obtain ⟨D, hD1⟩ : ∃ D, n.cells = D := ⟨_, rfl⟩
  rw [hC1] at HZ0 HF1 HC1 HC2 HS1 HS2 HS3 ⊢
  rw [hD1] at HY0 HF2 HS1 HS2 ⊢
  have hCx : X.1.cells = C := by rw [← hX]; exact hC1
  have hDx : Y.1.cells = D := by rw [← hY]; exact hD1
  have HZ := HZ0
  have HY := HY0
  clear HZ0 HY0 hm hn hfv hgv hC1 hD1 hE hC hS hA hck hsm hV he1 he2 hX hY
  go_enter Try.func3, Try.ntmps3
  go_wp2_with (first
    | (with_reducible refine box_row (o := ⟨some 2, _, _, _, _, _⟩) rfl _ _ rfl C rfl ?_; intro w1 hr1 hb1 hz1; have E1 := Lib.hid hr1; have B1 := Lib.hid hb1; clear hr1 hb1 hz1)
    | (with_reducible refine box_row (o := ⟨some 3, _, _, _, _, _⟩) rfl _ _ rfl D rfl ?_; intro w2 hr1 hb1 hz1; have N2 := Lib.hid hr1; have E2 := Lib.hid (E1.out.below hb1 E1.out.lt); have B2 := Lib.hid (B1.out.trans (hb1.mono B1.out.size)); clear hr1 hb1 hz1)
    | ((with_reducible refine load_row (o := ⟨some 6, _, _, _, _, _⟩) rfl _ _ rfl w.heap.size ?_ _ C _ E2.out Try.underlying25 rfl ?_ ?_); (focus go_simp); (focus (exact HZ.out)))
    | (go_at_call 5; (with_reducible refine (HF1.out w2 B2.out).mono ?_); rintro x w2a ⟨rfl, hb⟩; have EA := Lib.hid (E2.out.below hb E2.out.lt); have NA := Lib.hid (N2.out.below hb N2.out.lt); have BA := Lib.hid (B2.out.trans (hb.mono B2.out.size)); clear hb)
    | ((with_reducible refine load_rowg (o := ⟨some 10, _, _, _, _, _⟩) 3 false 9 rfl _ _ rfl w1.heap.size _ D _ NA.out Try.underlying25 rfl ?_ ?_ ?_ ?_ ?_); (focus rfl); (focus go_simp); (focus go_simp); (focus (exact HY.out)))
    | (go_at_call 5; (with_reducible refine (HF2.out w2a BA.out).mono ?_); rintro x w3 ⟨rfl, hb⟩; have EM := Lib.hid (EA.out.below hb EA.out.lt); have EN := Lib.hid (NA.out.below hb NA.out.lt); have B3 := Lib.hid (BA.out.trans (hb.mono BA.out.size)); clear hb))
  have HBW : Hid (∀ w', Below w3.drew.heap.size w3.drew w' → Below w.heap.size w w') := Lib.hid (fun w' h => (B3.out.drew).trans (h.mono B3.out.size))
  clear E1 E2 N2 EA NA B1 B2 BA HF1 HF2
  obtain ⟨Rl, hRl⟩ : ∃ Rl : List (Value → World → Prop), Rl = [(fun v _ => v = (.agg C.toArray : Value)), (fun v _ => v = (.int .i64 ck : Value)), (fun v _ => v = (.agg C.toArray : Value)), (fun v _ => v = (.int .i64 ck : Value)), (fun v _ => v = (.bool true : Value)), (fun v _ => v = (.bool true : Value)), (fun v _ => v = (.agg C.toArray : Value)), (fun v _ => v = (.agg D.toArray : Value)), (fun v _ => v = (.bool sm : Value)), (fun v _ => v = (.agg C.toArray : Value)), (fun v _ => v = (.agg D.toArray : Value)), (fun v _ => v = (.bool sm : Value)), (fun v _ => v = (.bool true : Value)), (fun v _ => v = (.bool true : Value)), (fun v _ => v = (.bool true : Value)), (fun v _ => v = (.agg C.toArray : Value)), (fun v _ => v = (.agg C.toArray : Value)), (fun v _ => v = (.bool true : Value)), (fun v _ => v = (.bool true : Value)), (fun v _ => v = (.bool true : Value))] := ⟨_, rfl⟩
  have hmono : MonoL Rl := by rw [hRl]; exact ⟨fun _ _ _ h _ => h, ⟨fun _ _ _ h _ => h, ⟨fun _ _ _ h _ => h, ⟨fun _ _ _ h _ => h, ⟨fun _ _ _ h _ => h, ⟨fun _ _ _ h _ => h, ⟨fun _ _ _ h _ => h, ⟨fun _ _ _ h _ => h, ⟨fun _ _ _ h _ => h, ⟨fun _ _ _ h _ => h, ⟨fun _ _ _ h _ => h, ⟨fun _ _ _ h _ => h, ⟨fun _ _ _ h _ => h, ⟨fun _ _ _ h _ => h, ⟨fun _ _ _ h _ => h, ⟨fun _ _ _ h _ => h, ⟨fun _ _ _ h _ => h, ⟨fun _ _ _ h _ => h, ⟨fun _ _ _ h _ => h, ⟨fun _ _ _ h _ => h, trivial⟩⟩⟩⟩⟩⟩⟩⟩⟩⟩⟩⟩⟩⟩⟩⟩⟩⟩⟩⟩
  refine region_facts (by kernel_rfl) (by kernel_rfl) [15, 16, 17, 18, 19, 20, 21, 22, 23, 24, 25, 26, 27, 28, 29, 30, 31, 32, 33, 5] rfl (by decide) (by simp) (fun i v w => (Rl.getD i (fun _ _ => True)) v w) (fun i v w1 w2 h hb => monoL_get hmono i v w1 w2 h hb) ?_ ?_
  · intro i o ho vs b w' hI K hK
    have hil := (List.getElem?_eq_some_iff.1 ho).1
    have hil : i < 20 := hil
    rcases (show i = 0 ∨ i = 1 ∨ i = 2 ∨ i = 3 ∨ i = 4 ∨ i = 5 ∨ i = 6 ∨ i = 7 ∨ i = 8 ∨ i = 9 ∨ i = 10 ∨ i = 11 ∨ i = 12 ∨ i = 13 ∨ i = 14 ∨ i = 15 ∨ i = 16 ∨ i = 17 ∨ i = 18 ∨ i = 19 by omega) with rfl | rfl | rfl | rfl | rfl | rfl | rfl | rfl | rfl | rfl | rfl | rfl | rfl | rfl | rfl | rfl | rfl | rfl | rfl | rfl
    · injection ho with ho
      subst ho
      subst hRl
      obtain ⟨ρ, hρ⟩ : ∃ ρ, b.eval = ρ := ⟨_, rfl⟩
      have hc : ∀ v, ρ (.const v) = v := fun v => by rw [← hρ]; rfl
      have e2 : ρ (.tmp 2) = (.pointer (some ⟨w.heap.size, 0, none⟩) : Value) := by rw [← hρ]; exact (hI.old 2 (by decide)).trans (by go_simp)
      refine rf_val (by rfl) (.agg C.toArray) (by rw [hρ]; rw [← hρ]; exact lg_all 25 (.tmp 2) rfl w.heap.size (by rw [hρ]; exact e2) 25 C _ ((show Row w3.drew w.heap.size 25 C from EM.out).below hI.bel EM.out.lt) Try.underlying25 rfl HZ.out) ?_
      exact hK _ _ (Below.refl _ _) rfl
    · injection ho with ho
      subst ho
      subst hRl
      obtain ⟨ρ, hρ⟩ : ∃ ρ, b.eval = ρ := ⟨_, rfl⟩
      have hc : ∀ v, ρ (.const v) = v := fun v => by rw [← hρ]; rfl
      have e15 : ρ (.tmp 15) = (.agg C.toArray : Value) := by rw [← hρ]; exact (hI.dep 0 (by kernel_rfl) (by decide)).1.trans (hI.dep 0 (by kernel_rfl) (by decide)).2
      refine rf_call (by rfl) 7 #[.agg C.toArray] (ex_call b _ _ _ _ rfl _ (by rw [hρ]; simp [e15, hc]) (by rfl)) (.int .i64 ck) (HC1.out w' (HBW.out w' hI.bel)) ?_
      intro w2 hb2
      exact hK _ _ hb2 rfl
    · injection ho with ho
      subst ho
      subst hRl
      obtain ⟨ρ, hρ⟩ : ∃ ρ, b.eval = ρ := ⟨_, rfl⟩
      have hc : ∀ v, ρ (.const v) = v := fun v => by rw [← hρ]; rfl
      have e2 : ρ (.tmp 2) = (.pointer (some ⟨w.heap.size, 0, none⟩) : Value) := by rw [← hρ]; exact (hI.old 2 (by decide)).trans (by go_simp)
      refine rf_val (by rfl) (.agg C.toArray) (by rw [hρ]; rw [← hρ]; exact lg_all 25 (.tmp 2) rfl w.heap.size (by rw [hρ]; exact e2) 25 C _ ((show Row w3.drew w.heap.size 25 C from EM.out).below hI.bel EM.out.lt) Try.underlying25 rfl HZ.out) ?_
      exact hK _ _ (Below.refl _ _) rfl
    · injection ho with ho
      subst ho
      subst hRl
      obtain ⟨ρ, hρ⟩ : ∃ ρ, b.eval = ρ := ⟨_, rfl⟩
      have hc : ∀ v, ρ (.const v) = v := fun v => by rw [← hρ]; rfl
      have e17 : ρ (.tmp 17) = (.agg C.toArray : Value) := by rw [← hρ]; exact (hI.dep 2 (by kernel_rfl) (by decide)).1.trans (hI.dep 2 (by kernel_rfl) (by decide)).2
      refine rf_call (by rfl) 8 #[.agg C.toArray] (ex_call b _ _ _ _ rfl _ (by rw [hρ]; simp [e17, hc]) (by rfl)) (.int .i64 ck) (HC2.out w' (HBW.out w' hI.bel)) ?_
      intro w2 hb2
      exact hK _ _ hb2 rfl
    · injection ho with ho
      subst ho
      subst hRl
      obtain ⟨ρ, hρ⟩ : ∃ ρ, b.eval = ρ := ⟨_, rfl⟩
      have hc : ∀ v, ρ (.const v) = v := fun v => by rw [← hρ]; rfl
      have e16 : ρ (.tmp 16) = (.int .i64 ck : Value) := by rw [← hρ]; exact (hI.dep 1 (by kernel_rfl) (by decide)).1.trans (hI.dep 1 (by kernel_rfl) (by decide)).2
      have e18 : ρ (.tmp 18) = (.int .i64 ck : Value) := by rw [← hρ]; exact (hI.dep 3 (by kernel_rfl) (by decide)).1.trans (hI.dep 3 (by kernel_rfl) (by decide)).2
      refine rf_val (by rfl) (.bool true) (by rw [hρ]; simp only [execOp]; simp only [e16, e18, hc]; go_simp) ?_
      exact hK _ _ (Below.refl _ _) rfl
    · injection ho with ho
      subst ho
      subst hRl
      obtain ⟨ρ, hρ⟩ : ∃ ρ, b.eval = ρ := ⟨_, rfl⟩
      have hc : ∀ v, ρ (.const v) = v := fun v => by rw [← hρ]; rfl
      have e19 : ρ (.tmp 19) = (.bool true : Value) := by rw [← hρ]; exact (hI.dep 4 (by kernel_rfl) (by decide)).1.trans (hI.dep 4 (by kernel_rfl) (by decide)).2
      refine rf_val (by rfl) (.bool true) (by rw [hρ]; simp only [execOp]; simp only [e19, hc]; rfl) ?_
      exact hK _ _ (Below.refl _ _) rfl
    · injection ho with ho
      subst ho
      subst hRl
      obtain ⟨ρ, hρ⟩ : ∃ ρ, b.eval = ρ := ⟨_, rfl⟩
      have hc : ∀ v, ρ (.const v) = v := fun v => by rw [← hρ]; rfl
      have e2 : ρ (.tmp 2) = (.pointer (some ⟨w.heap.size, 0, none⟩) : Value) := by rw [← hρ]; exact (hI.old 2 (by decide)).trans (by go_simp)
      have e20 : ρ (.tmp 20) = (.bool true : Value) := by rw [← hρ]; exact (hI.dep 5 (by kernel_rfl) (by decide)).1.trans (hI.dep 5 (by kernel_rfl) (by decide)).2
      refine rf_val (lg_wanted 5 true 20 rfl rfl (by rw [hρ]; exact e20)) (.agg C.toArray) (by rw [hρ]; rw [← hρ]; exact lg_all 25 (.tmp 2) rfl w.heap.size (by rw [hρ]; exact e2) 25 C _ ((show Row w3.drew w.heap.size 25 C from EM.out).below hI.bel EM.out.lt) Try.underlying25 rfl HZ.out) ?_
      exact hK _ _ (Below.refl _ _) rfl
    · injection ho with ho
      subst ho
      subst hRl
      obtain ⟨ρ, hρ⟩ : ∃ ρ, b.eval = ρ := ⟨_, rfl⟩
      have hc : ∀ v, ρ (.const v) = v := fun v => by rw [← hρ]; rfl
      have e3 : ρ (.tmp 3) = (.pointer (some ⟨w1.heap.size, 0, none⟩) : Value) := by rw [← hρ]; exact (hI.old 3 (by decide)).trans (by go_simp)
      have e20 : ρ (.tmp 20) = (.bool true : Value) := by rw [← hρ]; exact (hI.dep 5 (by kernel_rfl) (by decide)).1.trans (hI.dep 5 (by kernel_rfl) (by decide)).2
      refine rf_val (lg_wanted 5 true 20 rfl rfl (by rw [hρ]; exact e20)) (.agg D.toArray) (by rw [hρ]; rw [← hρ]; exact lg_all 25 (.tmp 3) rfl w1.heap.size (by rw [hρ]; exact e3) 25 D _ ((show Row w3.drew w1.heap.size 25 D from EN.out).below hI.bel EN.out.lt) Try.underlying25 rfl HY.out) ?_
      exact hK _ _ (Below.refl _ _) rfl
    · injection ho with ho
      subst ho
      subst hRl
      obtain ⟨ρ, hρ⟩ : ∃ ρ, b.eval = ρ := ⟨_, rfl⟩
      have hc : ∀ v, ρ (.const v) = v := fun v => by rw [← hρ]; rfl
      have e20 : ρ (.tmp 20) = (.bool true : Value) := by rw [← hρ]; exact (hI.dep 5 (by kernel_rfl) (by decide)).1.trans (hI.dep 5 (by kernel_rfl) (by decide)).2
      have e21 : ρ (.tmp 21) = (.agg C.toArray : Value) := by rw [← hρ]; exact (hI.dep 6 (by kernel_rfl) (by decide)).1.trans (hI.dep 6 (by kernel_rfl) (by decide)).2
      have e22 : ρ (.tmp 22) = (.agg D.toArray : Value) := by rw [← hρ]; exact (hI.dep 7 (by kernel_rfl) (by decide)).1.trans (hI.dep 7 (by kernel_rfl) (by decide)).2
      refine rf_call (lg_wanted 5 true 20 rfl rfl (by rw [hρ]; exact e20)) 9 #[.agg C.toArray, .agg D.toArray] (ex_call b _ _ _ _ rfl _ (by rw [hρ]; simp [e20, e21, e22, hc]) (by rfl)) (.bool sm) (HS1.out w' (HBW.out w' hI.bel)) ?_
      intro w2 hb2
      exact hK _ _ hb2 rfl
    · injection ho with ho
      subst ho
      subst hRl
      obtain ⟨ρ, hρ⟩ : ∃ ρ, b.eval = ρ := ⟨_, rfl⟩
      have hc : ∀ v, ρ (.const v) = v := fun v => by rw [← hρ]; rfl
      have e2 : ρ (.tmp 2) = (.pointer (some ⟨w.heap.size, 0, none⟩) : Value) := by rw [← hρ]; exact (hI.old 2 (by decide)).trans (by go_simp)
      have e20 : ρ (.tmp 20) = (.bool true : Value) := by rw [← hρ]; exact (hI.dep 5 (by kernel_rfl) (by decide)).1.trans (hI.dep 5 (by kernel_rfl) (by decide)).2
      refine rf_val (lg_wanted 5 true 20 rfl rfl (by rw [hρ]; exact e20)) (.agg C.toArray) (by rw [hρ]; rw [← hρ]; exact lg_all 25 (.tmp 2) rfl w.heap.size (by rw [hρ]; exact e2) 25 C _ ((show Row w3.drew w.heap.size 25 C from EM.out).below hI.bel EM.out.lt) Try.underlying25 rfl HZ.out) ?_
      exact hK _ _ (Below.refl _ _) rfl
    · injection ho with ho
      subst ho
      subst hRl
      obtain ⟨ρ, hρ⟩ : ∃ ρ, b.eval = ρ := ⟨_, rfl⟩
      have hc : ∀ v, ρ (.const v) = v := fun v => by rw [← hρ]; rfl
      have e3 : ρ (.tmp 3) = (.pointer (some ⟨w1.heap.size, 0, none⟩) : Value) := by rw [← hρ]; exact (hI.old 3 (by decide)).trans (by go_simp)
      have e20 : ρ (.tmp 20) = (.bool true : Value) := by rw [← hρ]; exact (hI.dep 5 (by kernel_rfl) (by decide)).1.trans (hI.dep 5 (by kernel_rfl) (by decide)).2
      refine rf_val (lg_wanted 5 true 20 rfl rfl (by rw [hρ]; exact e20)) (.agg D.toArray) (by rw [hρ]; rw [← hρ]; exact lg_all 25 (.tmp 3) rfl w1.heap.size (by rw [hρ]; exact e3) 25 D _ ((show Row w3.drew w1.heap.size 25 D from EN.out).below hI.bel EN.out.lt) Try.underlying25 rfl HY.out) ?_
      exact hK _ _ (Below.refl _ _) rfl
    · injection ho with ho
      subst ho
      subst hRl
      obtain ⟨ρ, hρ⟩ : ∃ ρ, b.eval = ρ := ⟨_, rfl⟩
      have hc : ∀ v, ρ (.const v) = v := fun v => by rw [← hρ]; rfl
      have e20 : ρ (.tmp 20) = (.bool true : Value) := by rw [← hρ]; exact (hI.dep 5 (by kernel_rfl) (by decide)).1.trans (hI.dep 5 (by kernel_rfl) (by decide)).2
      have e24 : ρ (.tmp 24) = (.agg C.toArray : Value) := by rw [← hρ]; exact (hI.dep 9 (by kernel_rfl) (by decide)).1.trans (hI.dep 9 (by kernel_rfl) (by decide)).2
      have e25 : ρ (.tmp 25) = (.agg D.toArray : Value) := by rw [← hρ]; exact (hI.dep 10 (by kernel_rfl) (by decide)).1.trans (hI.dep 10 (by kernel_rfl) (by decide)).2
      refine rf_call (lg_wanted 5 true 20 rfl rfl (by rw [hρ]; exact e20)) 10 #[.agg C.toArray, .agg D.toArray] (ex_call b _ _ _ _ rfl _ (by rw [hρ]; simp [e20, e24, e25, hc]) (by rfl)) (.bool sm) (HS2.out w' (HBW.out w' hI.bel)) ?_
      intro w2 hb2
      exact hK _ _ hb2 rfl
    · injection ho with ho
      subst ho
      subst hRl
      obtain ⟨ρ, hρ⟩ : ∃ ρ, b.eval = ρ := ⟨_, rfl⟩
      have hc : ∀ v, ρ (.const v) = v := fun v => by rw [← hρ]; rfl
      have e20 : ρ (.tmp 20) = (.bool true : Value) := by rw [← hρ]; exact (hI.dep 5 (by kernel_rfl) (by decide)).1.trans (hI.dep 5 (by kernel_rfl) (by decide)).2
      have e23 : ρ (.tmp 23) = (.bool sm : Value) := by rw [← hρ]; exact (hI.dep 8 (by kernel_rfl) (by decide)).1.trans (hI.dep 8 (by kernel_rfl) (by decide)).2
      have e26 : ρ (.tmp 26) = (.bool sm : Value) := by rw [← hρ]; exact (hI.dep 11 (by kernel_rfl) (by decide)).1.trans (hI.dep 11 (by kernel_rfl) (by decide)).2
      refine rf_val (lg_wanted 5 true 20 rfl rfl (by rw [hρ]; exact e20)) (.bool true) (by rw [hρ]; simp only [execOp]; simp only [e20, e23, e26, hc]; go_simp) ?_
      exact hK _ _ (Below.refl _ _) rfl
    · injection ho with ho
      subst ho
      subst hRl
      obtain ⟨ρ, hρ⟩ : ∃ ρ, b.eval = ρ := ⟨_, rfl⟩
      have hc : ∀ v, ρ (.const v) = v := fun v => by rw [← hρ]; rfl
      have e20 : ρ (.tmp 20) = (.bool true : Value) := by rw [← hρ]; exact (hI.dep 5 (by kernel_rfl) (by decide)).1.trans (hI.dep 5 (by kernel_rfl) (by decide)).2
      have e27 : ρ (.tmp 27) = (.bool true : Value) := by rw [← hρ]; exact (hI.dep 12 (by kernel_rfl) (by decide)).1.trans (hI.dep 12 (by kernel_rfl) (by decide)).2
      refine rf_val (by rfl) (.bool true) (by rw [hρ]; simp only [execOp]; simp only [e20, e27, hc]; go_simp) ?_
      exact hK _ _ (Below.refl _ _) rfl
    · injection ho with ho
      subst ho
      subst hRl
      obtain ⟨ρ, hρ⟩ : ∃ ρ, b.eval = ρ := ⟨_, rfl⟩
      have hc : ∀ v, ρ (.const v) = v := fun v => by rw [← hρ]; rfl
      have e28 : ρ (.tmp 28) = (.bool true : Value) := by rw [← hρ]; exact (hI.dep 13 (by kernel_rfl) (by decide)).1.trans (hI.dep 13 (by kernel_rfl) (by decide)).2
      refine rf_val (by rfl) (.bool true) (by rw [hρ]; simp only [execOp]; simp only [e28, hc]; rfl) ?_
      exact hK _ _ (Below.refl _ _) rfl
    · injection ho with ho
      subst ho
      subst hRl
      obtain ⟨ρ, hρ⟩ : ∃ ρ, b.eval = ρ := ⟨_, rfl⟩
      have hc : ∀ v, ρ (.const v) = v := fun v => by rw [← hρ]; rfl
      have e2 : ρ (.tmp 2) = (.pointer (some ⟨w.heap.size, 0, none⟩) : Value) := by rw [← hρ]; exact (hI.old 2 (by decide)).trans (by go_simp)
      have e29 : ρ (.tmp 29) = (.bool true : Value) := by rw [← hρ]; exact (hI.dep 14 (by kernel_rfl) (by decide)).1.trans (hI.dep 14 (by kernel_rfl) (by decide)).2
      refine rf_val (lg_wanted 14 true 29 rfl rfl (by rw [hρ]; exact e29)) (.agg C.toArray) (by rw [hρ]; rw [← hρ]; exact lg_all 25 (.tmp 2) rfl w.heap.size (by rw [hρ]; exact e2) 25 C _ ((show Row w3.drew w.heap.size 25 C from EM.out).below hI.bel EM.out.lt) Try.underlying25 rfl HZ.out) ?_
      exact hK _ _ (Below.refl _ _) rfl
    · injection ho with ho
      subst ho
      subst hRl
      obtain ⟨ρ, hρ⟩ : ∃ ρ, b.eval = ρ := ⟨_, rfl⟩
      have hc : ∀ v, ρ (.const v) = v := fun v => by rw [← hρ]; rfl
      have e2 : ρ (.tmp 2) = (.pointer (some ⟨w.heap.size, 0, none⟩) : Value) := by rw [← hρ]; exact (hI.old 2 (by decide)).trans (by go_simp)
      have e29 : ρ (.tmp 29) = (.bool true : Value) := by rw [← hρ]; exact (hI.dep 14 (by kernel_rfl) (by decide)).1.trans (hI.dep 14 (by kernel_rfl) (by decide)).2
      refine rf_val (lg_wanted 14 true 29 rfl rfl (by rw [hρ]; exact e29)) (.agg C.toArray) (by rw [hρ]; rw [← hρ]; exact lg_all 25 (.tmp 2) rfl w.heap.size (by rw [hρ]; exact e2) 25 C _ ((show Row w3.drew w.heap.size 25 C from EM.out).below hI.bel EM.out.lt) Try.underlying25 rfl HZ.out) ?_
      exact hK _ _ (Below.refl _ _) rfl
    · injection ho with ho
      subst ho
      subst hRl
      obtain ⟨ρ, hρ⟩ : ∃ ρ, b.eval = ρ := ⟨_, rfl⟩
      have hc : ∀ v, ρ (.const v) = v := fun v => by rw [← hρ]; rfl
      have e29 : ρ (.tmp 29) = (.bool true : Value) := by rw [← hρ]; exact (hI.dep 14 (by kernel_rfl) (by decide)).1.trans (hI.dep 14 (by kernel_rfl) (by decide)).2
      have e30 : ρ (.tmp 30) = (.agg C.toArray : Value) := by rw [← hρ]; exact (hI.dep 15 (by kernel_rfl) (by decide)).1.trans (hI.dep 15 (by kernel_rfl) (by decide)).2
      have e31 : ρ (.tmp 31) = (.agg C.toArray : Value) := by rw [← hρ]; exact (hI.dep 16 (by kernel_rfl) (by decide)).1.trans (hI.dep 16 (by kernel_rfl) (by decide)).2
      refine rf_call (lg_wanted 14 true 29 rfl rfl (by rw [hρ]; exact e29)) 9 #[.agg C.toArray, .agg C.toArray] (ex_call b _ _ _ _ rfl _ (by rw [hρ]; simp [e29, e30, e31, hc]) (by rfl)) (.bool true) (HS3.out w' (HBW.out w' hI.bel)) ?_
      intro w2 hb2
      exact hK _ _ hb2 rfl
    · injection ho with ho
      subst ho
      subst hRl
      obtain ⟨ρ, hρ⟩ : ∃ ρ, b.eval = ρ := ⟨_, rfl⟩
      have hc : ∀ v, ρ (.const v) = v := fun v => by rw [← hρ]; rfl
      have e29 : ρ (.tmp 29) = (.bool true : Value) := by rw [← hρ]; exact (hI.dep 14 (by kernel_rfl) (by decide)).1.trans (hI.dep 14 (by kernel_rfl) (by decide)).2
      have e32 : ρ (.tmp 32) = (.bool true : Value) := by rw [← hρ]; exact (hI.dep 17 (by kernel_rfl) (by decide)).1.trans (hI.dep 17 (by kernel_rfl) (by decide)).2
      refine rf_val (by rfl) (.bool true) (by rw [hρ]; simp only [execOp]; simp only [e29, e32, hc]; go_simp) ?_
      exact hK _ _ (Below.refl _ _) rfl
    · injection ho with ho
      subst ho
      subst hRl
      obtain ⟨ρ, hρ⟩ : ∃ ρ, b.eval = ρ := ⟨_, rfl⟩
      have hc : ∀ v, ρ (.const v) = v := fun v => by rw [← hρ]; rfl
      have e33 : ρ (.tmp 33) = (.bool true : Value) := by rw [← hρ]; exact (hI.dep 18 (by kernel_rfl) (by decide)).1.trans (hI.dep 18 (by kernel_rfl) (by decide)).2
      refine rf_val (by rfl) (.bool true) (by rw [hρ]; simp only [execOp]; simp only [e33, hc]; rfl) ?_
      exact hK _ _ (Below.refl _ _) rfl
  · intro vs w6 hb6 hall
    subst hRl
    have f0 : vs 0 = (.agg C.toArray : Value) := hall 0 (by decide)
    have f1 : vs 1 = (.int .i64 ck : Value) := hall 1 (by decide)
    have f2 : vs 2 = (.agg C.toArray : Value) := hall 2 (by decide)
    have f3 : vs 3 = (.int .i64 ck : Value) := hall 3 (by decide)
    have f4 : vs 4 = (.bool true : Value) := hall 4 (by decide)
    have f5 : vs 5 = (.bool true : Value) := hall 5 (by decide)
    have f6 : vs 6 = (.agg C.toArray : Value) := hall 6 (by decide)
    have f7 : vs 7 = (.agg D.toArray : Value) := hall 7 (by decide)
    have f8 : vs 8 = (.bool sm : Value) := hall 8 (by decide)
    have f9 : vs 9 = (.agg C.toArray : Value) := hall 9 (by decide)
    have f10 : vs 10 = (.agg D.toArray : Value) := hall 10 (by decide)
    have f11 : vs 11 = (.bool sm : Value) := hall 11 (by decide)
    have f12 : vs 12 = (.bool true : Value) := hall 12 (by decide)
    have f13 : vs 13 = (.bool true : Value) := hall 13 (by decide)
    have f14 : vs 14 = (.bool true : Value) := hall 14 (by decide)
    have f15 : vs 15 = (.agg C.toArray : Value) := hall 15 (by decide)
    have f16 : vs 16 = (.agg C.toArray : Value) := hall 16 (by decide)
    have f17 : vs 17 = (.bool true : Value) := hall 17 (by decide)
    have f18 : vs 18 = (.bool true : Value) := hall 18 (by decide)
    have f19 : vs 19 = (.bool true : Value) := hall 19 (by decide)
    clear hall
    dsimp only [rfPut]
    go_simp
    try rw [f19]
    obtain ⟨w4, hw4⟩ : ∃ w4, w6 = w4 := ⟨_, rfl⟩
    rw [hw4] at hb6 ⊢
    clear f0 f1 f2 f3 f4 f5 f6 f7 f8 f9 f10 f11 f12 f13 f14 f15 f16 f17 f18 f19 hw4
    have EM := Lib.hid ((show Row w3.drew w.heap.size 25 C from EM.out).below hb6 EM.out.lt)
    have EN := Lib.hid ((show Row w3.drew w1.heap.size 25 D from EN.out).below hb6 EN.out.lt)
    have B4 := Lib.hid (HBW.out w4 hb6)
    clear HBW
    have HBW : Hid (∀ w', Below w4.drew.heap.size w4.drew w' → Below w.heap.size w w') := Lib.hid (fun w' h => (B4.out.drew).trans (h.mono B4.out.size))
    go_wp2_with fail
    obtain ⟨Rl, hRl⟩ : ∃ Rl : List (Value → World → Prop), Rl = [(fun v _ => v = (.bool true : Value)), (fun v _ => v = (.bool true : Value)), (fun v _ => v = (.agg C.toArray : Value)), (fun v _ => v = (.agg D.toArray : Value)), (fun v w => ∃ b, v = Value.slice (some ⟨b, 0, none⟩) 2 2 ∧ Mss w (some ⟨b, 0, none⟩) 2 [X, Y]), (fun v _ => v = (.agg D.toArray : Value)), (fun v _ => v = (.agg C.toArray : Value)), (fun v w => ∃ b, v = Value.slice (some ⟨b, 0, none⟩) 2 2 ∧ Mss w (some ⟨b, 0, none⟩) 2 [Y, X]), (fun v _ => v = (.bool V : Value)), (fun v _ => v = (.agg C.toArray : Value)), (fun v _ => v = (.agg D.toArray : Value)), (fun v w => ∃ b, v = Value.slice (some ⟨b, 0, none⟩) 2 2 ∧ Mss w (some ⟨b, 0, none⟩) 2 [X, Y]), (fun v _ => v = (.agg D.toArray : Value)), (fun v _ => v = (.agg C.toArray : Value)), (fun v w => ∃ b, v = Value.slice (some ⟨b, 0, none⟩) 2 2 ∧ Mss w (some ⟨b, 0, none⟩) 2 [Y, X]), (fun v _ => v = (.bool V : Value)), (fun v _ => v = (.bool true : Value)), (fun v _ => v = (.bool true : Value)), (fun v _ => v = (.bool true : Value)), (fun v _ => v = (.agg C.toArray : Value)), (fun v w => ∃ b, v = Value.slice (some ⟨b, 0, none⟩) 1 1 ∧ Mss w (some ⟨b, 0, none⟩) 1 [X]), (fun v _ => v = (.bool false : Value)), (fun v _ => v = (.bool true : Value)), (fun v _ => v = (.bool true : Value)), (fun v _ => v = (.bool true : Value)), (fun v _ => v = (.bool true : Value)), (fun v _ => v = (.bool true : Value)), (fun v _ => v = (.bool true : Value))] := ⟨_, rfl⟩
    have hmono : MonoL Rl := by rw [hRl]; exact ⟨fun _ _ _ h _ => h, ⟨fun _ _ _ h _ => h, ⟨fun _ _ _ h _ => h, ⟨fun _ _ _ h _ => h, ⟨(fun v w1 w2 h hb => by obtain ⟨b, h1, h2⟩ := h; exact ⟨b, h1, h2.mono hb⟩), ⟨fun _ _ _ h _ => h, ⟨fun _ _ _ h _ => h, ⟨(fun v w1 w2 h hb => by obtain ⟨b, h1, h2⟩ := h; exact ⟨b, h1, h2.mono hb⟩), ⟨fun _ _ _ h _ => h, ⟨fun _ _ _ h _ => h, ⟨fun _ _ _ h _ => h, ⟨(fun v w1 w2 h hb => by obtain ⟨b, h1, h2⟩ := h; exact ⟨b, h1, h2.mono hb⟩), ⟨fun _ _ _ h _ => h, ⟨fun _ _ _ h _ => h, ⟨(fun v w1 w2 h hb => by obtain ⟨b, h1, h2⟩ := h; exact ⟨b, h1, h2.mono hb⟩), ⟨fun _ _ _ h _ => h, ⟨fun _ _ _ h _ => h, ⟨fun _ _ _ h _ => h, ⟨fun _ _ _ h _ => h, ⟨fun _ _ _ h _ => h, ⟨(fun v w1 w2 h hb => by obtain ⟨b, h1, h2⟩ := h; exact ⟨b, h1, h2.mono hb⟩), ⟨fun _ _ _ h _ => h, ⟨fun _ _ _ h _ => h, ⟨fun _ _ _ h _ => h, ⟨fun _ _ _ h _ => h, ⟨fun _ _ _ h _ => h, ⟨fun _ _ _ h _ => h, ⟨fun _ _ _ h _ => h, trivial⟩⟩⟩⟩⟩⟩⟩⟩⟩⟩⟩⟩⟩⟩⟩⟩⟩⟩⟩⟩⟩⟩⟩⟩⟩⟩⟩⟩
    refine region_facts (by kernel_rfl) (by kernel_rfl) [34, 35, 36, 37, 38, 39, 40, 41, 42, 43, 44, 45, 46, 47, 48, 49, 50, 51, 52, 53, 54, 55, 56, 57, 58, 59, 60, 4] rfl (by decide) (by simp) (fun i v w => (Rl.getD i (fun _ _ => True)) v w) (fun i v w1 w2 h hb => monoL_get hmono i v w1 w2 h hb) ?_ ?_
    · intro i o ho vs b w' hI K hK
      have hil := (List.getElem?_eq_some_iff.1 ho).1
      have hil : i < 28 := hil
      rcases (show i = 0 ∨ i = 1 ∨ i = 2 ∨ i = 3 ∨ i = 4 ∨ i = 5 ∨ i = 6 ∨ i = 7 ∨ i = 8 ∨ i = 9 ∨ i = 10 ∨ i = 11 ∨ i = 12 ∨ i = 13 ∨ i = 14 ∨ i = 15 ∨ i = 16 ∨ i = 17 ∨ i = 18 ∨ i = 19 ∨ i = 20 ∨ i = 21 ∨ i = 22 ∨ i = 23 ∨ i = 24 ∨ i = 25 ∨ i = 26 ∨ i = 27 by omega) with rfl | rfl | rfl | rfl | rfl | rfl | rfl | rfl | rfl | rfl | rfl | rfl | rfl | rfl | rfl | rfl | rfl | rfl | rfl | rfl | rfl | rfl | rfl | rfl | rfl | rfl | rfl | rfl
      · injection ho with ho
        subst ho
        subst hRl
        obtain ⟨ρ, hρ⟩ : ∃ ρ, b.eval = ρ := ⟨_, rfl⟩
        have hc : ∀ v, ρ (.const v) = v := fun v => by rw [← hρ]; rfl
        have e5 : ρ (.tmp 5) = (.bool true : Value) := by rw [← hρ]; exact (hI.old 5 (by decide)).trans (by go_simp)
        refine rf_val (by rfl) (.bool true) (by rw [hρ]; simp only [execOp]; simp only [e5, hc]; rfl) ?_
        exact hK _ _ (Below.refl _ _) rfl
      · injection ho with ho
        subst ho
        subst hRl
        obtain ⟨ρ, hρ⟩ : ∃ ρ, b.eval = ρ := ⟨_, rfl⟩
        have hc : ∀ v, ρ (.const v) = v := fun v => by rw [← hρ]; rfl
        have e34 : ρ (.tmp 34) = (.bool true : Value) := by rw [← hρ]; exact (hI.dep 0 (by kernel_rfl) (by decide)).1.trans (hI.dep 0 (by kernel_rfl) (by decide)).2
        refine rf_val (by rfl) (.bool true) (by rw [hρ]; simp only [execOp]; simp only [e34, hc]; rfl) ?_
        exact hK _ _ (Below.refl _ _) rfl
      · injection ho with ho
        subst ho
        subst hRl
        obtain ⟨ρ, hρ⟩ : ∃ ρ, b.eval = ρ := ⟨_, rfl⟩
        have hc : ∀ v, ρ (.const v) = v := fun v => by rw [← hρ]; rfl
        have e2 : ρ (.tmp 2) = (.pointer (some ⟨w.heap.size, 0, none⟩) : Value) := by rw [← hρ]; exact (hI.old 2 (by decide)).trans (by go_simp)
        have e35 : ρ (.tmp 35) = (.bool true : Value) := by rw [← hρ]; exact (hI.dep 1 (by kernel_rfl) (by decide)).1.trans (hI.dep 1 (by kernel_rfl) (by decide)).2
        refine rf_val (lg_wanted 1 true 35 rfl rfl (by rw [hρ]; exact e35)) (.agg C.toArray) (by rw [hρ]; rw [← hρ]; exact lg_all 25 (.tmp 2) rfl w.heap.size (by rw [hρ]; exact e2) 25 C _ ((show Row w4.drew w.heap.size 25 C from EM.out).below hI.bel EM.out.lt) Try.underlying25 rfl HZ.out) ?_
        exact hK _ _ (Below.refl _ _) rfl
      · injection ho with ho
        subst ho
        subst hRl
        obtain ⟨ρ, hρ⟩ : ∃ ρ, b.eval = ρ := ⟨_, rfl⟩
        have hc : ∀ v, ρ (.const v) = v := fun v => by rw [← hρ]; rfl
        have e3 : ρ (.tmp 3) = (.pointer (some ⟨w1.heap.size, 0, none⟩) : Value) := by rw [← hρ]; exact (hI.old 3 (by decide)).trans (by go_simp)
        have e35 : ρ (.tmp 35) = (.bool true : Value) := by rw [← hρ]; exact (hI.dep 1 (by kernel_rfl) (by decide)).1.trans (hI.dep 1 (by kernel_rfl) (by decide)).2
        refine rf_val (lg_wanted 1 true 35 rfl rfl (by rw [hρ]; exact e35)) (.agg D.toArray) (by rw [hρ]; rw [← hρ]; exact lg_all 25 (.tmp 3) rfl w1.heap.size (by rw [hρ]; exact e3) 25 D _ ((show Row w4.drew w1.heap.size 25 D from EN.out).below hI.bel EN.out.lt) Try.underlying25 rfl HY.out) ?_
        exact hK _ _ (Below.refl _ _) rfl
      · injection ho with ho
        subst ho
        subst hRl
        obtain ⟨ρ, hρ⟩ : ∃ ρ, b.eval = ρ := ⟨_, rfl⟩
        have hc : ∀ v, ρ (.const v) = v := fun v => by rw [← hρ]; rfl
        have e35 : ρ (.tmp 35) = (.bool true : Value) := by rw [← hρ]; exact (hI.dep 1 (by kernel_rfl) (by decide)).1.trans (hI.dep 1 (by kernel_rfl) (by decide)).2
        have e36 : ρ (.tmp 36) = (.agg C.toArray : Value) := by rw [← hρ]; exact (hI.dep 2 (by kernel_rfl) (by decide)).1.trans (hI.dep 2 (by kernel_rfl) (by decide)).2
        have e37 : ρ (.tmp 37) = (.agg D.toArray : Value) := by rw [← hρ]; exact (hI.dep 3 (by kernel_rfl) (by decide)).1.trans (hI.dep 3 (by kernel_rfl) (by decide)).2
        refine rf_make (lg_wanted 1 true 35 rfl rfl (by rw [hρ]; exact e35)) _ _ (by rw [hρ]; exact run_build2 ρ _ (.tmp 36) (.tmp 37) rfl X.1 Y.1 (by rw [hCx]; exact e36) (by rw [hDx]; exact e37) w') ?_
        have hr : (fun (v : Value) (w : World) => ∃ b, v = Value.slice (some ⟨b, 0, none⟩) 2 2 ∧ Mss w (some ⟨b, 0, none⟩) 2 [X, Y]) (Value.slice (some ⟨w'.heap.size, 0, none⟩) 2 2) (w'.alloc (.cells (X.1.cells ++ Y.1.cells).toArray 25)) := ⟨_, rfl, mss_two X Y w' (HFX.out w' (HBW.out w' hI.bel)) (HFY.out w' (HBW.out w' hI.bel)) HEX.out HEY.out⟩
        exact hK _ _ ((Below.refl _ _).alloc (Nat.le_refl _) _) hr
      · injection ho with ho
        subst ho
        subst hRl
        obtain ⟨ρ, hρ⟩ : ∃ ρ, b.eval = ρ := ⟨_, rfl⟩
        have hc : ∀ v, ρ (.const v) = v := fun v => by rw [← hρ]; rfl
        have e3 : ρ (.tmp 3) = (.pointer (some ⟨w1.heap.size, 0, none⟩) : Value) := by rw [← hρ]; exact (hI.old 3 (by decide)).trans (by go_simp)
        have e35 : ρ (.tmp 35) = (.bool true : Value) := by rw [← hρ]; exact (hI.dep 1 (by kernel_rfl) (by decide)).1.trans (hI.dep 1 (by kernel_rfl) (by decide)).2
        refine rf_val (lg_wanted 1 true 35 rfl rfl (by rw [hρ]; exact e35)) (.agg D.toArray) (by rw [hρ]; rw [← hρ]; exact lg_all 25 (.tmp 3) rfl w1.heap.size (by rw [hρ]; exact e3) 25 D _ ((show Row w4.drew w1.heap.size 25 D from EN.out).below hI.bel EN.out.lt) Try.underlying25 rfl HY.out) ?_
        exact hK _ _ (Below.refl _ _) rfl
      · injection ho with ho
        subst ho
        subst hRl
        obtain ⟨ρ, hρ⟩ : ∃ ρ, b.eval = ρ := ⟨_, rfl⟩
        have hc : ∀ v, ρ (.const v) = v := fun v => by rw [← hρ]; rfl
        have e2 : ρ (.tmp 2) = (.pointer (some ⟨w.heap.size, 0, none⟩) : Value) := by rw [← hρ]; exact (hI.old 2 (by decide)).trans (by go_simp)
        have e35 : ρ (.tmp 35) = (.bool true : Value) := by rw [← hρ]; exact (hI.dep 1 (by kernel_rfl) (by decide)).1.trans (hI.dep 1 (by kernel_rfl) (by decide)).2
        refine rf_val (lg_wanted 1 true 35 rfl rfl (by rw [hρ]; exact e35)) (.agg C.toArray) (by rw [hρ]; rw [← hρ]; exact lg_all 25 (.tmp 2) rfl w.heap.size (by rw [hρ]; exact e2) 25 C _ ((show Row w4.drew w.heap.size 25 C from EM.out).below hI.bel EM.out.lt) Try.underlying25 rfl HZ.out) ?_
        exact hK _ _ (Below.refl _ _) rfl
      · injection ho with ho
        subst ho
        subst hRl
        obtain ⟨ρ, hρ⟩ : ∃ ρ, b.eval = ρ := ⟨_, rfl⟩
        have hc : ∀ v, ρ (.const v) = v := fun v => by rw [← hρ]; rfl
        have e35 : ρ (.tmp 35) = (.bool true : Value) := by rw [← hρ]; exact (hI.dep 1 (by kernel_rfl) (by decide)).1.trans (hI.dep 1 (by kernel_rfl) (by decide)).2
        have e39 : ρ (.tmp 39) = (.agg D.toArray : Value) := by rw [← hρ]; exact (hI.dep 5 (by kernel_rfl) (by decide)).1.trans (hI.dep 5 (by kernel_rfl) (by decide)).2
        have e40 : ρ (.tmp 40) = (.agg C.toArray : Value) := by rw [← hρ]; exact (hI.dep 6 (by kernel_rfl) (by decide)).1.trans (hI.dep 6 (by kernel_rfl) (by decide)).2
        refine rf_make (lg_wanted 1 true 35 rfl rfl (by rw [hρ]; exact e35)) _ _ (by rw [hρ]; exact run_build2 ρ _ (.tmp 39) (.tmp 40) rfl Y.1 X.1 (by rw [hDx]; exact e39) (by rw [hCx]; exact e40) w') ?_
        have hr : (fun (v : Value) (w : World) => ∃ b, v = Value.slice (some ⟨b, 0, none⟩) 2 2 ∧ Mss w (some ⟨b, 0, none⟩) 2 [Y, X]) (Value.slice (some ⟨w'.heap.size, 0, none⟩) 2 2) (w'.alloc (.cells (Y.1.cells ++ X.1.cells).toArray 25)) := ⟨_, rfl, mss_two Y X w' (HFY.out w' (HBW.out w' hI.bel)) (HFX.out w' (HBW.out w' hI.bel)) HEY.out HEX.out⟩
        exact hK _ _ ((Below.refl _ _).alloc (Nat.le_refl _) _) hr
      · injection ho with ho
        subst ho
        subst hRl
        obtain ⟨ρ, hρ⟩ : ∃ ρ, b.eval = ρ := ⟨_, rfl⟩
        have hc : ∀ v, ρ (.const v) = v := fun v => by rw [← hρ]; rfl
        have e35 : ρ (.tmp 35) = (.bool true : Value) := by rw [← hρ]; exact (hI.dep 1 (by kernel_rfl) (by decide)).1.trans (hI.dep 1 (by kernel_rfl) (by decide)).2
        have e38 : ρ (.tmp 38) = vs 4 := by rw [← hρ]; exact (hI.dep 4 (by kernel_rfl) (by decide)).1
        have r38 : ((fun v w => ∃ b, v = Value.slice (some ⟨b, 0, none⟩) 2 2 ∧ Mss w (some ⟨b, 0, none⟩) 2 [X, Y])) (vs 4) w' := (hI.dep 4 (by kernel_rfl) (by decide)).2
        have e41 : ρ (.tmp 41) = vs 7 := by rw [← hρ]; exact (hI.dep 7 (by kernel_rfl) (by decide)).1
        have r41 : ((fun v w => ∃ b, v = Value.slice (some ⟨b, 0, none⟩) 2 2 ∧ Mss w (some ⟨b, 0, none⟩) 2 [Y, X])) (vs 7) w' := (hI.dep 7 (by kernel_rfl) (by decide)).2
        obtain ⟨b1, h1, m1⟩ := r38
        obtain ⟨b2, h2, m2⟩ := r41
        rw [h1] at e38
        rw [h2] at e41
        refine rf_call (lg_wanted 1 true 35 rfl rfl (by rw [hρ]; exact e35)) 11 #[.slice (some ⟨b1, 0, none⟩) 2 2, .slice (some ⟨b2, 0, none⟩) 2 2] (ex_call b _ _ _ _ rfl _ (by rw [hρ]; simp [e38, e41, hc]) (by rfl)) (.bool V) (HA1.out w' b1 b2 m1 m2) ?_
        intro w2 hb2
        exact hK _ _ hb2 rfl
      · injection ho with ho
        subst ho
        subst hRl
        obtain ⟨ρ, hρ⟩ : ∃ ρ, b.eval = ρ := ⟨_, rfl⟩
        have hc : ∀ v, ρ (.const v) = v := fun v => by rw [← hρ]; rfl
        have e2 : ρ (.tmp 2) = (.pointer (some ⟨w.heap.size, 0, none⟩) : Value) := by rw [← hρ]; exact (hI.old 2 (by decide)).trans (by go_simp)
        have e35 : ρ (.tmp 35) = (.bool true : Value) := by rw [← hρ]; exact (hI.dep 1 (by kernel_rfl) (by decide)).1.trans (hI.dep 1 (by kernel_rfl) (by decide)).2
        refine rf_val (lg_wanted 1 true 35 rfl rfl (by rw [hρ]; exact e35)) (.agg C.toArray) (by rw [hρ]; rw [← hρ]; exact lg_all 25 (.tmp 2) rfl w.heap.size (by rw [hρ]; exact e2) 25 C _ ((show Row w4.drew w.heap.size 25 C from EM.out).below hI.bel EM.out.lt) Try.underlying25 rfl HZ.out) ?_
        exact hK _ _ (Below.refl _ _) rfl
      · injection ho with ho
        subst ho
        subst hRl
        obtain ⟨ρ, hρ⟩ : ∃ ρ, b.eval = ρ := ⟨_, rfl⟩
        have hc : ∀ v, ρ (.const v) = v := fun v => by rw [← hρ]; rfl
        have e3 : ρ (.tmp 3) = (.pointer (some ⟨w1.heap.size, 0, none⟩) : Value) := by rw [← hρ]; exact (hI.old 3 (by decide)).trans (by go_simp)
        have e35 : ρ (.tmp 35) = (.bool true : Value) := by rw [← hρ]; exact (hI.dep 1 (by kernel_rfl) (by decide)).1.trans (hI.dep 1 (by kernel_rfl) (by decide)).2
        refine rf_val (lg_wanted 1 true 35 rfl rfl (by rw [hρ]; exact e35)) (.agg D.toArray) (by rw [hρ]; rw [← hρ]; exact lg_all 25 (.tmp 3) rfl w1.heap.size (by rw [hρ]; exact e3) 25 D _ ((show Row w4.drew w1.heap.size 25 D from EN.out).below hI.bel EN.out.lt) Try.underlying25 rfl HY.out) ?_
        exact hK _ _ (Below.refl _ _) rfl
      · injection ho with ho
        subst ho
        subst hRl
        obtain ⟨ρ, hρ⟩ : ∃ ρ, b.eval = ρ := ⟨_, rfl⟩
        have hc : ∀ v, ρ (.const v) = v := fun v => by rw [← hρ]; rfl
        have e35 : ρ (.tmp 35) = (.bool true : Value) := by rw [← hρ]; exact (hI.dep 1 (by kernel_rfl) (by decide)).1.trans (hI.dep 1 (by kernel_rfl) (by decide)).2
        have e43 : ρ (.tmp 43) = (.agg C.toArray : Value) := by rw [← hρ]; exact (hI.dep 9 (by kernel_rfl) (by decide)).1.trans (hI.dep 9 (by kernel_rfl) (by decide)).2
        have e44 : ρ (.tmp 44) = (.agg D.toArray : Value) := by rw [← hρ]; exact (hI.dep 10 (by kernel_rfl) (by decide)).1.trans (hI.dep 10 (by kernel_rfl) (by decide)).2
        refine rf_make (lg_wanted 1 true 35 rfl rfl (by rw [hρ]; exact e35)) _ _ (by rw [hρ]; exact run_build2 ρ _ (.tmp 43) (.tmp 44) rfl X.1 Y.1 (by rw [hCx]; exact e43) (by rw [hDx]; exact e44) w') ?_
        have hr : (fun (v : Value) (w : World) => ∃ b, v = Value.slice (some ⟨b, 0, none⟩) 2 2 ∧ Mss w (some ⟨b, 0, none⟩) 2 [X, Y]) (Value.slice (some ⟨w'.heap.size, 0, none⟩) 2 2) (w'.alloc (.cells (X.1.cells ++ Y.1.cells).toArray 25)) := ⟨_, rfl, mss_two X Y w' (HFX.out w' (HBW.out w' hI.bel)) (HFY.out w' (HBW.out w' hI.bel)) HEX.out HEY.out⟩
        exact hK _ _ ((Below.refl _ _).alloc (Nat.le_refl _) _) hr
      · injection ho with ho
        subst ho
        subst hRl
        obtain ⟨ρ, hρ⟩ : ∃ ρ, b.eval = ρ := ⟨_, rfl⟩
        have hc : ∀ v, ρ (.const v) = v := fun v => by rw [← hρ]; rfl
        have e3 : ρ (.tmp 3) = (.pointer (some ⟨w1.heap.size, 0, none⟩) : Value) := by rw [← hρ]; exact (hI.old 3 (by decide)).trans (by go_simp)
        have e35 : ρ (.tmp 35) = (.bool true : Value) := by rw [← hρ]; exact (hI.dep 1 (by kernel_rfl) (by decide)).1.trans (hI.dep 1 (by kernel_rfl) (by decide)).2
        refine rf_val (lg_wanted 1 true 35 rfl rfl (by rw [hρ]; exact e35)) (.agg D.toArray) (by rw [hρ]; rw [← hρ]; exact lg_all 25 (.tmp 3) rfl w1.heap.size (by rw [hρ]; exact e3) 25 D _ ((show Row w4.drew w1.heap.size 25 D from EN.out).below hI.bel EN.out.lt) Try.underlying25 rfl HY.out) ?_
        exact hK _ _ (Below.refl _ _) rfl
      · injection ho with ho
        subst ho
        subst hRl
        obtain ⟨ρ, hρ⟩ : ∃ ρ, b.eval = ρ := ⟨_, rfl⟩
        have hc : ∀ v, ρ (.const v) = v := fun v => by rw [← hρ]; rfl
        have e2 : ρ (.tmp 2) = (.pointer (some ⟨w.heap.size, 0, none⟩) : Value) := by rw [← hρ]; exact (hI.old 2 (by decide)).trans (by go_simp)
        have e35 : ρ (.tmp 35) = (.bool true : Value) := by rw [← hρ]; exact (hI.dep 1 (by kernel_rfl) (by decide)).1.trans (hI.dep 1 (by kernel_rfl) (by decide)).2
        refine rf_val (lg_wanted 1 true 35 rfl rfl (by rw [hρ]; exact e35)) (.agg C.toArray) (by rw [hρ]; rw [← hρ]; exact lg_all 25 (.tmp 2) rfl w.heap.size (by rw [hρ]; exact e2) 25 C _ ((show Row w4.drew w.heap.size 25 C from EM.out).below hI.bel EM.out.lt) Try.underlying25 rfl HZ.out) ?_
        exact hK _ _ (Below.refl _ _) rfl
      · injection ho with ho
        subst ho
        subst hRl
        obtain ⟨ρ, hρ⟩ : ∃ ρ, b.eval = ρ := ⟨_, rfl⟩
        have hc : ∀ v, ρ (.const v) = v := fun v => by rw [← hρ]; rfl
        have e35 : ρ (.tmp 35) = (.bool true : Value) := by rw [← hρ]; exact (hI.dep 1 (by kernel_rfl) (by decide)).1.trans (hI.dep 1 (by kernel_rfl) (by decide)).2
        have e46 : ρ (.tmp 46) = (.agg D.toArray : Value) := by rw [← hρ]; exact (hI.dep 12 (by kernel_rfl) (by decide)).1.trans (hI.dep 12 (by kernel_rfl) (by decide)).2
        have e47 : ρ (.tmp 47) = (.agg C.toArray : Value) := by rw [← hρ]; exact (hI.dep 13 (by kernel_rfl) (by decide)).1.trans (hI.dep 13 (by kernel_rfl) (by decide)).2
        refine rf_make (lg_wanted 1 true 35 rfl rfl (by rw [hρ]; exact e35)) _ _ (by rw [hρ]; exact run_build2 ρ _ (.tmp 46) (.tmp 47) rfl Y.1 X.1 (by rw [hDx]; exact e46) (by rw [hCx]; exact e47) w') ?_
        have hr : (fun (v : Value) (w : World) => ∃ b, v = Value.slice (some ⟨b, 0, none⟩) 2 2 ∧ Mss w (some ⟨b, 0, none⟩) 2 [Y, X]) (Value.slice (some ⟨w'.heap.size, 0, none⟩) 2 2) (w'.alloc (.cells (Y.1.cells ++ X.1.cells).toArray 25)) := ⟨_, rfl, mss_two Y X w' (HFY.out w' (HBW.out w' hI.bel)) (HFX.out w' (HBW.out w' hI.bel)) HEY.out HEX.out⟩
        exact hK _ _ ((Below.refl _ _).alloc (Nat.le_refl _) _) hr
      · injection ho with ho
        subst ho
        subst hRl
        obtain ⟨ρ, hρ⟩ : ∃ ρ, b.eval = ρ := ⟨_, rfl⟩
        have hc : ∀ v, ρ (.const v) = v := fun v => by rw [← hρ]; rfl
        have e35 : ρ (.tmp 35) = (.bool true : Value) := by rw [← hρ]; exact (hI.dep 1 (by kernel_rfl) (by decide)).1.trans (hI.dep 1 (by kernel_rfl) (by decide)).2
        have e45 : ρ (.tmp 45) = vs 11 := by rw [← hρ]; exact (hI.dep 11 (by kernel_rfl) (by decide)).1
        have r45 : ((fun v w => ∃ b, v = Value.slice (some ⟨b, 0, none⟩) 2 2 ∧ Mss w (some ⟨b, 0, none⟩) 2 [X, Y])) (vs 11) w' := (hI.dep 11 (by kernel_rfl) (by decide)).2
        have e48 : ρ (.tmp 48) = vs 14 := by rw [← hρ]; exact (hI.dep 14 (by kernel_rfl) (by decide)).1
        have r48 : ((fun v w => ∃ b, v = Value.slice (some ⟨b, 0, none⟩) 2 2 ∧ Mss w (some ⟨b, 0, none⟩) 2 [Y, X])) (vs 14) w' := (hI.dep 14 (by kernel_rfl) (by decide)).2
        obtain ⟨b1, h1, m1⟩ := r45
        obtain ⟨b2, h2, m2⟩ := r48
        rw [h1] at e45
        rw [h2] at e48
        refine rf_call (lg_wanted 1 true 35 rfl rfl (by rw [hρ]; exact e35)) 12 #[.slice (some ⟨b1, 0, none⟩) 2 2, .slice (some ⟨b2, 0, none⟩) 2 2] (ex_call b _ _ _ _ rfl _ (by rw [hρ]; simp [e45, e48, hc]) (by rfl)) (.bool V) (HA2.out w' b1 b2 m1 m2) ?_
        intro w2 hb2
        exact hK _ _ hb2 rfl
      · injection ho with ho
        subst ho
        subst hRl
        obtain ⟨ρ, hρ⟩ : ∃ ρ, b.eval = ρ := ⟨_, rfl⟩
        have hc : ∀ v, ρ (.const v) = v := fun v => by rw [← hρ]; rfl
        have e35 : ρ (.tmp 35) = (.bool true : Value) := by rw [← hρ]; exact (hI.dep 1 (by kernel_rfl) (by decide)).1.trans (hI.dep 1 (by kernel_rfl) (by decide)).2
        have e42 : ρ (.tmp 42) = (.bool V : Value) := by rw [← hρ]; exact (hI.dep 8 (by kernel_rfl) (by decide)).1.trans (hI.dep 8 (by kernel_rfl) (by decide)).2
        have e49 : ρ (.tmp 49) = (.bool V : Value) := by rw [← hρ]; exact (hI.dep 15 (by kernel_rfl) (by decide)).1.trans (hI.dep 15 (by kernel_rfl) (by decide)).2
        refine rf_val (lg_wanted 1 true 35 rfl rfl (by rw [hρ]; exact e35)) (.bool true) (by rw [hρ]; simp only [execOp]; simp only [e35, e42, e49, hc]; go_simp) ?_
        exact hK _ _ (Below.refl _ _) rfl
      · injection ho with ho
        subst ho
        subst hRl
        obtain ⟨ρ, hρ⟩ : ∃ ρ, b.eval = ρ := ⟨_, rfl⟩
        have hc : ∀ v, ρ (.const v) = v := fun v => by rw [← hρ]; rfl
        have e35 : ρ (.tmp 35) = (.bool true : Value) := by rw [← hρ]; exact (hI.dep 1 (by kernel_rfl) (by decide)).1.trans (hI.dep 1 (by kernel_rfl) (by decide)).2
        have e50 : ρ (.tmp 50) = (.bool true : Value) := by rw [← hρ]; exact (hI.dep 16 (by kernel_rfl) (by decide)).1.trans (hI.dep 16 (by kernel_rfl) (by decide)).2
        refine rf_val (by rfl) (.bool true) (by rw [hρ]; simp only [execOp]; simp only [e35, e50, hc]; go_simp) ?_
        exact hK _ _ (Below.refl _ _) rfl
      · injection ho with ho
        subst ho
        subst hRl
        obtain ⟨ρ, hρ⟩ : ∃ ρ, b.eval = ρ := ⟨_, rfl⟩
        have hc : ∀ v, ρ (.const v) = v := fun v => by rw [← hρ]; rfl
        have e51 : ρ (.tmp 51) = (.bool true : Value) := by rw [← hρ]; exact (hI.dep 17 (by kernel_rfl) (by decide)).1.trans (hI.dep 17 (by kernel_rfl) (by decide)).2
        refine rf_val (by rfl) (.bool true) (by rw [hρ]; simp only [execOp]; simp only [e51, hc]; rfl) ?_
        exact hK _ _ (Below.refl _ _) rfl
      · injection ho with ho
        subst ho
        subst hRl
        obtain ⟨ρ, hρ⟩ : ∃ ρ, b.eval = ρ := ⟨_, rfl⟩
        have hc : ∀ v, ρ (.const v) = v := fun v => by rw [← hρ]; rfl
        have e2 : ρ (.tmp 2) = (.pointer (some ⟨w.heap.size, 0, none⟩) : Value) := by rw [← hρ]; exact (hI.old 2 (by decide)).trans (by go_simp)
        have e52 : ρ (.tmp 52) = (.bool true : Value) := by rw [← hρ]; exact (hI.dep 18 (by kernel_rfl) (by decide)).1.trans (hI.dep 18 (by kernel_rfl) (by decide)).2
        refine rf_val (lg_wanted 18 true 52 rfl rfl (by rw [hρ]; exact e52)) (.agg C.toArray) (by rw [hρ]; rw [← hρ]; exact lg_all 25 (.tmp 2) rfl w.heap.size (by rw [hρ]; exact e2) 25 C _ ((show Row w4.drew w.heap.size 25 C from EM.out).below hI.bel EM.out.lt) Try.underlying25 rfl HZ.out) ?_
        exact hK _ _ (Below.refl _ _) rfl
      · injection ho with ho
        subst ho
        subst hRl
        obtain ⟨ρ, hρ⟩ : ∃ ρ, b.eval = ρ := ⟨_, rfl⟩
        have hc : ∀ v, ρ (.const v) = v := fun v => by rw [← hρ]; rfl
        have e52 : ρ (.tmp 52) = (.bool true : Value) := by rw [← hρ]; exact (hI.dep 18 (by kernel_rfl) (by decide)).1.trans (hI.dep 18 (by kernel_rfl) (by decide)).2
        have e53 : ρ (.tmp 53) = (.agg C.toArray : Value) := by rw [← hρ]; exact (hI.dep 19 (by kernel_rfl) (by decide)).1.trans (hI.dep 19 (by kernel_rfl) (by decide)).2
        refine rf_make (lg_wanted 18 true 52 rfl rfl (by rw [hρ]; exact e52)) _ _ (by rw [hρ]; exact run_build1 ρ _ (.tmp 53) rfl X.1 (by rw [hCx]; exact e53) w') ?_
        have hr : (fun (v : Value) (w : World) => ∃ b, v = Value.slice (some ⟨b, 0, none⟩) 1 1 ∧ Mss w (some ⟨b, 0, none⟩) 1 [X]) (Value.slice (some ⟨w'.heap.size, 0, none⟩) 1 1) (w'.alloc (.cells X.1.cells.toArray 25)) := ⟨_, rfl, mss_one X w' (HFX.out w' (HBW.out w' hI.bel)) HEX.out⟩
        exact hK _ _ ((Below.refl _ _).alloc (Nat.le_refl _) _) hr
      · injection ho with ho
        subst ho
        subst hRl
        obtain ⟨ρ, hρ⟩ : ∃ ρ, b.eval = ρ := ⟨_, rfl⟩
        have hc : ∀ v, ρ (.const v) = v := fun v => by rw [← hρ]; rfl
        have e52 : ρ (.tmp 52) = (.bool true : Value) := by rw [← hρ]; exact (hI.dep 18 (by kernel_rfl) (by decide)).1.trans (hI.dep 18 (by kernel_rfl) (by decide)).2
        have e54 : ρ (.tmp 54) = vs 20 := by rw [← hρ]; exact (hI.dep 20 (by kernel_rfl) (by decide)).1
        have r54 : ((fun v w => ∃ b, v = Value.slice (some ⟨b, 0, none⟩) 1 1 ∧ Mss w (some ⟨b, 0, none⟩) 1 [X])) (vs 20) w' := (hI.dep 20 (by kernel_rfl) (by decide)).2
        obtain ⟨b1, h1, m1⟩ := r54
        rw [h1] at e54
        refine rf_call (lg_wanted 18 true 52 rfl rfl (by rw [hρ]; exact e52)) 11 #[.slice (some ⟨b1, 0, none⟩) 1 1, .slice none 0 0] (ex_call b _ _ _ _ rfl _ (by rw [hρ]; simp [e54, hc]) (by rfl)) (.bool false) (HA3.out w' b1 m1) ?_
        intro w2 hb2
        exact hK _ _ hb2 rfl
      · injection ho with ho
        subst ho
        subst hRl
        obtain ⟨ρ, hρ⟩ : ∃ ρ, b.eval = ρ := ⟨_, rfl⟩
        have hc : ∀ v, ρ (.const v) = v := fun v => by rw [← hρ]; rfl
        have e52 : ρ (.tmp 52) = (.bool true : Value) := by rw [← hρ]; exact (hI.dep 18 (by kernel_rfl) (by decide)).1.trans (hI.dep 18 (by kernel_rfl) (by decide)).2
        have e55 : ρ (.tmp 55) = (.bool false : Value) := by rw [← hρ]; exact (hI.dep 21 (by kernel_rfl) (by decide)).1.trans (hI.dep 21 (by kernel_rfl) (by decide)).2
        refine rf_val (lg_wanted 18 true 52 rfl rfl (by rw [hρ]; exact e52)) (.bool true) (by rw [hρ]; simp only [execOp]; simp only [e52, e55, hc]; go_simp) ?_
        exact hK _ _ (Below.refl _ _) rfl
      · injection ho with ho
        subst ho
        subst hRl
        obtain ⟨ρ, hρ⟩ : ∃ ρ, b.eval = ρ := ⟨_, rfl⟩
        have hc : ∀ v, ρ (.const v) = v := fun v => by rw [← hρ]; rfl
        have e52 : ρ (.tmp 52) = (.bool true : Value) := by rw [← hρ]; exact (hI.dep 18 (by kernel_rfl) (by decide)).1.trans (hI.dep 18 (by kernel_rfl) (by decide)).2
        have e56 : ρ (.tmp 56) = (.bool true : Value) := by rw [← hρ]; exact (hI.dep 22 (by kernel_rfl) (by decide)).1.trans (hI.dep 22 (by kernel_rfl) (by decide)).2
        refine rf_val (by rfl) (.bool true) (by rw [hρ]; simp only [execOp]; simp only [e52, e56, hc]; go_simp) ?_
        exact hK _ _ (Below.refl _ _) rfl
      · injection ho with ho
        subst ho
        subst hRl
        obtain ⟨ρ, hρ⟩ : ∃ ρ, b.eval = ρ := ⟨_, rfl⟩
        have hc : ∀ v, ρ (.const v) = v := fun v => by rw [← hρ]; rfl
        have e57 : ρ (.tmp 57) = (.bool true : Value) := by rw [← hρ]; exact (hI.dep 23 (by kernel_rfl) (by decide)).1.trans (hI.dep 23 (by kernel_rfl) (by decide)).2
        refine rf_val (by rfl) (.bool true) (by rw [hρ]; simp only [execOp]; simp only [e57, hc]; rfl) ?_
        exact hK _ _ (Below.refl _ _) rfl
      · injection ho with ho
        subst ho
        subst hRl
        obtain ⟨ρ, hρ⟩ : ∃ ρ, b.eval = ρ := ⟨_, rfl⟩
        have hc : ∀ v, ρ (.const v) = v := fun v => by rw [← hρ]; rfl
        have e58 : ρ (.tmp 58) = (.bool true : Value) := by rw [← hρ]; exact (hI.dep 24 (by kernel_rfl) (by decide)).1.trans (hI.dep 24 (by kernel_rfl) (by decide)).2
        refine rf_call (lg_wanted 24 true 58 rfl rfl (by rw [hρ]; exact e58)) 6 #[] (ex_call b _ _ _ _ rfl _ (by rw [hρ]; simp [e58, hc]) (by rfl)) (.bool true) (HAW.out w') ?_
        intro w2 hb2
        exact hK _ _ hb2 rfl
      · injection ho with ho
        subst ho
        subst hRl
        obtain ⟨ρ, hρ⟩ : ∃ ρ, b.eval = ρ := ⟨_, rfl⟩
        have hc : ∀ v, ρ (.const v) = v := fun v => by rw [← hρ]; rfl
        have e58 : ρ (.tmp 58) = (.bool true : Value) := by rw [← hρ]; exact (hI.dep 24 (by kernel_rfl) (by decide)).1.trans (hI.dep 24 (by kernel_rfl) (by decide)).2
        have e59 : ρ (.tmp 59) = (.bool true : Value) := by rw [← hρ]; exact (hI.dep 25 (by kernel_rfl) (by decide)).1.trans (hI.dep 25 (by kernel_rfl) (by decide)).2
        refine rf_val (by rfl) (.bool true) (by rw [hρ]; simp only [execOp]; simp only [e58, e59, hc]; go_simp) ?_
        exact hK _ _ (Below.refl _ _) rfl
      · injection ho with ho
        subst ho
        subst hRl
        obtain ⟨ρ, hρ⟩ : ∃ ρ, b.eval = ρ := ⟨_, rfl⟩
        have hc : ∀ v, ρ (.const v) = v := fun v => by rw [← hρ]; rfl
        have e60 : ρ (.tmp 60) = (.bool true : Value) := by rw [← hρ]; exact (hI.dep 26 (by kernel_rfl) (by decide)).1.trans (hI.dep 26 (by kernel_rfl) (by decide)).2
        refine rf_val (by rfl) (.bool true) (by rw [hρ]; simp only [execOp]; simp only [e60, hc]; rfl) ?_
        exact hK _ _ (Below.refl _ _) rfl
    · intro vs w6 hb6 hall
      subst hRl
      have f0 : vs 0 = (.bool true : Value) := hall 0 (by decide)
      have f1 : vs 1 = (.bool true : Value) := hall 1 (by decide)
      have f2 : vs 2 = (.agg C.toArray : Value) := hall 2 (by decide)
      have f3 : vs 3 = (.agg D.toArray : Value) := hall 3 (by decide)
      have f5 : vs 5 = (.agg D.toArray : Value) := hall 5 (by decide)
      have f6 : vs 6 = (.agg C.toArray : Value) := hall 6 (by decide)
      have f8 : vs 8 = (.bool V : Value) := hall 8 (by decide)
      have f9 : vs 9 = (.agg C.toArray : Value) := hall 9 (by decide)
      have f10 : vs 10 = (.agg D.toArray : Value) := hall 10 (by decide)
      have f12 : vs 12 = (.agg D.toArray : Value) := hall 12 (by decide)
      have f13 : vs 13 = (.agg C.toArray : Value) := hall 13 (by decide)
      have f15 : vs 15 = (.bool V : Value) := hall 15 (by decide)
      have f16 : vs 16 = (.bool true : Value) := hall 16 (by decide)
      have f17 : vs 17 = (.bool true : Value) := hall 17 (by decide)
      have f18 : vs 18 = (.bool true : Value) := hall 18 (by decide)
      have f19 : vs 19 = (.agg C.toArray : Value) := hall 19 (by decide)
      have f21 : vs 21 = (.bool false : Value) := hall 21 (by decide)
      have f22 : vs 22 = (.bool true : Value) := hall 22 (by decide)
      have f23 : vs 23 = (.bool true : Value) := hall 23 (by decide)
      have f24 : vs 24 = (.bool true : Value) := hall 24 (by decide)
      have f25 : vs 25 = (.bool true : Value) := hall 25 (by decide)
      have f26 : vs 26 = (.bool true : Value) := hall 26 (by decide)
      have f27 : vs 27 = (.bool true : Value) := hall 27 (by decide)
      clear hall
      dsimp only [rfPut]
      go_simp
      try rw [f27]
      clear f0
      go_wp2_with fail
      go_ret
      exact ⟨rfl, HBW.out w6 hb6⟩
end Go.Proofs.Ytdcioeoofngibaa.W
