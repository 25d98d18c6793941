/- LAYER 28 (chunk): the program's take: a map gone through, from which is taken. -/
import Derived.Test.YtkncbckmgcklfaaDoorCkG
set_option linter.unusedSimpArgs false
set_option linter.unusedVariables false
namespace Go.Proofs.YtkncbckmgcklfaaDoor.W
open Go Go.ChangeShapes Go.WideShapes Go.ChangeAt Go.RowKit
open Go.Proofs.YtkncbckmgcklfaaDoor.P (shaL shaL_len)

theorem mx_filter (X : List FX) (s : ByteArray) : (MX X).filter (fun p => !decide (p.1 = s)) = MX (X.filter fun x => !decide (x.f.s = s)) := by
  unfold MX; rw [List.filter_map]; rfl
/-- those that are left of a map from which what goes, and has come, was taken -/
def leftX (P : Fi → Bool) (left : Lit → Bool) (X : List FX) : List FX := X.filter fun x => !P x.f || left (kS x.f.s)
theorem left_start (P : Fi → Bool) (X : List FX) : leftX P (Maps.has (.map (entS (MX X)) : DataW Value)) X = X := by
  unfold leftX
  refine List.filter_eq_self.2 fun x hx => ?_
  rw [has_yes (M := MX X) (List.mem_map.2 ⟨x, hx, rfl⟩ : (x.f.s, x.val) ∈ MX X)]; simp
theorem left_end (P : Fi → Bool) (left : Lit → Bool) (X : List FX) (h : ∀ s, left (kS s) = false) : leftX P left X = X.filter fun x => !P x.f := by
  unfold leftX
  refine List.filter_congr fun x _ => ?_
  rw [h]; simp
theorem left_stays {P : Fi → Bool} {left : Lit → Bool} {X : List FX} (hr : Ris (MX X)) {x : FX} (hx : x ∈ X) (hp : P x.f = false) : leftX P (fun z => left z && !z.sameKey (kS x.f.s)) X = leftX P left X := by
  unfold leftX
  refine List.filter_congr fun y hy => ?_
  dsimp only
  rw [kS_same]
  by_cases e : y.f.s = x.f.s
  · obtain rfl := risx_uniq hr hy hx e
    rw [hp]; simp
  · simp [e]
theorem left_goes {P : Fi → Bool} {left : Lit → Bool} {X : List FX} (hr : Ris (MX X)) {x : FX} (hx : x ∈ X) (hp : P x.f = true) : leftX P (fun z => left z && !z.sameKey (kS x.f.s)) X = (leftX P left X).filter fun y => !decide (y.f.s = x.f.s) := by
  unfold leftX
  rw [List.filter_filter]
  refine List.filter_congr fun y hy => ?_
  dsimp only
  rw [kS_same]
  by_cases e : y.f.s = x.f.s
  · obtain rfl := risx_uniq hr hy hx e
    rw [hp]; simp
  · simp [e]
theorem left_sub {P : Fi → Bool} {left : Lit → Bool} {X : List FX} {x : FX} (h : x ∈ leftX P left X) : x ∈ X := (List.mem_filter.1 h).1
theorem CK.filter {w w' : World} {p m : Nat} {room : Int} {X : List FX} {S : Nat → Prop} (h : CK w p m room X S) (q : FX → Bool) (hg : w.grownBy w' (some m)) (hsm : SM w' m (X.filter q).length (MX (X.filter q))) : CK w' p m room (X.filter q) S ∧ Ft S w w' :=
  h.turn hg hsm (h.pb.sublist (List.filter_sublist)) (h.pt.sublist (List.filter_sublist)) (fun x hx => h.ob x (List.mem_filter.1 hx).1) (fun x hx => h.ot x (List.mem_filter.1 hx).1) (fun x hx => h.Sb x (List.mem_filter.1 hx).1) (fun x hx => h.St x (List.mem_filter.1 hx).1)
theorem Ft.of_base {base : Nat} {w w' : World} (h : Below base w w') : Ft (fun k => base ≤ k) w w' := ⟨h.os, h.tape, h.output, h.size, fun k _ hn => h.block k (Nat.lt_of_not_le hn)⟩
/-- any order of strings that rise, sorted -/
theorem sortM_keys {X : List FX} (hr : Ris (MX X)) {L : List ByteArray} (h : L.Perm (X.map (·.f.s))) : sortM L = X.map (·.f.s) := by
  unfold sortM
  have h1 : (byL L).Perm ((MX X).map (·.1.data.toList)) := by
    unfold byL MX
    rw [List.map_map]
    have := h.map (fun b : ByteArray => b.data.toList)
    rw [List.map_map] at this
    exact this
  rw [sorted_keys hr h1]
  have : (MX X).map (·.1.data.toList) = byL (X.map (·.f.s)) := by unfold byL MX; rw [List.map_map, List.map_map]; rfl
  rw [this, ofL_byL]
set_option maxRecDepth 100000 in
set_option maxHeartbeats 4000000 in
theorem ctake {p m : Nat} {room : Int} {X : List FX} {S : Nat → Prop} {w : World} (g : FuncId) (caps : Array Value) (P : Fi → Bool) (he : ∀ args w, (callFunc g args).run Tryd.prog w = .ok (.enter g args) w)
    (h : CK w p m room X S) (hs : ∀ x ∈ X, x.f.s.size ≤ 1000000) (hn : X.length ≤ 524288)
    (hG : ∀ (w2 : World) (x : FX), x ∈ X → Ft S w w2 → Fr w2 0 x.bv x.f.b → LsO intE w2 0 x.tv x.f.t → Calls Tryd.prog g (#[x.val] ++ caps) w2 fun e w3 => e = .returned (.bool (P x.f)) ∧ Below w2.heap.size w2 w3) :
    Calls Tryd.prog 30 #[.pointer (some ⟨p, 0, none⟩), .func (.func g) #[] caps] w fun e w' => ∃ v, e = .returned v ∧ LsO strE w' w.heap.size v ((X.filter fun x => P x.f).map (·.f.s)) ∧ CK w' p m room (X.filter fun x => !P x.f) S ∧ Ft S w w' := by
  have H := Lib.hid h
  have HR := Lib.hid (cready p m room w h.rp)
  have HN := Lib.hid hn
  have HSZ := Lib.hid hs
  have HG := Lib.hid hG
  have HRIS := Lib.hid h.sm.ris
  have c1 := h.rp.k2.2
  have FZ := Lib.hid file_zero
  have SZ := Lib.hid file_size
  clear h hn hs hG
  go_enter Tryd.func30, Tryd.ntmps30
  go_wp2_with (first
    | (go_at_call 19; (with_reducible refine HR.out.mono ?_); rintro e w1 ⟨rfl, rfl⟩)
    | ((with_reducible refine map_range (o := ⟨some 15, _, _, _, _, _⟩) rfl _ 24 50 rfl map_type m X.length (MX X) ?_ H.out.sm ?_); (focus go_simp); intro w1 hrg hb hz; have G1 := Lib.hid hrg; have B1 := Lib.hid hb; have HI := Lib.hid (show w.heap.size < w1.heap.size by omega); clear hrg hb hz c1))
  go_frame
  go_loopw [5, 6, 7] (fun v _ _ wr => ∃ left cnt D, D.length + cnt ≤ X.length ∧ Hid (Vis X left D) ∧ Hid (LsO strE wr w1.heap.size v ((D.filter fun x => P x.f).map (·.f.s))) ∧ Hid (RgS wr m w.heap.size (MX (leftX P left X)) left cnt) ∧ Hid (CK wr p m room (leftX P left X) S) ∧ Hid (Ft S w wr) ∧ Hid (w1.heap.size ≤ wr.heap.size)) (fun _ _ _ wr => wr.rangeLeft m w.heap.size)
  case atStart => exact ⟨_, (MX X).length, [], by rw [mx_len]; simp, Lib.hid (Vis.start X), Lib.hid (LsO.nil _ _), Lib.hid (by rw [left_start]; exact G1.out), Lib.hid (by rw [left_start]; exact H.out.mono B1.out), Lib.hid (Ft.of_below B1.out), Lib.hid (Nat.le_refl _)⟩
  case round =>
    obtain ⟨left, cnt, D, hcnt, V, O, G, C, F, ZZ⟩ := hrel
    go_wp2_with ((with_reducible refine map_next (o := ⟨some 16, _, _, _, _, _⟩) rfl _ rfl m w.heap.size (MX (leftX P left X)) left cnt ?_ G.out ?_ ?_); (focus go_simp))
    · intro hl
      have e1 := Lib.hid ((((V.out.all HRIS.out hl).filter fun x => P x.f).map (·.f.s)))
      have e2 := Lib.hid (left_end P left X hl)
      have HRF := Lib.hid (show Ris (MX (X.filter fun x => P x.f)) by
        have h1 := HRIS.out
        unfold Ris MX at h1 ⊢
        rw [List.pairwise_map] at h1 ⊢
        exact h1.sublist List.filter_sublist)
      have e3 := Lib.hid (sortM_keys HRF.out e1.out)
      have HLN := Lib.hid (show ((D.filter fun x => P x.f).map (·.f.s)).length ≤ 1000000 by rw [e1.out.length_eq, List.length_map]; have h1 := List.length_filter_le (fun x : FX => P x.f) X; have := HN.out; omega)
      clear hl
      go_simp
      go_wp2_with (go_at_call 46; refine (psort w1.heap.size _ _ wr O.out HLN.out ZZ.out).mono ?_; rintro e w4 ⟨rfl, hl, hb⟩; rw [e3.out] at hl; have L4 := Lib.hid hl; have C4 := Lib.hid (C.out.ft (Ft.of_base hb) (fun k hk hk2 => absurd (H.out.lt k hk) (Nat.not_lt.2 (Nat.le_trans (Nat.le_of_lt HI.out) hk2)))); have F4 := Lib.hid (F.out.on (Ft.of_base hb) (fun b hb2 => .inr (Nat.le_trans (Nat.le_of_lt HI.out) hb2))); clear hl hb)
      go_ret
      exact ⟨_, rfl, L4.out.base (Nat.le_of_lt HI.out), by rw [← e2.out]; exact C4.out, F4.out⟩
    · intro s v w2 cnt2 hmem hsz hl hrg hlt hg hz2 hen
      obtain ⟨x, hx, e⟩ := mx_mem.1 hmem
      obtain ⟨rfl, rfl⟩ := Prod.mk.inj e
      have hxX := left_sub hx
      have V2 := Lib.hid (V.out.step HRIS.out hxX hl)
      have G2 := Lib.hid hrg
      have hr0 : ∀ k, k ≠ w.heap.size → k < wr.heap.size → w2.heap[k]? = wr.heap[k]? := fun k hk hk2 => hg.block k hk2 (fun e => hk (by injection e))
      have ft2 : Ft (fun k => k = w.heap.size) wr w2 := ⟨hg.os, hg.tape, hg.output, hg.size, fun k hk hn => hr0 k hn hk⟩
      have C2 := Lib.hid (C.out.ft ft2 (fun k hk e => absurd (H.out.lt k hk) (by rw [e]; exact Nat.lt_irrefl _)))
      have F2 := Lib.hid (F.out.on ft2 (fun b hb => .inr (by rw [hb]; exact Nat.le_refl _)))
      have O2 := Lib.hid (O.out.keep fun q hq => hr0 q (fun e => absurd (World.ownsRow.lt O.out q hq).1 (by rw [e]; exact Nat.not_le.2 HI.out)) (World.ownsRow.lt O.out q hq).2)
      have Z2 := Lib.hid (Nat.le_trans ZZ.out hg.size)
      have HSX := Lib.hid hsz
      have OB := C2.out.ob x hx
      have OT := C2.out.ot x hx
      obtain ⟨fa, fc, hbv, -⟩ := OB.form
      have OC := Lib.hid (lso_cell OT)
      have OBC := Lib.hid (fr_one OB)
      have HX := Lib.hid hx
      have HXX := Lib.hid hxX
      have FD : Hid (P x.f = false → leftX P (fun z => left z && !z.sameKey (kS x.f.s)) X = leftX P left X) := Lib.hid (left_stays HRIS.out hxX)
      have FG : Hid (P x.f = true → leftX P (fun z => left z && !z.sameKey (kS x.f.s)) X = (leftX P left X).filter fun y => !decide (y.f.s = x.f.s)) := Lib.hid (left_goes HRIS.out hxX)
      have HFD := Lib.hid (show ((D ++ [x]).filter fun x => P x.f).map (·.f.s) = ((D.filter fun x => P x.f).map (·.f.s)) ++ (if P x.f = true then [x.f.s] else []) by rw [List.filter_append, List.map_append]; by_cases hq : P x.f = true <;> simp [hq])
      have HDL := Lib.hid (show ((D.filter fun x => P x.f).map (·.f.s)).length ≤ 524288 by rw [List.length_map]; have h1 := List.length_filter_le (fun x : FX => P x.f) D; have := HN.out; omega)
      have HZ5 := Lib.hid (show x.f.s.size ≤ maxLen from hsz)
      clear hmem e hl hrg hg hz2 hr0 ft2 OB OT hbv hx hxX
      replace hen : (Instr.entry (.pointer (some ⟨w.heap.size, 0, none⟩))).run Tryd.prog w2 = .ok (.tuple #[.string x.f.s, .agg (fiC x.f.s x.bv x.f.su x.tv).toArray]) w2 := hen
      go_simp
      go_wp2_with (first
        | ((with_reducible refine alloc_row (o := ⟨some 7, _, _, _, _, _⟩) rfl _ rfl _ FZ.out ?_); intro w3 hr hb hz; have R3 := Lib.hid hr; have B3 := Lib.hid hb; clear hr hb hz)
        | ((with_reducible refine store_row (o := ⟨none, _, _, _, _, _⟩) rfl _ (.tmp 7) _ rfl w2.heap.size (fiC x.f.s x.bv x.f.su x.tv) ?_ ?_ 50 _ R3.out ?_ ?_ ?_ ?_); (focus go_simp); (focus (first | (go_simp; done) | (go_simp; rfl))); (focus (exact SZ.out)); (focus rfl); (focus (exact fi_one _ _ _ _ OBC.out OC.out)); intro w4 hr hu; have R4 := Lib.hid hr; have B4 := Lib.hid (B3.out.trans (hu.below (Nat.le_refl _))); clear hr hu)
        | ((with_reducible refine load_row (o := ⟨some 22, _, _, _, _, _⟩) rfl _ _ rfl w2.heap.size ?_ _ (fiC x.f.s x.bv x.f.su x.tv) _ R4.out Tryd.underlying50 rfl ?_ ?_); (focus go_simp); (focus (exact SZ.out))))
      have F4 := Lib.hid (F2.out.trans (Ft.of_below B4.out))
      have C4 := Lib.hid (C2.out.mono B4.out)
      have G4 := Lib.hid (G2.out.kept B4.out)
      have O4 := Lib.hid (O2.out.kept B4.out)
      refine (HG.out w4 x HXX.out F4.out (C4.out.ob x HX.out) (C4.out.ot x HX.out)).mono ?_
      rintro e w5 ⟨rfl, hb5⟩
      have F5 := Lib.hid (F4.out.trans (Ft.of_below hb5))
      have C5 := Lib.hid (C4.out.mono hb5)
      have G5 := Lib.hid (G4.out.kept hb5)
      have O5 := Lib.hid (O4.out.kept hb5)
      have Z5 := Lib.hid (Nat.le_trans Z2.out (Nat.le_trans B4.out.size hb5.size))
      clear hb5
      cases hP : P x.f
      · have e1 := Lib.hid (FD.out hP)
        have e2 := Lib.hid (show ((D ++ [x]).filter fun x => P x.f).map (·.f.s) = ((D.filter fun x => P x.f).map (·.f.s)) by rw [HFD.out, hP]; simp)
        clear hP
        go_simp
        go_wp2_with fail
        go_roundw
        case rel => exact ⟨_, cnt2, D ++ [x], by rw [List.length_append]; simp; omega, V2, Lib.hid (by rw [e2.out]; exact O5.out), Lib.hid (by rw [e1.out]; exact G5.out), Lib.hid (by rw [e1.out]; exact C5.out), F5, Z5⟩
        case measure => rw [G5.out.eq, G.out.eq]; omega
      · have e1 := Lib.hid (FG.out hP)
        have e2 := Lib.hid (show ((D ++ [x]).filter fun x => P x.f).map (·.f.s) = ((D.filter fun x => P x.f).map (·.f.s)) ++ [x.f.s] by rw [HFD.out, hP]; simp)
        have c1 := C5.out.rp.k2.2
        clear hP
        go_simp
        go_wp2_with (first
          | ((with_reducible refine map_del_r (o := ⟨none, _, _, _, _, _⟩) rfl _ _ 24 50 rfl map_type m w.heap.size _ _ cnt2 ?_ G5.out x.f.s ?_ HZ5.out ?_); (focus go_simp); (focus (first | (go_simp; done) | (go_simp; rfl))); intro w6 cnt6 hrg hle hg hz6; rw [mx_filter, ← e1.out, Maps.strike_twice] at hrg; have G6 := Lib.hid hrg; have PC := C5.out.filter (fun y => !decide (y.f.s = x.f.s)) hg (by have h5 := hrg.sm; rw [mx_len, e1.out] at h5; exact h5); rw [← e1.out] at PC; have C6 := Lib.hid PC.1; have F6 := Lib.hid (F5.out.trans PC.2); have O6 := Lib.hid (O5.out.keep fun q hq => hg.block q (World.ownsRow.lt O5.out q hq).2 (fun e => absurd (H.out.lt m H.out.Sm) (Nat.not_lt.2 (Nat.le_trans (Nat.le_of_lt HI.out) (by injection e with e; rw [← e]; exact (World.ownsRow.lt O5.out q hq).1))))); have Z6 := Lib.hid (Nat.le_trans Z5.out hg.size); have HLE := Lib.hid hle; clear hrg hle hg hz6 PC c1)
          | ((with_reducible refine build_str (o := ⟨some 31, _, _, _, _, _⟩) rfl _ rfl x.f.s ?_ HZ5.out ?_); (focus (first | (go_simp; done) | (go_simp; rfl))); intro w7 hl hb; have M7 := Lib.hid hl; have O7 := Lib.hid (O6.out.kept hb); have G7 := Lib.hid (G6.out.kept hb); have C7 := Lib.hid (C6.out.mono hb); have F7 := Lib.hid (F6.out.trans (Ft.of_below hb)); have Z7 := Lib.hid (Nat.le_trans Z6.out hb.size); clear hl hb)
          | ((with_reducible refine append_ls strOk (o := ⟨some 32, _, _, _, _, _⟩) rfl _ _ rfl w1.heap.size _ _ ?_ O7.out (some ⟨w6.heap.size, 0, none⟩) 1 1 [x.f.s] ?_ M7.out (by have := HDL.out; omega) Z7.out ?_); (focus (first | (go_simp; done) | (go_simp; rfl))); (focus (first | (go_simp; done) | (go_simp; rfl))); intro v8 w8 hN hb2 hg2 hv2; have O8 := Lib.hid hN; have G8 := Lib.hid (G7.out.stay (hb2.block m (Nat.lt_trans (H.out.lt m H.out.Sm) HI.out)) (hb2.block w.heap.size HI.out)); have C8 := Lib.hid (C7.out.ft (Ft.of_base hb2) (fun k hk hk2 => absurd (H.out.lt k hk) (Nat.not_lt.2 (Nat.le_trans (Nat.le_of_lt HI.out) hk2)))); have F8 := Lib.hid (F7.out.on (Ft.of_base hb2) (fun b hb3 => .inr (Nat.le_trans (Nat.le_of_lt HI.out) hb3))); have Z8 := Lib.hid (Nat.le_trans Z7.out hb2.size); clear hN hb2 hg2 hv2))
        go_roundw
        case rel => exact ⟨_, cnt6, D ++ [x], by have := HLE.out; rw [List.length_append]; simp; omega, V2, Lib.hid (by rw [e2.out]; exact O8.out), G8, C8, F8, Z8⟩
        case measure => have := HLE.out; rw [G8.out.eq, G.out.eq]; omega
end Go.Proofs.YtkncbckmgcklfaaDoor.W
