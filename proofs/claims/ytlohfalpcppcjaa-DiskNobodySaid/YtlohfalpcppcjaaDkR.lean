/- CONTRACTS of layer 9 (disk): the reference's disk in memory; Append, Size. -/
import Derived.Test.YtlohfalpcppcjaaFoot
import Derived.Test.YtlohfalpcppcjaaSt
import Derived.Test.YtlohfalpcppcjaaQ
import Derived.Test.YtlohfalpcppcjaaPackR
set_option linter.unusedSimpArgs false
set_option linter.unusedVariables false
namespace Go.Proofs.Ytlohfalpcppcjaa.W
open Go Go.ChangeShapes Go.WideShapes Go.ChangeAt Go.RowKit

abbrev Sv := Option Addr × Nat × Nat
def Sv.val (v : Sv) : Value := .slice v.1 v.2.1 v.2.2
instance : Inhabited Sv := ⟨(none, 0, 0)⟩
theorem Row.t3 {w : World} {g : Nat} {t : TypeId} {a b c : Value} (h : Row w g t [a, b, c]) : w.cell? ⟨g, 0, none⟩ = some a ∧ w.cell? ⟨g, 1, none⟩ = some b ∧ w.cell? ⟨g, 2, none⟩ = some c := by
  refine ⟨?_, ?_, ?_⟩ <;> (rw [h.cellV]; rfl)
theorem infoBytes : (Try.prog.info? 30).map (·.size) = some 1 := by kernel_rfl
theorem Sv_noB (vs : List Sv) (x : UInt8) : B x ∉ vs.map Sv.val := by
  intro h
  obtain ⟨v, -, hv⟩ := List.mem_map.1 h
  simp [Sv.val, B] at hv
theorem ints_noB (zs : List Int) (x : UInt8) : B x ∉ zs.map (Value.int .i64) := by
  intro h
  obtain ⟨v, -, hv⟩ := List.mem_map.1 h
  simp [B] at hv

/-- the reference's disk in memory: its slots' bytes, how many are sure, the room; all its blocks lie in S -/
structure DX (w : World) (p gb gs : Nat) (vs : List Sv) (S : Nat → Prop) (Bs : List (List UInt8)) (Ss : List Int) (most : Int) : Prop where
  rp : Row w p 59 [.slice (some ⟨gb, 0, none⟩) Bs.length Bs.length, .slice (some ⟨gs, 0, none⟩) Bs.length Bs.length, .int .i64 most]
  rb : Row w gb 30 (vs.map Sv.val)
  rs : Row w gs 3 (Ss.map (Value.int .i64))
  lv : vs.length = Bs.length
  ls : Ss.length = Bs.length
  rd : ∀ i, i < Bs.length → Rd w (vs.getD i default).1 (vs.getD i default).2.1 (vs.getD i default).2.2 (Bs.getD i [])
  pb : p ≠ gb
  ps : p ≠ gs
  bs : gb ≠ gs
  p0 : True
  sp : S p
  sb : S gb
  ss : S gs
  sv : ∀ i, i < Bs.length → ∀ b off, (vs.getD i default).1 = some ⟨b, off, none⟩ → S b
  lt : ∀ k, S k → k < w.heap.size
  n16 : Bs.length ≤ 16
  len : ∀ i, (Bs.getD i []).length ≤ 524288
  most0 : 0 ≤ most ∧ most ≤ 524288
/-- of each slot's bytes some are sure -/
def DSure (Bs : List (List UInt8)) (Ss : List Int) : Prop := ∀ i, i < Bs.length → 0 ≤ Ss.getD i 0 ∧ Ss.getD i 0 ≤ (Bs.getD i []).length
theorem DX.ft {F : Nat → Prop} {w w' : World} {p gb gs : Nat} {vs : List Sv} {S : Nat → Prop} {Bs : List (List UInt8)} {Ss : List Int} {most : Int} (h : DX w p gb gs vs S Bs Ss most) (k : Ft F w w') (hd : Disj S F) : DX w' p gb gs vs S Bs Ss most :=
  { h with rp := h.rp.ft k (hd p h.sp), rb := h.rb.ft k (hd gb h.sb), rs := h.rs.ft k (hd gs h.ss), rd := fun i hi => (h.rd i hi).ft k fun _ b off e => hd b (h.sv i hi b off e), lt := fun b hb => Nat.lt_of_lt_of_le (h.lt b hb) k.size }
theorem DX.mono {w w' : World} {p gb gs : Nat} {vs : List Sv} {S : Nat → Prop} {Bs : List (List UInt8)} {Ss : List Int} {most : Int} (h : DX w p gb gs vs S Bs Ss most) (k : Below w.heap.size w w') : DX w' p gb gs vs S Bs Ss most :=
  h.ft (Ft.of_below (F := fun _ => False) k) (fun _ _ h => h)
theorem DX.cb {w : World} {p gb gs : Nat} {vs : List Sv} {S : Nat → Prop} {Bs : List (List UInt8)} {Ss : List Int} {most : Int} (h : DX w p gb gs vs S Bs Ss most) (i : Nat) (hi : i < Bs.length) : w.cell? ⟨gb, i, none⟩ = some (.slice (vs.getD i default).1 (vs.getD i default).2.1 (vs.getD i default).2.2) :=
  h.rb.cell default i (by rw [h.lv]; exact hi)
theorem DX.cs {w : World} {p gb gs : Nat} {vs : List Sv} {S : Nat → Prop} {Bs : List (List UInt8)} {Ss : List Int} {most : Int} (h : DX w p gb gs vs S Bs Ss most) (i : Nat) (hi : i < Bs.length) : w.cell? ⟨gs, i, none⟩ = some (.int .i64 (Ss.getD i 0)) :=
  h.rs.cell 0 i (by rw [h.ls]; exact hi)

/-- a slot's bytes are written anew: its slice is v, its bytes l, of which s are sure as before -/
theorem DX.put {w w' : World} {p gb gs : Nat} {vs : List Sv} {S : Nat → Prop} {Bs : List (List UInt8)} {Ss : List Int} {most : Int} (h : DX w p gb gs vs S Bs Ss most) (k : Nat) (hk : k < Bs.length) (v : Sv) (l : List UInt8)
    (hu : Upd w w' gb) (hrow : Row w' gb 30 ((vs.map Sv.val).set k v.val)) (hr : Rd w v.1 v.2.1 v.2.2 l) (hv : ∀ b off, v.1 = some ⟨b, off, none⟩ → b < w.heap.size) (hl : l.length ≤ 524288) :
    DX w' p gb gs (vs.set k v) (fun b => S b ∨ ∃ off, v.1 = some ⟨b, off, none⟩) (Bs.set k l) Ss most := by
  have hgd : ∀ i, (vs.set k v).getD i default = if i = k then v else vs.getD i default := by
    intro i
    simp only [List.getD_eq_getElem?_getD, List.getElem?_set]
    by_cases hik : k = i
    · subst hik; simp [h.lv, hk]
    · rw [if_neg hik, if_neg (fun e => hik e.symm)]
  have hbd : ∀ i, (Bs.set k l).getD i [] = if i = k then l else Bs.getD i [] := by
    intro i
    simp only [List.getD_eq_getElem?_getD, List.getElem?_set]
    by_cases hik : k = i
    · subst hik; simp [hk]
    · rw [if_neg hik, if_neg (fun e => hik e.symm)]
  refine { rp := ?_, rb := ?_, rs := h.rs.upd hu (Ne.symm h.bs), lv := by simp [h.lv], ls := by simp [h.ls], rd := ?_, pb := h.pb, ps := h.ps, bs := h.bs, p0 := h.p0, sp := .inl h.sp, sb := .inl h.sb, ss := .inl h.ss, sv := ?_, lt := ?_, n16 := by simpa using h.n16, len := ?_, most0 := h.most0 }
  · have := h.rp.upd hu h.pb
    simpa using this
  · rw [List.map_set]; exact hrow
  · intro i hi
    rw [hgd, hbd]
    by_cases hik : i = k
    · rw [if_pos hik, if_pos hik]; exact hr.upd' hu (hr.apart h.rb (fun x hx => Sv_noB vs x (by simpa using hx)))
    · rw [if_neg hik, if_neg hik]
      have hq := h.rd i (by simpa using hi)
      exact hq.upd' hu (hq.apart h.rb (fun x hx => Sv_noB vs x (by simpa using hx)))
  · intro i hi b off e
    rw [hgd] at e
    by_cases hik : i = k
    · rw [if_pos hik] at e; exact .inr ⟨off, e⟩
    · rw [if_neg hik] at e; exact .inl (h.sv i (by simpa using hi) b off e)
  · intro b hb
    rw [hu.size]
    rcases hb with hb | ⟨off, e⟩
    · exact h.lt b hb
    · exact hv b off e
  · intro i
    rw [hbd]
    split
    · exact hl
    · exact h.len i

set_option maxRecDepth 100000 in
set_option maxHeartbeats 4000000 in
theorem xthere (p gb gs : Nat) (vs : List Sv) (S : Nat → Prop) (Bs : List (List UInt8)) (Ss : List Int) (most slot : Int) (w : World) (h : DX w p gb gs vs S Bs Ss most) (b : Bool) (hb : (decide (0 ≤ slot) && decide (slot < Bs.length)) = b) :
    Calls Try.prog 40 #[.pointer (some ⟨p, 0, none⟩), .int .i64 slot] w fun e w' => e = .returned (.bool b) ∧ w = w' := by
  obtain ⟨c0, c1, c2⟩ := h.rp.t3
  have hp0 := h.p0
  have hn := h.n16
  obtain ⟨n, hnn⟩ : ∃ n, Bs.length = n := ⟨_, rfl⟩
  rw [hnn] at hb c0 c1 hn
  clear h hnn
  by_cases h0 : 0 ≤ slot
  · have e0 : decide (0 ≤ slot) = true := decide_eq_true h0
    rw [e0, Bool.true_and] at hb
    have HB := Lib.hid hb
    clear e0 hb
    go_enter Try.func40, Try.ntmps40
    go_wp2_with fail
    all_goals
      go_ret
      exact ⟨by rw [← HB.out]; rfl, rfl⟩
  · have e0 : decide (0 ≤ slot) = false := decide_eq_false h0
    rw [e0, Bool.false_and] at hb
    have HB := Lib.hid hb
    clear e0 hb
    go_enter Try.func40, Try.ntmps40
    go_wp2_with fail
    all_goals
      go_ret
      exact ⟨by rw [← HB.out]; rfl, rfl⟩

theorem Fr.new {w : World} {base : Nat} {a : Option Addr} {n c : Nat} {l : List UInt8} (h : Fr w base (.slice a n c) l) : ∀ b off, a = some ⟨b, off, none⟩ → base ≤ b ∧ b < w.heap.size := by
  intro b off e
  subst e
  exact World.ownsRow.lt h b rfl

set_option maxRecDepth 100000 in
set_option maxHeartbeats 4000000 in
theorem xappend_ok (p gb gs : Nat) (vs : List Sv) (S : Nat → Prop) (Bs : List (List UInt8)) (Ss : List Int) (most : Int) (k : Nat) (a : Option Addr) (m c : Nat) (l : List UInt8) (w : World) (h : DX w p gb gs vs S Bs Ss most) (hk : k < Bs.length) (hr : Rd w a m c l) (hfit : (m : Int) ≤ most - ((Bs.getD k []).length : Int)) :
    Calls Try.prog 26 #[.pointer (some ⟨p, 0, none⟩), .int .i64 (k : Int), .slice a m c] w
      fun e w' => e = .returned (.int .i64 0) ∧ ∃ vs' S', DX w' p gb gs vs' S' (Bs.set k (Bs.getD k [] ++ l)) Ss most ∧ Ft S w w' ∧ Grew w S S' := by
  have HX := Lib.hid h
  have HR := Lib.hid hr
  have hlen := h.len k
  have hmost := h.most0
  have hn16 := h.n16
  have hp0 := h.p0
  have hml := hr.hlen
  have hTH := Lib.hid (xthere p gb gs vs S Bs Ss most k w h true (by simp [hk]))
  obtain ⟨n, hnn⟩ : ∃ n, Bs.length = n := ⟨_, rfl⟩
  obtain ⟨x0, x1, x2⟩ := h.rp.t3
  have xb := h.cb k hk
  have hrk := h.rd k hk
  obtain ⟨va, vn, vc, hv⟩ : ∃ va vn vc, vs.getD k default = (va, vn, vc) := ⟨_, _, _, rfl⟩
  rw [hv] at xb hrk
  obtain ⟨L, hL⟩ : ∃ L, Bs.getD k [] = L := ⟨_, rfl⟩
  rw [hL] at hrk hlen hfit ⊢
  dsimp only at xb hrk
  have hvn := hrk.hlen
  rw [hnn] at x0 x1 hk hn16
  have HRK := Lib.hid hrk
  have HL := Lib.hid hL
  have HNN := Lib.hid hnn
  have X0 := Lib.hid x0
  have X2 := Lib.hid x2
  have XB := Lib.hid xb
  have hvn' : (vn : Int) = L.length := by rw [hvn]
  rw [← hvn'] at hfit
  clear h hr hL hnn hrk hv
  go_enter Try.func26, Try.ntmps26
  go_wp2_with (go_at_call 40; refine hTH.out.mono ?_; rintro e w1 ⟨rfl, rfl⟩)
  clear x0 x1 x2 xb
  have HVN := Lib.hid hvn
  have HMX := Lib.hid hlen
  have hwr : IntKind.i64.wrap (most - (vn : Int)) = most - (vn : Int) := by rw [IntKind.wrap_i64]; omega
  refine region_w (C := fun v => Below w.heap.size w v) (by kernel_rfl) (by kernel_rfl) (Below.refl _ _).drew ?_
  repeat (first
    | (refine w_read (wanted_free rfl) ?_ ?_ ?_; rotate_left; (focus (intro v hv; have x0 := (hv.cell (p := ⟨p, 0, none⟩) HX.out.rp.lt).trans X0.out; have x2 := (hv.cell (p := ⟨p, 2, none⟩) HX.out.rp.lt).trans X2.out; have xb := (hv.cell (p := ⟨gb, k, none⟩) HX.out.rb.lt).trans XB.out; go_simp; rfl)); go_simp))
  refine w_nil ?_
  intro w4 hb4
  have X4 := Lib.hid (HX.out.mono hb4)
  have R4 := Lib.hid (HR.out.mono hb4)
  have K4 := Lib.hid (HRK.out.mono hb4)
  have F4 : Hid (Ft S w w4) := Lib.hid (Ft.of_below hb4)
  have Y0 := Lib.hid ((hb4.cell (p := ⟨p, 0, none⟩) HX.out.rp.lt).trans X0.out)
  have YB := Lib.hid ((hb4.cell (p := ⟨gb, k, none⟩) HX.out.rb.lt).trans XB.out)
  clear hb4
  go_wp2_with fail
  · exfalso
    have e1 : IntKind.i64.wrap (most - (L.length : Int)) = most - (L.length : Int) := by rw [IntKind.wrap_i64]; omega
    omega
  have D4 : Hid (Below w4.heap.size w4 w4.drew) := Lib.hid (Below.refl _ _).drew
  refine region_t (fun v => Below w4.heap.size w4 v) 16 (by kernel_rfl) (by kernel_rfl) (by kernel_rfl) D4.out ?_
  obtain ⟨wd, hwd⟩ : ∃ wd, w4.drew = wd := ⟨_, rfl⟩
  rw [hwd] at D4 ⊢
  clear hwd
  (refine t_read 0 rfl (by kernel_rfl) (by kernel_rfl) (by kernel_rfl) (t_free rfl) ?_ ?_ ?_; rotate_left; (focus (intro v hv; go_simp; rfl)); go_simp)
  (refine t_read 1 rfl (by kernel_rfl) (by kernel_rfl) (by kernel_rfl) (t_free rfl) ?_ ?_ ?_; rotate_left; (focus (intro v hv; go_simp; rfl)); go_simp)
  (refine t_read 2 rfl (by kernel_rfl) (by kernel_rfl) (by kernel_rfl) (t_free rfl) ?_ ?_ ?_; rotate_left; (focus (intro v hv; go_simp; rfl)); go_simp)
  (refine t_read 3 rfl (by kernel_rfl) (by kernel_rfl) (by kernel_rfl) (t_free rfl) ?_ ?_ ?_; rotate_left; (focus (intro v hv; have y0 := (hv.cell (p := ⟨p, 0, none⟩) X4.out.rp.lt).trans Y0.out; have yb := (hv.cell (p := ⟨gb, k, none⟩) X4.out.rb.lt).trans YB.out; go_simp; rfl)); go_simp)
  (refine t_read 4 rfl (by kernel_rfl) (by kernel_rfl) (by kernel_rfl) (t_free rfl) ?_ ?_ ?_; rotate_left; (focus (intro v hv; go_simp; rfl)); go_simp)
  (refine t_read 5 rfl (by kernel_rfl) (by kernel_rfl) (by kernel_rfl) (t_free rfl) ?_ ?_ ?_; rotate_left; (focus (intro v hv; go_simp; rfl)); go_simp)
  (refine t_read 6 rfl (by kernel_rfl) (by kernel_rfl) (by kernel_rfl) (t_free rfl) ?_ ?_ ?_; rotate_left; (focus (intro v hv; go_simp; rfl)); go_simp)
  (refine t_read 7 rfl (by kernel_rfl) (by kernel_rfl) (by kernel_rfl) (t_free rfl) ?_ ?_ ?_; rotate_left; (focus (intro v hv; go_simp; rfl)); go_simp)
  (refine t_read 8 rfl (by kernel_rfl) (by kernel_rfl) (by kernel_rfl) (t_free rfl) ?_ ?_ ?_; rotate_left; (focus (intro v hv; have y0 := (hv.cell (p := ⟨p, 0, none⟩) X4.out.rp.lt).trans Y0.out; have yb := (hv.cell (p := ⟨gb, k, none⟩) X4.out.rb.lt).trans YB.out; go_simp; rfl)); go_simp)
  (refine t_read 9 rfl (by kernel_rfl) (by kernel_rfl) (by kernel_rfl) (t_free rfl) ?_ ?_ ?_; rotate_left; (focus (intro v hv; go_simp; rfl)); go_simp)
  (refine t_read 10 rfl (by kernel_rfl) (by kernel_rfl) (by kernel_rfl) (t_free rfl) ?_ ?_ ?_; rotate_left; (focus (intro v hv; go_simp; rfl)); go_simp)
  (refine t_read 11 rfl (by kernel_rfl) (by kernel_rfl) (by kernel_rfl) (t_free rfl) ?_ ?_ ?_; rotate_left; (focus (intro v hv; have y0 := (hv.cell (p := ⟨p, 0, none⟩) X4.out.rp.lt).trans Y0.out; have yb := (hv.cell (p := ⟨gb, k, none⟩) X4.out.rb.lt).trans YB.out; go_simp; rfl)); go_simp)
  (refine t_read 13 rfl (by kernel_rfl) (by kernel_rfl) (by kernel_rfl) (t_free rfl) ?_ ?_ ?_; rotate_left; (focus (intro v hv; go_simp; rfl)); go_simp)
  (refine t_list 12 rfl (by kernel_rfl) rfl ?_; intro K hK)
  refine append_rd rfl _ _ rfl w4.heap.size _ [] rfl (Fr.nil _ _) va vn vc L (by go_simp) (K4.out.mono D4.out) (by simp; omega) D4.out.size ?_
  intro v5 w5 hf5 hb5 _
  rw [List.nil_append] at hf5
  obtain ⟨a5, c5, hv5, hr5⟩ := hf5.form' vn HVN.out
  subst hv5
  have F5 := Lib.hid hf5
  have D5 := Lib.hid (D4.out.trans hb5)
  clear hf5 hb5 hr5
  refine hK _ _ D5.out ?_
  go_simp
  (refine t_list 14 rfl (by kernel_rfl) rfl ?_; intro K hK)
  refine append_rd rfl _ _ rfl w4.heap.size (.slice a5 vn c5) L (by go_simp) F5.out a m c l (by go_simp) (R4.out.mono D5.out) (by have := HMX.out; omega) D5.out.size ?_
  intro v6 w6 hf6 hb6 _
  obtain ⟨a6, c6, hv6, hr6⟩ := hf6.form' (vn + m) (by rw [List.length_append, HVN.out, hml])
  subst hv6
  have F6 := Lib.hid hf6
  have R6 := Lib.hid hr6
  have D6 := Lib.hid (D5.out.trans hb6)
  clear hf6 hb6 hr6
  refine hK _ _ D6.out ?_
  go_simp
  (refine t_read 15 rfl (by kernel_rfl) (by kernel_rfl) (by kernel_rfl) (t_free rfl) ?_ ?_ ?_; rotate_left; (focus (intro v hv; go_simp; rfl)); go_simp)
  (refine t_last 16 rfl (by kernel_rfl) rfl (by kernel_rfl) (by kernel_rfl) ?_; intro K hK)
  have X6 := X4.out.mono D6.out
  refine store_cell rfl _ _ _ rfl gb k (.slice a6 (vn + m) c6) (by go_simp) (by go_simp) rfl rfl 30 _ X6.rb infoBytes (by rw [List.length_map, X6.lv, HNN.out]; exact hk) ?_
  intro w7 hr7 hu7
  refine hK _ _ ?_
  have hnew := F6.out.new
  have X7 := Lib.hid (X6.put k (by rw [HNN.out]; exact hk) (a6, vn + m, c6) (L ++ l) hu7 hr7 R6.out (fun b off e => (hnew b off e).2) (by rw [List.length_append, HVN.out, hml]; omega))
  have F7 := Lib.hid ((F4.out.trans (Ft.of_below D6.out)).trans (Ft.of_upd hu7 X6.sb))
  have G7 : Hid (Grew w S (fun b => S b ∨ ∃ off, (a6, vn + m, c6).1 = some ⟨b, off, none⟩)) := Lib.hid (fun b hb => hb.elim .inl fun ⟨off, e⟩ => .inr (Nat.le_trans F4.out.size (hnew b off e).1))
  clear hr7 hu7 hnew X6
  go_simp
  go_wp2_with fail
  go_ret
  exact ⟨rfl, _, _, X7.out, F7.out, G7.out⟩

end Go.Proofs.Ytlohfalpcppcjaa.W
