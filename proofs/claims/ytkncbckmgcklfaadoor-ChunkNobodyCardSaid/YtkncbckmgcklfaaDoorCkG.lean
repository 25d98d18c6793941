/- LAYER 28 (chunk): the program's Sync. -/
import Derived.Test.YtkncbckmgcklfaaDoorCkF
set_option linter.unusedSimpArgs false
set_option linter.unusedVariables false
namespace Go.Proofs.YtkncbckmgcklfaaDoor.W
open Go Go.ChangeShapes Go.WideShapes Go.ChangeAt Go.RowKit
open Go.Proofs.YtkncbckmgcklfaaDoor.P (shaL shaL_len)

/-- the first k of them turned -/
def headsX (g : FX → FX) (k : Nat) (X : List FX) : List FX := (X.take k).map g ++ X.drop k
theorem heads_at (g : FX → FX) (k : Nat) (X : List FX) (x : FX) (h : X[k]? = some x) : (headsX g k X)[k]? = some x := by
  obtain ⟨h1, h2⟩ := List.getElem?_eq_some_iff.1 h
  unfold headsX
  rw [List.getElem?_append_right (by simp; omega)]
  simp only [List.length_map, List.length_take, Nat.min_eq_left (Nat.le_of_lt h1), Nat.sub_self]
  rw [List.getElem?_drop]; simpa using h
theorem heads_next (g : FX → FX) (k : Nat) (X : List FX) (x : FX) (h : X[k]? = some x) : headsX g (k + 1) X = (headsX g k X).set k (g x) := by
  obtain ⟨h1, h2⟩ := List.getElem?_eq_some_iff.1 h
  unfold headsX
  rw [List.take_succ_eq_append_getElem h1, h2, List.map_append, List.set_append_right _ _ (by simp; omega)]
  simp only [List.length_map, List.length_take, Nat.min_eq_left (Nat.le_of_lt h1), Nat.sub_self]
  rw [List.drop_eq_getElem_cons h1, h2]
  simp
theorem heads_len (g : FX → FX) (k : Nat) (X : List FX) : (headsX g k X).length = X.length := by unfold headsX; simp; omega
theorem heads_all (g : FX → FX) (X : List FX) : headsX g X.length X = X.map g := by unfold headsX; simp
theorem heads_none (g : FX → FX) (X : List FX) : headsX g 0 X = X := by unfold headsX; simp
/-- one file is another one, with the same blocks -/
theorem CK.same {w w' : World} {p m i : Nat} {room : Int} {X : List FX} {S : Nat → Prop} {x y : FX} (h : CK w p m room X S) (hi : X[i]? = some x) (hs : y.f.s = x.f.s) (hg : w.grownBy w' (some m)) (hsm : SM w' m (X.set i y).length (MX (X.set i y)))
    (eb : ∀ g, y.bv.ownBlock = some g → x.bv.ownBlock = some g) (et : ∀ g, y.tv.ownBlock = some g → x.tv.ownBlock = some g) (ob : Fr w 0 y.bv y.f.b) (ot : LsO intE w 0 y.tv y.f.t) : CK w' p m room (X.set i y) S ∧ Ft S w w' := by
  have hx := List.mem_of_getElem? hi
  refine h.turn hg hsm (apart_set h.pb hi fun b hb => .inl (eb b hb)) (apart_set h.pt hi fun b hb => .inl (et b hb)) (fun z hz => ?_) (fun z hz => ?_) (fun z hz => ?_) (fun z hz => ?_)
  · rcases List.mem_or_eq_of_mem_set hz with h1 | rfl
    · exact h.ob z h1
    · exact ob
  · rcases List.mem_or_eq_of_mem_set hz with h1 | rfl
    · exact h.ot z h1
    · exact ot
  · rcases List.mem_or_eq_of_mem_set hz with h1 | rfl
    · exact h.Sb z h1
    · exact fun g e => h.Sb x hx g (eb g e)
  · rcases List.mem_or_eq_of_mem_set hz with h1 | rfl
    · exact h.St z h1
    · exact fun g e => h.St x hx g (et g e)
def syX (x : FX) : FX := ⟨⟨x.f.s, x.f.b, x.f.b.length, x.f.t⟩, x.bv, x.tv⟩
theorem sy_f (X : List FX) : (X.map syX).map (·.f) = syncC (X.map (·.f)) := by unfold syncC; rw [List.map_map, List.map_map]; rfl
theorem sy_keys (k : Nat) (X : List FX) : (headsX syX k X).map (·.f.s) = X.map (·.f.s) := by
  unfold headsX
  rw [List.map_append, List.map_map]
  conv => rhs; rw [← List.take_append_drop k X, List.map_append]
  rfl
set_option maxRecDepth 100000 in
set_option maxHeartbeats 4000000 in
theorem csync {p m T : Nat} {room : Int} {X : List FX} {S : Nat → Prop} {w : World} (h : CK w p m room X S) (hok : ∀ x ∈ X, FiOk T x.f) (hn : X.length ≤ 524288) :
    Calls Tryd.prog 7 #[.pointer (some ⟨p, 0, none⟩)] w fun e w' => e = .returned (.int .i64 (looseC (X.map (·.f)) : Nat)) ∧ CK w' p m room (X.map syX) S ∧ Ft S w w' := by
  have H := Lib.hid h
  have HL := Lib.hid (clooseN h (fun x hx => ⟨(hok x hx).b2, (hok x hx).su⟩) hn)
  have HS := Lib.hid (fun w' (hb : Below w.heap.size w w') => csums (h.mono hb) hn)
  have HN := Lib.hid hn
  have HOK := Lib.hid hok
  have FZ := Lib.hid file_zero
  have SZ := Lib.hid file_size
  obtain ⟨n, hnn⟩ : ∃ n, X.length = n := ⟨_, rfl⟩
  have HNN := Lib.hid hnn
  obtain ⟨lo, hlo⟩ : ∃ lo : Nat, looseC (X.map (·.f)) = lo := ⟨_, rfl⟩
  rw [hlo] at HL ⊢
  have hn2 : n ≤ 524288 := by omega
  clear h hok hn hnn hlo
  go_enter Tryd.func7, Tryd.ntmps7
  go_wp2_with (first
    | (go_at_call 14; (with_reducible refine HL.out.mono ?_); rintro e w1 ⟨rfl, hb⟩; have B1 := Lib.hid hb; clear hb)
    | (go_at_call 27; (with_reducible refine (HS.out w1 B1.out).mono ?_); rintro e w2 ⟨sv, rfl, hl, hb⟩; obtain ⟨sa, sc, rfl, hsl, -⟩ := hl.ls strOk (fun s hs => by obtain ⟨x, hx, rfl⟩ := List.mem_map.1 hs; have h5 := (HOK.out x hx).s; show x.f.s.size ≤ maxLen; unfold maxLen; omega); have SO := Lib.hid (show ∀ b off s, sa = some ⟨b, off, s⟩ → w.heap.size ≤ b ∧ b < w2.heap.size from fun b off s e => by subst e; exact ⟨Nat.le_trans B1.out.size (World.ownsRow.lt hl b rfl).1, (World.ownsRow.lt hl b rfl).2⟩); rw [List.length_map, HNN.out] at hsl ⊢; have SL := Lib.hid hsl; have B2 := Lib.hid (B1.out.trans (hb.mono B1.out.size)); have C2 := Lib.hid (H.out.mono B2.out); clear hl hb hsl))
  go_loopw [5, 6, 12] (fun _ _ i wr => ∃ (k : Nat), i = .int .i64 (k : Int) ∧ k ≤ n ∧ Hid (CK wr p m room (headsX syX k X) S) ∧ Hid (Ft S w2 wr)) (fun _ _ i _ => n - (intOf i).toNat)
  case atStart => exact ⟨0, rfl, Nat.zero_le _, Lib.hid (by rw [heads_none]; exact C2.out), Lib.hid (Ft.refl _ _)⟩
  case round =>
    obtain ⟨k, rfl, hk, C, F⟩ := hrel
    by_cases hlt : k < n
    · obtain ⟨x, hx⟩ : ∃ x, X[k]? = some x := ⟨X[k]'(by rw [HNN.out]; exact hlt), by simp [HNN.out, hlt]⟩
      have hxm : x ∈ X := List.mem_of_getElem? hx
      have hxk := heads_at syX k X x hx
      have SLr := Lib.hid (SL.out.stay F.out.size (fun b off s e _ => F.out.block b (SO.out b off s e).2 (fun hs => absurd (H.out.lt b hs) (Nat.not_lt.2 (SO.out b off s e).1))) SL.out.hfit)
      obtain ⟨sb, so, s, rfl, hs1, hc1, -⟩ := SLr.out.at strOk (Below.refl _ _) k hlt
      have hs2 : s = x.f.s := by
        rw [List.getElem?_map, hx] at hs1
        exact (Option.some.inj hs1).symm
      subst hs2
      have d1 : wr.cell? ⟨sb, so + k, none⟩ = some (.string x.f.s) := by have := hc1 0 (.string x.f.s) rfl; rw [show so + k * strE.k + 0 = so + k by show so + k * 1 + 0 = so + k; omega] at this; exact this
      have g1 : (0 : Int) ≤ (k : Int) := by omega
      have g2 : (k : Int) < (n : Int) := by omega
      have okx := HOK.out x hxm
      have hsm : x.f.s.size ≤ maxLen := by have := okx.s; unfold maxLen; omega
      have hxm2 : x ∈ headsX syX k X := List.mem_of_getElem? hxk
      have lk := (look_yes (s := x.f.s) 24 50 map_type _ (file_zv wr) C.out.sm hsm (C.out.at hxm2)).1
      have c1 := C.out.rp.k2.2
      have HXK := Lib.hid hxk
      have HXN := Lib.hid (heads_next syX k X x hx)
      have HX := Lib.hid hx
      have HSM := Lib.hid hsm
      obtain ⟨fa, fc, hbv, -⟩ := (C.out.ob x hxm2).form
      have OC := Lib.hid (lso_cell (C.out.ot x hxm2))
      obtain ⟨⟨xs, xb, xu, xt⟩, xbv, xtv⟩ := x
      dsimp only at hbv lk OC hs1 d1 hsm HSM ⊢
      replace lk : (Instr.lookup 24 (.map (some m)) (.string xs) false).run Tryd.prog wr = .ok (.agg (fiC xs xbv xu xtv).toArray) wr := lk
      obtain ⟨bl, hbl⟩ : ∃ bl, xb.length = bl := ⟨_, rfl⟩
      have HBL := Lib.hid hbl
      rw [hbl] at hbv
      subst hbv
      clear hs1 hc1 okx hx hxm hbl hxm2 hxk
      go_wp2_with (first
        | ((with_reducible refine alloc_row (o := ⟨some 6, _, _, _, _, _⟩) rfl _ rfl _ FZ.out ?_); intro w3 hr hb hz; have R3 := Lib.hid hr; have B3 := Lib.hid hb; clear hr hb hz)
        | ((with_reducible refine store_row (o := ⟨none, _, _, _, _, _⟩) rfl _ (.tmp 6) _ rfl wr.heap.size (fiC xs (.slice fa bl fc) xu xtv) ?_ ?_ 50 _ R3.out ?_ ?_ ?_ ?_); (focus go_simp); (focus (first | (go_simp; done) | (go_simp; rfl))); (focus (exact SZ.out)); (focus rfl); (focus (exact fi_one _ _ _ _ rfl OC.out)); intro w4 hr hu; have R4 := Lib.hid hr; have B4 := Lib.hid (B3.out.trans (hu.below (Nat.le_refl _))); obtain ⟨q0, q1, q2, q3⟩ := hr.k4; clear hr hu q0 q3 q2)
        | ((with_reducible refine store_cell (o := ⟨none, _, _, _, _, _⟩) rfl _ (.tmp 25) _ rfl wr.heap.size 2 (.int .i64 (bl : Int)) ?_ ?_ rfl rfl 50 _ R4.out ?_ ?_ ?_); (focus go_simp); (focus (first | (go_simp; done) | (go_simp; rfl))); (focus (kernel_rfl)); (focus (show 2 < 4; decide)); intro w5 hr hu; have R5 := Lib.hid (show Row w5 wr.heap.size 50 (fiC xs (.slice fa bl fc) bl xtv) from hr); have B5 := Lib.hid (B4.out.trans (hu.below (Nat.le_refl _))); clear hr hu q1))
      have D5 : Hid (Below w5.heap.size w5 w5.drew) := Lib.hid (Below.refl _ _).drew
      have C5 := Lib.hid (C.out.mono B5.out)
      refine region_t (fun v => Below w5.heap.size w5 v) 6 (by kernel_rfl) (by kernel_rfl) (by kernel_rfl) D5.out ?_
      obtain ⟨wd, hwd⟩ : ∃ wd, w5.drew = wd := ⟨_, rfl⟩
      rw [hwd] at D5 ⊢
      clear hwd c1 lk d1
      (refine t_read 0 rfl (by kernel_rfl) (by kernel_rfl) (by kernel_rfl) (t_free rfl) ?_ ?_ ?_; rotate_left; (focus (intro v hv; go_simp; rfl)); go_simp)
      (refine t_read 1 rfl (by kernel_rfl) (by kernel_rfl) (by kernel_rfl) (t_free rfl) ?_ ?_ ?_; rotate_left; (focus (intro v hv; go_simp; rfl)); go_simp)
      (refine t_read 2 rfl (by kernel_rfl) (by kernel_rfl) (by kernel_rfl) (t_free rfl) ?_ ?_ ?_; rotate_left; (focus (intro v hv; go_simp; rfl)); go_simp)
      (refine t_read 3 rfl (by kernel_rfl) (by kernel_rfl) (by kernel_rfl) (t_free rfl) ?_ ?_ ?_; rotate_left; (focus (intro v hv; have c1 := (hv.cell (p := ⟨p, 1, none⟩) C5.out.rp.lt).trans C5.out.rp.k2.2; go_simp; rfl)); go_simp)
      (refine t_read 4 rfl (by kernel_rfl) (by kernel_rfl) (by kernel_rfl) (t_free rfl) ?_ ?_ ?_; rotate_left; (focus (intro v hv; go_simp; rfl)); go_simp)
      (refine t_read 5 rfl (by kernel_rfl) (by kernel_rfl) (by kernel_rfl) (t_free rfl) ?_ ?_ ?_; rotate_left; (focus (intro v hv; refine lg_all 50 (.tmp 6) ?_ wr.heap.size ?_ _ _ _ (R5.out.below hv R5.out.lt) Tryd.underlying50 rfl SZ.out; (focus rfl); (focus go_simp))); go_simp)
      (refine t_last 6 rfl (by kernel_rfl) rfl (by kernel_rfl) (by kernel_rfl) ?_; intro K hK)
      have C6 := C5.out.mono D5.out
      refine map_put rfl _ _ _ 24 50 rfl map_type m _ _ (by go_simp) C6.sm (by rw [heads_len]; have := HN.out; omega) xs (.agg (fiC xs (.slice fa bl fc) bl xtv).toArray) (by go_simp) HSM.out (by go_simp) (MX ((headsX syX k X).set k (syX ⟨⟨xs, xb, xu, xt⟩, .slice fa bl fc, xtv⟩))) (ris_set C6.sm.ris HXK.out rfl) (fun q => (mx_set (y := syX ⟨⟨xs, xb, xu, xt⟩, .slice fa bl fc, xtv⟩) C6.sm.ris HXK.out rfl q).trans (Iff.of_eq (by rw [← HBL.out]; rfl))) ?_
      intro w7 hsm7 hg7 hz7
      refine hK _ _ ?_
      have P := C6.same (i := k) (y := syX ⟨⟨xs, xb, xu, xt⟩, .slice fa bl fc, xtv⟩) HXK.out rfl hg7 (by have := hsm7.tight; rw [mx_len] at this; exact this) (fun g e => e) (fun g e => e) (show Fr _ 0 (.slice fa bl fc) xb from C6.ob ⟨⟨xs, xb, xu, xt⟩, .slice fa bl fc, xtv⟩ (List.mem_of_getElem? HXK.out)) (show LsO intE _ 0 xtv xt from C6.ot ⟨⟨xs, xb, xu, xt⟩, .slice fa bl fc, xtv⟩ (List.mem_of_getElem? HXK.out))
      rw [← HXN.out] at P
      have C7 := Lib.hid P.1
      have F7 := Lib.hid (F.out.trans ((Ft.of_below (B5.out.trans (D5.out.mono B5.out.size))).trans P.2))
      clear hsm7 hg7 hz7 P C6
      go_simp
      go_wp2_with fail
      go_roundw
      case rel => exact ⟨k + 1, vint (by omega), by omega, C7, F7⟩
      case measure => simp [intOf]; omega
    · obtain rfl : n = k := by omega
      go_wp2_with fail
      go_ret
      refine ⟨rfl, ?_, (Ft.of_below B2.out).trans F.out⟩
      have := C.out
      rw [← HNN.out, heads_all] at this
      exact this
end Go.Proofs.YtkncbckmgcklfaaDoor.W
