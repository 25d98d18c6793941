/- CONTRACTS of layer 7 (keyring): the closure that makes a lane's keys. -/
import Derived.Test.YtagblhkihammdaaDoorKrA
namespace Go.Proofs.YtagblhkihammdaaDoor.W
open Go Go.ChangeShapes Go.WideShapes Go.ChangeAt Go.RowKit

/-- a read of one cell, or whatever, in a region's head, at any world of the class -/
theorem quiet_get {P : Program} {ops : Array Oper} {C : World → Prop} {Q : Act → Prop} {rest : List Oper} {o : Oper} {a : Act} (hgd : o.guard = none) (v : Value)
    (hrun : ∀ w, C w → (execOp a.eval o).run P w = .ok (.value v) w) (h : wpQuiet P ops C Q rest (a.put o.dst v)) : wpQuiet P ops C Q (o :: rest) a := by
  unfold wpQuiet
  rw [if_pos (by simp [Region.wanted, hgd])]
  refine ⟨v, fun w hw => ?_, h⟩
  unfold Oper.quietAt
  rw [hrun w hw]
  exact ⟨rfl, rfl⟩
theorem splice3 (a b c : Value) : ∀ (k : Nat) (L : List Value), k + 3 ≤ L.length → splice L k [a, b, c] = ((L.set k a).set (k + 1) b).set (k + 2) c
  | 0, x :: y :: z :: t, _ => by simp [splice]
  | k + 1, x :: t, h => by
    have ih := splice3 a b c k t (by simp at h; omega)
    have e : splice (x :: t) (k + 1) [a, b, c] = x :: splice t k [a, b, c] := by
      unfold splice
      rw [show k + 1 + [a, b, c].length = (k + [a, b, c].length) + 1 by omega]; rfl
    rw [e, ih]; rfl
  | 0, [], h => by simp at h
  | 0, [_], h => by simp at h
  | 0, [_, _], h => by simp at h
  | k + 1, [], h => by simp at h

set_option maxRecDepth 100000 in
set_option maxHeartbeats 4000000 in
theorem clos_any (g l : Nat) (hl : l < 5) (m : ByteArray) (r1 r2 r3 : Nat) (L : List Value) (n : Int) (T P G : ByteArray) (w : World) (hK : Ks w) (hm : m.size ≤ 40000000000000)
    (hrow : Row w g 61 L) (hlen : L.length = 33) (hL1 : L[1]? = some (.string m)) (hLn : L[32]? = some (.int .i64 n)) (hn0 : 0 ≤ n) (hn1 : n ≤ 1000)
    (hT : keyV m l 0 = T) (hP : keyV m l 1 = P) (hG : keyV m l 2 = G)
    (c1 : w.cell? ⟨r1, 0, none⟩ = some (.pointer (some ⟨g, 0, none⟩))) (c2 : w.cell? ⟨r2, 0, none⟩ = some (.int .i64 (l : Int))) (c3 : w.cell? ⟨r3, 0, none⟩ = some (.pointer (some ⟨g, 2 + l * 6, none⟩)))
    (h1 : r1 < w.heap.size) (h2 : r2 < w.heap.size) (h3 : r3 < w.heap.size) (n1 : r1 ≠ g) :
    Calls Tryd.prog 92 #[.pointer (some ⟨r1, 0, none⟩), .pointer (some ⟨r2, 0, none⟩), .pointer (some ⟨r3, 0, none⟩)] w fun e w' => e = .returned (.tuple #[]) ∧
      Row w' g 61 ((((L.set (2 + l * 6 + 3) (.string T)).set (2 + l * 6 + 4) (.string P)).set (2 + l * 6 + 5) (.string G)).set 32 (.int .i64 (n + 1))) ∧ Gw g w w' := by
  have HKW := Lib.hid hK
  have HROW := Lib.hid hrow
  have HL1 := Lib.hid hL1
  have HLN := Lib.hid hLn
  have HLEN := Lib.hid hlen
  have HT := Lib.hid hT
  have HP := Lib.hid hP
  have HG := Lib.hid hG
  have C1 := Lib.hid c1
  have C2 := Lib.hid c2
  have C3 := Lib.hid c3
  have HKS := Lib.hid lanes_size
  have d1 := fun v (hv : Below w.heap.size w v) => (hv.cell (p := ⟨r1, 0, none⟩) h1).trans c1
  have d2 := fun v (hv : Below w.heap.size w v) => (hv.cell (p := ⟨r2, 0, none⟩) h2).trans c2
  have d3 := fun v (hv : Below w.heap.size w v) => (hv.cell (p := ⟨r3, 0, none⟩) h3).trans c3
  have dm : ∀ v, Below w.heap.size w v → v.cell? ⟨g, 1, none⟩ = some (.string m) := fun v hv => by rw [(hrow.below hv hrow.lt).cellV]; exact hL1
  have D1 := Lib.hid d1
  have D2 := Lib.hid d2
  have D3 := Lib.hid d3
  have DM := Lib.hid dm
  clear hK hrow hlen hL1 hLn hT hP hG c1 c2 c3 d1 d2 d3 dm
  go_enter Tryd.func92, Tryd.ntmps92
  go_wp2_with fail
  refine wp_region_quiet_tail (C := fun v => Below w.heap.size w v) 22 (by kernel_rfl) (by kernel_rfl) (Below.refl _ _).drew ?_
  simp only [List.take_succ_cons, List.take_zero, List.drop_succ_cons, List.drop_zero]
  refine quiet_get rfl (.pointer (some ⟨g, 2 + l * 6, none⟩)) (fun v hv => by have := D3.out v hv; go_simp) ?_
  refine quiet_get rfl (.pointer (some ⟨g, 0, none⟩)) (fun v hv => by have := D1.out v hv; go_simp) ?_
  refine quiet_val rfl (.pointer (some ⟨g, 0, none⟩)) (fun _ => by go_simp) ?_
  refine quiet_val rfl (.pointer (some ⟨g, 1, none⟩)) (fun _ => by go_simp) ?_
  refine quiet_get rfl (.string m) (fun v hv => by have := DM.out v hv; go_simp) ?_
  refine quiet_get rfl (.int .i64 (l : Int)) (fun v hv => by have := D2.out v hv; go_simp) ?_
  refine quiet_call rfl 14 #[.string m, .string ⟨#[116, 111, 107, 101, 110]⟩, .int .i64 (l : Int)] (fun _ => by go_simp) (.string T) (fun v hv => (derive_any m ⟨#[116, 111, 107, 101, 110]⟩ (l : Int) v (HKW.out.below hv HKW.out.pos) (by omega) (by decide)).mono fun e v' ⟨he, hb⟩ => ⟨by rw [he, ← HT.out]; rfl, hv.trans (hb.mono hv.size)⟩) ?_
  refine quiet_get rfl (.pointer (some ⟨g, 0, none⟩)) (fun v hv => by have := D1.out v hv; go_simp) ?_
  refine quiet_val rfl (.pointer (some ⟨g, 0, none⟩)) (fun _ => by go_simp) ?_
  refine quiet_val rfl (.pointer (some ⟨g, 1, none⟩)) (fun _ => by go_simp) ?_
  refine quiet_get rfl (.string m) (fun v hv => by have := DM.out v hv; go_simp) ?_
  refine quiet_get rfl (.int .i64 (l : Int)) (fun v hv => by have := D2.out v hv; go_simp) ?_
  refine quiet_call rfl 14 #[.string m, .string ⟨#[112, 117, 116]⟩, .int .i64 (l : Int)] (fun _ => by go_simp) (.string P) (fun v hv => (derive_any m ⟨#[112, 117, 116]⟩ (l : Int) v (HKW.out.below hv HKW.out.pos) (by omega) (by decide)).mono fun e v' ⟨he, hb⟩ => ⟨by rw [he, ← HP.out]; rfl, hv.trans (hb.mono hv.size)⟩) ?_
  refine quiet_get rfl (.pointer (some ⟨g, 0, none⟩)) (fun v hv => by have := D1.out v hv; go_simp) ?_
  refine quiet_val rfl (.pointer (some ⟨g, 0, none⟩)) (fun _ => by go_simp) ?_
  refine quiet_val rfl (.pointer (some ⟨g, 1, none⟩)) (fun _ => by go_simp) ?_
  refine quiet_get rfl (.string m) (fun v hv => by have := DM.out v hv; go_simp) ?_
  refine quiet_get rfl (.int .i64 (l : Int)) (fun v hv => by have := D2.out v hv; go_simp) ?_
  refine quiet_call rfl 14 #[.string m, .string ⟨#[103, 101, 116]⟩, .int .i64 (l : Int)] (fun _ => by go_simp) (.string G) (fun v hv => (derive_any m ⟨#[103, 101, 116]⟩ (l : Int) v (HKW.out.below hv HKW.out.pos) (by omega) (by decide)).mono fun e v' ⟨he, hb⟩ => ⟨by rw [he, ← HG.out]; rfl, hv.trans (hb.mono hv.size)⟩) ?_
  refine quiet_val rfl (.agg #[.string T, .string P, .string G]) (fun _ => by go_simp) ?_
  refine quiet_val rfl (.pointer (some ⟨g, 2 + l * 6, none⟩)) (fun _ => by go_simp) ?_
  refine quiet_val rfl (.pointer (some ⟨g, 2 + l * 6 + 3, none⟩)) (fun _ => by go_simp) ?_
  refine wpQuiet_nil ?_
  intro w4 hb4
  have hrow4 := HROW.out.below hb4 HROW.out.lt
  refine store_part rfl _ _ _ rfl g (2 + l * 6 + 3) [.string T, .string P, .string G] (by go_simp) (by go_simp) 61 _ hrow4 HKS.out (by rw [HLEN.out]; simp; omega) (by intro v hv; simp at hv; rcases hv with rfl | rfl | rfl <;> rfl) ?_
  intro w5 hr5 hu5
  rw [splice3 _ _ _ _ _ (by rw [HLEN.out]; omega)] at hr5
  have HR5 := Lib.hid hr5
  have HG5 := Lib.hid ((Gw.of_below hb4).trans (Gw.upd hu5))
  have e1 : w5.cell? ⟨r1, 0, none⟩ = some (.pointer (some ⟨g, 0, none⟩)) := by rw [HG5.out.cell h1 n1]; exact C1.out
  have e32 : w5.cell? ⟨g, 32, none⟩ = some (.int .i64 n) := by
    rw [hr5.cellV, List.getElem?_set_ne (by omega), List.getElem?_set_ne (by omega), List.getElem?_set_ne (by omega)]
    exact HLN.out
  have z32 : w5.frozen? ⟨g, 32, none⟩ = false := hr5.frozen 32
  clear hr5 hu5 hb4 hrow4
  go_simp
  go_wp2_with fail
  refine (a64_add g 32 n w5 e32 z32 hn0 hn1).mono ?_
  rintro e w6 ⟨rfl, rfl⟩
  go_wp2_with fail
  go_end0
  exact ⟨rfl, HR5.out.setV 32 _, HG5.out.trans (Gw.upd (Upd.setCell _ _ _ _))⟩

end Go.Proofs.YtagblhkihammdaaDoor.W
