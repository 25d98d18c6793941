/- CONTRACTS of layer 2 (pack): the reference's writing; slices.Clone, slices.Equal of bytes. -/
import Derived.Test.YtagblhkihammdaaPackW2
namespace Go.Proofs.Ytagblhkihammdaa.W
open Go.ChangeShapes Go.WideShapes Go.ChangeAt Go.RowKit
open Go.Proofs.Ytagblhkihammdaa.P (mk lo hi enc tl gr up)


theorem set_mid (p : List UInt8) (x y : UInt8) (r : List UInt8) (j : Nat) (h : p.length = j) : (p ++ x :: r).set j y = p ++ y :: r := by
  subst h; simp

set_option maxHeartbeats 1000000 in
theorem rnum (a : Option Addr) (len cap : Nat) (n : Int) (l : List UInt8) (w : World) (hr : Rd w a len cap l) (h2 : n ≤ 9223372036854775807) (hmax : len ≤ 140737488355000) :
    Calls Try.prog 32 #[.slice a len cap, .int .i64 n] w fun e w' => ∃ v, e = .returned v ∧ Fr w' w.heap.size v (l ++ enc n.toNat) ∧ Below w.heap.size w w' := by
  have hgl := P.gr_len n.toNat
  have hg9 := P.enc_len n.toNat (by omega)
  rw [← hgl] at hg9
  obtain ⟨p, hp1, hp2⟩ := P.gr_split n.toNat
  have hsm := P.gr_small n.toNat
  have hgr := rgroups n.toNat n w (Nat.le_refl _) h2
  rw [hp1] at hgr hg9 hsm
  have hpl : p.length ≤ 8 := by simp at hg9; omega
  obtain ⟨lst, hlst⟩ : ∃ lst, lo n.toNat = lst := ⟨_, rfl⟩
  rw [hlst] at hgr hp2 hsm
  have hlen := hr.hlen
  have HL := Lib.hid hlen
  have HSM := Lib.hid hsm
  have HP2 := Lib.hid hp2
  have HGR := Lib.hid hgr
  have HR := Lib.hid hr
  clear hgl hg9 hp1 hp2 hgr hr hlst hsm hlen
  obtain ⟨m, hm⟩ : ∃ m : Nat, p.length = m := ⟨_, rfl⟩
  have HM := Lib.hid hm
  rw [hm] at hpl
  clear hm
  go_enter Try.func32, Try.ntmps32
  go_wp2_with fail
  refine HGR.out.mono ?_
  rintro e w1 ⟨v, rfl, hf1, hb1⟩
  obtain ⟨g, gc, hv, hle, hg, hlt⟩ := hf1.pos (by simp)
  have hgl : (p ++ [lst]).length = m + 1 := by simp [HM.out]
  rw [hgl] at hv hle
  rw [hv] at hf1 ⊢
  have HF1 := Lib.hid hf1
  clear hv hf1 hgl
  go_wp2_with fail
  go_loopw [6] (fun i wr => ∃ (j : Nat), i = .int .i64 j ∧ j ≤ m ∧ Hid (Fr wr w.heap.size (.slice (some ⟨g, 0, none⟩) (m + 1) gc) ((p.take j).map up ++ (p.drop j ++ [lst]))) ∧ Below w.heap.size w wr ∧ g < wr.heap.size) (fun i _ => m - (intOf i).toNat)
  case atStart => exact ⟨0, rfl, Nat.zero_le _, Lib.hid (by simpa using HF1.out), hb1, hlt⟩
  case round =>
    obtain ⟨j, rfl, hj, HF, hbr, hgr⟩ := hrel
    by_cases hjm : j < m
    · have hm := HM.out
      have hf := HF.out
      have hjp : j < p.length := by omega
      have hd : p.drop j = p[j] :: p.drop (j + 1) := List.drop_eq_getElem_cons hjp
      have hx := HSM.out p[j] (by simp)
      have htk : (p.take (j + 1)).map up = (p.take j).map up ++ [up p[j]] := by rw [List.take_succ_eq_append_getElem hjp, List.map_append]; rfl
      generalize p[j] = x at *
      rw [hd] at hf
      have hll : m + 1 = ((p.take j).map up ++ (x :: p.drop (j + 1) ++ [lst])).length := by simp; omega
      have hc := hf.cellAt j (by omega) hll
      have hfz := hf.frozenAt j hll
      have hset := hf.set j (up x) hll
      have htl : ((p.take j).map up).length = j := by simp; omega
      rw [show ((p.take j).map up ++ (x :: p.drop (j + 1) ++ [lst])).getD j 0 = x by rw [List.getD_eq_getElem?_getD, List.getElem?_append_right (by omega), htl]; simp] at hc
      rw [List.cons_append, set_mid _ _ _ _ _ htl] at hset
      have hval : Value.int .u8 ((x.toNat : Int) + 128) = B (up x) := by
        unfold B up; rw [UInt8.toNat_ofNat']; exact vint (by omega)
      have HSET := Lib.hid hset
      have HTK := Lib.hid htk
      have HV := Lib.hid hval
      have hx0 : (x.toNat : Int) < 128 := by omega
      clear hm hf hjp hd hx htk hll hset htl hval
      unfold B at hc
      go_wp2_with fail
      go_roundw
      case rel =>
        refine ⟨j + 1, by go_num, by omega, Lib.hid ?_, hbr.trans ((Upd.setCell _ _ _ _).below hg), by rw [(Upd.setCell wr _ _ _).size]; exact hgr⟩
        rw [HV.out, HTK.out, List.append_assoc]; exact HSET.out
      case measure => simp [intOf]; omega
    · obtain rfl : j = m := by omega
      have hf := HF.out
      rw [List.take_of_length_le (by rw [HM.out]; omega), List.drop_eq_nil_of_le (by rw [HM.out]; omega), List.nil_append, ← HP2.out] at hf
      obtain ⟨ga, gc2, hv, hrd, -⟩ := hf.form
      have h9 := P.enc_len n.toNat (by omega)
      have hel : (enc n.toNat).length = j + 1 := by rw [HP2.out]; simp [HM.out]
      rw [hel] at hrd hv
      simp only [Value.slice.injEq, true_and] at hv
      obtain ⟨rfl, rfl⟩ := hv
      have hsz := hbr.size
      have HRD := Lib.hid hrd
      have HEL := Lib.hid hel
      have hll := HL.out
      have HRR := Lib.hid (HR.out.mono hbr)
      clear hf h9 hel hrd hll
      go_wp2_with fail
      refine (rcopied _ _ _ l _ HRR.out hmax).mono ?_
      rintro e w2 ⟨v2, rfl, hf2, hb2⟩
      have hs2 := hb2.size
      have HRD2 := Lib.hid (HRD.out.mono hb2)
      go_wp2_with (at_builtin; refine append_rd rfl _ _ rfl wr.heap.size _ l rfl hf2 _ _ _ (enc n.toNat) rfl HRD2.out (by rw [HL.out]; omega) (by omega) ?_; intro v3 w3 hf3 hb3 _)
      go_ret
      exact ⟨_, rfl, hf3.base hsz, hbr.trans ((hb2.trans hb3).mono hsz)⟩


set_option maxHeartbeats 400000 in
theorem rtext (a : Option Addr) (len cap : Nat) (s : ByteArray) (l : List UInt8) (w : World) (hr : Rd w a len cap l) (hs : s.size ≤ 70000000000000) (hmax : len ≤ 70000000000000) :
    Calls Try.prog 34 #[.slice a len cap, .string s] w fun e w' => ∃ v, e = .returned v ∧ Fr w' w.heap.size v (l ++ (enc s.size ++ s.data.toList)) ∧ Below w.heap.size w w' := by
  have hn := rnum a len cap (s.size : Int) l w hr (by omega) (by omega)
  rw [Int.toNat_natCast] at hn
  have h9 := P.enc_len s.size (by omega)
  have hl := hr.hlen
  have HN := Lib.hid hn
  have H9 := Lib.hid h9
  have HL := Lib.hid hl
  clear hn hr h9 hl
  go_enter Try.func34, Try.ntmps34
  go_wp2_with fail
  refine HN.out.mono ?_
  rintro e w1 ⟨v, rfl, hf1, hb1⟩
  have hs1 := hb1.size
  go_wp2_with (at_builtin; refine append_str rfl _ _ rfl w.heap.size _ (l ++ enc s.size) rfl hf1 s rfl (by have := HL.out; have := H9.out; simp; omega) hs1 ?_; intro v2 w2 hf2 hb2 _)
  go_ret
  refine ⟨_, rfl, ?_, hb1.trans hb2⟩
  rw [← List.append_assoc]; exact hf2

/-! ### the library's -/





end Go.Proofs.Ytagblhkihammdaa.W
