/- WHAT IS LAID of layer 3 (sha), and THE LAWS ShaNobody and ShaPads. -/
import Derived.Test.YtembbdlkpdnekaaDoorShaF
import Derived.Lib.LaidTab
import Derived.Lay
namespace Go.Proofs.YtembbdlkpdnekaaDoor.W
open Go.ChangeShapes Go.WideShapes Go.ChangeAt Go.RowKit
open Go.Proofs.YtembbdlkpdnekaaDoor.P

def laidS : List (String × DataW Unit) := [("bailey/sha.constants", Rows.laid_bailey_sha_constants)]
theorem ks_of_laid {W : World} (h : laidMet Tryd.prog laidS W) : Ks W := by
  have hT : Lib.TabIs Tryd.prog W "bailey/sha.constants" .u32 (Kc.map fun x => (x.toNat : Int)) :=
    Lib.tabIs_of_head (rest := []) (g := 0) (t := 57) (e := 22) (n := 64) (by kernel_rfl) (by kernel_rfl) Tryd.underlying57 Tryd.underlying22 (by kernel_rfl) (by kernel_rfl) h
  have hc : ∀ i, i < 64 → W.cell? ⟨0, i, none⟩ = some (.int .u32 ((Kc.map fun x => (x.toNat : Int)).getD i 0)) := fun i hi => hT.cell (by kernel_rfl) i (by simpa [Kc_len] using hi)
  refine ⟨World.block_lt_of_cell? W _ (hc 0 (by decide)), fun j v hj => ?_⟩
  have hj64 : j < 64 := by have := (List.getElem?_eq_some_iff.1 hj).1; simpa [Kc_len] using this
  rw [hc j hj64, ← hj]
  have hk : j < Kc.length := by rw [Kc_len]; exact hj64
  simp [U, hk]

theorem awake3 (w : World) (hK : Ks w) : Calls Tryd.prog 17 #[] w fun e w' => e = .returned (.bool true) ∧ Below w.heap.size w w' := by
  have hc := (shasum_any none 0 0 [] w hK (Rd_nil w) (by decide))
  have HC := Lib.hid hc
  have HS : Hid (((str (shaL [])).toList == [227, 176, 196, 66, 152, 252, 28, 20, 154, 251, 244, 200, 153, 111, 185, 36, 39, 174, 65, 228, 100, 155, 147, 76, 164, 149, 153, 27, 120, 82, 184, 85]) = true) := Lib.hid (by rw [sha_nothing]; decide +kernel)
  obtain ⟨S, hS⟩ : ∃ S, str (shaL []) = S := ⟨_, rfl⟩
  rw [hS] at HC HS
  have hs := HS.out
  clear hc hS hK HS
  go_enter Tryd.func17, Tryd.ntmps17
  go_wp2_with fail
  refine HC.out.mono ?_
  rintro e w' ⟨rfl, hb⟩
  go_wp2_with fail
  go_ret
  exact ⟨by first | rfl | exact one (vbool hs), hb⟩

set_option maxRecDepth 100000 in
set_option maxHeartbeats 4000000 in
theorem law_ShaNobody (a : Option Addr) (len cap : Nat) (zs : List Int) (w : World) (hK : Ks w) (_ : IsRow .u8 w a len cap zs) :
    Calls Tryd.prog 7 #[.slice a len cap] w fun e w' => e = .returned (.bool true) ∧ Below w.heap.size w w' := by
  obtain ⟨Z0, hZ0⟩ : ∃ x, HL0 = x := ⟨_, rfl⟩
  have HZ0 := Lib.hid (show (Tryd.prog.info? 44).map (·.zero) = some (some (.agg Z0.toArray)) by rw [← hZ0]; exact zeroH)
  have HZ73 := Lib.hid (show Z0[73]? = some (.bool false) by rw [← hZ0]; rfl)
  have HK := Lib.hid hK
  clear hZ0 hK
  go_enter Tryd.func7, Tryd.ntmps7
  go_wp2_with (first
    | (with_reducible refine alloc_row (o := ⟨some 4, _, _, _, _, _⟩) rfl _ rfl _ HZ0.out ?_; intro w1 hr1 hb1 hz1
       have HZZ : Hid (HZ w1 w.heap.size) := Lib.hid (by unfold HZ; rw [hr1.cellV, HZ73.out])
       have HK1 := Lib.hid (HK.out.below hb1 HK.out.pos)
       have HSZ1 := Lib.hid hb1.size
       clear hr1 hz1)
    | (go_at_call 25; first | ((with_reducible refine (write_nil _ _).mono ?_); rintro e w' ⟨rfl, rfl⟩) | ((with_reducible refine (write_zero _ _ _ HZZ.out).mono ?_); rintro e w' ⟨rfl, rfl⟩))
    | (go_at_call 26; first | ((with_reducible refine (sum_nil _).mono ?_); rintro e w' ⟨rfl, rfl⟩) | ((with_reducible refine (sum_zero _ _ HZZ.out).mono ?_); rintro e w' ⟨rfl, rfl⟩))
    | (go_at_call 27; first | ((with_reducible refine (len_nil _).mono ?_); rintro e w' ⟨rfl, rfl⟩) | ((with_reducible refine (len_zero _ _ HZZ.out).mono ?_); rintro e w' ⟨rfl, rfl⟩))
    | (go_at_call 17; ((with_reducible refine (awake3 _ HK1.out).mono ?_); rintro e w2 ⟨rfl, hb2⟩)))
  go_ret
  exact ⟨rfl, hb1.trans (hb2.mono HSZ1.out)⟩

set_option maxRecDepth 100000 in
set_option maxHeartbeats 4000000 in
theorem law_ShaPads (n : Int) (w : World) (hK : Ks w) (w0 : (Lit.int .i64 n).wf = true) :
    Calls Tryd.prog 5 #[.int .i64 n] w fun e w' => e = .returned (.bool true) ∧ Below w.heap.size w w' := by
  have hbd := bd w0
  have HK := Lib.hid hK
  clear hK w0
  by_cases h1 : n < 0
  · go_enter Tryd.func5, Tryd.ntmps5
    go_wp2_with (go_at_call 17; ((with_reducible refine (awake3 _ HK.out).mono ?_); rintro e w2 ⟨rfl, hb2⟩))
    go_ret
    exact ⟨rfl, hb2⟩
  · by_cases h2 : 576460752303423488 < n
    · go_enter Tryd.func5, Tryd.ntmps5
      go_wp2_with (go_at_call 17; ((with_reducible refine (awake3 _ HK.out).mono ?_); rintro e w2 ⟨rfl, hb2⟩))
      go_ret
      exact ⟨rfl, hb2⟩
    · obtain ⟨c, hc⟩ : ∃ c : Nat, n = (c : Int) := ⟨n.toNat, by omega⟩
      have hcl : cl n = c := by rw [hc]; exact cl_nat c (by omega)
      obtain ⟨pl, hpl⟩ : ∃ x, padL c = x := ⟨_, rfl⟩
      obtain ⟨pn, hpn⟩ : ∃ x, pl.length = x := ⟨_, rfl⟩
      have hlen := padL_len c
      have hz := zn_lt c
      rw [hpl, hpn] at hlen
      have hfill := padL_fill c
      rw [hpl, hpn] at hfill
      have hget : pl.getD 0 0 = 128 := by rw [← hpl]; rfl
      have hp := pad_any n w
      rw [hcl, hpl, hpn] at hp
      have HP := Lib.hid hp
      have h9 : (9 : Int) ≤ (pn : Int) := by omega
      have h72 : (pn : Int) ≤ 72 := by omega
      have h0 : 0 ≤ n := by omega
      have hmod : (n % 64 + (pn : Int)) % 64 = 0 := by rw [hc]; omega
      have HPN := Lib.hid hpn
      have HGET := Lib.hid hget
      clear hlen hz hfill hget hp hpn hpl hcl hc
      go_enter Tryd.func5, Tryd.ntmps5
      go_wp2_with (first
        | (go_at_call 22; ((with_reducible refine HP.out.mono ?_); rintro e w1 ⟨rfl, hbk, hb1, -⟩)
           have c0 := hbk.cell 0 (by have := HPN.out; omega)
           rw [HGET.out] at c0
           have c0' : w1.cell? ⟨w.heap.size, 0, none⟩ = some (.int .u8 128) := c0
           have HK1 := Lib.hid (HK.out.below hb1 HK.out.pos)
           have HSZ1 := Lib.hid hb1.size
           clear hbk c0)
        | (go_at_call 17; ((with_reducible refine (awake3 _ HK1.out).mono ?_); rintro e w2 ⟨rfl, hb2⟩)))

      go_ret
      exact ⟨rfl, hb1.trans (hb2.mono HSZ1.out)⟩
end Go.Proofs.YtembbdlkpdnekaaDoor.W
