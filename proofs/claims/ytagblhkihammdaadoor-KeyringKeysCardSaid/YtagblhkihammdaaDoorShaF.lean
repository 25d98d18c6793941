/- CONTRACTS of layer 3 (sha): a hash's sum; the sum of a text. -/
import Derived.Test.YtagblhkihammdaaDoorShaE
namespace Go.Proofs.YtagblhkihammdaaDoor.W
open Go.ChangeShapes Go.WideShapes Go.ChangeAt Go.RowKit
open Go.Proofs.YtagblhkihammdaaDoor.P

theorem zero32 : (Tryd.prog.info? 149).map (·.zero) = some (some (.agg ((List.replicate 32 (0 : UInt8)).map B).toArray)) := by kernel_rfl
def HL0 : List Value := (List.replicate 8 (U 0)) ++ (List.replicate 64 (B 0) ++ [.int .i64 0, .bool false])
theorem zeroH : (Tryd.prog.info? 148).map (·.zero) = some (some (.agg HL0.toArray)) := by kernel_rfl
theorem Row.rd {w : World} {g : Nat} {t : TypeId} {L : List UInt8} (h : Row w g t (L.map B)) (n : Nat) (hn : L.length = n) (hm : n ≤ 9223372036854775807) : Rd w (some ⟨g, 0, none⟩) n n L :=
  ⟨hn, Nat.le_refl _, hm, (fun h => by cases h), .inr ⟨g, 0, rfl, h.lt, fun i hi => by rw [Nat.zero_add]; exact h.cell 0 i (by omega)⟩⟩
theorem hc_one (hs : List UInt32) (rest : List UInt8) (n : Nat) : ∀ v ∈ hc hs rest n, v.oneCell' = true := by
  intro v hv
  simp only [hc, List.mem_append, List.mem_cons, List.not_mem_nil, or_false] at hv
  rcases hv with h | h | rfl | rfl
  · exact U_one _ v h
  · exact B_one _ v h
  · rfl
  · rfl

set_option maxRecDepth 100000 in
set_option maxHeartbeats 4000000 in
theorem sum_any (g : Nat) (l : List UInt8) (w : World) (hK : Ks w) (hg0 : g ≠ 0) (hh : HT w g l) (hmax : l.length ≤ 70000000000000) :
    Calls Tryd.prog 113 #[.pointer (some ⟨g, 0, none⟩)] w fun e w' => e = .returned (.string (str (shaL l))) ∧ Below w.heap.size w w' := by
  have hglt := hh.lt
  obtain ⟨hs0, rest0, hst0, hrow0⟩ := hh
  have cm := hrow0.cellV 73
  rw [hc_made _ _ _ hst0.len8 hst0.len] at cm
  have cs := hrow0.cellV 72
  rw [hc_size _ _ _ hst0.len8 hst0.len] at cs
  obtain ⟨C0, hC0⟩ : ∃ x, hc hs0 rest0 l.length = x := ⟨_, rfl⟩
  have hC74 : C0.length = 74 := by rw [← hC0]; exact hc_len _ _ _ hst0.len8 hst0.len
  have hone : ∀ v ∈ C0, v.oneCell' = true := by rw [← hC0]; exact hc_one _ _ _
  rw [hC0] at hrow0
  have HST0 := Lib.hid hst0
  have HROW0 := Lib.hid hrow0
  have HK := Lib.hid hK
  have HC0 := Lib.hid hC0
  have HSZ := Lib.hid (show (Tryd.prog.info? 148).map (·.size) = some C0.length by rw [hC74]; exact sizeH)
  obtain ⟨Z0, hZ0⟩ : ∃ x, HL0 = x := ⟨_, rfl⟩
  have HZ0 := Lib.hid (show (Tryd.prog.info? 148).map (·.zero) = some (some (.agg Z0.toArray)) by rw [← hZ0]; exact zeroH)
  have HZL := Lib.hid (show Z0.length = C0.length by rw [hC74, ← hZ0]; rfl)
  have HONE := Lib.hid hone
  obtain ⟨pl, hpl⟩ : ∃ x, padL l.length = x := ⟨_, rfl⟩
  obtain ⟨pn, hpn⟩ : ∃ x, pl.length = x := ⟨_, rfl⟩
  have hpn73 : pn ≤ 80 := by rw [← hpn, ← hpl, padL_len]; have := zn_lt l.length; omega
  have HPL := Lib.hid hpl
  have HPN := Lib.hid hpn
  have HCL : Hid (padL (cl (l.length : Int)) = pl) := Lib.hid (by rw [cl_nat l.length (by omega), hpl])
  clear hst0 hrow0 hK hC0 hone hZ0 hC74 hpl hpn
  go_enter Tryd.func113, Tryd.ntmps113
  go_wp2_with (first
    | (with_reducible refine load_row (o := ⟨some 17, _, _, _, _, _⟩) rfl _ _ rfl _ rfl 148 _ _ HROW0.out Tryd.underlying148 rfl HSZ.out ?_)
    | (with_reducible refine alloc_row (o := ⟨some 3, _, _, _, _, _⟩) rfl _ rfl _ HZ0.out ?_; intro w1 hr1 hb1 hz1; have HR1 := Lib.hid hr1; clear hr1; have HZ1 := Lib.hid hz1; clear hz1)
    | (with_reducible refine store_row (o := ⟨none, .store 148 _ _, _, _, _, _⟩) rfl _ _ _ rfl _ _ rfl rfl 148 _ HR1.out HSZ.out HZL.out HONE.out ?_; intro w2 hr2 hu2; have HR2 := Lib.hid hr2; clear hr2
       have hne : g ≠ w.heap.size := by omega
       have cs2 := (hu2.cell (p := ⟨g, 72, none⟩) hne).trans ((hb1.cell (p := ⟨g, 72, none⟩) hglt).trans cs)
       have hbl2 : Below w.heap.size w w2 := hb1.trans (hu2.below (Nat.le_refl _))
       have HZ2 := Lib.hid (show w2.heap.size = w.heap.size + 1 by rw [hu2.size, HZ1.out])
       clear hne)
    | (go_at_call 123; refine (pad_any (l.length : Int) w2).mono ?_; rw [HCL.out]; rintro e w3 ⟨rfl, hp3, hb3, hz3⟩
       have HP3 := Lib.hid (hp3.rd (by have := HPN.out; omega))
       rw [HPN.out]
       rw [HPN.out] at HP3
       have HT2 : Hid (HT w3 w.heap.size l) := Lib.hid ⟨hs0, rest0, HST0.out, by rw [HC0.out]; exact HR2.out.below hb3 (by have := HZ2.out; omega)⟩
       have HK3 := Lib.hid (HK.out.below (hbl2.trans (hb3.mono (by have := HZ2.out; omega))) (HK.out.pos))
       have HB3 := Lib.hid (hbl2.trans (hb3.mono (by have := HZ2.out; omega)))
       have HGX := Lib.hid (show w.heap.size ≠ 0 ∧ w2.heap.size ≠ w.heap.size ∧ w.heap.size ≤ w3.heap.size by have := HK.out.pos; have := HZ2.out; omega)
       have HAP : Hid (pn ≠ 0 → ∀ b off, (some ⟨w2.heap.size, 0, none⟩ : Option Addr) = some ⟨b, off, none⟩ → b ≠ w.heap.size) := Lib.hid (by intro _ b off h; cases h; exact HGX.out.2.1)
       have HMX : Hid (l.length + pn ≤ 140737488355328) := Lib.hid (by omega)
       clear hp3 hb3 hz3)
    | (go_at_call 112; ((with_reducible refine (write_any w.heap.size (some ⟨w2.heap.size, 0, none⟩) pn pn pl l w3 HK3.out HGX.out.1 HT2.out HP3.out HAP.out HMX.out).mono ?_); rintro e w4 ⟨rfl, hh4, hg4⟩)
       have HH4 := Lib.hid hh4
       have HG4 := Lib.hid (HB3.out.trans (hg4.below (Nat.le_refl _) HGX.out.2.2))
       clear hh4 hg4)
    | (with_reducible refine alloc_row (o := ⟨some 4, _, _, _, _, _⟩) rfl _ rfl _ zero32 ?_; intro w5 hr5 hb5 hz5; have HR5 := Lib.hid hr5; clear hr5))
  obtain ⟨hsF, restF, hst4, hrow4⟩ := HH4.out
  have hDs : dig hsF = shaL l := by
    have h := hst4
    rw [← HPL.out] at h
    exact h.sum
  have h8 := hst4.len8
  have h64 := hst4.len
  obtain ⟨CF, hCF⟩ : ∃ x, hc hsF restF (l ++ pl).length = x := ⟨_, rfl⟩
  have hcell : ∀ q, q < 8 → CF[q]? = some (U (hsF.getD q 0)) := fun q hq => by rw [← hCF]; exact hc_word _ _ _ _ h8 hq
  rw [hCF] at hrow4
  have HRF := Lib.hid (hrow4.below hb5 hrow4.lt)
  have HCELL := Lib.hid hcell
  obtain ⟨D, hD⟩ : ∃ D, dig hsF = D := ⟨_, rfl⟩
  have hDl : D.length = 32 := by rw [← hD, dig_len, h8]
  have hDg : ∀ q r, q < 8 → r < 4 → D.getD (4 * q + r) 0 = UInt8.ofNat ((hsF.getD q 0).toNat / 2 ^ (24 - 8 * r)) := fun q r hq hr => by rw [← hD]; exact dig_get hsF q r (by omega) hr
  rw [hD] at hDs
  have HDL := Lib.hid hDl
  have HDG := Lib.hid hDg
  have HDS := Lib.hid hDs
  have HBL5 := Lib.hid (HG4.out.trans (hb5.mono HG4.out.size))
  have HR50 := Lib.hid (show Row w5 w4.heap.size 149 ((bz D 32 0).map B) by rw [bz_zero]; exact HR5.out)
  have HSX := Lib.hid (show w.heap.size < w4.heap.size from hrow4.lt)
  clear hst4 hrow4 hDs h8 h64 hCF hcell hD hDl hDg hb5 HR5 hz5 cs2 cs cm hu2 hb1 hbl2
  generalize w4.heap.size = g5 at *
  go_loopw [24] (fun i wr => ∃ k : Nat, i = .int .i64 k ∧ k ≤ 32 ∧ Hid (Row wr g5 149 ((bz D 32 k).map B)) ∧ Hid (Row wr w.heap.size 148 CF) ∧ Hid (Below w.heap.size w wr)) (fun i _ => 32 - (intOf i).toNat)
  case atStart => exact ⟨0, rfl, by omega, HR50, HRF, HBL5⟩
  case round =>
    obtain ⟨k, rfl, hk, HP, HQ, HBR⟩ := hrel
    by_cases hlt : k < 32
    · obtain ⟨q, r, hq, hr, hkq⟩ : ∃ q r, q < 8 ∧ r < 4 ∧ k = 4 * q + r := ⟨k / 4, k % 4, by omega, by omega, by omega⟩
      have cq := HQ.out.cellV q
      rw [HCELL.out q hq] at cq
      have ck := HP.out.cell 0 k (by rw [bz_len _ _ _ HDL.out hk]; exact hlt)
      have fk := HP.out.frozen k
      have hset := HP.out.set k (D.getD k 0)
      rw [bz_set _ _ _ HDL.out hlt] at hset
      have hval := HDG.out q r hq hr
      rw [← hkq] at hval
      obtain ⟨x, hx⟩ : ∃ x, hsF.getD q 0 = x := ⟨_, rfl⟩
      rw [hx] at cq hval
      have hby : (x.toNat : Int) / 2 ^ (24 - 8 * r) % 256 = ((D.getD k 0).toNat : Int) := by
        rw [hval, UInt8.toNat_ofNat', Int.natCast_emod, Int.natCast_ediv, Int.natCast_pow]; rfl
      have e4 : (k : Int) / 4 = (q : Int) := by omega
      have e5 : (k : Int) % 4 = (r : Int) := by omega
      generalize (bz D 32 k).getD k 0 = old at *
      obtain ⟨y, hy⟩ : ∃ y, D.getD k 0 = y := ⟨_, rfl⟩
      rw [hy] at hset hby
      have HSET := Lib.hid hset
      have HBY := Lib.hid hby
      have HQ2 := Lib.hid (HQ.out.upd (Upd.setCell wr g5 k (B y)) (by have := HSX.out; omega))
      have HB2 := Lib.hid (HBR.out.trans ((Upd.setCell wr g5 k (B y)).below (by have := HSX.out; omega)))
      unfold U at cq
      unfold B at ck
      clear hset hby hval hx hy hkq
      go_wp2_with fail
      rw [HBY.out]
      go_roundw
      case rel => exact ⟨k + 1, by go_num, by omega, HSET, HQ2, HB2⟩
      case measure => simp [intOf]; omega
    · obtain rfl : k = 32 := by omega
      have hp := HP.out
      rw [bz_full _ _ HDL.out] at hp
      have hrd := Row.rd hp 32 HDL.out (by omega)
      have hcv := conv_rd hrd
      have HCV := Lib.hid hcv
      clear hp hrd hcv
      have hcv2 : (Go.convert 34 9 (.slice (some ⟨g5, 0, none⟩) 32 32)).run Tryd.prog wr = .ok (.string (str D)) wr := HCV.out
      go_wp2_with fail
      go_ret
      exact ⟨one (by rw [HDS.out]; rfl), HBR.out⟩

set_option maxHeartbeats 1000000 in
theorem shasum_any (a : Option Addr) (len cap : Nat) (l : List UInt8) (w : World) (hK : Ks w) (hr : Rd w a len cap l) (hmax : len ≤ 60000000000000) :
    Calls Tryd.prog 110 #[.slice a len cap] w fun e w' => e = .returned (.string (str (shaL l))) ∧ Below w.heap.size w w' := by
  have HK := Lib.hid hK
  have HR := Lib.hid hr
  have hlen := hr.hlen
  have HLEN := Lib.hid hlen
  clear hK hr hlen
  go_enter Tryd.func110, Tryd.ntmps110
  go_wp2_with fail
  refine (new_any w).mono ?_
  rintro e w1 ⟨g, rfl, hg, hh1, hb1⟩
  have HK1 := Lib.hid (HK.out.below hb1 HK.out.pos)
  have HH1 := Lib.hid hh1
  have HR1 := Lib.hid (HR.out.mono hb1)
  have HAP : Hid (len ≠ 0 → ∀ b off, a = some ⟨b, off, none⟩ → b ≠ g) := by
    refine Lib.hid fun h b off e => ?_
    obtain ⟨b', off', e', hlt, -⟩ := HR.out.lt_of h
    rw [e] at e'
    cases e'
    omega
  have HG := Lib.hid hg
  have HG0 := Lib.hid (show g ≠ 0 by have := HK.out.pos; omega)
  have HMX := Lib.hid (show ([] : List UInt8).length + len ≤ 140737488355328 by simp; omega)
  have HB1 := Lib.hid hb1
  have HLN := Lib.hid (show ([] ++ l).length ≤ 70000000000000 by have := HLEN.out; simp; omega)
  clear hh1 hb1 hg
  go_wp2_with (first
    | (go_at_call 112; ((with_reducible refine (write_any g a len cap l [] w1 HK1.out HG0.out HH1.out HR1.out HAP.out HMX.out).mono ?_); rintro e w2 ⟨rfl, hh2, hg2⟩)
       have HH2 := Lib.hid hh2
       have HK2 := Lib.hid (HK1.out.gw hg2 HG0.out)
       have HB2 := Lib.hid (HB1.out.trans (hg2.below HG.out HB1.out.size))
       clear hh2 hg2)
    | (go_at_call 113; ((with_reducible refine (sum_any g ([] ++ l) w2 HK2.out HG0.out HH2.out HLN.out).mono ?_); rintro e w3 ⟨rfl, hb3⟩)))
  go_ret
  exact ⟨rfl, HB2.out.trans (hb3.mono HB2.out.size)⟩
end Go.Proofs.YtagblhkihammdaaDoor.W
