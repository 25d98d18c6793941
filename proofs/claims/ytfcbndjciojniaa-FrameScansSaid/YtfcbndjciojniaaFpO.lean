/- LAYER 10 (frame): the law FrameScans. -/
import Derived.Test.YtfcbndjciojniaaFpM
import Derived.Test.YtfcbndjciojniaaFpN
import Derived.Test.YtfcbndjciojniaaBss
import Derived.Deep.CutBlock
set_option linter.unusedSimpArgs false
set_option linter.unusedVariables false
namespace Go.Proofs.Ytfcbndjciojniaa.W
open Go Go.ChangeShapes Go.WideShapes Go.ChangeAt Go.RowKit
open Go.Proofs.Ytfcbndjciojniaa.P (enc dec)

/-- the first rows -/
def Xk (X : Nat → List UInt8) (k : Nat) : List (List UInt8) := (List.range k).map X
def Ck (X : Nat → List UInt8) (k : Nat) : Nat := (cat (Xk X k)).length
theorem Xk_len (X : Nat → List UInt8) (k : Nat) : (Xk X k).length = k := by simp [Xk]
theorem Xk_at (X : Nat → List UInt8) (k i : Nat) (h : i < k) : (Xk X k).getD i [] = X i := by simp [Xk, h]
theorem cat_succ (X : Nat → List UInt8) (k : Nat) : cat (Xk X (k + 1)) = cat (Xk X k) ++ sealF (X k) := by
  unfold Xk
  rw [List.range_succ, List.map_append, cat_append]
  simp [cat]
theorem Xk_take (X : Nat → List UInt8) (n w : Nat) (h : w ≤ n) : (Xk X n).take w = Xk X w := by
  unfold Xk
  rw [← List.map_take, List.take_range, Nat.min_eq_left h]
theorem Ck_succ (X : Nat → List UInt8) (k : Nat) : Ck X (k + 1) = Ck X k + (sealF (X k)).length := by unfold Ck; rw [cat_succ, List.length_append]
theorem Ck_mono (X : Nat → List UInt8) (i j : Nat) (h : i ≤ j) : Ck X i ≤ Ck X j := by
  induction h with
  | refl => exact Nat.le_refl _
  | step _ ih => rw [Ck_succ]; omega
theorem Ck_le (X : Nat → List UInt8) (k : Nat) (h : ∀ r, r < k → (X r).length ≤ 500) : Ck X k ≤ 600 * k := by
  induction k with
  | zero => simp [Ck, Xk, cat]
  | succ k ih =>
    have h1 := ih fun r hr => h r (by omega)
    have h2 := h k (by omega)
    have h3 := P.enc_len (X k).length (by omega)
    rw [Ck_succ, seal_len]; omega
/-- where the first frames end -/
def ends (X : Nat → List UInt8) (k : Nat) : List Value := (List.range k).map fun j => Value.int .i64 ((Ck X (j + 1) : Nat) : Int)
theorem ends_len (X : Nat → List UInt8) (k : Nat) : (ends X k).length = k := by simp [ends]
theorem ends_succ (X : Nat → List UInt8) (k : Nat) : ends X (k + 1) = ends X k ++ [.int .i64 ((Ck X (k + 1) : Nat) : Int)] := by simp [ends, List.range_succ]
theorem infoIntZ : (Try.prog.info? 3).map (fun i => (i.zero, i.size, i.bytes)) = some (some (.int .i64 0), 1, 8) := by kernel_rfl
theorem own_ne {w : World} {b1 b2 : Nat} {v v' : Value} {n n' : Nat} {xs ys : List Value} {t t' : TypeId} {s s' : Nat} (h : w.ownsRow b1 t s v n xs) (h' : w.ownsRow b2 t' s' v' n' ys) (ht : t ≠ t') : v.ownBlock = none ∨ v.ownBlock ≠ v'.ownBlock := by
  rcases h.2 with ⟨rfl, _⟩ | ⟨g, cap, cur, rfl, hg, hh, r⟩
  · exact .inl rfl
  · right
    intro e
    rcases h'.2 with ⟨rfl, _⟩ | ⟨g', cap', cur', rfl, hg', hh', r'⟩
    · cases e
    · simp [Value.ownBlock] at e
      subst e
      have := hh.symm.trans hh'
      simp at this
      exact ht this.2

theorem ends_at {w : World} {base k : Nat} {v : Value} {X : Nat → List UInt8} (h : w.ownsRow base 3 1 v k (ends X k)) : ∃ a c, v = .slice a k c ∧ k ≤ c ∧ ∀ j, j < k → ∃ g, a = some ⟨g, 0, none⟩ ∧ g < w.heap.size ∧ w.cell? ⟨g, j, none⟩ = some (.int .i64 ((Ck X (j + 1) : Nat) : Int)) := by
  have hlt := World.ownsRow.lt h
  have hc := fun g hg => World.ownsRow.cells h (g := g) hg
  rcases h.2 with ⟨rfl, h0⟩ | ⟨g, cap, cur, rfl, hg, hh, hn, r⟩
  · exact ⟨none, 0, by rw [h0], by omega, fun j hj => by omega⟩
  · refine ⟨_, cap, rfl, hn, fun j hj => ⟨g, rfl, (hlt g rfl).2, ?_⟩⟩
    have h6 := hc g rfl j (.int .i64 ((Ck X (j + 1) : Nat) : Int)) (by simp [ends, hj])
    rw [Go.WideShapes.add_plain, Nat.zero_add] at h6
    exact h6
theorem cut_at (cut : Int) (N : Nat) (hN : N ≤ 7200) : ∃ a : Nat, wrap64 ((IntKind.u64.wrap cut).tmod ((N : Int) + 1)) = a ∧ a ≤ N := by
  have h0 : 0 ≤ IntKind.u64.wrap cut := by unfold IntKind.wrap; simp [IntKind.signed, IntKind.bits]; omega
  rw [Int.tmod_eq_emod_of_nonneg h0]
  have h2 := Int.emod_nonneg (IntKind.u64.wrap cut) (show (N : Int) + 1 ≠ 0 by omega)
  have h3 := Int.emod_lt_of_pos (IntKind.u64.wrap cut) (show 0 < (N : Int) + 1 by omega)
  obtain ⟨r, hr⟩ : ∃ r, IntKind.u64.wrap cut % ((N : Int) + 1) = r := ⟨_, rfl⟩
  rw [hr] at h2 h3 ⊢
  exact ⟨r.toNat, by unfold wrap64; omega, by omega⟩
theorem one_new {w : World} {t : TypeId} {x : Value} : ∀ j u, ([x] : List Value)[j]? = some u → (w.alloc (.cells #[x] t)).cell? ((⟨w.heap.size, 0, none⟩ : Addr).add j) = some u := by
  intro j u hj
  rcases j with _ | j
  · simp at hj
    subst hj
    rw [Go.WideShapes.add_plain]
    exact cell_of_row _ w.heap.size 0 _ t _ (heap_alloc_new w _)
  · simp at hj
set_option maxRecDepth 100000 in
set_option maxHeartbeats 4000000 in
theorem law_FrameScans (la : Option Addr) (len cap : Nat) (X : Nat → List UInt8) (cut : Int) (w : World) (h : Bss w la len cap X) (w1 : (Lit.int .i64 cut).wf = true) :
    Calls Try.prog 10 #[.slice la len cap, .int .i64 cut] w fun e w' => e = .returned (.bool true) ∧ Below w.heap.size w w' := by
  have hc := bd w1
  have H := Lib.hid h
  have hlm := h.hmax
  have hlc := h.hle
  obtain ⟨i0, hi, hz0, hz1, hz2⟩ := info_parts infoIntZ
  have HI := Lib.hid hi
  have HZ0 := Lib.hid hz0
  have HZ1 := Lib.hid hz1
  have HZ2 := Lib.hid hz2
  clear h w1 hi hz0 hz1 hz2
  go_enter Try.func10, Try.ntmps10
  go_upto_block 0 with fail
  go_cut [0, 5, 6] from 7 to 52 (fun l0 va ve wr => ∃ k : Nat, l0 = .slice la k cap ∧ k ≤ len ∧ k ≤ 12 ∧ Hid (∀ r, r < k → (X r).length ≤ 500) ∧ Hid (Fr wr w.heap.size va (cat (Xk X k))) ∧ Hid (wr.ownsRow w.heap.size 3 1 ve k (ends X k)) ∧ Hid (Below w.heap.size w wr))
  case first =>
    go_wp2_with fail
    go_loopw [0, 5, 6, 22] (fun l0 va ve i wr => ∃ k : Nat, l0 = .slice la len cap ∧ i = .int .i64 (k : Int) ∧ k ≤ len ∧ k ≤ 12 ∧ Hid (∀ r, r < k → (X r).length ≤ 500) ∧ Hid (Fr wr w.heap.size va (cat (Xk X k))) ∧ Hid (wr.ownsRow w.heap.size 3 1 ve k (ends X k)) ∧ Hid (Below w.heap.size w wr)) (fun _ _ _ i _ => len - (intOf i).toNat)
    case atStart => exact ⟨0, rfl, rfl, Nat.zero_le _, by omega, Lib.hid (fun r hr => absurd hr (Nat.not_lt_zero r)), Lib.hid (Fr.nil _ _), Lib.hid (World.ownsRow_nil _ _ _ _), Lib.hid (Below.refl _ _)⟩
    case round =>
      obtain ⟨k, rfl, rfl, hk, hk12, HX, FA, FE, B⟩ := hrel
      by_cases hlt : k < len
      · obtain ⟨db, doff, hla, hdb, hce⟩ := (H.out.hcells).resolve_left (by omega)
        obtain ⟨xa, xn, xc, hcx, hrx⟩ := hce k hlt
        have hxl := hrx.hlen
        have cx := (B.out.cell (p := ⟨db, doff + k, none⟩) hdb).trans hcx
        have RX := Lib.hid (hrx.mono B.out)
        have HXL := Lib.hid hxl
        subst hla
        clear hce hcx hrx hxl
        by_cases hgo : k < 12 ∧ xn ≤ 500
        · obtain ⟨hg1, hg2⟩ := hgo
          have HCK := Lib.hid (Ck_le X k HX.out)
          obtain ⟨aa, ca, hva, hra⟩ := FA.out.form' (Ck X k) rfl
          subst hva
          obtain ⟨ae, ce, hve, -, -⟩ := ends_at FE.out
          subst hve
          obtain ⟨F, hF⟩ : ∃ F, sealF (X k) = F := ⟨_, rfl⟩
          have HF := Lib.hid hF
          obtain ⟨fl, hfl⟩ : ∃ fl, F.length = fl := ⟨_, rfl⟩
          have HFL := Lib.hid hfl
          have HC1 := Lib.hid (show Ck X (k + 1) = Ck X k + fl by rw [Ck_succ, hF, hfl])
          have HFS := Lib.hid (show fl ≤ 600 by rw [← hfl, ← hF, seal_len]; have := P.enc_len (X k).length (by have := HXL.out; omega); have := HXL.out; omega)
          have HCS := Lib.hid (show cat (Xk X k) ++ F = cat (Xk X (k + 1)) by rw [cat_succ, hF])
          clear hF hfl hra
          go_wp2_with (first
            | (go_at_call 31; refine (fseal_ok xa xn xc (X k) wr RX.out (by omega)).mono ?_; rw [HF.out]; rintro e w2 ⟨v2, rfl, hf2, hb2⟩; obtain ⟨a2, c2, hv2, hr2⟩ := hf2.form' fl HFL.out; subst hv2; have R2 := Lib.hid hr2; have FA2 := Lib.hid (FA.out.kept hb2); have FE2 := Lib.hid (own_kept FE.out hb2); have B2 := Lib.hid (B.out.trans (hb2.mono B.out.size)); clear hf2 hr2 hb2)
            | (at_builtin; (with_reducible refine append_rd rfl _ _ rfl w.heap.size (.slice aa (Ck X k) ca) (cat (Xk X k)) ?_ FA2.out a2 fl c2 F ?_ R2.out ?_ B2.out.size ?_); (focus go_simp); (focus go_simp); (focus (show Ck X k + fl ≤ _; have := HCK.out; have := HFS.out; omega)); intro v3 w3 hf3 hb3 hg3; rw [HCS.out] at hf3; obtain ⟨a3, c3, hv3, hr3⟩ := hf3.form' (Ck X (k + 1)) rfl; subst hv3; have FA3 := Lib.hid hf3; have FE3 := Lib.hid (FE2.out.kept hg3 (own_ne FE2.out FA2.out (by decide))); have B3 := Lib.hid (B2.out.trans hb3); clear hf3 hb3 hg3 hr3)
            | (at_builtin; ((refine wpList_append_own _ rfl _ _ 31 rfl w.heap.size 3 i0 (.int .i64 0) 1 8 Try.underlying31 HI.out HZ0.out HZ1.out HZ2.out rfl ?_ (.slice ae k ce) k (ends X k) ?_ (FE3.out.alloc _) ⟨w3.heap.size, 0, none⟩ 1 1 [.int .i64 ((Ck X (k + 1) : Nat) : Int)] ?_ rfl one_new ?_ ?_ ?_ ?_ ?_); (focus (decide)); (focus go_simp); (focus go_simp); (focus (intro u hu; rw [List.mem_singleton.1 hu]; rfl)); (focus (unfold maxLen; omega)); (focus (omega)); (focus (have := B3.out.size; simp; omega)); intro v4 w4 hf4 hg4 _; rw [← ends_succ] at hf4; have FE4 := Lib.hid hf4; have FA4 := Lib.hid (show Fr w4 w.heap.size (.slice a3 (Ck X (k + 1)) c3) (cat (Xk X (k + 1))) from World.ownsRow.kept (FA3.out.alloc _) hg4 (own_ne FA3.out FE3.out (by decide))); have B4 := Lib.hid ((B3.out.alloc B3.out.size _).trans ((Below.refl _ _).grown hg4 (by have := B3.out.size; simp; omega) (fun b e => (World.ownsRow.lt FE3.out b e).1))); clear hf4 hg4)))
          go_roundw
          case rel => exact ⟨k + 1, rfl, vint (by omega), by omega, by omega, Lib.hid (fun r hr => if h : r < k then HX.out r h else by obtain rfl : r = k := (by omega); rw [HXL.out]; exact hg2), FA4, FE4, B4⟩
          case measure => simp [intOf]; omega
        · have hng : (12 : Int) ≤ k ∨ (500 : Int) < xn := by omega
          clear hgo
          rcases hng with hng | hng
          · obtain rfl : k = 12 := by omega
            go_wp2_with fail
            go_meet
            case rel => exact ⟨12, rfl, hk, hk12, HX, FA, FE, B⟩
          · rcases Nat.lt_or_ge k 12 with hk2 | hk2
            · go_wp2_with fail
              go_meet
              case rel => exact ⟨k, rfl, hk, hk12, HX, FA, FE, B⟩
            · obtain rfl : k = 12 := by omega
              go_wp2_with fail
              go_meet
              case rel => exact ⟨12, rfl, hk, hk12, HX, FA, FE, B⟩
      · obtain rfl : k = len := by omega
        go_wp2_with fail
        go_meet
        case rel => exact ⟨k, rfl, hk, hk12, HX, FA, FE, B⟩
  case rest =>
    obtain ⟨k, rfl, hk, hk12, HX, FA, FE, B⟩ := hcut
    obtain ⟨wo, rfl⟩ : ∃ wo : World, wo = wc := ⟨_, rfl⟩
    obtain ⟨aa, ca, hva, hra⟩ := FA.out.form' (Ck X k) rfl
    subst hva
    obtain ⟨ae, ce, hve, hke, hee⟩ := ends_at FE.out
    subst hve
    have HEE := Lib.hid hee
    have RA := Lib.hid hra
    have HCK := Lib.hid (Ck_le X k HX.out)
    have HXX := Lib.hid (fun x (hx : x ∈ Xk X k) => show x.length ≤ 262144 by unfold Xk at hx; obtain ⟨r, hr, rfl⟩ := List.mem_map.1 hx; have := HX.out r (by simpa using hr); omega)
    have HSC := Lib.hid (show scanF (cat (Xk X k)) = (Xk X k, Ck X k) by have := scanF_cat (Xk X k) [] next_nil HXX.out; rwa [List.append_nil] at this)
    have hkc : k ≤ cap := by omega
    obtain ⟨N, hN⟩ : ∃ N, Ck X k = N := ⟨_, rfl⟩
    have HN := Lib.hid hN
    rw [hN] at RA HCK HSC ⊢
    have hN0 : N ≤ 7200 := by have := HCK.out; omega
    have hw1 : wrap64 ((N : Int) + 1) = (N : Int) + 1 := by unfold wrap64; omega
    have hw2 : IntKind.u64.wrap ((N : Int) + 1) = (N : Int) + 1 := by unfold IntKind.wrap; simp [IntKind.signed, IntKind.bits]; omega
    have hne1 : ¬ ((N : Int) + 1 = 0) := by omega
    obtain ⟨at', hat, hatN⟩ := cut_at cut N hN0
    have hnca : N ≤ ca := RA.out.hle
    clear hra hee hN FA FE
    go_wp2_with (go_at_call 35; refine (fscan_any aa N ca (cat (Xk X k)) wo RA.out (by omega)).mono ?_; rw [HSC.out]; rintro e w2 ⟨v2, rfl, hf2, hb2⟩; obtain ⟨ga, gc, hv2, hgc, hgg⟩ := hf2.at; rw [Xk_len] at hv2 hgc hgg; subst hv2; have HGG := Lib.hid hgg; have B2 := Lib.hid hb2; clear hf2 hb2 hgg)
    rw [hat]
    clear hw1 hw2 hne1 hat
    go_loopw [14, 79] (fun v i wv => ∃ j : Nat, v = .int .i64 ((wN (fun q => Ck X (q + 1)) at' j : Nat) : Int) ∧ i = .int .i64 (j : Int) ∧ j ≤ k ∧ Hid (Below w2.heap.size w2 wv)) (fun _ i _ => k - (intOf i).toNat)
    case atStart => exact ⟨0, rfl, rfl, Nat.zero_le _, Lib.hid (Below.refl _ _)⟩
    case round =>
      obtain ⟨j, rfl, rfl, hj, BJ⟩ := hrel
      have hsp := wN_spec (Ck X) at' (Ck_mono X) (by simp [Ck, Xk, cat]) j
      obtain ⟨W, hW⟩ : ∃ W, wN (fun q => Ck X (q + 1)) at' j = W := ⟨_, rfl⟩
      rw [hW] at hsp ⊢
      obtain ⟨hsp1, hsp2⟩ := hsp
      have HSP := Lib.hid hsp2
      have HWW := Lib.hid hW
      clear hsp2 hW
      by_cases hjl : j < k
      · obtain ⟨ge, hae, hge, hce⟩ := HEE.out j hjl
        have ce1 := (BJ.out.cell (p := ⟨ge, j, none⟩) (Nat.lt_of_lt_of_le hge B2.out.size)).trans ((B2.out.cell (p := ⟨ge, j, none⟩) hge).trans hce)
        obtain ⟨q, hq⟩ : ∃ q, Ck X (j + 1) = q := ⟨_, rfl⟩
        rw [hq] at ce1
        have HQ := Lib.hid hq
        subst hae
        clear hce hq
        by_cases hE : q ≤ at'
        · have HST := Lib.hid (show wN (fun q => Ck X (q + 1)) at' (j + 1) = W + 1 by unfold wN; rw [if_pos (by rw [HQ.out]; exact hE), HWW.out])
          go_wp2_with fail
          go_roundw
          case rel => exact ⟨j + 1, by rw [HST.out]; exact vint (by omega), vint (by omega), by omega, BJ⟩
          case measure => simp [intOf]; omega
        · have HST := Lib.hid (show wN (fun q => Ck X (q + 1)) at' (j + 1) = W by unfold wN; rw [if_neg (by rw [HQ.out]; exact hE), HWW.out])
          go_wp2_with fail
          go_roundw
          case rel => exact ⟨j + 1, by rw [HST.out], vint (by omega), by omega, BJ⟩
          case measure => simp [intOf]; omega
      · obtain rfl : k = j := by omega
        obtain ⟨wp, rfl⟩ : ∃ wp : World, wp = wr := ⟨_, rfl⟩
        have HS2 := Lib.hid (show scanF ((cat (Xk X k)).take at') = (Xk X W, Ck X W) by
          have h := scan_take (Xk X k) at' W HXX.out (by have := HN.out; unfold Ck at this; omega) (by rw [Xk_take X k W hsp1]; exact HSP.out.1) (by
            rcases HSP.out.2 with e | e
            · exact .inl (by rw [Xk_len]; omega)
            · by_cases hWk : W + 1 ≤ k
              · exact .inr (by rw [Xk_take X k (W + 1) hWk]; exact e)
              · exact .inl (by rw [Xk_len]; omega))
          rwa [Xk_take X k W hsp1] at h)
        obtain ⟨M, hM⟩ : ∃ M, Ck X W = M := ⟨_, rfl⟩
        have HM := Lib.hid hM
        rw [hM] at HS2
        have hatc : at' ≤ ca := by omega
        have HTL := Lib.hid (show ((cat (Xk X k)).take at').length = at' by rw [List.length_take, RA.out.hlen]; omega)
        have RT := Lib.hid ((RA.out.mono (B2.out.trans (BJ.out.mono B2.out.size))).first at' (by omega))
        clear hM
        go_upto_region 26 with (first
          | (go_at_call 22; refine (sclone aa at' ca ((cat (Xk X k)).take at') wp RT.out (by omega)).mono ?_; rintro e w3 ⟨v3, rfl, hf3, hb3⟩; obtain ⟨a3, c3, hv3, hr3⟩ := hf3.form' at' HTL.out; subst hv3; have R3 := Lib.hid hr3; have B3 := Lib.hid hb3; clear hf3 hr3 hb3)
          | (go_at_call 35; refine (fscan_any a3 at' c3 _ w3 R3.out (by omega)).mono ?_; rw [HS2.out]; rintro e w4 ⟨v4, rfl, hf4, hb4⟩; obtain ⟨pa, pc, hv4, hpc, hpp⟩ := hf4.at; rw [Xk_len] at hv4 hpc hpp; subst hv4; have HPP := Lib.hid hpp; have B4 := Lib.hid (B3.out.trans (hb4.mono B3.out.size)); clear hf4 hb4 hpp))
        go_cut [121] from 97 to 121 (fun c wx => c = .bool false ∧ wx = w4)
        case first =>
          have hW0 : W = 0 ∨ ∃ V, W = V + 1 := (Nat.eq_zero_or_pos W).imp id (fun h => ⟨W - 1, by omega⟩)
          rcases hW0 with rfl | ⟨V, rfl⟩
          · obtain rfl : M = 0 := by rw [← HM.out]; simp [Ck, Xk, cat]
            go_wp2_with fail
            go_meet
            case rel => exact ⟨rfl, rfl⟩
          · obtain ⟨ge, hae, hge, hce⟩ := HEE.out V (by omega)
            have ce2 : w4.cell? ⟨ge, V, none⟩ = some (.int .i64 (M : Int)) := by
              rw [(B4.out.cell (p := ⟨ge, V, none⟩) (Nat.lt_of_lt_of_le (Nat.lt_of_lt_of_le hge B2.out.size) BJ.out.size)).trans ((BJ.out.cell (p := ⟨ge, V, none⟩) (Nat.lt_of_lt_of_le hge B2.out.size)).trans ((B2.out.cell (p := ⟨ge, V, none⟩) hge).trans hce)), HM.out]
            subst hae
            clear hce
            have hVk : V < k := by omega
            have hV1 : wrap64 (((V + 1 : Nat) : Int) - 1) = V := by unfold wrap64; omega
            have hV2 : ¬ (((V + 1 : Nat) : Int) = 0) := by omega
            have hV3 : (0 : Int) < ((V + 1 : Nat) : Int) := by omega
            go_wp2_with fail
            go_meet
            case rel => exact ⟨rfl, rfl⟩
        case rest =>
          obtain ⟨rfl, rfl⟩ := hcut
          obtain ⟨w4, rfl⟩ : ∃ w4 : World, w4 = wc := ⟨_, rfl⟩
          have D24 := Lib.hid (BJ.out.trans (B4.out.mono BJ.out.size))
          have D4 := Lib.hid ((B.out.trans (B2.out.mono B.out.size)).trans (D24.out.mono (Nat.le_trans B.out.size B2.out.size)))
          clear B3
          go_wp2_with fail
          go_loopw [124] (fun i wr => ∃ j : Nat, i = .int .i64 (j : Int) ∧ j ≤ k ∧ Hid (Below w4.heap.size w4 wr)) (fun i _ => k - (intOf i).toNat)
          case atStart => exact ⟨0, rfl, Nat.zero_le _, Lib.hid (Below.refl _ _)⟩
          case round =>
            obtain ⟨j, rfl, hj2, BL⟩ := hrel
            by_cases hjl2 : j < k
            · obtain ⟨db, doff, hla, hdb, hce⟩ := (H.out.hcells).resolve_left (by omega)
              obtain ⟨xa, xn, xc, hcx, hrx⟩ := hce j (by omega)
              obtain ⟨gg, sa, sc, hga, hgl, hgc1, hgr⟩ := HGG.out j hjl2
              rw [Xk_at X k j hjl2] at hgc1 hgr
              obtain ⟨L, hL⟩ : ∃ L, X j = L := ⟨_, rfl⟩
              have HL := Lib.hid hL
              rw [hL] at hgc1 hgr hrx
              have hxl := hrx.hlen
              rw [hxl] at hgc1 hgr
              obtain ⟨wd, hwd⟩ : ∃ wd, wr.drew = wd := ⟨_, rfl⟩
              have hbd : Below w4.heap.size w4 wd := by rw [← hwd]; exact BL.out.drew
              have D2D := Lib.hid (D24.out.trans (hbd.mono D24.out.size))
              have DWD := Lib.hid (D4.out.trans (hbd.mono D4.out.size))
              have CGV := Lib.hid (fun (v : World) (hv : Below w4.heap.size w4 v) => (hv.cell (p := ⟨gg, j, none⟩) (Nat.lt_of_lt_of_le hgl D24.out.size)).trans ((D24.out.cell (p := ⟨gg, j, none⟩) hgl).trans hgc1))
              have CXV := Lib.hid (fun (v : World) (hv : Below w4.heap.size w4 v) => (hv.cell (p := ⟨db, doff + j, none⟩) (Nat.lt_of_lt_of_le hdb D4.out.size)).trans ((D4.out.cell (p := ⟨db, doff + j, none⟩) hdb).trans hcx))
              have RG := Lib.hid (hgr.mono D2D.out)
              have RX := Lib.hid (hrx.mono DWD.out)
              have BD := Lib.hid hbd
              subst hla
              subst hga
              clear hce hcx hrx hgc1 hgr hxl hL hbd
              by_cases hjw : j < W
              · obtain ⟨pg, ta, tc, hpa, hpl, hpc1, hpr⟩ := HPP.out j hjw
                rw [Xk_at X W j hjw, HL.out] at hpc1 hpr
                have hxl : L.length = xn := RX.out.hlen
                rw [hxl] at hpc1 hpr
                have CPV := Lib.hid (fun (v : World) (hv : Below w4.heap.size w4 v) => (hv.cell (p := ⟨pg, j, none⟩) hpl).trans hpc1)
                have RP := Lib.hid (hpr.mono BD.out)
                subst hpa
                clear hpc1 hpr hxl
                go_wp2_with fail
                refine region_h (fun v => Below w4.heap.size w4 v) (by kernel_rfl) (by kernel_rfl) (by rw [hwd]; exact BD.out) ?_
                rw [hwd]
                clear hwd
                (refine h_read 0 rfl (by kernel_rfl) (by kernel_rfl) (h_free rfl) ?_ ?_ ?_; rotate_left; (focus (intro v hv; go_simp; rfl)); go_simp)
                (refine h_read 1 rfl (by kernel_rfl) (by kernel_rfl) (h_free rfl) ?_ ?_ ?_; rotate_left; (focus (intro v hv; go_simp; rfl)); go_simp)
                (refine h_read 2 rfl (by kernel_rfl) (by kernel_rfl) (h_free rfl) ?_ ?_ ?_; rotate_left; (focus (intro v hv; go_simp; rfl)); go_simp)
                (refine h_read 3 rfl (by kernel_rfl) (by kernel_rfl) (h_free rfl) ?_ ?_ ?_; rotate_left; (focus (intro v hv; have cg := CGV.out _ hv; have cx := CXV.out _ hv; have cp := CPV.out _ hv; go_simp; rfl)); go_simp)
                (refine h_read 4 rfl (by kernel_rfl) (by kernel_rfl) (h_free rfl) ?_ ?_ ?_; rotate_left; (focus (intro v hv; go_simp; rfl)); go_simp)
                (refine h_read 5 rfl (by kernel_rfl) (by kernel_rfl) (h_free rfl) ?_ ?_ ?_; rotate_left; (focus (intro v hv; go_simp; rfl)); go_simp)
                (refine h_read 6 rfl (by kernel_rfl) (by kernel_rfl) (h_free rfl) ?_ ?_ ?_; rotate_left; (focus (intro v hv; go_simp; rfl)); go_simp)
                (refine h_read 7 rfl (by kernel_rfl) (by kernel_rfl) (h_free rfl) ?_ ?_ ?_; rotate_left; (focus (intro v hv; have cg := CGV.out _ hv; have cx := CXV.out _ hv; have cp := CPV.out _ hv; go_simp; rfl)); go_simp)
                (refine h_call 8 rfl (by kernel_rfl) (h_free rfl) 23 ?_ ?_ ?_; rotate_left; (focus (go_simp; rfl)))
                refine (sequal sa xa xn xn sc xc L L wd RG.out RX.out).mono ?_
                rintro e w5 ⟨rfl, hq⟩
                have Q5 := Lib.hid (hq.below wd.heap.size)
                clear hq
                refine ⟨_, rfl, BD.out.trans (Q5.out.mono BD.out.size), ?_⟩
                go_simp
                (refine h_read 9 rfl (by kernel_rfl) (by kernel_rfl) (h_free rfl) ?_ ?_ ?_; rotate_left; (focus (intro v hv; go_simp; rfl)); go_simp)
                (refine h_read 10 rfl (by kernel_rfl) (by kernel_rfl) (h_free rfl) ?_ ?_ ?_; rotate_left; (focus (intro v hv; go_simp; rfl)); go_simp)
                (refine h_read 11 rfl (by kernel_rfl) (by kernel_rfl) ?_ ?_ ?_ ?_; (focus (go_simp; done)); rotate_left; (focus (intro v hv; go_simp; rfl)); go_simp)
                (refine h_read 12 rfl (by kernel_rfl) (by kernel_rfl) ?_ ?_ ?_ ?_; (focus (go_simp; done)); rotate_left; (focus (intro v hv; go_simp; rfl)); go_simp)
                (refine h_read 13 rfl (by kernel_rfl) (by kernel_rfl) ?_ ?_ ?_ ?_; (focus (go_simp; done)); rotate_left; (focus (intro v hv; go_simp; rfl)); go_simp)
                (refine h_read 14 rfl (by kernel_rfl) (by kernel_rfl) ?_ ?_ ?_ ?_; (focus (go_simp; done)); rotate_left; (focus (intro v hv; go_simp; rfl)); go_simp)
                (refine h_read 15 rfl (by kernel_rfl) (by kernel_rfl) ?_ ?_ ?_ ?_; (focus (go_simp; done)); rotate_left; (focus (intro v hv; go_simp; rfl)); go_simp)
                (refine h_read 16 rfl (by kernel_rfl) (by kernel_rfl) ?_ ?_ ?_ ?_; (focus (go_simp; done)); rotate_left; (focus (intro v hv; go_simp; rfl)); go_simp)
                (refine h_read 17 rfl (by kernel_rfl) (by kernel_rfl) ?_ ?_ ?_ ?_; (focus (go_simp; done)); rotate_left; (focus (intro v hv; go_simp; rfl)); go_simp)
                (refine h_read 18 rfl (by kernel_rfl) (by kernel_rfl) ?_ ?_ ?_ ?_; (focus (go_simp; done)); rotate_left; (focus (intro v hv; have cg := CGV.out _ hv; have cx := CXV.out _ hv; have cp := CPV.out _ hv; go_simp; rfl)); go_simp)
                (refine h_read 19 rfl (by kernel_rfl) (by kernel_rfl) ?_ ?_ ?_ ?_; (focus (go_simp; done)); rotate_left; (focus (intro v hv; go_simp; rfl)); go_simp)
                (refine h_read 20 rfl (by kernel_rfl) (by kernel_rfl) ?_ ?_ ?_ ?_; (focus (go_simp; done)); rotate_left; (focus (intro v hv; go_simp; rfl)); go_simp)
                (refine h_read 21 rfl (by kernel_rfl) (by kernel_rfl) ?_ ?_ ?_ ?_; (focus (go_simp; done)); rotate_left; (focus (intro v hv; go_simp; rfl)); go_simp)
                (refine h_read 22 rfl (by kernel_rfl) (by kernel_rfl) ?_ ?_ ?_ ?_; (focus (go_simp; done)); rotate_left; (focus (intro v hv; have cg := CGV.out _ hv; have cx := CXV.out _ hv; have cp := CPV.out _ hv; go_simp; rfl)); go_simp)
                (refine h_call 23 rfl (by kernel_rfl) ?_ 23 ?_ ?_ ?_; (focus (go_simp; done)); rotate_left; (focus (go_simp; rfl)))
                refine (sequal ta xa xn xn tc xc L L w5 (RP.out.mono Q5.out) (RX.out.mono Q5.out)).mono ?_
                rintro e w6 ⟨rfl, hq⟩
                have Q6 := Lib.hid (Q5.out.trans (hq.below wd.heap.size))
                clear hq
                refine ⟨_, rfl, BD.out.trans (Q6.out.mono BD.out.size), ?_⟩
                go_simp
                (refine h_read 24 rfl (by kernel_rfl) (by kernel_rfl) ?_ ?_ ?_ ?_; (focus (go_simp; done)); rotate_left; (focus (intro v hv; go_simp; rfl)); go_simp)
                (refine h_read 25 rfl (by kernel_rfl) (by kernel_rfl) ?_ ?_ ?_ ?_; (focus (go_simp; done)); rotate_left; (focus (intro v hv; go_simp; rfl)); go_simp)
                (refine h_read 26 rfl (by kernel_rfl) (by kernel_rfl) (h_free rfl) ?_ ?_ ?_; rotate_left; (focus (intro v hv; go_simp; rfl)); go_simp)
                refine h_done (by kernel_rfl) ?_
                go_wp2_with fail
                go_roundw
                case rel => exact ⟨j + 1, vint (by omega), by omega, Lib.hid (BD.out.trans (Q6.out.mono BD.out.size))⟩
                case measure => simp [intOf]; omega
              · go_wp2_with fail
                refine region_h (fun v => Below w4.heap.size w4 v) (by kernel_rfl) (by kernel_rfl) (by rw [hwd]; exact BD.out) ?_
                rw [hwd]
                clear hwd
                (refine h_read 0 rfl (by kernel_rfl) (by kernel_rfl) (h_free rfl) ?_ ?_ ?_; rotate_left; (focus (intro v hv; go_simp; rfl)); go_simp)
                (refine h_read 1 rfl (by kernel_rfl) (by kernel_rfl) (h_free rfl) ?_ ?_ ?_; rotate_left; (focus (intro v hv; go_simp; rfl)); go_simp)
                (refine h_read 2 rfl (by kernel_rfl) (by kernel_rfl) (h_free rfl) ?_ ?_ ?_; rotate_left; (focus (intro v hv; go_simp; rfl)); go_simp)
                (refine h_read 3 rfl (by kernel_rfl) (by kernel_rfl) (h_free rfl) ?_ ?_ ?_; rotate_left; (focus (intro v hv; have cg := CGV.out _ hv; have cx := CXV.out _ hv; go_simp; rfl)); go_simp)
                (refine h_read 4 rfl (by kernel_rfl) (by kernel_rfl) (h_free rfl) ?_ ?_ ?_; rotate_left; (focus (intro v hv; go_simp; rfl)); go_simp)
                (refine h_read 5 rfl (by kernel_rfl) (by kernel_rfl) (h_free rfl) ?_ ?_ ?_; rotate_left; (focus (intro v hv; go_simp; rfl)); go_simp)
                (refine h_read 6 rfl (by kernel_rfl) (by kernel_rfl) (h_free rfl) ?_ ?_ ?_; rotate_left; (focus (intro v hv; go_simp; rfl)); go_simp)
                (refine h_read 7 rfl (by kernel_rfl) (by kernel_rfl) (h_free rfl) ?_ ?_ ?_; rotate_left; (focus (intro v hv; have cg := CGV.out _ hv; have cx := CXV.out _ hv; go_simp; rfl)); go_simp)
                (refine h_call 8 rfl (by kernel_rfl) (h_free rfl) 23 ?_ ?_ ?_; rotate_left; (focus (go_simp; rfl)))
                refine (sequal sa xa xn xn sc xc L L wd RG.out RX.out).mono ?_
                rintro e w5 ⟨rfl, hq⟩
                have Q5 := Lib.hid (hq.below wd.heap.size)
                clear hq
                refine ⟨_, rfl, BD.out.trans (Q5.out.mono BD.out.size), ?_⟩
                go_simp
                (refine h_read 9 rfl (by kernel_rfl) (by kernel_rfl) (h_free rfl) ?_ ?_ ?_; rotate_left; (focus (intro v hv; go_simp; rfl)); go_simp)
                (refine h_read 10 rfl (by kernel_rfl) (by kernel_rfl) (h_free rfl) ?_ ?_ ?_; rotate_left; (focus (intro v hv; go_simp; rfl)); go_simp)
                (refine h_read 11 rfl (by kernel_rfl) (by kernel_rfl) ?_ ?_ ?_ ?_; (focus (go_simp; done)); rotate_left; (focus (intro v hv; go_simp; rfl)); go_simp)
                (refine h_read 12 rfl (by kernel_rfl) (by kernel_rfl) ?_ ?_ ?_ ?_; (focus (go_simp; done)); rotate_left; (focus (intro v hv; go_simp; rfl)); go_simp)
                (refine h_read 13 rfl (by kernel_rfl) (by kernel_rfl) ?_ ?_ ?_ ?_; (focus (go_simp; done)); rotate_left; (focus (intro v hv; go_simp; rfl)); go_simp)
                (refine h_read 14 rfl (by kernel_rfl) (by kernel_rfl) ?_ ?_ ?_ ?_; (focus (go_simp; done)); rotate_left; (focus (intro v hv; go_simp; rfl)); go_simp)
                (refine h_skip 15 rfl (by kernel_rfl) (by kernel_rfl) ?_ ?_; (focus (go_simp; first | done | (intro h; cases h) | simp)); go_simp)
                (refine h_skip 16 rfl (by kernel_rfl) (by kernel_rfl) ?_ ?_; (focus (go_simp; first | done | (intro h; cases h) | simp)); go_simp)
                (refine h_skip 17 rfl (by kernel_rfl) (by kernel_rfl) ?_ ?_; (focus (go_simp; first | done | (intro h; cases h) | simp)); go_simp)
                (refine h_skip 18 rfl (by kernel_rfl) (by kernel_rfl) ?_ ?_; (focus (go_simp; first | done | (intro h; cases h) | simp)); go_simp)
                (refine h_skip 19 rfl (by kernel_rfl) (by kernel_rfl) ?_ ?_; (focus (go_simp; first | done | (intro h; cases h) | simp)); go_simp)
                (refine h_skip 20 rfl (by kernel_rfl) (by kernel_rfl) ?_ ?_; (focus (go_simp; first | done | (intro h; cases h) | simp)); go_simp)
                (refine h_skip 21 rfl (by kernel_rfl) (by kernel_rfl) ?_ ?_; (focus (go_simp; first | done | (intro h; cases h) | simp)); go_simp)
                (refine h_skip 22 rfl (by kernel_rfl) (by kernel_rfl) ?_ ?_; (focus (go_simp; first | done | (intro h; cases h) | simp)); go_simp)
                (refine h_skip 23 rfl (by kernel_rfl) (by kernel_rfl) ?_ ?_; (focus (go_simp; first | done | (intro h; cases h) | simp)); go_simp)
                (refine h_skip 24 rfl (by kernel_rfl) (by kernel_rfl) ?_ ?_; (focus (go_simp; first | done | (intro h; cases h) | simp)); go_simp)
                (refine h_read 25 rfl (by kernel_rfl) (by kernel_rfl) ?_ ?_ ?_ ?_; (focus (go_simp; done)); rotate_left; (focus (intro v hv; go_simp; rfl)); go_simp)
                (refine h_read 26 rfl (by kernel_rfl) (by kernel_rfl) (h_free rfl) ?_ ?_ ?_; rotate_left; (focus (intro v hv; go_simp; rfl)); go_simp)
                refine h_done (by kernel_rfl) ?_
                go_wp2_with fail
                go_roundw
                case rel => exact ⟨j + 1, vint (by omega), by omega, Lib.hid (BD.out.trans (Q5.out.mono BD.out.size))⟩
                case measure => simp [intOf]; omega
            · obtain rfl : k = j := by omega
              go_wp2_with (go_at_call 30; refine (awake10 wr).mono ?_; rintro e w9 ⟨rfl, hb9⟩; have B9 := Lib.hid ((D4.out.trans (BL.out.mono D4.out.size)).trans (hb9.mono (Nat.le_trans D4.out.size BL.out.size))); clear hb9)
              go_ret
              exact ⟨rfl, B9.out⟩
end Go.Proofs.Ytfcbndjciojniaa.W
