/- LAYER 29 (place): law Once. -/
import Derived.Test.YthbbiiegbddpdaaDoorPlE
set_option linter.unusedSimpArgs false
set_option linter.unusedVariables false
namespace Go.Proofs.YthbbiiegbddpdaaDoor.W
open Go Go.ChangeShapes Go.WideShapes Go.ChangeAt Go.RowKit
open Go.Proofs.YthbbiiegbddpdaaDoor.S
open Go.Proofs.YthbbiiegbddpdaaDoor.P (enc dec shaL shaL_len)

theorem sort_ints (base : Nat) (v : Value) (L : List Int) (w : World) (h7 : L.length ≤ 7) (h0 : 0 < L.length) (hb : base ≤ w.heap.size) (h : LsO intE w base v L) :
    Calls Tryd.prog 17 #[v] w fun e w' => e = .returned (.tuple #[]) ∧ (∃ S, S.Perm L ∧ S.Pairwise (· ≤ ·) ∧ LsO intE w' base v S) ∧ Below base w w' := by
  rcases h.owr intOk with ⟨rfl, h0'⟩ | ⟨g, c, Z, hv2, hg, ho⟩
  · rw [h0'] at h0; simp at h0
  subst hv2
  have hrow : Row w g 3 (CI L Z) := by
    have := ho.row
    rw [flat_int] at this
    exact this
  refine (isorts g c L.length L Z w rfl h7 hrow).mono ?_
  rintro e w' ⟨rfl, hgw, S, hp, hs, hr⟩
  have hSL := hp.length_eq
  refine ⟨rfl, ⟨S, hp, hs, ?_⟩, hgw.below hg hb⟩
  have ho2 : OwR intE w' g L.length c S Z := ⟨by rw [flat_int]; exact hr, hSL, ho.hnc, ho.hcm, by
    have := ho.hl
    rw [flat_int, List.length_append, List.length_map] at this ⊢
    rw [hSL]; exact this⟩
  have := ho2.lso intOk hg L.length (Nat.le_refl _)
  rw [List.take_of_length_le (by omega)] at this
  exact this
theorem range_sorted (S : List Int) (N : Nat) (hp : S.Perm ((List.range N).map Int.ofNat)) (hs : S.Pairwise (· ≤ ·)) : S = (List.range N).map Int.ofNat := by
  refine List.Perm.eq_of_pairwise (le := fun x y : Int => x ≤ y) (fun a b _ _ h1 h2 => by omega) hs ?_ hp
  rw [List.pairwise_map]
  exact List.pairwise_lt_range.imp (fun h => by show ((_ : Nat) : Int) ≤ ((_ : Nat) : Int); omega)
theorem ordL_perm (s : ByteArray) (N : Nat) : (ordL s N).Perm ((List.range N).map Int.ofNat) := by
  have hnd : ((List.range N).map Int.ofNat).Nodup := by
    rw [List.Nodup, List.pairwise_map]
    exact List.nodup_range.imp (fun h e => h (Int.ofNat.inj e))
  refine (List.perm_ext_iff_of_nodup (ordL_nodup s N) hnd).2 fun y => ?_
  rw [ordL_mem]
  simp only [List.mem_map, List.mem_range]
  constructor
  · intro h; exact ⟨y.toNat, by omega, by show ((y.toNat : Nat) : Int) = y; omega⟩
  · rintro ⟨k, hk, rfl⟩
    show (0 : Int) ≤ (k : Int) ∧ (k : Int) < (N : Int)
    omega
/-- how many of the nodes below k have it -/
def cntP (T : List Int) (k : Nat) : Nat := ((List.range k).filter fun (i : Nat) => decide ((i : Int) ∈ T)).length
theorem cntP_next (T : List Int) (k : Nat) : cntP T (k + 1) = cntP T k + if (k : Int) ∈ T then 1 else 0 := by
  unfold cntP
  rw [List.range_succ, List.filter_append, List.length_append]
  by_cases h : (k : Int) ∈ T <;> simp [h]
theorem cntP_all (T : List Int) (N : Nat) (hn : T.Nodup) (hT : ∀ x ∈ T, 0 ≤ x ∧ x < (N : Int)) : cntP T N = T.length := by
  have key : (((List.range N).filter fun (i : Nat) => decide ((i : Int) ∈ T)).map Int.ofNat).Perm T := by
    refine (List.perm_ext_iff_of_nodup ?_ hn).2 fun y => ?_
    · rw [List.Nodup, List.pairwise_map]
      exact (List.nodup_range.sublist List.filter_sublist).imp (fun h e => h (Int.ofNat.inj e))
    · simp only [List.mem_map, List.mem_filter, List.mem_range, decide_eq_true_eq]
      constructor
      · rintro ⟨k, ⟨_, hk⟩, rfl⟩; exact hk
      · intro h
        have := hT y h
        exact ⟨y.toNat, ⟨by omega, by rw [show ((y.toNat : Nat) : Int) = y by omega]; exact h⟩, by show ((y.toNat : Nat) : Int) = y; omega⟩
  have := key.length_eq
  rw [List.length_map] at this
  exact this
theorem cntP_le (T : List Int) (k : Nat) : cntP T k ≤ k := by
  unfold cntP
  exact Nat.le_trans (List.length_filter_le _ _) (by simp)
set_option maxRecDepth 100000 in
set_option maxHeartbeats 16000000 in
theorem law_PlaceOnce (s : ByteArray) (n : Int) (w : World) (hK : Ks w) (_hs : s.size ≤ maxLen) (wn : (Lit.int .i64 n).wf = true) :
    Calls Tryd.prog 4 #[.string s, .int .i64 n] w fun x w' => x = .returned (.bool true) ∧ Below w.heap.size w w' := by
  have hn : SI64 n := bd wn
  have HK := Lib.hid hK
  have HA := Lib.hid (fun w' (hb : Below w.heap.size w w') => awake29 w' (HK.out.below hb HK.out.pos))
  clear hK wn
  by_cases f1 : s.size ≤ 500
  rotate_left
  · have g1 : (500 : Int) < (s.size : Int) := by omega
    go_enter Tryd.func4, Tryd.ntmps4
    go_wp2_with (go_at_call 6; (with_reducible refine (HA.out _ (Below.refl _ _)).mono ?_); rintro x wb ⟨rfl, hb⟩; have Bb := Lib.hid hb; clear hb)
    go_ret
    exact ⟨rfl, Bb.out⟩
  have g1 : ¬ (500 : Int) < (s.size : Int) := by omega
  by_cases f2 : n < 1
  · go_enter Tryd.func4, Tryd.ntmps4
    go_wp2_with (go_at_call 6; (with_reducible refine (HA.out _ (Below.refl _ _)).mono ?_); rintro x wb ⟨rfl, hb⟩; have Bb := Lib.hid hb; clear hb)
    go_ret
    exact ⟨rfl, Bb.out⟩
  by_cases f3 : 7 < n
  · go_enter Tryd.func4, Tryd.ntmps4
    go_wp2_with (go_at_call 6; (with_reducible refine (HA.out _ (Below.refl _ _)).mono ?_); rintro x wb ⟨rfl, hb⟩; have Bb := Lib.hid hb; clear hb)
    go_ret
    exact ⟨rfl, Bb.out⟩
  have hs : s.size ≤ 1000 := by omega
  obtain ⟨N, rfl⟩ : ∃ N : Nat, n = (N : Int) := ⟨n.toNat, by omega⟩
  have hN1 : 1 ≤ N := by omega
  have hN7 : N ≤ 7 := by omega
  have HC1 := Lib.hid (plorder s (N : Int) w HK.out hs hn)
  have HC5 := Lib.hid (fun (k : Nat) w' (hb : Below w.heap.size w w') => plhas s (N : Int) (k : Int) w' (HK.out.below hb HK.out.pos) hs hn)
  have HOL := Lib.hid (show ordP s (N : Int) = ordL s N by unfold ordP; congr 1; omega)
  have HLN := Lib.hid (show (ordL s N).length = N from ordL_len s N)
  have HCA := Lib.hid (show cntP (nodP s (N : Int)) N = min N 3 by
    rw [cntP_all _ N (by unfold nodP; rw [HOL.out]; exact (ordL_nodup s N).sublist (List.take_sublist _ _)) (fun x hx => by unfold nodP at hx; rw [HOL.out] at hx; exact (ordL_mem s x N).1 (List.mem_of_mem_take hx))]
    unfold nodP; rw [HOL.out, List.length_take, HLN.out]; omega)
  have HSI := Lib.hid (ordP_si s (N : Int))
  rw [HOL.out] at HC1 HSI
  clear f1 hs hn
  go_enter Tryd.func4, Tryd.ntmps4
  go_wp2_with (first
    | (go_at_call 8; (with_reducible refine HC1.out.mono ?_); rintro x w1 ⟨v, rfl, hl, hb⟩; obtain ⟨a1, c1, rfl, hls, -⟩ := hl.ls intOk HSI.out; rw [HLN.out] at hls ⊢; have S1 := Lib.hid hls; have B1 := Lib.hid hb; clear hl hb hls)
    | (go_at_call 16; (with_reducible refine (iclone a1 N c1 (ordL s N) w1 S1.out (by omega)).mono ?_); rintro x w2 ⟨a2, c2, rfl, hl, hb⟩; have L2 := Lib.hid hl; have B2 := Lib.hid (B1.out.trans (hb.mono B1.out.size)); have Z2 := Lib.hid hb.size; clear hl hb)
    | (go_at_call 17; have HD := sort_ints w1.heap.size _ (ordL s N) w2 (by rw [HLN.out]; exact hN7) (by rw [HLN.out]; exact hN1) Z2.out L2.out; (with_reducible refine HD.mono ?_); clear HD; rintro x w3 ⟨rfl, ⟨S, hp, hs, hl⟩, hb⟩; have HS := Lib.hid (range_sorted S N (hp.trans (ordL_perm s N)) hs); rw [HS.out] at hl; have L3 := Lib.hid hl; have B3 := Lib.hid (B2.out.trans (hb.mono B1.out.size)); clear hl hb hp hs HS))
  obtain ⟨a3, c3, hv, hls, -⟩ := L3.out.ls intOk (fun x hx => by
    obtain ⟨k, hk, rfl⟩ := List.mem_map.1 hx
    have hk := List.mem_range.1 hk
    show SI64 (k : Int)
    exact ⟨by omega, by omega⟩)
  have hrl : ((List.range N).map Int.ofNat).length = N := by simp
  rw [hrl] at hv hls
  injection hv with e1 e2 e3
  subst e1 e3
  have LS := Lib.hid hls
  clear hls e2 hrl
  go_loopw [30] (fun vi wr => ∃ (k : Nat), vi = .int .i64 (k : Int) ∧ k ≤ N ∧ w3 = wr) (fun vi _ => N - (intOf vi).toNat)
  case atStart => exact ⟨0, rfl, Nat.zero_le _, rfl⟩
  case round =>
    obtain ⟨k, rfl, hk, rfl⟩ := hrel
    by_cases hlt : k < N
    · obtain ⟨b, off, x, rfl, hx, hcell, -⟩ := LS.out.at intOk (Below.refl _ _) k hlt
      have hxk : x = (k : Int) := by
        rw [List.getElem?_map, List.getElem?_range hlt] at hx
        exact (Option.some.inj hx).symm
      subst hxk
      have c0 : w3.cell? ⟨b, off + k, none⟩ = some (.int .i64 (k : Int)) := by have := hcell 0 _ rfl; simpa using this
      have g2 : (0 : Int) ≤ (k : Int) := by omega
      have g3 : (k : Int) < (N : Int) := by omega
      clear hx hcell
      go_wp2_with fail
      go_roundw
      case rel => exact ⟨k + 1, by go_num, by omega, trivial⟩
      case measure => simp [intOf]; omega
    · obtain rfl : k = N := by omega
      go_wp2_with fail
      go_loopw [8, 40] (fun vh vi wr => ∃ (j : Nat), vh = .int .i64 (cntP (nodP s (k : Int)) j : Int) ∧ vi = .int .i64 (j : Int) ∧ j ≤ k ∧ Hid (Below w.heap.size w wr)) (fun _ vi _ => k - (intOf vi).toNat)
      case atStart => exact ⟨0, rfl, rfl, Nat.zero_le _, B3⟩
      case round =>
        obtain ⟨j, rfl, rfl, hj, BB⟩ := hrel
        by_cases hjk : j < k
        · have g4 : (j : Int) < (k : Int) := by omega
          have HC := Lib.hid (HC5.out j wr BB.out)
          have HN := Lib.hid (cntP_next (nodP s (k : Int)) j)
          have hcl := cntP_le (nodP s (k : Int)) j
          obtain ⟨C, hC⟩ : ∃ C, cntP (nodP s (k : Int)) j = C := ⟨_, rfl⟩
          have HCC := Lib.hid hC
          rw [hC] at HN hcl ⊢
          by_cases hq : (j : Int) ∈ nodP s (k : Int)
          · rw [decide_eq_true hq] at HC
            rw [if_pos hq] at HN
            clear hq hC
            go_wp2_with (go_at_call 12; (with_reducible refine HC.out.mono ?_); rintro x w5 ⟨rfl, hb⟩; have B5 := Lib.hid (BB.out.trans (hb.mono BB.out.size)); clear hb)
            go_roundw
            case rel => exact ⟨j + 1, by rw [HN.out]; go_num, by go_num, by omega, B5⟩
            case measure => simp [intOf]; omega
          · rw [decide_eq_false hq] at HC
            rw [if_neg hq] at HN
            clear hq hC
            go_wp2_with (go_at_call 12; (with_reducible refine HC.out.mono ?_); rintro x w5 ⟨rfl, hb⟩; have B5 := Lib.hid (BB.out.trans (hb.mono BB.out.size)); clear hb)
            go_roundw
            case rel => exact ⟨j + 1, by rw [HN.out]; go_num, by go_num, by omega, B5⟩
            case measure => simp [intOf]; omega
        · obtain rfl : j = k := by omega
          rw [HCA.out]
          obtain ⟨m3, hm⟩ : ∃ m : Nat, min j 3 = m := ⟨_, rfl⟩
          rw [hm]
          have hmin : min (j : Int) 3 = (m3 : Int) := by omega
          clear hlt hjk hj hk hN1 hN7 f2 f3 hm
          go_wp2_with (go_at_call 6; (with_reducible refine (HA.out _ BB.out).mono ?_); rintro x wb ⟨rfl, hb⟩; have Bb := Lib.hid (BB.out.trans (hb.mono BB.out.size)); clear hb)
          go_ret
          exact ⟨rfl, Bb.out⟩
end Go.Proofs.YthbbiiegbddpdaaDoor.W
