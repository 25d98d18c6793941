/- CONTRACTS of layer 6 (caveat): which caveats may be. CONTRACTS of layer 6 (caveat): names; which caveats may be. CONTRACTS of layer 6 (caveat): Check, and the reference's. -/
import Derived.Test.YtjolmjbhpokgmaaGreatCavO
import Derived.Test.YtjolmjbhpokgmaaGreatQ
set_option linter.unusedSimpArgs false
set_option linter.unusedVariables false
namespace Go.Proofs.YtjolmjbhpokgmaaGreat.W
open Go.ChangeShapes Go.WideShapes Go.ChangeAt Go.RowKit

set_option maxHeartbeats 400000 in
theorem cwithin (n low high : Int) (w : World) :
    Calls Tryz.prog 87 #[.int .i64 n, .int .i64 low, .int .i64 high] w fun e w' => e = .returned (.bool (decide (low ≤ n) && decide (n ≤ high))) ∧ w = w' := by
  go_enter Tryz.func87, Tryz.ntmps87
  go_wp2
  all_goals
    go_ret
    exact ⟨by congr 2; simp; omega, rfl⟩



def namedV (k : Int) : Bool := decide (partsV k = 2)
def rmostV (k : Int) : Int := if k = 1 then 255 else if k = 5 then 7 else 1099511627776

theorem cnameByte (x : Nat) (w : World) (hx : x < 256) : Calls Tryz.prog 90 #[.int .u8 (x : Int)] w fun e w' => e = .returned (.bool (nb x)) ∧ w = w' := by
  obtain ⟨b, hb⟩ : ∃ b, nb x = b := ⟨_, rfl⟩
  rw [hb]
  have HB := Lib.hid hb
  clear hb
  by_cases h1 : 97 ≤ x <;> by_cases h2 : x ≤ 122 <;> by_cases h3 : 48 ≤ x <;> by_cases h4 : x ≤ 57 <;> by_cases h5 : x = 45 <;> by_cases h6 : x = 95
  all_goals first | omega | skip
  all_goals
    first | have n5 : ((x : Int) == 45) = true := by simp; omega | have n5 : ((x : Int) == 45) = false := by simp; omega
    first | have n6 : ((x : Int) == 95) = true := by simp; omega | have n6 : ((x : Int) == 95) = false := by simp; omega
    go_enter Tryz.func90, Tryz.ntmps90
    go_wp2
    go_ret
    refine ⟨?_, rfl⟩
    rw [← HB.out]
    simp [nb, *]

end Go.Proofs.YtjolmjbhpokgmaaGreat.W

namespace Go.Proofs.YtjolmjbhpokgmaaGreat.W
open Go.ChangeShapes Go.WideShapes Go.ChangeAt Go.RowKit

theorem all_take (s : ByteArray) (k : Nat) (hk : k < s.size) : (s.data.toList.take (k + 1)).all (fun x => nb x.toNat) = ((s.data.toList.take k).all (fun x => nb x.toNat) && nb s[k].toNat) := by
  have hk' : k < s.data.toList.length := by simpa using hk
  rw [List.take_succ_eq_append_getElem hk', List.all_append]
  simp
  rfl
theorem name_bad (s : ByteArray) (k : Nat) (hk : k < s.size) (h : nb s[k].toNat = false) : nameV s = false := by
  have hk' : k < s.data.toList.length := by simpa using hk
  have : (s.data.toList.all fun x => nb x.toNat) = false := by
    rw [List.all_eq_false]
    exact ⟨s.data.toList[k], List.getElem_mem _, by rw [Array.getElem_toList]; show ¬ nb s[k].toNat = true; rw [h]; decide⟩
  unfold nameV nameL
  rw [this, Bool.and_false, Bool.and_false]
theorem name_good (s : ByteArray) (h1 : 1 ≤ s.size) (h2 : s.size ≤ 16) (h : (s.data.toList.take s.size).all (fun x => nb x.toNat) = true) : nameV s = true := by
  have e : s.data.toList.take s.size = s.data.toList := List.take_of_length_le (by simp)
  rw [e] at h
  unfold nameV nameL
  rw [h]
  simp
  exact ⟨h1, h2⟩
theorem name_len (s : ByteArray) (h : ¬ (1 ≤ s.size ∧ s.size ≤ 16)) : nameV s = false := by
  have e : s.data.toList.length = s.size := by simp
  unfold nameV nameL
  rw [e]
  rcases Nat.lt_or_ge s.size 1 with h1 | h1
  · rw [decide_eq_false (by omega), Bool.false_and]
  · rw [decide_eq_false (p := s.size ≤ 16) (by omega), Bool.false_and, Bool.and_false]
theorem cwithin_b (n low high : Int) (w : World) (b : Bool) (hb : (decide (low ≤ n) && decide (n ≤ high)) = b) :
    Calls Tryz.prog 87 #[.int .i64 n, .int .i64 low, .int .i64 high] w fun e w' => e = .returned (.bool b) ∧ w = w' := by
  subst hb; exact cwithin n low high w
set_option maxHeartbeats 1000000 in
theorem cname (s : ByteArray) (w : World) (hs : s.size ≤ maxLen) : Calls Tryz.prog 73 #[.string s] w fun e w' => e = .returned (.bool (nameV s)) ∧ w = w' := by
  unfold maxLen at hs
  obtain ⟨r, hr⟩ : ∃ r, nameV s = r := ⟨_, rfl⟩
  rw [hr]
  have HR := Lib.hid hr
  clear hr
  by_cases h1 : 1 ≤ s.size ∧ s.size ≤ 16
  · obtain ⟨h1, h2⟩ := h1
    have HW := Lib.hid (show (decide ((1 : Int) ≤ (s.size : Int)) && decide ((s.size : Int) ≤ 16)) = true from by simp; omega)
    go_enter Tryz.func73, Tryz.ntmps73
    go_wp2_with (go_at_call 87; refine (cwithin_b _ _ _ _ true HW.out).mono ?_; rintro e w' ⟨rfl, rfl⟩)
    go_loop [10] (fun i => ∃ (k : Nat), k ≤ s.size ∧ i = .int .i64 k ∧ Hid ((s.data.toList.take k).all (fun x => nb x.toNat) = true)) (fun i => s.size - (intOf i).toNat)
    case atStart => exact ⟨0, Nat.zero_le _, rfl, Lib.hid rfl⟩
    case round =>
      obtain ⟨k, hk, rfl, HA⟩ := hrel
      by_cases hlt : k < s.size
      · have hall := all_take s k hlt
        have hx : s[k].toNat < 256 := s[k].toNat_lt
        rcases hb : nb s[k].toNat with _ | _
        · have hN := name_bad s k hlt hb
          have HN := Lib.hid (HR.out.symm.trans hN)
          have HB := Lib.hid hb
          clear hb hall hN
          go_wp2_with (go_at_call 90; refine (cnameByte _ _ hx).mono ?_; rw [HB.out]; rintro e w' ⟨rfl, rfl⟩)
          go_ret
          exact ⟨by rw [HN.out]; rfl, rfl⟩
        · rw [hb, HA.out] at hall
          have HB := Lib.hid hb
          have HA' := Lib.hid hall
          clear hb hall HA
          go_wp2_with (go_at_call 90; refine (cnameByte _ _ hx).mono ?_; rw [HB.out]; rintro e w' ⟨rfl, rfl⟩)
          go_round
          case rel => exact ⟨k + 1, by omega, by go_num, HA'⟩
          case measure => simp [intOf]; omega
      · obtain rfl : k = s.size := by omega
        have hN := name_good s (by omega) (by omega) HA.out
        have HN := Lib.hid (HR.out.symm.trans hN)
        clear hN HA
        go_wp2_with fail
        go_ret
        exact ⟨by rw [HN.out]; rfl, rfl⟩
  · have hN := name_len s h1
    have HN := Lib.hid (HR.out.symm.trans hN)
    clear hN
    have HW := Lib.hid (show (decide ((1 : Int) ≤ (s.size : Int)) && decide ((s.size : Int) ≤ 16)) = false from by simp; omega)
    go_enter Tryz.func73, Tryz.ntmps73
    go_wp2_with (go_at_call 87; refine (cwithin_b _ _ _ _ false HW.out).mono ?_; rintro e w' ⟨rfl, rfl⟩)
    go_ret
    exact ⟨by rw [HN.out]; rfl, rfl⟩

set_option maxHeartbeats 4000000 in
theorem uname (s : ByteArray) (w : World) (hs : s.size ≤ maxLen) : Calls Tryz.prog 85 #[.string s] w fun e w' => e = .returned (.bool (nameV s)) ∧ w = w' := by
  unfold maxLen at hs
  obtain ⟨r, hr⟩ : ∃ r, nameV s = r := ⟨_, rfl⟩
  rw [hr]
  have HR := Lib.hid hr
  clear hr
  by_cases h1 : 1 ≤ s.size ∧ s.size ≤ 16
  · obtain ⟨h1, h2⟩ := h1
    go_enter Tryz.func85, Tryz.ntmps85
    go_wp2_with fail
    go_loop [3] (fun i => ∃ (k : Nat), k ≤ s.size ∧ i = .int .i64 k ∧ Hid ((s.data.toList.take k).all (fun x => nb x.toNat) = true)) (fun i => s.size - (intOf i).toNat)
    case atStart => exact ⟨0, Nat.zero_le _, rfl, Lib.hid rfl⟩
    case round =>
      obtain ⟨k, hk, rfl, HA⟩ := hrel
      by_cases hlt : k < s.size
      · have hall := all_take s k hlt
        have hx : s[k].toNat < 256 := s[k].toNat_lt
        rcases hb : nb s[k].toNat with _ | _
        · have hN := name_bad s k hlt hb
          have HN := Lib.hid (HR.out.symm.trans hN)
          have HB := Lib.hid hb
          clear hb hall hN
          by_cases h1 : 97 ≤ s[k].toNat <;> by_cases h2 : s[k].toNat ≤ 122 <;> by_cases h3 : 48 ≤ s[k].toNat <;> by_cases h4 : s[k].toNat ≤ 57 <;> by_cases h5 : s[k].toNat = 45 <;> by_cases h6 : s[k].toNat = 95
          all_goals first | omega | skip
          all_goals first | (exfalso; have hq := HB.out; simp [nb, h1, h2, h3, h4, h5, h6] at hq; done) | skip
          all_goals
            first | have d2 : decide ((s[k].toNat : Int) ≤ 122) = true := by simp; omega | have d2 : decide ((s[k].toNat : Int) ≤ 122) = false := by simp; omega
            first | have d4 : decide ((s[k].toNat : Int) ≤ 57) = true := by simp; omega | have d4 : decide ((s[k].toNat : Int) ≤ 57) = false := by simp; omega
            have n5 : ((s[k].toNat : Int) == 45) = false := by simp; omega
            have n6 : ((s[k].toNat : Int) == 95) = false := by simp; omega
            go_wp2_with fail
            go_ret
            exact ⟨by rw [HN.out]; rfl, rfl⟩
        · rw [hb, HA.out] at hall
          have HB := Lib.hid hb
          have HA' := Lib.hid hall
          clear hb hall HA
          by_cases h1 : 97 ≤ s[k].toNat <;> by_cases h2 : s[k].toNat ≤ 122 <;> by_cases h3 : 48 ≤ s[k].toNat <;> by_cases h4 : s[k].toNat ≤ 57 <;> by_cases h5 : s[k].toNat = 45 <;> by_cases h6 : s[k].toNat = 95
          all_goals first | omega | skip
          all_goals first | (exfalso; have hq := HB.out; simp [nb, h1, h2, h3, h4, h5, h6] at hq; done) | skip
          all_goals
            first | have d2 : decide ((s[k].toNat : Int) ≤ 122) = true := by simp; omega | have d2 : decide ((s[k].toNat : Int) ≤ 122) = false := by simp; omega
            first | have d4 : decide ((s[k].toNat : Int) ≤ 57) = true := by simp; omega | have d4 : decide ((s[k].toNat : Int) ≤ 57) = false := by simp; omega
            first | have n5 : ((s[k].toNat : Int) == 45) = true := by simp; omega | have n5 : ((s[k].toNat : Int) == 45) = false := by simp; omega
            first | have n6 : ((s[k].toNat : Int) == 95) = true := by simp; omega | have n6 : ((s[k].toNat : Int) == 95) = false := by simp; omega
            go_wp2_with fail
            go_round
            case rel => exact ⟨k + 1, by omega, by go_num, HA'⟩
            case measure => simp [intOf]; omega
      · obtain rfl : k = s.size := by omega
        have hN := name_good s (by omega) (by omega) HA.out
        have HN := Lib.hid (HR.out.symm.trans hN)
        clear hN HA
        go_wp2_with fail
        go_ret
        exact ⟨by rw [HN.out]; rfl, rfl⟩
  · have hN := name_len s h1
    have HN := Lib.hid (HR.out.symm.trans hN)
    clear hN
    by_cases h0 : s.size < 1
    all_goals
      go_enter Tryz.func85, Tryz.ntmps85
      go_wp2_with fail
      go_ret
      exact ⟨by rw [HN.out]; rfl, rfl⟩


end Go.Proofs.YtjolmjbhpokgmaaGreat.W

namespace Go.Proofs.YtjolmjbhpokgmaaGreat.W
open Go.ChangeShapes Go.WideShapes Go.ChangeAt Go.RowKit

theorem quiet_sw {P : Program} {f : FuncId} {args : Array Value} {w : World} {n : Nat} {v v' : Value} (h : Calls P f args (w.drewN n) fun e w' => e = .returned v' ∧ w.drewN n = w') (hv : v' = v) :
    Calls P f args (w.drewN n) fun e w'' => e = .returned v ∧ ∃ m, w'' = w.drewN m := by
  subst hv
  exact h.mono fun _ _ ⟨he, hw⟩ => ⟨he, n, hw.symm⟩
theorem parts_ne (k : Int) : partsV k = 0 ∨ partsV k = 1 ∨ partsV k = 2 := by
  rcases parts_any k with ⟨rfl, e1, e2⟩ | ⟨rfl, e1, e2⟩ | ⟨rfl, e1, e2⟩ | ⟨rfl, e1, e2⟩ | ⟨rfl, e1, e2⟩ | ⟨rfl, e1, e2⟩ | ⟨hk, n1, n2, n3, n4, n5, n6, e1, e2⟩ <;> omega


end Go.Proofs.YtjolmjbhpokgmaaGreat.W
