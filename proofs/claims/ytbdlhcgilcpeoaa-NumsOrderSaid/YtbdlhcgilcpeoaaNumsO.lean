/- THE LAW NumsOrder of layer 1 (nums). -/
import Derived.Test.YtbdlhcgilcpeoaaNumsWc
namespace Go.Proofs.Ytbdlhcgilcpeoaa.W
open Go.ChangeShapes Go.WideShapes Go.ChangeAt Go.RowKit
open Go.Proofs.Ytbdlhcgilcpeoaa.B Go.Proofs.Ytbdlhcgilcpeoaa.S

theorem infoInt : (Try.prog.info? 3).map (fun i => (i.zero, i.size, i.bytes)) = some (some (.int .i64 0), 1, 8) := by kernel_rfl

theorem rev_take (l : List Int) (k : Nat) (h : k < l.length) : l.reverse.take (k + 1) = l.reverse.take k ++ [l.getD (l.length - 1 - k) 0] := by
  have h1 : k < l.reverse.length := by simpa using h
  have h2 : l.length - 1 - k < l.length := by omega
  rw [List.take_succ_eq_append_getElem h1]
  congr 2
  simp [h2]

set_option maxHeartbeats 1000000 in
theorem law_NumsOrder (most : Int) (a : Option Addr) (len cap : Nat) (zs : List Int) (w : World) (_w0 : (Lit.int .i64 most).wf = true) (w1 : IsRow .i64 w a len cap zs) :
    Calls Try.prog 6 #[.int .i64 most, .slice a len cap] w fun e w' => e = .returned (.bool true) ∧ Below w.heap.size w w' := by
  obtain ⟨hs, -⟩ := Sl.of_row w1
  clear w1
  obtain ⟨l, hl⟩ : ∃ l, zs.take len = l := ⟨_, rfl⟩
  rw [hl] at hs
  clear hl zs
  have hm := hs.2.1
  have HS := Lib.hid hs
  by_cases h : 200 < len
  · clear hs
    go_enter Try.func6, Try.ntmps6
    go_wp2_with (go_at_call 20; refine (awake _).mono ?_; rintro e w' ⟨rfl, hb⟩)
    go_ret
    exact ⟨rfl, by assumption⟩
  · obtain ⟨hlen, -, hwf, hc⟩ := hs
    have HW := Lib.hid hwf
    have HL := Lib.hid hlen
    have hr := sumG_reverse most l
    have HR := Lib.hid hr
    clear hr
    by_cases h0 : len = 0
    · have hnil : l = [] := List.eq_nil_of_length_eq_zero (by omega)
      clear hlen hwf hc HW HL
      subst h0 hnil
      go_enter Try.func6, Try.ntmps6
      go_wp2_with fail
      go_loopw [5, 6] (fun v i wr => v = .slice none 0 0 ∧ i = .int .i64 (-1) ∧ w = wr) (fun _ _ _ => 0)
      case atStart => exact ⟨rfl, by simp, rfl⟩
      case round =>
        obtain ⟨rfl, rfl, rfl⟩ := hrel
        go_wp2_with fail
        refine (nsum _ _ _ _ _ _ HS.out).mono ?_
        rintro e w' ⟨rfl, rfl⟩
        go_wp2_with fail
        refine (nsum _ none _ _ [] _ ⟨rfl, by omega, by simp, .inl rfl⟩).mono ?_
        rintro e w' ⟨rfl, rfl⟩
        go_wp2_with (go_at_call 20; refine (awake _).mono ?_; rintro e w' ⟨rfl, hb⟩)
        go_ret
        exact ⟨rfl, by assumption⟩
    · obtain ⟨b, off, rfl, hb, hcell⟩ := hc.resolve_left h0
      have HC := Lib.hid hcell
      clear hlen hwf hc hcell
      obtain ⟨i0, hi, hz0, hz1, hz2⟩ := info_parts infoInt
      go_enter Try.func6, Try.ntmps6
      go_wp2_with fail
      go_loopw [5, 6] (fun v i wr => ∃ k : Nat, k ≤ len ∧ i = .int .i64 ((len : Int) - 1 - k) ∧ wr.ownsRow w.heap.size 3 1 v k ((l.reverse.take k).map (Value.int .i64)) ∧ Below w.heap.size w wr) (fun _ i _ => (intOf i + 1).toNat)
      case atStart => exact ⟨0, Nat.zero_le _, by simp, World.ownsRow_nil _ _ _ _, Below.refl _ _⟩
      case round =>
        obtain ⟨k, hk, rfl, hown, hnx⟩ := hrel
        by_cases hlt : k < len
        · have hcell : wr.cell? ⟨b, off + (len - 1 - k), none⟩ = some (.int .i64 (l.getD (len - 1 - k) 0)) := by
            rw [hnx.cell (p := ⟨b, off + (len - 1 - k), none⟩) hb]
            exact HC.out _ (by omega)
          have hrt := rev_take l k (by rw [HL.out]; exact hlt)
          rw [HL.out] at hrt
          have HRT := Lib.hid hrt
          clear hrt
          have hsz := hnx.size
          generalize l.getD (len - 1 - k) 0 = x at *
          go_wp2_with (first | (at_builtin; refine wpList_append_own _ rfl _ _ 28 rfl w.heap.size 3 i0 (.int .i64 0) 1 8 Try.underlying28 hi hz0 hz1 hz2 rfl (by decide) _ _ _ rfl (hown.alloc _) ⟨wr.heap.size, 0, none⟩ 1 1 [.int .i64 x] rfl rfl ?c1 ?c2 ?c3 ?c4 ?c5 ?_))
          case c1 =>
            intro j u hj
            match j, hj with
            | 0, hj => simp at hj; subst hj; simp [Addr.add]
          case c2 => intro u hu; simp at hu; subst hu; rfl
          case c3 => unfold maxLen; omega
          case c4 => omega
          case c5 => simp; omega
          · intro v' w1 hown' hgrow _
            have hown2 : w1.ownsRow w.heap.size 3 1 v' (k + 1) ((l.reverse.take (k + 1)).map (Value.int .i64)) := by
              rw [HRT.out, List.map_append, List.map_take, List.map_reverse]; exact hown'
            have hb2 : Below w.heap.size w w1 := (hnx.alloc hsz _).grown hgrow (by simp; omega) (fun k hk => (hown.lt k hk).1)
            clear hown' hgrow hown hcell hnx
            go_wp2_with fail
            go_roundw
            case rel => exact ⟨k + 1, by omega, by go_num, hown2, hb2⟩
            case measure => simp [intOf]; omega
        · obtain rfl : k = len := by omega
          rw [List.take_of_length_le (by rw [List.length_reverse, HL.out]; omega)] at hown
          obtain ⟨a2, cap2, hv, hn2, hm2, hs2⟩ := Sl.of_own hown (fun x hx => HW.out x (by simpa using hx))
          have HS2 := Lib.hid hs2
          subst hv
          have hs1 := HS.out.mono hnx
          have HS1 := Lib.hid hs1
          clear hown hs2 hs1
          go_wp2_with fail
          refine (nsum _ _ _ _ _ _ HS1.out).mono ?_
          rintro e w' ⟨rfl, rfl⟩
          go_wp2_with fail
          refine (nsum _ _ _ _ _ _ HS2.out).mono ?_
          rw [HR.out]
          rintro e w' ⟨rfl, rfl⟩
          go_wp2_with (go_at_call 20; refine (awake _).mono ?_; rintro e w' ⟨rfl, hb⟩)
          go_ret
          exact ⟨rfl, hnx.trans ((by assumption : Below wr.heap.size wr _).mono hnx.size)⟩

end Go.Proofs.Ytbdlhcgilcpeoaa.W
