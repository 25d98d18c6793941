/- THE LAWS of layer 2 (pack), but for PackReads: each returns true; nothing that was there has changed. -/
import Derived.Test.YtbdlhcgilcpeoaaPackR5
namespace Go.Proofs.Ytbdlhcgilcpeoaa.W
open Go.ChangeShapes Go.WideShapes Go.ChangeAt Go.RowKit
open Go.Proofs.Ytbdlhcgilcpeoaa.P (mk lo hi enc tl gr up dec)

/-- bytes in new memory -/
theorem rd_new (w : World) (l : List UInt8) (cs : Array Value) (t : TypeId) (hc : cs = (l.map B).toArray) (hl : l.length ≤ 9223372036854775807) :
    Rd (w.alloc (.cells cs t)) (some ⟨w.heap.size, 0, none⟩) l.length l.length l := by
  subst hc
  refine ⟨rfl, Nat.le_refl _, hl, (fun h => by cases h), .inr ⟨_, 0, rfl, by simp, fun i hi => ?_⟩⟩
  rw [cell_of_row _ w.heap.size (0 + i) _ t _ (heap_alloc_new w _)]; simp [hi]

theorem Blk.rd' {w : World} {g : Nat} {L : List UInt8} (h : Blk w g L) (n : Nat) (hn : L.length = n) (hm : n ≤ 9223372036854775807) : Rd w (some ⟨g, 0, none⟩) n n L := by
  subst hn; exact h.rd hm
theorem Fr.form' {w : World} {base : Nat} {v : Value} {l : List UInt8} (h : Fr w base v l) (n : Nat) (hn : l.length = n) : ∃ a cap, v = .slice a n cap ∧ Rd w a n cap l := by
  subst hn
  obtain ⟨a, cap, hv, hr, -⟩ := h.form
  exact ⟨a, cap, hv, hr⟩

theorem enc300 : enc 300 = [130, 44] := by
  unfold enc; rw [P.hi_pos (by omega), show 300 / 128 / 128 = 0 from rfl, P.hi_zero]; decide
theorem num_bad : numR 9 [128, 1] 0 = (0, [], 3) := by decide

set_option maxHeartbeats 1000000 in
theorem awake2 (w : World) :
    Calls Try.prog 32 #[] w fun e w' => e = .returned (.bool true) ∧ Below w.heap.size w w' := by
  have E300 := Lib.hid enc300
  have NB := Lib.hid num_bad
  go_enter Try.func32, Try.ntmps32
  go_wp2_with fail
  refine (pnum none 0 0 300 [] w (Rd_nil w) (by omega) (by omega)).mono ?_
  rw [show (300 : Int).toNat = 300 from rfl, E300.out]
  rintro e w1 ⟨rfl, hb1, hbl1, -⟩
  have hs1 := hbl1.size
  go_wp2_with fail
  refine (sequal _ _ _ _ _ _ [130, 44] [130, 44] _ ((hb1.rd (by decide)).mono ((Below.refl _ _).alloc (Nat.le_refl _) _)) (rd_new w1 [130, 44] _ _ rfl (by decide))).mono ?_
  rw [show decide (([130, 44] : List UInt8) = [130, 44]) = true from by decide]
  rintro e w2 ⟨rfl, hq⟩
  have hbl2 := (hbl1.alloc hs1 (.cells #[.int .u8 130, .int .u8 44] 5)).trans (hq.below _)
  have hs2 := hbl2.size
  clear hq
  go_wp2_with fail
  refine (popen _ _ _ [128, 1] _ (rd_new w2 [128, 1] _ _ rfl (by decide)) (by decide)).mono ?_
  rintro e w3 ⟨p, rfl, hp, hrp, hbl3⟩
  have hbl4 := (hbl2.alloc hs2 _).trans (hbl3.mono (by simp; omega))
  clear hbl2 hbl3
  go_wp2_with fail
  refine (pnumR p 9 [128, 1] 0 w3 hrp).mono ?_
  rw [NB.out]
  rintro e w4 ⟨rfl, -, hu⟩
  go_wp2_with fail
  go_ret
  exact ⟨rfl, hbl4.trans (hu.below (by simp at hp; omega))⟩

set_option maxHeartbeats 4000000 in
theorem law_PackWrites (a : Option Addr) (len cap : Nat) (zs : List Int) (n : Int) (s : ByteArray) (yes : Bool) (w : World) (w0 : IsRow .u8 w a len cap zs) (w1 : (Lit.int .i64 n).wf = true) (w2 : s.size ≤ maxLen) :
    Calls Try.prog 9 #[.slice a len cap, .int .i64 n, .string s, .bool yes] w fun e w' => e = .returned (.bool true) ∧ Below w.heap.size w w' := by
  have hr := Rd.of_row w0
  obtain ⟨l, hl⟩ : ∃ l, (zs.take len).map (fun n => UInt8.ofNat n.toNat) = l := ⟨_, rfl⟩
  rw [hl] at hr
  clear hl w0
  have hle := hr.hle
  have hmax := hr.hmax
  have hn := (bd w1).2
  unfold maxLen at w2
  have hsi : (s.size : Int) ≤ 9223372036854775807 := by omega
  have HR := Lib.hid hr
  clear hr w1 w2
  by_cases h1 : (2000 : Int) < (len : Int)
  · go_enter Try.func9, Try.ntmps9
    go_wp2_with (go_at_call 32; refine (awake2 _).mono ?_; rintro e w' ⟨rfl, hb⟩)
    go_ret
    exact ⟨rfl, by assumption⟩
  · by_cases h2 : (2000 : Int) < (s.size : Int)
    · go_enter Try.func9, Try.ntmps9
      go_wp2_with (go_at_call 32; refine (awake2 _).mono ?_; rintro e w' ⟨rfl, hb⟩)
      go_ret
      exact ⟨rfl, by assumption⟩
    · go_enter Try.func9, Try.ntmps9
      go_wp2_with fail
      refine (sclone a len cap l w HR.out (by omega)).mono ?_
      rintro e w1 ⟨vo, rfl, hfo, hb1⟩
      obtain ⟨ao, co, hvo, hro⟩ := hfo.form' len HR.out.hlen
      rw [hvo]
      have HRO := Lib.hid hro
      have hs1 := hb1.size
      clear hvo hfo hro
      have e9 : (enc n.toNat).length ≤ 9 := P.enc_len n.toNat (by omega)
      have f9 : (enc s.size).length ≤ 9 := P.enc_len s.size (by omega)
      have hll := HR.out.hlen
      have HLL := Lib.hid hll
      clear hll
      obtain ⟨N, hN⟩ : ∃ N, (enc n.toNat).length = N := ⟨_, rfl⟩
      obtain ⟨M, hM⟩ : ∃ M, (enc s.size).length = M := ⟨_, rfl⟩
      have HN := Lib.hid hN
      have HM := Lib.hid hM
      rw [hN] at e9
      rw [hM] at f9
      clear hN hM
      have HR := Lib.hid (HR.out.mono hb1)
      go_wp2_with fail
      -- Num
      refine (pnum a len cap n l w1 HR.out hn (by omega)).mono ?_
      rintro e w2 ⟨rfl, hk2, hb2, -⟩
      rw [HN.out]
      have hb2' := hb2
      have hs2 := hb2.size
      go_wp2_with fail
      refine (rnum a len cap n l w2 (HR.out.mono hb2') hn (by omega)).mono ?_
      rintro e w3 ⟨v3, rfl, hf3, hb3⟩
      have hb3' := hb2'.trans (hb3.mono hb2'.size)
      obtain ⟨a3, c3, hv3, hr3⟩ := hf3.form' (len + N) (by rw [List.length_append, HLL.out, HN.out])
      rw [hv3]
      have hk3 := hk2.mono hb3
      have HRA := Lib.hid (hk3.rd' (len + N) (by rw [List.length_append, HLL.out, HN.out]) (by omega))
      have HRB := Lib.hid hr3
      clear hk2 hk3 hf3 hr3 hv3 hb2
      go_wp2_with fail
      refine (sequal _ _ _ _ _ _ _ _ _ HRA.out HRB.out).mono ?_
      rw [show decide (l ++ enc n.toNat = l ++ enc n.toNat) = true from by simp]
      rintro e w4 ⟨rfl, hq4⟩
      have hb4 := hb3'.trans ((hq4.below w3.heap.size).mono hb3'.size)
      clear hb2' hb3 hb3' hq4 HRA HRB
      have hs4 := hb4.size
      -- Text
      go_wp2_with fail
      refine (ptext a len cap s l w4 (HR.out.mono hb4) (by omega) (by omega)).mono ?_
      rintro e w5 ⟨rfl, hk5, hb5, -⟩
      rw [HM.out]
      have hb5' := hb4.trans (hb5.mono hs4)
      go_wp2_with fail
      refine (rtext a len cap s l w5 (HR.out.mono hb5') (by omega) (by omega)).mono ?_
      rintro e w6 ⟨v6, rfl, hf6, hb6⟩
      have hb6' := hb5'.trans (hb6.mono hb5'.size)
      have hl6 : (l ++ (enc s.size ++ s.data.toList)).length = len + (M + s.size) := by rw [List.length_append, List.length_append, HLL.out, HM.out]; simp
      obtain ⟨a6, c6, hv6, hr6⟩ := hf6.form' _ hl6
      rw [hv6]
      have HRA := Lib.hid ((hk5.mono hb6).rd' _ hl6 (by omega))
      have HRB := Lib.hid hr6
      clear hk5 hf6 hr6 hv6 hl6 hb5
      go_wp2_with fail
      refine (sequal _ _ _ _ _ _ _ _ _ HRA.out HRB.out).mono ?_
      rw [show decide (l ++ (enc s.size ++ s.data.toList) = l ++ (enc s.size ++ s.data.toList)) = true from by simp]
      rintro e w7 ⟨rfl, hq7⟩
      have hb7 := hb6'.trans ((hq7.below w6.heap.size).mono hb6'.size)
      clear hb5' hb6 hb6' hq7 HRA HRB
      have hs7 := hb7.size
      -- Yes
      go_wp2_with fail
      refine (pyes a len cap yes l w7 (HR.out.mono hb7) (by omega)).mono ?_
      rintro e w8 ⟨rfl, hk8, hb8, -⟩
      have hb8' := hb7.trans (hb8.mono hs7)
      go_wp2_with fail
      refine (ryes a len cap yes l w8 (HR.out.mono hb8') (by omega)).mono ?_
      rintro e w9 ⟨v9, rfl, hf9, hb9⟩
      have hb9' := hb8'.trans (hb9.mono hb8'.size)
      have hl9 : (l ++ [if yes then (1 : UInt8) else 0]).length = len + 1 := by rw [List.length_append, HLL.out]; rfl
      obtain ⟨a9, c9, hv9, hr9⟩ := hf9.form' _ hl9
      rw [hv9]
      have HRA := Lib.hid ((hk8.mono hb9).rd' _ hl9 (by omega))
      have HRB := Lib.hid hr9
      clear hk8 hf9 hr9 hv9 hl9 hb8
      go_wp2_with fail
      refine (sequal _ _ _ _ _ _ _ _ _ HRA.out HRB.out).mono ?_
      rw [show decide (l ++ [if yes then (1 : UInt8) else 0] = l ++ [if yes then (1 : UInt8) else 0]) = true from by simp]
      rintro e w10 ⟨rfl, hq10⟩
      have hb10 := hb9'.trans ((hq10.below w9.heap.size).mono hb9'.size)
      clear hb8' hb9 hb9' hq10 HRA HRB
      have hs10 := hb10.size
      -- Size
      go_wp2_with fail
      refine (psize n w10 hn).mono ?_
      rw [HN.out]
      rintro e w11 ⟨rfl, rfl⟩
      go_wp2_with fail
      refine (rsize n w10 hn).mono ?_
      rw [HN.out]
      rintro e w11 ⟨rfl, hb11⟩
      have hb11' := hb10.trans (hb11.mono hs10)
      clear hb11
      -- b stays
      go_wp2_with fail
      refine (sequal _ _ _ _ _ _ _ _ _ (HR.out.mono hb11') (HRO.out.mono hb11')).mono ?_
      rw [show decide (l = l) = true from by simp]
      rintro e w12 ⟨rfl, hq12⟩
      have hb12 := hb11'.trans ((hq12.below w11.heap.size).mono hb11'.size)
      clear hb11' hq12
      go_wp2_with (go_at_call 32; refine (awake2 _).mono ?_; rintro e w' ⟨rfl, hb⟩)
      go_ret
      exact ⟨rfl, hb1.trans ((hb12.trans ((by assumption : Below w12.heap.size w12 _).mono hb12.size)).mono hs1)⟩

end Go.Proofs.Ytbdlhcgilcpeoaa.W
