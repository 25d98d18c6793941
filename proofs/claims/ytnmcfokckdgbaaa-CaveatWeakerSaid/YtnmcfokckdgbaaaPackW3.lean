/- CONTRACTS of layer 2 (pack): the reference's writing; slices.Clone, slices.Equal of bytes. -/
import Derived.Test.YtnmcfokckdgbaaaPackW2
namespace Go.Proofs.Ytnmcfokckdgbaaa.W
open Go.ChangeShapes Go.WideShapes Go.ChangeAt Go.RowKit
open Go.Proofs.Ytnmcfokckdgbaaa.P (mk lo hi enc tl gr up)

/-- a store into a slice that the call owns -/
theorem Fr.set {w : World} {base g n cap : Nat} {l : List UInt8} (h : Fr w base (.slice (some ⟨g, 0, none⟩) n cap) l) (j : Nat) (x : UInt8) (hn : n = l.length) :
    Fr (w.setCell ⟨g, j, none⟩ (B x)) base (.slice (some ⟨g, 0, none⟩) n cap) (l.set j x) := by
  subst hn
  have := (World.ownsRow.stored h j (B x)).1
  unfold Fr; rw [List.length_set, List.map_set]; exact this
theorem Fr.cellAt {w : World} {base g n cap : Nat} {l : List UInt8} (h : Fr w base (.slice (some ⟨g, 0, none⟩) n cap) l) (j : Nat) (hj : j < l.length) (hn : n = l.length) :
    w.cell? ⟨g, j, none⟩ = some (B (l.getD j 0)) := by
  subst hn
  rw [World.ownsRow.cellAt h j (by omega)]; simp [hj]
theorem Fr.frozenAt {w : World} {base g n cap : Nat} {l : List UInt8} (h : Fr w base (.slice (some ⟨g, 0, none⟩) n cap) l) (j : Nat) (hn : n = l.length) :
    w.frozen? ⟨g, j, none⟩ = false := by
  subst hn
  exact World.ownsRow.frozenAt h j
theorem Fr.pos {w : World} {base : Nat} {v : Value} {l : List UInt8} (h : Fr w base v l) (hp : l ≠ []) : ∃ g cap, v = .slice (some ⟨g, 0, none⟩) l.length cap ∧ l.length ≤ cap ∧ base ≤ g ∧ g < w.heap.size := by
  obtain ⟨a, cap, rfl, hr, rfl | ⟨g, rfl, hg, hlt⟩⟩ := h.form
  · have h1 := hr.hnil rfl
    have h2 := hr.hle
    exact absurd (List.eq_nil_of_length_eq_zero (by omega)) hp
  · exact ⟨g, cap, rfl, hr.hle, hg, hlt⟩

theorem set_mid (p : List UInt8) (x y : UInt8) (r : List UInt8) (j : Nat) (h : p.length = j) : (p ++ x :: r).set j y = p ++ y :: r := by
  subst h; simp

set_option maxHeartbeats 1000000 in
theorem rnum (a : Option Addr) (len cap : Nat) (n : Int) (l : List UInt8) (w : World) (hr : Rd w a len cap l) (h2 : n ≤ 9223372036854775807) (hmax : len ≤ 140737488355000) :
    Calls Try.prog 68 #[.slice a len cap, .int .i64 n] w fun e w' => ∃ v, e = .returned v ∧ Fr w' w.heap.size v (l ++ enc n.toNat) ∧ Below w.heap.size w w' := by
  have hgl := P.gr_len n.toNat
  have hg9 := P.enc_len n.toNat (by omega)
  rw [← hgl] at hg9
  obtain ⟨p, hp1, hp2⟩ := P.gr_split n.toNat
  have hsm := P.gr_small n.toNat
  have hgr := rgroups n.toNat n w (Nat.le_refl _) h2
  rw [hp1] at hgr hg9 hsm
  have hpl : p.length ≤ 8 := by simp at hg9; omega
  obtain ⟨lst, hlst⟩ : ∃ lst, lo n.toNat = lst := ⟨_, rfl⟩
  rw [hlst] at hgr hp2 hsm
  have hlen := hr.hlen
  have HL := Lib.hid hlen
  have HSM := Lib.hid hsm
  have HP2 := Lib.hid hp2
  have HGR := Lib.hid hgr
  have HR := Lib.hid hr
  clear hgl hg9 hp1 hp2 hgr hr hlst hsm hlen
  obtain ⟨m, hm⟩ : ∃ m : Nat, p.length = m := ⟨_, rfl⟩
  have HM := Lib.hid hm
  rw [hm] at hpl
  clear hm
  go_enter Try.func68, Try.ntmps68
  go_wp2_with fail
  refine HGR.out.mono ?_
  rintro e w1 ⟨v, rfl, hf1, hb1⟩
  obtain ⟨g, gc, hv, hle, hg, hlt⟩ := hf1.pos (by simp)
  have hgl : (p ++ [lst]).length = m + 1 := by simp [HM.out]
  rw [hgl] at hv hle
  rw [hv] at hf1 ⊢
  have HF1 := Lib.hid hf1
  clear hv hf1 hgl
  go_wp2_with fail
  go_loopw [6] (fun i wr => ∃ (j : Nat), i = .int .i64 j ∧ j ≤ m ∧ Hid (Fr wr w.heap.size (.slice (some ⟨g, 0, none⟩) (m + 1) gc) ((p.take j).map up ++ (p.drop j ++ [lst]))) ∧ Below w.heap.size w wr ∧ g < wr.heap.size) (fun i _ => m - (intOf i).toNat)
  case atStart => exact ⟨0, rfl, Nat.zero_le _, Lib.hid (by simpa using HF1.out), hb1, hlt⟩
  case round =>
    obtain ⟨j, rfl, hj, HF, hbr, hgr⟩ := hrel
    by_cases hjm : j < m
    · have hm := HM.out
      have hf := HF.out
      have hjp : j < p.length := by omega
      have hd : p.drop j = p[j] :: p.drop (j + 1) := List.drop_eq_getElem_cons hjp
      have hx := HSM.out p[j] (by simp)
      have htk : (p.take (j + 1)).map up = (p.take j).map up ++ [up p[j]] := by rw [List.take_succ_eq_append_getElem hjp, List.map_append]; rfl
      generalize p[j] = x at *
      rw [hd] at hf
      have hll : m + 1 = ((p.take j).map up ++ (x :: p.drop (j + 1) ++ [lst])).length := by simp; omega
      have hc := hf.cellAt j (by omega) hll
      have hfz := hf.frozenAt j hll
      have hset := hf.set j (up x) hll
      have htl : ((p.take j).map up).length = j := by simp; omega
      rw [show ((p.take j).map up ++ (x :: p.drop (j + 1) ++ [lst])).getD j 0 = x by rw [List.getD_eq_getElem?_getD, List.getElem?_append_right (by omega), htl]; simp] at hc
      rw [List.cons_append, set_mid _ _ _ _ _ htl] at hset
      have hval : Value.int .u8 ((x.toNat : Int) + 128) = B (up x) := by
        unfold B up; rw [UInt8.toNat_ofNat']; exact vint (by omega)
      have HSET := Lib.hid hset
      have HTK := Lib.hid htk
      have HV := Lib.hid hval
      have hx0 : (x.toNat : Int) < 128 := by omega
      clear hm hf hjp hd hx htk hll hset htl hval
      unfold B at hc
      go_wp2_with fail
      go_roundw
      case rel =>
        refine ⟨j + 1, by go_num, by omega, Lib.hid ?_, hbr.trans ((Upd.setCell _ _ _ _).below hg), by rw [(Upd.setCell wr _ _ _).size]; exact hgr⟩
        rw [HV.out, HTK.out, List.append_assoc]; exact HSET.out
      case measure => simp [intOf]; omega
    · obtain rfl : j = m := by omega
      have hf := HF.out
      rw [List.take_of_length_le (by rw [HM.out]; omega), List.drop_eq_nil_of_le (by rw [HM.out]; omega), List.nil_append, ← HP2.out] at hf
      obtain ⟨ga, gc2, hv, hrd, -⟩ := hf.form
      have h9 := P.enc_len n.toNat (by omega)
      have hel : (enc n.toNat).length = j + 1 := by rw [HP2.out]; simp [HM.out]
      rw [hel] at hrd hv
      simp only [Value.slice.injEq, true_and] at hv
      obtain ⟨rfl, rfl⟩ := hv
      have hsz := hbr.size
      have HRD := Lib.hid hrd
      have HEL := Lib.hid hel
      have hll := HL.out
      have HRR := Lib.hid (HR.out.mono hbr)
      clear hf h9 hel hrd hll
      go_wp2_with fail
      refine (rcopied _ _ _ l _ HRR.out hmax).mono ?_
      rintro e w2 ⟨v2, rfl, hf2, hb2⟩
      have hs2 := hb2.size
      have HRD2 := Lib.hid (HRD.out.mono hb2)
      go_wp2_with (at_builtin; refine append_rd rfl _ _ rfl wr.heap.size _ l rfl hf2 _ _ _ (enc n.toNat) rfl HRD2.out (by rw [HL.out]; omega) (by omega) ?_; intro v3 w3 hf3 hb3 _)
      go_ret
      exact ⟨_, rfl, hf3.base hsz, hbr.trans ((hb2.trans hb3).mono hsz)⟩


set_option maxHeartbeats 400000 in
theorem rtext (a : Option Addr) (len cap : Nat) (s : ByteArray) (l : List UInt8) (w : World) (hr : Rd w a len cap l) (hs : s.size ≤ 70000000000000) (hmax : len ≤ 70000000000000) :
    Calls Try.prog 69 #[.slice a len cap, .string s] w fun e w' => ∃ v, e = .returned v ∧ Fr w' w.heap.size v (l ++ (enc s.size ++ s.data.toList)) ∧ Below w.heap.size w w' := by
  have hn := rnum a len cap (s.size : Int) l w hr (by omega) (by omega)
  rw [Int.toNat_natCast] at hn
  have h9 := P.enc_len s.size (by omega)
  have hl := hr.hlen
  have HN := Lib.hid hn
  have H9 := Lib.hid h9
  have HL := Lib.hid hl
  clear hn hr h9 hl
  go_enter Try.func69, Try.ntmps69
  go_wp2_with fail
  refine HN.out.mono ?_
  rintro e w1 ⟨v, rfl, hf1, hb1⟩
  have hs1 := hb1.size
  go_wp2_with (at_builtin; refine append_str rfl _ _ rfl w.heap.size _ (l ++ enc s.size) rfl hf1 s rfl (by have := HL.out; have := H9.out; simp; omega) hs1 ?_; intro v2 w2 hf2 hb2 _)
  go_ret
  refine ⟨_, rfl, ?_, hb1.trans hb2⟩
  rw [← List.append_assoc]; exact hf2

/-! ### the library's -/
theorem Fr.empty (w : World) (base : Nat) (hb : base ≤ w.heap.size) : Fr (w.alloc (.cells #[] 5)) base (.slice (some ⟨w.heap.size, 0, none⟩) 0 0) [] :=
  ⟨rfl, .inr ⟨w.heap.size, 0, #[], rfl, hb, heap_alloc_new w _, Nat.le_refl _, Nat.zero_le _, rfl, rfl⟩⟩


theorem take_snoc_eq {l l' : List UInt8} {k : Nat} (h : k < l.length) (h' : k < l'.length) (ht : l.take k = l'.take k) (hx : l.getD k 0 = l'.getD k 0) : l.take (k + 1) = l'.take (k + 1) := by
  rw [List.take_succ_eq_append_getElem h, List.take_succ_eq_append_getElem h', ht]
  have h1 : l.getD k 0 = l[k] := by simp [h]
  have h2 : l'.getD k 0 = l'[k] := by simp [h']
  rw [← h1, ← h2, hx]

/-- nothing but draws -/
def Quiet (w w' : World) : Prop := ∃ q, w' = w.drewN q
theorem Quiet.below {w w' : World} (h : Quiet w w') (base : Nat) : Below base w w' := by
  obtain ⟨q, rfl⟩ := h
  exact below_drewN (Below.refl _ _) q
theorem Quiet.refl (w : World) : Quiet w w := ⟨0, rfl⟩

set_option maxHeartbeats 1000000 in
theorem sequal (a a' : Option Addr) (n n' c c' : Nat) (l l' : List UInt8) (w : World) (hr : Rd w a n c l) (hr' : Rd w a' n' c' l') :
    Calls Try.prog 32 #[.slice a n c, .slice a' n' c'] w fun e w' => e = .returned (.bool (decide (l = l'))) ∧ Quiet w w' := by
  have hm := hr.hmax
  have hle := hr.hle
  have hl := hr.hlen
  have hl' := hr'.hlen
  by_cases hn : n = n'
  · subst hn
    have HL := Lib.hid hl
    have HL' := Lib.hid hl'
    by_cases h0 : n = 0
    · have e : l = l' := by rw [List.eq_nil_of_length_eq_zero (l := l) (by omega), List.eq_nil_of_length_eq_zero (l := l') (by omega)]
      subst h0
      clear hl hl' hr hr' hm hle
      go_enter Try.func32, Try.ntmps32
      go_wp2_with fail
      go_loopw [13] (fun i wr => i = .int .i64 0 ∧ w = wr) (fun _ _ => 0)
      case atStart => exact ⟨rfl, rfl⟩
      case round =>
        obtain ⟨rfl, rfl⟩ := hrel
        go_wp2_with fail
        go_ret
        exact ⟨one (vbool (by simp [e])), 0, rfl⟩
    · obtain ⟨b, off, rfl, hlt, hc⟩ := hr.lt_of h0
      obtain ⟨b', off', rfl, hlt', hc'⟩ := hr'.lt_of h0
      have HC := Lib.hid hc
      have HC' := Lib.hid hc'
      clear hl hl' hr hr' hc hc'
      go_enter Try.func32, Try.ntmps32
      go_wp2_with fail
      go_loopw [13] (fun i wr => ∃ k q : Nat, i = .int .i64 k ∧ k ≤ n ∧ Hid (l.take k = l'.take k) ∧ wr = w.drewN q) (fun i _ => n - (intOf i).toNat)
      case atStart => exact ⟨0, 0, rfl, Nat.zero_le _, Lib.hid rfl, rfl⟩
      case round =>
        obtain ⟨k, q, rfl, hk, HT, rfl⟩ := hrel
        by_cases hkn : k < n
        · have c1 : w.cell? ⟨b, off + k, none⟩ = some (B (l.getD k 0)) := HC.out k hkn
          have c2 : w.cell? ⟨b', off' + k, none⟩ = some (B (l'.getD k 0)) := HC'.out k hkn
          have hkl : k < l.length := by rw [HL.out]; exact hkn
          have hkl' : k < l'.length := by rw [HL'.out]; exact hkn
          by_cases hx : l.getD k 0 = l'.getD k 0
          · have HT2 := Lib.hid (take_snoc_eq hkl hkl' HT.out hx)
            rw [← hx] at c2
            clear hkl hkl' hx
            generalize l.getD k 0 = x at *
            unfold B at c1 c2
            go_wp2_with fail
            go_quiet (fail)
            go_wp2_with fail
            go_roundw
            case rel => exact ⟨k + 1, q + nq, by go_num, by omega, HT2, by first | rfl | rw [World.drewN_drewN]⟩
            case measure => simp [intOf]; omega
          · have e : l ≠ l' := by rintro rfl; exact hx rfl
            have hd : (((l.getD k 0).toNat : Int) != ((l'.getD k 0).toNat : Int)) = true := by
              rw [bne_iff_ne]; intro h; exact hx (UInt8.toNat_inj.1 (by omega))
            have E := Lib.hid e
            clear hkl hkl' hx e
            generalize l.getD k 0 = x at *
            generalize l'.getD k 0 = y at *
            unfold B at c1 c2
            go_wp2_with fail
            go_quiet (fail)
            go_wp2_with fail
            go_ret
            exact ⟨one (vbool (by have := E.out; simp [this])), by first | exact ⟨_, rfl⟩ | exact ⟨q + nq, by rw [World.drewN_drewN]⟩⟩
        · obtain rfl : k = n := by omega
          have e : l = l' := by
            have := HT.out
            rwa [List.take_of_length_le (by rw [HL.out]; omega), List.take_of_length_le (by rw [HL'.out]; omega)] at this
          have E := Lib.hid e
          clear e
          go_wp2_with fail
          go_ret
          exact ⟨one (vbool (by have := E.out; simp [this])), by first | exact ⟨_, rfl⟩ | exact ⟨q + nq, by rw [World.drewN_drewN]⟩⟩
  · have e : l ≠ l' := by rintro rfl; omega
    have hne : ((n : Int) == (n' : Int)) = false := by simp; omega
    clear hr hr'
    go_enter Try.func32, Try.ntmps32
    go_wp2_with fail
    go_ret
    exact ⟨one (vbool (by simp [e])), 0, rfl⟩

end Go.Proofs.Ytnmcfokckdgbaaa.W
