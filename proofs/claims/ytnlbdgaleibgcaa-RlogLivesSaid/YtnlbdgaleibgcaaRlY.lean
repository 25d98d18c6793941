/- LAYER 13 (rlog): append of a run of entries; ConfAt, Conf, Cut, Compact of the reference. -/
import Derived.Test.YtnlbdgaleibgcaaRlX
import Derived.Test.YtnlbdgaleibgcaaEnL
import Derived.Test.YtnlbdgaleibgcaaSt
import Derived.Test.YtnlbdgaleibgcaaRlE
set_option linter.unusedSimpArgs false
set_option linter.unusedVariables false
namespace Go.Proofs.Ytnlbdgaleibgcaa.W
open Go Go.ChangeShapes Go.WideShapes Go.ChangeAt Go.RowKit

theorem ownsRow_below {w w' : World} {base : Nat} {e : TypeId} {k : Nat} {v : Value} {n : Nat} {xs : List Value} (h : w.ownsRow base e k v n xs) (hb : Below w.heap.size w w') : w'.ownsRow base e k v n xs := by
  obtain ⟨h1, h2⟩ := h
  refine ⟨h1, ?_⟩
  rcases h2 with h2 | ⟨g, cap, cur, rfl, hg, hh, r⟩
  · exact .inl h2
  · exact .inr ⟨g, cap, cur, rfl, hg, (hb.block g (Array.getElem?_eq_some_iff.1 hh).1).trans hh, r⟩
/-- APPEND of a run of entries to a list of the call's own -/
theorem append_ens {w : World} {ops : Array Oper} {rest : List Oper} {o : Oper} {a : Act} {Q : Exit → Act → World → Prop} (hgd : o.guard = none) (s x : Operand)
    (ho : o.op = .call { callee := .builtin .append, args := #[s, x], argTypes := #[22, 22] })
    (base : Nat) (v : Value) (n0 : Nat) (M : List En) (hs : a.eval s = v) (hown : w.ownsRow base 34 4 v n0 (flat M))
    (sa : Option Addr) (n c : Nat) (L : List (En × List UInt8)) (hx : a.eval x = .slice sa n c) (h : Ents w sa n c L) (hm : n0 + n ≤ 1000000) (hbase : base ≤ w.heap.size)
    (hk : ∀ v' w', w'.ownsRow base 34 4 v' (n0 + n) (flat (M ++ L.map (·.1))) → Below base w w' → w.grownBy w' v.ownBlock → wpList Try.prog ops Q rest (a.put o.dst v') w') : wpList Try.prog ops Q (o :: rest) a w := by
  obtain ⟨i0, hi, hz0, hz1, hz2⟩ := info_parts infoEn
  have hlt := World.ownsRow.lt hown
  rcases sa with _ | ad
  · have hc0 := h.hnil rfl
    have hn0 : n = 0 := by have := h.hle; omega
    subst hc0 hn0
    have hL : L = [] := List.eq_nil_of_length_eq_zero h.hlen
    subst hL
    refine wpList_append_own_none hgd s x 22 ho base 34 i0 4 Try.underlying22 hi v n0 (flat M) hs hown hx (hk v w (by simpa using hown) (Below.refl _ _) (World.grownBy.refl _ _))
  · have hfl : ∀ j u, (flat (L.map (·.1)))[j]? = some u → w.cell? (ad.add j) = some u := by
      rcases n with _ | n
      · have : L = [] := List.eq_nil_of_length_eq_zero h.hlen
        subst this
        intro j u hj; simp [flat] at hj
      · rcases h.hcells with h0 | ⟨b, off, hb, -, -⟩
        · omega
        · have := Option.some.inj hb
          subst this
          exact flat_in h b off rfl
    refine append_at hgd s x 22 34 ho base i0 _ 4 48 Try.underlying22 hi hz0 hz1 hz2 rfl (by decide) v n0 (flat M) hs hown ad n c (flat (L.map (·.1))) hx (by rw [flat_len, List.length_map, h.hlen]) hfl (flat_one _) (by unfold maxLen; omega) (by omega) hbase ?_
    intro v' w' ho' hg hv
    rw [← flat_app] at ho'
    exact hk v' w' ho' ((Below.refl _ _).grown hg hbase (fun k hk => (hlt k hk).1)) hg
theorem own_ents {w : World} {base : Nat} {v : Value} {n : Nat} {L : List (En × List UInt8)} (h : w.ownsRow base 34 4 v n (flat (L.map (·.1)))) (hl : L.length = n) (hm : n ≤ 1000000) (hf : ∀ p ∈ L, EnF w p.1 p.2) :
    ∃ a c, v = .slice a n c ∧ Ents w a n c L ∧ (∀ x off, a = some ⟨x, off, none⟩ → base ≤ x ∧ x < w.heap.size) ∧ ∀ ad, a = some ad → ∃ x o, ad = ⟨x, o, none⟩ := by
  obtain ⟨a, c, rfl, hE⟩ := ents_own h hl hm hf
  refine ⟨a, c, rfl, hE, fun x off e => ?_, fun ad e => ?_⟩
  rotate_left
  · rcases h.2 with ⟨h1, -⟩ | ⟨g, cap, cur, h1, hg, hh, -⟩
    · simp at h1; rw [h1.1] at e; cases e
    · simp at h1; rw [h1.1] at e; exact ⟨g, 0, (Option.some.inj e).symm⟩
  rcases h.2 with ⟨h1, -⟩ | ⟨g, cap, cur, h1, hg, hh, -⟩
  · simp at h1; rw [h1.1] at e; cases e
  · simp at h1; rw [h1.1] at e
    have : g = x := congrArg Addr.block (Option.some.inj e)
    have := (Array.getElem?_eq_some_iff.1 hh).1
    omega
theorem Ents.take {w : World} {a : Option Addr} {n c : Nat} {L : List (En × List UInt8)} (h : Ents w a n c L) {m : Nat} (hm : m ≤ n) : Ents w a m c (L.take m) := by
  refine ⟨by rw [List.length_take, h.hlen]; omega, Nat.le_trans hm h.hle, h.hmax, fun p hp => h.hfit p (List.mem_of_mem_take hp), h.hnil, ?_⟩
  by_cases h0 : m = 0
  · exact .inl h0
  · rcases h.hcells with h1 | ⟨b, off, e, hlt, hc⟩
    · omega
    · refine .inr ⟨b, off, e, hlt, fun i hi j v hj => hc i (by omega) j v ?_⟩
      rw [← hj]; congr 3
      simp [List.getD_eq_getElem?_getD, hi]
theorem Ents.drop {w : World} {x o n c : Nat} {L : List (En × List UInt8)} (h : Ents w (some ⟨x, o, none⟩) n c L) {k : Nat} (hk : k ≤ n) : Ents w (some ⟨x, o + k * 4, none⟩) (n - k) (c - k) (L.drop k) := by
  have := h.hle
  have := h.hmax
  refine ⟨by rw [List.length_drop, h.hlen], by omega, by omega, fun p hp => h.hfit p (List.mem_of_mem_drop hp), (fun h => by cases h), ?_⟩
  by_cases h0 : n - k = 0
  · exact .inl h0
  · rcases h.hcells with h1 | ⟨b, off, e, hlt, hc⟩
    · omega
    · simp only [Option.some.injEq, Addr.mk.injEq, and_true] at e
      obtain ⟨rfl, rfl⟩ := e
      refine .inr ⟨x, o + k * 4, rfl, hlt, fun i hi j v hj => ?_⟩
      have h3 : (L.drop k).getD i Ez = L.getD (k + i) Ez := by simp [List.getD_eq_getElem?_getD]
      rw [h3] at hj
      have := hc (k + i) (by omega) j v hj
      rw [show o + k * 4 + i * 4 + j = o + (k + i) * 4 + j by omega]; exact this
theorem Ents.emp {w : World} {a : Option Addr} {n c : Nat} {L : List (En × List UInt8)} (h : Ents w a n c L) : Ents w a 0 0 [] := ⟨rfl, Nat.zero_le _, Nat.zero_le _, by simp, fun _ => rfl, .inl rfl⟩
theorem EnF.below {w w' : World} {e : En} {l : List UInt8} (h : EnF w e l) (hb : Below w.heap.size w w') : EnF w' e l := h.mono hb
set_option maxRecDepth 100000 in
set_option maxHeartbeats 4000000 in
theorem xconfAt (p : Nat) (F : Nat → Prop) (b t c : Int) (a : Option Addr) (n cp : Nat) (L : List (En × List UInt8)) (i : Int) (w : World) (h : XG w p F b t c a n cp L) (ho : LOK (lsOf b t c L)) : Calls Try.prog 40 #[.pointer (some ⟨p, 0, none⟩), .int .i64 i] w fun x w' => x = .returned (.int .i64 ((lsOf b t c L).confAt i)) ∧ Below w.heap.size w w' := by
  have hl := h.len
  have H := Lib.hid h
  have HL := Lib.hid hl
  have EZ := Lib.hid en_zero
  have ES := Lib.hid en_size
  have HE := Lib.hid (fun (W : World) (hb : Below w.heap.size w W) (j : Nat) (hj : j < n) => h.es.at hb j hj)
  have HFIT := Lib.hid (fun (k : Nat) (hk : k < n) => (show (L.getD k Ez).1.n ≤ 140737488355000 from by
    have hm : L.getD k Ez ∈ L := by rw [show L.getD k Ez = L[k]'(by omega) by simp [List.getD_eq_getElem?_getD, show k < L.length by omega]]; exact List.getElem_mem _
    have := ho.x (pe (L.getD k Ez)) (List.mem_map.2 ⟨_, hm, rfl⟩)
    have h3 := (h.es.hfit _ hm).rd.hlen
    have h4 : (L.getD k Ez).2.length ≤ 4096 := this
    omega))
  obtain ⟨V, hV⟩ : ∃ V, (lsOf b t c L).confAt i = V := ⟨_, rfl⟩
  have HV : Hid (confL i c ((L.take n).map pe) = V) := Lib.hid (by rw [← hV, List.take_of_length_le (by omega)]; rfl)
  rw [hV]
  obtain ⟨c0, c1, c2, c3⟩ := h.row.q4
  have HROW := Lib.hid (fun (W : World) (hb : Below w.heap.size w W) => h.row.below hb h.row.lt)
  have hnn : n ≤ 1000000 := by
    have := ho.n; rw [show (lsOf b t c L).l.length = n by rw [← hl]; simp [lsOf]] at this; omega
  clear h ho hl hV
  go_enter Try.func40, Try.ntmps40
  go_wp2_with fail
  go_loopw [5, 6] (fun v iv wr => ∃ (k : Nat), iv = .int .i64 (k : Int) ∧ k ≤ n ∧ v = .int .i64 (confL i c ((L.take k).map pe)) ∧ Hid (Below w.heap.size w wr)) (fun _ iv _ => n - (intOf iv).toNat)
  case atStart => exact ⟨0, rfl, Nat.zero_le _, rfl, Lib.hid (Below.refl _ _)⟩
  case round =>
    obtain ⟨k, rfl, hk, rfl, HB⟩ := hrel
    obtain ⟨c0, c1, c2, c3⟩ := (HROW.out wr HB.out).q4
    by_cases hlt : k < n
    · obtain ⟨x1, o1, rfl, hx1, hf1, hk1⟩ := HE.out wr HB.out k hlt
      have hnx := HFIT.out k hlt
      have hst : confL i c ((L.take (k + 1)).map pe) = if (pe (L.getD k Ez)).1 ≤ i ∧ confIn (pe (L.getD k Ez)) ≠ 0 then confIn (pe (L.getD k Ez)) else confL i c ((L.take k).map pe) := by
        have h1 : L.take (k + 1) = L.take k ++ [L.getD k Ez] := by
          rw [List.take_succ_eq_append_getElem hk1]; simp [List.getD_eq_getElem?_getD, hk1]
        rw [h1, List.map_append]; exact confL_app _ _ _ _
      obtain ⟨⟨⟨ix, tm, kd, qa, qn, qc⟩, ql⟩, hq⟩ : ∃ y, L.getD k Ez = y := ⟨_, rfl⟩
      rw [hq] at hx1 hf1 hnx hst
      dsimp only at hx1 hf1 hnx
      have hci : confIn (pe (⟨ix, tm, kd, qa, qn, qc⟩, ql)) = if kd = 2 then confV ql else 0 := rfl
      have hpi : (pe ((⟨ix, tm, kd, qa, qn, qc⟩ : En), ql)).1 = ix := rfl
      rw [hci, hpi] at hst
      have X1 : Hid (∀ j v, (En.cells ⟨ix, tm, kd, qa, qn, qc⟩)[j]? = some v → wr.cell? ⟨x1, o1 + k * 4 + j, none⟩ = some v) := Lib.hid hx1
      have CO := Lib.hid (fun (W : World) (hb : Below w.heap.size w W) => (show Calls Try.prog 29 #[.slice qa qn qc] W fun x w' => x = .returned (.int .i64 (confV ql)) ∧ Below W.heap.size W w' from xconfOf qa qn qc ql W (((H.out.es.hfit _ (by
        have hm : L.getD k Ez ∈ L := by rw [show L.getD k Ez = L[k] by simp [List.getD_eq_getElem?_getD, hk1]]; exact List.getElem_mem _
        rw [hq] at hm; exact hm)).rd).mono hb) hnx))
      obtain ⟨cv, hcv⟩ : ∃ cv, confV ql = cv := ⟨_, rfl⟩
      obtain ⟨vk, hvk⟩ : ∃ vk, confL i c ((L.take k).map pe) = vk := ⟨_, rfl⟩
      rw [hcv] at CO hst
      rw [hvk] at hst ⊢
      have HS := Lib.hid hst
      have g1 : (0 : Int) ≤ (k : Int) := by omega
      have g2 : (k : Int) < (n : Int) := by omega
      clear hx1 hf1 hq hk1 hnx hci hpi hcv hvk hst
      by_cases hkd : kd = 2
      · have t1 : (kd == 2) = true := by simpa using hkd
        by_cases hix : ix ≤ i
        · have t2 : decide (ix ≤ i) = true := decide_eq_true hix
          by_cases hz : cv = 0
          · have t3 : (cv == 0) = true := by simpa using hz
            have t4 : (cv != 0) = false := by simpa using hz
            go_wp2_with (first
              | ((with_reducible refine load_cells (o := ⟨some 27, _, _, _, _, _⟩) rfl _ _ rfl x1 (o1 + k * 4) ?_ (En.cells ⟨ix, tm, kd, qa, qn, qc⟩) _ X1.out Try.underlying34 rfl ?_ ?_); (focus go_simp); (focus (exact ES.out)))
              | ((with_reducible refine alloc_row (o := ⟨some 7, _, _, _, _, _⟩) rfl _ rfl _ EZ.out ?_); intro w2 hr hb hz; have E2 := Lib.hid hr; have B2 := Lib.hid (HB.out.trans (hb.mono HB.out.size)); clear hr hb hz)
              | ((with_reducible refine store_row (o := ⟨none, _, _, _, _, _⟩) rfl _ (.tmp 7) _ rfl wr.heap.size (En.cells ⟨ix, tm, kd, qa, qn, qc⟩) ?_ ?_ 34 _ E2.out ?_ ?_ (cells_one _) ?_); (focus go_simp); (focus (first | (go_simp; done) | (go_simp; rfl))); (focus (exact ES.out)); (focus rfl); intro w3 hr hu; have E3 := Lib.hid hr; obtain ⟨e0, e1, e2, e3⟩ := hr.q4; have B3 := Lib.hid (B2.out.trans (hu.below HB.out.size)); have B9 := Lib.hid B3.out; clear hr hu)
              | (go_at_call 29; (with_reducible refine (CO.out w3 B3.out).mono ?_); rintro x w4 ⟨rfl, hb⟩; have B4 := Lib.hid (B3.out.trans (hb.mono B3.out.size)); clear B9; have B9 := Lib.hid B4.out; clear e0 e1 e2 e3; obtain ⟨e0, e1, e2, e3⟩ := (E3.out.below hb E3.out.lt).q4; clear hb)
              | (go_at_call 29; (with_reducible refine (CO.out w4 B4.out).mono ?_); rintro x w5 ⟨rfl, hb⟩; clear B9; have B9 := Lib.hid (B4.out.trans (hb.mono B4.out.size)); clear hb))
            go_roundw
            case rel => exact ⟨k + 1, vint (by omega), by omega, (by rw [HS.out, if_neg (by rw [if_pos hkd]; exact fun h => h.2 hz)]), B9⟩
            case measure => (simp [intOf]; try omega)
          · have t3 : (cv == 0) = false := by simpa using hz
            have t4 : (cv != 0) = true := by simpa using hz
            go_wp2_with (first
              | ((with_reducible refine load_cells (o := ⟨some 27, _, _, _, _, _⟩) rfl _ _ rfl x1 (o1 + k * 4) ?_ (En.cells ⟨ix, tm, kd, qa, qn, qc⟩) _ X1.out Try.underlying34 rfl ?_ ?_); (focus go_simp); (focus (exact ES.out)))
              | ((with_reducible refine alloc_row (o := ⟨some 7, _, _, _, _, _⟩) rfl _ rfl _ EZ.out ?_); intro w2 hr hb hz; have E2 := Lib.hid hr; have B2 := Lib.hid (HB.out.trans (hb.mono HB.out.size)); clear hr hb hz)
              | ((with_reducible refine store_row (o := ⟨none, _, _, _, _, _⟩) rfl _ (.tmp 7) _ rfl wr.heap.size (En.cells ⟨ix, tm, kd, qa, qn, qc⟩) ?_ ?_ 34 _ E2.out ?_ ?_ (cells_one _) ?_); (focus go_simp); (focus (first | (go_simp; done) | (go_simp; rfl))); (focus (exact ES.out)); (focus rfl); intro w3 hr hu; have E3 := Lib.hid hr; obtain ⟨e0, e1, e2, e3⟩ := hr.q4; have B3 := Lib.hid (B2.out.trans (hu.below HB.out.size)); have B9 := Lib.hid B3.out; clear hr hu)
              | (go_at_call 29; (with_reducible refine (CO.out w3 B3.out).mono ?_); rintro x w4 ⟨rfl, hb⟩; have B4 := Lib.hid (B3.out.trans (hb.mono B3.out.size)); clear B9; have B9 := Lib.hid B4.out; clear e0 e1 e2 e3; obtain ⟨e0, e1, e2, e3⟩ := (E3.out.below hb E3.out.lt).q4; clear hb)
              | (go_at_call 29; (with_reducible refine (CO.out w4 B4.out).mono ?_); rintro x w5 ⟨rfl, hb⟩; clear B9; have B9 := Lib.hid (B4.out.trans (hb.mono B4.out.size)); clear hb))
            go_roundw
            case rel => exact ⟨k + 1, vint (by omega), by omega, (by rw [HS.out, if_pos hkd, if_pos ⟨hix, hz⟩]), B9⟩
            case measure => (simp [intOf]; try omega)
        · have t2 : decide (ix ≤ i) = false := decide_eq_false hix
          have t5 : i < ix := by omega
          go_wp2_with (first
            | ((with_reducible refine load_cells (o := ⟨some 27, _, _, _, _, _⟩) rfl _ _ rfl x1 (o1 + k * 4) ?_ (En.cells ⟨ix, tm, kd, qa, qn, qc⟩) _ X1.out Try.underlying34 rfl ?_ ?_); (focus go_simp); (focus (exact ES.out)))
            | ((with_reducible refine alloc_row (o := ⟨some 7, _, _, _, _, _⟩) rfl _ rfl _ EZ.out ?_); intro w2 hr hb hz; have E2 := Lib.hid hr; have B2 := Lib.hid (HB.out.trans (hb.mono HB.out.size)); clear hr hb hz)
            | ((with_reducible refine store_row (o := ⟨none, _, _, _, _, _⟩) rfl _ (.tmp 7) _ rfl wr.heap.size (En.cells ⟨ix, tm, kd, qa, qn, qc⟩) ?_ ?_ 34 _ E2.out ?_ ?_ (cells_one _) ?_); (focus go_simp); (focus (first | (go_simp; done) | (go_simp; rfl))); (focus (exact ES.out)); (focus rfl); intro w3 hr hu; have E3 := Lib.hid hr; obtain ⟨e0, e1, e2, e3⟩ := hr.q4; have B3 := Lib.hid (B2.out.trans (hu.below HB.out.size)); have B9 := Lib.hid B3.out; clear hr hu)
            | (go_at_call 29; (with_reducible refine (CO.out w3 B3.out).mono ?_); rintro x w4 ⟨rfl, hb⟩; have B4 := Lib.hid (B3.out.trans (hb.mono B3.out.size)); clear B9; have B9 := Lib.hid B4.out; clear e0 e1 e2 e3; obtain ⟨e0, e1, e2, e3⟩ := (E3.out.below hb E3.out.lt).q4; clear hb)
            | (go_at_call 29; (with_reducible refine (CO.out w4 B4.out).mono ?_); rintro x w5 ⟨rfl, hb⟩; clear B9; have B9 := Lib.hid (B4.out.trans (hb.mono B4.out.size)); clear hb))
          go_roundw
          case rel => exact ⟨k + 1, vint (by omega), by omega, (by rw [HS.out, if_neg (fun h => hix h.1)]), B9⟩
          case measure => (simp [intOf]; try omega)
      · have t1 : (kd == 2) = false := by simpa using hkd
        go_wp2_with (first
          | ((with_reducible refine load_cells (o := ⟨some 27, _, _, _, _, _⟩) rfl _ _ rfl x1 (o1 + k * 4) ?_ (En.cells ⟨ix, tm, kd, qa, qn, qc⟩) _ X1.out Try.underlying34 rfl ?_ ?_); (focus go_simp); (focus (exact ES.out)))
          | ((with_reducible refine alloc_row (o := ⟨some 7, _, _, _, _, _⟩) rfl _ rfl _ EZ.out ?_); intro w2 hr hb hz; have E2 := Lib.hid hr; have B2 := Lib.hid (HB.out.trans (hb.mono HB.out.size)); clear hr hb hz)
          | ((with_reducible refine store_row (o := ⟨none, _, _, _, _, _⟩) rfl _ (.tmp 7) _ rfl wr.heap.size (En.cells ⟨ix, tm, kd, qa, qn, qc⟩) ?_ ?_ 34 _ E2.out ?_ ?_ (cells_one _) ?_); (focus go_simp); (focus (first | (go_simp; done) | (go_simp; rfl))); (focus (exact ES.out)); (focus rfl); intro w3 hr hu; have E3 := Lib.hid hr; obtain ⟨e0, e1, e2, e3⟩ := hr.q4; have B3 := Lib.hid (B2.out.trans (hu.below HB.out.size)); have B9 := Lib.hid B3.out; clear hr hu)
          | (go_at_call 29; (with_reducible refine (CO.out w3 B3.out).mono ?_); rintro x w4 ⟨rfl, hb⟩; have B4 := Lib.hid (B3.out.trans (hb.mono B3.out.size)); clear B9; have B9 := Lib.hid B4.out; clear e0 e1 e2 e3; obtain ⟨e0, e1, e2, e3⟩ := (E3.out.below hb E3.out.lt).q4; clear hb)
          | (go_at_call 29; (with_reducible refine (CO.out w4 B4.out).mono ?_); rintro x w5 ⟨rfl, hb⟩; clear B9; have B9 := Lib.hid (B4.out.trans (hb.mono B4.out.size)); clear hb))
        go_roundw
        case rel => exact ⟨k + 1, vint (by omega), by omega, (by rw [HS.out, if_neg (by rw [if_neg hkd]; exact fun h => h.2 rfl)]), B9⟩
        case measure => (simp [intOf]; try omega)
    · obtain rfl : k = n := by omega
      rw [HV.out]
      go_wp2_with fail
      go_ret
      exact ⟨rfl, HB.out⟩
set_option maxRecDepth 100000 in
set_option maxHeartbeats 4000000 in
theorem xconf (p : Nat) (F : Nat → Prop) (b t c : Int) (a : Option Addr) (n cp : Nat) (L : List (En × List UInt8)) (w : World) (h : XG w p F b t c a n cp L) (ho : LOK (lsOf b t c L)) : Calls Try.prog 39 #[.pointer (some ⟨p, 0, none⟩)] w fun x w' => x = .returned (.int .i64 ((lsOf b t c L).confAt (lsOf b t c L).last)) ∧ Below w.heap.size w w' := by
  have GL := Lib.hid (fun (W : World) (hb : Below w.heap.size w W) => xlast p F b t c a n cp L W (h.mono hb) ho)
  have GT := Lib.hid (fun (W : World) (hb : Below w.heap.size w W) => xconfAt p F b t c a n cp L (lsOf b t c L).last W (h.mono hb) ho)
  obtain ⟨z, hz⟩ : ∃ z, (lsOf b t c L).last = z := ⟨_, rfl⟩
  rw [hz] at GL GT ⊢
  obtain ⟨y, hy⟩ : ∃ y, (lsOf b t c L).confAt z = y := ⟨_, rfl⟩
  rw [hy] at GT ⊢
  clear h ho hz hy
  go_enter Try.func39, Try.ntmps39
  go_wp2_with (first | (go_at_call 37; (with_reducible refine (GL.out w (Below.refl _ _)).mono ?_); rintro x w1 ⟨rfl, hb1⟩; have B1 := Lib.hid hb1; clear hb1) | (go_at_call 40; (with_reducible refine (GT.out w1 B1.out).mono ?_); rintro x w2 ⟨rfl, hb2⟩; have B2 := Lib.hid (B1.out.trans (hb2.mono B1.out.size)); clear hb2))
  go_ret
  exact ⟨rfl, B2.out⟩
theorem NB_ent_rl (b t c : Int) (a : Option Addr) (n cp : Nat) : NB [.int .i64 b, .int .i64 t, .int .i64 c, .slice a n cp] := by
  intro x hx
  simp [B] at hx
theorem Ents.put13 {w w' : World} {a : Option Addr} {n c g : Nat} {t : TypeId} {L : List (En × List UInt8)} {C : List Value} (h : Ents w a n c L) (hq : Row w g t C) (hnb : NB C) (hu : Upd w w' g) (hne : ∀ b off, a = some ⟨b, off, none⟩ → b ≠ g) : Ents w' a n c L := by
  refine ⟨h.hlen, h.hle, h.hmax, fun p hp => EnF.put13 (h.hfit p hp) hq hnb hu, h.hnil, ?_⟩
  rcases h.hcells with h0 | ⟨b, off, e, hlt, hc⟩
  · exact .inl h0
  · exact .inr ⟨b, off, e, by rw [hu.size]; exact hlt, fun i hi j v hj => (World.cell?_of_block (hu.block b (hne b off e))).trans (hc i hi j v hj)⟩
set_option maxRecDepth 100000 in
set_option maxHeartbeats 4000000 in
theorem xcut (p : Nat) (F : Nat → Prop) (b t c : Int) (a : Option Addr) (n cp : Nat) (L : List (En × List UInt8)) (i : Int) (w : World) (h : XG w p F b t c a n cp L) (ho : LOK (lsOf b t c L)) : Calls Try.prog 17 #[.pointer (some ⟨p, 0, none⟩), .int .i64 i] w fun x w' => ∃ b' t' c' a' n' cp' L', x = .returned (.int .i64 ((lsOf b t c L).cut i).2) ∧ XG w' p (FG F w w') b' t' c' a' n' cp' L' ∧ lsOf b' t' c' L' = ((lsOf b t c L).cut i).1 ∧ Ft F w w' := by
  have hl := h.len
  have hb := ho.b
  have hn := ho.n
  obtain ⟨c0, c1, c2, c3⟩ := h.row.q4
  rw [show (lsOf b t c L).l.length = n by rw [← hl]; simp [lsOf]] at hn
  dsimp only [lsOf] at hb
  have H := Lib.hid h
  have HNM := Lib.hid (show n ≤ 1000000 by omega)
  have hv : (lsOf b t c L).last = b + (n : Int) := by unfold LS.last lsOf; dsimp only; rw [List.length_map, hl]
  have GL := Lib.hid (fun (W : World) (hb : Below w.heap.size w W) => xlast p F b t c a n cp L W (h.mono hb) ho)
  rw [hv] at GL
  have hrc := fun (hi : b < i) => (rise_cut (L.map pe) b i ho.r hi).2
  unfold LS.cut
  rw [show (lsOf b t c L).b = b from rfl, show (lsOf b t c L).l = L.map pe from rfl]
  by_cases hi : i ≤ b
  · rw [if_pos hi]
    clear h ho hv hrc
    go_enter Try.func17, Try.ntmps17
    go_wp2_with fail
    go_ret
    exact ⟨b, t, c, a, n, cp, L, rfl, H.out.sub (fun k hk => .inl hk) (FG.lt H.out.lt (Nat.le_refl _)), rfl, Ft.refl _ _⟩
  · rw [if_neg hi]
    have HRC := Lib.hid (hrc (by omega))
    have hi1 : b < i := by omega
    by_cases hil : i ≤ b + (n : Int)
    · obtain ⟨k, hk⟩ : ∃ k : Nat, (i - b - 1).toNat = k := ⟨_, rfl⟩
      have hki : i - b - 1 = (k : Int) := by omega
      have gw1 : IntKind.i64.wrap (i - b) = i - b := by rw [IntKind.wrap_i64]; omega
      have gw2 : IntKind.i64.wrap (i - b - 1) = (k : Int) := by rw [IntKind.wrap_i64]; omega
      have hkn : k ≤ n := by omega
      have hkc : k ≤ cp := Nat.le_trans hkn h.es.hle
      have g1 : (0 : Int) ≤ (k : Int) := by omega
      have g2 : (k : Int) ≤ (cp : Int) := by omega
      rw [hk] at HRC
      rcases a with _ | ⟨x1, o1, sp⟩
      · have := h.es.hnil rfl; have := h.es.hle; omega
      have hsp : sp = none := by
        rcases h.es.hcells with h0 | ⟨b9, o9, e9, -⟩
        · omega
        · simp at e9; exact e9.2.2
      subst hsp
      have OS := Lib.hid (fun (W : World) (hb : Below w.heap.size w W) => (h.es.mono hb).take hkn)
      have KK := Lib.hid hkn
      have HNM := Lib.hid (show k ≤ 1000000 by omega)
      clear h ho hv hrc hk hki hn hb hl
      go_enter Try.func17, Try.ntmps17
      go_wp2_with (first | (go_at_call 37; (with_reducible refine (GL.out w (Below.refl _ _)).mono ?_); rintro x w1 ⟨rfl, hb1⟩; have B1 := Lib.hid hb1; clear hb1))
      refine region_t (fun v => Below w1.heap.size w1 v) 16 (by kernel_rfl) (by kernel_rfl) (by kernel_rfl) (Below.refl _ _).drew ?_
      obtain ⟨wd, hwd⟩ : ∃ wd, w1.drew = wd := ⟨_, rfl⟩
      have D0 : Hid (Below w1.heap.size w1 wd) := Lib.hid (by rw [← hwd]; exact (Below.refl _ _).drew)
      rw [hwd]
      clear hwd
      (refine t_read 0 rfl (by kernel_rfl) (by kernel_rfl) (by kernel_rfl) (t_free rfl) ?_ ?_ ?_; rotate_left; (focus (intro v hv; go_simp; rfl)); go_simp)
      (refine t_read 1 rfl (by kernel_rfl) (by kernel_rfl) (by kernel_rfl) (t_free rfl) ?_ ?_ ?_; rotate_left; (focus (intro v hv; go_simp; rfl)); go_simp)
      (refine t_read 2 rfl (by kernel_rfl) (by kernel_rfl) (by kernel_rfl) (t_free rfl) ?_ ?_ ?_; rotate_left; (focus (intro v hv; go_simp; rfl)); go_simp)
      (refine t_read 3 rfl (by kernel_rfl) (by kernel_rfl) (by kernel_rfl) (t_free rfl) ?_ ?_ ?_; rotate_left; (focus (intro v hv; go_simp; rfl)); go_simp)
      (refine t_read 4 rfl (by kernel_rfl) (by kernel_rfl) (by kernel_rfl) (t_free rfl) ?_ ?_ ?_; rotate_left; (focus (intro v hv; have hbv := B1.out.trans (hv.mono B1.out.size); have H9 := H.out.mono hbv; obtain ⟨c0, c1, c2, c3⟩ := H9.row.q4; go_simp; rfl)); go_simp)
      (refine t_read 5 rfl (by kernel_rfl) (by kernel_rfl) (by kernel_rfl) (t_free rfl) ?_ ?_ ?_; rotate_left; (focus (intro v hv; go_simp; rfl)); go_simp)
      (refine t_read 6 rfl (by kernel_rfl) (by kernel_rfl) (by kernel_rfl) (t_free rfl) ?_ ?_ ?_; rotate_left; (focus (intro v hv; go_simp; rfl)); go_simp)
      (refine t_read 7 rfl (by kernel_rfl) (by kernel_rfl) (by kernel_rfl) (t_free rfl) ?_ ?_ ?_; rotate_left; (focus (intro v hv; go_simp; rfl)); go_simp)
      (refine t_read 8 rfl (by kernel_rfl) (by kernel_rfl) (by kernel_rfl) (t_free rfl) ?_ ?_ ?_; rotate_left; (focus (intro v hv; go_simp; rfl)); go_simp)
      (refine t_read 9 rfl (by kernel_rfl) (by kernel_rfl) (by kernel_rfl) (t_free rfl) ?_ ?_ ?_; rotate_left; (focus (intro v hv; have hbv := B1.out.trans (hv.mono B1.out.size); have H9 := H.out.mono hbv; obtain ⟨c0, c1, c2, c3⟩ := H9.row.q4; go_simp; rfl)); go_simp)
      (refine t_read 10 rfl (by kernel_rfl) (by kernel_rfl) (by kernel_rfl) (t_free rfl) ?_ ?_ ?_; rotate_left; (focus (intro v hv; go_simp; rfl)); go_simp)
      (refine t_read 11 rfl (by kernel_rfl) (by kernel_rfl) (by kernel_rfl) (t_free rfl) ?_ ?_ ?_; rotate_left; (focus (intro v hv; go_simp; rfl)); go_simp)
      (refine t_read 12 rfl (by kernel_rfl) (by kernel_rfl) (by kernel_rfl) (t_free rfl) ?_ ?_ ?_; rotate_left; (focus (intro v hv; go_simp; rfl)); go_simp)
      (refine t_list 13 rfl (by kernel_rfl) rfl ?_; intro K hK)
      have BDD := Lib.hid (B1.out.trans (D0.out.mono B1.out.size))
      have OK := Lib.hid (OS.out wd BDD.out)
      refine append_ens rfl _ _ rfl wd.heap.size (.slice none 0 0) 0 [] (by go_simp) (World.ownsRow_nil _ _ _ _) (some ⟨x1, o1, none⟩) k cp (L.take k) (by go_simp) OK.out (by have := HNM.out; omega) (Nat.le_refl _) ?_
      intro v2 w2 ho2 hb2 _
      rw [List.nil_append, Nat.zero_add] at ho2
      obtain ⟨ra, rc, hv2, hE, hne, hsp2⟩ := own_ents ho2 OK.out.hlen (by have := HNM.out; omega) (fun y hy => (OK.out.hfit y hy).mono hb2)
      subst hv2
      have E2 := Lib.hid hE
      have NE2 := Lib.hid hne
      have SP2 := Lib.hid hsp2
      have D2 := Lib.hid (D0.out.trans (hb2.mono D0.out.size))
      have S2 := Lib.hid D0.out.size
      clear ho2 hb2 hE hne hsp2
      refine hK _ _ D2.out ?_
      go_simp
      (refine t_one 14 rfl (by kernel_rfl) rfl rfl ?_ ?_ ?_; rotate_left; (focus (go_simp; rfl)); go_simp)
      (refine t_read 15 rfl (by kernel_rfl) (by kernel_rfl) (by kernel_rfl) (t_free rfl) ?_ ?_ ?_; rotate_left; (focus (intro v hv; go_simp; rfl)); go_simp)
      (refine t_last 16 rfl (by kernel_rfl) rfl (by kernel_rfl) (by kernel_rfl) ?_; intro K hK)
      have V2 := Lib.hid (B1.out.trans (D2.out.mono B1.out.size))
      have HV := Lib.hid (H.out.mono V2.out)
      have hpw := H.out.lt p H.out.fp
      refine store_cell rfl _ _ _ rfl p 3 (.slice ra k rc) (by go_simp) (by go_simp) rfl rfl 60 _ HV.out.row infoEns13 (by show 3 < 4; decide) ?_
      intro w3 hr3 hu3
      have R3 : Hid (Row w3 p 60 [.int .i64 b, .int .i64 t, .int .i64 c, .slice ra k rc]) := Lib.hid hr3
      have U3 := Lib.hid hu3
      clear hr3 hu3
      have FT3 : Hid (Ft F w w3) := Lib.hid ((Ft.of_below V2.out).trans (Ft.of_upd U3.out H.out.fp))
      have N3 : Hid (∀ x off, ra = some ⟨x, off, none⟩ → FG F w w3 x ∧ x ≠ p) := Lib.hid (fun x off e => by
        have h1 := NE2.out x off e
        have hsz := S2.out
        have hB1s := B1.out.size
        exact ⟨.inr ⟨by omega, by rw [U3.out.size]; exact h1.2⟩, by omega⟩)
      have X3 : Hid (XG w3 p (FG F w w3) b t c ra k rc (L.take k)) := Lib.hid ⟨R3.out, E2.out.put13 HV.out.row (NB_ent_rl _ _ _ _ _ _) U3.out (fun x off e => (N3.out x off e).2), N3.out, SP2.out, fun y hy hn0 k off e => .inl (H.out.fa y (List.mem_of_mem_take hy) hn0 k off e), .inl H.out.fp, fun k hk => hk.elim (fun h9 => Nat.lt_of_lt_of_le (H.out.lt k h9) FT3.out.size) (fun h9 => h9.2)⟩
      refine hK _ _ ?_
      go_simp
      go_wp2_with fail
      go_ret
      exact ⟨b, t, c, ra, k, rc, L.take k, rfl, X3.out, by unfold lsOf; rw [HRC.out, List.map_take], FT3.out⟩
    · have hall : (L.map pe).filter (fun x => !decide (i ≤ x.1)) = L.map pe := by
        rw [HRC.out, List.take_of_length_le (by rw [List.length_map, hl]; omega)]
      rw [hall]
      clear h ho hv hrc
      go_enter Try.func17, Try.ntmps17
      go_wp2_with (first | (go_at_call 37; (with_reducible refine (GL.out w (Below.refl _ _)).mono ?_); rintro x w1 ⟨rfl, hb1⟩; have B1 := Lib.hid hb1; clear hb1))
      go_ret
      exact ⟨b, t, c, a, n, cp, L, rfl, (H.out.mono B1.out).sub (fun k hk => .inl hk) (FG.lt H.out.lt B1.out.size), rfl, Ft.of_below B1.out⟩
set_option maxRecDepth 100000 in
set_option maxHeartbeats 4000000 in
theorem xcompact (p : Nat) (F : Nat → Prop) (b t c : Int) (a : Option Addr) (n cp : Nat) (L : List (En × List UInt8)) (i : Int) (w : World) (h : XG w p F b t c a n cp L) (ho : LOK (lsOf b t c L)) (wi : (Lit.int .i64 i).wf = true) : Calls Try.prog 19 #[.pointer (some ⟨p, 0, none⟩), .int .i64 i] w fun x w' => ∃ b' t' c' a' n' cp' L', x = .returned (.int .i64 ((lsOf b t c L).compact i).2) ∧ XG w' p (FG F w w') b' t' c' a' n' cp' L' ∧ lsOf b' t' c' L' = ((lsOf b t c L).compact i).1 ∧ Ft F w w' := by
  have hl := h.len
  have hb := ho.b
  have hn := ho.n
  obtain ⟨c0, c1, c2, c3⟩ := h.row.q4
  rw [show (lsOf b t c L).l.length = n by rw [← hl]; simp [lsOf]] at hn
  dsimp only [lsOf] at hb
  have H := Lib.hid h
  have HNM := Lib.hid (show n ≤ 1000000 by omega)
  have hv : (lsOf b t c L).last = b + (n : Int) := by unfold LS.last lsOf; dsimp only; rw [List.length_map, hl]
  have GT := Lib.hid (fun (W : World) (hb : Below w.heap.size w W) => xterm p F b t c a n cp L i W (h.mono hb) ho)
  have GC := Lib.hid (fun (W : World) (hb : Below w.heap.size w W) => xconfAt p F b t c a n cp L i W (h.mono hb) ho)
  by_cases hte : (lsOf b t c L).termE i = 0
  · have hin := termE_has hte
    have hin2 : b ≤ i ∧ i ≤ b + (n : Int) := by
      have e1 : (lsOf b t c L).b = b := rfl
      have e2 : (lsOf b t c L).l.length = n := by rw [← hl]; simp [lsOf]
      rw [e1, e2] at hin; exact hin
    have hrd := (rise_drop (L.map pe) b i ho.r hin2.1 (by rw [List.length_map, hl]; exact hin2.2)).2
    have hcp : (lsOf b t c L).compact i = (⟨i, (lsOf b t c L).term i, (lsOf b t c L).confAt i, (L.map pe).drop (i - b).toNat⟩, 0) := by
      unfold LS.compact
      rw [if_pos hte]
      show (_, _) = _
      rw [← hrd]; rfl
    rw [hcp]
    rw [hte] at GT
    obtain ⟨tv, htv⟩ : ∃ y, (lsOf b t c L).term i = y := ⟨_, rfl⟩
    obtain ⟨cv, hcv⟩ : ∃ y, (lsOf b t c L).confAt i = y := ⟨_, rfl⟩
    rw [htv] at GT
    rw [hcv] at GC
    rw [htv, hcv]
    obtain ⟨k, hk⟩ : ∃ k : Nat, (i - b).toNat = k := ⟨_, rfl⟩
    rw [hk]
    have hki : i - b = (k : Int) := by omega
    have gw1 : IntKind.i64.wrap (i - b) = (k : Int) := by rw [IntKind.wrap_i64]; omega
    have hkn : k ≤ n := by omega
    have hkc : k ≤ cp := Nat.le_trans hkn h.es.hle
    have g1 : (0 : Int) ≤ (k : Int) := by omega
    have g2 : (k : Int) ≤ (n : Int) := by omega
    have HEMP := Lib.hid (fun (hc : cp = k) => (show L.drop k = [] from List.drop_of_length_le (by have := h.es.hle; omega)))
    rcases a with _ | ⟨x1, o1, sp⟩
    · have hcp0 := h.es.hnil rfl
      have hnc := h.es.hle
      obtain rfl : n = 0 := by omega
      obtain rfl : k = 0 := by omega
      subst hcp0
      have OS := Lib.hid (fun (W : World) (hb : Below w.heap.size w W) => (show Ents W none 0 0 (L.drop 0) from by have := h.es.mono hb; rw [List.drop_zero]; exact this))
      clear h ho hv hrd hcp hte hin hin2 hn hb hl hki htv hcv hk hkn hkc hnc
      go_enter Try.func19, Try.ntmps19
      go_wp2_with (first
        | (go_at_call 36; (with_reducible refine (GT.out w (Below.refl _ _)).mono ?_); rintro x w0 ⟨rfl, hb1⟩; have B0 := Lib.hid hb1; clear hb1)
        | (go_at_call 40; (with_reducible refine (GC.out w0 B0.out).mono ?_); rintro x w1 ⟨rfl, hb1⟩; have B1 := Lib.hid (B0.out.trans (hb1.mono B0.out.size)); clear hb1))
      refine region_t (fun v => Below w1.heap.size w1 v) 15 (by kernel_rfl) (by kernel_rfl) (by kernel_rfl) (Below.refl _ _).drew ?_
      obtain ⟨wd, hwd⟩ : ∃ wd, w1.drew = wd := ⟨_, rfl⟩
      have D0 : Hid (Below w1.heap.size w1 wd) := Lib.hid (by rw [← hwd]; exact (Below.refl _ _).drew)
      rw [hwd]
      clear hwd
      (refine t_read 0 rfl (by kernel_rfl) (by kernel_rfl) (by kernel_rfl) (t_free rfl) ?_ ?_ ?_; rotate_left; (focus (intro v hv; go_simp; rfl)); go_simp)
      (refine t_read 1 rfl (by kernel_rfl) (by kernel_rfl) (by kernel_rfl) (t_free rfl) ?_ ?_ ?_; rotate_left; (focus (intro v hv; go_simp; rfl)); go_simp)
      (refine t_read 2 rfl (by kernel_rfl) (by kernel_rfl) (by kernel_rfl) (t_free rfl) ?_ ?_ ?_; rotate_left; (focus (intro v hv; go_simp; rfl)); go_simp)
      (refine t_read 3 rfl (by kernel_rfl) (by kernel_rfl) (by kernel_rfl) (t_free rfl) ?_ ?_ ?_; rotate_left; (focus (intro v hv; go_simp; rfl)); go_simp)
      (refine t_read 4 rfl (by kernel_rfl) (by kernel_rfl) (by kernel_rfl) (t_free rfl) ?_ ?_ ?_; rotate_left; (focus (intro v hv; have hbv := B1.out.trans (hv.mono B1.out.size); have H9 := H.out.mono hbv; obtain ⟨c0, c1, c2, c3⟩ := H9.row.q4; go_simp; rfl)); go_simp)
      (refine t_read 5 rfl (by kernel_rfl) (by kernel_rfl) (by kernel_rfl) (t_free rfl) ?_ ?_ ?_; rotate_left; (focus (intro v hv; go_simp; rfl)); go_simp)
      (refine t_read 6 rfl (by kernel_rfl) (by kernel_rfl) (by kernel_rfl) (t_free rfl) ?_ ?_ ?_; rotate_left; (focus (intro v hv; go_simp; rfl)); go_simp)
      (refine t_read 7 rfl (by kernel_rfl) (by kernel_rfl) (by kernel_rfl) (t_free rfl) ?_ ?_ ?_; rotate_left; (focus (intro v hv; go_simp; rfl)); go_simp)
      (refine t_read 8 rfl (by kernel_rfl) (by kernel_rfl) (by kernel_rfl) (t_free rfl) ?_ ?_ ?_; rotate_left; (focus (intro v hv; go_simp; rfl)); go_simp)
      (refine t_read 9 rfl (by kernel_rfl) (by kernel_rfl) (by kernel_rfl) (t_free rfl) ?_ ?_ ?_; rotate_left; (focus (intro v hv; have hbv := B1.out.trans (hv.mono B1.out.size); have H9 := H.out.mono hbv; obtain ⟨c0, c1, c2, c3⟩ := H9.row.q4; go_simp; rfl)); go_simp)
      (refine t_read 10 rfl (by kernel_rfl) (by kernel_rfl) (by kernel_rfl) (t_free rfl) ?_ ?_ ?_; rotate_left; (focus (intro v hv; go_simp; rfl)); go_simp)
      (refine t_read 11 rfl (by kernel_rfl) (by kernel_rfl) (by kernel_rfl) (t_free rfl) ?_ ?_ ?_; rotate_left; (focus (intro v hv; go_simp; rfl)); go_simp)
      (refine t_list 12 rfl (by kernel_rfl) rfl ?_; intro K hK)
      have BDD := Lib.hid (B1.out.trans (D0.out.mono B1.out.size))
      have OK := Lib.hid (OS.out wd BDD.out)
      refine append_ens rfl _ _ rfl wd.heap.size (.slice none 0 0) 0 [] (by go_simp) (World.ownsRow_nil _ _ _ _) none 0 0 (L.drop 0) (by go_simp) OK.out (by have := HNM.out; omega) (Nat.le_refl _) ?_
      intro v2 w2 ho2 hb2 _
      rw [List.nil_append, Nat.zero_add] at ho2
      obtain ⟨ra, rc, hv2, hE, hne, hsp2⟩ := own_ents ho2 OK.out.hlen (by have := HNM.out; omega) (fun y hy => (OK.out.hfit y hy).mono hb2)
      subst hv2
      have E2 := Lib.hid hE
      have NE2 := Lib.hid hne
      have SP2 := Lib.hid hsp2
      have D2 := Lib.hid (D0.out.trans (hb2.mono D0.out.size))
      have S2 := Lib.hid D0.out.size
      clear ho2 hb2 hE hne hsp2
      refine hK _ _ D2.out ?_
      go_simp
      (refine t_one 13 rfl (by kernel_rfl) rfl rfl ?_ ?_ ?_; rotate_left; (focus (go_simp; rfl)); go_simp)
      (refine t_read 14 rfl (by kernel_rfl) (by kernel_rfl) (by kernel_rfl) (t_free rfl) ?_ ?_ ?_; rotate_left; (focus (intro v hv; go_simp; rfl)); go_simp)
      (refine t_last 15 rfl (by kernel_rfl) rfl (by kernel_rfl) (by kernel_rfl) ?_; intro K hK)
      have V2 := Lib.hid (B1.out.trans (D2.out.mono B1.out.size))
      have HV := Lib.hid (H.out.mono V2.out)
      have hpw := H.out.lt p H.out.fp
      refine store_cell rfl _ _ _ rfl p 3 (.slice ra 0 rc) (by go_simp) (by go_simp) rfl rfl 60 _ HV.out.row infoEns13 (by show 3 < 4; decide) ?_
      intro w3 hr3 hu3
      have R3 : Hid (Row w3 p 60 [.int .i64 b, .int .i64 t, .int .i64 c, .slice ra 0 rc]) := Lib.hid hr3
      have U3 := Lib.hid hu3
      clear hr3 hu3
      have FT3 : Hid (Ft F w w3) := Lib.hid ((Ft.of_below V2.out).trans (Ft.of_upd U3.out H.out.fp))
      have N3 : Hid (∀ x off, ra = some ⟨x, off, none⟩ → FG F w w3 x ∧ x ≠ p) := Lib.hid (fun x off e => by
        have h1 := NE2.out x off e
        have hsz := S2.out
        have hB1s := B1.out.size
        exact ⟨.inr ⟨by omega, by rw [U3.out.size]; exact h1.2⟩, by omega⟩)
      have X3 : Hid (XG w3 p (FG F w w3) b t c ra 0 rc (L.drop 0)) := Lib.hid ⟨R3.out, E2.out.put13 HV.out.row (NB_ent_rl _ _ _ _ _ _) U3.out (fun x off e => (N3.out x off e).2), N3.out, SP2.out, fun y hy hn0 k off e => .inl (H.out.fa y (List.mem_of_mem_drop hy) hn0 k off e), .inl H.out.fp, fun k hk => hk.elim (fun h9 => Nat.lt_of_lt_of_le (H.out.lt k h9) FT3.out.size) (fun h9 => h9.2)⟩
      refine hK _ _ ?_
      go_simp
      obtain ⟨c0, c1, c2, c3⟩ := R3.out.q4
      have f0 := R3.out.frozen 0
      have f1 := R3.out.frozen 1
      have f2 := R3.out.frozen 2
      go_wp2_with fail
      go_ret
      have U9 := ((Upd.setCell w3 p 0 (.int .i64 i)).trans (Upd.setCell _ p 1 (.int .i64 tv))).trans (Upd.setCell _ p 2 (.int .i64 cv))
      have R9 := ((R3.out.setV 0 (.int .i64 i)).setV 1 (.int .i64 tv)).setV 2 (.int .i64 cv)
      have E9 := X3.out.es.put13 X3.out.row (NB_ent_rl _ _ _ _ _ _) U9 (fun x off e => (N3.out x off e).2)
      have S9 := U9.size
      refine ⟨i, tv, cv, ra, 0, rc, L.drop 0, rfl, ⟨R9, E9, fun x off e => ⟨(N3.out x off e).1.elim .inl (fun h9 => .inr ⟨h9.1, by rw [S9]; exact h9.2⟩), (N3.out x off e).2⟩, SP2.out, fun y hy hn0 k off e => .inl (H.out.fa y (List.mem_of_mem_drop hy) hn0 k off e), .inl H.out.fp, fun k hk => hk.elim (fun h9 => by rw [S9]; exact Nat.lt_of_lt_of_le (H.out.lt k h9) FT3.out.size) (fun h9 => h9.2)⟩, by unfold lsOf; rw [List.map_drop], FT3.out.trans (Ft.of_upd U9 H.out.fp)⟩
    have hnn : n - k ≤ 1000000 := by omega
    have hnc := h.es.hle
    by_cases hck : cp = k
    · have hnk : n = k := by omega
      have OS := Lib.hid (fun (W : World) (hb : Below w.heap.size w W) => (show Ents W (some ⟨x1, o1, sp⟩) 0 0 (L.drop k) from by rw [HEMP.out hck]; exact (h.es.mono hb).emp))
      subst hck hnk
      have hz1 : n - n = 0 := by omega
      have HNM := Lib.hid (show (0 : Nat) ≤ 1000000 by omega)
      clear h ho hv hrd hcp hte hin hin2 hn hb hl hki htv hcv hk
      go_enter Try.func19, Try.ntmps19
      go_wp2_with (first
        | (go_at_call 36; (with_reducible refine (GT.out w (Below.refl _ _)).mono ?_); rintro x w0 ⟨rfl, hb1⟩; have B0 := Lib.hid hb1; clear hb1)
        | (go_at_call 40; (with_reducible refine (GC.out w0 B0.out).mono ?_); rintro x w1 ⟨rfl, hb1⟩; have B1 := Lib.hid (B0.out.trans (hb1.mono B0.out.size)); clear hb1))
      refine region_t (fun v => Below w1.heap.size w1 v) 15 (by kernel_rfl) (by kernel_rfl) (by kernel_rfl) (Below.refl _ _).drew ?_
      obtain ⟨wd, hwd⟩ : ∃ wd, w1.drew = wd := ⟨_, rfl⟩
      have D0 : Hid (Below w1.heap.size w1 wd) := Lib.hid (by rw [← hwd]; exact (Below.refl _ _).drew)
      rw [hwd]
      clear hwd
      (refine t_read 0 rfl (by kernel_rfl) (by kernel_rfl) (by kernel_rfl) (t_free rfl) ?_ ?_ ?_; rotate_left; (focus (intro v hv; go_simp; rfl)); go_simp)
      (refine t_read 1 rfl (by kernel_rfl) (by kernel_rfl) (by kernel_rfl) (t_free rfl) ?_ ?_ ?_; rotate_left; (focus (intro v hv; go_simp; rfl)); go_simp)
      (refine t_read 2 rfl (by kernel_rfl) (by kernel_rfl) (by kernel_rfl) (t_free rfl) ?_ ?_ ?_; rotate_left; (focus (intro v hv; go_simp; rfl)); go_simp)
      (refine t_read 3 rfl (by kernel_rfl) (by kernel_rfl) (by kernel_rfl) (t_free rfl) ?_ ?_ ?_; rotate_left; (focus (intro v hv; go_simp; rfl)); go_simp)
      (refine t_read 4 rfl (by kernel_rfl) (by kernel_rfl) (by kernel_rfl) (t_free rfl) ?_ ?_ ?_; rotate_left; (focus (intro v hv; have hbv := B1.out.trans (hv.mono B1.out.size); have H9 := H.out.mono hbv; obtain ⟨c0, c1, c2, c3⟩ := H9.row.q4; go_simp; rfl)); go_simp)
      (refine t_read 5 rfl (by kernel_rfl) (by kernel_rfl) (by kernel_rfl) (t_free rfl) ?_ ?_ ?_; rotate_left; (focus (intro v hv; go_simp; rfl)); go_simp)
      (refine t_read 6 rfl (by kernel_rfl) (by kernel_rfl) (by kernel_rfl) (t_free rfl) ?_ ?_ ?_; rotate_left; (focus (intro v hv; go_simp; rfl)); go_simp)
      (refine t_read 7 rfl (by kernel_rfl) (by kernel_rfl) (by kernel_rfl) (t_free rfl) ?_ ?_ ?_; rotate_left; (focus (intro v hv; go_simp; rfl)); go_simp)
      (refine t_read 8 rfl (by kernel_rfl) (by kernel_rfl) (by kernel_rfl) (t_free rfl) ?_ ?_ ?_; rotate_left; (focus (intro v hv; go_simp; rfl)); go_simp)
      (refine t_read 9 rfl (by kernel_rfl) (by kernel_rfl) (by kernel_rfl) (t_free rfl) ?_ ?_ ?_; rotate_left; (focus (intro v hv; have hbv := B1.out.trans (hv.mono B1.out.size); have H9 := H.out.mono hbv; obtain ⟨c0, c1, c2, c3⟩ := H9.row.q4; go_simp; rfl)); go_simp)
      (refine t_read 10 rfl (by kernel_rfl) (by kernel_rfl) (by kernel_rfl) (t_free rfl) ?_ ?_ ?_; rotate_left; (focus (intro v hv; go_simp; rfl)); go_simp)
      (refine t_read 11 rfl (by kernel_rfl) (by kernel_rfl) (by kernel_rfl) (t_free rfl) ?_ ?_ ?_; rotate_left; (focus (intro v hv; go_simp; rfl)); go_simp)
      (refine t_list 12 rfl (by kernel_rfl) rfl ?_; intro K hK)
      have BDD := Lib.hid (B1.out.trans (D0.out.mono B1.out.size))
      have OK := Lib.hid (OS.out wd BDD.out)
      refine append_ens rfl _ _ rfl wd.heap.size (.slice none 0 0) 0 [] (by go_simp) (World.ownsRow_nil _ _ _ _) (some ⟨x1, o1, sp⟩) 0 0 (L.drop n) (by go_simp) OK.out (by have := HNM.out; omega) (Nat.le_refl _) ?_
      intro v2 w2 ho2 hb2 _
      rw [List.nil_append, Nat.zero_add] at ho2
      obtain ⟨ra, rc, hv2, hE, hne, hsp2⟩ := own_ents ho2 OK.out.hlen (by have := HNM.out; omega) (fun y hy => (OK.out.hfit y hy).mono hb2)
      subst hv2
      have E2 := Lib.hid hE
      have NE2 := Lib.hid hne
      have SP2 := Lib.hid hsp2
      have D2 := Lib.hid (D0.out.trans (hb2.mono D0.out.size))
      have S2 := Lib.hid D0.out.size
      clear ho2 hb2 hE hne hsp2
      refine hK _ _ D2.out ?_
      go_simp
      (refine t_one 13 rfl (by kernel_rfl) rfl rfl ?_ ?_ ?_; rotate_left; (focus (go_simp; rfl)); go_simp)
      (refine t_read 14 rfl (by kernel_rfl) (by kernel_rfl) (by kernel_rfl) (t_free rfl) ?_ ?_ ?_; rotate_left; (focus (intro v hv; go_simp; rfl)); go_simp)
      (refine t_last 15 rfl (by kernel_rfl) rfl (by kernel_rfl) (by kernel_rfl) ?_; intro K hK)
      have V2 := Lib.hid (B1.out.trans (D2.out.mono B1.out.size))
      have HV := Lib.hid (H.out.mono V2.out)
      have hpw := H.out.lt p H.out.fp
      refine store_cell rfl _ _ _ rfl p 3 (.slice ra 0 rc) (by go_simp) (by go_simp) rfl rfl 60 _ HV.out.row infoEns13 (by show 3 < 4; decide) ?_
      intro w3 hr3 hu3
      have R3 : Hid (Row w3 p 60 [.int .i64 b, .int .i64 t, .int .i64 c, .slice ra 0 rc]) := Lib.hid hr3
      have U3 := Lib.hid hu3
      clear hr3 hu3
      have FT3 : Hid (Ft F w w3) := Lib.hid ((Ft.of_below V2.out).trans (Ft.of_upd U3.out H.out.fp))
      have N3 : Hid (∀ x off, ra = some ⟨x, off, none⟩ → FG F w w3 x ∧ x ≠ p) := Lib.hid (fun x off e => by
        have h1 := NE2.out x off e
        have hsz := S2.out
        have hB1s := B1.out.size
        exact ⟨.inr ⟨by omega, by rw [U3.out.size]; exact h1.2⟩, by omega⟩)
      have X3 : Hid (XG w3 p (FG F w w3) b t c ra 0 rc (L.drop n)) := Lib.hid ⟨R3.out, E2.out.put13 HV.out.row (NB_ent_rl _ _ _ _ _ _) U3.out (fun x off e => (N3.out x off e).2), N3.out, SP2.out, fun y hy hn0 k off e => .inl (H.out.fa y (List.mem_of_mem_drop hy) hn0 k off e), .inl H.out.fp, fun k hk => hk.elim (fun h9 => Nat.lt_of_lt_of_le (H.out.lt k h9) FT3.out.size) (fun h9 => h9.2)⟩
      refine hK _ _ ?_
      go_simp
      obtain ⟨c0, c1, c2, c3⟩ := R3.out.q4
      have f0 := R3.out.frozen 0
      have f1 := R3.out.frozen 1
      have f2 := R3.out.frozen 2
      go_wp2_with fail
      go_ret
      have U9 := ((Upd.setCell w3 p 0 (.int .i64 i)).trans (Upd.setCell _ p 1 (.int .i64 tv))).trans (Upd.setCell _ p 2 (.int .i64 cv))
      have R9 := ((R3.out.setV 0 (.int .i64 i)).setV 1 (.int .i64 tv)).setV 2 (.int .i64 cv)
      have E9 := X3.out.es.put13 X3.out.row (NB_ent_rl _ _ _ _ _ _) U9 (fun x off e => (N3.out x off e).2)
      have S9 := U9.size
      refine ⟨i, tv, cv, ra, 0, rc, L.drop n, rfl, ⟨R9, E9, fun x off e => ⟨(N3.out x off e).1.elim .inl (fun h9 => .inr ⟨h9.1, by rw [S9]; exact h9.2⟩), (N3.out x off e).2⟩, SP2.out, fun y hy hn0 k off e => .inl (H.out.fa y (List.mem_of_mem_drop hy) hn0 k off e), .inl H.out.fp, fun k hk => hk.elim (fun h9 => by rw [S9]; exact Nat.lt_of_lt_of_le (H.out.lt k h9) FT3.out.size) (fun h9 => h9.2)⟩, by unfold lsOf; rw [List.map_drop], FT3.out.trans (Ft.of_upd U9 H.out.fp)⟩
    · have hsp : sp = none := by
        obtain ⟨x9, o9, e9⟩ := h.sp _ rfl
        simp at e9; exact e9.2.2
      subst hsp
      have OS := Lib.hid (fun (W : World) (hb : Below w.heap.size w W) => (h.es.mono hb).drop hkn)
      have HNM := Lib.hid (show n - k ≤ 1000000 by omega)
      clear h ho hv hrd hcp hte hin hin2 hn hb hl hki htv hcv hk hnc
      go_enter Try.func19, Try.ntmps19
      go_wp2_with (first
        | (go_at_call 36; (with_reducible refine (GT.out w (Below.refl _ _)).mono ?_); rintro x w0 ⟨rfl, hb1⟩; have B0 := Lib.hid hb1; clear hb1)
        | (go_at_call 40; (with_reducible refine (GC.out w0 B0.out).mono ?_); rintro x w1 ⟨rfl, hb1⟩; have B1 := Lib.hid (B0.out.trans (hb1.mono B0.out.size)); clear hb1))
      refine region_t (fun v => Below w1.heap.size w1 v) 15 (by kernel_rfl) (by kernel_rfl) (by kernel_rfl) (Below.refl _ _).drew ?_
      obtain ⟨wd, hwd⟩ : ∃ wd, w1.drew = wd := ⟨_, rfl⟩
      have D0 : Hid (Below w1.heap.size w1 wd) := Lib.hid (by rw [← hwd]; exact (Below.refl _ _).drew)
      rw [hwd]
      clear hwd
      (refine t_read 0 rfl (by kernel_rfl) (by kernel_rfl) (by kernel_rfl) (t_free rfl) ?_ ?_ ?_; rotate_left; (focus (intro v hv; go_simp; rfl)); go_simp)
      (refine t_read 1 rfl (by kernel_rfl) (by kernel_rfl) (by kernel_rfl) (t_free rfl) ?_ ?_ ?_; rotate_left; (focus (intro v hv; go_simp; rfl)); go_simp)
      (refine t_read 2 rfl (by kernel_rfl) (by kernel_rfl) (by kernel_rfl) (t_free rfl) ?_ ?_ ?_; rotate_left; (focus (intro v hv; go_simp; rfl)); go_simp)
      (refine t_read 3 rfl (by kernel_rfl) (by kernel_rfl) (by kernel_rfl) (t_free rfl) ?_ ?_ ?_; rotate_left; (focus (intro v hv; go_simp; rfl)); go_simp)
      (refine t_read 4 rfl (by kernel_rfl) (by kernel_rfl) (by kernel_rfl) (t_free rfl) ?_ ?_ ?_; rotate_left; (focus (intro v hv; have hbv := B1.out.trans (hv.mono B1.out.size); have H9 := H.out.mono hbv; obtain ⟨c0, c1, c2, c3⟩ := H9.row.q4; go_simp; rfl)); go_simp)
      (refine t_read 5 rfl (by kernel_rfl) (by kernel_rfl) (by kernel_rfl) (t_free rfl) ?_ ?_ ?_; rotate_left; (focus (intro v hv; go_simp; rfl)); go_simp)
      (refine t_read 6 rfl (by kernel_rfl) (by kernel_rfl) (by kernel_rfl) (t_free rfl) ?_ ?_ ?_; rotate_left; (focus (intro v hv; go_simp; rfl)); go_simp)
      (refine t_read 7 rfl (by kernel_rfl) (by kernel_rfl) (by kernel_rfl) (t_free rfl) ?_ ?_ ?_; rotate_left; (focus (intro v hv; go_simp; rfl)); go_simp)
      (refine t_read 8 rfl (by kernel_rfl) (by kernel_rfl) (by kernel_rfl) (t_free rfl) ?_ ?_ ?_; rotate_left; (focus (intro v hv; go_simp; rfl)); go_simp)
      (refine t_read 9 rfl (by kernel_rfl) (by kernel_rfl) (by kernel_rfl) (t_free rfl) ?_ ?_ ?_; rotate_left; (focus (intro v hv; have hbv := B1.out.trans (hv.mono B1.out.size); have H9 := H.out.mono hbv; obtain ⟨c0, c1, c2, c3⟩ := H9.row.q4; go_simp; rfl)); go_simp)
      (refine t_read 10 rfl (by kernel_rfl) (by kernel_rfl) (by kernel_rfl) (t_free rfl) ?_ ?_ ?_; rotate_left; (focus (intro v hv; go_simp; rfl)); go_simp)
      (refine t_read 11 rfl (by kernel_rfl) (by kernel_rfl) (by kernel_rfl) (t_free rfl) ?_ ?_ ?_; rotate_left; (focus (intro v hv; go_simp; rfl)); go_simp)
      (refine t_list 12 rfl (by kernel_rfl) rfl ?_; intro K hK)
      have BDD := Lib.hid (B1.out.trans (D0.out.mono B1.out.size))
      have OK := Lib.hid (OS.out wd BDD.out)
      refine append_ens rfl _ _ rfl wd.heap.size (.slice none 0 0) 0 [] (by go_simp) (World.ownsRow_nil _ _ _ _) (some ⟨x1, o1 + k * 4, none⟩) (n - k) (cp - k) (L.drop k) (by go_simp) OK.out (by have := HNM.out; omega) (Nat.le_refl _) ?_
      intro v2 w2 ho2 hb2 _
      rw [List.nil_append, Nat.zero_add] at ho2
      obtain ⟨ra, rc, hv2, hE, hne, hsp2⟩ := own_ents ho2 OK.out.hlen (by have := HNM.out; omega) (fun y hy => (OK.out.hfit y hy).mono hb2)
      subst hv2
      have E2 := Lib.hid hE
      have NE2 := Lib.hid hne
      have SP2 := Lib.hid hsp2
      have D2 := Lib.hid (D0.out.trans (hb2.mono D0.out.size))
      have S2 := Lib.hid D0.out.size
      clear ho2 hb2 hE hne hsp2
      refine hK _ _ D2.out ?_
      go_simp
      (refine t_one 13 rfl (by kernel_rfl) rfl rfl ?_ ?_ ?_; rotate_left; (focus (go_simp; rfl)); go_simp)
      (refine t_read 14 rfl (by kernel_rfl) (by kernel_rfl) (by kernel_rfl) (t_free rfl) ?_ ?_ ?_; rotate_left; (focus (intro v hv; go_simp; rfl)); go_simp)
      (refine t_last 15 rfl (by kernel_rfl) rfl (by kernel_rfl) (by kernel_rfl) ?_; intro K hK)
      have V2 := Lib.hid (B1.out.trans (D2.out.mono B1.out.size))
      have HV := Lib.hid (H.out.mono V2.out)
      have hpw := H.out.lt p H.out.fp
      refine store_cell rfl _ _ _ rfl p 3 (.slice ra (n - k) rc) (by go_simp) (by go_simp) rfl rfl 60 _ HV.out.row infoEns13 (by show 3 < 4; decide) ?_
      intro w3 hr3 hu3
      have R3 : Hid (Row w3 p 60 [.int .i64 b, .int .i64 t, .int .i64 c, .slice ra (n - k) rc]) := Lib.hid hr3
      have U3 := Lib.hid hu3
      clear hr3 hu3
      have FT3 : Hid (Ft F w w3) := Lib.hid ((Ft.of_below V2.out).trans (Ft.of_upd U3.out H.out.fp))
      have N3 : Hid (∀ x off, ra = some ⟨x, off, none⟩ → FG F w w3 x ∧ x ≠ p) := Lib.hid (fun x off e => by
        have h1 := NE2.out x off e
        have hsz := S2.out
        have hB1s := B1.out.size
        exact ⟨.inr ⟨by omega, by rw [U3.out.size]; exact h1.2⟩, by omega⟩)
      have X3 : Hid (XG w3 p (FG F w w3) b t c ra (n - k) rc (L.drop k)) := Lib.hid ⟨R3.out, E2.out.put13 HV.out.row (NB_ent_rl _ _ _ _ _ _) U3.out (fun x off e => (N3.out x off e).2), N3.out, SP2.out, fun y hy hn0 k off e => .inl (H.out.fa y (List.mem_of_mem_drop hy) hn0 k off e), .inl H.out.fp, fun k hk => hk.elim (fun h9 => Nat.lt_of_lt_of_le (H.out.lt k h9) FT3.out.size) (fun h9 => h9.2)⟩
      refine hK _ _ ?_
      go_simp
      obtain ⟨c0, c1, c2, c3⟩ := R3.out.q4
      have f0 := R3.out.frozen 0
      have f1 := R3.out.frozen 1
      have f2 := R3.out.frozen 2
      go_wp2_with fail
      go_ret
      have U9 := ((Upd.setCell w3 p 0 (.int .i64 i)).trans (Upd.setCell _ p 1 (.int .i64 tv))).trans (Upd.setCell _ p 2 (.int .i64 cv))
      have R9 := ((R3.out.setV 0 (.int .i64 i)).setV 1 (.int .i64 tv)).setV 2 (.int .i64 cv)
      have E9 := X3.out.es.put13 X3.out.row (NB_ent_rl _ _ _ _ _ _) U9 (fun x off e => (N3.out x off e).2)
      have S9 := U9.size
      refine ⟨i, tv, cv, ra, (n - k), rc, L.drop k, rfl, ⟨R9, E9, fun x off e => ⟨(N3.out x off e).1.elim .inl (fun h9 => .inr ⟨h9.1, by rw [S9]; exact h9.2⟩), (N3.out x off e).2⟩, SP2.out, fun y hy hn0 k off e => .inl (H.out.fa y (List.mem_of_mem_drop hy) hn0 k off e), .inl H.out.fp, fun k hk => hk.elim (fun h9 => by rw [S9]; exact Nat.lt_of_lt_of_le (H.out.lt k h9) FT3.out.size) (fun h9 => h9.2)⟩, by unfold lsOf; rw [List.map_drop], FT3.out.trans (Ft.of_upd U9 H.out.fp)⟩
  · have hev6 : (lsOf b t c L).termE i = 6 := by unfold LS.termE at hte ⊢; split at hte; exact absurd rfl hte; split at hte; exact absurd rfl hte; rename_i h1 h2; rw [if_neg h1, if_neg h2]
    have hcp : (lsOf b t c L).compact i = (lsOf b t c L, 6) := by unfold LS.compact; rw [if_neg hte]
    rw [hcp]
    rw [hev6] at GT
    obtain ⟨tv, htv⟩ : ∃ y, (lsOf b t c L).term i = y := ⟨_, rfl⟩
    rw [htv] at GT
    clear h ho hv hcp hte htv hev6
    go_enter Try.func19, Try.ntmps19
    go_wp2_with (first
      | (go_at_call 36; (with_reducible refine (GT.out w (Below.refl _ _)).mono ?_); rintro x w0 ⟨rfl, hb1⟩; have B0 := Lib.hid hb1; clear hb1))
    go_ret
    exact ⟨b, t, c, a, n, cp, L, rfl, (H.out.mono B0.out).sub (fun k hk => .inl hk) (FG.lt H.out.lt B0.out.size), rfl, Ft.of_below B0.out⟩
end Go.Proofs.Ytnlbdgaleibgcaa.W
