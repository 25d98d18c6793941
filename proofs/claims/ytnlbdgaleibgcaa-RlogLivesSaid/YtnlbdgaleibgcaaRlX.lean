/- LAYER 13 (rlog): the reference's log as a predicate; Last, LastTerm, Term, Reset, ConfAt, Conf of the reference. -/
import Derived.Test.YtnlbdgaleibgcaaRlC
import Derived.Test.YtnlbdgaleibgcaaRlH
set_option linter.unusedSimpArgs false
set_option linter.unusedVariables false
namespace Go.Proofs.Ytnlbdgaleibgcaa.W
open Go Go.ChangeShapes Go.WideShapes Go.ChangeAt Go.RowKit

/-- the reference's log in memory: its own blocks are those of F -/
structure XG (w : World) (p : Nat) (F : Nat → Prop) (b t c : Int) (a : Option Addr) (n cp : Nat) (L : List (En × List UInt8)) : Prop where
  row : Row w p 60 [.int .i64 b, .int .i64 t, .int .i64 c, .slice a n cp]
  es : Ents w a n cp L
  ne : ∀ x off, a = some ⟨x, off, none⟩ → F x ∧ x ≠ p
  sp : ∀ ad, a = some ad → ∃ x o, ad = ⟨x, o, none⟩
  fa : ∀ x ∈ L, x.1.n ≠ 0 → ∀ k off, x.1.a = some ⟨k, off, none⟩ → F k
  fp : F p
  lt : ∀ k, F k → k < w.heap.size
theorem Ents.ft {G : Nat → Prop} {w w' : World} {a : Option Addr} {n c : Nat} {L : List (En × List UInt8)} (h : Ents w a n c L) (k : Ft G w w') (hl : ∀ x off, a = some ⟨x, off, none⟩ → ¬ G x) (hd : ∀ x ∈ L, x.1.n ≠ 0 → ∀ b off, x.1.a = some ⟨b, off, none⟩ → ¬ G b) : Ents w' a n c L := by
  refine ⟨h.hlen, h.hle, h.hmax, fun p hp => ⟨(h.hfit p hp).ix, (h.hfit p hp).tm, (h.hfit p hp).kd, (h.hfit p hp).rd.ft k (hd p hp)⟩, h.hnil, ?_⟩
  rcases h.hcells with h0 | ⟨b, off, rfl, hlt, hc⟩
  · exact .inl h0
  · right
    refine ⟨b, off, rfl, Nat.lt_of_lt_of_le hlt k.size, fun i hi j v hj => ?_⟩
    exact (World.cell?_of_block (k.block b hlt (hl b off rfl))).trans (hc i hi j v hj)
theorem XG.len {w : World} {p : Nat} {F : Nat → Prop} {b t c : Int} {a : Option Addr} {n cp : Nat} {L : List (En × List UInt8)} (h : XG w p F b t c a n cp L) : L.length = n := h.es.hlen
theorem XG.ft {G : Nat → Prop} {w w' : World} {p : Nat} {F : Nat → Prop} {b t c : Int} {a : Option Addr} {n cp : Nat} {L : List (En × List UInt8)} (h : XG w p F b t c a n cp L) (k : Ft G w w') (hd : ∀ x, F x → ¬ G x) : XG w' p F b t c a n cp L :=
  ⟨h.row.ft k (hd p h.fp), h.es.ft k (fun x off e => hd x (h.ne x off e).1) (fun x hx hn b off e => hd b (h.fa x hx hn b off e)), h.ne, h.sp, h.fa, h.fp, fun x hx => Nat.lt_of_lt_of_le (h.lt x hx) k.size⟩
theorem XG.mono {w w' : World} {p : Nat} {F : Nat → Prop} {b t c : Int} {a : Option Addr} {n cp : Nat} {L : List (En × List UInt8)} (h : XG w p F b t c a n cp L) (hb : Below w.heap.size w w') : XG w' p F b t c a n cp L :=
  h.ft (Ft.of_below (F := fun _ => False) hb) (fun _ _ h => h)
theorem XG.sub {w : World} {F' : Nat → Prop} {p : Nat} {F : Nat → Prop} {b t c : Int} {a : Option Addr} {n cp : Nat} {L : List (En × List UInt8)} (h : XG w p F b t c a n cp L) (h1 : ∀ k, F k → F' k) (h2 : ∀ k, F' k → k < w.heap.size) : XG w p F' b t c a n cp L :=
  ⟨h.row, h.es, fun x off e => ⟨h1 x (h.ne x off e).1, (h.ne x off e).2⟩, h.sp, fun x hx hn k off e => h1 k (h.fa x hx hn k off e), h1 p h.fp, h2⟩
set_option maxRecDepth 100000 in
set_option maxHeartbeats 4000000 in
theorem xlast (p : Nat) (F : Nat → Prop) (b t c : Int) (a : Option Addr) (n cp : Nat) (L : List (En × List UInt8)) (w : World) (h : XG w p F b t c a n cp L) (ho : LOK (lsOf b t c L)) : Calls Try.prog 37 #[.pointer (some ⟨p, 0, none⟩)] w fun x w' => x = .returned (.int .i64 (lsOf b t c L).last) ∧ Below w.heap.size w w' := by
  have hl := h.len
  have hb := ho.b
  have hn := ho.n
  obtain ⟨c0, c1, c2, c3⟩ := h.row.q4
  rw [show (lsOf b t c L).l.length = n by rw [← hl]; simp [lsOf]] at hn
  dsimp only [lsOf] at hb
  have hv : (lsOf b t c L).last = b + (n : Int) := by unfold LS.last lsOf; dsimp only; rw [List.length_map, hl]
  rw [hv]
  have gw : IntKind.i64.wrap (b + (n : Int)) = b + (n : Int) := by rw [IntKind.wrap_i64]; omega
  clear h ho hv
  go_enter Try.func37, Try.ntmps37
  go_wp2_with fail
  go_region
  go_wp2_with fail
  go_ret
  exact ⟨rfl, (Below.refl _ _).drew⟩
set_option maxRecDepth 100000 in
set_option maxHeartbeats 4000000 in
theorem xterm (p : Nat) (F : Nat → Prop) (b t c : Int) (a : Option Addr) (n cp : Nat) (L : List (En × List UInt8)) (i : Int) (w : World) (h : XG w p F b t c a n cp L) (ho : LOK (lsOf b t c L)) : Calls Try.prog 36 #[.pointer (some ⟨p, 0, none⟩), .int .i64 i] w fun x w' => x = .returned (.tuple #[.int .i64 ((lsOf b t c L).term i), .int .i64 ((lsOf b t c L).termE i)]) ∧ Below w.heap.size w w' := by
  have hl := h.len
  have hb := ho.b
  have hn := ho.n
  obtain ⟨c0, c1, c2, c3⟩ := h.row.q4
  rw [show (lsOf b t c L).l.length = n by rw [← hl]; simp [lsOf]] at hn
  dsimp only [lsOf] at hb
  have hv : (lsOf b t c L).last = b + (n : Int) := by unfold LS.last lsOf; dsimp only; rw [List.length_map, hl]
  have GL := Lib.hid (fun (W : World) (hb : Below w.heap.size w W) => xlast p F b t c a n cp L W (h.mono hb) ho)
  rw [hv] at GL
  unfold LS.term LS.termE
  rw [show (lsOf b t c L).b = b from rfl, show (lsOf b t c L).t = t from rfl]
  by_cases hib : i = b
  · subst hib
    rw [if_pos rfl, if_pos rfl]
    clear h ho hv
    go_enter Try.func36, Try.ntmps36
    go_wp2_with fail
    go_ret2
    exact ⟨rfl, Below.refl _ _⟩
  · rw [if_neg hib, if_neg hib]
    have hib1 : (i == b) = false := by simpa using hib
    have hhv : (lsOf b t c L).has i = (decide (b < i) && decide (i ≤ b + (n : Int))) := by unfold LS.has; rw [hv]; rfl
    by_cases hib2 : i < b
    · have hhas : (lsOf b t c L).has i = false := by rw [hhv, decide_eq_false (by omega)]; rfl
      rw [hhas, if_neg (by decide), if_neg (by decide)]
      clear h ho hv hhas hhv
      go_enter Try.func36, Try.ntmps36
      go_wp2_with fail
      go_ret2
      exact ⟨rfl, Below.refl _ _⟩
    · by_cases hib3 : b + (n : Int) < i
      · have hhas : (lsOf b t c L).has i = false := by rw [hhv, decide_eq_false (show ¬ i ≤ b + (n : Int) by omega), Bool.and_false]
        rw [hhas, if_neg (by decide), if_neg (by decide)]
        clear h ho hv hhas hhv
        go_enter Try.func36, Try.ntmps36
        go_wp2_with (first | (go_at_call 37; (with_reducible refine (GL.out w (Below.refl _ _)).mono ?_); rintro x w1 ⟨rfl, hb1⟩; have B1 := Lib.hid hb1; clear hb1))
        go_ret2
        exact ⟨rfl, B1.out⟩
      · have hhas : (lsOf b t c L).has i = true := by rw [hhv, decide_eq_true (show b < i by omega), decide_eq_true (show i ≤ b + (n : Int) by omega)]; rfl
        rw [hhas, if_pos rfl, if_pos rfl]
        obtain ⟨k, hk⟩ : ∃ k : Nat, i = b + 1 + (k : Int) := ⟨(i - b - 1).toNat, by omega⟩
        have hkn : k < n := by omega
        have hat : (lsOf b t c L).at i = pe (L.getD k Ez) := by rw [hk]; exact at_of (by rw [hl]; exact hkn)
        rw [hat]
        have hat := hat
        obtain ⟨x1, o1, he1, hx1, -, -⟩ := h.es.at (Below.refl _ _) k hkn
        obtain ⟨⟨⟨jx, jt, jk, qa, qn, qc⟩, ql⟩, hq⟩ : ∃ y, L.getD k Ez = y := ⟨_, rfl⟩
        rw [hq] at hx1
        dsimp only at hx1
        have X1 : w.cell? ⟨x1, o1 + k * 4 + 1, none⟩ = some (.int .i64 jt) := hx1 1 _ rfl
        have g1 : (0 : Int) ≤ (k : Int) := by omega
        have g2 : (k : Int) < (n : Int) := by omega
        subst he1
        rw [hq]
        show Calls _ _ _ _ fun x w' => x = .returned (.tuple #[.int .i64 jt, .int .i64 0]) ∧ Below w.heap.size w w'
        have gw1 : IntKind.i64.wrap (i - b) = i - b := by rw [IntKind.wrap_i64]; omega
        have gw2 : IntKind.i64.wrap (i - b - 1) = (k : Int) := by rw [IntKind.wrap_i64]; omega
        have HG := Lib.hid h
        have X1' := Lib.hid X1
        clear h ho hv hhas hhv hx1 hq hat hk X1
        go_enter Try.func36, Try.ntmps36
        go_wp2_with (first | (go_at_call 37; (with_reducible refine (GL.out w (Below.refl _ _)).mono ?_); rintro x w1 ⟨rfl, hb1⟩; have B1 := Lib.hid hb1; clear hb1 c0 c1 c2 c3; obtain ⟨c0, c1, c2, c3⟩ := (HG.out.mono B1.out).row.q4; have X1 := (B1.out.cell (p := ⟨x1, o1 + k * 4 + 1, none⟩) (World.block_lt_of_cell? w _ X1'.out)).trans X1'.out))
        go_region
        go_wp2_with fail
        go_ret2
        exact ⟨rfl, B1.out.trans ((Below.refl _ _).drew.mono B1.out.size)⟩
set_option maxRecDepth 100000 in
set_option maxHeartbeats 4000000 in
theorem xlastT (p : Nat) (F : Nat → Prop) (b t c : Int) (a : Option Addr) (n cp : Nat) (L : List (En × List UInt8)) (w : World) (h : XG w p F b t c a n cp L) (ho : LOK (lsOf b t c L)) : Calls Try.prog 38 #[.pointer (some ⟨p, 0, none⟩)] w fun x w' => x = .returned (.int .i64 ((lsOf b t c L).term (lsOf b t c L).last)) ∧ Below w.heap.size w w' := by
  have hl := h.len
  have hb := ho.b
  have hn := ho.n
  obtain ⟨c0, c1, c2, c3⟩ := h.row.q4
  rw [show (lsOf b t c L).l.length = n by rw [← hl]; simp [lsOf]] at hn
  dsimp only [lsOf] at hb
  have hv : (lsOf b t c L).last = b + (n : Int) := by unfold LS.last lsOf; dsimp only; rw [List.length_map, hl]
  rw [hv]
  unfold LS.term
  rw [show (lsOf b t c L).b = b from rfl, show (lsOf b t c L).t = t from rfl]
  rcases n with _ | k
  · rw [if_pos (by omega)]
    clear h ho hv
    go_enter Try.func38, Try.ntmps38
    go_wp2_with fail
    go_ret
    exact ⟨rfl, Below.refl _ _⟩
  · have hkn : k < k + 1 := Nat.lt_succ_self k
    have hhas : (lsOf b t c L).has (b + ((k + 1 : Nat) : Int)) = true := by unfold LS.has; rw [hv, decide_eq_true (show (lsOf b t c L).b < b + ((k + 1 : Nat) : Int) by show b < _; omega), decide_eq_true (Int.le_refl _)]; rfl
    rw [if_neg (by omega), hhas, if_pos rfl]
    have hat : (lsOf b t c L).at (b + ((k + 1 : Nat) : Int)) = pe (L.getD k Ez) := by
      rw [show b + ((k + 1 : Nat) : Int) = b + 1 + (k : Int) by omega]; exact at_of (by rw [hl]; exact hkn)
    rw [hat]
    obtain ⟨x1, o1, he1, hx1, -, -⟩ := h.es.at (Below.refl _ _) k hkn
    obtain ⟨⟨⟨jx, jt, jk, qa, qn, qc⟩, ql⟩, hq⟩ : ∃ y, L.getD k Ez = y := ⟨_, rfl⟩
    rw [hq] at hx1
    dsimp only at hx1
    have X1 : w.cell? ⟨x1, o1 + k * 4 + 1, none⟩ = some (.int .i64 jt) := hx1 1 _ rfl
    have g1 : (0 : Int) ≤ (k : Int) := by omega
    have g2 : (k : Int) < ((k + 1 : Nat) : Int) := by omega
    subst he1
    rw [hq]
    show Calls _ _ _ _ fun x w' => x = .returned (.int .i64 jt) ∧ Below w.heap.size w w'
    have gz : (((k + 1 : Nat) : Int) == 0) = false := by simp; omega
    have gw1 : IntKind.i64.wrap (((k + 1 : Nat) : Int) - 1) = (k : Int) := by rw [IntKind.wrap_i64]; omega
    obtain ⟨m, hm⟩ : ∃ m, k + 1 = m := ⟨_, rfl⟩
    rw [hm] at gz gw1 g2 c3
    clear h ho hv hhas hx1 hq hat hm
    go_enter Try.func38, Try.ntmps38
    go_wp2_with fail
    go_region
    go_wp2_with fail
    go_ret
    exact ⟨rfl, (Below.refl _ _).drew⟩
set_option maxRecDepth 100000 in
set_option maxHeartbeats 4000000 in
theorem xreset (p : Nat) (F : Nat → Prop) (b t c : Int) (a : Option Addr) (n cp : Nat) (L : List (En × List UInt8)) (b' t' c' : Int) (w : World) (h : XG w p F b t c a n cp L) : Calls Try.prog 21 #[.pointer (some ⟨p, 0, none⟩), .int .i64 b', .int .i64 t', .int .i64 c'] w fun x w' => (∃ v, x = .returned v) ∧ XG w' p F b' t' c' none 0 0 [] ∧ Upd w w' p := by
  obtain ⟨c0, c1, c2, c3⟩ := h.row.q4
  have H := Lib.hid h
  have f0 := h.row.frozen 0
  have f1 := h.row.frozen 1
  have f2 := h.row.frozen 2
  have f3 := h.row.frozen 3
  clear h
  go_enter Try.func21, Try.ntmps21
  go_wp2_with fail
  first | go_end0 | (refine bodyPost_ret (results_none rfl _ _ _) rfl ?_)
  have R1 := H.out.row.setV 0 (.int .i64 b')
  have R2 := R1.setV 1 (.int .i64 t')
  have R3 := R2.setV 2 (.int .i64 c')
  have R4 := R3.setV 3 (.slice none 0 0)
  have U4 := (((Upd.setCell w p 0 (.int .i64 b')).trans (Upd.setCell _ p 1 (.int .i64 t'))).trans (Upd.setCell _ p 2 (.int .i64 c'))).trans (Upd.setCell _ p 3 (.slice none 0 0))
  refine ⟨⟨_, rfl⟩, ⟨R4, Ents.nil _, (fun _ _ e => by cases e), (fun _ e => by cases e), (by simp), H.out.fp, fun k hk => ?_⟩, U4⟩
  rw [U4.size]; exact H.out.lt k hk
end Go.Proofs.Ytnlbdgaleibgcaa.W
