/- CONTRACTS of layer 10 (frame): the reference's Scan. -/
import Derived.Test.YtfcbndjciojniaaFrS
import Derived.Test.YtfcbndjciojniaaDkR
import Derived.Test.YtfcbndjciojniaaOwn
set_option linter.unusedSimpArgs false
set_option linter.unusedVariables false
namespace Go.Proofs.Ytfcbndjciojniaa.W
open Go Go.ChangeShapes Go.WideShapes Go.ChangeAt Go.RowKit
open Go.Proofs.Ytfcbndjciojniaa.P (enc dec)

/-- a list of slices of bytes that the call made, and owns from block number base on -/
structure FrL (w : World) (base : Nat) (v : Value) (Ls : List (List UInt8)) : Prop where
  ex : ∃ vs : List Sv, vs.length = Ls.length ∧ w.ownsRow base 30 1 v Ls.length (vs.map Sv.val) ∧
    (∀ i, i < Ls.length → Rd w (vs.getD i default).1 (vs.getD i default).2.1 (vs.getD i default).2.2 (Ls.getD i [])) ∧
    (∀ i, i < Ls.length → ∀ b off, (vs.getD i default).1 = some ⟨b, off, none⟩ → (base ≤ b ∧ b < w.heap.size) ∧ some b ≠ v.ownBlock)
theorem FrL.nil (w : World) (base : Nat) : FrL w base (.slice none 0 0) [] := ⟨[], rfl, World.ownsRow_nil _ _ _ _, fun i hi => absurd hi (Nat.not_lt_zero i), fun i hi => absurd hi (Nat.not_lt_zero i)⟩
theorem own_kept {w w' : World} {base : Nat} {e : TypeId} {k : Nat} {v : Value} {n : Nat} {xs : List Value} (h : w.ownsRow base e k v n xs) (hb : Below w.heap.size w w') : w'.ownsRow base e k v n xs := by
  have hlt := World.ownsRow.lt h
  obtain ⟨h1, h2⟩ := h
  refine ⟨h1, ?_⟩
  rcases h2 with h2 | ⟨g, cap, cur, rfl, hg, hh, r⟩
  · exact .inl h2
  · exact .inr ⟨g, cap, cur, rfl, hg, by rw [hb.block g (hlt g rfl).2]; exact hh, r⟩
theorem FrL.kept {w w' : World} {base : Nat} {v : Value} {Ls : List (List UInt8)} (h : FrL w base v Ls) (hb : Below w.heap.size w w') : FrL w' base v Ls := by
  obtain ⟨vs, h1, h2, h3, h4⟩ := h.ex
  exact ⟨vs, h1, own_kept h2 hb, fun i hi => (h3 i hi).mono hb, fun i hi b off e => ⟨⟨(h4 i hi b off e).1.1, Nat.lt_of_lt_of_le (h4 i hi b off e).1.2 hb.size⟩, (h4 i hi b off e).2⟩⟩
theorem FrL.block {w : World} {base : Nat} {v : Value} {Ls : List (List UInt8)} (h : FrL w base v Ls) : ∀ b, w.heap.size ≤ b → some b ≠ v.ownBlock := by
  obtain ⟨vs, h1, h2, h3, h4⟩ := h.ex
  intro b hb e
  have := World.ownsRow.lt h2 b e.symm
  omega
theorem infoBytesZ : (Try.prog.info? 30).map (fun i => (i.zero, i.size, i.bytes)) = some (some (.slice none 0 0), 1, 24) := by kernel_rfl
theorem Rd.grown {w w' : World} {row : Option Nat} {a : Option Addr} {len cap : Nat} {l : List UInt8} (h : Rd w a len cap l) (k : w.grownBy w' row) (hn : ∀ b off, a = some ⟨b, off, none⟩ → some b ≠ row) : Rd w' a len cap l := by
  refine ⟨h.hlen, h.hle, h.hmax, h.hnil, ?_⟩
  rcases h.hcells with h0 | ⟨b, off, e, hlt, hc⟩
  · exact .inl h0
  · exact .inr ⟨b, off, e, Nat.lt_of_lt_of_le hlt k.size, fun i hi => (World.cell?_of_block (k.block b hlt (hn b off e))).trans (hc i hi)⟩

/-- APPEND of one slice of bytes, of new memory, to a list that the call owns. -/
theorem append_frl {w : World} {ops : Array Oper} {rest : List Oper} {o : Oper} {a : Act} {Q : Exit → Act → World → Prop} (hgd : o.guard = none) (s x : Operand)
    (ho : o.op = .call { callee := .builtin .append, args := #[s, x], argTypes := #[62, 62] })
    (base : Nat) (v : Value) (Ls : List (List UInt8)) (hs : a.eval s = v) (hown : FrL w base v Ls) (g c : Nat) (hx : a.eval x = .slice (some ⟨g, 0, none⟩) 1 c)
    (y : Sv) (l : List UInt8) (hcell : w.cell? ⟨g, 0, none⟩ = some y.val) (hr : Rd w y.1 y.2.1 y.2.2 l) (hy : ∀ b off, y.1 = some ⟨b, off, none⟩ → (base ≤ b ∧ b < w.heap.size) ∧ some b ≠ v.ownBlock) (hmax : Ls.length ≤ 1000000) (hbase : base ≤ w.heap.size)
    (h : ∀ v' w', FrL w' base v' (Ls ++ [l]) → Below base w w' → w.grownBy w' v.ownBlock → wpList Try.prog ops Q rest (a.put o.dst v') w') : wpList Try.prog ops Q (o :: rest) a w := by
  obtain ⟨vs, h1, h2, h3, h4⟩ := hown.ex
  obtain ⟨i0, hi, hz0, hz1, hz2⟩ := info_parts infoBytesZ
  have hlt := World.ownsRow.lt h2
  refine append_at hgd s x 62 30 ho base i0 _ 1 24 Try.underlying62 hi hz0 hz1 hz2 rfl (by decide) v Ls.length (vs.map Sv.val) hs h2 ⟨g, 0, none⟩ 1 c [y.val] hx rfl ?_ ?_ (by unfold maxLen; omega) (by omega) hbase ?_
  · intro j u hj
    obtain ⟨rfl, rfl⟩ : j = 0 ∧ y.val = u := by
      rcases j with _ | j
      · exact ⟨rfl, by simpa using hj⟩
      · simp at hj
    rw [Go.WideShapes.add_plain]; exact hcell
  · intro u hu
    rw [List.mem_singleton.1 hu]; rfl
  · intro v' w' hown' hg hblk
    have hb : Below base w w' := (Below.refl _ _).grown hg hbase (fun k hk => (hlt k hk).1)
    have hnew : ∀ b, b < w.heap.size → some b ≠ v.ownBlock → some b ≠ v'.ownBlock := by
      intro b hb1 hb2 hb3
      rcases hblk with e | e
      · rw [e] at hb3; exact hb2 hb3
      · rw [e] at hb3; simp at hb3; omega
    refine h v' w' ⟨vs ++ [y], by simp [h1], by rw [List.length_append, List.map_append]; exact hown', ?_, ?_⟩ hb hg
    · intro i hi2
      by_cases hlt2 : i < Ls.length
      · have e1 : (vs ++ [y]).getD i default = vs.getD i default := by simp [List.getD_eq_getElem?_getD, List.getElem?_append_left (show i < vs.length by omega)]
        have e2 : (Ls ++ [l]).getD i [] = Ls.getD i [] := by simp [List.getD_eq_getElem?_getD, List.getElem?_append_left hlt2]
        rw [e1, e2]
        exact (h3 i hlt2).grown hg fun b off e => (h4 i hlt2 b off e).2
      · obtain rfl : i = Ls.length := by simp at hi2; omega
        have e1 : (vs ++ [y]).getD Ls.length default = y := by rw [← h1]; simp [List.getD_eq_getElem?_getD]
        have e2 : (Ls ++ [l]).getD Ls.length [] = l := by simp [List.getD_eq_getElem?_getD]
        rw [e1, e2]
        exact hr.grown hg fun b off e => (hy b off e).2
    · intro i hi2 b off e
      by_cases hlt2 : i < Ls.length
      · have e1 : (vs ++ [y]).getD i default = vs.getD i default := by simp [List.getD_eq_getElem?_getD, List.getElem?_append_left (show i < vs.length by omega)]
        rw [e1] at e
        have hq := h4 i hlt2 b off e
        exact ⟨⟨hq.1.1, Nat.lt_of_lt_of_le hq.1.2 hg.size⟩, hnew b hq.1.2 hq.2⟩
      · obtain rfl : i = Ls.length := by simp at hi2; omega
        have e1 : (vs ++ [y]).getD Ls.length default = y := by rw [← h1]; simp [List.getD_eq_getElem?_getD]
        rw [e1] at e
        have hq := hy b off e
        exact ⟨⟨hq.1.1, Nat.lt_of_lt_of_le hq.1.2 hg.size⟩, hnew b hq.1.2 hq.2⟩

theorem next_ok {b x : List UInt8} {m : Nat} (h : nextF b = (x, m, 0)) : 0 < m ∧ m ≤ b.length := by
  unfold nextF at h
  obtain ⟨n, r, e1, hn⟩ : ∃ n r e1, numR 262144 b 0 = (n, r, e1) := ⟨_, _, _, rfl⟩
  rw [hn] at h
  dsimp only at h
  by_cases he : e1 = 0
  · subst he
    rw [if_neg (by simp)] at h
    by_cases hs : r.length < n + 4
    · rw [if_pos hs] at h; simp at h
    · rw [if_neg hs] at h
      by_cases hf : sealF (r.take n) ≠ b.take (sealF (r.take n)).length
      · rw [if_pos hf] at h; simp at h
      · rw [if_neg hf] at h
        simp only [Prod.mk.injEq] at h
        obtain ⟨-, rfl, -⟩ := h
        have hb := (numR_good hn).1
        have hl : (r.take n).length = n := by rw [List.length_take]; omega
        rw [seal_len, hl]
        have : b.length = (enc n).length + r.length := by rw [hb, List.length_append]
        omega
  · rw [if_pos he] at h
    simp only [Prod.mk.injEq] at h
    exact absurd h.2.2 he
/-- what frames hold, one behind the other, from a place on; where they end -/
def scanG (b : List UInt8) : Nat → Nat → List (List UInt8) × Nat
  | 0, p => ([], p)
  | f + 1, p => if (nextF (b.drop p)).2.2 ≠ 0 then ([], p) else ((nextF (b.drop p)).1 :: (scanG b f (p + (nextF (b.drop p)).2.1)).1, (scanG b f (p + (nextF (b.drop p)).2.1)).2)
def scanF (b : List UInt8) : List (List UInt8) × Nat := scanG b (b.length + 1) 0
theorem Rd.rest {w : World} {a : Option Addr} {len cap : Nat} {l : List UInt8} (h : Rd w a len cap l) (k : Nat) (hk : k ≤ len) : Rd w (if cap = k then a else a.map (fun x => x.add k)) (len - k) (cap - k) (l.drop k) := by
  have hle := h.hle
  refine ⟨by rw [List.length_drop, h.hlen], by omega, by have := h.hmax; omega, ?_, ?_⟩
  · intro e
    by_cases hc : cap = k
    · omega
    · rw [if_neg hc] at e
      have : a = none := by cases a <;> simp_all
      have := h.hnil this
      omega
  · rcases h.hcells with h0 | ⟨b, off, e, hlt, hcell⟩
    · exact .inl (by omega)
    · by_cases hz : len - k = 0
      · exact .inl hz
      · refine .inr ⟨b, off + k, ?_, hlt, fun i hi => ?_⟩
        · rw [if_neg (by omega), e]; simp [Addr.add]
        · have := hcell (k + i) (by omega)
          rw [show off + k + i = off + (k + i) by omega, this]
          simp [List.getD_eq_getElem?_getD, List.getElem?_drop]

set_option maxRecDepth 100000 in
set_option maxHeartbeats 4000000 in
theorem uscan_any (a : Option Addr) (len cap : Nat) (b : List UInt8) (w : World) (hr : Rd w a len cap b) (hmax : len ≤ 1000000) :
    Calls Try.prog 36 #[.slice a len cap] w fun y w' => ∃ v, y = .returned (.tuple #[v, .int .i64 ((scanF b).2 : Int)]) ∧ FrL w' w.heap.size v (scanF b).1 ∧ Below w.heap.size w w' := by
  have HR := Lib.hid hr
  have hcap := hr.hle
  have HL := Lib.hid hr.hlen
  have hcm := hr.hmax
  obtain ⟨XL, XN, hX⟩ : ∃ x y, scanF b = (x, y) := ⟨_, _, rfl⟩
  rw [hX]
  dsimp only
  have hst : scanF b = ([] ++ (scanG b (len + 1) 0).1, (scanG b (len + 1) 0).2) := by rw [List.nil_append, scanF, hr.hlen]
  rw [hX] at hst
  have HST := Lib.hid hst
  clear hr hst hX
  go_enter Try.func36, Try.ntmps36
  go_wp2_with fail
  go_loopw [4, 5] (fun v i wr => ∃ (p f : Nat) (Ls : List (List UInt8)), i = .int .i64 (p : Int) ∧ p ≤ len ∧ len - p < f ∧ Ls.length ≤ p ∧ Hid ((XL, XN) = (Ls ++ (scanG b f p).1, (scanG b f p).2)) ∧ Hid (FrL wr w.heap.size v Ls) ∧ Hid (Below w.heap.size w wr)) (fun _ i _ => len - (intOf i).toNat)
  case atStart => exact ⟨0, len + 1, [], rfl, Nat.zero_le _, by omega, Nat.le_refl _, HST, Lib.hid (FrL.nil _ _), Lib.hid (Below.refl _ _)⟩
  case round =>
    obtain ⟨p, f, Ls, rfl, hp, hf, hLs, HE, HF, HB⟩ := hrel
    obtain ⟨g, rfl⟩ : ∃ g, f = g + 1 := ⟨f - 1, by omega⟩
    obtain ⟨x, m, e, hn⟩ : ∃ x m e, nextF (b.drop p) = (x, m, e) := ⟨_, _, _, rfl⟩
    have HE1 := HE.out
    unfold scanG at HE1
    rw [hn] at HE1
    dsimp only at HE1
    have hpc : p ≤ cap := by omega
    have RP := Lib.hid ((HR.out.mono HB.out).rest p hp)
    obtain ⟨ra, hra⟩ : ∃ ra, (if cap = p then a else a.map (fun x => x.add p)) = ra := ⟨_, rfl⟩
    rw [hra] at RP
    by_cases he : e = 0
    · subst he
      have hok := next_ok hn
      rw [List.length_drop, HL.out] at hok
      rw [if_neg (by simp)] at HE1
      have HE2 := Lib.hid (show (XL, XN) = ((Ls ++ [x]) ++ (scanG b g (p + m)).1, (scanG b g (p + m)).2) by rw [HE1, List.append_assoc]; rfl)
      have HN := Lib.hid hn
      have HOK := Lib.hid hok
      clear hn HE hok HE1
      go_wp2_with fail
      refine (unext_any ra (len - p) (cap - p) (b.drop p) wr RP.out (by omega) x m 0 HN.out).mono ?_
      rintro y w1 ⟨v1, rfl, hf1, hb1⟩
      obtain ⟨a1, c1, hv1, hr1⟩ := hf1.form' x.length rfl
      subst hv1
      have hnew := hf1.new
      have NW := Lib.hid hnew
      have R1 := Lib.hid hr1
      have F1 := Lib.hid (HF.out.kept hb1)
      have B1 := Lib.hid (HB.out.trans (hb1.mono HB.out.size))
      have hbk := HF.out.block
      have BK := Lib.hid hbk
      have hsz := hb1.size
      have HSZ := Lib.hid hsz
      have HBS := Lib.hid HB.out.size
      obtain ⟨xl, hxl⟩ : ∃ xl, x.length = xl := ⟨_, rfl⟩
      rw [hxl] at R1
      rw [hxl]
      have hpm : (p : Int) + (m : Int) ≤ 1000000 := by have := HOK.out; omega
      have hwp : wrap64 ((p : Int) + (m : Int)) = (p : Int) + (m : Int) := by unfold wrap64; omega
      clear hf1 hb1 hr1 hnew hbk hsz hxl
      go_wp2_with (first
        | (at_builtin; refine append_frl rfl _ _ rfl w.heap.size u4 Ls rfl (F1.out.kept ((Below.refl _ _).alloc (Nat.le_refl _) _)) w1.heap.size 1 rfl (a1, xl, c1) x (cell_of_row _ w1.heap.size 0 _ 30 _ (heap_alloc_new w1 _)) (R1.out.mono ((Below.refl _ _).alloc (Nat.le_refl _) _)) (fun b2 off e2 => ⟨⟨Nat.le_trans HBS.out (NW.out b2 off e2).1, by have := (NW.out b2 off e2).2; simp; omega⟩, BK.out b2 (NW.out b2 off e2).1⟩) (by omega) (Nat.le_trans B1.out.size (by simp)) ?_; intro v5 w5 hf5 hb5 _; have F5 := Lib.hid hf5; have B5 := Lib.hid ((B1.out.alloc B1.out.size _).trans hb5); clear hf5 hb5))
      go_roundw
      case rel => exact ⟨p + m, g, Ls ++ [x], vint (by omega), by have := HOK.out; omega, by have := HOK.out; omega, by have := HOK.out; simp; omega, HE2, F5, B5⟩
      case measure => have := HOK.out; simp [intOf]; omega
    · rw [if_pos he] at HE1
      simp only [Prod.mk.injEq, List.append_nil] at HE1
      obtain ⟨rfl, rfl⟩ := HE1
      have HN := Lib.hid hn
      have hne : (e != 0) = true := by simpa using he
      clear hn HE he
      go_wp2_with fail
      refine (unext_any ra (len - XN) (cap - XN) (b.drop XN) wr RP.out (by omega) x m e HN.out).mono ?_
      rintro y w1 ⟨v1, rfl, hf1, hb1⟩
      have F1 := Lib.hid (HF.out.kept hb1)
      have B1 := Lib.hid (HB.out.trans (hb1.mono HB.out.size))
      clear hf1 hb1
      go_wp2_with fail
      go_ret2
      exact ⟨_, rfl, F1.out, B1.out⟩

end Go.Proofs.Ytfcbndjciojniaa.W
