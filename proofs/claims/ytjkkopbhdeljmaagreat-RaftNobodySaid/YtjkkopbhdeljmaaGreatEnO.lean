/- LAYER 11, 13: a list of entries of the call's own (EnO): append of one more; a load of cells as a run. -/
import Derived.Test.YtjkkopbhdeljmaaGreatRcZ
import Derived.Test.YtjkkopbhdeljmaaGreatOwn
set_option linter.unusedSimpArgs false
set_option linter.unusedVariables false
namespace Go.Proofs.YtjkkopbhdeljmaaGreat.W
open Go Go.ChangeShapes Go.WideShapes Go.ChangeAt Go.RowKit

/-- LOAD of an array out of cells, as a run -/
theorem run_cells {P : Program} {w : World} {o : Oper} {a : Act} (ty : TypeId) (x : Operand) (ho : o.op = .load ty x)
    (g off : Nat) (hx : a.eval x = .pointer (some ⟨g, off, none⟩)) (L : List Value) (d : TypeDesc) (hc : ∀ j v, L[j]? = some v → w.cell? ⟨g, off + j, none⟩ = some v)
    (hu : P.underlying ty = some d) (hd : (match d with | .struct _ | .array _ _ => true | _ => false) = true) (hi : (P.info? ty).map (·.size) = some L.length) :
    (execOp a.eval o).run P w = .ok (.value (.agg L.toArray)) w := by
  have hl : (loadCells ⟨g, off, none⟩ L.length).run P w = .ok L.toArray w := run_loadCells_list (P := P) w ⟨g, off, none⟩ L (fun j v hv => by rw [Go.WideShapes.add_plain]; exact hc j v hv)
  have hagg : (isAgg ty).run P w = .ok true w := by
    unfold isAgg
    rw [Sem.run_bind, run_underlying hu w]
    cases d <;> simp_all
  unfold execOp
  cases hq : P.info? ty with
  | none => simp [hq] at hi
  | some i =>
    have hs : i.size = L.length := by simpa [hq] using hi
    simp [ho, hx, Instr.loadAt, Instr.sureAddr, loadVar, Sem.run_bind, hagg, sizeOf, typeInfo, hq, hs, hl, Result.andThen]

/-- a list of entries of the call's own -/
def EnO (w : World) (ea : Option Addr) (en ec : Nat) (M : List En) : Prop :=
  M.length = en ∧ ((ea = none ∧ en = 0 ∧ ec = 0) ∨ ∃ g R, ea = some ⟨g, 0, none⟩ ∧ Row w g 69 (flat R) ∧ R.length = ec ∧ en ≤ ec ∧ ec ≤ maxLen ∧ R.take en = M)
theorem EnO.nil (w : World) : EnO w none 0 0 [] := ⟨rfl, .inl ⟨rfl, rfl, rfl⟩⟩
theorem EnO.mono {w w' : World} {ea : Option Addr} {en ec : Nat} {M : List En} (h : EnO w ea en ec M) (hb : Below w.heap.size w w') : EnO w' ea en ec M := by
  obtain ⟨h1, h2⟩ := h
  refine ⟨h1, ?_⟩
  rcases h2 with h2 | ⟨g, R, e, hr, r⟩
  · exact .inl h2
  · exact .inr ⟨g, R, e, hr.below hb hr.lt, r⟩
theorem EnO.upd {w w' : World} {ea : Option Addr} {en ec g : Nat} {M : List En} (h : EnO w ea en ec M) (hu : Upd w w' g) (hg : ∀ b off, ea = some ⟨b, off, none⟩ → b ≠ g) : EnO w' ea en ec M := by
  obtain ⟨h1, h2⟩ := h
  refine ⟨h1, ?_⟩
  rcases h2 with h2 | ⟨g', R, e, hr, r⟩
  · exact .inl h2
  · exact .inr ⟨g', R, e, hr.upd hu (hg g' 0 e), r⟩
theorem EnO.of_row {w : World} {g n : Nat} {M : List En} (h : Row w g 69 (flat M)) (hn : M.length = n) (hm : n ≤ maxLen) : EnO w (some ⟨g, 0, none⟩) n n M :=
  ⟨hn, .inr ⟨g, M, rfl, h, hn, Nat.le_refl _, hm, by rw [← hn]; exact List.take_length⟩⟩
/-- it reads as its list -/
theorem EnO.ents {w : World} {ea : Option Addr} {en ec : Nat} {M : List En} {L : List (En × List UInt8)} (h : EnO w ea en ec M) (hM : M = L.map (·.1)) (hf : ∀ p ∈ L, EnF w p.1 p.2) : Ents w ea en ec L := by
  obtain ⟨h1, h2⟩ := h
  have hl : L.length = en := by rw [← h1, hM, List.length_map]
  rcases h2 with ⟨rfl, rfl, rfl⟩ | ⟨g, R, rfl, hr, hR, hle, hm, ht⟩
  · exact ⟨hl, by omega, by omega, hf, fun _ => rfl, .inl rfl⟩
  · refine ⟨hl, hle, by unfold maxLen at hm; omega, hf, (fun h => by cases h), .inr ⟨g, 0, rfl, hr.lt, fun i hi j v hj => ?_⟩⟩
    have hj4 : j < 4 := (List.getElem?_eq_some_iff.1 hj).1
    rw [Nat.zero_add, hr.cellV, flat_get _ i j (by omega) hj4, ← hj]
    have h3 : R.getD i En.zero = M.getD i En.zero := by
      rw [← ht]; simp [List.getD_eq_getElem?_getD, hi]
    have h4 : M.getD i En.zero = (L.getD i Ez).1 := by
      rw [hM]; simp [List.getD_eq_getElem?_getD, show i < L.length by omega]
    rw [h3, h4]
theorem zero_en (n : Nat) : (Builtin.zeroCells (Value.agg #[.int .i64 0, .int .i64 0, .int .i64 0, .slice none 0 0]).cells n).toList = flat (List.replicate n En.zero) := by
  apply List.ext_getElem?
  intro i
  by_cases hi : i < n * 4
  · obtain ⟨k, j, hk, hj, rfl⟩ : ∃ k j, k < n ∧ j < 4 ∧ i = k * 4 + j := ⟨i / 4, i % 4, by omega, by omega, by omega⟩
    rw [flat_get _ k j (by simpa using hk) hj]
    have hm : (k * 4 + j) % 4 = j := by omega
    have h1 : (List.replicate n En.zero).getD k En.zero = En.zero := by simp [hk]
    rw [h1]
    have h2 : k * 4 + j < n * 4 := hi
    rcases (show j = 0 ∨ j = 1 ∨ j = 2 ∨ j = 3 by omega) with rfl | rfl | rfl | rfl <;> simp [Builtin.zeroCells, Value.cells, En.cells, En.zero, h2, hm] <;> simp_all
  · rw [List.getElem?_eq_none (by simp [Builtin.zeroCells, Value.cells]; omega), List.getElem?_eq_none (by rw [flat_len]; simp; omega)]
theorem take_flat : ∀ (M : List En) (n : Nat), (flat M).take (n * 4) = flat (M.take n)
  | M, 0 => by simp [flat]
  | [], n + 1 => by simp [flat]
  | e :: M, n + 1 => by
    have h : e.cells.length = 4 := rfl
    simp only [flat, List.take_succ_cons]
    rw [List.take_append, List.take_of_length_le (by omega), h, show (n + 1) * 4 - 4 = n * 4 by omega, take_flat M n]
theorem cells_one (e : En) : ∀ v ∈ e.cells, v.oneCell' = true := by
  intro v hv
  simp [En.cells] at hv
  rcases hv with rfl | rfl | rfl | rfl <;> rfl
set_option maxRecDepth 100000 in
theorem run_append_en {w : World} (ty : TypeId) (ea : Option Addr) (en ec : Nat) (M : List En) (h : EnO w ea en ec M) (hm : en ≤ 1000000) (ad : Addr) (c : Nat) (e : En)
    (hs : ∀ j u, e.cells[j]? = some u → w.cell? (ad.add j) = some u) :
    ∃ ea' ec' w', (Builtin.append_ #[23, 23] ty #[.slice ea en ec, .slice (some ad) 1 c]).run Tryz.prog w = .ok (.slice ea' (en + 1) ec') w' ∧ EnO w' ea' (en + 1) ec' (M ++ [e]) ∧
      ((∃ g, ea = some ⟨g, 0, none⟩ ∧ ea' = ea ∧ ec' = ec ∧ en < ec ∧ Upd w w' g) ∨ (ea' = some ⟨w.heap.size, 0, none⟩ ∧ Below w.heap.size w w')) := by
  obtain ⟨i0, hi, hz0, hz1, hz2⟩ := info_parts infoEn
  obtain ⟨hl, hk⟩ := h
  have hel : e.cells.length = 1 * i0.size := by rw [hz1]; rfl
  have hel4 : e.cells.length = 4 := rfl
  rcases hk with ⟨rfl, rfl, rfl⟩ | ⟨g, R, rfl, hr, hR, hle, hmx, ht⟩
  · have h0 : M = [] := List.eq_nil_of_length_eq_zero hl
    subst h0
    refine ⟨_, _, _, run_append_nil (P := Tryz.prog) w 23 ty 69 i0 _ Tryz.underlying23 hi hz0 ad 1 c e.cells hel hs (by decide) (by decide) (by rw [hz2]; decide), ?_, .inr ⟨rfl, ?_⟩⟩
    · refine ⟨rfl, .inr ⟨w.heap.size, e :: List.replicate (grownCap w 1 0 69 - 1) En.zero, rfl, ?_, ?_, grownCap_ge _ _ _ _, grownCap_le_maxLen _ _ _ _ (by decide), rfl⟩⟩
      · have := heap_alloc_new w.drew (.cells (e.cells.toArray ++ Builtin.zeroCells (Value.agg #[.int .i64 0, .int .i64 0, .int .i64 0, .slice none 0 0]).cells (grownCap w 1 0 69 - 1)) 69)
        unfold Row
        refine this.trans ?_
        congr 2
        apply Array.ext'
        rw [Array.toList_append, zero_en]; rfl
      · have := grownCap_ge w 1 0 69
        simp; omega
    · exact ((Below.refl w.heap.size w).drew).alloc (Nat.le_refl _) _
  · by_cases hroom : en + 1 ≤ ec
    · refine ⟨_, _, _, run_append_room (P := Tryz.prog) w 23 ty 69 i0 Tryz.underlying23 hi g en ec _ hr ad 1 c e.cells hel hs (cells_one e) hroom (by rw [hz1]; simp [flat_len, hel4]; omega), ?_, .inl ⟨g, rfl, rfl, rfl, by omega, Upd.setRow _ _ _⟩⟩
      refine ⟨by simp [hl], .inr ⟨g, R.set en e, rfl, ?_, by simpa using hR, hroom, hmx, ?_⟩⟩
      · have h2 := hr.setRow (splice (flat R) (en * 4) e.cells)
        rw [splice_flat R en e (by omega)] at h2
        have e2 : ((flat R).toArray.toList.take (en * i0.size) ++ e.cells ++ (flat R).toArray.toList.drop (en * i0.size + e.cells.length)) = flat (R.set en e) := by
          rw [← splice_flat R en e (by omega), hz1]
          simp [splice]
        rw [e2]; exact h2
      · rw [List.take_succ_eq_append_getElem (by simp; omega)]
        simp [List.take_set_of_le, ht]
    · have hec : ec = en := by omega
      have hcl : ∀ j v, (flat M)[j]? = some v → w.cell? ((⟨g, 0, none⟩ : Addr).add j) = some v := by
        intro j v hj
        have e9 : R.take en = R := List.take_of_length_le (by omega)
        rw [Go.WideShapes.add_plain, Nat.zero_add, hr.cellV, ← hj, ← ht, e9]
      have hg := run_append_grow (P := Tryz.prog) w 23 ty 69 i0 _ Tryz.underlying23 hi hz0 ⟨g, 0, none⟩ en ec (flat M) (by rw [flat_len, hl, hz1]) hcl ad 1 c e.cells hel hs (by omega) (by omega) (growslice_fits (by omega) (by rw [hz2]; omega))
      refine ⟨_, _, _, hg, ?_, .inr ⟨rfl, ?_⟩⟩
      · have hge := grownCap_ge w (en + 1) ec 69
        refine ⟨by simp [hl], .inr ⟨w.heap.size, (M ++ [e]) ++ List.replicate (grownCap w (en + 1) ec 69 - (en + 1)) En.zero, rfl, ?_, by simp [hl]; omega, hge, grownCap_le_maxLen _ _ _ _ (by unfold maxLen; omega), ?_⟩⟩
        · have := heap_alloc_new w.drew (.cells ((flat M).toArray ++ e.cells.toArray ++ Builtin.zeroCells (Value.agg #[.int .i64 0, .int .i64 0, .int .i64 0, .slice none 0 0]).cells (grownCap w (en + 1) ec 69 - (en + 1))) 69)
          unfold Row
          refine this.trans ?_
          congr 2
          apply Array.ext'
          rw [Array.toList_append, Array.toList_append, zero_en, flat_app, flat_app]; simp [flat]
        · rw [List.take_append_of_le_length (by simp [hl]), List.take_of_length_le (by simp [hl])]
      · exact ((Below.refl w.heap.size w).drew).alloc (Nat.le_refl _) _
/-- APPEND of one entry to a list of the call's own -/
theorem append_en {w : World} {ops : Array Oper} {rest : List Oper} {o : Oper} {a : Act} {Q : Exit → Act → World → Prop} (hgd : o.guard = none) (s x : Operand)
    (ho : o.op = .call { callee := .builtin .append, args := #[s, x], argTypes := #[23, 23] })
    (ea : Option Addr) (en ec : Nat) (M : List En) (hs : a.eval s = .slice ea en ec) (h : EnO w ea en ec M) (hm : en ≤ 1000000) (ad : Addr) (c : Nat) (e : En) (hx : a.eval x = .slice (some ad) 1 c)
    (hsrc : ∀ j u, e.cells[j]? = some u → w.cell? (ad.add j) = some u)
    (hk : ∀ ea' ec' w', EnO w' ea' (en + 1) ec' (M ++ [e]) → ((∃ g, ea = some ⟨g, 0, none⟩ ∧ ea' = ea ∧ ec' = ec ∧ en < ec ∧ Upd w w' g) ∨ (ea' = some ⟨w.heap.size, 0, none⟩ ∧ Below w.heap.size w w')) → wpList Tryz.prog ops Q rest (a.put o.dst (.slice ea' (en + 1) ec')) w') : wpList Tryz.prog ops Q (o :: rest) a w := by
  obtain ⟨ea', ec', w', hr, h2, h3⟩ := run_append_en o.type ea en ec M h hm ad c e hsrc
  refine wpList_plain hgd fun K hK => ?_
  unfold Oper.wp execOp
  simp only [ho, resolve, invoke, builtin, Sem.run_bind, Sem.run_pure, Result.andThen_ok, List.map_toArray, List.map_cons, List.map_nil, hs, hx, hr]
  exact hK _ _ (hk ea' ec' w' h2 h3)
/-- BUILD of a slice of one entry -/
theorem build_en {w : World} {ops : Array Oper} {rest : List Oper} {o : Oper} {a : Act} {Q : Exit → Act → World → Prop} (hgd : o.guard = none) (x : Operand)
    (ho : o.op = .buildSlice 23 1 #[(0, x)]) (e : En) (hx : a.eval x = .agg e.cells.toArray)
    (hk : ∀ w', Row w' w.heap.size 69 e.cells → Below w.heap.size w w' → w'.heap.size = w.heap.size + 1 → wpList Tryz.prog ops Q rest (a.put o.dst (.slice (some ⟨w.heap.size, 0, none⟩) 1 1)) w') : wpList Tryz.prog ops Q (o :: rest) a w := by
  obtain ⟨i0, hi, hz0, hz1, hz2⟩ := info_parts infoEn
  obtain ⟨ix, tm, kd, b, n, c⟩ := e
  have hx' : a.eval x = .agg #[.int .i64 ix, .int .i64 tm, .int .i64 kd, .slice b n c] := hx
  refine wpList_buildSlice hgd 23 69 1 _ ho #[.int .i64 ix, .int .i64 tm, .int .i64 kd, .slice b n c] i0 _ Tryz.underlying23 hi hz0 (by rw [hz1]; decide) (by rw [hz1]; decide) (by rw [hz1]; simp only [List.map_toArray, List.map_cons, List.map_nil, hx']; go_simp; first | done | rfl) ?_
  exact hk _ (Row.new _ _ _) ((Below.refl _ _).alloc (Nat.le_refl _) _) (by simp)
end Go.Proofs.YtjkkopbhdeljmaaGreat.W
