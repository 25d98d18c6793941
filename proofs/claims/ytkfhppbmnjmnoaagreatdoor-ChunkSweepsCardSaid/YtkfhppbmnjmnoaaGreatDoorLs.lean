/- LISTS OF STRUCTS, whatever the struct: a slice that reads as a list; a list that the call owns: append, what is in it, a part of it, a struct that is written. No number of a dump. -/
import Derived.Test.YtkfhppbmnjmnoaaGreatDoorOwn
import Derived.Great.BuildSlice
set_option linter.unusedSimpArgs false
set_option linter.unusedVariables false
namespace Go.Proofs.YtkfhppbmnjmnoaaGreatDoor.W
open Go Go.ChangeShapes Go.WideShapes Go.ChangeAt Go.RowKit

/-- a struct's type, its slices' type, how many cells it has, its cells, what holds of one in a world -/
structure El (α : Type) where
  sT : TypeId
  eT : TypeId
  k : Nat
  by' : Nat
  z : Value
  cells : α → List Value
  fit : World → α → Prop
structure El.Ok {α : Type} (P : Program) (E : El α) : Prop where
  und : P.underlying E.sT = some (.slice E.eT)
  info : (P.info? E.eT).map (fun i => (i.zero, i.size, i.bytes)) = some (some E.z, E.k, E.by')
  zs : E.z.cells.size = E.k
  pos : 0 < E.k
  len : ∀ x, (E.cells x).length = E.k
  one : ∀ x, ∀ v ∈ E.cells x, v.oneCell' = true
  mono : ∀ x w w', E.fit w x → Below w.heap.size w w' → E.fit w' x
  small : E.by' ≤ 4096
variable {α : Type} {P : Program} {E : El α}
theorem El.Ok.size (h : E.Ok P) : (P.info? E.eT).map (·.size) = some E.k := by
  have := h.info
  cases hq : P.info? E.eT with
  | none => simp [hq] at this
  | some i => simp [hq] at this; simp [this.2.1]

/-- A slice of structs that reads as the list L. -/
structure Ls (E : El α) (w : World) (a : Option Addr) (len cap : Nat) (L : List α) : Prop where
  hlen : L.length = len
  hle : len ≤ cap
  hmax : cap ≤ 9223372036854775807
  hfit : ∀ x ∈ L, E.fit w x
  hnil : a = none → cap = 0
  hcells : len = 0 ∨ ∃ b off, a = some ⟨b, off, none⟩ ∧ b < w.heap.size ∧ ∀ i x, L[i]? = some x → ∀ j v, (E.cells x)[j]? = some v → w.cell? ⟨b, off + i * E.k + j, none⟩ = some v
theorem Ls.mono {w w' : World} {a : Option Addr} {len cap : Nat} {L : List α} (hE : E.Ok P) (h : Ls E w a len cap L) (hb : Below w.heap.size w w') : Ls E w' a len cap L := by
  refine ⟨h.hlen, h.hle, h.hmax, fun x hx => hE.mono x _ _ (h.hfit x hx) hb, h.hnil, ?_⟩
  rcases h.hcells with h0 | ⟨b, off, rfl, hlt, hc⟩
  · exact .inl h0
  · exact .inr ⟨b, off, rfl, Nat.lt_of_lt_of_le hlt hb.size, fun i x hi j v hj => by rw [hb.cell (p := ⟨b, off + i * E.k + j, none⟩) hlt]; exact hc i x hi j v hj⟩
theorem Ls.nil (w : World) : Ls E w none 0 0 [] := ⟨rfl, by omega, by omega, by simp, fun _ => rfl, .inl rfl⟩
/-- a struct of a list that came in, in a world that has grown -/
theorem Ls.at {w wr : World} {a : Option Addr} {n c : Nat} {L : List α} (hE : E.Ok P) (h : Ls E w a n c L) (hb : Below w.heap.size w wr) (k : Nat) (hk : k < n) :
    ∃ b off x, a = some ⟨b, off, none⟩ ∧ L[k]? = some x ∧ (∀ j v, (E.cells x)[j]? = some v → wr.cell? ⟨b, off + k * E.k + j, none⟩ = some v) ∧ E.fit wr x := by
  rcases h.hcells with h0 | ⟨b, off, rfl, hlt, hc⟩
  · omega
  have hk2 : k < L.length := by rw [h.hlen]; exact hk
  refine ⟨b, off, L[k], rfl, by simp [hk2], fun j v hj => ?_, hE.mono _ _ _ (h.hfit _ (List.getElem_mem hk2)) hb⟩
  rw [hb.cell (p := ⟨b, off + k * E.k + j, none⟩) hlt]
  exact hc k _ (by simp [hk2]) j v hj
/-- the first n of them -/
theorem Ls.first {w : World} {a : Option Addr} {len cap : Nat} {L : List α} (h : Ls E w a len cap L) (n : Nat) (hn : n ≤ len) : Ls E w a n cap (L.take n) := by
  have hle := h.hle
  refine ⟨by rw [List.length_take, h.hlen]; omega, by omega, h.hmax, fun x hx => h.hfit x (List.mem_of_mem_take hx), h.hnil, ?_⟩
  rcases h.hcells with h0 | ⟨b, off, rfl, hlt, hc⟩
  · exact .inl (by omega)
  · exact .inr ⟨b, off, rfl, hlt, fun i x hi j v hj => hc i x (by rw [List.getElem?_take] at hi; split at hi; exact hi; cases hi) j v hj⟩
/-- all but the first n of them -/
theorem Ls.rest {w : World} {a : Option Addr} {len cap : Nat} {L : List α} (h : Ls E w a len cap L) (n : Nat) (hn : n ≤ len) : Ls E w (if cap = n then a else a.map (fun x => x.add (n * E.k))) (len - n) (cap - n) (L.drop n) := by
  have hle := h.hle
  refine ⟨by rw [List.length_drop, h.hlen], by omega, by have := h.hmax; omega, fun x hx => h.hfit x (List.mem_of_mem_drop hx), ?_, ?_⟩
  · intro e
    by_cases hc : cap = n
    · omega
    · rw [if_neg hc] at e
      have : a = none := by cases a <;> simp_all
      have := h.hnil this
      omega
  · rcases h.hcells with h0 | ⟨b, off, e, hlt, hcell⟩
    · exact .inl (by omega)
    · by_cases hz : len - n = 0
      · exact .inl hz
      · refine .inr ⟨b, off + n * E.k, ?_, hlt, fun i x hi j v hj => ?_⟩
        · rw [if_neg (by omega), e]; simp [Addr.add]
        · have := hcell (n + i) x (by rw [← hi, List.getElem?_drop]) j v hj
          rw [show off + n * E.k + i * E.k + j = off + (n + i) * E.k + j by rw [Nat.add_mul]; omega]
          exact this

-- ---- owned
/-- the cells of structs one behind the other -/
def flatE (E : El α) (L : List α) : List Value := L.flatMap E.cells
theorem flatE_len (hE : E.Ok P) : ∀ L : List α, (flatE E L).length = L.length * E.k
  | [] => by simp [flatE]
  | x :: L => by
    have ih := flatE_len hE L
    simp only [flatE, List.flatMap_cons, List.length_append, List.length_cons] at *
    rw [ih, hE.len, Nat.add_mul]; omega
theorem flatE_app (L M : List α) : flatE E (L ++ M) = flatE E L ++ flatE E M := by simp [flatE]
theorem flatE_one (hE : E.Ok P) (L : List α) : ∀ u ∈ flatE E L, u.oneCell' = true := by
  intro u hu
  obtain ⟨c, -, hc⟩ := List.mem_flatMap.1 hu
  exact hE.one c u hc
theorem flatE_at (hE : E.Ok P) : ∀ (L : List α) (i j : Nat) (x : α), L[i]? = some x → j < E.k → (flatE E L)[i * E.k + j]? = (E.cells x)[j]?
  | [], i, j, x, h, _ => by simp at h
  | c :: t, 0, j, x, h, hj => by
    simp at h
    subst h
    simp only [flatE, List.flatMap_cons]
    rw [List.getElem?_append_left (by rw [hE.len]; omega)]
    simp
  | c :: t, i + 1, j, x, h, hj => by
    have ih := flatE_at hE t i j x (by simpa using h) hj
    simp only [flatE, List.flatMap_cons] at ih ⊢
    rw [List.getElem?_append_right (by rw [hE.len, Nat.add_mul]; omega)]
    rw [show (i + 1) * E.k + j - (E.cells c).length = i * E.k + j by rw [hE.len, Nat.add_mul]; omega]
    exact ih
/-- cells of a list that came in -/
theorem Ls.flat {w : World} {b off n c : Nat} {L : List α} (hE : E.Ok P) (h : Ls E w (some ⟨b, off, none⟩) n c L) : ∀ j u, (flatE E L)[j]? = some u → w.cell? ((⟨b, off, none⟩ : Addr).add j) = some u := by
  intro j u hj
  have hl := flatE_len hE L
  have hjl : j < L.length * E.k := by rw [← hl]; exact (List.getElem?_eq_some_iff.1 hj).1
  have hpos := hE.pos
  have hi : j / E.k < L.length := Nat.div_lt_of_lt_mul (by rw [Nat.mul_comm]; exact hjl)
  have hm := Nat.mod_lt j hpos
  have hd := Nat.div_add_mod j E.k
  rcases h.hcells with h0 | ⟨b', off', e, -, hc⟩
  · exact absurd hi (by rw [h.hlen, h0]; exact Nat.not_lt_zero _)
  · injection e with e
    injection e with e1 e2
    subst e1 e2
    have hx : L[j / E.k]? = some L[j / E.k] := by simp [hi]
    have h1 := flatE_at hE L (j / E.k) (j % E.k) _ hx hm
    have hq : j / E.k * E.k + j % E.k = j := by rw [Nat.mul_comm]; exact hd
    rw [hq, hj] at h1
    have h2 := hc (j / E.k) _ hx (j % E.k) u h1.symm
    rw [Go.WideShapes.add_plain]
    rw [Nat.add_assoc, hq] at h2
    exact h2
/-- A slice of structs that the call made, and owns from block number base on. -/
def LsO (E : El α) (w : World) (base : Nat) (v : Value) (L : List α) : Prop := w.ownsRow base E.eT E.k v L.length (flatE E L)
theorem LsO.nil (w : World) (base : Nat) : LsO E w base (.slice none 0 0) [] := World.ownsRow_nil _ _ _ _
theorem LsO.empty (w : World) (base : Nat) (hb : base ≤ w.heap.size) : LsO E (w.alloc (.cells #[] E.eT)) base (.slice (some ⟨w.heap.size, 0, none⟩) 0 0) [] :=
  ⟨by simp [flatE], .inr ⟨w.heap.size, 0, #[], rfl, hb, heap_alloc_new w _, Nat.le_refl _, Nat.zero_le _, by simp, by simp [flatE]⟩⟩
theorem LsO.kept {w w' : World} {base : Nat} {v : Value} {L : List α} (h : LsO E w base v L) (hb : Below w.heap.size w w') : LsO E w' base v L := by
  have hlt := World.ownsRow.lt h
  obtain ⟨h1, h2⟩ := h
  refine ⟨h1, ?_⟩
  rcases h2 with h2 | ⟨g, cap, cur, rfl, hg, hh, r⟩
  · exact .inl h2
  · exact .inr ⟨g, cap, cur, rfl, hg, by rw [hb.block g (hlt g rfl).2]; exact hh, r⟩
theorem LsO.base {w : World} {base base' : Nat} {v : Value} {L : List α} (h : LsO E w base v L) (hb : base' ≤ base) : LsO E w base' v L := by
  obtain ⟨h1, h2⟩ := h
  refine ⟨h1, ?_⟩
  rcases h2 with h2 | ⟨g, cap, cur, rfl, hg, r⟩
  · exact .inl h2
  · exact .inr ⟨g, cap, cur, rfl, by omega, r⟩
theorem LsO.upd {w w' : World} {base g : Nat} {v : Value} {L : List α} (h : LsO E w base v L) (hu : Upd w w' g) (hg : v.ownBlock ≠ some g) : LsO E w' base v L := by
  obtain ⟨h1, h2⟩ := h
  refine ⟨h1, ?_⟩
  rcases h2 with h2 | ⟨b, cap, cur, rfl, hb, hh, r⟩
  · exact .inl h2
  · exact .inr ⟨b, cap, cur, rfl, hb, by rw [hu.block b (fun e => hg (by rw [e]; rfl))]; exact hh, r⟩
theorem LsO.ls {w : World} {base : Nat} {v : Value} {L : List α} (hE : E.Ok P) (h : LsO E w base v L) (hf : ∀ x ∈ L, E.fit w x) : ∃ a cap, v = .slice a L.length cap ∧ Ls E w a L.length cap L ∧ (∀ b off, a = some ⟨b, off, none⟩ → base ≤ b ∧ v.ownBlock = some b) := by
  have hlt := World.ownsRow.lt h
  obtain ⟨h1, h2⟩ := h
  rcases h2 with ⟨rfl, h0⟩ | ⟨g, cap, cur, rfl, hg, hh, hn, hm, hsz, ht⟩
  · rw [h0]
    exact ⟨none, 0, rfl, ⟨h0, by omega, by omega, hf, fun _ => rfl, .inl rfl⟩, fun b off e => by cases e⟩
  · refine ⟨_, cap, rfl, ⟨rfl, hn, by unfold maxLen at hm; omega, hf, (fun h => by cases h), .inr ⟨g, 0, rfl, (hlt g rfl).2, fun i x hi j v hj => ?_⟩⟩, fun b off e => by injection e with e; injection e with e1; subst e1; exact ⟨hg, rfl⟩⟩
    have hj3 : j < E.k := by rw [← hE.len x]; exact (List.getElem?_eq_some_iff.1 hj).1
    have hil : i < L.length := (List.getElem?_eq_some_iff.1 hi).1
    have hle : i * E.k + j < L.length * E.k := by
      have : (i + 1) * E.k ≤ L.length * E.k := Nat.mul_le_mul_right _ hil
      rw [Nat.add_mul] at this; omega
    rw [cell_of_row w g _ _ _ _ hh]
    have e := flatE_at hE L i j x hi hj3
    rw [hj, ← ht, List.getElem?_take, if_pos hle] at e
    rw [Nat.zero_add]
    simpa using e
/-- a struct of its own list is written -/
theorem LsO.set {w : World} {base g n c : Nat} {L : List α} (hE : E.Ok P) (h : LsO E w base (.slice (some ⟨g, 0, none⟩) n c) L) (i : Nat) (hi : i < L.length) (x : α) :
    ∃ cur, Row w g E.eT cur ∧ i * E.k + (E.cells x).length ≤ cur.length ∧ ∀ w', Row w' g E.eT (splice cur (i * E.k) (E.cells x)) → LsO E w' base (.slice (some ⟨g, 0, none⟩) n c) (L.set i x) := by
  obtain ⟨h1, h2⟩ := h
  rcases h2 with ⟨e, -⟩ | ⟨g', cap, cur, e, hg, hh, hn, hm, hsz, ht⟩
  · cases e
  · injection e with e1 e2 e3
    injection e1 with e1
    injection e1 with e1
    subst e1 e2 e3
    have hk : (i + 1) * E.k ≤ L.length * E.k := Nat.mul_le_mul_right _ hi
    have hk2 : L.length * E.k ≤ c * E.k := Nat.mul_le_mul_right _ hn
    have hcl : cur.toList.length = c * E.k := by simpa using hsz
    rw [Nat.add_mul] at hk
    have hfit : i * E.k + (E.cells x).length ≤ cur.toList.length := by rw [hE.len, hcl]; omega
    refine ⟨cur.toList, hh, hfit, fun w' hr => ⟨by rw [List.length_set, flatE_len hE, List.length_set], .inr ⟨g, c, (splice cur.toList (i * E.k) (E.cells x)).toArray, by rw [List.length_set], hg, hr, by rw [List.length_set]; exact hn, hm, ?_, ?_⟩⟩⟩
    · have : (splice cur.toList (i * E.k) (E.cells x)).length = cur.toList.length := by
        unfold splice; simp only [List.length_append, List.length_take, List.length_drop]; omega
      simp only [List.size_toArray]; rw [this, hcl]
    · rw [List.length_set]
      simp only
      have hlen0 := hE.len x
      have key : ∀ M : List α, ∀ i, i < M.length → flatE E (M.set i x) = splice (flatE E M) (i * E.k) (E.cells x) := by
        intro M
        induction M with
        | nil => intro i hi; simp at hi
        | cons y M ih =>
          intro i hi
          cases i with
          | zero =>
            simp only [List.set_cons_zero, flatE, List.flatMap_cons, splice, Nat.zero_mul, Nat.zero_add, List.take_zero, List.nil_append]
            rw [hlen0, List.drop_left' (hE.len y)]
          | succ i =>
            have h3 := ih i (by simpa using hi)
            simp only [List.set_cons_succ, flatE, List.flatMap_cons] at h3 ⊢
            rw [h3]
            unfold splice
            have e1 : (i + 1) * E.k = (E.cells y).length + i * E.k := by rw [hE.len, Nat.add_mul]; omega
            rw [e1, List.take_length_add_append, Nat.add_assoc, List.drop_length_add_append]
            simp only [List.append_assoc]
      rw [key L i hi]
      unfold splice
      have hL := flatE_len hE L
      rw [← ht]
      have h4 : i * E.k ≤ L.length * E.k := by omega
      have h5 : (cur.toList.take (i * E.k)).length = i * E.k := by rw [List.length_take]; omega
      rw [List.take_take, Nat.min_eq_left h4, List.drop_take]
      (try simp only [List.append_assoc])
      rw [List.take_append, h5, List.take_of_length_le (by rw [h5]; exact h4)]
      congr 1
      rw [List.take_append, List.take_of_length_le (by rw [hlen0]; omega)]
      congr 2
      omega
/-- APPEND of structs to what the call owns. -/
theorem append_ls (hE : E.Ok P) {w : World} {ops : Array Oper} {rest : List Oper} {o : Oper} {a : Act} {Q : Exit → Act → World → Prop} (hgd : o.guard = none) (s x : Operand)
    (ho : o.op = .call { callee := .builtin .append, args := #[s, x], argTypes := #[E.sT, E.sT] })
    (base : Nat) (v : Value) (L : List α) (hs : a.eval s = v) (hown : LsO E w base v L)
    (sa : Option Addr) (m c : Nat) (M : List α) (hx : a.eval x = .slice sa m c) (hr : Ls E w sa m c M) (hmax : L.length + m ≤ 1000000) (hbase : base ≤ w.heap.size)
    (h : ∀ v' w', LsO E w' base v' (L ++ M) → Below base w w' → w.grownBy w' v.ownBlock → (v'.ownBlock = v.ownBlock ∨ v'.ownBlock = some w.heap.size) → wpList P ops Q rest (a.put o.dst v') w') : wpList P ops Q (o :: rest) a w := by
  obtain ⟨i0, hi, hz0, hz1, hz2⟩ := info_parts hE.info
  have hlt := World.ownsRow.lt hown
  have hsm := hE.small
  rcases sa with _ | ad
  · have hc0 : c = 0 := hr.hnil rfl
    have hm0 : m = 0 := by have := hr.hle; omega
    subst hc0 hm0
    have hn : M = [] := List.eq_nil_of_length_eq_zero hr.hlen
    subst hn
    exact wpList_append_own_none hgd s x E.sT ho base E.eT i0 E.k hE.und hi v L.length (flatE E L) hs hown hx (h v w (by simpa using hown) (Below.refl _ _) (World.grownBy.refl _ _) (.inl rfl))
  · refine append_at hgd s x E.sT E.eT ho base i0 _ E.k E.by' hE.und hi hz0 hz1 hz2 hE.zs hE.pos v L.length (flatE E L) hs hown ad m c (flatE E M) hx (by rw [flatE_len hE, hr.hlen]) ?_ (flatE_one hE M) (by unfold maxLen; omega) (by have : (L.length + m) * E.by' ≤ 1000000 * 4096 := Nat.mul_le_mul hmax hsm; omega) hbase ?_
    · intro j u hj
      obtain ⟨b, off, e⟩ : ∃ b off, ad = ⟨b, off, none⟩ := by
        rcases hr.hcells with h0 | ⟨b, off, e, -⟩
        · have : M = [] := List.eq_nil_of_length_eq_zero (by rw [hr.hlen]; exact h0)
          subst this; simp [flatE] at hj
        · exact ⟨b, off, by simpa using e⟩
      subst e
      exact hr.flat hE j u hj
    · intro v' w' hown' hg hv
      refine h v' w' ?_ ((Below.refl _ _).grown hg hbase (fun k hk => (hlt k hk).1)) hg hv
      unfold LsO; rw [List.length_append, flatE_app, hr.hlen]; exact hown'
/-- one struct in a new block of its own -/
theorem ls_new (hE : E.Ok P) (w : World) (x : α) (cs : Array Value) (hc : cs = (E.cells x).toArray) (hx : E.fit w x) : Ls E (w.alloc (.cells cs E.eT)) (some ⟨w.heap.size, 0, none⟩) 1 1 [x] := by
  subst hc
  refine ⟨rfl, Nat.le_refl _, by omega, fun d hd => ?_, (fun h => by cases h), .inr ⟨w.heap.size, 0, rfl, by simp, fun i y hi j v hj => ?_⟩⟩
  · simp at hd; rw [hd]; exact hE.mono x _ _ hx ((Below.refl _ _).alloc (Nat.le_refl _) _)
  · have hil := (List.getElem?_eq_some_iff.1 hi).1
    simp only [List.length_cons, List.length_nil] at hil
    obtain rfl : i = 0 := by omega
    simp at hi
    subst hi
    rw [cell_of_row _ w.heap.size _ _ E.eT _ (heap_alloc_new w _)]
    simpa using hj
end Go.Proofs.YtkfhppbmnjmnoaaGreatDoor.W
