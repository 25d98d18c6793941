/- LAYER 12 (peers): the program's List. -/
import Derived.Test.YtebpfjidfohjoaaPeI
set_option linter.unusedSimpArgs false
set_option linter.unusedVariables false
namespace Go.Proofs.Ytebpfjidfohjoaa.W
open Go Go.ChangeShapes Go.WideShapes Go.ChangeAt Go.RowKit Go.Shelf
open Go.Proofs.Ytebpfjidfohjoaa.B (hasV elV bitsV mem mem_and mem_ref cntM cnt T bits_127 cntM_le lsN lsN_len lsN_lt mlN)
attribute [local go_sem] Oper.semAt_some

section
variable {P : Program}
theorem append_atI {F : Fence} {n0 : Nat} {w : World} {ops : Array Oper} {rest : List Oper} {o : Oper} {a : Act} {Q : Exit → Act → World → Prop} (hgd : o.guard = none) (s x : Operand) (t e : TypeId)
    (ho : o.op = .call { callee := .builtin .append, args := #[s, x], argTypes := #[t, t] })
    (base : Nat) (i : TypeInfo) (z : Value) (size bytes : Nat) (ht : P.underlying t = some (.slice e)) (hi : P.info? e = some i) (hz : i.zero = some z)
    (hsize : i.size = size) (hby : i.bytes = bytes) (hzs : z.cells.size = size) (hsz : 0 < size) (v : Value) (n : Nat) (xs : List Value) (hs : a.eval s = v) (hown : w.ownsRow base e size v n xs)
    (ad : Addr) (m c : Nat) (news : List Value) (hx : a.eval x = .slice (some ad) m c) (hl : news.length = m * size) (hnews : ∀ j u, news[j]? = some u → w.cell? (ad.add j) = some u) (h1 : ∀ u ∈ news, u.oneCell' = true)
    (h63 : n + m ≤ maxLen) (hbytes : (n + m) * bytes ≤ 140737488355328) (hbase : base ≤ w.heap.size)
    (h : ∀ v' w', w'.ownsRow base e size v' (n + m) (xs ++ news) → w.grownBy w' v.ownBlock → (v'.ownBlock = v.ownBlock ∨ v'.ownBlock = some w.heap.size) → wpListIn F n0 P ops Q rest (a.put o.dst v') w') : wpListIn F n0 P ops Q (o :: rest) a w := by
  obtain ⟨v', w', hr, h2, h3, h4⟩ := run_append_at (P := P) w base t o.type e i z size bytes ht hi hz hsize hby hzs hsz v n xs hown ad m c news hl hnews h1 h63 hbytes hbase
  refine wpListIn_plain hgd fun K hK => ?_
  unfold Oper.wpIn
  refine ⟨by simp [Oper.about, ho, resolve, Target.leads, Sem.run_pure], ?_⟩
  rw [Oper.semAt_plain F _ _ (by rw [ho]; intro c hc'; cases hc')]
  simp [execOp, ho, resolve, invoke, builtin, hs, hx, hr, Result.andThen]
  exact hK _ _ (h v' w' h2 h3 h4)
end
theorem append_int_in {F : Fence} {n0 : Nat} {w : World} {ops : Array Oper} {rest : List Oper} {o : Oper} {a : Act} {Q : Exit → Act → World → Prop} (hgd : o.guard = none) (s x : Operand)
    (ho : o.op = .call { callee := .builtin .append, args := #[s, x], argTypes := #[33, 33] })
    (base : Nat) (v : Value) (L : List Int) (hs : a.eval s = v) (hown : OwI w base v L) (g c : Nat) (hx : a.eval x = .slice (some ⟨g, 0, none⟩) 1 c)
    (n : Int) (hcell : w.cell? ⟨g, 0, none⟩ = some (.int .i64 n)) (hmax : L.length ≤ 1000000) (hbase : base ≤ w.heap.size)
    (h : ∀ va vc w', OwI w' base (.slice va (L.length + 1) vc) (L ++ [n]) → Below base w w' → wpListIn F n0 Try.prog ops Q rest (a.put o.dst (.slice va (L.length + 1) vc)) w') : wpListIn F n0 Try.prog ops Q (o :: rest) a w := by
  obtain ⟨i0, hi, hz0, hz1, hz2⟩ := info_parts infoInt
  have hlt := World.ownsRow.lt hown
  refine append_atI hgd s x 33 3 ho base i0 _ 1 8 Try.underlying33 hi hz0 hz1 hz2 rfl (by decide) v L.length (L.map (Value.int .i64)) hs hown ⟨g, 0, none⟩ 1 c [.int .i64 n] hx rfl ?_ ?_ (by unfold maxLen; omega) (by omega) hbase ?_
  · intro j u hj
    obtain ⟨rfl, rfl⟩ : j = 0 ∧ .int .i64 n = u := by
      rcases j with _ | j
      · exact ⟨rfl, by simpa using hj⟩
      · simp at hj
    rw [Go.WideShapes.add_plain]; exact hcell
  · intro u hu
    rw [List.mem_singleton.1 hu]; rfl
  · intro v' w' hown' hg hblk
    have ho := OwI.append (w := w) hown'
    obtain ⟨va, vc, hv, -⟩ := ho.at
    rw [List.length_append] at hv
    subst hv
    exact h _ _ w' ho ((Below.refl _ _).grown hg hbase (fun k hk => (hlt k hk).1))

/-- what the loop's own cell holds: the list, its memory from block base on -/
structure ScI (w0 : World) (hB base : Nat) (L : List Int) (W : World) : Prop where
  rh : ∃ v, Row W hB 33 [v] ∧ OwI W base v L
  bel : Below w0.heap.size w0 W
theorem ScI.up {w0 W W' : World} {hB base : Nat} {L : List Int} (h : ScI w0 hB base L W) (hu : UpI base W W') (hh : W'.heap[hB]? = W.heap[hB]?) (hb : Below w0.heap.size W W') : ScI w0 hB base L W' := by
  obtain ⟨⟨v, h1, h2⟩, h5⟩ := h
  exact ⟨⟨v, hh.trans h1, h2.up hu⟩, h5.trans hb⟩
theorem OwI.ups {w w' : World} {base : Nat} {v : Value} {L : List Int} (h : OwI w base v L) (k : UpI base w w') : OwI w' base v L := h.up k

end Go.Proofs.Ytebpfjidfohjoaa.W
