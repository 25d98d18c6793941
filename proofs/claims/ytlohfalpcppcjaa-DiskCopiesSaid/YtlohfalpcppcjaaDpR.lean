/- LAYER 9 (disk): the program's disk in memory: its slots lie in one block, two cells a slot; each slot's bytes in a block of its own, of which they are the first ones. ready, find, loose, cut. -/
import Derived.Test.YtlohfalpcppcjaaDkV
import Derived.Test.YtlohfalpcppcjaaOwn
set_option linter.unusedSimpArgs false
set_option linter.unusedVariables false
namespace Go.Proofs.Ytlohfalpcppcjaa.W
open Go Go.ChangeShapes Go.WideShapes Go.ChangeAt Go.RowKit

/-- the program's disk in memory; all its blocks lie in S -/
structure PX (w : World) (p g : Nat) (L : List Value) (vs : List Sv) (S : Nat → Prop) (d : DSt) : Prop where
  rp : Row w p 53 [.bool true, .int .i64 d.most, .slice (some ⟨g, 0, none⟩) d.B.length d.B.length]
  rg : Row w g 64 L
  ll : L.length = d.B.length * 2
  lb : ∀ i, i < d.B.length → L[i * 2]? = some (vs.getD i default).val
  ls : ∀ i, i < d.B.length → L[i * 2 + 1]? = some (.int .i64 (d.s.getD i 0))
  lv : vs.length = d.B.length
  lS : d.s.length = d.B.length
  ow : ∀ i, i < d.B.length → Fr w 0 (vs.getD i default).val (d.B.getD i [])
  sep : ∀ i j b, i < d.B.length → j < d.B.length → (vs.getD i default).val.ownBlock = some b → (vs.getD j default).val.ownBlock = some b → i = j
  pg : p ≠ g
  p0 : True
  sp : S p
  sg : S g
  sv : ∀ i b, i < d.B.length → (vs.getD i default).val.ownBlock = some b → S b
  lt : ∀ k, S k → k < w.heap.size
  n16 : d.B.length ≤ 16
  len : ∀ i, (d.B.getD i []).length ≤ 524288
  most0 : 0 ≤ d.most ∧ d.most ≤ 524288
  sure : DSure d.B d.s
/-- at p lies the program's disk d -/
def PD (w : World) (p : Nat) (S : Nat → Prop) (d : DSt) : Prop := ∃ g L vs, PX w p g L vs S d

theorem Fr.ftb {F : Nat → Prop} {w w' : World} {base : Nat} {v : Value} {l : List UInt8} (h : Fr w base v l) (k : Ft F w w') (hn : ∀ b, v.ownBlock = some b → ¬ F b) : Fr w' base v l := by
  have hlt := World.ownsRow.lt h
  obtain ⟨h1, h2⟩ := h
  refine ⟨h1, ?_⟩
  rcases h2 with h2 | ⟨g, cap, cur, rfl, hg, hh, r⟩
  · exact .inl h2
  · exact .inr ⟨g, cap, cur, rfl, hg, by rw [k.block g (hlt g rfl).2 (hn g rfl)]; exact hh, r⟩
theorem PX.ft {F : Nat → Prop} {w w' : World} {p g : Nat} {L : List Value} {vs : List Sv} {S : Nat → Prop} {d : DSt} (h : PX w p g L vs S d) (k : Ft F w w') (hd : Disj S F) : PX w' p g L vs S d :=
  { h with rp := h.rp.ft k (hd p h.sp), rg := h.rg.ft k (hd g h.sg), ow := fun i hi => (h.ow i hi).ftb k fun b hb => hd b (h.sv i b hi hb), lt := fun b hb => Nat.lt_of_lt_of_le (h.lt b hb) k.size }
theorem PX.mono {w w' : World} {p g : Nat} {L : List Value} {vs : List Sv} {S : Nat → Prop} {d : DSt} (h : PX w p g L vs S d) (k : Below w.heap.size w w') : PX w' p g L vs S d :=
  h.ft (Ft.of_below (F := fun _ => False) k) (fun _ _ h => h)
theorem PX.cb {w : World} {p g : Nat} {L : List Value} {vs : List Sv} {S : Nat → Prop} {d : DSt} (h : PX w p g L vs S d) (i : Nat) (hi : i < d.B.length) : w.cell? ⟨g, i * 2, none⟩ = some (vs.getD i default).val := by
  rw [h.rg.cellV]; exact h.lb i hi
theorem PX.cs {w : World} {p g : Nat} {L : List Value} {vs : List Sv} {S : Nat → Prop} {d : DSt} (h : PX w p g L vs S d) (i : Nat) (hi : i < d.B.length) : w.cell? ⟨g, i * 2 + 1, none⟩ = some (.int .i64 (d.s.getD i 0)) := by
  rw [h.rg.cellV]; exact h.ls i hi
/-- a slot's cell: its slice, and that it reads as its bytes -/
theorem PX.at {w : World} {p g : Nat} {L : List Value} {vs : List Sv} {S : Nat → Prop} {d : DSt} (h : PX w p g L vs S d) (i : Nat) (hi : i < d.B.length) :
    ∃ a c, (vs.getD i default).val = .slice a (d.B.getD i []).length c ∧ w.cell? ⟨g, i * 2, none⟩ = some (.slice a (d.B.getD i []).length c) ∧ Rd w a (d.B.getD i []).length c (d.B.getD i []) := by
  obtain ⟨a, c, hv, hr, -⟩ := (h.ow i hi).form
  exact ⟨a, c, hv, by rw [h.cb i hi, hv], hr⟩

set_option maxRecDepth 100000 in
set_option maxHeartbeats 4000000 in
theorem dready (p : Nat) (t : TypeId) (b : Bool) (x y : Value) (w : World) (h : Row w p t [.bool b, x, y]) (hp : True) :
    Calls Try.prog 35 #[.pointer (some ⟨p, 0, none⟩)] w fun e w' => e = .returned (.bool b) ∧ w = w' := by
  obtain ⟨c0, c1, c2⟩ := h.t3
  clear h
  go_enter Try.func35, Try.ntmps35
  go_wp2_with fail
  go_ret
  exact ⟨rfl, rfl⟩
set_option maxRecDepth 100000 in
set_option maxHeartbeats 4000000 in
theorem dready_nil (w : World) :
    Calls Try.prog 35 #[.pointer none] w fun e w' => e = .returned (.bool false) ∧ w = w' := by
  go_enter Try.func35, Try.ntmps35
  go_wp2_with fail
  go_ret
  exact ⟨rfl, rfl⟩

set_option maxRecDepth 100000 in
set_option maxHeartbeats 4000000 in
theorem dfind_ok (p g : Nat) (L : List Value) (vs : List Sv) (S : Nat → Prop) (d : DSt) (k : Nat) (w : World) (h : PX w p g L vs S d) (hk : k < d.B.length) :
    Calls Try.prog 34 #[.pointer (some ⟨p, 0, none⟩), .int .i64 (k : Int)] w fun e w' => e = .returned (.tuple #[.pointer (some ⟨g, k * 2, none⟩), .int .i64 0]) ∧ w = w' := by
  have HR := Lib.hid (dready p _ true _ _ w h.rp h.p0)
  obtain ⟨c0, c1, c2⟩ := h.rp.t3
  have hp0 := h.p0
  have hn := h.n16
  obtain ⟨n, hnn⟩ : ∃ n, d.B.length = n := ⟨_, rfl⟩
  rw [hnn] at c2 hn hk
  clear h hnn
  go_enter Try.func34, Try.ntmps34
  go_wp2_with (go_at_call 35; refine HR.out.mono ?_; rintro e w1 ⟨rfl, rfl⟩)
  go_ret2
  exact ⟨rfl, rfl⟩
set_option maxRecDepth 100000 in
set_option maxHeartbeats 4000000 in
theorem dfind_bad (p g : Nat) (L : List Value) (vs : List Sv) (S : Nat → Prop) (d : DSt) (slot : Int) (w : World) (h : PX w p g L vs S d) (hb : slotV d.B slot = false) :
    Calls Try.prog 34 #[.pointer (some ⟨p, 0, none⟩), .int .i64 slot] w fun e w' => e = .returned (.tuple #[.pointer none, .int .i64 1]) ∧ w = w' := by
  have HR := Lib.hid (dready p _ true _ _ w h.rp h.p0)
  obtain ⟨c0, c1, c2⟩ := h.rp.t3
  have hp0 := h.p0
  have hn := h.n16
  unfold slotV at hb
  obtain ⟨n, hnn⟩ : ∃ n, d.B.length = n := ⟨_, rfl⟩
  rw [hnn] at c2 hn hb
  clear h hnn
  by_cases h0 : 0 ≤ slot
  · have h1 : ¬ slot < (n : Int) := by
      intro h1
      simp [h0, h1] at hb
    clear hb
    go_enter Try.func34, Try.ntmps34
    go_wp2_with (go_at_call 35; refine HR.out.mono ?_; rintro e w1 ⟨rfl, rfl⟩)
    go_ret2
    exact ⟨rfl, rfl⟩
  · clear hb
    go_enter Try.func34, Try.ntmps34
    go_wp2_with (go_at_call 35; refine HR.out.mono ?_; rintro e w1 ⟨rfl, rfl⟩)
    go_ret2
    exact ⟨rfl, rfl⟩
set_option maxRecDepth 100000 in
set_option maxHeartbeats 4000000 in
theorem dfind_nil (slot : Int) (w : World) :
    Calls Try.prog 34 #[.pointer none, .int .i64 slot] w fun e w' => e = .returned (.tuple #[.pointer none, .int .i64 2]) ∧ w = w' := by
  have HR := Lib.hid (dready_nil w)
  go_enter Try.func34, Try.ntmps34
  go_wp2_with (go_at_call 35; refine HR.out.mono ?_; rintro e w1 ⟨rfl, rfl⟩)
  go_ret2
  exact ⟨rfl, rfl⟩
set_option maxRecDepth 100000 in
set_option maxHeartbeats 4000000 in
theorem dfind_zero (p : Nat) (t : TypeId) (x y : Value) (slot : Int) (w : World) (h : Row w p t [.bool false, x, y]) (hp : True) :
    Calls Try.prog 34 #[.pointer (some ⟨p, 0, none⟩), .int .i64 slot] w fun e w' => e = .returned (.tuple #[.pointer none, .int .i64 2]) ∧ w = w' := by
  have HR := Lib.hid (dready p t false x y w h hp)
  clear h
  go_enter Try.func34, Try.ntmps34
  go_wp2_with (go_at_call 35; refine HR.out.mono ?_; rintro e w1 ⟨rfl, rfl⟩)
  go_ret2
  exact ⟨rfl, rfl⟩

set_option maxRecDepth 100000 in
set_option maxHeartbeats 4000000 in
/-- how many of a slot's bytes are not sure -/
theorem sloose (g k m c : Nat) (a : Option Addr) (su : Int) (w : World) (h0 : w.cell? ⟨g, k * 2, none⟩ = some (.slice a m c)) (h1 : w.cell? ⟨g, k * 2 + 1, none⟩ = some (.int .i64 su)) (hg : g < w.heap.size) (hm : m ≤ 524288) (hs : 0 ≤ su ∧ su ≤ m) :
    Calls Try.prog 36 #[.pointer (some ⟨g, k * 2, none⟩)] w fun e w' => e = .returned (.int .i64 ((m : Int) - su)) ∧ Below w.heap.size w w' := by
  have H0 := Lib.hid h0
  have H1 := Lib.hid h1
  have hw : IntKind.i64.wrap ((m : Int) - su) = (m : Int) - su := by rw [IntKind.wrap_i64]; omega
  clear h0 h1
  go_enter Try.func36, Try.ntmps36
  go_wp2_with fail
  refine region_w (C := fun v => Below w.heap.size w v) (by kernel_rfl) (by kernel_rfl) (Below.refl _ _).drew ?_
  repeat (first
    | (refine w_read (wanted_free rfl) ?_ ?_ ?_; rotate_left; (focus (intro v hv; have x0 := (hv.cell (p := ⟨g, k * 2, none⟩) hg).trans H0.out; have x1 := (hv.cell (p := ⟨g, k * 2 + 1, none⟩) hg).trans H1.out; go_simp; rfl)); go_simp))
  refine w_nil ?_
  intro w4 hb4
  go_wp2_with fail
  go_ret
  exact ⟨rfl, hb4⟩

set_option maxRecDepth 100000 in
set_option maxHeartbeats 4000000 in
/-- a slot is cut: to its first q bytes -/
theorem scut (g k m c q : Nat) (a : Option Addr) (su : Int) (L : List Value) (w : World) (h : Row w g 64 L) (h0 : L[k * 2]? = some (.slice a m c)) (h1 : L[k * 2 + 1]? = some (.int .i64 su)) (hq : q ≤ m) (hmc : m ≤ c) (hm : m ≤ 524288) (hs : 0 ≤ su ∧ su ≤ m) :
    Calls Try.prog 38 #[.pointer (some ⟨g, k * 2, none⟩), .int .i64 (q : Int)] w fun e w' => e = .returned (.tuple #[]) ∧ Row w' g 64 ((L.set (k * 2) (.slice a q c)).set (k * 2 + 1) (.int .i64 (min su (q : Int)))) ∧ Upd w w' g := by
  have HR := Lib.hid h
  have c0 : w.cell? ⟨g, k * 2, none⟩ = some (.slice a m c) := by rw [h.cellV]; exact h0
  have hqc : q ≤ c := by omega
  have c1 : w.cell? ⟨g, k * 2 + 1, none⟩ = some (.int .i64 su) := by rw [h.cellV]; exact h1
  have f0 := h.frozen (k * 2)
  have f1 := h.frozen (k * 2 + 1)
  clear h h0 h1
  go_enter Try.func38, Try.ntmps38
  go_wp2_with fail
  all_goals
    first | go_end0 | (refine bodyPost_ret (results_none rfl _ _ _) rfl ?_)
    refine ⟨rfl, ?_, (Upd.setCell _ _ _ _).trans (Upd.setCell _ _ _ _)⟩
    first
      | (rw [show min su (q : Int) = su by omega]; exact (HR.out.setV _ _).setV _ _)
      | (rw [show min su (q : Int) = (q : Int) by omega]; exact (HR.out.setV _ _).setV _ _)

theorem Fr.ne {w : World} {base : Nat} {v : Value} {l : List UInt8} (h : Fr w base v l) {p : Nat} {t : TypeId} {L : List Value} (hr : Row w p t L) (ht : t ≠ 5) : v.ownBlock ≠ some p := by
  intro e
  rcases h.2 with ⟨rfl, _⟩ | ⟨g, cap, cur, rfl, hg, hh, r⟩
  · simp [Value.ownBlock] at e
  · simp [Value.ownBlock] at e
    subst e
    have := hr.symm.trans hh
    simp at this
    exact ht this.2
theorem getD_set {α : Type} (l : List α) (k i : Nat) (x d : α) (hk : k < l.length) : (l.set k x).getD i d = if i = k then x else l.getD i d := by
  simp only [List.getD_eq_getElem?_getD, List.getElem?_set]
  by_cases hik : k = i
  · subst hik; simp [hk]
  · rw [if_neg hik, if_neg (fun e => hik e.symm)]
/-- a slot was written anew: its slice is v, its bytes l, of which su are sure -/
theorem PX.put {w w' : World} {p g : Nat} {L L' : List Value} {vs : List Sv} {S : Nat → Prop} {d : DSt} (h : PX w p g L vs S d) (k : Nat) (hk : k < d.B.length) (v : Sv) (l : List UInt8) (su : Int)
    (hf : Ft (fun b => b = g ∨ (vs.getD k default).val.ownBlock = some b) w w') (hr : Row w' g 64 L') (hL : L'.length = L.length) (h0 : L'[k * 2]? = some v.val) (h1 : L'[k * 2 + 1]? = some (.int .i64 su))
    (hL2 : ∀ i, i ≠ k * 2 → i ≠ k * 2 + 1 → L'[i]? = L[i]?) (ho : Fr w' 0 v.val l) (hb : ∀ b, v.val.ownBlock = some b → (vs.getD k default).val.ownBlock = some b ∨ w.heap.size ≤ b) (hl : l.length ≤ 524288) (hs : 0 ≤ su ∧ su ≤ l.length) :
    PX w' p g L' (vs.set k v) (fun b => S b ∨ v.val.ownBlock = some b) { d with B := d.B.set k l, s := d.s.set k su } ∧ Ft S w w' ∧ Grew w S (fun b => S b ∨ v.val.ownBlock = some b) := by
  have hv : ∀ i, (vs.set k v).getD i default = if i = k then v else vs.getD i default := fun i => getD_set vs k i v default (by rw [h.lv]; exact hk)
  have hB : ∀ i, (d.B.set k l).getD i [] = if i = k then l else d.B.getD i [] := fun i => getD_set d.B k i l [] hk
  have hS : ∀ i, (d.s.set k su).getD i 0 = if i = k then su else d.s.getD i 0 := fun i => getD_set d.s k i su 0 (by rw [h.lS]; exact hk)
  have hkk : (vs.getD k default).val.ownBlock ≠ some p := (h.ow k hk).ne h.rp (by decide)
  refine ⟨⟨?_, hr, by simp [hL, h.ll], ?_, ?_, by simp [h.lv], by simp [h.lS], ?_, ?_, h.pg, h.p0, .inl h.sp, .inl h.sg, ?_, ?_, by simpa using h.n16, ?_, h.most0, ?_⟩, ?_, ?_⟩
  · have := h.rp.ft hf (fun e => e.elim h.pg hkk)
    simpa using this
  · intro i hi
    rw [hv]
    by_cases hik : i = k
    · subst hik; rw [if_pos rfl]; exact h0
    · rw [if_neg hik, hL2 _ (by omega) (by omega)]; exact h.lb i (by simpa using hi)
  · intro i hi
    rw [show ({ d with B := d.B.set k l, s := d.s.set k su } : DSt).s.getD i 0 = _ from hS i]
    by_cases hik : i = k
    · subst hik; rw [if_pos rfl]; exact h1
    · rw [if_neg hik, hL2 _ (by omega) (by omega)]; exact h.ls i (by simpa using hi)
  · intro i hi
    have hi' : i < d.B.length := by simpa using hi
    rw [hv, show ({ d with B := d.B.set k l, s := d.s.set k su } : DSt).B.getD i [] = _ from hB i]
    by_cases hik : i = k
    · subst hik; rw [if_pos rfl, if_pos rfl]; exact ho
    · rw [if_neg hik, if_neg hik]
      exact (h.ow i hi').ftb hf fun b hb2 e => e.elim (fun e => (h.ow i hi').ne h.rg (by decide) (e ▸ hb2)) fun e => hik (h.sep i k b hi' hk hb2 e)
  · intro i j b hi hj hbi hbj
    have hi' : i < d.B.length := by simpa using hi
    have hj' : j < d.B.length := by simpa using hj
    rw [hv] at hbi hbj
    have hlt : ∀ m, m < d.B.length → (vs.getD m default).val.ownBlock = some b → b < w.heap.size := fun m hm e => h.lt b (h.sv m b hm e)
    by_cases hik : i = k
    · by_cases hjk : j = k
      · rw [hik, hjk]
      · rw [if_pos hik] at hbi
        rw [if_neg hjk] at hbj
        rcases hb b hbi with e | e
        · exact hik.trans (h.sep k j b hk hj' e hbj)
        · exact absurd (hlt j hj' hbj) (Nat.not_lt.2 e)
    · rw [if_neg hik] at hbi
      by_cases hjk : j = k
      · rw [if_pos hjk] at hbj
        rcases hb b hbj with e | e
        · exact (h.sep i k b hi' hk hbi e).trans hjk.symm
        · exact absurd (hlt i hi' hbi) (Nat.not_lt.2 e)
      · rw [if_neg hjk] at hbj
        exact h.sep i j b hi' hj' hbi hbj
  · intro i b hi e
    have hi' : i < d.B.length := by simpa using hi
    rw [hv] at e
    by_cases hik : i = k
    · rw [if_pos hik] at e; exact .inr e
    · rw [if_neg hik] at e; exact .inl (h.sv i b hi' e)
  · intro b hb2
    rcases hb2 with hb2 | e
    · exact Nat.lt_of_lt_of_le (h.lt b hb2) hf.size
    · exact (World.ownsRow.lt ho b e).2
  · intro i
    rw [show ({ d with B := d.B.set k l, s := d.s.set k su } : DSt).B.getD i [] = _ from hB i]
    split
    · exact hl
    · exact h.len i
  · exact h.sure.step h.lS k hk l su hs
  · refine hf.mono fun b e => ?_
    rcases e with rfl | e
    · exact h.sg
    · exact h.sv k b hk e
  · intro b hb2
    rcases hb2 with hb2 | e
    · exact .inl hb2
    · rcases hb b e with e | e
      · exact .inl (h.sv k b hk e)
      · exact .inr e

/-- APPEND of what reads as bytes to what is owned, with where it lies afterwards -/
theorem append_rd_at {w : World} {ops : Array Oper} {rest : List Oper} {o : Oper} {a : Act} {Q : Exit → Act → World → Prop} (hgd : o.guard = none) (s x : Operand)
    (ho : o.op = .call { callee := .builtin .append, args := #[s, x], argTypes := #[30, 30] })
    (base : Nat) (v : Value) (l : List UInt8) (hs : a.eval s = v) (hown : Fr w base v l)
    (sa : Option Addr) (m c : Nat) (news : List UInt8) (hx : a.eval x = .slice sa m c) (hr : Rd w sa m c news) (hmax : l.length + m ≤ 140737488355328) (hbase : base ≤ w.heap.size)
    (h : ∀ v' w', Fr w' base v' (l ++ news) → w.grownBy w' v.ownBlock → (v'.ownBlock = v.ownBlock ∨ v'.ownBlock = some w.heap.size) → wpList Try.prog ops Q rest (a.put o.dst v') w') : wpList Try.prog ops Q (o :: rest) a w := by
  obtain ⟨i0, hi, hz0, hz1, hz2⟩ := info_parts infoByte
  rcases sa with _ | ad
  · have hc0 : c = 0 := hr.hnil rfl
    have hm0 : m = 0 := by have := hr.hle; omega
    subst hc0 hm0
    have hn : news = [] := List.eq_nil_of_length_eq_zero hr.hlen
    subst hn
    exact wpList_append_own_none hgd s x 30 ho base 5 i0 1 Try.underlying30 hi v l.length (l.map B) hs hown hx (h v w (by simpa using hown) (World.grownBy.refl _ _) (.inl rfl))
  · refine append_at hgd s x 30 5 ho base i0 (.int .u8 0) 1 1 Try.underlying30 hi hz0 hz1 hz2 rfl (by decide) v l.length (l.map B) hs hown ad m c (news.map B) hx (by simp [hr.hlen]) ?_ (B_one news) (by unfold maxLen; omega) (by omega) hbase ?_
    · intro j u hj
      have hj' : j < news.length := by
        have := (List.getElem?_eq_some_iff.1 hj).1; simpa using this
      obtain ⟨b, off, e, -, hc⟩ := hr.lt_of (by have := hr.hlen; omega)
      obtain rfl : ad = ⟨b, off, none⟩ := by simpa using e
      rw [Go.WideShapes.add_plain, hc j (by have := hr.hlen; omega)]
      rw [List.getElem?_map, List.getElem?_eq_getElem hj'] at hj
      simp at hj; subst hj; simp [hj']
    · intro v' w' hown' hg hat
      refine h v' w' ?_ hg hat
      unfold Fr; rw [List.length_append, List.map_append, hr.hlen]; exact hown'
theorem Ft.of_grown {F : Nat → Prop} {w w' : World} {row : Option Nat} (h : w.grownBy w' row) (hF : ∀ b, row = some b → F b) : Ft F w w' :=
  ⟨h.os, h.tape, h.output, h.size, fun k hk hn => h.block k hk fun e => hn (hF k e.symm)⟩
end Go.Proofs.Ytlohfalpcppcjaa.W
