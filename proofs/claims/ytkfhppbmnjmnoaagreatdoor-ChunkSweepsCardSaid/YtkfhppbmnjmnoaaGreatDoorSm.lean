/- MAPS WHOSE KEYS ARE STRINGS, whatever their elements, which are kept as they stand: what a map holds is a list of entries with rising keys. -/
import Derived.Test.YtkfhppbmnjmnoaaGreatDoorStl
import Derived.Test.YtkfhppbmnjmnoaaGreatDoorLs
import Derived.Test.YtkfhppbmnjmnoaaGreatDoorCavO
import Derived.Maps.RangeWalk
import Derived.Maps.OwnSet
import Derived.Maps.Ext
import Derived.Sort.KeysCollected
set_option linter.unusedSimpArgs false
set_option linter.unusedVariables false
namespace Go.Proofs.YtkfhppbmnjmnoaaGreatDoor.W
open Go Go.ChangeShapes Go.WideShapes Go.ChangeAt Go.RowKit

def RV (v : Value) : Option (DataW Value × List MemPlace) := some (.held v, [])
abbrev Ent := ByteArray × Value
def kS (s : ByteArray) : Lit := .string s.data.toList
def entS (M : List Ent) : List (Lit × DataW Value) := M.map fun p => (kS p.1, .held p.2)
def Ris (M : List Ent) : Prop := M.Pairwise fun p q => ltM p.1 q.1 = true
theorem lawS : Maps.Keyed Tryz.prog 9 := Maps.string_keyed Tryz.underlying9
theorem bb_less : ∀ a b : List UInt8, bytesBefore a b = Op.bytesLess a b
  | [], [] => rfl
  | [], _ :: _ => rfl
  | _ :: _, [] => rfl
  | a :: x, b :: y => by simp only [bytesBefore, Op.bytesLess, bb_less x y]
theorem kS_before (a b : ByteArray) : (kS a).before (kS b) = ltM a b := by
  unfold kS ltM
  rw [ByteArray.toList_eq, ByteArray.toList_eq]
  exact bb_less _ _
theorem kS_inj {a b : ByteArray} (h : kS a = kS b) : a = b := by
  unfold kS at h
  injection h with h
  exact ByteArray.ext (Array.toList_inj.1 h)
theorem kS_key (a : ByteArray) : WideAt.IsKeyLit (kS a) := trivial
theorem kS_same (a b : ByteArray) : (kS a).sameKey (kS b) = decide (a = b) := by
  by_cases h : a = b
  · subst h; rw [WideAt.sameKey_self (kS_key a)]; simp
  · rw [Maps.sameKey_ne (fun e => h (kS_inj e))]; simp [h]
theorem key_of (s : ByteArray) (h : s.size ≤ maxLen) : keyOf Tryz.prog 9 (.string s) = some (kS s) := Go.WideMaps.keyOf_string_mk Tryz.underlying9 h
/-- block b is a map that holds just M -/
structure SM (w : World) (b n : Nat) (M : List Ent) : Prop where
  own : w.ownsMap Tryz.prog 9 RV b n (.map (entS M))
theorem ent_mem {M : List Ent} {p : Lit × DataW Value} : p ∈ entS M ↔ ∃ q ∈ M, p = (kS q.1, .held q.2) := by
  unfold entS
  rw [List.mem_map]
  exact ⟨fun ⟨q, h, e⟩ => ⟨q, h, e.symm⟩, fun ⟨q, h, e⟩ => ⟨q, h, e.symm⟩⟩
theorem ent_ris {M : List Ent} (h : Ris M) : (entS M).Pairwise (fun p q => p.1.before q.1 = true) :=
  List.pairwise_map.2 (h.imp fun {a b} hab => by rw [kS_before]; exact hab)
theorem SM.ris {w : World} {b n : Nat} {M : List Ent} (h : SM w b n M) : Ris M := by
  obtain ⟨es, e, hp, -⟩ := h.own.canon lawS
  injection e with e
  rw [← e] at hp
  exact (List.pairwise_map.1 hp).imp fun {a b} hab => by rw [← kS_before]; exact hab
theorem ris_ne {M : List Ent} (h : Ris M) : M.Pairwise (fun p q => p.1 ≠ q.1) := h.imp fun {a b} hab e => by rw [e, ltM_self] at hab; cases hab
theorem ris_uniq {M : List Ent} (h : Ris M) {p q : Ent} (hp : p ∈ M) (hq : q ∈ M) (e : p.1 = q.1) : p = q := by
  induction M with
  | nil => cases hp
  | cons x M ih =>
    obtain ⟨h1, h2⟩ := List.pairwise_cons.1 (ris_ne h)
    rcases List.mem_cons.1 hp with ep | hp'
    · rcases List.mem_cons.1 hq with eq | hq'
      · rw [ep, eq]
      · exact absurd (by rw [← ep]; exact e) (h1 q hq')
    · rcases List.mem_cons.1 hq with eq | hq'
      · exact absurd (by rw [← eq]; exact e.symm) (h1 p hp')
      · exact ih (List.pairwise_cons.1 h).2 hp' hq'
theorem ent_apart {M : List Ent} (h : Ris M) : (entS M).Pairwise (fun p q => p.1 ≠ q.1) := List.pairwise_map.2 ((ris_ne h).imp fun {_ _} hab e => hab (kS_inj e))
theorem has_ent (M : List Ent) (s : ByteArray) : Maps.has (.map (entS M)) (kS s) = M.any (fun p => decide (p.1 = s)) := by
  rw [Maps.has_eq]
  unfold entS
  rw [List.any_map]
  congr 1
  funext p
  exact kS_same p.1 s
theorem has_no {M : List Ent} {s : ByteArray} (h : ∀ p ∈ M, p.1 ≠ s) : Maps.has (.map (entS M)) (kS s) = false := by
  rw [has_ent, List.any_eq_false]
  intro p hp; simp; exact h p hp
theorem has_yes {M : List Ent} {s : ByteArray} {v : Value} (h : (s, v) ∈ M) : Maps.has (.map (entS M)) (kS s) = true := by
  rw [has_ent, List.any_eq_true]
  exact ⟨_, h, by simp⟩
theorem at_no {M : List Ent} {s : ByteArray} (h : ∀ p ∈ M, p.1 ≠ s) (z : DataW Value) : (DataW.map (entS M)).atKey (kS s) z = z := Maps.atKey_of_not_has (has_no h) z
theorem at_yes {M : List Ent} (hr : Ris M) {s : ByteArray} {v : Value} (h : (s, v) ∈ M) (z : DataW Value) : (DataW.map (entS M)).atKey (kS s) z = .held v :=
  WideAt.atKey_mem z (kS_key s) (ent_apart hr) (ent_mem.2 ⟨_, h, rfl⟩)
/-- what a store leaves, by its members -/
theorem put_ent {M M' : List Ent} {s : ByteArray} {v : Value} (hc : Maps.Canon ((DataW.map (entS M)).put (kS s) (.held v))) (hr : Ris M') (hm : ∀ p, p ∈ M' ↔ p = (s, v) ∨ (p ∈ M ∧ p.1 ≠ s)) :
    (DataW.map (entS M)).put (kS s) (.held v) = .map (entS M') := by
  obtain ⟨es, e, hp, -⟩ := hc
  rw [e]
  refine congrArg DataW.map (Maps.eq_of_mem_rising hp (ent_ris hr) fun p => ?_)
  have e2 : es = DataW.insert (kS s, .held v) ((entS M).filter fun p => !p.1.sameKey (kS s)) := by injection e with e; exact e.symm
  rw [e2, ChangeMaps.mem_insert_iff, List.mem_filter, ent_mem, ent_mem]
  constructor
  · rintro (rfl | ⟨⟨q, hq, rfl⟩, h2⟩)
    · exact ⟨(s, v), (hm _).2 (.inl rfl), rfl⟩
    · refine ⟨q, (hm _).2 (.inr ⟨hq, ?_⟩), rfl⟩
      rw [kS_same] at h2; simpa using h2
  · rintro ⟨q, hq, rfl⟩
    rcases (hm q).1 hq with rfl | ⟨h1, h2⟩
    · exact .inl rfl
    · exact .inr ⟨⟨q, h1, rfl⟩, by rw [kS_same]; simpa using h2⟩
theorem del_ent (M : List Ent) (s : ByteArray) : (DataW.map (entS M)).del (kS s) = .map (entS (M.filter fun p => !decide (p.1 = s))) := by
  show DataW.map ((entS M).filter _) = _
  unfold entS
  rw [List.filter_map]
  congr 3
  funext p
  simp only [Function.comp, kS_same]
theorem ris_filter {M : List Ent} (h : Ris M) (f : Ent → Bool) : Ris (M.filter f) := h.filter _
theorem SM.lt {w : World} {b n : Nat} {M : List Ent} (h : SM w b n M) : b < w.heap.size := h.own.lt
theorem SM.block {w w' : World} {b n : Nat} {M : List Ent} (h : SM w b n M) (e : w'.heap[b]? = w.heap[b]?) : SM w' b n M := by
  obtain ⟨es, clock, hb, r⟩ := h.own
  exact ⟨es, clock, e.trans hb, r⟩
theorem SM.kept {w w' : World} {b n : Nat} {M : List Ent} (h : SM w b n M) (hb : Below w.heap.size w w') : SM w' b n M := h.block (hb.block b h.lt)
theorem SM.bound {w : World} {b n : Nat} {M : List Ent} (h : SM w b n M) : M.length ≤ n := by
  have := h.own.size_le
  rw [Maps.size_eq] at this
  simpa [entS] using this
theorem SM.mono {w : World} {b n n' : Nat} {M : List Ent} (h : SM w b n M) (hn : n ≤ n') : SM w b n' M := ⟨h.own.mono hn⟩
theorem SM.norow {w : World} {b n g : Nat} {M : List Ent} {t : TypeId} {L : List Value} (h : SM w b n M) (hr : Row w g t L) : b ≠ g := by
  rintro rfl
  obtain ⟨es, clock, hb, -⟩ := h.own
  have h2 : w.heap[b]? = _ := hr
  rw [hb] at h2
  simp at h2
/-- keys' strings, as the shelf says them -/
theorem strKeys_ent (M : List Ent) : strKeys (.map (entS M)) = M.map (·.1.data.toList) := by
  show (entS M).map _ = _
  unfold entS
  rw [List.map_map]
  rfl

theorem rv_inj {v v0 : Value} {ps : List MemPlace} (h : RV v = some (.held v0, ps)) : v = v0 := DataW.held.inj (Prod.mk.inj (Option.some.inj h)).1
/-- m[s], s a key -/
theorem look_yes {w : World} {b n : Nat} {M : List Ent} {s : ByteArray} {v : Value} (t e : TypeId) (ht : Tryz.prog.underlying t = some (.map 9 e)) (z : Value) (hz : (zeroValue e).run Tryz.prog w = .ok z w) (h : SM w b n M) (hs : s.size ≤ maxLen) (hm : (s, v) ∈ M) :
    (Instr.lookup t (.map (some b)) (.string s) false).run Tryz.prog w = .ok v w ∧ (Instr.lookup t (.map (some b)) (.string s) true).run Tryz.prog w = .ok (.tuple #[v, .bool true]) w := by
  have hat := at_yes h.ris hm (.held z)
  constructor
  · obtain ⟨v', ps, hr, hv⟩ := h.own.lookup lawS ht hz (show RV z = some (.held z, []) from rfl) (key_of s hs)
    rw [hat] at hv
    rw [← rv_inj hv]; exact hr
  · obtain ⟨v', ps, hr, hv⟩ := h.own.look_ok lawS ht hz (show RV z = some (.held z, []) from rfl) (key_of s hs)
    rw [hat] at hv
    rw [has_yes hm] at hr
    rw [← rv_inj hv]; exact hr
theorem look_no {w : World} {b n : Nat} {M : List Ent} {s : ByteArray} (t e : TypeId) (ht : Tryz.prog.underlying t = some (.map 9 e)) (z : Value) (hz : (zeroValue e).run Tryz.prog w = .ok z w) (h : SM w b n M) (hs : s.size ≤ maxLen) (hm : ∀ p ∈ M, p.1 ≠ s) :
    (Instr.lookup t (.map (some b)) (.string s) false).run Tryz.prog w = .ok z w ∧ (Instr.lookup t (.map (some b)) (.string s) true).run Tryz.prog w = .ok (.tuple #[z, .bool false]) w := by
  have hat := at_no hm (.held z)
  constructor
  · obtain ⟨v', ps, hr, hv⟩ := h.own.lookup lawS ht hz (show RV z = some (.held z, []) from rfl) (key_of s hs)
    rw [hat] at hv
    rw [← rv_inj hv]; exact hr
  · obtain ⟨v', ps, hr, hv⟩ := h.own.look_ok lawS ht hz (show RV z = some (.held z, []) from rfl) (key_of s hs)
    rw [hat] at hv
    rw [has_no hm] at hr
    rw [← rv_inj hv]; exact hr
section
variable {w : World} {ops : Array Oper} {rest : List Oper} {o : Oper} {a : Act} {Q : Exit → Act → World → Prop}
/-- make(map[string]E) -/
theorem SM.made (w : World) : SM (w.alloc (.map #[] 0)) w.heap.size 0 [] := ⟨World.ownsMap_made w _ _ _⟩
/-- m[s] = v -/
theorem map_put (hgd : o.guard = none) (m x y : Operand) (t e : TypeId) (ho : o.op = Op.mapUpdate t m x y) (ht : Tryz.prog.underlying t = some (.map 9 e)) (b n : Nat) (M : List Ent)
    (hm : a.eval m = .map (some b)) (h : SM w b n M) (hn : n ≤ 1000000000) (s : ByteArray) (v : Value) (hx : a.eval x = .string s) (hs : s.size ≤ maxLen) (hy : a.eval y = v)
    (M' : List Ent) (hr : Ris M') (hmem : ∀ p, p ∈ M' ↔ p = (s, v) ∨ (p ∈ M ∧ p.1 ≠ s))
    (hK : ∀ w', SM w' b (n + 1) M' → w.grownBy w' (some b) → w'.heap.size = w.heap.size → wpList Tryz.prog ops Q rest (a.put o.dst undef) w') : wpList Tryz.prog ops Q (o :: rest) a w := by
  refine wpList_plain hgd fun K' hK' => ?_
  obtain ⟨w', hrun, r1, r2⟩ := h.own.store lawS ht (by unfold maxLen; omega) (key_of s hs) (show RV v = some (.held v, []) from rfl)
  unfold Oper.wp
  simp [execOp, ho, hm, hx, hy, hrun, Result.andThen]
  refine hK' _ _ (hK w' ⟨?_⟩ r2.grown ?_)
  · rw [← put_ent (r1.canon lawS) hr hmem]; exact r1
  · obtain ⟨es, cl, es', cl', -, e⟩ := r2
    rw [e]; simp [ChangeMaps.setBlock]
/-- delete(m, s) -/
theorem map_del (hgd : o.guard = none) (m x : Operand) (t e : TypeId) (ho : o.op = Op.call { callee := Callee.builtin Builtin.delete, args := #[m, x], argTypes := #[t, 9] }) (ht : Tryz.prog.underlying t = some (.map 9 e)) (b n : Nat) (M : List Ent)
    (hm : a.eval m = .map (some b)) (h : SM w b n M) (s : ByteArray) (hx : a.eval x = .string s) (hs : s.size ≤ maxLen)
    (hK : ∀ w', SM w' b n (M.filter fun p => !decide (p.1 = s)) → w.grownBy w' (some b) → w'.heap.size = w.heap.size → wpList Tryz.prog ops Q rest (a.put o.dst (.tuple #[])) w') : wpList Tryz.prog ops Q (o :: rest) a w := by
  refine wpList_plain hgd fun K' hK' => ?_
  obtain ⟨w', hrun, r1, r2⟩ := h.own.drop lawS ht (key_of s hs) o.type
  unfold Oper.wp
  simp [execOp, ho, resolve, invoke, builtin, hm, hx, hrun, Result.andThen]
  refine hK' _ _ (hK w' ⟨?_⟩ r2.grown ?_)
  · rw [← del_ent]; exact r1
  · obtain ⟨es, cl, es', cl', -, e⟩ := r2
    rw [e]; simp [ChangeMaps.setBlock]
/-- 'for s, v := range m' under way -/
structure RgS (w : World) (b r : Nat) (M : List Ent) (left : Lit → Bool) (cnt : Nat) : Prop where
  ex : ∃ n, w.ranges Tryz.prog 9 RV b r n (.map (entS M)) left cnt
theorem RgS.sm {b r : Nat} {M : List Ent} {left : Lit → Bool} {cnt : Nat} (h : RgS w b r M left cnt) : SM w b M.length M := by
  obtain ⟨n, h⟩ := h.ex
  have h2 : SM w b n M := ⟨h.owns⟩
  obtain ⟨es, clock, hb, F, hs, hD⟩ := h2.own
  refine ⟨es, clock, hb, F, ?_, hD⟩
  have e : (entS M).length = es.size := by
    injection hD with hD
    rw [hD, length_read]
  rw [← e]; simp [entS]
theorem RgS.lt {b r : Nat} {M : List Ent} {left : Lit → Bool} {cnt : Nat} (h : RgS w b r M left cnt) : r < w.heap.size := by obtain ⟨n, h⟩ := h.ex; exact h.lt
theorem RgS.eq {b r : Nat} {M : List Ent} {left : Lit → Bool} {cnt : Nat} (h : RgS w b r M left cnt) : w.rangeLeft b r = cnt := by obtain ⟨n, h⟩ := h.ex; exact h.left_eq
theorem RgS.kept {w' : World} {b r : Nat} {M : List Ent} {left : Lit → Bool} {cnt : Nat} (h : RgS w b r M left cnt) (hb : Below w.heap.size w w') : RgS w' b r M left cnt := by
  obtain ⟨n, h⟩ := h.ex
  exact ⟨n, h.kept (row := none) ⟨hb.os, hb.tape, hb.output, hb.size, fun i hi _ => hb.block i hi⟩ (by simp) (by simp)⟩
theorem RgS.upd {w' : World} {b r g : Nat} {M : List Ent} {left : Lit → Bool} {cnt : Nat} {t : TypeId} {L : List Value} (h : RgS w b r M left cnt) (hr : Row w g t L) (hu : Upd w w' g) : RgS w' b r M left cnt := by
  have hb := h.sm.norow hr
  have hn : r ≠ g := by
    rintro rfl
    obtain ⟨n, es, clock, since, seen, c0, -, -, -, -, h2, -⟩ := h.ex
    have h3 : w.heap[r]? = _ := hr
    rw [h2] at h3
    cases h3
  obtain ⟨n, h⟩ := h.ex
  exact ⟨n, h.kept (row := some g) ⟨hu.os, hu.tape, hu.output, Nat.le_of_eq hu.size.symm, fun i _ hi => hu.block i (fun e => hi (by rw [e]))⟩ (by simpa using hb) (by simpa using hn)⟩
theorem map_range (hgd : o.guard = none) (m : Operand) (t e : TypeId) (ho : o.op = Op.range t m) (ht : Tryz.prog.underlying t = some (.map 9 e)) (b n : Nat) (M : List Ent)
    (hm : a.eval m = .map (some b)) (h : SM w b n M)
    (hK : ∀ w', RgS w' b w.heap.size M (Maps.has (.map (entS M) : DataW Value)) M.length → Below w.heap.size w w' → w'.heap.size = w.heap.size + 1 → wpList Tryz.prog ops Q rest (a.put o.dst (.pointer (some ⟨w.heap.size, 0, none⟩))) w') : wpList Tryz.prog ops Q (o :: rest) a w := by
  refine wpList_range_own w hgd m t ho 9 e lawS ht RV b n _ hm h.own fun w' h1 h2 h3 => hK w' ⟨n, ?_⟩ ⟨h2.os, h2.tape, h2.output, h2.size, fun i hi => h2.block i hi (by simp)⟩ h3
  have : Maps.size (.map (entS M) : DataW Value) = M.length := by rw [Maps.size_eq]; simp [entS]
  rw [this] at h1; exact h1
theorem map_next (hgd : o.guard = none) (it : Operand) (ho : o.op = Op.next it false) (b r : Nat) (M : List Ent) (left : Lit → Bool) (cnt : Nat) (hit : a.eval it = .pointer (some ⟨r, 0, none⟩)) (h : RgS w b r M left cnt)
    (hDone : (∀ s, left (kS s) = false) → wpList Tryz.prog ops Q rest (a.put o.dst (.tuple #[.bool false])) w)
    (hMore : ∀ (s : ByteArray) (v : Value) (w' : World) (cnt' : Nat), (s, v) ∈ M → s.size ≤ maxLen → left (kS s) = true → RgS w' b r M (fun z => left z && !z.sameKey (kS s)) cnt' → cnt' < cnt → w.grownBy w' (some r) → w'.heap.size = w.heap.size →
      (Instr.entry (.pointer (some ⟨r, 0, none⟩))).run Tryz.prog w' = .ok (.tuple #[.string s, v]) w' → wpList Tryz.prog ops Q rest (a.put o.dst (.tuple #[.bool true, .string s, v])) w') : wpList Tryz.prog ops Q (o :: rest) a w := by
  obtain ⟨n, h⟩ := h.ex
  have hris : Ris M := (SM.ris (w := w) (b := b) (n := n) ⟨h.owns⟩)
  refine wpList_next_ranges w hgd it ho 9 lawS RV Value.string (fun v => v) ?_ (fun v y _ => ⟨v, rfl⟩) b r n _ left cnt hit h (fun _ h0 => hDone fun s => h0 _) ?_
  · intro key kl hk
    obtain ⟨s, e, -, -⟩ := Maps.keyOf_str Tryz.underlying9 hk
    exact ⟨⟨s.toArray⟩, e⟩
  · intro s v kl y w' cnt' hk hl hv hat hr hlt hg hsz hen
    obtain ⟨s0, e1, e2, e3⟩ := Maps.keyOf_str Tryz.underlying9 hk
    have e4 : s.data.toList = s0 := by
      have this : s = ⟨s0.toArray⟩ := Value.string.inj e1
      exact (congrArg (fun z : ByteArray => z.data.toList) this).trans (by simp)
    obtain rfl : kl = kS s := by rw [e2]; unfold kS; rw [e4]
    have hs : s.size ≤ maxLen := by have h5 : s.data.size = s0.length := by rw [← e4]; simp
                                    have h6 : s.size = s.data.size := rfl
                                    rw [h6, h5]; exact e3
    obtain rfl : y = (.held v, []) := by unfold RV at hv; exact (Option.some.inj hv).symm
    have hmem : (s, v) ∈ M := by
      have h1 := Maps.has_true_of_atKey hat
      rw [has_ent, List.any_eq_true] at h1
      obtain ⟨p, hp, h2⟩ := h1
      obtain ⟨q1, q2⟩ := p
      have h3 : q1 = s := by simpa using h2
      subst h3
      have h4 := (at_yes hris hp .nil).symm.trans (hat .nil)
      injection h4 with h4
      rw [← h4]; exact hp
    exact hMore s v w' cnt' hmem hs hl ⟨n, hr⟩ hlt hg hsz hen
theorem RgS.stay {w' : World} {b r : Nat} {M : List Ent} {left : Lit → Bool} {cnt : Nat} (h : RgS w b r M left cnt) (hb : w'.heap[b]? = w.heap[b]?) (hr : w'.heap[r]? = w.heap[r]?) : RgS w' b r M left cnt := by
  obtain ⟨n, es, clock, since, seen, c0, h1, h2, h3, h4, h5, h6⟩ := h.ex
  exact ⟨n, es, clock, since, seen, c0, hb.trans h1, h2, h3, h4, hr.trans h5, h6⟩
theorem RgS.ne {b r : Nat} {M : List Ent} {left : Lit → Bool} {cnt : Nat} (h : RgS w b r M left cnt) : r ≠ b := by obtain ⟨n, h⟩ := h.ex; exact h.ne
theorem map_del_r (hgd : o.guard = none) (m x : Operand) (t e : TypeId) (ho : o.op = Op.call { callee := Callee.builtin Builtin.delete, args := #[m, x], argTypes := #[t, 9] }) (ht : Tryz.prog.underlying t = some (.map 9 e)) (b r : Nat) (M : List Ent)
    (left : Lit → Bool) (cnt : Nat) (hm : a.eval m = .map (some b)) (h : RgS w b r M left cnt) (s : ByteArray) (hx : a.eval x = .string s) (hs : s.size ≤ maxLen)
    (hK : ∀ w' cnt', RgS w' b r (M.filter fun p => !decide (p.1 = s)) (fun z => left z && !z.sameKey (kS s)) cnt' → cnt' ≤ cnt → w.grownBy w' (some b) → w'.heap.size = w.heap.size → wpList Tryz.prog ops Q rest (a.put o.dst (.tuple #[])) w') : wpList Tryz.prog ops Q (o :: rest) a w := by
  obtain ⟨n, h⟩ := h.ex
  refine wpList_delete_ranges w hgd m x t 9 ho e lawS ht RV b r n _ left cnt hm h (.string s) (kS s) hx (key_of s hs) fun w' cnt' h1 h2 h3 => hK w' cnt' ⟨n, ?_⟩ h2 h3.grown ?_
  · rw [← del_ent]; exact h1
  · obtain ⟨es, cl, es', cl', -, e⟩ := h3
    rw [e]; simp [ChangeMaps.setBlock]
end
end Go.Proofs.YtkfhppbmnjmnoaaGreatDoor.W
