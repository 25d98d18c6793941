/- LAYER 19 (ledger): what the program's calls promise; a call on both. -/
import Derived.Test.YtiopcojkdglapaaLdZ
import Derived.Test.YtiopcojkdglapaaLdS
import Derived.Test.YtiopcojkdglapaaLdE
set_option linter.unusedSimpArgs false
set_option linter.unusedVariables false
namespace Go.Proofs.Ytiopcojkdglapaa.W
open Go Go.ChangeShapes Go.WideShapes Go.ChangeAt Go.RowKit
open Go.Proofs.Ytiopcojkdglapaa.P (enc dec)

abbrev LdReserveP (f : FuncId) : Prop := ∀ (v : Value) (l : Ld) (x : Hd) (w : World), LdV w v l → OkL l → x.fit → Calls Try.prog f #[v, .agg x.cells.toArray] w fun e w' => ∃ v', e = .returned (.tuple #[v', .int .i64 (l.reserve x).2.1, .int .i64 (l.reserve x).2.2]) ∧ LdV w' v' (l.reserve x).1 ∧ Below w.heap.size w w'
abbrev LdReleaseP (f : FuncId) : Prop := ∀ (v : Value) (l : Ld) (i : Int) (w : World), LdV w v l → OkL l → Calls Try.prog f #[v, .int .i64 i] w fun e w' => ∃ v', e = .returned (.tuple #[v', .int .i64 (l.release i).2]) ∧ LdV w' v' (l.release i).1 ∧ Below w.heap.size w w'
abbrev LdSpendP (f : FuncId) : Prop := ∀ (v : Value) (l : Ld) (i b : Int) (w : World), LdV w v l → OkL l → Calls Try.prog f #[v, .int .i64 i, .int .i64 b] w fun e w' => ∃ v', e = .returned (.tuple #[v', .int .i64 (l.spend i b).2]) ∧ LdV w' v' (l.spend i b).1 ∧ Below w.heap.size w w'
abbrev LdFreeP (f : FuncId) : Prop := ∀ (v : Value) (l : Ld) (b : Int) (w : World), LdV w v l → OkL l → Calls Try.prog f #[v, .int .i64 b] w fun e w' => ∃ v', e = .returned (.tuple #[v', .int .i64 (l.free b).2]) ∧ LdV w' v' (l.free b).1 ∧ Below w.heap.size w w'
abbrev LdQuotaP (f : FuncId) : Prop := ∀ (v : Value) (l : Ld) (b : Int) (w : World), LdV w v l → OkL l → Calls Try.prog f #[v, .int .i64 b] w fun e w' => ∃ v', e = .returned (.tuple #[v', .int .i64 (l.quota b).2]) ∧ LdV w' v' (l.quota b).1 ∧ Below w.heap.size w w'
abbrev LdExpireP (f : FuncId) : Prop := ∀ (v : Value) (l : Ld) (b : Int) (w : World), LdV w v l → OkL l → Calls Try.prog f #[v, .int .i64 b] w fun e w' => ∃ v', e = .returned (.tuple #[v', .int .i64 (l.expire b).2]) ∧ LdV w' v' (l.expire b).1 ∧ Below w.heap.size w w'
abbrev LdCheckP (f : FuncId) : Prop := ∀ (v : Value) (l : Ld) (w : World), LdI w v l → Calls Try.prog f #[v] w fun e w' => e = .returned (.bool l.ok) ∧ Below w.heap.size w w'
abbrev LdFindP (f : FuncId) : Prop := ∀ (v : Value) (l : Ld) (i : Int) (w : World), LdV w v l → Calls Try.prog f #[v, .int .i64 i] w fun e w' => e = .returned (.tuple #[.agg (findH l.L i).1.cells.toArray, .bool (findH l.L i).2]) ∧ Below w.heap.size w w'
structure LdP : Prop where
  reserve : LdReserveP 49
  release : LdReleaseP 51
  spend : LdSpendP 98
  free : LdFreeP 100
  quota : LdQuotaP 102
  expire : LdExpireP 104
/-- a call, plain -/
def Do19.on (d : Do19) (l : Ld) : Ld :=
  if d.op = 0 ∨ d.op = 1 ∨ d.op = 2 then (l.reserve d.h).1 else if d.op = 3 then (l.release d.id).1 else if d.op = 4 then (l.spend d.id d.n).1 else if d.op = 5 then (l.free d.n).1 else if d.op = 6 then (l.quota d.n).1 else (l.expire d.n).1
theorem on_ok {l : Ld} (h : OkL l) (d : Do19) : OkL (d.on l) := by
  unfold Do19.on
  split
  · exact reserve_ok h _
  · split
    · exact release_ok h _
    · split
      · exact spend_ok h _ _
      · split
        · exact free_ok h _
        · split
          · exact quota_ok h _
          · exact expire_ok h _
theorem results_cc_tmp {P : Program} {fn : Func} {p q a : Tmp} {ty : TypeId} (h : fn.results = #[.cell p ty, .cell q ty, .tmp a]) (tmps : Array Value) (w : World) (g g' : Nat) (t t' : TypeId) (cs cs' : Array Value) (fr fr' : Nat × Nat) (d : TypeDesc)
    (hp : tmps.getD p undef = .pointer (some ⟨g, 0, none⟩)) (hq : tmps.getD q undef = .pointer (some ⟨g', 0, none⟩)) (hg : w.heap[g]? = some (.cells cs t fr)) (hg' : w.heap[g']? = some (.cells cs' t' fr'))
    (hu : P.underlying ty = some d) (hd : (match d with | .struct _ | .array _ _ => true | _ => false) = true) (hi : (P.info? ty).map (·.size) = some cs.size) (hi' : (P.info? ty).map (·.size) = some cs'.size) :
    (results fn tmps).run P w = .ok (.tuple #[.agg cs, .agg cs', tmps.getD a undef]) w := by
  have hp' : tmps[p]?.getD undef = .pointer (some ⟨g, 0, none⟩) := by simpa using hp
  have hq' : tmps[q]?.getD undef = .pointer (some ⟨g', 0, none⟩) := by simpa using hq
  simp [results, h, hp', hq', asAddr, run_loadVar_row w g t ty cs fr d hg hu hd hi, run_loadVar_row w g' t' ty cs' fr' d hg' hu hd hi']
theorem few19 (v : Value) (l : Ld) (w : World) (h : LdV w v l) : Calls Try.prog 40 #[v] w fun e w' => e = .returned (.bool (decide (l.L.length ≤ 30))) ∧ Below w.heap.size w w' := by
  obtain ⟨a, n, c, rfl, h⟩ := h
  have hl := h.hlen
  obtain ⟨q, u, h', nx, L⟩ := l
  dsimp only at h hl ⊢
  subst hl
  clear h
  by_cases hn : (L.length : Int) ≤ 30
  all_goals
    go_enter Try.func40, Try.ntmps40
    go_wp2_with (first
      | ((with_reducible refine box_row (o := ⟨some 1, _, _, _, _, _⟩) rfl _ _ rfl (ldC q u h' nx a L.length c) rfl ?_); intro w1 hr hb hz; have B1 := Lib.hid hb; obtain ⟨c0, c1, c2, c3, c4⟩ := hr.l5; clear hr hb hz))
    go_ret
    exact ⟨one (vbool (by simp; omega)), B1.out⟩
end Go.Proofs.Ytiopcojkdglapaa.W
