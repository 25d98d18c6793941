/- LAYER 25 (board): what Apply makes of a board, plain; a result; what lies in memory while Apply runs. -/
import Derived.Test.YtkmdbdieloimiaaBdI
import Derived.Test.YtkmdbdieloimiaaBdD
import Derived.Test.YtkmdbdieloimiaaSt
import Derived.Test.YtkmdbdieloimiaaHtc
set_option linter.unusedSimpArgs false
set_option linter.unusedVariables false
namespace Go.Proofs.Ytkmdbdieloimiaa.W
open Go Go.ChangeShapes Go.WideShapes Go.ChangeAt Go.RowKit
open Go.Proofs.Ytkmdbdieloimiaa.S

@[reducible] def resC (kd cd nu b ti : Int) : List Value := [.int .i64 kd, .int .i64 cd, .int .i64 nu, .int .i64 b, .int .i64 ti, .slice none 0 0, .slice none 0 0, .slice none 0 0, .slice none 0 0, .int .i64 0, .int .i64 0, .int .i64 0, .slice none 0 0, .string ⟨#[]⟩]
theorem res_size : (Try.prog.info? 39).map (·.size) = some 14 := by kernel_rfl
theorem res_zero : (Try.prog.info? 39).map (·.zero) = some (some (.agg (resC 0 0 0 0 0).toArray)) := by kernel_rfl
theorem res_one (kd cd nu b ti : Int) : ∀ v ∈ resC kd cd nu b ti, v.oneCell' = true := by
  intro v hv
  simp only [resC, List.mem_cons, List.not_mem_nil, or_false] at hv
  rcases hv with rfl | rfl | rfl | rfl | rfl | rfl | rfl | rfl | rfl | rfl | rfl | rfl | rfl | rfl <;> rfl
theorem built_res1 (e : Int) : Try.prog.built 39 [(1, .int .i64 e)] = some (resC 0 e 0 0 0).toArray := by kernel_rfl
theorem built_res2 (n b : Int) : Try.prog.built 39 [(2, .int .i64 n), (3, .int .i64 b)] = some (resC 0 0 n b 0).toArray := by kernel_rfl
theorem built_sh (x y : Int) : Try.prog.built 58 [(0, .int .i64 x), (1, .int .i64 y)] = some (Sh.cells ⟨x, y⟩).toArray := by kernel_rfl
theorem results_two {P : Program} {fn : Func} {p q : Tmp} {ty tz : TypeId} (h : fn.results = #[.cell p ty, .cell q tz]) (tmps : Array Value) (w : World) (g : Nat) (t : TypeId) (cs : Array Value) (fr : Nat × Nat) (d : TypeDesc) (g' : Nat) (t' : TypeId) (cs' : Array Value) (fr' : Nat × Nat) (d' : TypeDesc)
    (hp : tmps.getD p undef = .pointer (some ⟨g, 0, none⟩)) (hg : w.heap[g]? = some (.cells cs t fr))
    (hu : P.underlying ty = some d) (hd : (match d with | .struct _ | .array _ _ => true | _ => false) = true) (hi : (P.info? ty).map (·.size) = some cs.size)
    (hp' : tmps.getD q undef = .pointer (some ⟨g', 0, none⟩)) (hg' : w.heap[g']? = some (.cells cs' t' fr'))
    (hu' : P.underlying tz = some d') (hd' : (match d' with | .struct _ | .array _ _ => true | _ => false) = true) (hi' : (P.info? tz).map (·.size) = some cs'.size) :
    (results fn tmps).run P w = .ok (.tuple #[.agg cs, .agg cs']) w := by
  have e1 : tmps[p]?.getD undef = .pointer (some ⟨g, 0, none⟩) := by simpa using hp
  have e2 : tmps[q]?.getD undef = .pointer (some ⟨g', 0, none⟩) := by simpa using hp'
  simp [results, h, e1, e2, asAddr, run_loadVar_row w g t ty cs fr d hg hu hd hi, run_loadVar_row w g' t' tz cs' fr' d' hg' hu' hd' hi']
-- ---- plain
def others (b : Bd) (nu : Int) : List Sh := b.L.filter (fun s => !(ofS nu s))
def Bd.app (b : Bd) (m : Cm) : Bd × Int × Int × Int :=
  if gives m = false then (b, 1, 0, 0)
  else if ¬ (((others b m.nu).map Sh.by' ++ [m.by']).sum ≤ b.cap) then (b, 14, 0, 0)
  else if 0 < m.by' then (⟨b.cap, insP (abS m.nu) ⟨m.nu, m.by'⟩ (others b m.nu)⟩, 0, totV (insP (abS m.nu) ⟨m.nu, m.by'⟩ (others b m.nu)), m.by')
  else (⟨b.cap, others b m.nu⟩, 0, totV (others b m.nu), m.by')
theorem bd_four {b : Bd} (h : b.ok = true) : b.L.length ≤ 4 := by
  unfold Bd.ok at h
  simp only [Bool.and_eq_true] at h
  exact rise_four h.2.1 h.2.2.1
theorem oth_t40 {b : Bd} (h : b.ok = true) (nu : Int) : (others b nu).all shOkV = true ∧ (others b nu).length ≤ 4 := by
  refine ⟨?_, Nat.le_trans (List.length_filter_le _ _) (bd_four h)⟩
  unfold Bd.ok at h
  simp only [Bool.and_eq_true] at h
  rw [List.all_eq_true] at h ⊢
  exact fun x hx => h.2.2.1 x (List.mem_filter.1 hx).1
-- ---- what lies in memory
structure ApA (w : World) (b0 g2 g3 g4 g5 g6 : Nat) (C2 C3 C4 C5 C6 : List Value) (v : Value) (L : List Sh) : Prop where
  r2 : Row w g2 25 C2
  r3 : Row w g3 31 C3
  r4 : Row w g4 25 C4
  r5 : Row w g5 39 C5
  r6 : Row w g6 25 C6
  o : LsO shE w b0 v L
  d : g2 < g3 ∧ g3 < g4 ∧ g4 < g5 ∧ g5 < b0 ∧ b0 ≤ g6
  n6 : v.ownBlock ≠ some g6
theorem ApA.below {w w' : World} {b0 g2 g3 g4 g5 g6 : Nat} {C2 C3 C4 C5 C6 : List Value} {v : Value} {L : List Sh} (h : ApA w b0 g2 g3 g4 g5 g6 C2 C3 C4 C5 C6 v L) (hb : Below w.heap.size w w') : ApA w' b0 g2 g3 g4 g5 g6 C2 C3 C4 C5 C6 v L :=
  ⟨h.r2.below hb h.r2.lt, h.r3.below hb h.r3.lt, h.r4.below hb h.r4.lt, h.r5.below hb h.r5.lt, h.r6.below hb h.r6.lt, h.o.kept hb, h.d, h.n6⟩
theorem ApA.own {w : World} {b0 g2 g3 g4 g5 g6 : Nat} {C2 C3 C4 C5 C6 : List Value} {v : Value} {L : List Sh} (h : ApA w b0 g2 g3 g4 g5 g6 C2 C3 C4 C5 C6 v L) : v.ownBlock ≠ some g4 ∧ v.ownBlock ≠ some g5 := by
  have hd := h.d
  exact ⟨fun e => absurd (World.ownsRow.lt h.o _ e).1 (by omega), fun e => absurd (World.ownsRow.lt h.o _ e).1 (by omega)⟩
theorem ApA.up4 {w w' : World} {b0 g2 g3 g4 g5 g6 : Nat} {C2 C3 C4 C5 C6 C : List Value} {v : Value} {L : List Sh} (h : ApA w b0 g2 g3 g4 g5 g6 C2 C3 C4 C5 C6 v L) (hu : Upd w w' g4) (hr : Row w' g4 25 C) : ApA w' b0 g2 g3 g4 g5 g6 C2 C3 C C5 C6 v L := by
  have hd := h.d
  exact ⟨h.r2.upd hu (by omega), h.r3.upd hu (by omega), hr, h.r5.upd hu (by omega), h.r6.upd hu (by omega), h.o.upd hu h.own.1, h.d, h.n6⟩
theorem ApA.up5 {w w' : World} {b0 g2 g3 g4 g5 g6 : Nat} {C2 C3 C4 C5 C6 C : List Value} {v : Value} {L : List Sh} (h : ApA w b0 g2 g3 g4 g5 g6 C2 C3 C4 C5 C6 v L) (hu : Upd w w' g5) (hr : Row w' g5 39 C) : ApA w' b0 g2 g3 g4 g5 g6 C2 C3 C4 C C6 v L := by
  have hd := h.d
  exact ⟨h.r2.upd hu (by omega), h.r3.upd hu (by omega), h.r4.upd hu (by omega), hr, h.r6.upd hu (by omega), h.o.upd hu h.own.2, h.d, h.n6⟩
theorem ApA.up6 {w w' : World} {b0 g2 g3 g4 g5 g6 : Nat} {C2 C3 C4 C5 C6 C : List Value} {v : Value} {L : List Sh} (h : ApA w b0 g2 g3 g4 g5 g6 C2 C3 C4 C5 C6 v L) (hu : Upd w w' g6) (hr : Row w' g6 25 C) : ApA w' b0 g2 g3 g4 g5 g6 C2 C3 C4 C5 C v L := by
  have hd := h.d
  exact ⟨h.r2.upd hu (by omega), h.r3.upd hu (by omega), h.r4.upd hu (by omega), h.r5.upd hu (by omega), hr, h.o.upd hu h.n6, h.d, h.n6⟩
/-- another own list in place of the one -/
theorem ApA.neu {w : World} {b0 g2 g3 g4 g5 g6 : Nat} {C2 C3 C4 C5 C6 : List Value} {v v' : Value} {L L' : List Sh} (h : ApA w b0 g2 g3 g4 g5 g6 C2 C3 C4 C5 C6 v L) (ho : LsO shE w b0 v' L') (hn : v'.ownBlock ≠ some g6) : ApA w b0 g2 g3 g4 g5 g6 C2 C3 C4 C5 C6 v' L' :=
  ⟨h.r2, h.r3, h.r4, h.r5, h.r6, ho, h.d, hn⟩
theorem fin_bd {w : World} {b0 : Nat} {a : Option Addr} {n c : Nat} {L : List Sh} (h : LsO shE w b0 (.slice a n c) L) (hl : L.length = n) (hf : ∀ x ∈ L, x.fit) : Ls shE w a n c L := by
  obtain ⟨a', c', e, hls, -⟩ := h.ls shOk hf
  injection e with e1 e2 e3
  subst e1 e3
  rw [← e2] at hls
  exact hls
theorem fin_nw {w : World} {b0 base : Nat} {a : Option Addr} {n c : Nat} {L : List Sh} (h : LsO shE w b0 (.slice a n c) L) (hb : base ≤ b0) : ∀ b off, a = some ⟨b, off, none⟩ → base ≤ b := by
  intro b off e
  subst e
  exact Nat.le_trans hb (World.ownsRow.lt h b rfl).1
/-- a board as a value whose list is new from base on -/
def BdF (w : World) (base : Nat) (v : Value) (b : Bd) : Prop := ∃ a n c, v = .agg (bdC b.cap a n c).toArray ∧ SI64 b.cap ∧ Ls shE w a n c b.L ∧ ∀ x off, a = some ⟨x, off, none⟩ → base ≤ x
theorem BdF.v {w : World} {base : Nat} {v : Value} {b : Bd} (h : BdF w base v b) : BdV w v b := by
  obtain ⟨a, n, c, h1, h2, h3, -⟩ := h
  exact ⟨a, n, c, h1, h2, h3⟩
theorem newer {E : El Sh} {w : World} {base g : Nat} {v : Value} {L : List Sh} (h : LsO E w base v L) (hg : g < base) : v.ownBlock ≠ some g := fun e => absurd (World.ownsRow.lt h _ e).1 (by omega)
end Go.Proofs.Ytkmdbdieloimiaa.W
