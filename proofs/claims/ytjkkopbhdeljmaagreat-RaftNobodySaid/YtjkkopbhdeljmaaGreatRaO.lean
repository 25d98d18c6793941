/- LAYER 17 (raft): a node, plain and in memory; what it tells, in memory (how much of it, not what). LAYER 17 (raft): ready, recordHard. LAYER 17 (raft): keep, add, others. LAYER 17 (raft): others; of a node alone: call, lead, stand, ask. LAYER 17 (raft): of a node alone: stand, ask. -/
import Derived.Test.YtjkkopbhdeljmaaGreatRlK
import Derived.Test.YtjkkopbhdeljmaaGreatLs
import Derived.Test.YtjkkopbhdeljmaaGreatSt
import Derived.Test.YtjkkopbhdeljmaaGreatPeK
import Derived.Test.YtjkkopbhdeljmaaGreatBaO
set_option linter.unusedSimpArgs false
set_option linter.unusedVariables false
namespace Go.Proofs.YtjkkopbhdeljmaaGreat.W
open Go Go.ChangeShapes Go.WideShapes Go.ChangeAt Go.RowKit

/-- a node, plain -/
structure RS where
  term : Int
  vote : Int
  nx : List Int
  mt : List Int
  hd : List Int
  round : Int
  me : Int
  role : Int
  leader : Int
  commit : Int
  waited : Int
  votes : Int
  ticket : Int
  q : LS
/-- its cells: no read waits -/
structure RC (C : List Value) (s : RS) (p : Nat) (sv : Value) : Prop where
  len : C.length = 34
  c0 : C[0]? = some (.int .i64 s.term)
  c1 : C[1]? = some (.int .i64 s.vote)
  cn : ∀ i, i < 7 → C[2 + i]? = some (.int .i64 (s.nx.getD i 0))
  cm : ∀ i, i < 7 → C[9 + i]? = some (.int .i64 (s.mt.getD i 0))
  ch : ∀ i, i < 7 → C[16 + i]? = some (.int .i64 (s.hd.getD i 0))
  c23 : C[23]? = some (.int .i64 s.round)
  c24 : C[24]? = some (.slice none 0 0)
  c25 : C[25]? = some (.int .i64 s.me)
  c26 : C[26]? = some (.pointer (some ⟨p, 0, none⟩))
  c27 : C[27]? = some sv
  c28 : C[28]? = some (.int .i64 s.role)
  c29 : C[29]? = some (.int .i64 s.leader)
  c30 : C[30]? = some (.int .i64 s.commit)
  c31 : C[31]? = some (.int .i64 s.waited)
  c32 : C[32]? = some (.int .i64 s.votes)
  c33 : C[33]? = some (.int .i64 s.ticket)
/-- a node in memory: its own row g, its log at p in the blocks of F, its snapshot elsewhere -/
structure RW (w : World) (g p : Nat) (F O : Nat → Prop) (s : RS) : Prop where
  ex : ∃ C sa sn sc d, Row w g 59 C ∧ RC C s p (.slice sa sn sc) ∧ Rd w sa sn sc d ∧ (sn ≠ 0 → ∀ b off, sa = some ⟨b, off, none⟩ → ¬ F b ∧ ¬ O b ∧ b ≠ g)
  log : GL s.q w p F
  gF : ¬ F g
  l7 : s.nx.length = 7 ∧ s.mt.length = 7 ∧ s.hd.length = 7
-- ---- what it tells
abbrev Raw (n : Nat) := { cs : List Value // cs.length = n ∧ ∀ v ∈ cs, v.oneCell' = true }
theorem ms_infoR : (Tryz.prog.info? 35).map (·.size) = some 13 := by kernel_rfl
@[reducible] def msR : El (Raw 13) := ⟨39, 35, 13, 144, .agg #[.int .i64 0, .int .i64 0, .int .i64 0, .int .i64 0, .int .i64 0, .int .i64 0, .int .i64 0, .int .i64 0, .int .i64 0, .bool false, .slice none 0 0, .slice none 0 0, .string ⟨#[]⟩], fun x => x.1, fun _ _ => True⟩
@[reducible] def rcR : El (Raw 10) := ⟨40, 134, 10, 112, .agg #[.int .i64 0, .int .i64 0, .int .i64 0, .int .i64 0, .int .i64 0, .int .i64 0, .slice none 0 0, .int .i64 0, .int .i64 0, .slice none 0 0], fun x => x.1, fun _ _ => True⟩
theorem msRok : msR.Ok Tryz.prog where
  und := Tryz.underlying39
  info := by kernel_rfl
  zs := rfl
  pos := by decide
  len := fun x => x.2.1
  one := fun x => x.2.2
  mono := fun _ _ _ h _ => h
  small := by decide
theorem rcRok : rcR.Ok Tryz.prog where
  und := Tryz.underlying40
  info := by kernel_rfl
  zs := rfl
  pos := by decide
  len := fun x => x.2.1
  one := fun x => x.2.2
  mono := fun _ _ _ h _ => h
  small := by decide
/-- what it tells, in memory, in the blocks of O: at most n of each -/
structure OW (w : World) (o : Nat) (O : Nat → Prop) (n : Nat) : Prop where
  ex : ∃ vm vr ld Lm Lr, Row w o 42 [vm, vr, .bool ld] ∧ LsO msR w 0 vm Lm ∧ LsO rcR w 0 vr Lr ∧ Lm.length ≤ n ∧ Lr.length ≤ n ∧ (∀ b, vm.ownBlock = some b → O b ∧ b ≠ o) ∧ (∀ b, vr.ownBlock = some b → O b ∧ b ≠ o) ∧ (∀ b, vm.ownBlock = some b → vr.ownBlock ≠ some b)
  oo : O o
  lt : ∀ k, O k → k < w.heap.size
structure RO (w : World) (g p o : Nat) (F O : Nat → Prop) (s : RS) (n : Nat) : Prop where
  rw : RW w g p F O s
  ow : OW w o O n
  d1 : ∀ k, O k → ¬ F k
  d2 : ¬ O g
/-- a step: of the old blocks its own alone were written -/
structure Sp17 (w w' : World) (g : Nat) (F O F' O' : Nat → Prop) : Prop where
  ft : Ft (fun k => k = g ∨ F k ∨ O k) w w'
  gf : Grew w F F'
  go : Grew w O O'
theorem Sp17.refl (w : World) (g : Nat) (F O : Nat → Prop) : Sp17 w w g F O F O := ⟨Ft.refl _ _, Grew.refl _ _, Grew.refl _ _⟩
theorem Sp17.trans {w w' w'' : World} {g : Nat} {F O F' O' F'' O'' : Nat → Prop} (h : Sp17 w w' g F O F' O') (k : Sp17 w' w'' g F' O' F'' O'') : Sp17 w w'' g F O F'' O'' :=
  ⟨h.ft.on k.ft (fun b hb => by
    rcases hb with rfl | hb | hb
    · exact .inl (.inl rfl)
    · rcases h.gf b hb with h1 | h1
      · exact .inl (.inr (.inl h1))
      · exact .inr h1
    · rcases h.go b hb with h1 | h1
      · exact .inl (.inr (.inr h1))
      · exact .inr h1), h.gf.trans k.gf h.ft.size, h.go.trans k.go h.ft.size⟩
theorem Sp17.of_below {w w' : World} {g : Nat} {F O : Nat → Prop} (h : Below w.heap.size w w') : Sp17 w w' g F O F O := ⟨Ft.of_below h, Grew.refl _ _, Grew.refl _ _⟩
theorem Rd.blk {w : World} {a : Option Addr} {n c : Nat} {l : List UInt8} (h : Rd w a n c l) (hn : n ≠ 0) : ∀ b off, a = some ⟨b, off, none⟩ → b < w.heap.size := by
  intro b off e
  rcases h.hcells with h0 | ⟨b', off', e', hlt, -⟩
  · exact absurd h0 hn
  · rw [e] at e'; injection e' with e'; injection e' with e1; omega
theorem RW.lt {w : World} {g p : Nat} {F O : Nat → Prop} {s : RS} (h : RW w g p F O s) : g < w.heap.size := by
  obtain ⟨C, sa, sn, sc, d, hr, -⟩ := h.ex
  exact hr.lt
theorem RW.mono {w w' : World} {g p : Nat} {F O : Nat → Prop} {s : RS} (h : RW w g p F O s) (hb : Below w.heap.size w w') : RW w' g p F O s := by
  obtain ⟨C, sa, sn, sc, d, hr, hc, hd, ha⟩ := h.ex
  exact ⟨⟨C, sa, sn, sc, d, hr.below hb hr.lt, hc, hd.mono hb, ha⟩, h.log.mono hb, h.gF, h.l7⟩
theorem LsO.ft17 {α : Type} {E : El α} {G : Nat → Prop} {w w' : World} {base : Nat} {v : Value} {L : List α} (h : LsO E w base v L) (k : Ft G w w') (hn : ∀ b, v.ownBlock = some b → ¬ G b) : LsO E w' base v L := by
  obtain ⟨h1, h2⟩ := h
  refine ⟨h1, ?_⟩
  rcases h2 with h2 | ⟨b, cap, cur, rfl, hb, hh, r⟩
  · exact .inl h2
  · exact .inr ⟨b, cap, cur, rfl, hb, by rw [k.block b (Array.getElem?_eq_some_iff.1 hh).1 (hn b rfl)]; exact hh, r⟩
theorem OW.ft {G : Nat → Prop} {w w' : World} {o : Nat} {O : Nat → Prop} {n : Nat} (h : OW w o O n) (k : Ft G w w') (hd : ∀ b, O b → ¬ G b) : OW w' o O n := by
  obtain ⟨vm, vr, ld, Lm, Lr, hr, hm, hc, h1, h2, h3, h4, h5⟩ := h.ex
  exact ⟨⟨vm, vr, ld, Lm, Lr, hr.ft k (hd o h.oo), hm.ft17 k (fun b e => hd b (h3 b e).1), hc.ft17 k (fun b e => hd b (h4 b e).1), h1, h2, h3, h4, h5⟩, h.oo, fun b hb => Nat.lt_of_lt_of_le (h.lt b hb) k.size⟩
theorem OW.mono {w w' : World} {o : Nat} {O : Nat → Prop} {n : Nat} (h : OW w o O n) (hb : Below w.heap.size w w') : OW w' o O n := h.ft (Ft.of_below (F := fun _ => False) hb) (fun _ _ h => h)
theorem OW.le {w : World} {o : Nat} {O : Nat → Prop} {n m : Nat} (h : OW w o O n) (hm : n ≤ m) : OW w o O m := by
  obtain ⟨vm, vr, ld, Lm, Lr, hr, hm', hc, h1, h2, h3⟩ := h.ex
  exact ⟨⟨vm, vr, ld, Lm, Lr, hr, hm', hc, Nat.le_trans h1 hm, Nat.le_trans h2 hm, h3⟩, h.oo, h.lt⟩
theorem RO.mono {w w' : World} {g p o : Nat} {F O : Nat → Prop} {s : RS} {n : Nat} (h : RO w g p o F O s n) (hb : Below w.heap.size w w') : RO w' g p o F O s n := ⟨h.rw.mono hb, h.ow.mono hb, h.d1, h.d2⟩
theorem RO.le {w : World} {g p o : Nat} {F O : Nat → Prop} {s : RS} {n m : Nat} (h : RO w g p o F O s n) (hm : n ≤ m) : RO w g p o F O s m := ⟨h.rw, h.ow.le hm, h.d1, h.d2⟩
/-- what a call of the log leaves -/
theorem RW.logop {w w' : World} {g p : Nat} {F F' O : Nat → Prop} {s : RS} {q' : LS} (h : RW w g p F O s) (hl : GL q' w' p F') (hf : Ft F w w') (hg : Grew w F F') : RW w' g p F' O { s with q := q' } := by
  obtain ⟨C, sa, sn, sc, d, hr, hc, hd, ha⟩ := h.ex
  refine ⟨⟨C, sa, sn, sc, d, hr.ft hf h.gF, ⟨hc.len, hc.c0, hc.c1, hc.cn, hc.cm, hc.ch, hc.c23, hc.c24, hc.c25, hc.c26, hc.c27, hc.c28, hc.c29, hc.c30, hc.c31, hc.c32, hc.c33⟩, hd.ft hf (fun hn b off e => (ha hn b off e).1), fun hn b off e => ⟨fun hb => ?_, (ha hn b off e).2⟩⟩, hl, fun hb => ?_, h.l7⟩
  · rcases hg b hb with h1 | h1
    · exact (ha hn b off e).1 h1
    · have := hd.blk hn b off e; omega
  · rcases hg g hb with h1 | h1
    · exact h.gF h1
    · have := hr.lt; omega
theorem RO.logop {w w' : World} {g p o : Nat} {F F' O : Nat → Prop} {s : RS} {n : Nat} {q' : LS} (h : RO w g p o F O s n) (hl : GL q' w' p F') (hf : Ft F w w') (hg : Grew w F F') : RO w' g p o F' O { s with q := q' } n ∧ Sp17 w w' g F O F' O :=
  ⟨⟨h.rw.logop hl hf hg, h.ow.ft hf h.d1, fun k hk hf' => (hg k hf').elim (h.d1 k hk) (fun h1 => absurd (h.ow.lt k hk) (Nat.not_lt.2 h1)), h.d2⟩, ⟨hf.mono (fun _ h => .inr (.inl h)), hg, Grew.refl _ _⟩⟩
/-- a field of its own row is written -/
theorem RW.put {w w' : World} {g p : Nat} {F O : Nat → Prop} {s s' : RS} {C C' : List Value} (h : RW w g p F O s) (hC : Row w g 59 C) (hr : Row w' g 59 C') (hu : Upd w w' g) (hc : ∀ sv, RC C s p sv → RC C' s' p sv) (hq : s'.q = s.q) (h7 : s'.nx.length = 7 ∧ s'.mt.length = 7 ∧ s'.hd.length = 7) : RW w' g p F O s' := by
  obtain ⟨C0, sa, sn, sc, d, hr0, hc0, hd, ha⟩ := h.ex
  have := hr0.unique hC
  subst this
  have hf : Ft (fun k => k = g) w w' := Ft.of_upd hu rfl
  exact ⟨⟨C', sa, sn, sc, d, hr, hc _ hc0, hd.ft hf (fun hn b off e hb => (ha hn b off e).2.2 hb), ha⟩, by rw [hq]; exact h.log.ft hf (fun x hx e => h.gF (by rw [← e]; exact hx)), h.gF, h7⟩
theorem RO.put {w w' : World} {g p o : Nat} {F O : Nat → Prop} {s s' : RS} {n : Nat} {C C' : List Value} (h : RO w g p o F O s n) (hC : Row w g 59 C) (hr : Row w' g 59 C') (hu : Upd w w' g) (hc : ∀ sv, RC C s p sv → RC C' s' p sv) (hq : s'.q = s.q) (h7 : s'.nx.length = 7 ∧ s'.mt.length = 7 ∧ s'.hd.length = 7) : RO w' g p o F O s' n ∧ Sp17 w w' g F O F O :=
  ⟨⟨h.rw.put hC hr hu hc hq h7, h.ow.ft (Ft.of_upd (F := fun k => k = g) hu rfl) (fun b hb e => h.d2 (by rw [← e]; exact hb)), h.d1, h.d2⟩, ⟨Ft.of_upd hu (.inl rfl), Grew.refl _ _, Grew.refl _ _⟩⟩
theorem RO.set1 {w : World} {g p o : Nat} {F O : Nat → Prop} {s : RS} {n : Nat} {C : List Value} (h : RO w g p o F O s n) (hC : Row w g 59 C) (i : Nat) (v : Value) (s' : RS) (hc : ∀ sv, RC C s p sv → RC (C.set i v) s' p sv) (hq : s'.q = s.q) (h7 : s'.nx.length = 7 ∧ s'.mt.length = 7 ∧ s'.hd.length = 7) :
    RO (w.setCell ⟨g, i, none⟩ v) g p o F O s' n ∧ Sp17 w (w.setCell ⟨g, i, none⟩ v) g F O F O ∧ Row (w.setCell ⟨g, i, none⟩ v) g 59 (C.set i v) := by
  have hr := hC.setV i v
  have := h.put hC hr (Upd.setCell w g i v) hc hq h7
  exact ⟨this.1, this.2, hr⟩
-- ---- fields written
section
variable {C : List Value} {s : RS} {p : Nat} {sv : Value}
theorem RC.setTerm (h : RC C s p sv) (x : Int) : RC (C.set 0 (.int .i64 x)) { s with term := x } p sv := by
  obtain ⟨l, a0, a1, an, am, ah, a23, a24, a25, a26, a27, a28, a29, a30, a31, a32, a33⟩ := h
  constructor <;> first | (simp [List.getElem?_set, l]; done) | (rw [List.getElem?_set_ne (by decide)]; assumption) | (intro i hi; rw [List.getElem?_set_ne (by omega)]; first | exact an i hi | exact am i hi | exact ah i hi)
theorem RC.setVote (h : RC C s p sv) (x : Int) : RC (C.set 1 (.int .i64 x)) { s with vote := x } p sv := by
  obtain ⟨l, a0, a1, an, am, ah, a23, a24, a25, a26, a27, a28, a29, a30, a31, a32, a33⟩ := h
  constructor <;> first | (simp [List.getElem?_set, l]; done) | (rw [List.getElem?_set_ne (by decide)]; assumption) | (intro i hi; rw [List.getElem?_set_ne (by omega)]; first | exact an i hi | exact am i hi | exact ah i hi)
theorem RC.setRound (h : RC C s p sv) (x : Int) : RC (C.set 23 (.int .i64 x)) { s with round := x } p sv := by
  obtain ⟨l, a0, a1, an, am, ah, a23, a24, a25, a26, a27, a28, a29, a30, a31, a32, a33⟩ := h
  constructor <;> first | (simp [List.getElem?_set, l]; done) | (rw [List.getElem?_set_ne (by decide)]; assumption) | (intro i hi; rw [List.getElem?_set_ne (by omega)]; first | exact an i hi | exact am i hi | exact ah i hi)
theorem RC.setRole (h : RC C s p sv) (x : Int) : RC (C.set 28 (.int .i64 x)) { s with role := x } p sv := by
  obtain ⟨l, a0, a1, an, am, ah, a23, a24, a25, a26, a27, a28, a29, a30, a31, a32, a33⟩ := h
  constructor <;> first | (simp [List.getElem?_set, l]; done) | (rw [List.getElem?_set_ne (by decide)]; assumption) | (intro i hi; rw [List.getElem?_set_ne (by omega)]; first | exact an i hi | exact am i hi | exact ah i hi)
theorem RC.setLeader (h : RC C s p sv) (x : Int) : RC (C.set 29 (.int .i64 x)) { s with leader := x } p sv := by
  obtain ⟨l, a0, a1, an, am, ah, a23, a24, a25, a26, a27, a28, a29, a30, a31, a32, a33⟩ := h
  constructor <;> first | (simp [List.getElem?_set, l]; done) | (rw [List.getElem?_set_ne (by decide)]; assumption) | (intro i hi; rw [List.getElem?_set_ne (by omega)]; first | exact an i hi | exact am i hi | exact ah i hi)
theorem RC.setCommit (h : RC C s p sv) (x : Int) : RC (C.set 30 (.int .i64 x)) { s with commit := x } p sv := by
  obtain ⟨l, a0, a1, an, am, ah, a23, a24, a25, a26, a27, a28, a29, a30, a31, a32, a33⟩ := h
  constructor <;> first | (simp [List.getElem?_set, l]; done) | (rw [List.getElem?_set_ne (by decide)]; assumption) | (intro i hi; rw [List.getElem?_set_ne (by omega)]; first | exact an i hi | exact am i hi | exact ah i hi)
theorem RC.setWaited (h : RC C s p sv) (x : Int) : RC (C.set 31 (.int .i64 x)) { s with waited := x } p sv := by
  obtain ⟨l, a0, a1, an, am, ah, a23, a24, a25, a26, a27, a28, a29, a30, a31, a32, a33⟩ := h
  constructor <;> first | (simp [List.getElem?_set, l]; done) | (rw [List.getElem?_set_ne (by decide)]; assumption) | (intro i hi; rw [List.getElem?_set_ne (by omega)]; first | exact an i hi | exact am i hi | exact ah i hi)
theorem RC.setVotes (h : RC C s p sv) (x : Int) : RC (C.set 32 (.int .i64 x)) { s with votes := x } p sv := by
  obtain ⟨l, a0, a1, an, am, ah, a23, a24, a25, a26, a27, a28, a29, a30, a31, a32, a33⟩ := h
  constructor <;> first | (simp [List.getElem?_set, l]; done) | (rw [List.getElem?_set_ne (by decide)]; assumption) | (intro i hi; rw [List.getElem?_set_ne (by omega)]; first | exact an i hi | exact am i hi | exact ah i hi)
theorem RC.setTicket (h : RC C s p sv) (x : Int) : RC (C.set 33 (.int .i64 x)) { s with ticket := x } p sv := by
  obtain ⟨l, a0, a1, an, am, ah, a23, a24, a25, a26, a27, a28, a29, a30, a31, a32, a33⟩ := h
  constructor <;> first | (simp [List.getElem?_set, l]; done) | (rw [List.getElem?_set_ne (by decide)]; assumption) | (intro i hi; rw [List.getElem?_set_ne (by omega)]; first | exact an i hi | exact am i hi | exact ah i hi)
end
end Go.Proofs.YtjkkopbhdeljmaaGreat.W

namespace Go.Proofs.YtjkkopbhdeljmaaGreat.W
open Go Go.ChangeShapes Go.WideShapes Go.ChangeAt Go.RowKit

theorem RW.cells {w : World} {g p : Nat} {F O : Nat → Prop} {s : RS} (h : RW w g p F O s) : ∃ C sa sn sc, Row w g 59 C ∧ RC C s p (.slice sa sn sc) := by
  obtain ⟨C, sa, sn, sc, d, hr, hc, -⟩ := h.ex
  exact ⟨C, sa, sn, sc, hr, hc⟩
theorem Row.at17 {w : World} {g i : Nat} {t : TypeId} {C : List Value} {v : Value} (h : Row w g t C) (hc : C[i]? = some v) : w.cell? ⟨g, i, none⟩ = some v := by rw [h.cellV]; exact hc
set_option maxRecDepth 100000 in
set_option maxHeartbeats 4000000 in
theorem aready {w : World} {g p : Nat} {F O : Nat → Prop} {s : RS} (h : RW w g p F O s) : Calls Tryz.prog 22 #[.pointer (some ⟨g, 0, none⟩)] w fun x w' => x = .returned (.bool true) ∧ w = w' := by
  obtain ⟨C, sa, sn, sc, hr, hc⟩ := h.cells
  have c26 := hr.at17 hc.c26
  clear h hr hc
  go_enter Tryz.func22, Tryz.ntmps22
  go_wp2_with fail
  go_ret
  exact ⟨rfl, rfl⟩
theorem infoRecs : (Tryz.prog.info? 40).map (·.size) = some 1 := by kernel_rfl
theorem raw_one10 (k a b x y z u i j : Int) (sa sb : Option Addr) (n c m d : Nat) : ∀ v ∈ [Value.int .i64 k, .int .i64 a, .int .i64 b, .int .i64 x, .int .i64 y, .int .i64 z, .slice sa n c, .int .i64 i, .int .i64 j, .slice sb m d], v.oneCell' = true := by
  intro v hv
  simp only [List.mem_cons, List.not_mem_nil, or_false] at hv
  rcases hv with rfl | rfl | rfl | rfl | rfl | rfl | rfl | rfl | rfl | rfl <;> rfl
/-- a record's cells -/
def rcRaw (k a b x y z : Int) (sa : Option Addr) (n c : Nat) (i j : Int) (sb : Option Addr) (m d : Nat) : Raw 10 := ⟨[.int .i64 k, .int .i64 a, .int .i64 b, .int .i64 x, .int .i64 y, .int .i64 z, .slice sa n c, .int .i64 i, .int .i64 j, .slice sb m d], rfl, raw_one10 k a b x y z 0 i j sa sb n c m d⟩
theorem fill10 (a0 a1 a2 a3 a4 a5 a6 a7 a8 a9 : Value) : Instr.fill (fun i => some (i * rcR.k, rcR.k)) ((Array.range (1 * rcR.k)).map (rcR.z.cells[· % rcR.z.cells.size]!)) [(0, .agg #[a0, a1, a2, a3, a4, a5, a6, a7, a8, a9])] = some #[a0, a1, a2, a3, a4, a5, a6, a7, a8, a9] := by kernel_rfl
theorem raw_fill10 (y : Raw 10) : Instr.fill (fun i => some (i * rcR.k, rcR.k)) ((Array.range (1 * rcR.k)).map (rcR.z.cells[· % rcR.z.cells.size]!)) [(0, .agg (rcR.cells y).toArray)] = some (rcR.cells y).toArray := by
  obtain ⟨l, h1, h2⟩ := y
  match l, h1 with
  | [a0, a1, a2, a3, a4, a5, a6, a7, a8, a9], _ => exact fill10 a0 a1 a2 a3 a4 a5 a6 a7 a8 a9
/-- its records' list with one more -/
theorem OW.recs {w : World} {o : Nat} {O : Nat → Prop} {n : Nat} (h : OW w o O n) : ∃ vm vr ld, Row w o 42 [vm, vr, .bool ld] := by
  obtain ⟨vm, vr, ld, Lm, Lr, hr, -⟩ := h.ex
  exact ⟨vm, vr, ld, hr⟩
/-- APPEND of a record to what it tells: the list then, and where it lies -/
theorem app_rec {w : World} {g p o : Nat} {F O : Nat → Prop} {s : RS} {n : Nat} (h : RO w g p o F O s n) (hn : n ≤ 1000) {vm vr : Value} {ld : Bool} (hrow : Row w o 42 [vm, vr, .bool ld])
    {ops : Array Oper} {rest : List Oper} {op : Oper} {a : Act} {Q : Exit → Act → World → Prop} (hgd : op.guard = none) (x y : Operand)
    (ho : op.op = .call { callee := .builtin .append, args := #[x, y], argTypes := #[40, 40] }) (hx : a.eval x = vr) (b : Nat) (cs : Raw 10) (hy : a.eval y = .slice (some ⟨b, 0, none⟩) 1 1) (hb : Row w b 134 cs.1)
    (hK : ∀ (v' : Value) w', (∃ a n c, v' = .slice a n c) → Ft (fun k => vr.ownBlock = some k) w w' → (∀ w2, Row w2 o 42 [vm, v', .bool ld] → Upd w' w2 o → ∃ O', RO w2 g p o F O' s (n + 1) ∧ Sp17 w w2 g F O F O') → Row w' o 42 [vm, vr, .bool ld] → wpList Tryz.prog ops Q rest (a.put op.dst v') w') : wpList Tryz.prog ops Q (op :: rest) a w := by
  obtain ⟨vm0, vr0, ld0, Lm, Lr, hr0, hm, hc, h1, h2, h3, h4, h5⟩ := h.ow.ex
  have e := hr0.unique hrow
  injection e with e1 e2
  injection e2 with e2 e3
  injection e3 with e3 e4
  injection e3 with e3
  subst e1 e2 e3
  have hone : Ls rcR w (some ⟨b, 0, none⟩) 1 1 [cs] := by
    refine ⟨rfl, Nat.le_refl _, by omega, fun _ _ => trivial, (fun h => by cases h), .inr ⟨b, 0, rfl, hb.lt, fun i z hi j v hj => ?_⟩⟩
    have hil := (List.getElem?_eq_some_iff.1 hi).1
    simp only [List.length_cons, List.length_nil] at hil
    obtain rfl : i = 0 := by omega
    simp at hi
    subst hi
    rw [hb.cellV]
    simpa using hj
  refine append_ls rcRok hgd x y ho 0 vr0 Lr hx hc (some ⟨b, 0, none⟩) 1 1 [cs] hy hone (by omega) (Nat.zero_le _) ?_
  intro v' w' hown hbel hg hv
  have hgf : Ft (fun k => vr0.ownBlock = some k) w w' := ⟨hg.os, hg.tape, hg.output, hg.size, fun k hk hn' => hg.block k hk (fun e => hn' e.symm)⟩
  refine hK v' w' ?_ hgf (fun w2 hr2 hu => ?_) (hr0.ft hgf (fun e => (h4 o e).2 rfl))
  · rcases hown.2 with ⟨e, -⟩ | ⟨q, c, cur, e, -⟩
    · exact ⟨_, _, _, e⟩
    · exact ⟨_, _, _, e⟩
  have hsz : w'.heap.size = w2.heap.size := hu.size.symm
  have hlt : ∀ k, v'.ownBlock = some k → k < w'.heap.size := fun k e => (World.ownsRow.lt hown k e).2
  have hft : Ft (fun k => O k) w w2 := (hgf.mono (fun k e => (h4 k e).1)).on (Ft.of_upd (F := fun k => k = o) hu rfl) (fun k e => .inl (by rw [e]; exact h.ow.oo))
  have hnew : ∀ k, v'.ownBlock = some k → (O k ∧ vr0.ownBlock = some k) ∨ k = w.heap.size := fun k e => by
    rcases hv with hv | hv
    · rw [hv] at e; exact .inl ⟨(h4 k e).1, e⟩
    · rw [hv] at e; injection e with e; exact .inr e.symm
  have hon : ∀ k, v'.ownBlock = some k → k ≠ o := fun k e => by
    rcases hnew k e with ⟨-, h6⟩ | h6
    · exact (h4 k h6).2
    · have := h.ow.lt o h.ow.oo; omega
  refine ⟨fun k => O k ∨ v'.ownBlock = some k, ⟨?_, ⟨⟨vm0, v', ld0, Lm, Lr ++ [cs], hr2, ?_, ?_, by omega, by rw [List.length_append]; show Lr.length + 1 ≤ n + 1; omega, fun k e => ⟨.inl (h3 k e).1, (h3 k e).2⟩, fun k e => ⟨.inr e, hon k e⟩, ?_⟩, .inl h.ow.oo, ?_⟩, ?_, ?_⟩, ⟨hft.mono (fun k hk => .inr (.inr hk)), Grew.refl _ _, ?_⟩⟩
  · obtain ⟨C, sa, sn, sc, d, hr, hcc, hd, ha⟩ := h.rw.ex
    refine ⟨⟨C, sa, sn, sc, d, hr.ft hft h.d2, hcc, hd.ft hft (fun hn b off e => (ha hn b off e).2.1), fun hn b off e => ⟨(ha hn b off e).1, fun hk => ?_, (ha hn b off e).2.2⟩⟩, h.rw.log.ft hft (fun k hk ho => h.d1 k ho hk), h.rw.gF, h.rw.l7⟩
    rcases hk with hk | hk
    · exact (ha hn b off e).2.1 hk
    · rcases hnew b hk with h6 | h6
      · exact (ha hn b off e).2.1 h6.1
      · have := hd.blk hn b off e; omega
  · refine (hm.ft17 hgf (fun k e e2 => h5 k e e2)).ft17 (Ft.of_upd (F := fun k => k = o) hu rfl) (fun k e e2 => (h3 k e).2 e2)
  · exact hown.upd hu (fun e => hon o e rfl)
  · intro k e e2
    rcases hnew k e2 with h6 | h6
    · exact h5 k e h6.2
    · have := (World.ownsRow.lt hm k e).2; omega
  · intro k hk
    rcases hk with hk | hk
    · have := h.ow.lt k hk; have := hft.size; omega
    · have := hlt k hk; omega
  · intro k hk
    rcases hk with hk | hk
    · exact h.d1 k hk
    · rcases hnew k hk with h6 | h6
      · exact h.d1 k h6.1
      · intro hf; have := h.rw.log.lt k hf; omega
  · intro hk
    rcases hk with hk | hk
    · exact h.d2 hk
    · rcases hnew g hk with h6 | h6
      · exact h.d2 h6.1
      · have := h.rw.lt; omega
  · intro k hk
    rcases hk with hk | hk
    · exact .inl hk
    · rcases hnew k hk with h6 | h6
      · exact .inl h6.1
      · exact .inr (by omega)
theorem raw_build10 {w : World} {ops : Array Oper} {rest : List Oper} {o : Oper} {a : Act} {Q : Exit → Act → World → Prop} (hgd : o.guard = none) (x : Operand)
    (ho : o.op = .buildSlice 40 1 #[(0, x)]) (y : Raw 10) (hx : a.eval x = .agg y.1.toArray)
    (h : ∀ w', Row w' w.heap.size 134 y.1 → Below w.heap.size w w' → w'.heap.size = w.heap.size + 1 → wpList Tryz.prog ops Q rest (a.put o.dst (.slice (some ⟨w.heap.size, 0, none⟩) 1 1)) w') : wpList Tryz.prog ops Q (o :: rest) a w := by
  obtain ⟨i0, hi, hz0, hz1, hz2⟩ := info_parts rcRok.info
  refine wpList_buildSlice hgd 40 134 1 _ ho (rcR.cells y).toArray i0 _ rcRok.und hi hz0 (by rw [hz1]; decide) (by rw [hz1]; decide) (by rw [hz1]; simp only [List.map_toArray, List.map_cons, List.map_nil, hx]; exact raw_fill10 y) ?_
  exact h _ (Row.new _ _ _) ((Below.refl _ _).alloc (Nat.le_refl _) _) (by simp)
set_option maxRecDepth 100000 in
set_option maxHeartbeats 8000000 in
theorem arechard {w : World} {g p o : Nat} {F O : Nat → Prop} {s : RS} {n : Nat} (h : RO w g p o F O s n) (hn : n ≤ 1000) :
    Calls Tryz.prog 94 #[.pointer (some ⟨g, 0, none⟩), .pointer (some ⟨o, 0, none⟩)] w fun x w' => x = .returned (.tuple #[]) ∧ ∃ O', RO w' g p o F O' s (n + 1) ∧ Sp17 w w' g F O F O' := by
  obtain ⟨C, sa, sn, sc, hr, hc⟩ := h.rw.cells
  obtain ⟨vm, vr, ld, Lm, Lr, hro, hm, hrc, h1, h2, h3, h4, h5⟩ := h.ow.ex
  have K0 := Lib.hid (hr.at17 hc.c0)
  have K1 := Lib.hid (hr.at17 hc.c1)
  have KO := Lib.hid (show w.cell? ⟨o, 1, none⟩ = some vr from hro.at17 rfl)
  have HGB := Lib.hid (show ∀ v, Ft (fun k => vr.ownBlock = some k) w v → v.heap[g]? = w.heap[g]? from fun v hv => hv.block g hr.lt (fun e => h.d2 (h4 g e).1))
  have HOB := Lib.hid (show ∀ v, Ft (fun k => vr.ownBlock = some k) w v → v.heap[o]? = w.heap[o]? from fun v hv => hv.block o hro.lt (fun e => (h4 o e).2 rfl))
  have H := Lib.hid h
  have HRO := Lib.hid hro
  have D4 : Hid (Ft (fun k => vr.ownBlock = some k) w w.drew) := Lib.hid (Ft.of_below (Below.refl _ _).drew)
  clear h hr hc hro hm hrc h1 h2 h3 h4 h5
  go_enter Tryz.func94, Tryz.ntmps94
  refine region_t (fun v => Ft (fun k => vr.ownBlock = some k) w v) 20 (by kernel_rfl) (by kernel_rfl) (by kernel_rfl) D4.out ?_
  have HD := Lib.hid (H.out.mono ((Below.refl w.heap.size w).drew))
  have HRD := Lib.hid (HRO.out.drewN 1)
  have SD := Lib.hid (show Sp17 w w.drew g F O F O from Sp17.of_below (Below.refl w.heap.size w).drew)
  obtain ⟨wd, hwd⟩ : ∃ wd, w.drew = wd := ⟨_, rfl⟩
  have HRD : Hid (Row wd o 42 [vm, vr, .bool ld]) := Lib.hid (by rw [← hwd]; exact HRO.out.drewN 1)
  rw [hwd] at D4 HD SD ⊢
  clear hwd
  (refine t_read 0 rfl (by kernel_rfl) (by kernel_rfl) (by kernel_rfl) (t_free rfl) ?_ ?_ ?_; rotate_left; (focus (intro v hv; go_simp; rfl)); go_simp)
  (refine t_read 1 rfl (by kernel_rfl) (by kernel_rfl) (by kernel_rfl) (t_free rfl) ?_ ?_ ?_; rotate_left; (focus (intro v hv; go_simp; rfl)); go_simp)
  (refine t_read 2 rfl (by kernel_rfl) (by kernel_rfl) (by kernel_rfl) (t_free rfl) ?_ ?_ ?_; rotate_left; (focus (intro v hv; go_simp; rfl)); go_simp)
  (refine t_read 3 rfl (by kernel_rfl) (by kernel_rfl) (by kernel_rfl) (t_free rfl) ?_ ?_ ?_; rotate_left; (focus (intro v hv; go_simp; rfl)); go_simp)
  (refine t_read 4 rfl (by kernel_rfl) (by kernel_rfl) (by kernel_rfl) (t_free rfl) ?_ ?_ ?_; rotate_left; (focus (intro v hv; have q0 := (World.cell?_of_block (a := ⟨g, 0, none⟩) (HGB.out v hv)).trans K0.out; have q1 := (World.cell?_of_block (a := ⟨g, 1, none⟩) (HGB.out v hv)).trans K1.out; have q2 := (World.cell?_of_block (a := ⟨o, 1, none⟩) (HOB.out v hv)).trans KO.out; go_simp; rfl)); go_simp)
  (refine t_read 5 rfl (by kernel_rfl) (by kernel_rfl) (by kernel_rfl) (t_free rfl) ?_ ?_ ?_; rotate_left; (focus (intro v hv; go_simp; rfl)); go_simp)
  (refine t_read 6 rfl (by kernel_rfl) (by kernel_rfl) (by kernel_rfl) (t_free rfl) ?_ ?_ ?_; rotate_left; (focus (intro v hv; go_simp; rfl)); go_simp)
  (refine t_read 7 rfl (by kernel_rfl) (by kernel_rfl) (by kernel_rfl) (t_free rfl) ?_ ?_ ?_; rotate_left; (focus (intro v hv; go_simp; rfl)); go_simp)
  (refine t_read 8 rfl (by kernel_rfl) (by kernel_rfl) (by kernel_rfl) (t_free rfl) ?_ ?_ ?_; rotate_left; (focus (intro v hv; go_simp; rfl)); go_simp)
  (refine t_read 9 rfl (by kernel_rfl) (by kernel_rfl) (by kernel_rfl) (t_free rfl) ?_ ?_ ?_; rotate_left; (focus (intro v hv; have q0 := (World.cell?_of_block (a := ⟨g, 0, none⟩) (HGB.out v hv)).trans K0.out; have q1 := (World.cell?_of_block (a := ⟨g, 1, none⟩) (HGB.out v hv)).trans K1.out; have q2 := (World.cell?_of_block (a := ⟨o, 1, none⟩) (HOB.out v hv)).trans KO.out; go_simp; rfl)); go_simp)
  (refine t_read 10 rfl (by kernel_rfl) (by kernel_rfl) (by kernel_rfl) (t_free rfl) ?_ ?_ ?_; rotate_left; (focus (intro v hv; go_simp; rfl)); go_simp)
  (refine t_read 11 rfl (by kernel_rfl) (by kernel_rfl) (by kernel_rfl) (t_free rfl) ?_ ?_ ?_; rotate_left; (focus (intro v hv; go_simp; rfl)); go_simp)
  (refine t_read 12 rfl (by kernel_rfl) (by kernel_rfl) (by kernel_rfl) (t_free rfl) ?_ ?_ ?_; rotate_left; (focus (intro v hv; go_simp; rfl)); go_simp)
  (refine t_read 13 rfl (by kernel_rfl) (by kernel_rfl) (by kernel_rfl) (t_free rfl) ?_ ?_ ?_; rotate_left; (focus (intro v hv; go_simp; rfl)); go_simp)
  (refine t_read 14 rfl (by kernel_rfl) (by kernel_rfl) (by kernel_rfl) (t_free rfl) ?_ ?_ ?_; rotate_left; (focus (intro v hv; have q0 := (World.cell?_of_block (a := ⟨g, 0, none⟩) (HGB.out v hv)).trans K0.out; have q1 := (World.cell?_of_block (a := ⟨g, 1, none⟩) (HGB.out v hv)).trans K1.out; have q2 := (World.cell?_of_block (a := ⟨o, 1, none⟩) (HOB.out v hv)).trans KO.out; go_simp; rfl)); go_simp)
  (refine t_read 15 rfl (by kernel_rfl) (by kernel_rfl) (by kernel_rfl) (t_free rfl) ?_ ?_ ?_; rotate_left; (focus (intro v hv; go_simp; rfl)); go_simp)
  (refine t_list 16 rfl (by kernel_rfl) rfl ?_; intro K hK)
  refine raw_build10 rfl _ rfl (rcRaw 2 s.term s.vote 0 0 0 none 0 0 0 0 none 0 0) (by go_simp; rfl) ?_
  intro w5 hr5 hb5 hz5
  have R5 := Lib.hid hr5
  have H5 := Lib.hid (HD.out.mono hb5)
  have HR5 := Lib.hid (HRD.out.below hb5 HRD.out.lt)
  have D5 := Lib.hid (D4.out.on (Ft.of_below (F := fun _ => False) hb5) (fun _ h => h.elim))
  have S5 := Lib.hid (SD.out.trans (Sp17.of_below hb5))
  clear hr5 hb5 hz5
  refine hK _ _ D5.out ?_
  go_simp
  (refine t_list 17 rfl (by kernel_rfl) rfl ?_; intro K hK)
  refine app_rec H5.out hn HR5.out rfl _ _ rfl (by go_simp) wd.heap.size (rcRaw 2 s.term s.vote 0 0 0 none 0 0 0 0 none 0 0) (by go_simp) R5.out ?_
  rintro v6 w6 ⟨a6, n6, c6, rfl⟩ hf6 hK6 hr6
  have K6 := Lib.hid hK6
  have HR6 := Lib.hid hr6
  have D6 := Lib.hid (D5.out.trans hf6)
  clear hf6 hK6 hr6
  refine hK _ _ D6.out ?_
  go_simp
  (refine t_one 18 rfl (by kernel_rfl) rfl rfl ?_ ?_ ?_; rotate_left; (focus (go_simp; rfl)); go_simp)
  (refine t_read 19 rfl (by kernel_rfl) (by kernel_rfl) (by kernel_rfl) (t_free rfl) ?_ ?_ ?_; rotate_left; (focus (intro v hv; go_simp; rfl)); go_simp)
  (refine t_last 20 rfl (by kernel_rfl) rfl (by kernel_rfl) (by kernel_rfl) ?_; intro K hK)
  refine store_cell rfl _ _ _ rfl o 1 (.slice a6 n6 c6) (by go_simp) (by go_simp) rfl rfl 42 _ HR6.out infoRecs (by simp) ?_
  intro w7 hr7 hu7
  refine hK _ _ ?_
  have X7 := Lib.hid (K6.out w7 hr7 hu7)
  clear hr7 hu7
  go_simp
  go_wp2_with fail
  first | go_end0 | (refine bodyPost_ret (results_none rfl _ _ _) rfl ?_)
  obtain ⟨O', hx1, hx2⟩ := X7.out
  exact ⟨rfl, O', hx1, S5.out.trans hx2⟩
end Go.Proofs.YtjkkopbhdeljmaaGreat.W

namespace Go.Proofs.YtjkkopbhdeljmaaGreat.W
open Go Go.ChangeShapes Go.WideShapes Go.ChangeAt Go.RowKit

theorem NB_en17 (ix tm kd : Int) (a : Option Addr) (n c : Nat) : NB (En.cells ⟨ix, tm, kd, a, n, c⟩) := by intro x hx; simp [B, En.cells] at hx
theorem RO.other {w w' : World} {g p o q : Nat} {F O : Nat → Prop} {s : RS} {n : Nat} {t : TypeId} {L : List Value} (h : RO w g p o F O s n) (hq : Row w q t L) (hnb : NB L) (hu : Upd w w' q) (hg : q ≠ g) (hF : ¬ F q) (hO : ¬ O q) : RO w' g p o F O s n := by
  have hf : Ft (fun k => k = q) w w' := Ft.of_upd hu rfl
  refine ⟨?_, h.ow.ft hf (fun b hb e => hO (by rw [← e]; exact hb)), h.d1, h.d2⟩
  obtain ⟨C, sa, sn, sc, d, hr, hc, hd, ha⟩ := h.rw.ex
  exact ⟨⟨C, sa, sn, sc, d, hr.upd hu (fun e => hg e.symm), hc, hd.put hq hnb hu, ha⟩, h.rw.log.ft hf (fun x hx e => hF (by rw [← e]; exact hx)), h.rw.gF, h.rw.l7⟩
theorem Sp17.tail17 {w w' w'' : World} {g q : Nat} {F O F' O' : Nat → Prop} (h : Sp17 w w' g F O F' O') (hu : Upd w' w'' q) (hq : w.heap.size ≤ q) : Sp17 w w'' g F O F' O' :=
  ⟨h.ft.on (Ft.of_upd (F := fun k => k = q) hu rfl) (fun b hb => .inr (by rw [hb]; exact hq)), h.gf, h.go⟩
theorem grew_fg (F : Nat → Prop) (w w' : World) : Grew w F (FG F w w') := fun k hk => hk.elim .inl (fun h => .inr h.1)
set_option maxRecDepth 100000 in
set_option maxHeartbeats 8000000 in
theorem akeep {w : World} {g p o : Nat} {F O : Nat → Prop} {s : RS} {n : Nat} (h : RO w g p o F O s n) (hn : n ≤ 1000) (e : En) (l : List UInt8) (he : EnF w e l) (hq : s.q.l.length + 1 ≤ 200) (hl : l.length ≤ 140737488355000) (hap : e.n ≠ 0 → ∀ b off, e.a = some ⟨b, off, none⟩ → ¬ F b) :
    Calls Tryz.prog 79 #[.pointer (some ⟨g, 0, none⟩), .agg e.cells.toArray, .pointer (some ⟨o, 0, none⟩)] w fun x w' => x = .returned (.int .i64 (s.q.app (pe (e, l))).2) ∧ ∃ F' O', RO w' g p o F' O' { s with q := (s.q.app (pe (e, l))).1 } (n + 1) ∧ Sp17 w w' g F O F' O' := by
  obtain ⟨C, sa, sn, sc, hr, hc⟩ := h.rw.cells
  have K26 := Lib.hid (hr.at17 hc.c26)
  have GL' := Lib.hid hr.lt
  have HGF := Lib.hid h.rw.gF
  have HFL := Lib.hid h.rw.log.lt
  have H := Lib.hid h
  have HE := Lib.hid he
  have ES := Lib.hid en_size
  obtain ⟨⟨q', er⟩, hqe⟩ : ∃ z, s.q.app (pe (e, l)) = z := ⟨_, rfl⟩
  rw [hqe]
  dsimp only
  have HQE := Lib.hid hqe
  have HLL := Lib.hid hl
  have HRD := Lib.hid he.rd
  have HAP := Lib.hid hap
  have HLEN := Lib.hid (show l.length = e.n from he.rd.hlen)
  have HLN := Lib.hid (show e.n ≤ 140737488355000 by rw [← he.rd.hlen]; exact hl)
  have HIX := Lib.hid (show ∀ k, O k → k < w.heap.size from h.ow.lt)
  have hgs := h.rw.lt
  have HNG := Lib.hid (show w.heap.size ≠ g from fun e => by omega)
  obtain ⟨ix, tm, kd, ea, en, ec⟩ := e
  dsimp only at HLEN HLN HAP HRD
  clear h hr hc he hqe hl hap hgs
  go_enter Tryz.func79, Tryz.ntmps79
  go_wp2_with (first
    | (with_reducible refine box_row (o := ⟨some 4, _, _, _, _, _⟩) rfl _ _ rfl (En.cells ⟨ix, tm, kd, ea, en, ec⟩) rfl ?_; intro w1 hr1 hb1 hz1; have E1 := Lib.hid hr1; have B1 := Lib.hid hb1; clear hr1 hb1 hz1))
  have H1 := Lib.hid (H.out.mono B1.out)
  have K1 := Lib.hid ((B1.out.cell (p := ⟨g, 26, none⟩) GL'.out).trans K26.out)
  have HGB := Lib.hid (show ∀ v, Ft F w1 v → v.heap[g]? = w1.heap[g]? from fun v hv => hv.block g H1.out.rw.lt HGF.out)
  have HEB := Lib.hid (show ∀ v, Ft F w1 v → Row v w.heap.size 69 (En.cells ⟨ix, tm, kd, ea, en, ec⟩) from fun v hv => E1.out.ft hv (fun hf => absurd (HFL.out _ hf) (Nat.lt_irrefl _)))
  have D1 : Hid (Ft F w1 w1.drew) := Lib.hid (Ft.of_below (Below.refl _ _).drew)
  refine region_h (fun v => Ft F w1 v) (by kernel_rfl) (by kernel_rfl) D1.out ?_
  obtain ⟨wd, hwd⟩ : ∃ wd, w1.drew = wd := ⟨_, rfl⟩
  have HD : Hid (RO wd g p o F O s n) := Lib.hid (by rw [← hwd]; exact H1.out.mono (Below.refl _ _).drew)
  have SZD : Hid (w.heap.size < wd.heap.size) := Lib.hid (by rw [← hwd]; exact E1.out.lt)
  have SD : Hid (Sp17 w wd g F O F O) := Lib.hid (by rw [← hwd]; exact (Sp17.of_below B1.out).trans (Sp17.of_below (Below.refl _ _).drew))
  have HED : Hid (EnF wd ⟨ix, tm, kd, ea, en, ec⟩ l) := Lib.hid (by rw [← hwd]; exact (HE.out.mono B1.out).mono (Below.refl _ _).drew)
  rw [hwd] at D1 ⊢
  clear hwd
  (refine h_read 0 rfl (by kernel_rfl) (by kernel_rfl) (h_free rfl) ?_ ?_ ?_; rotate_left; (focus (intro v hv; go_simp; rfl)); go_simp)
  (refine h_read 1 rfl (by kernel_rfl) (by kernel_rfl) (h_free rfl) ?_ ?_ ?_; rotate_left; (focus (intro v hv; go_simp; rfl)); go_simp)
  (refine h_read 2 rfl (by kernel_rfl) (by kernel_rfl) (h_free rfl) ?_ ?_ ?_; rotate_left; (focus (intro v hv; go_simp; rfl)); go_simp)
  (refine h_read 3 rfl (by kernel_rfl) (by kernel_rfl) (h_free rfl) ?_ ?_ ?_; rotate_left; (focus (intro v hv; have q0 := (World.cell?_of_block (a := ⟨g, 26, none⟩) (HGB.out v hv)).trans K1.out; go_simp; rfl)); go_simp)
  (refine h_read 4 rfl (by kernel_rfl) (by kernel_rfl) (h_free rfl) ?_ ?_ ?_; rotate_left; (focus (intro v hv; refine load_all 69 (.tmp 4) ?_ w.heap.size ?_ _ (En.cells ⟨ix, tm, kd, ea, en, ec⟩) _ (HEB.out v hv) Tryz.underlying69 rfl en_size; (focus rfl); go_simp)); go_simp)
  (refine h_call 5 rfl (by kernel_rfl) (h_free rfl) 50 ?_ ?_ ?_; rotate_left; (focus (go_simp; rfl)))
  refine (qappend HD.out.rw.log ⟨ix, tm, kd, ea, en, ec⟩ l HED.out (by omega)).mono ?_
  rw [HQE.out]
  rintro x w5 ⟨rfl, hg5, hf5⟩
  obtain ⟨h5, s5⟩ := HD.out.logop hg5 hf5 (grew_fg _ _ _)
  have H5 := Lib.hid h5
  have S5 := Lib.hid (SD.out.trans s5)
  have D5 := Lib.hid (D1.out.trans hf5)
  have E5 := Lib.hid (HEB.out w5 D5.out)
  have HR5 := Lib.hid (HED.out.rd.ft hf5 HAP.out)
  clear hg5 hf5 h5 s5
  refine ⟨_, rfl, D5.out, ?_⟩
  go_simp
  (refine h_read 6 rfl (by kernel_rfl) (by kernel_rfl) (h_free rfl) ?_ ?_ ?_; rotate_left; (focus (intro v hv; go_simp; rfl)); go_simp)
  refine h_done (by kernel_rfl) ?_
  by_cases her : er = 0
  · subst her
    obtain ⟨d0, d1, d2, d3⟩ := E5.out.q4
    go_wp2_with (first
      | (go_at_call 21; (with_reducible refine (fclone ea en ec l w5 HR5.out HLN.out).mono ?_); rintro x w6 ⟨v6, rfl, hf, hb⟩; obtain ⟨a6, c6, hv6, hr6⟩ := hf.form' en HLEN.out; subst hv6; have H6 := Lib.hid (H5.out.mono hb); have S6 := Lib.hid (S5.out.trans (Sp17.of_below hb)); have E6 := Lib.hid (E5.out.below hb E5.out.lt); have SZ6 := Lib.hid hb.size; clear hf hb hr6 d0 d1 d2 d3; obtain ⟨c0, c1, c2, c3⟩ := E6.out.q4; have z3 := E6.out.frozen 3))
    have N5 := Lib.hid (show ¬ FG F wd w5 w.heap.size from fun hk => by
      rcases hk with hk | ⟨hk, -⟩
      · exact absurd (HFL.out _ hk) (Nat.lt_irrefl _)
      · have := SZD.out; omega)
    have E7 := Lib.hid (E6.out.setV 3 (.slice a6 en c6))
    have H7 := Lib.hid (H6.out.other E6.out (NB_en17 _ _ _ _ _ _) (Upd.setCell w6 w.heap.size 3 (.slice a6 en c6)) HNG.out N5.out (fun hk => absurd (HIX.out _ hk) (Nat.lt_irrefl _)))
    have S7 := Lib.hid (S6.out.tail17 (Upd.setCell w6 w.heap.size 3 (.slice a6 en c6)) (Nat.le_refl _))
    clear c0 c1 c2 c3 z3
    obtain ⟨w7, hw7⟩ : ∃ x, w6.setCell ⟨w.heap.size, 3, none⟩ (.slice a6 en c6) = x := ⟨_, rfl⟩
    rw [hw7] at E7 H7 S7 ⊢
    clear hw7 H5 H6 S5 S6 E5 E6 HR5 HRD HED HD SD
    obtain ⟨vm, vr, ld, Lm, Lr, hro, hm, hrc, h1, h2, h3, h4, h5⟩ := H7.out.ow.ex
    have KO := Lib.hid (show w7.cell? ⟨o, 1, none⟩ = some vr from hro.at17 rfl)
    have HOB := Lib.hid (show ∀ v, Ft (fun k => vr.ownBlock = some k) w7 v → v.heap[o]? = w7.heap[o]? from fun v hv => hv.block o hro.lt (fun e => (h4 o e).2 rfl))
    have HEC := Lib.hid (show ∀ v, Ft (fun k => vr.ownBlock = some k) w7 v → Row v w.heap.size 69 [.int .i64 ix, .int .i64 tm, .int .i64 kd, .slice a6 en c6] from fun v hv => E7.out.ft hv (fun e => absurd (HIX.out _ (h4 _ e).1) (Nat.lt_irrefl _)))
    have D7 : Hid (Ft (fun k => vr.ownBlock = some k) w7 w7.drew) := Lib.hid (Ft.of_below (Below.refl _ _).drew)
    have HRO := Lib.hid hro
    clear hro hm hrc h1 h2 h3 h4 h5
    refine region_t (fun v => Ft (fun k => vr.ownBlock = some k) w7 v) 11 (by kernel_rfl) (by kernel_rfl) (by kernel_rfl) D7.out ?_
    obtain ⟨we, hwe⟩ : ∃ we, w7.drew = we := ⟨_, rfl⟩
    have HRE : Hid (Row we o 42 [vm, vr, .bool ld]) := Lib.hid (by rw [← hwe]; exact HRO.out.drewN 1)
    have HH : Hid (RO we g p o (FG F wd w5) O _ n) := Lib.hid (by rw [← hwe]; exact H7.out.mono (Below.refl _ _).drew)
    have SE : Hid (Sp17 w we g F O (FG F wd w5) O) := Lib.hid (by rw [← hwe]; exact S7.out.trans (Sp17.of_below (Below.refl _ _).drew))
    rw [hwe] at D7 ⊢
    clear hwe
    (refine t_read 0 rfl (by kernel_rfl) (by kernel_rfl) (by kernel_rfl) (t_free rfl) ?_ ?_ ?_; rotate_left; (focus (intro v hv; go_simp; rfl)); go_simp)
    (refine t_read 1 rfl (by kernel_rfl) (by kernel_rfl) (by kernel_rfl) (t_free rfl) ?_ ?_ ?_; rotate_left; (focus (intro v hv; go_simp; rfl)); go_simp)
    (refine t_read 2 rfl (by kernel_rfl) (by kernel_rfl) (by kernel_rfl) (t_free rfl) ?_ ?_ ?_; rotate_left; (focus (intro v hv; go_simp; rfl)); go_simp)
    (refine t_read 3 rfl (by kernel_rfl) (by kernel_rfl) (by kernel_rfl) (t_free rfl) ?_ ?_ ?_; rotate_left; (focus (intro v hv; go_simp; rfl)); go_simp)
    (refine t_read 4 rfl (by kernel_rfl) (by kernel_rfl) (by kernel_rfl) (t_free rfl) ?_ ?_ ?_; rotate_left; (focus (intro v hv; have q1 := (World.cell?_of_block (a := ⟨o, 1, none⟩) (HOB.out v hv)).trans KO.out; go_simp; rfl)); go_simp)
    (refine t_read 5 rfl (by kernel_rfl) (by kernel_rfl) (by kernel_rfl) (t_free rfl) ?_ ?_ ?_; rotate_left; (focus (intro v hv; refine load_all 69 (.tmp 4) ?_ w.heap.size ?_ _ [.int .i64 ix, .int .i64 tm, .int .i64 kd, .slice a6 en c6] _ (HEC.out v hv) Tryz.underlying69 rfl en_size; (focus rfl); go_simp)); go_simp)
    (refine t_read 6 rfl (by kernel_rfl) (by kernel_rfl) (by kernel_rfl) (t_free rfl) ?_ ?_ ?_; rotate_left; (focus (intro v hv; go_simp; rfl)); go_simp)
    (refine t_list 7 rfl (by kernel_rfl) rfl ?_; intro K hK)
    refine raw_build10 rfl _ rfl (rcRaw 3 0 0 ix tm kd a6 en c6 0 0 none 0 0) (by go_simp; rfl) ?_
    intro w8 hr8 hb8 hz8
    have R8 := Lib.hid hr8
    have H8 := Lib.hid (HH.out.mono hb8)
    have HR8 := Lib.hid (HRE.out.below hb8 HRE.out.lt)
    have D8 := Lib.hid (D7.out.on (Ft.of_below (F := fun _ => False) hb8) (fun _ h => h.elim))
    have S8 := Lib.hid (SE.out.trans (Sp17.of_below hb8))
    clear hr8 hb8 hz8
    refine hK _ _ D8.out ?_
    go_simp
    (refine t_list 8 rfl (by kernel_rfl) rfl ?_; intro K hK)
    refine app_rec H8.out hn HR8.out rfl _ _ rfl (by go_simp) we.heap.size (rcRaw 3 0 0 ix tm kd a6 en c6 0 0 none 0 0) (by go_simp) R8.out ?_
    rintro v9 w9 ⟨a9, n9, c9, rfl⟩ hf9 hK9 hr9
    have K9 := Lib.hid hK9
    have HR9 := Lib.hid hr9
    have D9 := Lib.hid (D8.out.trans hf9)
    clear hf9 hK9 hr9
    refine hK _ _ D9.out ?_
    go_simp
    (refine t_one 9 rfl (by kernel_rfl) rfl rfl ?_ ?_ ?_; rotate_left; (focus (go_simp; rfl)); go_simp)
    (refine t_read 10 rfl (by kernel_rfl) (by kernel_rfl) (by kernel_rfl) (t_free rfl) ?_ ?_ ?_; rotate_left; (focus (intro v hv; go_simp; rfl)); go_simp)
    (refine t_last 11 rfl (by kernel_rfl) rfl (by kernel_rfl) (by kernel_rfl) ?_; intro K hK)
    refine store_cell rfl _ _ _ rfl o 1 (.slice a9 n9 c9) (by go_simp) (by go_simp) rfl rfl 42 _ HR9.out infoRecs (by simp) ?_
    intro wa hra hua
    refine hK _ _ ?_
    have Xa := Lib.hid (K9.out wa hra hua)
    clear hra hua
    go_simp
    go_wp2_with fail
    go_ret
    obtain ⟨O', hx1, hx2⟩ := Xa.out
    exact ⟨rfl, _, O', hx1, S8.out.trans hx2⟩
  · have hq1 : (er == 0) = false := by simpa using her
    have hq2 : (er != 0) = true := by simpa using her
    go_wp2_with fail
    go_ret
    exact ⟨rfl, _, _, H5.out.le (Nat.le_succ n), S5.out⟩
theorem en_built17 (ix tm kd : Int) (a : Option Addr) (n c : Nat) : Tryz.prog.built 69 [(0, .int .i64 ix), (1, .int .i64 tm), (2, .int .i64 kd), (3, .slice a n c)] = some (En.cells ⟨ix, tm, kd, a, n, c⟩).toArray := by kernel_rfl
set_option maxRecDepth 100000 in
set_option maxHeartbeats 8000000 in
theorem aadd {w : World} {g p o : Nat} {F O : Nat → Prop} {s : RS} {n : Nat} (h : RO w g p o F O s n) (hn : n ≤ 1000) (kd : Int) (a : Option Addr) (dn dc : Nat) (l : List UInt8) (hd : Rd w a dn dc l) (hk : I64 kd) (ht : I64 s.term) (hlast : 0 ≤ s.q.last ∧ s.q.last ≤ 9000000000000000000) (hq : s.q.l.length + 1 ≤ 200) (hl : l.length ≤ 140737488355000) (hap : dn ≠ 0 → ∀ b off, a = some ⟨b, off, none⟩ → ¬ F b) :
    Calls Tryz.prog 42 #[.pointer (some ⟨g, 0, none⟩), .int .i64 kd, .slice a dn dc, .pointer (some ⟨o, 0, none⟩)] w fun x w' => x = .returned (.int .i64 (s.q.app (s.q.last + 1, s.term, kd, l)).2) ∧ ∃ F' O', RO w' g p o F' O' { s with q := (s.q.app (s.q.last + 1, s.term, kd, l)).1 } (n + 1) ∧ Sp17 w w' g F O F' O' := by
  obtain ⟨C, sa, sn, sc, hr, hc⟩ := h.rw.cells
  have K26 := Lib.hid (hr.at17 hc.c26)
  have K0 := Lib.hid (hr.at17 hc.c0)
  have H := Lib.hid h
  have HD := Lib.hid hd
  have HAP := Lib.hid hap
  have HT := Lib.hid ht
  have HK := Lib.hid hk
  have HQ := Lib.hid hq
  have HLL := Lib.hid hl
  obtain ⟨z, hz⟩ : ∃ z, s.q.app (s.q.last + 1, s.term, kd, l) = z := ⟨_, rfl⟩
  rw [hz]
  have HZ := Lib.hid hz
  have HW := Lib.hid (show IntKind.i64.wrap (s.q.last + 1) = s.q.last + 1 by rw [IntKind.wrap_i64]; omega)
  have HLI := Lib.hid (show I64 (s.q.last + 1) from ⟨by omega, by omega⟩)
  have hw := HW.out
  clear h hr hc hd hap ht hk hq hl hz
  go_enter Tryz.func42, Tryz.ntmps42
  go_wp2_with fail
  refine region_h (fun v => v.cell? ⟨g, 0, none⟩ = some (.int .i64 s.term) ∧ v.cell? ⟨g, 26, none⟩ = some (.pointer (some ⟨p, 0, none⟩))) (by kernel_rfl) (by kernel_rfl) ⟨K0.out, K26.out⟩ ?_
  obtain ⟨wd, hwd⟩ : ∃ wd, w.drew = wd := ⟨_, rfl⟩
  have D0 : Hid (Below w.heap.size w wd) := Lib.hid (by rw [← hwd]; exact (Below.refl _ _).drew)
  rw [hwd]
  clear hwd
  (refine h_read 0 rfl (by kernel_rfl) (by kernel_rfl) (h_free rfl) ?_ ?_ ?_; rotate_left; (focus (intro v hv; go_simp; rfl)); go_simp)
  (refine h_read 1 rfl (by kernel_rfl) (by kernel_rfl) (h_free rfl) ?_ ?_ ?_; rotate_left; (focus (intro v hv; go_simp; rfl)); go_simp)
  (refine h_read 2 rfl (by kernel_rfl) (by kernel_rfl) (h_free rfl) ?_ ?_ ?_; rotate_left; (focus (intro v hv; go_simp; rfl)); go_simp)
  (refine h_read 3 rfl (by kernel_rfl) (by kernel_rfl) (h_free rfl) ?_ ?_ ?_; rotate_left; (focus (intro v hv; go_simp; rfl)); go_simp)
  (refine h_read 4 rfl (by kernel_rfl) (by kernel_rfl) (h_free rfl) ?_ ?_ ?_; rotate_left; (focus (intro v hv; have q0 := hv.1; have q26 := hv.2; go_simp; rfl)); go_simp)
  (refine h_read 7 rfl (by kernel_rfl) (by kernel_rfl) (h_free rfl) ?_ ?_ ?_; rotate_left; (focus (intro v hv; go_simp; rfl)); go_simp)
  (refine h_read 8 rfl (by kernel_rfl) (by kernel_rfl) (h_free rfl) ?_ ?_ ?_; rotate_left; (focus (intro v hv; go_simp; rfl)); go_simp)
  (refine h_read 9 rfl (by kernel_rfl) (by kernel_rfl) (h_free rfl) ?_ ?_ ?_; rotate_left; (focus (intro v hv; go_simp; rfl)); go_simp)
  (refine h_read 10 rfl (by kernel_rfl) (by kernel_rfl) (h_free rfl) ?_ ?_ ?_; rotate_left; (focus (intro v hv; go_simp; rfl)); go_simp)
  (refine h_read 11 rfl (by kernel_rfl) (by kernel_rfl) (h_free rfl) ?_ ?_ ?_; rotate_left; (focus (intro v hv; have q0 := hv.1; have q26 := hv.2; go_simp; rfl)); go_simp)
  (refine h_read 12 rfl (by kernel_rfl) (by kernel_rfl) (h_free rfl) ?_ ?_ ?_; rotate_left; (focus (intro v hv; go_simp; rfl)); go_simp)
  (refine h_read 13 rfl (by kernel_rfl) (by kernel_rfl) (h_free rfl) ?_ ?_ ?_; rotate_left; (focus (intro v hv; go_simp; rfl)); go_simp)
  (refine h_read 15 rfl (by kernel_rfl) (by kernel_rfl) (h_free rfl) ?_ ?_ ?_; rotate_left; (focus (intro v hv; go_simp; rfl)); go_simp)
  (refine h_call 5 rfl (by kernel_rfl) (h_free rfl) 24 ?_ ?_ ?_; rotate_left; (focus (go_simp; rfl)))
  refine (qlast (H.out.mono D0.out).rw.log).mono ?_
  rintro x w4 ⟨rfl, hb4⟩
  have D4 := Lib.hid (D0.out.trans (hb4.mono D0.out.size))
  clear hb4
  refine ⟨_, rfl, ⟨(D4.out.cell (p := ⟨g, 0, none⟩) (World.block_lt_of_cell? w _ K0.out)).trans K0.out, (D4.out.cell (p := ⟨g, 26, none⟩) (World.block_lt_of_cell? w _ K26.out)).trans K26.out⟩, ?_⟩
  go_simp
  (refine h_read 6 rfl (by kernel_rfl) (by kernel_rfl) (h_free rfl) ?_ ?_ ?_; rotate_left; (focus (intro v hv; go_simp; rfl)); go_simp)
  (refine h_read 14 rfl (by kernel_rfl) (by kernel_rfl) (h_free rfl) ?_ ?_ ?_; rotate_left; (focus (intro v hv; go_simp; rfl)); go_simp)
  (refine h_call 16 rfl (by kernel_rfl) (h_free rfl) 79 ?_ ?_ ?_; rotate_left; (focus (go_simp; rfl)))
  refine (akeep (H.out.mono D4.out) hn ⟨s.q.last + 1, s.term, kd, a, dn, dc⟩ l ⟨HLI.out, HT.out, HK.out, HD.out.mono D4.out⟩ HQ.out HLL.out HAP.out).mono ?_
  rw [show s.q.app (pe ((⟨s.q.last + 1, s.term, kd, a, dn, dc⟩ : En), l)) = z from HZ.out]
  rintro x w5 ⟨rfl, h5⟩
  obtain ⟨F5, O5, h6, s6⟩ := h5
  obtain ⟨C5, sa5, sn5, sc5, hr5, hc5⟩ := h6.rw.cells
  have X6 := Lib.hid (show ∃ F' O', RO w5 g p o F' O' { s with q := z.1 } (n + 1) ∧ Sp17 w w5 g F O F' O' from ⟨F5, O5, h6, (Sp17.of_below D4.out).trans s6⟩)
  refine ⟨_, rfl, ⟨hr5.at17 hc5.c0, hr5.at17 hc5.c26⟩, ?_⟩
  clear hr5 hc5 h6 s6
  go_simp
  (refine h_read 17 rfl (by kernel_rfl) (by kernel_rfl) (h_free rfl) ?_ ?_ ?_; rotate_left; (focus (intro v hv; go_simp; rfl)); go_simp)
  refine h_done (by kernel_rfl) ?_
  go_wp2_with fail
  go_ret
  exact ⟨rfl, X6.out⟩
end Go.Proofs.YtjkkopbhdeljmaaGreat.W

namespace Go.Proofs.YtjkkopbhdeljmaaGreat.W
open Go Go.ChangeShapes Go.WideShapes Go.ChangeAt Go.RowKit

theorem owi_nil {w : World} {base : Nat} {v : Value} (h : OwI w base v []) : ∃ a c, v = .slice a 0 c := by
  rcases h.2 with ⟨rfl, -⟩ | ⟨g, c, cur, rfl, -⟩
  · exact ⟨_, _, rfl⟩
  · exact ⟨_, _, rfl⟩
/-- all members but one -/
def oth (c me : Int) : List Int := mlI (bits .andNot .i64 c (IntKind.i64.wrap (2 ^ me.toNat)))
set_option maxRecDepth 100000 in
set_option maxHeartbeats 8000000 in
theorem aothers {w : World} {g p : Nat} {F O : Nat → Prop} {s : RS} (h : RW w g p F O s) (hm : 0 ≤ s.me ∧ s.me ≤ 6) :
    Calls Tryz.prog 54 #[.pointer (some ⟨g, 0, none⟩)] w fun x w' => ∃ v, x = .returned v ∧ OwI w' w.heap.size v (oth (s.q.confAt s.q.last) s.me) ∧ Below w.heap.size w w' := by
  obtain ⟨C, sa, sn, sc, hr, hc⟩ := h.cells
  have K26 := Lib.hid (hr.at17 hc.c26)
  have K25 := Lib.hid (hr.at17 hc.c25)
  have H := Lib.hid h
  clear h hr hc
  go_enter Tryz.func54, Tryz.ntmps54
  go_wp2_with fail
  refine region_h (fun v => Below w.heap.size w v) (by kernel_rfl) (by kernel_rfl) (Below.refl _ _).drew ?_
  obtain ⟨wd, hwd⟩ : ∃ wd, w.drew = wd := ⟨_, rfl⟩
  have D0 : Hid (Below w.heap.size w wd) := Lib.hid (by rw [← hwd]; exact (Below.refl _ _).drew)
  rw [hwd]
  clear hwd
  (refine h_read 0 rfl (by kernel_rfl) (by kernel_rfl) (h_free rfl) ?_ ?_ ?_; rotate_left; (focus (intro v hv; go_simp; rfl)); go_simp)
  (refine h_read 1 rfl (by kernel_rfl) (by kernel_rfl) (h_free rfl) ?_ ?_ ?_; rotate_left; (focus (intro v hv; go_simp; rfl)); go_simp)
  (refine h_read 2 rfl (by kernel_rfl) (by kernel_rfl) (h_free rfl) ?_ ?_ ?_; rotate_left; (focus (intro v hv; go_simp; rfl)); go_simp)
  (refine h_read 3 rfl (by kernel_rfl) (by kernel_rfl) (h_free rfl) ?_ ?_ ?_; rotate_left; (focus (intro v hv; have q25 := (hv.cell (p := ⟨g, 25, none⟩) (World.block_lt_of_cell? w _ K25.out)).trans K25.out; have q26 := (hv.cell (p := ⟨g, 26, none⟩) (World.block_lt_of_cell? w _ K26.out)).trans K26.out; go_simp; rfl)); go_simp)
  (refine h_read 5 rfl (by kernel_rfl) (by kernel_rfl) (h_free rfl) ?_ ?_ ?_; rotate_left; (focus (intro v hv; go_simp; rfl)); go_simp)
  (refine h_read 6 rfl (by kernel_rfl) (by kernel_rfl) (h_free rfl) ?_ ?_ ?_; rotate_left; (focus (intro v hv; go_simp; rfl)); go_simp)
  (refine h_read 7 rfl (by kernel_rfl) (by kernel_rfl) (h_free rfl) ?_ ?_ ?_; rotate_left; (focus (intro v hv; go_simp; rfl)); go_simp)
  (refine h_read 8 rfl (by kernel_rfl) (by kernel_rfl) (h_free rfl) ?_ ?_ ?_; rotate_left; (focus (intro v hv; have q25 := (hv.cell (p := ⟨g, 25, none⟩) (World.block_lt_of_cell? w _ K25.out)).trans K25.out; have q26 := (hv.cell (p := ⟨g, 26, none⟩) (World.block_lt_of_cell? w _ K26.out)).trans K26.out; go_simp; rfl)); go_simp)
  (refine h_read 9 rfl (by kernel_rfl) (by kernel_rfl) (h_free rfl) ?_ ?_ ?_; rotate_left; (focus (intro v hv; go_simp; rfl)); go_simp)
  (refine h_call 4 rfl (by kernel_rfl) (h_free rfl) 26 ?_ ?_ ?_; rotate_left; (focus (go_simp; rfl)))
  refine (qconf (H.out.mono D0.out).log).mono ?_
  rintro x w4 ⟨rfl, hb4⟩
  have D4 := Lib.hid (D0.out.trans (hb4.mono D0.out.size))
  clear hb4
  refine ⟨_, rfl, D4.out, ?_⟩
  go_simp
  (refine h_read 10 rfl (by kernel_rfl) (by kernel_rfl) (h_free rfl) ?_ ?_ ?_; rotate_left; (focus (intro v hv; go_simp; rfl)); go_simp)
  (refine h_call 11 rfl (by kernel_rfl) (h_free rfl) 91 ?_ ?_ ?_; rotate_left; (focus (go_simp; rfl)))
  refine (plist _ w4).mono ?_
  rintro x w5 ⟨v5, rfl, hl5, hb5⟩
  have X5 := Lib.hid (hl5.base D4.out.size)
  have D5 := Lib.hid (D4.out.trans (hb5.mono D4.out.size))
  clear hl5 hb5
  refine ⟨_, rfl, D5.out, ?_⟩
  go_simp
  (refine h_read 12 rfl (by kernel_rfl) (by kernel_rfl) (h_free rfl) ?_ ?_ ?_; rotate_left; (focus (intro v hv; go_simp; rfl)); go_simp)
  refine h_done (by kernel_rfl) ?_
  go_wp2_with fail
  go_ret
  exact ⟨_, rfl, X5.out, D5.out⟩
set_option maxRecDepth 100000 in
set_option maxHeartbeats 8000000 in
theorem acall_alone {w : World} {g p o : Nat} {F O : Nat → Prop} {s : RS} {n : Nat} (h : RO w g p o F O s n) (hm : 0 ≤ s.me ∧ s.me ≤ 6) (ho : oth (s.q.confAt s.q.last) s.me = []) (hr : 0 ≤ s.round ∧ s.round ≤ 9000000000000000000) :
    Calls Tryz.prog 27 #[.pointer (some ⟨g, 0, none⟩), .pointer (some ⟨o, 0, none⟩)] w fun x w' => x = .returned (.tuple #[]) ∧ RO w' g p o F O { s with round := s.round + 1, waited := 0 } n ∧ Sp17 w w' g F O F O := by
  obtain ⟨C, sa, sn, sc, hrow, hc⟩ := h.rw.cells
  have c23 := hrow.at17 hc.c23
  have c31 := hrow.at17 hc.c31
  have z23 := hrow.frozen 23
  have z31 := hrow.frozen 31
  have hw : IntKind.i64.wrap (s.round + 1) = s.round + 1 := by rw [IntKind.wrap_i64]; omega
  have HROW := Lib.hid hrow
  have HC := Lib.hid hc
  have H := Lib.hid h
  have HO := Lib.hid ho
  obtain ⟨h1, s1, r1⟩ := h.set1 hrow 23 (.int .i64 (s.round + 1)) { s with round := s.round + 1 } (fun _ h => h.setRound _) rfl h.rw.l7
  obtain ⟨h2, s2, -⟩ := h1.set1 r1 31 (.int .i64 0) { s with round := s.round + 1, waited := 0 } (fun _ h => h.setWaited _) rfl h.rw.l7
  have s3 := s1.trans s2
  obtain ⟨w2, hw2⟩ : ∃ x, (w.setCell ⟨g, 23, none⟩ (.int .i64 (s.round + 1))).setCell ⟨g, 31, none⟩ (.int .i64 0) = x := ⟨_, rfl⟩
  rw [hw2] at h2 s3
  have HW2 := Lib.hid hw2
  have H2 := Lib.hid h2
  have S2 := Lib.hid s3
  clear h hrow hc ho h1 s1 r1 h2 s2 s3 hw2
  go_enter Tryz.func27, Tryz.ntmps27
  go_wp2_with (go_at_call 54; rw [HW2.out]; (with_reducible refine (aothers H2.out.rw hm).mono ?_); rintro x w3 ⟨v3, rfl, hl, hb⟩; rw [HO.out] at hl; obtain ⟨a3, c3, rfl⟩ := owi_nil hl; have H3 := Lib.hid (H2.out.mono hb); have S3 := Lib.hid (S2.out.trans (Sp17.of_below hb)); clear hl hb c23 c31 z23 z31)
  go_loopw [21] (fun i wr => i = .int .i64 0 ∧ wr = w3) (fun i _ => 0)
  case atStart => exact ⟨rfl, rfl⟩
  case round =>
    obtain ⟨rfl, rfl⟩ := hrel
    go_wp2_with fail
    first | go_end0 | (refine bodyPost_ret (results_none rfl _ _ _) rfl ?_)
    exact ⟨rfl, H3.out, S3.out⟩
theorem infoInt17 : (Tryz.prog.info? 3).map (·.size) = some 1 := by kernel_rfl
def leadZ : List Value := (List.replicate 22 (Value.int .i64 0)) ++ [.slice none 0 0]
theorem leadZ_one : ∀ v ∈ leadZ, v.oneCell' = true := by decide
theorem lead_size : (Tryz.prog.info? 56).map (·.size) = some 23 := by kernel_rfl
theorem lead_built : Tryz.prog.built 56 [] = some leadZ.toArray := by kernel_rfl
theorem splice_get17 {α : Type} (L cs : List α) (o i : Nat) (h : o + cs.length ≤ L.length) : (splice L o cs)[i]? = if i < o then L[i]? else if i < o + cs.length then cs[i - o]? else L[i]? := by
  unfold splice
  have ht : (L.take o).length = o := by rw [List.length_take]; omega
  by_cases h1 : i < o
  · rw [if_pos h1, List.getElem?_append_left (by omega), List.getElem?_take, if_pos h1]
  · rw [if_neg h1, List.getElem?_append_right (by omega), ht]
    by_cases h2 : i < o + cs.length
    · rw [if_pos h2, List.getElem?_append_left (by omega)]
    · rw [if_neg h2, List.getElem?_append_right (by omega), List.getElem?_drop]
      congr 1; omega
def zero7 : List Int := [0, 0, 0, 0, 0, 0, 0]
theorem RC.lead {C : List Value} {s : RS} {p : Nat} {sv : Value} (h : RC C s p sv) : RC (splice C 2 leadZ) { s with nx := zero7, mt := zero7, hd := zero7, round := 0 } p sv := by
  have hl := h.len
  have hz : leadZ.length = 23 := rfl
  have key := fun i => splice_get17 C leadZ 2 i (by rw [hz, hl]; decide)
  have hi2 : ∀ i, 25 ≤ i → (splice C 2 leadZ)[i]? = C[i]? := fun i hi => by rw [key i, if_neg (by omega), if_neg (by rw [hz]; omega)]
  have hi1 : ∀ i, i < 2 → (splice C 2 leadZ)[i]? = C[i]? := fun i hi => by rw [key i, if_pos hi]
  have hi0 : ∀ i, 2 ≤ i → i < 25 → (splice C 2 leadZ)[i]? = leadZ[i - 2]? := fun i h1 h2 => by rw [key i, if_neg (by omega), if_pos (by rw [hz]; omega)]
  obtain ⟨l, a0, a1, an, am, ah, a23, a24, a25, a26, a27, a28, a29, a30, a31, a32, a33⟩ := h
  have h7 : ∀ i, i < 7 → i = 0 ∨ i = 1 ∨ i = 2 ∨ i = 3 ∨ i = 4 ∨ i = 5 ∨ i = 6 := fun i hi => by omega
  refine ⟨?_, (hi1 0 (by omega)).trans a0, (hi1 1 (by omega)).trans a1, ?_, ?_, ?_, hi0 23 (by omega) (by omega), hi0 24 (by omega) (by omega), (hi2 _ (by omega)).trans a25, (hi2 _ (by omega)).trans a26, (hi2 _ (by omega)).trans a27, (hi2 _ (by omega)).trans a28, (hi2 _ (by omega)).trans a29, (hi2 _ (by omega)).trans a30, (hi2 _ (by omega)).trans a31, (hi2 _ (by omega)).trans a32, (hi2 _ (by omega)).trans a33⟩
  · unfold splice; simp only [List.length_append, List.length_take, List.length_drop]; rw [hz, hl]; rfl
  · intro i hi; rw [hi0 _ (by omega) (by omega)]; rcases h7 i hi with rfl | rfl | rfl | rfl | rfl | rfl | rfl <;> rfl
  · intro i hi; rw [hi0 _ (by omega) (by omega)]; rcases h7 i hi with rfl | rfl | rfl | rfl | rfl | rfl | rfl <;> rfl
  · intro i hi; rw [hi0 _ (by omega) (by omega)]; rcases h7 i hi with rfl | rfl | rfl | rfl | rfl | rfl | rfl <;> rfl
theorem set_next (k : Nat) (hk : k < 7) {x : Int} : (List.replicate k x ++ zero7.drop k).set k x = List.replicate (k + 1) x ++ zero7.drop (k + 1) := by
  rcases (show k = 0 ∨ k = 1 ∨ k = 2 ∨ k = 3 ∨ k = 4 ∨ k = 5 ∨ k = 6 by omega) with rfl | rfl | rfl | rfl | rfl | rfl | rfl <;> rfl
theorem RC.setNx {C : List Value} {s : RS} {p : Nat} {sv : Value} (h : RC C s p sv) (k : Nat) (hk : k < 7) (h7 : s.nx.length = 7) (x : Int) : RC (C.set (2 + k) (.int .i64 x)) { s with nx := s.nx.set k x } p sv := by
  obtain ⟨l, a0, a1, an, am, ah, a23, a24, a25, a26, a27, a28, a29, a30, a31, a32, a33⟩ := h
  refine ⟨by simp [l], ?_, ?_, ?_, ?_, ?_, ?_, ?_, ?_, ?_, ?_, ?_, ?_, ?_, ?_, ?_, ?_⟩
  case refine_3 =>
    intro i hi
    by_cases hik : i = k
    · subst hik
      rw [List.getElem?_set_self (by omega)]
      simp [List.getD_eq_getElem?_getD, List.getElem?_set, h7, hk]
    · rw [List.getElem?_set_ne (by omega), an i hi]
      simp [List.getD_eq_getElem?_getD, List.getElem?_set_ne (Ne.symm hik)]
  all_goals first | (rw [List.getElem?_set_ne (by omega)]; assumption) | (intro i hi; rw [List.getElem?_set_ne (by omega)]; first | exact am i hi | exact ah i hi)
set_option maxRecDepth 100000 in
set_option maxHeartbeats 16000000 in
theorem alead_alone {w : World} {g p o : Nat} {F O : Nat → Prop} {s : RS} {n : Nat} (h : RO w g p o F O s n) (hn : n ≤ 900) (hm : 0 ≤ s.me ∧ s.me ≤ 6) (ht : I64 s.term) (hlast : 0 ≤ s.q.last ∧ s.q.last ≤ 9000000000000000000) (hq : s.q.l.length + 1 ≤ 200) (q' : LS) (hq' : (s.q.app (s.q.last + 1, s.term, 0, [])).1 = q') (ho : oth (q'.confAt q'.last) s.me = []) :
    Calls Tryz.prog 70 #[.pointer (some ⟨g, 0, none⟩), .pointer (some ⟨o, 0, none⟩)] w fun x w' => x = .returned (.tuple #[]) ∧ ∃ F' O', RO w' g p o F' O' { s with role := 3, leader := s.me + 1, nx := List.replicate 7 (s.q.last + 1), mt := zero7, hd := zero7, round := 1, waited := 0, q := q' } (n + 1) ∧ Sp17 w w' g F O F' O' := by
  obtain ⟨C, sa, sn, sc, hrow, hc⟩ := h.rw.cells
  have c25 := hrow.at17 hc.c25
  have c28 := hrow.at17 hc.c28
  have c29 := hrow.at17 hc.c29
  have z28 := hrow.frozen 28
  have z29 := hrow.frozen 29
  have hw : IntKind.i64.wrap (s.me + 1) = s.me + 1 := by rw [IntKind.wrap_i64]; omega
  obtain ⟨h1, s1, r1⟩ := h.set1 hrow 28 (.int .i64 3) { s with role := 3 } (fun _ h => h.setRole _) rfl h.rw.l7
  obtain ⟨h2, s2, r2⟩ := h1.set1 r1 29 (.int .i64 (s.me + 1)) { s with role := 3, leader := s.me + 1 } (fun _ h => h.setLeader _) rfl h.rw.l7
  have s3 := s1.trans s2
  obtain ⟨w2, hw2⟩ : ∃ x, (w.setCell ⟨g, 28, none⟩ (.int .i64 3)).setCell ⟨g, 29, none⟩ (.int .i64 (s.me + 1)) = x := ⟨_, rfl⟩
  rw [hw2] at h2 s3 r2
  have HW2 := Lib.hid hw2
  have H2 := Lib.hid h2
  have S2 := Lib.hid s3
  have R2 := Lib.hid r2
  have LSZ := Lib.hid lead_size
  have hCl := hc.len
  have HCL := Lib.hid (show 2 + leadZ.length ≤ ((C.set 28 (.int .i64 3)).set 29 (.int .i64 (s.me + 1))).length by simp [hCl]; decide)
  have HQ' := Lib.hid hq'
  have HO := Lib.hid ho
  have HT := Lib.hid ht
  have HLA := Lib.hid hlast
  have HQ := Lib.hid hq
  have hw3 : IntKind.i64.wrap (s.q.last + 1) = s.q.last + 1 := by rw [IntKind.wrap_i64]; omega
  clear h hrow hc ho h1 s1 r1 h2 s2 s3 hw2 r2 hq' hCl ht hlast hq
  go_enter Tryz.func70, Tryz.ntmps70
  go_wp2_with (first
    | ((with_reducible refine build_row (o := ⟨some 17, _, _, _, _, _⟩) rfl _ _ rfl leadZ ?_ ?_); (focus (go_simp; exact lead_built)))
    | (rw [HW2.out]; (with_reducible refine store_part (o := ⟨none, _, _, _, _, _⟩) rfl _ (.tmp 19) _ rfl g 2 leadZ ?_ ?_ 59 _ R2.out ?_ ?_ leadZ_one ?_); (focus (first | (go_simp; done) | (go_simp; rfl))); (focus (first | (go_simp; done) | (go_simp; rfl))); (focus (exact LSZ.out)); (focus (exact HCL.out)); intro w3 hr hu; obtain ⟨h3, s3⟩ := H2.out.put R2.out hr hu (s' := { s with role := 3, leader := s.me + 1, nx := zero7, mt := zero7, hd := zero7, round := 0 }) (fun _ h => h.lead) rfl ⟨rfl, rfl, rfl⟩; have H3 := Lib.hid h3; have S3 := Lib.hid (S2.out.trans s3); clear hr hu h3 s3 c25 c28 c29 z28 z29))
  go_loopw [4, 20] (fun _ i wr => ∃ k : Nat, i = .int .i64 (k : Int) ∧ k ≤ 7 ∧ Hid (RO wr g p o F O { s with role := 3, leader := s.me + 1, nx := List.replicate k (s.q.last + 1) ++ zero7.drop k, mt := zero7, hd := zero7, round := 0 } n) ∧ Hid (Sp17 w wr g F O F O)) (fun _ i _ => 7 - (intOf i).toNat)
  case atStart => exact ⟨0, rfl, by omega, H3, S3⟩
  case round =>
    obtain ⟨k, rfl, hk, HK, SK⟩ := hrel
    by_cases hlt : k < 7
    · have g1 : (0 : Int) ≤ (k : Int) := by omega
      have g2 : (k : Int) < 7 := by omega
      obtain ⟨C4, sa4, sn4, sc4, hr4, hc4⟩ := HK.out.rw.cells
      have K26 := Lib.hid (hr4.at17 hc4.c26)
      have R4 := Lib.hid hr4
      have L4 := Lib.hid hc4.len
      clear hr4 hc4
      go_wp2_with fail
      have D4 : Hid (Below wr.heap.size wr wr.drew) := Lib.hid (Below.refl _ _).drew
      refine region_h (fun v => v.cell? ⟨g, 26, none⟩ = some (.pointer (some ⟨p, 0, none⟩))) (by kernel_rfl) (by kernel_rfl) K26.out ?_
      obtain ⟨wd, hwd⟩ : ∃ wd, wr.drew = wd := ⟨_, rfl⟩
      rw [hwd] at D4 ⊢
      clear hwd
      (refine h_read 0 rfl (by kernel_rfl) (by kernel_rfl) (h_free rfl) ?_ ?_ ?_; rotate_left; (focus (intro v hv; go_simp; rfl)); go_simp)
      (refine h_read 1 rfl (by kernel_rfl) (by kernel_rfl) (h_free rfl) ?_ ?_ ?_; rotate_left; (focus (intro v hv; go_simp; rfl)); go_simp)
      (refine h_read 2 rfl (by kernel_rfl) (by kernel_rfl) (h_free rfl) ?_ ?_ ?_; rotate_left; (focus (intro v hv; go_simp; rfl)); go_simp)
      (refine h_read 3 rfl (by kernel_rfl) (by kernel_rfl) (h_free rfl) ?_ ?_ ?_; rotate_left; (focus (intro v hv; go_simp; rfl)); go_simp)
      (refine h_read 4 rfl (by kernel_rfl) (by kernel_rfl) (h_free rfl) ?_ ?_ ?_; rotate_left; (focus (intro v hv; go_simp; rfl)); go_simp)
      (refine h_read 5 rfl (by kernel_rfl) (by kernel_rfl) (h_free rfl) ?_ ?_ ?_; rotate_left; (focus (intro v hv; have q26 := hv; go_simp; rfl)); go_simp)
      (refine h_read 8 rfl (by kernel_rfl) (by kernel_rfl) (h_free rfl) ?_ ?_ ?_; rotate_left; (focus (intro v hv; go_simp; rfl)); go_simp)
      (refine h_read 9 rfl (by kernel_rfl) (by kernel_rfl) (h_free rfl) ?_ ?_ ?_; rotate_left; (focus (intro v hv; go_simp; rfl)); go_simp)
      (refine h_read 10 rfl (by kernel_rfl) (by kernel_rfl) (h_free rfl) ?_ ?_ ?_; rotate_left; (focus (intro v hv; go_simp; rfl)); go_simp)
      (refine h_call 6 rfl (by kernel_rfl) (h_free rfl) 24 ?_ ?_ ?_; rotate_left; (focus (go_simp; rfl)))
      refine (qlast (HK.out.mono D4.out).rw.log).mono ?_
      rintro x w5 ⟨rfl, hb5⟩
      have D5 := Lib.hid (D4.out.trans (hb5.mono D4.out.size))
      clear hb5
      refine ⟨_, rfl, (D5.out.cell (p := ⟨g, 26, none⟩) (World.block_lt_of_cell? wr _ K26.out)).trans K26.out, ?_⟩
      go_simp
      (refine h_read 7 rfl (by kernel_rfl) (by kernel_rfl) (h_free rfl) ?_ ?_ ?_; rotate_left; (focus (intro v hv; go_simp; rfl)); go_simp)
      (refine h_read 11 rfl (by kernel_rfl) (by kernel_rfl) (h_free rfl) ?_ ?_ ?_; rotate_left; (focus (intro v hv; go_simp; rfl)); go_simp)
      (refine h_list 12 rfl (by kernel_rfl) ?_; intro K hK)
      have R5 := Lib.hid (R4.out.below D5.out R4.out.lt)
      refine store_cell rfl _ _ _ rfl g (2 + k) (.int .i64 (s.q.last + 1)) (by go_simp) (by go_simp) rfl rfl 59 _ R5.out infoInt17 (by rw [L4.out]; omega) ?_
      intro w6 hr6 hu6
      obtain ⟨h6, s6⟩ := (HK.out.mono D5.out).put R5.out hr6 hu6 (s' := { s with role := 3, leader := s.me + 1, nx := (List.replicate k (s.q.last + 1) ++ zero7.drop k).set k (s.q.last + 1), mt := zero7, hd := zero7, round := 0 }) (fun _ h => h.setNx k hlt (by rw [List.length_append, List.length_replicate, List.length_drop]; show k + (7 - k) = 7; omega) _) rfl ⟨by rw [List.length_set, List.length_append, List.length_replicate, List.length_drop]; show k + (7 - k) = 7; omega, rfl, rfl⟩
      rw [set_next k (by omega)] at h6
      have H6 := Lib.hid h6
      have S6 := Lib.hid (SK.out.trans ((Sp17.of_below D5.out).trans s6))
      refine hK _ _ ((hr6.cellV 26).trans (by rw [List.getElem?_set_ne (by omega)]; rw [← R5.out.cellV]; exact (D5.out.cell (p := ⟨g, 26, none⟩) (World.block_lt_of_cell? wr _ K26.out)).trans K26.out)) ?_
      clear hr6 hu6 h6 s6
      go_simp
      refine h_done (by kernel_rfl) ?_
      go_wp2_with fail
      go_roundw
      case rel => exact ⟨k + 1, vint (by omega), by omega, H6, S6⟩
      case measure => simp [intOf]; omega
    · obtain rfl : k = 7 := by omega
      have HK' : Hid (RO wr g p o F O { s with role := 3, leader := s.me + 1, nx := List.replicate 7 (s.q.last + 1), mt := zero7, hd := zero7, round := 0 } n) := Lib.hid (by simpa [zero7] using HK.out)
      have HADD := Lib.hid (aadd HK'.out (by omega) 0 none 0 0 [] (Rd_nil wr) ⟨by decide, by decide⟩ HT.out HLA.out HQ.out (by decide) (fun h => absurd rfl h))
      go_wp2_with (first
        | (go_at_call 42; (with_reducible refine HADD.out.mono ?_); rintro x w7 ⟨rfl, F7, O7, h7, s7⟩; rw [show (LS.app s.q (s.q.last + 1, s.term, 0, [])).1 = q' from HQ'.out] at h7; have HCA := Lib.hid (acall_alone h7 hm HO.out ⟨by show (0 : Int) ≤ 0; decide, by show (0 : Int) ≤ 9000000000000000000; decide⟩); have S7 := Lib.hid (SK.out.trans s7); clear h7 s7)
        | (go_at_call 27; (with_reducible refine HCA.out.mono ?_); rintro x w8 ⟨rfl, h8, s8⟩; have H8 := Lib.hid h8; have S8 := Lib.hid (S7.out.trans s8); clear h8 s8))
      first | go_end0 | (refine bodyPost_ret (results_none rfl _ _ _) rfl ?_)
      exact ⟨rfl, _, _, H8.out, S8.out⟩
end Go.Proofs.YtjkkopbhdeljmaaGreat.W

namespace Go.Proofs.YtjkkopbhdeljmaaGreat.W
open Go Go.ChangeShapes Go.WideShapes Go.ChangeAt Go.RowKit

theorem RC.setHard {C : List Value} {s : RS} {p : Nat} {sv : Value} (h : RC C s p sv) (a b : Int) : RC (splice C 0 [.int .i64 a, .int .i64 b]) { s with term := a, vote := b } p sv := by
  have hl := h.len
  have key := fun i => splice_get17 C [Value.int .i64 a, .int .i64 b] 0 i (by simp [hl])
  have hi2 : ∀ i, 2 ≤ i → (splice C 0 [Value.int .i64 a, .int .i64 b])[i]? = C[i]? := fun i hi => by rw [key i, if_neg (by omega), if_neg (by show ¬ i < 0 + 2; omega)]
  obtain ⟨l, a0, a1, an, am, ah, a23, a24, a25, a26, a27, a28, a29, a30, a31, a32, a33⟩ := h
  refine ⟨?_, rfl, rfl, fun i hi => (hi2 _ (by omega)).trans (an i hi), fun i hi => (hi2 _ (by omega)).trans (am i hi), fun i hi => (hi2 _ (by omega)).trans (ah i hi), (hi2 _ (by omega)).trans a23, (hi2 _ (by omega)).trans a24, (hi2 _ (by omega)).trans a25, (hi2 _ (by omega)).trans a26, (hi2 _ (by omega)).trans a27, (hi2 _ (by omega)).trans a28, (hi2 _ (by omega)).trans a29, (hi2 _ (by omega)).trans a30, (hi2 _ (by omega)).trans a31, (hi2 _ (by omega)).trans a32, (hi2 _ (by omega)).trans a33⟩
  unfold splice; simp [hl]
theorem hard_size : (Tryz.prog.info? 52).map (·.size) = some 2 := by kernel_rfl
theorem hard_built (a b : Int) : Tryz.prog.built 52 [(0, .int .i64 a), (1, .int .i64 b)] = some [.int .i64 a, .int .i64 b].toArray := by kernel_rfl
theorem hard_one (a b : Int) : ∀ v ∈ [Value.int .i64 a, .int .i64 b], v.oneCell' = true := by
  intro v hv
  simp at hv
  rcases hv with rfl | rfl <;> rfl
/-- who asks, or stands, and is alone -/
def votesOf (me : Int) : Int := wrap64 (2 ^ me.toNat)
/-- a node that leads alone -/
def RS.led (s : RS) (t : Int) (q' : LS) : RS := { s with term := t, vote := s.me + 1, role := 3, leader := s.me + 1, votes := votesOf s.me, nx := List.replicate 7 (s.q.last + 1), mt := zero7, hd := zero7, round := 1, waited := 0, q := q' }
set_option maxRecDepth 100000 in
set_option maxHeartbeats 16000000 in
theorem astand_alone {w : World} {g p o : Nat} {F O : Nat → Prop} {s : RS} {n : Nat} (h : RO w g p o F O s n) (hn : n ≤ 800) (hm : 0 ≤ s.me ∧ s.me ≤ 6) (ht : 0 ≤ s.term ∧ s.term ≤ 9000000000000000000) (hlast : 0 ≤ s.q.last ∧ s.q.last ≤ 9000000000000000000) (hq : s.q.l.length + 1 ≤ 200) (q' : LS) (hq' : (s.q.app (s.q.last + 1, s.term + 1, 0, [])).1 = q') (ho : oth (q'.confAt q'.last) s.me = []) (hwon : quoM (s.q.confAt s.q.last) (votesOf s.me) = true) :
    Calls Tryz.prog 58 #[.pointer (some ⟨g, 0, none⟩), .pointer (some ⟨o, 0, none⟩)] w fun x w' => x = .returned (.tuple #[]) ∧ ∃ F' O', RO w' g p o F' O' (s.led (s.term + 1) q') (n + 2) ∧ Sp17 w w' g F O F' O' := by
  obtain ⟨C, sa, sn, sc, hrow, hc⟩ := h.rw.cells
  have K0 := Lib.hid (hrow.at17 hc.c0)
  have K25 := Lib.hid (hrow.at17 hc.c25)
  have hw1 : IntKind.i64.wrap (s.me + 1) = s.me + 1 := by rw [IntKind.wrap_i64]; omega
  have hw2 : IntKind.i64.wrap (s.term + 1) = s.term + 1 := by rw [IntKind.wrap_i64]; omega
  have HROW := Lib.hid hrow
  have HCL := Lib.hid hc.len
  have H := Lib.hid h
  have HO := Lib.hid ho
  have HWN := Lib.hid hwon
  have HQ' := Lib.hid hq'
  have HLA := Lib.hid hlast
  have HQ := Lib.hid hq
  have HTT := Lib.hid ht
  have hme0 := hm.1
  have hme6 := hm.2
  clear h hrow hc ho hwon hq' hlast hq ht
  go_enter Tryz.func58, Tryz.ntmps58
  go_wp2_with fail
  have D4 : Hid (Below w.heap.size w w.drew) := Lib.hid (Below.refl _ _).drew
  refine region_t (fun v => Below w.heap.size w v) 15 (by kernel_rfl) (by kernel_rfl) (by kernel_rfl) D4.out ?_
  obtain ⟨wd, hwd⟩ : ∃ wd, w.drew = wd := ⟨_, rfl⟩
  rw [hwd] at D4 ⊢
  clear hwd
  (refine t_read 0 rfl (by kernel_rfl) (by kernel_rfl) (by kernel_rfl) (t_free rfl) ?_ ?_ ?_; rotate_left; (focus (intro v hv; go_simp; rfl)); go_simp)
  (refine t_read 1 rfl (by kernel_rfl) (by kernel_rfl) (by kernel_rfl) (t_free rfl) ?_ ?_ ?_; rotate_left; (focus (intro v hv; go_simp; rfl)); go_simp)
  (refine t_read 2 rfl (by kernel_rfl) (by kernel_rfl) (by kernel_rfl) (t_free rfl) ?_ ?_ ?_; rotate_left; (focus (intro v hv; go_simp; rfl)); go_simp)
  (refine t_read 3 rfl (by kernel_rfl) (by kernel_rfl) (by kernel_rfl) (t_free rfl) ?_ ?_ ?_; rotate_left; (focus (intro v hv; go_simp; rfl)); go_simp)
  (refine t_read 4 rfl (by kernel_rfl) (by kernel_rfl) (by kernel_rfl) (t_free rfl) ?_ ?_ ?_; rotate_left; (focus (intro v hv; go_simp; rfl)); go_simp)
  (refine t_read 5 rfl (by kernel_rfl) (by kernel_rfl) (by kernel_rfl) (t_free rfl) ?_ ?_ ?_; rotate_left; (focus (intro v hv; have q0 := (hv.cell (p := ⟨g, 0, none⟩) (World.block_lt_of_cell? w _ K0.out)).trans K0.out; have q25 := (hv.cell (p := ⟨g, 25, none⟩) (World.block_lt_of_cell? w _ K25.out)).trans K25.out; have qb := hard_built (s.term + 1) (s.me + 1); go_simp; rfl)); go_simp)
  (refine t_read 6 rfl (by kernel_rfl) (by kernel_rfl) (by kernel_rfl) (t_free rfl) ?_ ?_ ?_; rotate_left; (focus (intro v hv; go_simp; rfl)); go_simp)
  (refine t_read 7 rfl (by kernel_rfl) (by kernel_rfl) (by kernel_rfl) (t_free rfl) ?_ ?_ ?_; rotate_left; (focus (intro v hv; go_simp; rfl)); go_simp)
  (refine t_read 8 rfl (by kernel_rfl) (by kernel_rfl) (by kernel_rfl) (t_free rfl) ?_ ?_ ?_; rotate_left; (focus (intro v hv; go_simp; rfl)); go_simp)
  (refine t_read 9 rfl (by kernel_rfl) (by kernel_rfl) (by kernel_rfl) (t_free rfl) ?_ ?_ ?_; rotate_left; (focus (intro v hv; go_simp; rfl)); go_simp)
  (refine t_read 10 rfl (by kernel_rfl) (by kernel_rfl) (by kernel_rfl) (t_free rfl) ?_ ?_ ?_; rotate_left; (focus (intro v hv; have q0 := (hv.cell (p := ⟨g, 0, none⟩) (World.block_lt_of_cell? w _ K0.out)).trans K0.out; have q25 := (hv.cell (p := ⟨g, 25, none⟩) (World.block_lt_of_cell? w _ K25.out)).trans K25.out; have qb := hard_built (s.term + 1) (s.me + 1); go_simp; rfl)); go_simp)
  (refine t_read 11 rfl (by kernel_rfl) (by kernel_rfl) (by kernel_rfl) (t_free rfl) ?_ ?_ ?_; rotate_left; (focus (intro v hv; go_simp; rfl)); go_simp)
  (refine t_read 12 rfl (by kernel_rfl) (by kernel_rfl) (by kernel_rfl) (t_free rfl) ?_ ?_ ?_; rotate_left; (focus (intro v hv; have q0 := (hv.cell (p := ⟨g, 0, none⟩) (World.block_lt_of_cell? w _ K0.out)).trans K0.out; have q25 := (hv.cell (p := ⟨g, 25, none⟩) (World.block_lt_of_cell? w _ K25.out)).trans K25.out; have qb := hard_built (s.term + 1) (s.me + 1); go_simp; rfl)); go_simp)
  (refine t_one 13 rfl (by kernel_rfl) rfl rfl ?_ ?_ ?_; rotate_left; (focus (go_simp; rfl)); go_simp)
  (refine t_read 14 rfl (by kernel_rfl) (by kernel_rfl) (by kernel_rfl) (t_free rfl) ?_ ?_ ?_; rotate_left; (focus (intro v hv; go_simp; rfl)); go_simp)
  (refine t_last 15 rfl (by kernel_rfl) rfl (by kernel_rfl) (by kernel_rfl) ?_; intro K hK)
  have R1 := HROW.out.below D4.out HROW.out.lt
  refine store_part rfl _ _ _ rfl g 0 [.int .i64 (s.term + 1), .int .i64 (s.me + 1)] (by go_simp) (by go_simp) 59 _ R1 hard_size (by simp [HCL.out]) (hard_one _ _) ?_
  intro w1 hr1 hu1
  obtain ⟨h1, s1⟩ := (H.out.mono D4.out).put R1 hr1 hu1 (s' := { s with term := s.term + 1, vote := s.me + 1 }) (fun _ h => h.setHard _ _) rfl H.out.rw.l7
  have S1 := Lib.hid ((Sp17.of_below (g := g) (F := F) (O := O) D4.out).trans s1)
  have HRH := Lib.hid (arechard h1 (by omega))
  refine hK _ _ ?_
  clear hr1 hu1 h1 s1 R1 K0 K25
  go_simp
  go_wp2_with (go_at_call 94; (with_reducible refine HRH.out.mono ?_); rintro x w2 ⟨rfl, O2, h2, s2⟩; obtain ⟨C2, sa2, sn2, sc2, r2, rc2⟩ := h2.rw.cells; have c25 := r2.at17 rc2.c25; have c28 := r2.at17 rc2.c28; have c29 := r2.at17 rc2.c29; have c31 := r2.at17 rc2.c31; have c32 := r2.at17 rc2.c32; have z28 := r2.frozen 28; have z29 := r2.frozen 29; have z31 := r2.frozen 31; have z32 := r2.frozen 32; have H2 := Lib.hid h2; have R2 := Lib.hid r2; have S2 := Lib.hid (S1.out.trans s2); clear h2 s2 rc2 r2)
  obtain ⟨h3, s3, r3⟩ := H2.out.set1 R2.out 28 (.int .i64 2) { ({ s with term := s.term + 1, vote := s.me + 1 } : RS) with role := 2 } (fun _ h => h.setRole _) rfl H2.out.rw.l7
  obtain ⟨h4, s4, r4⟩ := h3.set1 r3 29 (.int .i64 0) { ({ s with term := s.term + 1, vote := s.me + 1 } : RS) with role := 2, leader := 0 } (fun _ h => h.setLeader _) rfl H2.out.rw.l7
  obtain ⟨h5, s5, r5⟩ := h4.set1 r4 31 (.int .i64 0) { ({ s with term := s.term + 1, vote := s.me + 1 } : RS) with role := 2, leader := 0, waited := 0 } (fun _ h => h.setWaited _) rfl H2.out.rw.l7
  obtain ⟨h6, s6, r6⟩ := h5.set1 r5 32 (.int .i64 (votesOf s.me)) { ({ s with term := s.term + 1, vote := s.me + 1 } : RS) with role := 2, leader := 0, waited := 0, votes := votesOf s.me } (fun _ h => h.setVotes _) rfl H2.out.rw.l7
  have s36 := S2.out.trans (((s3.trans s4).trans s5).trans s6)
  obtain ⟨w3, hw3⟩ : ∃ x, (((w2.setCell ⟨g, 28, none⟩ (.int .i64 2)).setCell ⟨g, 29, none⟩ (.int .i64 0)).setCell ⟨g, 31, none⟩ (.int .i64 0)).setCell ⟨g, 32, none⟩ (.int .i64 (votesOf s.me)) = x := ⟨_, rfl⟩
  rw [hw3] at h6 s36
  unfold votesOf at hw3
  rw [hw3]
  have H3 := Lib.hid h6
  have S3 := Lib.hid s36
  clear h3 s3 r3 h4 s4 r4 h5 s5 r5 h6 s6 r6 s36 hw3 c25 c28 c29 c31 c32 z28 z29 z31 z32
  obtain ⟨C3, sa3, sn3, sc3, r3, rc3⟩ := H3.out.rw.cells
  have K26 := Lib.hid (r3.at17 rc3.c26)
  have K32 := Lib.hid (r3.at17 rc3.c32)
  clear r3 rc3
  refine region_h (fun v => Below w3.heap.size w3 v) (by kernel_rfl) (by kernel_rfl) (Below.refl _ _).drew ?_
  obtain ⟨we, hwe⟩ : ∃ we, w3.drew = we := ⟨_, rfl⟩
  have E0 : Hid (Below w3.heap.size w3 we) := Lib.hid (by rw [← hwe]; exact (Below.refl _ _).drew)
  rw [hwe]
  clear hwe
  (refine h_read 0 rfl (by kernel_rfl) (by kernel_rfl) (h_free rfl) ?_ ?_ ?_; rotate_left; (focus (intro v hv; go_simp; rfl)); go_simp)
  (refine h_read 1 rfl (by kernel_rfl) (by kernel_rfl) (h_free rfl) ?_ ?_ ?_; rotate_left; (focus (intro v hv; go_simp; rfl)); go_simp)
  (refine h_read 2 rfl (by kernel_rfl) (by kernel_rfl) (h_free rfl) ?_ ?_ ?_; rotate_left; (focus (intro v hv; go_simp; rfl)); go_simp)
  (refine h_read 3 rfl (by kernel_rfl) (by kernel_rfl) (h_free rfl) ?_ ?_ ?_; rotate_left; (focus (intro v hv; have q26 := (hv.cell (p := ⟨g, 26, none⟩) (World.block_lt_of_cell? w3 _ K26.out)).trans K26.out; have q32 := (hv.cell (p := ⟨g, 32, none⟩) (World.block_lt_of_cell? w3 _ K32.out)).trans K32.out; go_simp; rfl)); go_simp)
  (refine h_read 5 rfl (by kernel_rfl) (by kernel_rfl) (h_free rfl) ?_ ?_ ?_; rotate_left; (focus (intro v hv; go_simp; rfl)); go_simp)
  (refine h_read 6 rfl (by kernel_rfl) (by kernel_rfl) (h_free rfl) ?_ ?_ ?_; rotate_left; (focus (intro v hv; go_simp; rfl)); go_simp)
  (refine h_read 7 rfl (by kernel_rfl) (by kernel_rfl) (h_free rfl) ?_ ?_ ?_; rotate_left; (focus (intro v hv; go_simp; rfl)); go_simp)
  (refine h_read 8 rfl (by kernel_rfl) (by kernel_rfl) (h_free rfl) ?_ ?_ ?_; rotate_left; (focus (intro v hv; have q26 := (hv.cell (p := ⟨g, 26, none⟩) (World.block_lt_of_cell? w3 _ K26.out)).trans K26.out; have q32 := (hv.cell (p := ⟨g, 32, none⟩) (World.block_lt_of_cell? w3 _ K32.out)).trans K32.out; go_simp; rfl)); go_simp)
  (refine h_call 4 rfl (by kernel_rfl) (h_free rfl) 26 ?_ ?_ ?_; rotate_left; (focus (go_simp; rfl)))
  refine (qconf (H3.out.mono E0.out).rw.log).mono ?_
  rintro x w5 ⟨rfl, hb5⟩
  have E5 := Lib.hid (E0.out.trans (hb5.mono E0.out.size))
  clear hb5
  refine ⟨_, rfl, E5.out, ?_⟩
  go_simp
  (refine h_call 9 rfl (by kernel_rfl) (h_free rfl) 57 ?_ ?_ ?_; rotate_left; (focus (go_simp; rfl)))
  refine (pWon (s.q.confAt s.q.last) (votesOf s.me) w5).mono ?_
  rw [HWN.out]
  rintro x w6 ⟨rfl, hb6⟩
  have E6 := Lib.hid (E5.out.trans (hb6.mono E5.out.size))
  have H6 := Lib.hid (H3.out.mono E6.out)
  have S6 := Lib.hid (S3.out.trans (Sp17.of_below E6.out))
  clear hb6
  refine ⟨_, rfl, E6.out, ?_⟩
  go_simp
  refine h_done (by kernel_rfl) ?_
  have HC6 := Lib.hid (H6.out.rw.cells)
  have HLD := Lib.hid (alead_alone H6.out (by omega) hm ⟨by show -9223372036854775808 ≤ s.term + 1; have := HTT.out; omega, by show s.term + 1 ≤ 9223372036854775807; have := HTT.out; omega⟩ HLA.out HQ.out q' HQ'.out HO.out)
  go_wp2_with (go_at_call 70; (with_reducible refine HLD.out.mono ?_); rintro x w7 ⟨rfl, F7, O7, h7, s7⟩; have H7 := Lib.hid h7; have S7 := Lib.hid (S6.out.trans s7); clear h7 s7)
  first | go_end0 | (refine bodyPost_ret (results_none rfl _ _ _) rfl ?_)
  exact ⟨rfl, _, _, H7.out, S7.out⟩
set_option maxRecDepth 100000 in
set_option maxHeartbeats 16000000 in
theorem aask_alone {w : World} {g p o : Nat} {F O : Nat → Prop} {s : RS} {n : Nat} (h : RO w g p o F O s n) (hn : n ≤ 800) (hm : 0 ≤ s.me ∧ s.me ≤ 6) (ht : 0 ≤ s.term ∧ s.term ≤ 9000000000000000000) (hlast : 0 ≤ s.q.last ∧ s.q.last ≤ 9000000000000000000) (hq : s.q.l.length + 1 ≤ 200) (q' : LS) (hq' : (s.q.app (s.q.last + 1, s.term + 1, 0, [])).1 = q') (ho : oth (q'.confAt q'.last) s.me = []) (hwon : quoM (s.q.confAt s.q.last) (votesOf s.me) = true) :
    Calls Tryz.prog 30 #[.pointer (some ⟨g, 0, none⟩), .pointer (some ⟨o, 0, none⟩)] w fun x w' => x = .returned (.tuple #[]) ∧ ∃ F' O', RO w' g p o F' O' (s.led (s.term + 1) q') (n + 2) ∧ Sp17 w w' g F O F' O' := by
  obtain ⟨C2, sa, sn, sc, r2, rc2⟩ := h.rw.cells
  have hme0 := hm.1
  have hme6 := hm.2
  have H2 := Lib.hid h
  have R2 := Lib.hid r2
  have S2 := Lib.hid (Sp17.refl w g F O)
  have c25 := r2.at17 rc2.c25; have c28 := r2.at17 rc2.c28; have c29 := r2.at17 rc2.c29; have c31 := r2.at17 rc2.c31; have c32 := r2.at17 rc2.c32
  have z28 := r2.frozen 28; have z29 := r2.frozen 29; have z31 := r2.frozen 31; have z32 := r2.frozen 32
  have HWN := Lib.hid hwon
  have HST := Lib.hid (fun (w6 : World) (h6 : RO w6 g p o F O { s with role := 1, leader := 0, waited := 0, votes := votesOf s.me } n) => astand_alone h6 hn hm ht hlast hq q' hq' ho hwon)
  clear h r2 rc2 ho hwon hq' hlast hq ht
  go_enter Tryz.func30, Tryz.ntmps30
  go_wp2_with fail
  obtain ⟨h3, s3, r3⟩ := H2.out.set1 R2.out 28 (.int .i64 1) { s with role := 1 } (fun _ h => h.setRole _) rfl H2.out.rw.l7
  obtain ⟨h4, s4, r4⟩ := h3.set1 r3 29 (.int .i64 0) { s with role := 1, leader := 0 } (fun _ h => h.setLeader _) rfl H2.out.rw.l7
  obtain ⟨h5, s5, r5⟩ := h4.set1 r4 31 (.int .i64 0) { s with role := 1, leader := 0, waited := 0 } (fun _ h => h.setWaited _) rfl H2.out.rw.l7
  obtain ⟨h6, s6, r6⟩ := h5.set1 r5 32 (.int .i64 (votesOf s.me)) { s with role := 1, leader := 0, waited := 0, votes := votesOf s.me } (fun _ h => h.setVotes _) rfl H2.out.rw.l7
  have s36 := S2.out.trans (((s3.trans s4).trans s5).trans s6)
  obtain ⟨w3, hw3⟩ : ∃ x, (((w.setCell ⟨g, 28, none⟩ (.int .i64 1)).setCell ⟨g, 29, none⟩ (.int .i64 0)).setCell ⟨g, 31, none⟩ (.int .i64 0)).setCell ⟨g, 32, none⟩ (.int .i64 (votesOf s.me)) = x := ⟨_, rfl⟩
  rw [hw3] at h6 s36
  unfold votesOf at hw3
  rw [hw3]
  have H3 := Lib.hid h6
  have S3 := Lib.hid s36
  clear h3 s3 r3 h4 s4 r4 h5 s5 r5 h6 s6 r6 s36 hw3 c25 c28 c29 c31 c32 z28 z29 z31 z32
  obtain ⟨C3, sa3, sn3, sc3, r3, rc3⟩ := H3.out.rw.cells
  have K26 := Lib.hid (r3.at17 rc3.c26)
  have K32 := Lib.hid (r3.at17 rc3.c32)
  clear r3 rc3
  refine region_h (fun v => Below w3.heap.size w3 v) (by kernel_rfl) (by kernel_rfl) (Below.refl _ _).drew ?_
  obtain ⟨we, hwe⟩ : ∃ we, w3.drew = we := ⟨_, rfl⟩
  have E0 : Hid (Below w3.heap.size w3 we) := Lib.hid (by rw [← hwe]; exact (Below.refl _ _).drew)
  rw [hwe]
  clear hwe
  (refine h_read 0 rfl (by kernel_rfl) (by kernel_rfl) (h_free rfl) ?_ ?_ ?_; rotate_left; (focus (intro v hv; go_simp; rfl)); go_simp)
  (refine h_read 1 rfl (by kernel_rfl) (by kernel_rfl) (h_free rfl) ?_ ?_ ?_; rotate_left; (focus (intro v hv; go_simp; rfl)); go_simp)
  (refine h_read 2 rfl (by kernel_rfl) (by kernel_rfl) (h_free rfl) ?_ ?_ ?_; rotate_left; (focus (intro v hv; go_simp; rfl)); go_simp)
  (refine h_read 3 rfl (by kernel_rfl) (by kernel_rfl) (h_free rfl) ?_ ?_ ?_; rotate_left; (focus (intro v hv; have q26 := (hv.cell (p := ⟨g, 26, none⟩) (World.block_lt_of_cell? w3 _ K26.out)).trans K26.out; have q32 := (hv.cell (p := ⟨g, 32, none⟩) (World.block_lt_of_cell? w3 _ K32.out)).trans K32.out; go_simp; rfl)); go_simp)
  (refine h_read 5 rfl (by kernel_rfl) (by kernel_rfl) (h_free rfl) ?_ ?_ ?_; rotate_left; (focus (intro v hv; go_simp; rfl)); go_simp)
  (refine h_read 6 rfl (by kernel_rfl) (by kernel_rfl) (h_free rfl) ?_ ?_ ?_; rotate_left; (focus (intro v hv; go_simp; rfl)); go_simp)
  (refine h_read 7 rfl (by kernel_rfl) (by kernel_rfl) (h_free rfl) ?_ ?_ ?_; rotate_left; (focus (intro v hv; go_simp; rfl)); go_simp)
  (refine h_read 8 rfl (by kernel_rfl) (by kernel_rfl) (h_free rfl) ?_ ?_ ?_; rotate_left; (focus (intro v hv; have q26 := (hv.cell (p := ⟨g, 26, none⟩) (World.block_lt_of_cell? w3 _ K26.out)).trans K26.out; have q32 := (hv.cell (p := ⟨g, 32, none⟩) (World.block_lt_of_cell? w3 _ K32.out)).trans K32.out; go_simp; rfl)); go_simp)
  (refine h_call 4 rfl (by kernel_rfl) (h_free rfl) 26 ?_ ?_ ?_; rotate_left; (focus (go_simp; rfl)))
  refine (qconf (H3.out.mono E0.out).rw.log).mono ?_
  rintro x w5 ⟨rfl, hb5⟩
  have E5 := Lib.hid (E0.out.trans (hb5.mono E0.out.size))
  clear hb5
  refine ⟨_, rfl, E5.out, ?_⟩
  go_simp
  (refine h_call 9 rfl (by kernel_rfl) (h_free rfl) 57 ?_ ?_ ?_; rotate_left; (focus (go_simp; rfl)))
  refine (pWon (s.q.confAt s.q.last) (votesOf s.me) w5).mono ?_
  rw [HWN.out]
  rintro x w6 ⟨rfl, hb6⟩
  have E6 := Lib.hid (E5.out.trans (hb6.mono E5.out.size))
  have H6 := Lib.hid (H3.out.mono E6.out)
  have S6 := Lib.hid (S3.out.trans (Sp17.of_below E6.out))
  clear hb6
  refine ⟨_, rfl, E6.out, ?_⟩
  go_simp
  refine h_done (by kernel_rfl) ?_
  have HSD := Lib.hid (HST.out w6 H6.out)
  go_wp2_with (go_at_call 58; (with_reducible refine HSD.out.mono ?_); rintro x w7 ⟨rfl, F7, O7, h7, s7⟩; have H7 := Lib.hid h7; have S7 := Lib.hid (S6.out.trans s7); clear h7 s7)
  first | go_end0 | (refine bodyPost_ret (results_none rfl _ _ _) rfl ?_)
  exact ⟨rfl, _, _, H7.out, S7.out⟩
end Go.Proofs.YtjkkopbhdeljmaaGreat.W
