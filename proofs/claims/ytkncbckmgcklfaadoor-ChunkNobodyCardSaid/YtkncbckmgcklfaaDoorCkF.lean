/- LAYER 28 (chunk): lists of files, of both sides; the program's Files, Sync. -/
import Derived.Test.YtkncbckmgcklfaaDoorCkE
import Derived.Test.YtkncbckmgcklfaaDoorLn
set_option linter.unusedSimpArgs false
set_option linter.unusedVariables false
namespace Go.Proofs.YtkncbckmgcklfaaDoor.W
open Go Go.ChangeShapes Go.WideShapes Go.ChangeAt Go.RowKit
open Go.Proofs.YtkncbckmgcklfaaDoor.P (shaL shaL_len)

/-- a block of such elements -/
def IsTy (w : World) (g : Nat) (t : TypeId) : Prop := ∃ cur fz, w.heap[g]? = some (.cells cur t fz)
/-- a file as it lies in a list -/
structure FY where
  f : Fi
  ba : Option Addr
  bn : Nat
  bc : Nat
  ta : Option Addr
  tn : Nat
  tc : Nat
@[reducible] def FY.cells (y : FY) : List Value := fiC y.f.s (.slice y.ba y.bn y.bc) y.f.su (.slice y.ta y.tn y.tc)
structure FYr (w : World) (y : FY) : Prop where
  s : y.f.s.size ≤ 1000000
  rb : Rd w y.ba y.bn y.bc y.f.b
  rt : Ls intE w y.ta y.tn y.tc y.f.t
  b1 : y.bn ≤ 1000000
  su : y.f.su ≤ 1000000
  t1 : y.tn ≤ 1000
  kb : ∀ b off s, y.ba = some ⟨b, off, s⟩ → IsTy w b 5
  kt : ∀ b off s, y.ta = some ⟨b, off, s⟩ → IsTy w b 3
theorem IsTy.lt {w : World} {g : Nat} {t : TypeId} (h : IsTy w g t) : g < w.heap.size := by obtain ⟨_, _, h⟩ := h; exact (Array.getElem?_eq_some_iff.1 h).1
theorem IsTy.of {w w' : World} {g : Nat} {t : TypeId} (h : IsTy w g t) (e : w'.heap[g]? = w.heap[g]?) : IsTy w' g t := by obtain ⟨a, b, h⟩ := h; exact ⟨a, b, e.trans h⟩
theorem IsTy.ne {w : World} {g g' : Nat} {t t' : TypeId} (h : IsTy w g t) (h' : IsTy w g' t') (hn : t ≠ t') : g ≠ g' := by
  rintro rfl
  obtain ⟨_, _, h⟩ := h
  obtain ⟨_, _, h'⟩ := h'
  rw [h] at h'
  injection h' with h'
  injection h' with _ h' _
  exact hn h'
theorem Row.ty {w : World} {g : Nat} {t : TypeId} {L : List Value} (h : Row w g t L) : IsTy w g t := ⟨_, _, h⟩
/-- what reads stays where its own block does -/
theorem Rd.stay {w w' : World} {a : Option Addr} {n c : Nat} {l : List UInt8} (h : Rd w a n c l) (hs : w.heap.size ≤ w'.heap.size) (hk : ∀ b off s, a = some ⟨b, off, s⟩ → b < w.heap.size → w'.heap[b]? = w.heap[b]?) : Rd w' a n c l := by
  refine ⟨h.hlen, h.hle, h.hmax, h.hnil, ?_⟩
  rcases h.hcells with h0 | ⟨b, off, rfl, hlt, hc⟩
  · exact .inl h0
  · exact .inr ⟨b, off, rfl, Nat.lt_of_lt_of_le hlt hs, fun i hi => by rw [World.cell?_of_block (show w'.heap[(⟨b, off + i, none⟩ : Addr).block]? = _ from hk b off none rfl hlt)]; exact hc i hi⟩
theorem Ls.stay {α : Type} {E : El α} {w w' : World} {a : Option Addr} {n c : Nat} {L : List α} (h : Ls E w a n c L) (hs : w.heap.size ≤ w'.heap.size) (hk : ∀ b off s, a = some ⟨b, off, s⟩ → b < w.heap.size → w'.heap[b]? = w.heap[b]?) (hf : ∀ x ∈ L, E.fit w' x) : Ls E w' a n c L := by
  refine ⟨h.hlen, h.hle, h.hmax, hf, h.hnil, ?_⟩
  rcases h.hcells with h0 | ⟨b, off, rfl, hlt, hc⟩
  · exact .inl h0
  · exact .inr ⟨b, off, rfl, Nat.lt_of_lt_of_le hlt hs, fun i x hi j v hj => by rw [World.cell?_of_block (show w'.heap[(⟨b, off + i * E.k + j, none⟩ : Addr).block]? = _ from hk b off none rfl hlt)]; exact hc i x hi j v hj⟩
theorem FYr.stay {w w' : World} {y : FY} (h : FYr w y) (hs : w.heap.size ≤ w'.heap.size) (hk : ∀ g, IsTy w g 5 ∨ IsTy w g 3 → w'.heap[g]? = w.heap[g]?) : FYr w' y :=
  { h with
    rb := h.rb.stay hs fun b off s e _ => hk b (.inl (h.kb b off s e))
    rt := h.rt.stay hs (fun b off s e _ => hk b (.inr (h.kt b off s e))) h.rt.hfit
    kb := fun b off s e => (h.kb b off s e).of (hk b (.inl (h.kb b off s e)))
    kt := fun b off s e => (h.kt b off s e).of (hk b (.inr (h.kt b off s e))) }
theorem FYr.mono {w w' : World} {y : FY} (h : FYr w y) (hb : Below w.heap.size w w') : FYr w' y :=
  h.stay hb.size fun g hg => hb.block g (hg.elim IsTy.lt IsTy.lt)
theorem FYr.upd {w w' : World} {y : FY} {g : Nat} {t : TypeId} {L : List Value} (h : FYr w y) (hr : Row w g t L) (h1 : t ≠ 5) (h2 : t ≠ 3) (hu : Upd w w' g) : FYr w' y :=
  h.stay (Nat.le_of_eq hu.size.symm) fun k hk => hu.block k (hk.elim (fun e => e.ne hr.ty (Ne.symm h1)) (fun e => e.ne hr.ty (Ne.symm h2)))
@[reducible] def fiE : El FY := ⟨39, 50, 4, 72, .agg (fiC ⟨#[]⟩ (.slice none 0 0) 0 (.slice none 0 0)).toArray, FY.cells, fun w y => FYr w y⟩
theorem fiOk : fiE.Ok Tryd.prog where
  und := Tryd.underlying39
  info := by kernel_rfl
  zs := rfl
  pos := by decide
  len := fun _ => rfl
  one := fun y v hv => by simp at hv; rcases hv with rfl | rfl | rfl | rfl <;> rfl
  mono := fun x w w' h hb => h.mono hb
  small := by decide
theorem fi_fill (y : FY) : Instr.fill (fun i => some (i * fiE.k, fiE.k)) ((Array.range (1 * fiE.k)).map (fiE.z.cells[· % fiE.z.cells.size]!)) [(0, .agg (fiE.cells y).toArray)] = some (fiE.cells y).toArray := by
  obtain ⟨⟨s, b, su, t⟩, ba, bn, bc, ta, tn, tc⟩ := y
  kernel_rfl
/-- a list of files that the call made -/
structure LsF (w : World) (base : Nat) (v : Value) (Y : List FY) : Prop where
  own : LsO fiE w base v Y
  fit : ∀ y ∈ Y, FYr w y
theorem LsF.nil (w : World) (base : Nat) : LsF w base (.slice none 0 0) [] := ⟨LsO.nil _ _, by simp⟩
theorem LsF.kept {w w' : World} {base : Nat} {v : Value} {Y : List FY} (h : LsF w base v Y) (hb : Below w.heap.size w w') : LsF w' base v Y := ⟨h.own.kept hb, fun y hy => (h.fit y hy).mono hb⟩
theorem LsF.base {w : World} {b b' : Nat} {v : Value} {Y : List FY} (h : LsF w b v Y) (hb : b' ≤ b) : LsF w b' v Y := ⟨h.own.base hb, h.fit⟩
theorem lso_ty {α : Type} {E : El α} {w : World} {base g : Nat} {v : Value} {L : List α} (h : LsO E w base v L) (e : v.ownBlock = some g) : IsTy w g E.eT := by
  obtain ⟨-, h2⟩ := h
  rcases h2 with ⟨rfl, -⟩ | ⟨q, c, cur, rfl, -, hh, -⟩
  · cases e
  · injection e with e
    subst e
    exact ⟨_, _, hh⟩
theorem LsF.upd {w w' : World} {base g : Nat} {v : Value} {Y : List FY} {t : TypeId} {L : List Value} (h : LsF w base v Y) (hr : Row w g t L) (h0 : v.ownBlock ≠ some g) (h1 : t ≠ 5) (h2 : t ≠ 3) (hu : Upd w w' g) : LsF w' base v Y :=
  ⟨h.own.upd hu h0, fun y hy => (h.fit y hy).upd hr h1 h2 hu⟩
/-- they stay where a list of files is appended to -/
theorem FYr.grown {w w' : World} {base : Nat} {v : Value} {Y : List FY} {y : FY} (h : FYr w y) (ho : LsO fiE w base v Y) (hg : w.grownBy w' v.ownBlock) : FYr w' y :=
  h.stay hg.size fun k hk => hg.block k (hk.elim IsTy.lt IsTy.lt) (fun e => hk.elim (fun q => q.ne (lso_ty ho e.symm) (by decide) rfl) (fun q => q.ne (lso_ty ho e.symm) (by decide) rfl))
theorem append_fi {w : World} {ops : Array Oper} {rest : List Oper} {o : Oper} {a : Act} {Q : Exit → Act → World → Prop} (hgd : o.guard = none) (s x : Operand)
    (ho : o.op = .call { callee := .builtin .append, args := #[s, x], argTypes := #[39, 39] })
    (base : Nat) (v : Value) (Y : List FY) (hs : a.eval s = v) (hown : LsF w base v Y)
    (sa : Option Addr) (m c : Nat) (Z : List FY) (hx : a.eval x = .slice sa m c) (hr : Ls fiE w sa m c Z) (hmax : Y.length + m ≤ 1000000) (hbase : base ≤ w.heap.size)
    (h : ∀ v' w', LsF w' base v' (Y ++ Z) → Below base w w' → w.grownBy w' v.ownBlock → (v'.ownBlock = v.ownBlock ∨ v'.ownBlock = some w.heap.size) → wpList Tryd.prog ops Q rest (a.put o.dst v') w') : wpList Tryd.prog ops Q (o :: rest) a w := by
  refine append_ls fiOk hgd s x ho base v Y hs hown.own sa m c Z hx hr hmax hbase (fun v' w' hN hb hg hv => h v' w' ⟨hN, fun z hz => ?_⟩ hb hg hv)
  rcases List.mem_append.1 hz with hz | hz
  · exact (hown.fit z hz).grown hown.own hg
  · exact (hr.hfit z hz).grown hown.own hg
theorem fr_ty {w : World} {base b off : Nat} {s : Option Nat} {a : Option Addr} {n c : Nat} {l : List UInt8} (h : Fr w base (.slice a n c) l) (e : a = some ⟨b, off, s⟩) : IsTy w b 5 := by
  obtain ⟨-, h2⟩ := h
  rcases h2 with ⟨h3, -⟩ | ⟨q, cap, cur, h3, -, hh, -⟩
  · injection h3 with h3; rw [h3] at e; cases e
  · injection h3 with h3
    rw [h3] at e
    injection e with e
    injection e with e1
    subst e1
    exact ⟨_, _, hh⟩
theorem fr_tyb {w : World} {base g : Nat} {v : Value} {l : List UInt8} (h : Fr w base v l) (e : v.ownBlock = some g) : IsTy w g 5 := by
  obtain ⟨-, h2⟩ := h
  rcases h2 with ⟨rfl, -⟩ | ⟨q, c, cur, rfl, -, hh, -⟩
  · cases e
  · injection e with e
    subst e
    exact ⟨_, _, hh⟩
theorem it_ty {w : World} {base b off : Nat} {s : Option Nat} {a : Option Addr} {n c : Nat} {l : List Int} (h : LsO intE w base (.slice a n c) l) (e : a = some ⟨b, off, s⟩) : IsTy w b 3 := by
  obtain ⟨-, h2⟩ := h
  rcases h2 with ⟨h3, -⟩ | ⟨q, cap, cur, h3, -, hh, -⟩
  · injection h3 with h3; rw [h3] at e; cases e
  · injection h3 with h3
    rw [h3] at e
    injection e with e
    injection e with e1
    subst e1
    exact ⟨_, _, hh⟩
/-- a file whose bytes and times the call made, as it lies in a list -/
theorem fy_made {w : World} {base : Nat} {s : ByteArray} {bv tv : Value} {su : Nat} {b : List UInt8} {t : List Int} (hb : Fr w base bv b) (ht : LsO intE w base tv t) (hf : ∀ x ∈ t, SI64 x) (hs : s.size ≤ 1000000) (h1 : b.length ≤ 1000000) (h2 : su ≤ 1000000) (h3 : t.length ≤ 1000) :
    ∃ y : FY, y.f = ⟨s, b, su, t⟩ ∧ FYr w y ∧ fiC s bv su tv = y.cells ∧ (∀ q off z, y.ba = some ⟨q, off, z⟩ → base ≤ q) ∧ (∀ q off z, y.ta = some ⟨q, off, z⟩ → base ≤ q) := by
  obtain ⟨a, c, rfl, hr, hq⟩ := hb.form
  obtain ⟨ta, tc, rfl, hl, hq2⟩ := ht.ls intOk hf
  refine ⟨⟨⟨s, b, su, t⟩, a, b.length, c, ta, t.length, tc⟩, rfl, ⟨hs, hr, hl, h1, h2, h3, fun q off z e => fr_ty hb e, fun q off z e => it_ty ht e⟩, rfl, fun q off z e => ?_, fun q off z e => ?_⟩
  · dsimp only at e
    rcases hq with hq | ⟨g, hq, hg, -⟩
    · rw [hq] at e; cases e
    · rw [hq] at e; injection e with e; injection e with e1; rw [← e1]; exact hg
  · dsimp only at e
    subst e
    have h5 := (World.ownsRow.lt ht q rfl).1
    exact h5
theorem take_next {α β : Type} (L : List α) (g : α → β) (k : Nat) (x : α) (h : L[k]? = some x) : (L.take (k + 1)).map g = (L.take k).map g ++ [g x] := by
  obtain ⟨h1, h2⟩ := List.getElem?_eq_some_iff.1 h
  rw [List.take_succ_eq_append_getElem h1, h2, List.map_append]; rfl
set_option maxRecDepth 100000 in
set_option maxHeartbeats 4000000 in
theorem cfiles {p m T : Nat} {room : Int} {X : List FX} {S : Nat → Prop} {w : World} (h : CK w p m room X S) (hok : ∀ x ∈ X, FiOk T x.f) (hT : T ≤ 900) (hn : X.length ≤ 524288) :
    Calls Tryd.prog 12 #[.pointer (some ⟨p, 0, none⟩)] w fun e w' => ∃ v Y, e = .returned v ∧ Y.map (·.f) = X.map (·.f) ∧ LsF w' w.heap.size v Y ∧ Below w.heap.size w w' := by
  have H := Lib.hid h
  have HS := Lib.hid (csums h hn)
  have HN := Lib.hid hn
  have HOK := Lib.hid hok
  have HT := Lib.hid hT
  obtain ⟨n, hnn⟩ : ∃ n, X.length = n := ⟨_, rfl⟩
  have HNN := Lib.hid hnn
  have hn2 : n ≤ 524288 := by omega
  clear h hok hn hnn hT
  go_enter Tryd.func12, Tryd.ntmps12
  go_wp2_with (go_at_call 27; (with_reducible refine HS.out.mono ?_); rintro e w1 ⟨sv, rfl, hl, hb⟩; obtain ⟨sa, sc, rfl, hsl, -⟩ := hl.ls strOk (fun s hs => by obtain ⟨x, hx, rfl⟩ := List.mem_map.1 hs; have h5 := (HOK.out x hx).s; show x.f.s.size ≤ maxLen; unfold maxLen; omega); rw [List.length_map, HNN.out] at hsl ⊢; have SL := Lib.hid hsl; have B1 := Lib.hid hb; clear hl hb hsl)
  go_loopw [3, 9] (fun v i wr => ∃ (k : Nat) (Y : List FY), i = .int .i64 (k : Int) ∧ k ≤ n ∧ Hid (Y.map (·.f) = (X.take k).map (·.f)) ∧ Hid (LsF wr w1.heap.size v Y) ∧ Hid (Below w.heap.size w wr) ∧ Hid (Below w1.heap.size w1 wr)) (fun _ i _ => n - (intOf i).toNat)
  case atStart => exact ⟨0, [], rfl, Nat.zero_le _, Lib.hid rfl, Lib.hid (LsF.nil _ _), B1, Lib.hid (Below.refl _ _)⟩
  case round =>
    obtain ⟨k, Y, rfl, hk, HY, O, B, BW⟩ := hrel
    by_cases hlt : k < n
    · obtain ⟨x, hx⟩ : ∃ x, X[k]? = some x := ⟨X[k]'(by rw [HNN.out]; exact hlt), by simp [HNN.out, hlt]⟩
      have hxm : x ∈ X := List.mem_of_getElem? hx
      obtain ⟨sb, so, s, rfl, hs1, hc1, -⟩ := SL.out.at strOk BW.out k hlt
      have hs2 : s = x.f.s := by
        rw [List.getElem?_map, hx] at hs1
        exact (Option.some.inj hs1).symm
      subst hs2
      have d1 : wr.cell? ⟨sb, so + k, none⟩ = some (.string x.f.s) := by have := hc1 0 (.string x.f.s) rfl; rw [show so + k * strE.k + 0 = so + k by show so + k * 1 + 0 = so + k; omega] at this; exact this
      have D1 := Lib.hid d1
      have g1 : (0 : Int) ≤ (k : Int) := by omega
      have g2 : (k : Int) < (n : Int) := by omega
      have hck := H.out.mono B.out
      have okx := HOK.out x hxm
      have hsm : x.f.s.size ≤ maxLen := by have := okx.s; unfold maxLen; omega
      have lk := (look_yes (s := x.f.s) 24 50 map_type _ (file_zv wr) hck.sm hsm (hck.at hxm)).1
      have c1 := hck.rp.k2.2
      obtain ⟨fa, fc, hbv, hrd, -⟩ := (hck.ob x hxm).form
      obtain ⟨ta, tc, htv, hlt2, -⟩ := (hck.ot x hxm).ls intOk okx.t64
      have HTN := Lib.hid (take_next X (·.f) k x hx)
      have OKX := Lib.hid okx
      have HYL := Lib.hid (show Y.length ≤ 524288 by have := congrArg List.length HY.out; simp at this; omega)
      obtain ⟨⟨xs, xb, xu, xt⟩, xbv, xtv⟩ := x
      dsimp only at hbv hrd htv hlt2 lk OKX HTN hs1 d1 D1 hsm ⊢
      replace lk : (Instr.lookup 24 (.map (some m)) (.string xs) false).run Tryd.prog wr = .ok (.agg (fiC xs xbv xu xtv).toArray) wr := lk
      have h256 := OKX.out.b2
      have hsu := OKX.out.su
      have htl := OKX.out.tl
      have ht9 := HT.out
      dsimp only at h256 hsu htl
      have MK := Lib.hid (fun (base : Nat) (w3 : World) (bv tv : Value) (h1 : Fr w3 base bv xb) (h2 : LsO intE w3 base tv xt) => fy_made (su := xu) h1 h2 OKX.out.t64 (show xs.size ≤ 1000000 from OKX.out.s) (by omega) (by omega) (by omega))
      have HCP := Lib.hid (ccopied xs (.slice fa xb.length fc) (.slice ta xt.length tc) fa ta xb.length fc xt.length tc xu xb xt wr rfl hrd (by omega) rfl hlt2 (by omega))
      subst hbv htv
      clear hs1 hc1 hck okx hrd hlt2 hx hxm h256 hsu htl ht9
      go_wp2_with (first
        | (go_at_call 37; (with_reducible refine HCP.out.mono ?_); rintro e w3 ⟨a', tv', rfl, hf, ht, hb⟩; obtain ⟨y, hy, hyr, hyc, -, -⟩ := MK.out _ _ _ _ hf ht; rw [hyc]; have Y3 := Lib.hid hyr; have HYF := Lib.hid hy; have B3 := Lib.hid (B.out.trans (hb.mono B.out.size)); have BW3 := Lib.hid (BW.out.trans (hb.mono BW.out.size)); have O3 := Lib.hid (O.out.kept hb); clear hf ht hb hy hyr hyc c1 lk)
        | ((with_reducible refine build_ls fiOk fi_fill (o := ⟨some 21, _, _, _, _, _⟩) rfl _ rfl y ?_ Y3.out (by decide) ?_); (focus (first | (go_simp; done) | (go_simp; rfl))); intro w4 hl hb hz; have L4 := Lib.hid hl; have B4 := Lib.hid (B3.out.trans (hb.mono B3.out.size)); have BW4 := Lib.hid (BW3.out.trans (hb.mono BW3.out.size)); have O4 := Lib.hid (O3.out.kept hb); clear hl hb hz)
        | ((with_reducible refine append_fi (o := ⟨some 22, _, _, _, _, _⟩) rfl _ _ rfl w1.heap.size _ Y ?_ O4.out (some ⟨w3.heap.size, 0, none⟩) 1 1 [y] ?_ L4.out (by have := HYL.out; omega) BW4.out.size ?_); (focus (first | (go_simp; done) | (go_simp; rfl))); (focus (first | (go_simp; done) | (go_simp; rfl))); intro v5 w5 hN hb2 hg2 hv2; have O5 := Lib.hid hN; have B5 := Lib.hid (B4.out.trans (hb2.mono B1.out.size)); have BW5 := Lib.hid (BW4.out.trans hb2); clear hN hb2 hg2 hv2))
      go_roundw
      case rel => exact ⟨k + 1, Y ++ [y], vint (by omega), by omega, Lib.hid (by rw [List.map_append, HY.out, HTN.out, List.map_cons, List.map_nil, HYF.out]), O5, B5, BW5⟩
      case measure => simp [intOf]; omega
    · obtain rfl : n = k := by omega
      go_wp2_with fail
      go_ret
      exact ⟨_, Y, rfl, by rw [HY.out, List.take_of_length_le (by rw [HNN.out]; exact Nat.le_refl _)], O.out.base B1.out.size, B.out⟩
end Go.Proofs.YtkncbckmgcklfaaDoor.W
