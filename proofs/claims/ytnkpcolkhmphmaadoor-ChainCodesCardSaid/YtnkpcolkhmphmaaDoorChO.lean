/- LAYER 22 (chain): words; sum of the program; two structs compared. -/
import Derived.Test.YtnkpcolkhmphmaaDoorShaE
import Derived.Test.YtnkpcolkhmphmaaDoorShaS
import Derived.Test.YtnkpcolkhmphmaaDoorPackR5
import Derived.Test.YtnkpcolkhmphmaaDoorLs
import Derived.Test.YtnkpcolkhmphmaaDoorLsC
import Derived.Test.YtnkpcolkhmphmaaDoorSt
import Derived.Test.YtnkpcolkhmphmaaDoorRun
import Derived.Test.YtnkpcolkhmphmaaDoorFro
import Derived.DeepKeys
set_option linter.unusedSimpArgs false
set_option linter.unusedVariables false
namespace Go.Proofs.YtnkpcolkhmphmaaDoor.W
open Go Go.ChangeShapes Go.WideShapes Go.ChangeAt Go.RowKit
open Go.Proofs.YtnkpcolkhmphmaaDoor.P (enc dec shaL shaL_len)

def SI64c (x : Int) : Prop := -9223372036854775808 ≤ x ∧ x ≤ 9223372036854775807
/-- a slice of bytes, and what it reads as -/
structure BsX where
  a : Option Addr
  n : Nat
  c : Nat
  l : List UInt8
@[reducible] def BsX.cells (x : BsX) : List Value := [.slice x.a x.n x.c]
@[reducible] def bsE : El BsX := ⟨25, 24, 1, 24, .slice none 0 0, BsX.cells, fun w x => Rd w x.a x.n x.c x.l⟩
theorem bsOk : bsE.Ok Tryd.prog where
  und := Tryd.underlying25
  info := by kernel_rfl
  zs := rfl
  pos := by decide
  len := fun _ => rfl
  one := fun s v hv => by simp at hv; subst hv; rfl
  mono := fun _ _ _ h hb => h.mono hb
  small := by decide
section
variable {H : Type} {enc : TypeId × Value → H} {w : World} {base : Nat} {held : Bool}
theorem bs_cells {fuel : Nat} {cs : List Value} {x : DataW H × List MemPlace} (h : DataW.trod enc Tryd.prog w base (fun _ => true) held fuel 24 cs = some x) : ∃ y : BsX, cs = bsE.cells y ∧ bsE.fit w y := by
  rcases open_ints Tryd.underlying24 Tryd.underlying5 (by kernel_rfl) h with ⟨hcs, _⟩ | ⟨x, l, c, zs, hcs, _, hl, hm, hz, _, hcell, hwz⟩
  · exact ⟨⟨none, 0, 0, []⟩, hcs, Rd_nil w⟩
  · exact ⟨⟨some x, l, c, _⟩, hcs, Rd.of_row (.inr ⟨x, rfl, hl, hm, by simpa using hz, hcell, hwz⟩)⟩
theorem bss_open22 {a : Option Addr} {len cap : Nat} {d : DataW H} {pl : List MemPlace} (h : DataW.Trod enc Tryd.prog w base (fun _ => true) held 25 (.slice a len cap) d pl) : ∃ L, Ls bsE w a len cap L := by
  obtain ⟨fuel, hf⟩ := h
  obtain ⟨a', n', c', L, hc, hL⟩ := ls_cells bsOk (by kernel_rfl) (fun hx => bs_cells hx) hf
  simp [Value.cells] at hc
  obtain ⟨rfl, rfl, rfl⟩ := hc
  exact ⟨L, hL⟩
end
-- ---- plain
structure Ch where
  len : Int
  hd : ByteArray
def Ch.link (c : Ch) (t : List UInt8) : Ch := ⟨(if c.len ≤ 4611686018427387903 then c.len else 4611686018427387903) + 1, str (shaL (c.hd.data.toList ++ (enc c.len.toNat ++ t)))⟩
def Ch.all (c : Ch) (l : List BsX) : Ch := l.foldl (fun c x => c.link x.l) c
def chZ : Ch := ⟨0, str (List.replicate 32 0)⟩
theorem all_next (c : Ch) (L : List BsX) (k : Nat) (x : BsX) (h : L[k]? = some x) : c.all (L.take (k + 1)) = (c.all (L.take k)).link x.l := by
  obtain ⟨h1, h2⟩ := List.getElem?_eq_some_iff.1 h
  unfold Ch.all
  rw [List.take_succ_eq_append_getElem h1, h2, List.foldl_append]; rfl
structure Ch.fit (c : Ch) : Prop where
  l : SI64c c.len
  h : c.hd.size ≤ 100000
theorem link_fit (c : Ch) (t : List UInt8) (h : c.fit) : (c.link t).fit := by
  have h1 := h.l.1
  refine ⟨⟨?_, ?_⟩, ?_⟩
  · unfold Ch.link; dsimp only; split <;> omega
  · unfold Ch.link; dsimp only; split <;> omega
  · unfold Ch.link; dsimp only; rw [str_size, shaL_len]; decide
theorem all_fit : ∀ (L : List BsX) (c : Ch), c.fit → (c.all L).fit
  | [], _, h => h
  | x :: L, c, h => by show ((c.link x.l).all L).fit; exact all_fit L _ (link_fit c _ h)
theorem all_app (c : Ch) (L M : List BsX) : c.all (L ++ M) = (c.all L).all M := by unfold Ch.all; rw [List.foldl_append]
@[reducible] def chC (c : Ch) : List Value := [.int .i64 c.len, .string c.hd]
theorem ch_size : (Tryd.prog.info? 23).map (·.size) = some 2 := by kernel_rfl
theorem ch_zero : (Tryd.prog.info? 23).map (·.zero) = some (some (.agg (chC ⟨0, ⟨#[]⟩⟩).toArray)) := by kernel_rfl
theorem ch_one (c : Ch) : ∀ v ∈ chC c, v.oneCell' = true := by intro v hv; simp at hv; rcases hv with rfl | rfl <;> rfl
theorem ch_built (x : Int) (s : ByteArray) : Tryd.prog.built 23 [(0, .int .i64 x), (1, .string s)] = some (chC ⟨x, s⟩).toArray := by kernel_rfl
theorem ch_built0 (x : Int) : Tryd.prog.built 23 [(0, .int .i64 x)] = some (chC ⟨x, ⟨#[]⟩⟩).toArray := by kernel_rfl
theorem ch_built1 (s : ByteArray) : Tryd.prog.built 23 [(1, .string s)] = some (chC ⟨0, s⟩).toArray := by kernel_rfl
theorem ch_builtZ : Tryd.prog.built 23 [] = some (chC ⟨0, ⟨#[]⟩⟩).toArray := by kernel_rfl
theorem Row.c2 {w : World} {g : Nat} {t : TypeId} {a b : Value} (h : Row w g t [a, b]) : w.cell? ⟨g, 0, none⟩ = some a ∧ w.cell? ⟨g, 1, none⟩ = some b := by
  refine ⟨?_, ?_⟩ <;> (rw [h.cellV]; rfl)
/-- two chains compared -/
theorem eqCh (a b : Ch) (ha : a.fit) (hb : b.fit) (d : Bool) (hd : d = true ↔ a = b) (w : World) : (Op.equalIn 10000 23 (.agg (chC a).toArray) (.agg (chC b).toArray)).run Tryd.prog w = .ok d w := by
  have key : ∀ c : Ch, c.fit → Tryd.prog.keyLits 3 23 (Value.agg (chC c).toArray).cells.toList = some [Lit.int .i64 c.len, Lit.string c.hd.data.toList] := fun c hc => by
    have e : (Lit.int .i64 c.len).wf = true := by
      have h1 := hc.l.1; have h2 := hc.l.2
      simp [Lit.wf, IntKind.min, IntKind.max, IntKind.bits, IntKind.signed]; omega
    have hs : c.hd.size ≤ maxLen := by have := hc.h; unfold maxLen; omega
    have c2 : Tryd.prog.cellsOf 23 = 2 := by kernel_rfl
    have ci : Tryd.prog.cellsOf 3 = 1 := by kernel_rfl
    have cs : Tryd.prog.cellsOf 9 = 1 := by kernel_rfl
    simp [Program.keyLits, Value.cells, Tryd.underlying23, Tryd.underlying3, Tryd.underlying9, c2, ci, cs, e, hs]
  obtain ⟨r, hr, hiff⟩ := run_equalIn_deep (P := Tryd.prog) 9998 2 23 (by kernel_rfl) w 3 3 (.agg _) (.agg _) _ _ rfl rfl (key a ha) (key b hb)
  have : r = d := by
    rw [Bool.eq_iff_iff, hiff, hd]
    obtain ⟨x, s⟩ := a
    obtain ⟨y, t⟩ := b
    constructor
    · intro h
      injection h with h1 h2
      injection h1 with _ h3
      injection h2 with h4 _
      injection h4 with h5
      dsimp only at h3 h5
      subst h3
      have : s = t := by
        obtain ⟨s⟩ := s
        obtain ⟨t⟩ := t
        congr 1
        exact Array.ext' h5
      rw [this]
    · intro h
      injection h with h1 h2
      subst h1 h2
      rfl
  rw [← this]; exact hr
-- ---- a region that ends with a store: an operation and a call that may come up in either order
theorem t_two {P : Program} {ops : Array Oper} {Q : Exit → Act → World → Prop} {S : World → Prop} {t : Nat} {a : Act} {w : World} {fuel : Nat} {listed : Array Bool}
    (i j : Nat) {o o' : Oper} (hi : ops[i]? = some o) (hj : ops[j]? = some o') (hr : Region.ready .any ops listed = [i, j]) (hit : (i == t) = false) (hjt : (j == t) = false)
    (h : ∀ K : Exit → Act → World → Prop, (∀ a' w', S w' → WT P ops Q S t fuel (listed.setIfInBounds i true) a' w' → K .normal a' w') → wpList P ops K [o] a w)
    (hw : Region.wanted o' (yielded ops a.tmps) = true) (f : FuncId) (args : Array Value) (hrun : (execOp a.eval o').run P w = .ok (.enter f args) w)
    (hc : Calls P f args w fun e w' => ∃ v, e = .returned v ∧ S w' ∧ WT P ops Q S t fuel (listed.setIfInBounds j true) (a.put o'.dst v) w') : WT P ops Q S t (fuel + 1) listed a w :=
  ⟨fun hQ hs hS ht => by
    have hne : i ≠ t := by simpa using hit
    have hnj : j ≠ t := by simpa using hjt
    refine ⟨fun h0 => (by rw [hr] at h0; cases h0), ?_⟩
    rw [hr]
    intro k hk
    have hk' : k = i ∨ k = j := by simpa using hk
    rcases hk' with rfl | rfl
    · exact wpOp_of_list hi (h _ fun a' w' h1 h2 => ⟨rfl, fun _ => h1, h2.out hQ hs h1 (by rw [getD_set_ne true hne]; exact ht)⟩)
    · unfold wpOp
      simp only [hj, hw, if_true]
      refine .inl ?_
      unfold Oper.wp
      rw [hrun, Oper.upon_enter]
      refine hc.mono ?_
      rintro e w' ⟨v, rfl, h1, h2⟩
      exact ⟨fun _ => h1, h2.out hQ hs h1 (by rw [getD_set_ne true hnj]; exact ht)⟩⟩
-- ---- sum
def catB (L : List BsX) : List UInt8 := L.flatMap (·.l)
theorem cat_next (L : List BsX) (k : Nat) (x : BsX) (h : L[k]? = some x) : catB (L.take (k + 1)) = catB (L.take k) ++ x.l := by
  obtain ⟨h1, h2⟩ := List.getElem?_eq_some_iff.1 h
  unfold catB
  rw [List.take_succ_eq_append_getElem h1, List.flatMap_append, h2]; simp
theorem cat_len (L : List BsX) (h : ∀ x ∈ L, x.l.length ≤ 200000) : (catB L).length ≤ L.length * 200000 := by
  induction L with
  | nil => simp [catB]
  | cons x L ih =>
    have h1 := ih (fun y hy => h y (by simp [hy]))
    have h2 := h x (by simp)
    simp only [catB, List.flatMap_cons, List.length_append, List.length_cons] at h1 ⊢
    omega
set_option maxRecDepth 100000 in
set_option maxHeartbeats 4000000 in
theorem chsum (a : Option Addr) (n c : Nat) (L : List BsX) (w : World) (hK : Ks w) (h : Ls bsE w a n c L) (hn : n ≤ 10) (hs : ∀ x ∈ L, x.l.length ≤ 200000) :
    Calls Tryd.prog 45 #[.slice a n c] w fun e w' => e = .returned (.string (str (shaL (catB L)))) ∧ Below w.heap.size w w' := by
  have H := Lib.hid h
  have HK := Lib.hid hK
  have HL := Lib.hid h.hlen
  have HS := Lib.hid hs
  have HC := Lib.hid (fun k => cat_len (L.take k) (fun x hx => hs x (List.mem_of_mem_take hx)))
  have hm := h.hmax
  have hle := h.hle
  clear h hK hs
  go_enter Tryd.func45, Tryd.ntmps45
  go_wp2_with fail
  refine (new_any w).mono ?_
  rintro e w1 ⟨g, rfl, hg, hht, hb⟩
  have HG0 := Lib.hid (show g ≠ 0 by have := HK.out.pos; omega)
  have HG := Lib.hid hg
  have B1 := Lib.hid hb
  have T1 := Lib.hid hht
  clear hg hht hb
  go_wp2_with fail
  go_loopw [9] (fun i wr => ∃ k : Nat, i = .int .i64 (k : Int) ∧ k ≤ n ∧ Hid (HT wr g (catB (L.take k))) ∧ Hid (Below w.heap.size w wr)) (fun i _ => n - (intOf i).toNat)
  case atStart => exact ⟨0, rfl, Nat.zero_le _, Lib.hid (by simpa [catB] using T1.out), B1⟩
  case round =>
    obtain ⟨k, rfl, hk, T, B⟩ := hrel
    have hcl := HC.out k
    have hlk : (L.take k).length ≤ 10 := by rw [List.length_take]; omega
    have hcb : (catB (L.take k)).length ≤ 2000000 := by have : (L.take k).length * 200000 ≤ 10 * 200000 := Nat.mul_le_mul_right _ hlk; omega
    clear hcl hlk
    by_cases hlt : k < n
    · have hfit0 := H.out
      obtain ⟨b, o, x, rfl, hx, hcell, hfx⟩ := H.out.at bsOk B.out k hlt
      have hcell0 := hcell 0 _ rfl
      have hmem : x ∈ L := List.mem_of_getElem? hx
      have hrd0 : Rd w x.a x.n x.c x.l := hfit0.hfit x hmem
      have HN := Lib.hid (cat_next L k x hx)
      have hxl := HS.out x hmem
      obtain ⟨xa, xn, xc, xl⟩ := x
      dsimp only at hrd0 hxl HN
      have hrl := hrd0.hlen
      have HAP := Lib.hid (show xn ≠ 0 → ∀ b off, xa = some ⟨b, off, none⟩ → b ≠ g from fun hn0 b' off' he => by
        obtain ⟨b2, o2, he2, hl2, -⟩ := hrd0.lt_of hn0
        have := HG.out
        rw [he] at he2
        simp at he2
        omega)
      have RX := Lib.hid (show Rd wr xa xn xc xl from hfx)
      have k0 : wr.cell? ⟨b, o + k, none⟩ = some (.slice xa xn xc) := by
        have e : o + k * bsE.k + 0 = o + k := by show o + k * 1 + 0 = o + k; omega
        rw [e] at hcell0; exact hcell0
      have g1 : (0 : Int) ≤ (k : Int) := by omega
      have g2 : (k : Int) < (n : Int) := by omega
      obtain ⟨C, hC⟩ : ∃ C, catB (L.take k) = C := ⟨_, rfl⟩
      rw [hC] at T HN hcb
      clear hfit0 hx hcell hfx hcell0 hmem hrd0 hC
      go_wp2_with fail
      refine (write_any g xa xn xc xl C wr (HK.out.below B.out HK.out.pos) HG0.out T.out RX.out HAP.out (by omega)).mono ?_
      rintro e w2 ⟨rfl, hT, hgw⟩
      have T2 := Lib.hid (show HT w2 g (catB ((L.take (k + 1)))) by rw [HN.out]; exact hT)
      have B2 := Lib.hid (B.out.trans (hgw.below HG.out B.out.size))
      clear hT hgw k0
      go_wp2_with fail
      go_roundw
      case rel => exact ⟨k + 1, by go_num, by omega, T2, B2⟩
      case measure => simp [intOf]; omega
    · obtain rfl : n = k := by omega
      have ht : L.take n = L := List.take_of_length_le (by rw [HL.out]; exact Nat.le_refl _)
      rw [ht] at T hcb
      clear ht
      go_wp2_with fail
      refine (sum_any g (catB L) wr (HK.out.below B.out HK.out.pos) HG0.out T.out (by omega)).mono ?_
      rintro e w2 ⟨rfl, hb2⟩
      have B2 := Lib.hid (B.out.trans (hb2.mono B.out.size))
      clear hb2
      go_wp2_with fail
      go_ret
      exact ⟨rfl, B2.out⟩
end Go.Proofs.YtnkpcolkhmphmaaDoor.W
