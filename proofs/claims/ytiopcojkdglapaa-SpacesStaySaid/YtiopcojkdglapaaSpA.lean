/- LAYER 18 (spaces): what the program's calls promise; awake of the law; the law SpacesMay out of that. -/
import Derived.Test.YtiopcojkdglapaaSpR
import Derived.Test.YtiopcojkdglapaaSpV
import Derived.Test.YtiopcojkdglapaaSpX
set_option linter.unusedSimpArgs false
set_option linter.unusedVariables false
namespace Go.Proofs.Ytiopcojkdglapaa.W
open Go Go.ChangeShapes Go.WideShapes Go.ChangeAt Go.RowKit
open Go.Proofs.Ytiopcojkdglapaa.P (enc dec)

abbrev SpCheckP (f : FuncId) : Prop := ∀ (a : Option Addr) (n c : Nat) (L : List Sp) (w : World), Ls spE w a n c L → Calls Try.prog f #[.slice a n c] w fun x w' => x = .returned (.bool (checkV L)) ∧ Below w.heap.size w w'
abbrev SpFindP (f : FuncId) : Prop := ∀ (a : Option Addr) (n c : Nat) (L : List Sp) (nm : ByteArray) (w : World), Ls spE w a n c L → Calls Try.prog f #[.slice a n c, .string nm] w fun x w' => x = .returned (.tuple #[.agg (findV L nm).1.cells.toArray, .bool (findV L nm).2]) ∧ Below w.heap.size w w'
abbrev SpMayP (f : FuncId) : Prop := ∀ (a : Option Addr) (n c : Nat) (L : List Sp) (nm : ByteArray) (cl : Int) (wr : Bool) (w : World), Ls spE w a n c L → Calls Try.prog f #[.slice a n c, .string nm, .int .i64 cl, .bool wr] w fun x w' => x = .returned (.bool (mayV L nm cl wr)) ∧ Below w.heap.size w w'
abbrev SpSetP (f : FuncId) : Prop := ∀ (a : Option Addr) (n c : Nat) (L : List Sp) (s : Sp) (w : World), Ls spE w a n c L → s.fit → n ≤ 30 → Calls Try.prog f #[.slice a n c, .agg s.cells.toArray] w fun x w' => ∃ a' n' c', x = .returned (.tuple #[.slice a' n' c', .int .i64 (setV L s).2]) ∧ Ls spE w' a' n' c' (setV L s).1 ∧ Below w.heap.size w w'
def awS : Sp := ⟨⟨#[97]⟩, 0, 4⟩
theorem awS_fit : awS.fit := ⟨by decide, ⟨by decide, by decide⟩, ⟨by decide, by decide⟩⟩
theorem awS_set : setV [] awS = ([awS], 0) := by rfl
theorem awS_built : Try.prog.built 24 [(0, .string ⟨#[97]⟩), (2, .int .i64 4)] = some awS.cells.toArray := by kernel_rfl
theorem awS_1 : mayV [awS] ⟨#[97]⟩ 2 true = true := by decide +kernel
theorem awS_2 : mayV [awS] ⟨#[97]⟩ 1 true = false := by decide +kernel
theorem awS_3 : mayV [awS] ⟨#[97]⟩ 2 false = false := by decide +kernel
set_option maxRecDepth 100000 in
set_option maxHeartbeats 4000000 in
theorem awake18 (hS : SpSetP 17) (hM : SpMayP 25) (w : World) : Calls Try.prog 15 #[] w fun x w' => x = .returned (.bool true) ∧ Below w.heap.size w w' := by
  have HS := Lib.hid (hS none 0 0 [] awS w (Ls.nil w) awS_fit (by decide))
  rw [awS_set] at HS
  have H1 := Lib.hid (fun a n c w (h : Ls spE w a n c [awS]) => hM a n c [awS] ⟨#[97]⟩ 2 true w h)
  have H2 := Lib.hid (fun a n c w (h : Ls spE w a n c [awS]) => hM a n c [awS] ⟨#[97]⟩ 1 true w h)
  have H3 := Lib.hid (fun a n c w (h : Ls spE w a n c [awS]) => hM a n c [awS] ⟨#[97]⟩ 2 false w h)
  simp only [awS_1] at H1
  simp only [awS_2] at H2
  simp only [awS_3] at H3
  clear hS hM
  go_enter Try.func15, Try.ntmps15
  go_wp2_with (first
    | ((with_reducible refine build_row (o := ⟨some 4, _, _, _, _, _⟩) rfl _ _ rfl awS.cells ?_ ?_); (focus (go_simp; exact awS_built)))
    | (go_at_call 17; (with_reducible refine HS.out.mono ?_); rintro x w1 ⟨a1, n1, c1, rfl, hl, hb⟩; have L1 := Lib.hid hl; have B1 := Lib.hid hb; clear hl hb)
    | (go_at_call 25; (with_reducible refine (H1.out a1 n1 c1 w1 L1.out).mono ?_); rintro x w2 ⟨rfl, hb⟩; have L2 := Lib.hid (L1.out.mono spOk hb); have B2 := Lib.hid (B1.out.trans (hb.mono B1.out.size)); clear hb)
    | (go_at_call 25; (with_reducible refine (H2.out a1 n1 c1 w2 L2.out).mono ?_); rintro x w3 ⟨rfl, hb⟩; have L3 := Lib.hid (L2.out.mono spOk hb); have B3 := Lib.hid (B2.out.trans (hb.mono B2.out.size)); clear hb)
    | (go_at_call 25; (with_reducible refine (H3.out a1 n1 c1 w3 L3.out).mono ?_); rintro x w4 ⟨rfl, hb⟩; have B4 := Lib.hid (B3.out.trans (hb.mono B3.out.size)); clear hb))
  go_ret
  exact ⟨by first | rfl | exact one (vbool (by simp)), B4.out⟩
set_option maxRecDepth 100000 in
set_option maxHeartbeats 4000000 in
theorem may_of (hS : SpSetP 17) (hM : SpMayP 25) (a : Option Addr) (n c : Nat) (L : List Sp) (nm : ByteArray) (cl : Int) (wr : Bool) (w : World) (h : Ls spE w a n c L) :
    Calls Try.prog 4 #[.slice a n c, .string nm, .int .i64 cl, .bool wr] w fun x w' => x = .returned (.bool true) ∧ Below w.heap.size w w' := by
  have H1 := Lib.hid (fun w' (hb : Below w.heap.size w w') => hM a n c L nm cl wr w' (h.mono spOk hb))
  have H2 := Lib.hid (fun w' (hb : Below w.heap.size w w') => zmay a n c L nm cl wr w' (h.mono spOk hb))
  obtain ⟨V, hV⟩ : ∃ V, mayV L nm cl wr = V := ⟨_, rfl⟩
  rw [hV] at H1 H2
  have HA := Lib.hid (awake18 hS hM)
  clear hS hM h hV
  go_enter Try.func4, Try.ntmps4
  go_wp2_with (first
    | (go_at_call 25; (with_reducible refine (H1.out w (Below.refl _ _)).mono ?_); rintro x w1 ⟨rfl, hb⟩; have B1 := Lib.hid hb; clear hb)
    | (go_at_call 26; (with_reducible refine (H2.out w1 B1.out).mono ?_); rintro x w2 ⟨rfl, hb⟩; have B2 := Lib.hid (B1.out.trans (hb.mono B1.out.size)); clear hb)
    | (go_at_call 15; (with_reducible refine (HA.out w2).mono ?_); rintro x w3 ⟨rfl, hb⟩; have B3 := Lib.hid (B2.out.trans (hb.mono B2.out.size)); clear hb))
  go_ret
  exact ⟨by first | rfl | exact one (vbool (by simp)), B3.out⟩
end Go.Proofs.Ytiopcojkdglapaa.W
