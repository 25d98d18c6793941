/- LAYER 18 (spaces): May, Same, Put of the reference. -/
import Derived.Test.YtiopcojkdglapaaSpT
set_option linter.unusedSimpArgs false
set_option linter.unusedVariables false
namespace Go.Proofs.Ytiopcojkdglapaa.W
open Go Go.ChangeShapes Go.WideShapes Go.ChangeAt Go.RowKit
open Go.Proofs.Ytiopcojkdglapaa.P (enc dec)
open Go.Proofs.Ytiopcojkdglapaa.B (hasV)

def mayV (L : List Sp) (nm : ByteArray) (cl : Int) (wr : Bool) : Bool := (findV L nm).2 && hasV (if wr then (findV L nm).1.wr else (findV L nm).1.rd) cl
set_option maxRecDepth 100000 in
set_option maxHeartbeats 8000000 in
theorem zmay (a : Option Addr) (n c : Nat) (L : List Sp) (nm : ByteArray) (cl : Int) (wr : Bool) (w : World) (h : Ls spE w a n c L) :
    Calls Try.prog 26 #[.slice a n c, .string nm, .int .i64 cl, .bool wr] w fun x w' => x = .returned (.bool (mayV L nm cl wr)) ∧ Below w.heap.size w w' := by
  have HF0 := fun w' (hb : Below w.heap.size w w') => zfind a n c L nm w' (h.mono spOk hb)
  obtain ⟨⟨⟨xn, xr, xw⟩, f⟩, hf⟩ : ∃ q, findV L nm = q := ⟨_, rfl⟩
  unfold mayV
  rw [hf] at HF0 ⊢
  have HF : Hid (∀ w, _) := Lib.hid (fun w' => zfind a n c L nm w')
  clear HF
  dsimp only at HF0 ⊢
  rw [show (Sp.cells ⟨xn, xr, xw⟩) = [.string xn, .int .i64 xr, .int .i64 xw] from rfl] at HF0
  have HF := Lib.hid (HF0 w (Below.refl _ _))
  have MZ := Lib.hid sp_zero
  have SZ := Lib.hid sp_size
  obtain ⟨b1, h1⟩ : ∃ b, hasV xw cl = b := ⟨_, rfl⟩
  obtain ⟨b2, h2⟩ : ∃ b, hasV xr cl = b := ⟨_, rfl⟩
  have H1 := Lib.hid h1
  have H2 := Lib.hid h2
  obtain ⟨V, hV⟩ : ∃ V, (f && hasV (if wr = true then xw else xr) cl) = V := ⟨_, rfl⟩
  rw [hV]
  have hV2 : V = (f && if wr = true then b1 else b2) := by rw [← hV, ← h1, ← h2]; cases wr <;> rfl
  have HV := Lib.hid hV2
  clear HF0 hf h h1 h2 hV hV2
  cases wr <;> cases f
  all_goals
    go_enter Try.func26, Try.ntmps26
    go_wp2_with (first
      | (go_at_call 20; (with_reducible refine HF.out.mono ?_); rintro x w1 ⟨rfl, hb⟩; have B1 := Lib.hid hb; clear hb)
      | ((with_reducible refine alloc_row (o := ⟨some 9, _, _, _, _, _⟩) rfl _ rfl _ MZ.out ?_); intro w2 hr hb hz; have R2 := Lib.hid hr; have B2 := Lib.hid (B1.out.trans (hb.mono B1.out.size)); clear hr hb hz)
      | ((with_reducible refine store_row (o := ⟨none, _, _, _, _, _⟩) rfl _ (.tmp 9) _ rfl w1.heap.size [.string xn, .int .i64 xr, .int .i64 xw] ?_ ?_ 24 _ R2.out ?_ ?_ ?_ ?_); (focus go_simp); (focus (first | (go_simp; done) | (go_simp; rfl))); (focus (exact SZ.out)); (focus rfl); (focus (exact sp_one ⟨xn, xr, xw⟩)); intro w3 hr3 hu3; obtain ⟨c0, c1, c2⟩ := hr3.sp3c; have B3 := Lib.hid (B2.out.trans (hu3.below B1.out.size)); clear hr3 hu3)
      | (go_at_call 77; (with_reducible refine (rhas xw cl _).mono ?_); rw [H1.out]; rintro x w' ⟨rfl, rfl⟩)
      | (go_at_call 77; (with_reducible refine (rhas xr cl _).mono ?_); rw [H2.out]; rintro x w' ⟨rfl, rfl⟩))
    go_ret
    exact ⟨one (vbool (by rw [HV.out]; simp)), B3.out⟩
end Go.Proofs.Ytiopcojkdglapaa.W
