import Derived.Test.YtkfhppbmnjmnoaaGreatDoorCzB
import Derived.Test.YtkfhppbmnjmnoaaGreatDoorArr
import Derived.Test.YtkfhppbmnjmnoaaGreatDoorBi
import Derived.Test.YtkfhppbmnjmnoaaGreatDoorCdA
import Derived.Test.YtkfhppbmnjmnoaaGreatDoorCzC
import Derived.Test.YtkfhppbmnjmnoaaGreatDoorTail
import Derived.Test.YtkfhppbmnjmnoaaGreatDoorStr
import Derived.Test.YtkfhppbmnjmnoaaGreatDoorStl
/- LAYER 28 (chunk): calls of a store that no call made; a copy of a store without pieces. -/
set_option linter.unusedSimpArgs false
set_option linter.unusedVariables false
namespace Go.Proofs.YtkfhppbmnjmnoaaGreatDoor.W
open Go Go.ChangeShapes Go.WideShapes Go.ChangeAt Go.RowKit
open Go.Proofs.YtkfhppbmnjmnoaaGreatDoor.P (shaL shaL_len)

/-- v is a store that no call made, in w and behind -/
def Nrd (w : World) (v : Value) : Prop := ∀ w', Below w.heap.size w w' → Calls Tryz.prog 50 #[v] w' fun e w'' => e = .returned (.bool false) ∧ w' = w''
theorem Nrd.nil (w : World) : Nrd w (.pointer none) := fun w' _ => cready_nil w'
theorem Nrd.zero {p : Nat} {w : World} (h : Row w p 66 [.int .i64 0, .map none]) : Nrd w (.pointer (some ⟨p, 0, none⟩)) := fun w' hb => cready_zero p w' (h.below hb h.lt).k2.2
theorem Nrd.mono {w w' : World} {v : Value} (h : Nrd w v) (hb : Below w.heap.size w w') : Nrd w' v := fun w2 h2 => h w2 (hb.trans (h2.mono hb.size))
set_option maxRecDepth 100000 in
set_option maxHeartbeats 4000000 in
theorem cput_not (v : Value) (a : Option Addr) (n c : Nat) (t : Int) (w : World) (h : Nrd w v) :
    Calls Tryz.prog 22 #[v, .slice a n c, .int .i64 t] w fun e w' => e = .returned (.tuple #[.string ⟨#[]⟩, .int .i64 2]) ∧ w = w' := by
  have H := Lib.hid (h w (Below.refl _ _))
  clear h
  go_enter Tryz.func22, Tryz.ntmps22
  go_wp2_with (go_at_call 50; (with_reducible refine H.out.mono ?_); rintro e w1 ⟨rfl, rfl⟩)
  go_ret2
  exact ⟨rfl, rfl⟩
set_option maxRecDepth 100000 in
set_option maxHeartbeats 4000000 in
theorem cget_not (v : Value) (s : ByteArray) (w : World) (h : Nrd w v) :
    Calls Tryz.prog 19 #[v, .string s] w fun e w' => e = .returned (.tuple #[.slice none 0 0, .int .i64 2]) ∧ w = w' := by
  have H := Lib.hid (h w (Below.refl _ _))
  clear h
  go_enter Tryz.func19, Tryz.ntmps19
  go_wp2_with (go_at_call 50; (with_reducible refine H.out.mono ?_); rintro e w1 ⟨rfl, rfl⟩)
  go_ret2
  exact ⟨rfl, rfl⟩
set_option maxRecDepth 100000 in
set_option maxHeartbeats 4000000 in
theorem chas_not (v : Value) (s : ByteArray) (w : World) (h : Nrd w v) :
    Calls Tryz.prog 21 #[v, .string s] w fun e w' => e = .returned (.bool false) ∧ w = w' := by
  have H := Lib.hid (cget_not v s w h)
  clear h
  go_enter Tryz.func21, Tryz.ntmps21
  go_wp2_with (go_at_call 19; (with_reducible refine H.out.mono ?_); rintro e w1 ⟨rfl, rfl⟩)
  go_ret
  exact ⟨rfl, rfl⟩
set_option maxRecDepth 100000 in
set_option maxHeartbeats 4000000 in
theorem cused_not (v : Value) (w : World) (h : Nrd w v) :
    Calls Tryz.prog 14 #[v] w fun e w' => e = .returned (.int .i64 0) ∧ w = w' := by
  have H := Lib.hid (h w (Below.refl _ _))
  clear h
  go_enter Tryz.func14, Tryz.ntmps14
  go_wp2_with (go_at_call 50; (with_reducible refine H.out.mono ?_); rintro e w1 ⟨rfl, rfl⟩)
  go_ret
  exact ⟨rfl, rfl⟩
set_option maxRecDepth 100000 in
set_option maxHeartbeats 4000000 in
theorem cloose_not (v : Value) (w : World) (h : Nrd w v) :
    Calls Tryz.prog 16 #[v] w fun e w' => e = .returned (.int .i64 0) ∧ w = w' := by
  have H := Lib.hid (h w (Below.refl _ _))
  clear h
  go_enter Tryz.func16, Tryz.ntmps16
  go_wp2_with (go_at_call 50; (with_reducible refine H.out.mono ?_); rintro e w1 ⟨rfl, rfl⟩)
  go_ret
  exact ⟨rfl, rfl⟩
set_option maxRecDepth 100000 in
set_option maxHeartbeats 4000000 in
theorem ctake_not (v g : Value) (w : World) (h : Nrd w v) :
    Calls Tryz.prog 63 #[v, g] w fun e w' => e = .returned (.slice none 0 0) ∧ w = w' := by
  have H := Lib.hid (h w (Below.refl _ _))
  clear h
  go_enter Tryz.func63, Tryz.ntmps63
  go_wp2_with (go_at_call 50; (with_reducible refine H.out.mono ?_); rintro e w1 ⟨rfl, rfl⟩)
  go_ret
  exact ⟨rfl, rfl⟩
set_option maxRecDepth 100000 in
set_option maxHeartbeats 4000000 in
theorem cscrub_not (v : Value) (w : World) (h : Nrd w v) :
    Calls Tryz.prog 31 #[v] w fun e w' => e = .returned (.slice none 0 0) ∧ w = w' := by
  have H := Lib.hid (fun g => ctake_not v g w h)
  clear h
  go_enter Tryz.func31, Tryz.ntmps31
  go_wp2_with (go_at_call 63; (with_reducible refine (H.out _).mono ?_); rintro e w1 ⟨rfl, rfl⟩)
  go_ret
  exact ⟨rfl, rfl⟩
set_option maxRecDepth 100000 in
set_option maxHeartbeats 4000000 in
theorem crot_not (v : Value) (i j k : Int) (w : World) (h : Nrd w v) :
    Calls Tryz.prog 42 #[v, .int .i64 i, .int .i64 j, .int .i64 k] w fun e w' => e = .returned (.bool false) ∧ w = w' := by
  have H := Lib.hid (csums_not v w (h w (Below.refl _ _)))
  clear h
  go_enter Tryz.func42, Tryz.ntmps42
  go_wp2_with (go_at_call 47; (with_reducible refine H.out.mono ?_); rintro e w1 ⟨rfl, rfl⟩)
  go_ret
  exact ⟨rfl, rfl⟩
set_option maxRecDepth 100000 in
set_option maxHeartbeats 4000000 in
theorem csync_not (v : Value) (w : World) (h : Nrd w v) :
    Calls Tryz.prog 27 #[v] w fun e w' => e = .returned (.int .i64 0) ∧ w = w' := by
  have H := Lib.hid (csums_not v w (h w (Below.refl _ _)))
  have HL := Lib.hid (cloose_not v w h)
  clear h
  go_enter Tryz.func27, Tryz.ntmps27
  go_wp2_with (first
    | (go_at_call 16; (with_reducible refine HL.out.mono ?_); rintro e w1 ⟨rfl, rfl⟩)
    | (go_at_call 47; (with_reducible refine H.out.mono ?_); rintro e w1 ⟨rfl, rfl⟩))
  go_loopw [12] (fun i wr => i = .int .i64 0 ∧ Hid (w = wr)) (fun _ _ => 0)
  case atStart => exact ⟨rfl, Lib.hid rfl⟩
  case round =>
    obtain ⟨rfl, hw⟩ := hrel
    go_wp2_with fail
    go_ret
    exact ⟨rfl, hw.out⟩
set_option maxRecDepth 100000 in
set_option maxHeartbeats 4000000 in
theorem cfiles_not (v : Value) (w : World) (h : Nrd w v) :
    Calls Tryz.prog 12 #[v] w fun e w' => e = .returned (.slice none 0 0) ∧ w = w' := by
  have H := Lib.hid (csums_not v w (h w (Below.refl _ _)))
  clear h
  go_enter Tryz.func12, Tryz.ntmps12
  go_wp2_with (go_at_call 47; (with_reducible refine H.out.mono ?_); rintro e w1 ⟨rfl, rfl⟩)
  go_loopw [3, 9] (fun v i wr => v = .slice none 0 0 ∧ i = .int .i64 0 ∧ Hid (w = wr)) (fun _ _ _ => 0)
  case atStart => exact ⟨rfl, rfl, Lib.hid rfl⟩
  case round =>
    obtain ⟨rfl, rfl, hw⟩ := hrel
    go_wp2_with fail
    go_ret
    exact ⟨rfl, hw.out⟩
set_option maxRecDepth 100000 in
set_option maxHeartbeats 4000000 in
theorem ccrash_not (v : Value) (w : World) (h : Nrd w v) :
    Calls Tryz.prog 28 #[v, .slice none 0 0] w fun e w' => e = .returned (.tuple #[]) ∧ Below w.heap.size w w' := by
  have HTS := Lib.hid (kturns none 0 0 w)
  have H := Lib.hid (fun w' hb => csums_not v w' (h w' hb))
  clear h
  go_enter Tryz.func28, Tryz.ntmps28
  go_wp2_with (first
    | (go_at_call 61; (with_reducible refine HTS.out.mono ?_); rintro e w1 ⟨b1, b2, rfl, hr1, hr2, hl1, hl2, hne, hb1⟩; have B1 := Lib.hid hb1; clear hr1 hr2 hl1 hl2 hne hb1)
    | (go_at_call 47; (with_reducible refine (H.out w1 B1.out).mono ?_); rintro e w2 ⟨rfl, rfl⟩))
  go_loopw [13] (fun i wr => i = .int .i64 0 ∧ Hid (w1 = wr)) (fun _ _ => 0)
  case atStart => exact ⟨rfl, Lib.hid rfl⟩
  case round =>
    obtain ⟨rfl, hw⟩ := hrel
    obtain rfl := hw.out
    go_wp2_with fail
    first | go_end0 | (refine bodyPost_ret (results_none rfl _ _ _) rfl ?_)
    exact ⟨rfl, B1.out⟩
set_option maxRecDepth 100000 in
set_option maxHeartbeats 4000000 in
theorem csweep_not (v : Value) (t : Int) (w : World) (h : Nrd w v) :
    Calls Tryz.prog 29 #[v, .int .i64 t, .slice none 0 0, .slice none 0 0] w fun e w' => e = .returned (.int .i64 0) ∧ Below w.heap.size w w' := by
  have H := Lib.hid (fun g w' hb => ctake_not v g w' (h.mono (w' := w') hb))
  clear h
  go_enter Tryz.func29, Tryz.ntmps29
  go_wp2_with (first
    | (with_reducible refine box_cell (o := ⟨some 5, _, _, _, _, _⟩) rfl _ _ rfl (.int .i64 t) rfl rfl ?_; intro w1 hr1 hb1 hz1; have B1 := Lib.hid hb1; clear hr1 hb1 hz1)
    | (with_reducible refine box_cell (o := ⟨some 6, _, _, _, _, _⟩) rfl _ _ rfl (.slice none 0 0) rfl rfl ?_; intro w2 hr1 hb1 hz1; have B2 := Lib.hid (B1.out.trans (hb1.mono B1.out.size)); clear hr1 hb1 hz1)
    | (with_reducible refine box_cell (o := ⟨some 7, _, _, _, _, _⟩) rfl _ _ rfl (.slice none 0 0) rfl rfl ?_; intro w3 hr1 hb1 hz1; have B3 := Lib.hid (B2.out.trans (hb1.mono B2.out.size)); clear hr1 hb1 hz1)
    | ((with_reducible refine alloc_cell (o := ⟨some 9, _, _, _, _, _⟩) rfl _ rfl .nilFunc rfl (by kernel_rfl) ?_); intro w4 hr hb hz; have R44 := Lib.hid hr; have B4 := Lib.hid (B3.out.trans (hb.mono B3.out.size)); clear hr hb hz)
    | ((with_reducible refine store_cell (o := ⟨none, _, _, _, _, _⟩) rfl _ (.tmp 9) _ rfl w3.heap.size 0 (.func (.func 62) #[] #[.pointer (some ⟨w.heap.size, 0, none⟩), .pointer (some ⟨w2.heap.size, 0, none⟩)]) ?_ ?_ rfl rfl 85 _ R44.out cnt_size ?_ ?_); (focus go_simp); (focus (first | (go_simp; done) | (go_simp; rfl))); (focus (show 0 < 1; decide)); intro w5 hr hu; have B5 := Lib.hid (B4.out.trans (hu.below B3.out.size)); clear hr hu)
    | (go_at_call 63; (with_reducible refine (H.out _ _ B5.out).mono ?_); rintro e w6 ⟨rfl, rfl⟩))
  go_ret
  exact ⟨rfl, B5.out⟩
end Go.Proofs.YtkfhppbmnjmnoaaGreatDoor.W

/- LAYER 28 (chunk): the program's Put, as it is said plainly; Copy of a store without pieces. -/
set_option linter.unusedSimpArgs false
set_option linter.unusedVariables false
namespace Go.Proofs.YtkfhppbmnjmnoaaGreatDoor.W
open Go Go.ChangeShapes Go.WideShapes Go.ChangeAt Go.RowKit
open Go.Proofs.YtkfhppbmnjmnoaaGreatDoor.P (shaL shaL_len)

set_option maxRecDepth 100000 in
set_option maxHeartbeats 4000000 in
theorem cput_bad {p m : Nat} {room : Int} {X : List FX} {S : Nat → Prop} {w : World} (a : Option Addr) (n c : Nat) (time : Int) (h : CK w p m room X S) (hn : n < 1 ∨ 256 < n) (hm : n ≤ 9223372036854775807) :
    Calls Tryz.prog 22 #[.pointer (some ⟨p, 0, none⟩), .slice a n c, .int .i64 time] w fun e w' => e = .returned (.tuple #[.string ⟨#[]⟩, .int .i64 1]) ∧ w = w' := by
  have HR := Lib.hid (cready p m room w h.rp)
  have HP := Lib.hid (pin (n : Int) 1 256 false (by unfold in64; rcases hn with h | h <;> simp <;> omega))
  clear h hn
  go_enter Tryz.func22, Tryz.ntmps22
  go_wp2_with (first
    | (go_at_call 50; (with_reducible refine HR.out.mono ?_); rintro e w0 ⟨rfl, rfl⟩)
    | (go_at_call 35; (with_reducible refine (HP.out w).mono ?_); rintro e w1 ⟨rfl, rfl⟩))
  go_ret2
  exact ⟨rfl, rfl⟩
theorem CK.more {w w' : World} {p m : Nat} {room : Int} {X : List FX} {S : Nat → Prop} (h : CK w p m room X S) (k : Below w.heap.size w w') : CK w' p m room X (fun k => S k ∨ (w.heap.size ≤ k ∧ k < w'.heap.size)) :=
  (h.mono k).grow (fun _ h => .inl h) (fun b hb => hb.elim (fun h2 => Nat.lt_of_lt_of_le (h.lt b h2) k.size) (·.2))
theorem cput {p m T : Nat} {room : Int} {X : List FX} {S : Nat → Prop} {w : World} (a : Option Addr) (n c : Nat) (b : List UInt8) (time : Int)
    (h : CK w p m room X S) (hs : StOk T room (X.map (·.f))) (hb : Rd w a n c b) (ht : SI64 time) (hK : Ks w) (hT : T ≤ 899) (h0 : 0 ≤ room) :
    Calls Tryz.prog 22 #[.pointer (some ⟨p, 0, none⟩), .slice a n c, .int .i64 time] w fun e w' => e = .returned (.tuple #[.string (putC room (X.map (·.f)) b time).2.1, .int .i64 (putC room (X.map (·.f)) b time).2.2]) ∧
      ∃ X', X'.map (·.f) = (putC room (X.map (·.f)) b time).1 ∧ CK w' p m room X' (fun k => S k ∨ (w.heap.size ≤ k ∧ k < w'.heap.size)) ∧ Ft S w w' := by
  have hl : b.length = n := hb.hlen
  have ok : ∀ x ∈ X, FiOk T x.f := fun x hx => hs.ok _ (List.mem_map.2 ⟨x, hx, rfl⟩)
  have h256 : ∀ x ∈ X, x.f.b.length ≤ 256 := fun x hx => (ok x hx).b2
  have hn : X.length ≤ 524288 := by have := hs.len; rwa [List.length_map] at this
  have hrm : 0 ≤ room ∧ room ≤ 524288 := ⟨h0, hs.rm⟩
  have hus : usedC (X.map (·.f)) ≤ 524288 := by have := hs.us; have := hs.rm; omega
  have hz : (sumOf b).size ≤ maxLen := by rw [sumOf_size]; decide
  unfold putC
  rw [hl]
  by_cases hbad : n < 1 ∨ 256 < n
  · rw [if_pos hbad]
    refine (cput_bad a n c time h hbad (Nat.le_trans hb.hle hb.hmax)).mono ?_
    rintro e w' ⟨rfl, rfl⟩
    exact ⟨rfl, X, rfl, h.more (Below.refl _ _), Ft.refl _ _⟩
  rw [if_neg hbad]
  have hn1 : 1 ≤ n ∧ n ≤ 256 := by omega
  rcases find_or (sumOf b) (X.map (·.f)) with ⟨e, hno⟩ | ⟨f, e, hf, hfs⟩
  · rw [e]
    have fd : Found w m X T b false ⟨#[]⟩ none 0 0 0 (.slice none 0 0) [] [] := {
      lk := fun w' hw => (look_no (s := sumOf b) 64 44 map_type _ (file_zv w') (h.mono hw).sm hz (fun q hq => by obtain ⟨x, hx, rfl⟩ := List.mem_map.1 hq; exact hno _ (List.mem_map.2 ⟨x, hx, rfl⟩))).2
      rd := Rd_nil w
      b2 := by omega
      ot := LsO.nil w 0
      t64 := by simp
      tr := List.Pairwise.nil
      tl := Nat.zero_le _
      yes := by simp
      no := fun _ => ⟨rfl, rfl, fun x hx => hno _ (List.mem_map.2 ⟨x, hx, rfl⟩)⟩ }
    have hne : ([] : List UInt8) ≠ b := by rintro rfl; simp at hl; omega
    dsimp only
    by_cases hfull : room < (usedC (X.map (·.f)) : Int) + n
    · rw [if_pos hfull]
      refine (cput_full_false a n c b time h hb hn1 ht hK hT h256 hn hrm hus fd rfl hne (by simpa using hfull)).mono ?_
      rintro e w' ⟨rfl, hb⟩
      exact ⟨rfl, X, rfl, h.more hb, Ft.of_below hb⟩
    · rw [if_neg hfull]
      refine (cput_new_false a n c b time h hb hn1 ht hK hT h256 hn hrm hus fd rfl hne (by simpa using hfull)).mono ?_
      rintro e w' ⟨rfl, y, hy, hc, hf⟩
      exact ⟨rfl, _, by rw [put_f, hy]; rfl, hc, hf⟩
  · rw [e]
    obtain ⟨x, hx, rfl⟩ := find_x hf
    obtain ⟨fa, fc, hbv, hrd, -⟩ := (h.ob x hx).form
    have okx := ok x hx
    have fd : Found w m X T b true x.f.s fa x.f.b.length fc x.f.su x.tv x.f.b x.f.t := {
      lk := fun w' hw => by
        have := (look_yes (s := sumOf b) 64 44 map_type _ (file_zv w') (h.mono hw).sm hz (by have := (h.mono hw).at hx; rw [hfs] at this; exact this)).2
        rw [← hbv]; exact this
      rd := hrd
      b2 := okx.b2
      ot := h.ot x hx
      t64 := okx.t64
      tr := okx.tr
      tl := okx.tl
      yes := fun _ => ⟨hfs, x, hx, rfl, hbv, rfl, hbv ▸ h.ob x hx⟩
      no := by simp }
    dsimp only
    by_cases heq : x.f.b = b
    · rw [if_pos heq]
      refine (cput_eq a n c b time h hb hn1 ht hK hT h256 hn hrm hus fd rfl heq).mono ?_
      rintro e w' ⟨rfl, y, hy, hc, hf⟩
      exact ⟨rfl, _, by rw [put_f, hy], hc, hf⟩
    rw [if_neg heq]
    by_cases hin : sumOf x.f.b = x.f.s
    · rw [if_pos (show intactC x.f = true by unfold intactC; simpa using hin)]
      refine (cput_exists a n c b time h hb hn1 ht hK hT h256 hn hrm hus fd rfl heq hin).mono ?_
      rintro e w' ⟨rfl, hb⟩
      exact ⟨rfl, X, rfl, h.more hb, Ft.of_below hb⟩
    rw [if_neg (show ¬ intactC x.f = true by unfold intactC; simpa using hin)]
    by_cases hfull : room < (usedC (X.map (·.f)) : Int) - x.f.b.length + n
    · rw [if_pos hfull]
      refine (cput_full_true a n c b time h hb hn1 ht hK hT h256 hn hrm hus fd rfl heq hin hfull).mono ?_
      rintro e w' ⟨rfl, hb⟩
      exact ⟨rfl, X, rfl, h.more hb, Ft.of_below hb⟩
    · rw [if_neg hfull]
      refine (cput_new_true a n c b time h hb hn1 ht hK hT h256 hn hrm hus fd rfl heq hin hfull).mono ?_
      rintro e w' ⟨rfl, y, hy, hc, hf⟩
      exact ⟨rfl, _, by rw [put_f, hy], hc, hf⟩
-- ---- Copy of a store without pieces
end Go.Proofs.YtkfhppbmnjmnoaaGreatDoor.W

/- A LIST OF ONE BYTE that is built out of an operand, and its conversion ([]byte("x")). -/
set_option linter.unusedSimpArgs false
set_option linter.unusedVariables false
namespace Go.Proofs.YtkfhppbmnjmnoaaGreatDoor.W
open Go Go.ChangeShapes Go.WideShapes Go.ChangeAt Go.RowKit

theorem conv_run {P : Program} (w : World) (t e : TypeId) (g n c : Nat) (C : Array Value) (hg : w.heap[g]? = some (.cells C e (0, 0))) (ht : P.underlying t = some (.slice e)) (he : P.underlying e = some (.int .u8)) :
    ∃ w', (convert t t (.slice (some ⟨g, 0, none⟩) n c)).run P w = .ok (.slice (some ⟨g, 0, none⟩) n c) w' ∧ Upd w w' g ∧ w'.heap[g]? = some (.cells C e (C.size, C.size + 1)) := by
  have hsh : w.shape? g = some (e, C.size) := by unfold World.shape?; rw [hg]
  have hz : w.freeze ⟨g, C.size, none⟩ 1 = { w with heap := (w.freeze ⟨g, C.size, none⟩ 1).heap } := by
    unfold World.freeze; rw [if_neg (by decide)]
  refine ⟨w.freeze ⟨g, C.size, none⟩ 1, ?_, ?_, ?_⟩
  · simp [convert, run_underlying ht, run_underlying he, markStringish, hsh]
  · unfold World.freeze
    rw [if_neg (by decide)]
    exact ⟨rfl, rfl, rfl, by simp, fun k hk => by simp [Array.getElem?_modify, hk.symm]⟩
  · unfold World.freeze
    rw [if_neg (by decide)]
    simp [Array.getElem?_modify, hg]
theorem by1_rd {w w' : World} {g : Nat} {v : UInt8} {fz : Nat × Nat} (h : w'.heap[g]? = some (.cells #[B v] 5 fz)) : Rd w' (some ⟨g, 0, none⟩) 1 1 [v] := by
  refine ⟨rfl, Nat.le_refl _, by omega, (fun h => by cases h), .inr ⟨g, 0, rfl, (Array.getElem?_eq_some_iff.1 h).1, fun i hi => ?_⟩⟩
  obtain rfl : i = 0 := by omega
  rw [Nat.zero_add, cell_of_row w' g 0 _ _ _ h]
  rfl
theorem conv_by {w : World} {ops : Array Oper} {rest : List Oper} {o : Oper} {a : Act} {Q : Exit → Act → World → Prop} (hgd : o.guard = none) (x : Operand)
    (ho : o.op = .convert 30 30 x) (g : Nat) (v : UInt8) (h0 : a.eval x = .slice (some ⟨g, 0, none⟩) 1 1) (hr : Row w g 5 [B v])
    (hk : ∀ w', Rd w' (some ⟨g, 0, none⟩) 1 1 [v] → Upd w w' g → wpList Tryz.prog ops Q rest (a.put o.dst (.slice (some ⟨g, 0, none⟩) 1 1)) w') : wpList Tryz.prog ops Q (o :: rest) a w := by
  obtain ⟨w', hrun, hu, hh⟩ := conv_run (P := Tryz.prog) w 30 5 g 1 1 #[B v] hr Tryz.underlying30 Tryz.underlying5
  refine wpList_plain hgd fun K hK => ?_
  unfold Oper.wp
  simp [execOp, ho, h0, hrun, Result.andThen]
  exact hK _ _ (hk w' (by1_rd (w := w) hh) hu)
set_option maxRecDepth 100000 in
theorem by1 {w : World} {ops : Array Oper} {rest : List Oper} {o : Oper} {a : Act} {Q : Exit → Act → World → Prop} (hgd : o.guard = none) (x : Operand)
    (ho : o.op = .buildSlice 30 1 #[(0, x)]) (v : UInt8) (h0 : a.eval x = B v)
    (hk : ∀ w', Row w' w.heap.size 5 [B v] → Below w.heap.size w w' → w'.heap.size = w.heap.size + 1 → wpList Tryz.prog ops Q rest (a.put o.dst (.slice (some ⟨w.heap.size, 0, none⟩) 1 1)) w') : wpList Tryz.prog ops Q (o :: rest) a w := by
  obtain ⟨i0, hi0, hz0, hz1, hz2⟩ := info_parts infoByte
  refine wpList_buildSlice hgd 30 5 1 _ ho #[B v] i0 _ Tryz.underlying30 hi0 hz0 (by rw [hz1]; decide) (by rw [hz1]; decide) (by rw [hz1]; simp only [List.map_toArray, List.map_cons, List.map_nil, h0, B]; go_simp; first | done | rfl) ?_
  exact hk _ (Row.new _ _ _) ((Below.refl _ _).alloc (Nat.le_refl _) _) (by simp)
end Go.Proofs.YtkfhppbmnjmnoaaGreatDoor.W

/- LAYER 28 (chunk): awake. -/
set_option linter.unusedSimpArgs false
set_option linter.unusedVariables false
namespace Go.Proofs.YtkfhppbmnjmnoaaGreatDoor.W
open Go Go.ChangeShapes Go.WideShapes Go.ChangeAt Go.RowKit
open Go.Proofs.YtkfhppbmnjmnoaaGreatDoor.P (shaL shaL_len)

theorem shaL_ab : shaL [97] ≠ shaL [98] := by decide +kernel
theorem sumOf_ab : sumOf [97] ≠ sumOf [98] := by
  unfold sumOf
  intro h
  have := congrArg (fun b => b.data.toList) h
  exact shaL_ab (by simpa [str] using this)
theorem fiOk_one (T : Nat) (v : UInt8) (su : Nat) (hs : su ≤ 1) : FiOk (T + 1) ⟨sumOf [v], [v], su, [1]⟩ :=
  ⟨by show (sumOf [v]).size ≤ 1000000; rw [sumOf_size]; decide, by simp, by simp, by simpa using hs, by simp, by simp [SI64], by simp⟩
theorem put_a : putC 100 [] [97] 1 = ([⟨sumOf [97], [97], 0, [1]⟩], sumOf [97], 0) := rfl
theorem put_b : ∃ L, putC 100 [⟨sumOf [97], [97], 1, [1]⟩] [98] 1 = (L, sumOf [98], 0) ∧ crashC [] 0 L = [⟨sumOf [97], [97], 1, [1]⟩] ∧ (∀ f ∈ L, FiOk 2 f) ∧ L.length ≤ 2 := by
  have hab := sumOf_ab
  have hba : sumOf [98] ≠ sumOf [97] := fun e => hab e.symm
  obtain ⟨x, hx⟩ : ∃ x, sumOf [97] = x := ⟨_, rfl⟩
  obtain ⟨y, hy⟩ : ∃ y, sumOf [98] = y := ⟨_, rfl⟩
  have f1 := fiOk_one 1 97 1 (by decide)
  have f2 := fiOk_one 1 98 0 (by decide)
  unfold putC
  rw [hx] at hab hba f1 ⊢
  rw [hy] at hab hba f2 ⊢
  simp only [findC, List.find?, hab, decide_false, usedC, putL, hba, if_false]
  refine ⟨_, rfl, ?_, ?_, ?_⟩
  · split <;> simp [crashC, isLoose, stayV]
  · intro f hf
    split at hf <;> simp at hf <;> rcases hf with rfl | rfl <;> assumption
  · split <;> simp
theorem stOk_one (room : Int) (v : UInt8) (su : Nat) (hs : su ≤ 1) (hr : 1 ≤ room ∧ room ≤ 524288) : StOk 1 room [⟨sumOf [v], [v], su, [1]⟩] :=
  ⟨List.pairwise_singleton _ _, fun f hf => by simp at hf; subst hf; exact fiOk_one 0 v su hs, by simp [usedC]; omega, hr.2⟩
theorem stOk_nil (T : Nat) (room : Int) (hr : 0 ≤ room ∧ room ≤ 524288) : StOk T room [] := ⟨List.Pairwise.nil, by simp, by simp [usedC]; omega, hr.2⟩
theorem get_a : (getC [⟨sumOf [97], [97], 1, [1]⟩] (sumOf [97])).2 = 0 := by simp [getC, findC, intactC]
theorem get_b : (getC [⟨sumOf [97], [97], 1, [1]⟩] (sumOf [98])).2 = 6 := by
  have hab := sumOf_ab
  simp [getC, findC, hab]
theorem Ft.belowS {F : Nat → Prop} {base : Nat} {w w' : World} (h : Ft F w w') (hf : ∀ k, F k → base ≤ k) (hb : base ≤ w.heap.size) : Below base w w' :=
  ⟨h.os, h.tape, h.output, h.size, fun k hk => h.block k (Nat.lt_of_lt_of_le hk hb) (fun e => absurd (hf k e) (Nat.not_le.2 hk))⟩
theorem sy_map {sa : ByteArray} {X : List FX} (h : X.map (·.f) = [⟨sa, [97], 0, [1]⟩]) : (X.map syX).map (·.f) = [⟨sa, [97], 1, [1]⟩] := by
  have e : (X.map syX).map (·.f) = (X.map (·.f)).map (fun f : Fi => (⟨f.s, f.b, f.b.length, f.t⟩ : Fi)) := by rw [List.map_map, List.map_map]; rfl
  rw [e, h]; rfl
set_option maxRecDepth 100000 in
set_option maxHeartbeats 16000000 in
theorem awake28 (w : World) (hK : Ks w) : Calls Tryz.prog 18 #[] w fun e w' => e = .returned (.bool true) ∧ Below w.heap.size w w' := by
  have HN := Lib.hid (cnew 100 w (by decide))
  obtain ⟨L, hpb, hcr, hok, hlen⟩ := put_b
  obtain ⟨sa, hsa⟩ : ∃ x, sumOf [97] = x := ⟨_, rfl⟩
  obtain ⟨sb, hsb⟩ : ∃ x, sumOf [98] = x := ⟨_, rfl⟩
  have za : sa.size ≤ maxLen := by rw [← hsa, sumOf_size]; decide
  have zb : sb.size ≤ maxLen := by rw [← hsb, sumOf_size]; decide
  have pa := put_a
  have ga := get_a
  have gb := get_b
  have oa := stOk_one 100 97 1 (by decide) (by decide)
  have fa := fiOk_one 0 97 0 (by decide)
  have fa1 := fiOk_one 0 97 1 (by decide)
  rw [hsa] at hpb hcr pa ga gb oa fa fa1
  rw [hsb] at hpb gb
  have HK := Lib.hid hK
  have HPA := Lib.hid (fun (w1 w2 : World) p m S (h : CK w1 p m 100 [] S) (g : Nat) (hb : Below w1.heap.size w1 w2) (hr : Rd w2 (some ⟨g, 0, none⟩) 1 1 [97]) (hk : Ks w2) => by
    have := cput (T := 1) (some ⟨g, 0, none⟩) 1 1 [97] 1 (h.mono hb) (stOk_nil 1 100 (by decide)) hr ⟨by decide, by decide⟩ hk (by decide) (by decide)
    rw [show (([] : List FX).map (·.f)) = [] from rfl, pa] at this
    exact this)
  have HSY := Lib.hid (fun (w1 : World) p m S X (hX : X.map (·.f) = [⟨sa, [97], 0, [1]⟩]) (h : CK w1 p m 100 X S) => by
    exact csync (T := 1) h (fun x hx => by have h1 : x.f ∈ X.map (·.f) := List.mem_map.2 ⟨x, hx, rfl⟩; rw [hX] at h1; simp at h1; rw [h1]; exact fa) (by have h2 := congrArg List.length hX; simp at h2; omega))
  have HPB := Lib.hid (fun (w1 w2 : World) p m S X (hX : X.map (·.f) = [⟨sa, [97], 1, [1]⟩]) (h : CK w1 p m 100 X S) (g : Nat) (hb : Below w1.heap.size w1 w2) (hr : Rd w2 (some ⟨g, 0, none⟩) 1 1 [98]) (hk : Ks w2) => by
    have := cput (T := 1) (some ⟨g, 0, none⟩) 1 1 [98] 1 (h.mono hb) (by rw [hX]; exact oa) hr ⟨by decide, by decide⟩ hk (by decide) (by decide)
    rw [hX, hpb] at this
    exact this)
  have HCR := Lib.hid (fun (w1 : World) p m S X (hX : X.map (·.f) = L) (h : CK w1 p m 100 X S) => by
    have := ccrash (T := 2) h (fun x hx => hok _ (by rw [← hX]; exact List.mem_map.2 ⟨x, hx, rfl⟩)) (by have h2 := congrArg List.length hX; simp at h2; omega) none 0 0 [] ⟨rfl, by decide, by simp, .inl rfl⟩ (fun h => absurd rfl h)
    rw [hX, hcr] at this
    exact this)
  have HHA := Lib.hid (fun (w1 w2 : World) p m S X (hX : X.map (·.f) = [⟨sa, [97], 1, [1]⟩]) (h : CK w1 p m 100 X S) (hb : Below w1.heap.size w1 w2) (hk : Ks w2) => by
    have := chas sa (h.mono hb) (fun x hx => by have h1 : x.f ∈ X.map (·.f) := List.mem_map.2 ⟨x, hx, rfl⟩; rw [hX] at h1; simp at h1; rw [h1]; exact fa1.b2) za hk
    rw [hX, ga] at this
    exact this)
  have HHB := Lib.hid (fun (w1 w2 : World) p m S X (hX : X.map (·.f) = [⟨sa, [97], 1, [1]⟩]) (h : CK w1 p m 100 X S) (hb : Below w1.heap.size w1 w2) (hk : Ks w2) => by
    have := chas sb (h.mono hb) (fun x hx => by have h1 : x.f ∈ X.map (·.f) := List.mem_map.2 ⟨x, hx, rfl⟩; rw [hX] at h1; simp at h1; rw [h1]; exact fa1.b2) zb hk
    rw [hX, gb] at this
    exact this)
  have HUS := Lib.hid (fun (w1 w2 : World) p m S X (hX : X.map (·.f) = [⟨sa, [97], 1, [1]⟩]) (h : CK w1 p m 100 X S) (hb : Below w1.heap.size w1 w2) => by
    have := cused (h.mono hb) (fun x hx => by have h1 : x.f ∈ X.map (·.f) := List.mem_map.2 ⟨x, hx, rfl⟩; rw [hX] at h1; simp at h1; rw [h1]; exact fa1.b2) (by have h2 := congrArg List.length hX; simp at h2; omega)
    rw [hX] at this
    exact this)
  clear hK hpb hcr hok hlen hsa hsb za zb pa ga gb oa fa fa1
  go_enter Tryz.func18, Tryz.ntmps18
  go_wp2_with (first
    | (go_at_call 7; (with_reducible refine HN.out.mono ?_); rintro e w1 ⟨p, m, rfl, hc, hb⟩; have C1 := Lib.hid hc; have B1 := Lib.hid hb; clear hc hb)
    | ((with_reducible refine by1 (o := ⟨some 19, _, _, _, _, _⟩) rfl _ rfl 97 ?_ ?_); (focus (first | (go_simp; done) | (go_simp; rfl))); intro w2 hr hb hz; have RB := Lib.hid hr; have B2 := Lib.hid hb; clear hr hb hz)
    | ((with_reducible refine conv_by (o := ⟨some 20, _, _, _, _, _⟩) rfl _ rfl w1.heap.size 97 ?_ RB.out ?_); (focus (first | (go_simp; done) | (go_simp; rfl))); intro w3 hr hu; have RA := Lib.hid hr; have B3 := Lib.hid (B2.out.trans (hu.below (Nat.le_refl _))); have BB3 := Lib.hid (B1.out.trans (B3.out.mono B1.out.size)); clear hr hu)
    | (go_at_call 22; (with_reducible refine (HPA.out w1 w3 p m _ C1.out w1.heap.size B3.out RA.out (HK.out.below BB3.out HK.out.pos)).mono ?_); rintro e w4 ⟨rfl, X4, hX, hc, hf⟩; have X4E := Lib.hid hX; have C4 := Lib.hid hc; have F4 := Lib.hid hf; clear hX hc hf)
    | (go_at_call 27; (with_reducible refine (HSY.out w4 p m _ X4 X4E.out C4.out).mono ?_); rintro e w5 ⟨rfl, hc, hf⟩; have C5 := Lib.hid hc; have F5 := Lib.hid hf; clear hc hf)
    | ((with_reducible refine by1 (o := ⟨some 28, _, _, _, _, _⟩) rfl _ rfl 98 ?_ ?_); (focus (first | (go_simp; done) | (go_simp; rfl))); intro w6 hr hb hz; have BD5 := Lib.hid ((BB3.out.trans (F4.out.belowS (fun k h => h.1) BB3.out.size)).trans (F5.out.belowS (fun k h => h.elim (·.1) (fun h => Nat.le_trans BB3.out.size h.1)) (Nat.le_trans BB3.out.size F4.out.size))); have RB6 := Lib.hid hr; have B6 := Lib.hid hb; clear hr hb hz)
    | ((with_reducible refine conv_by (o := ⟨some 29, _, _, _, _, _⟩) rfl _ rfl w5.heap.size 98 ?_ RB6.out ?_); (focus (first | (go_simp; done) | (go_simp; rfl))); intro w7 hr hu; have RA7 := Lib.hid hr; have B7 := Lib.hid (B6.out.trans (hu.below (Nat.le_refl _))); have BB7 := Lib.hid (BD5.out.trans (B7.out.mono BD5.out.size)); clear hr hu)
    | (go_at_call 22; (with_reducible refine (HPB.out w5 w7 p m _ _ (sy_map X4E.out) C5.out w5.heap.size B7.out RA7.out (HK.out.below BB7.out HK.out.pos)).mono ?_); rintro e w8 ⟨rfl, X8, hX, hc, hf⟩; have X8E := Lib.hid hX; have C8 := Lib.hid hc; have F8 := Lib.hid hf; clear hX hc hf)
    | (go_at_call 28; (with_reducible refine (HCR.out w8 p m _ X8 X8E.out C8.out).mono ?_); rintro e w9 ⟨rfl, X9, hX, hc, hf⟩; have X9E := Lib.hid hX; have C9 := Lib.hid hc; have F9 := Lib.hid hf; have BB8 := Lib.hid (BB7.out.trans (F8.out.belowS (fun k h => h.elim (·.1) (fun h => Nat.le_trans BB3.out.size h.1)) BB7.out.size)); have BB9 := Lib.hid (BB8.out.trans (F9.out.belowS (fun k h => h.elim (fun h => h.elim (·.1) (fun h => Nat.le_trans BB3.out.size h.1)) (fun h => Nat.le_trans BD5.out.size (Nat.le_trans B7.out.size h.1))) BB8.out.size)); clear hX hc hf)
    | (go_at_call 21; (with_reducible refine (HHA.out w9 w9 p m _ X9 X9E.out C9.out (Below.refl _ _) (HK.out.below BB9.out HK.out.pos)).mono ?_); rintro e w10 ⟨rfl, hb⟩; have B10 := Lib.hid hb; have BB10 := Lib.hid (BB9.out.trans (hb.mono BB9.out.size)); clear hb HHA)
    | (go_at_call 21; (with_reducible refine (HHB.out w9 w10 p m _ X9 X9E.out C9.out B10.out (HK.out.below BB10.out HK.out.pos)).mono ?_); rintro e w11 ⟨rfl, hb⟩; have B11 := Lib.hid (B10.out.trans (hb.mono B10.out.size)); have BB11 := Lib.hid (BB10.out.trans (hb.mono BB10.out.size)); clear hb)
    | (go_at_call 14; (with_reducible refine (HUS.out w9 w11 p m _ X9 X9E.out C9.out B11.out).mono ?_); rintro e w12 ⟨rfl, hb⟩; have BB12 := Lib.hid (BB11.out.trans (hb.mono BB11.out.size)); clear hb))
  go_ret
  exact ⟨rfl, BB12.out⟩
end Go.Proofs.YtkfhppbmnjmnoaaGreatDoor.W

/- LAYER 28 (chunk): the program's store and the reference's, side by side; one contract a call. -/
set_option linter.unusedSimpArgs false
set_option linter.unusedVariables false
namespace Go.Proofs.YtkfhppbmnjmnoaaGreatDoor.W
open Go Go.ChangeShapes Go.WideShapes Go.ChangeAt Go.RowKit
open Go.Proofs.YtkfhppbmnjmnoaaGreatDoor.P (shaL shaL_len)

theorem xcput {w : World} {q n c T0 : Nat} {most : Int} {a : Option Addr} {Y : List FY} {T : Nat → Prop} (ba : Option Addr) (bn bc : Nat) (b : List UInt8) (time : Int) (h : XK w q most a n c Y T) (hs : StOk T0 most (Y.map (·.f))) (hT : T0 ≤ 899) (h0 : 0 ≤ most)
    (hb : Rd w ba bn bc b) (htm : SI64 time) :
    Calls Tryz.prog 37 #[.pointer (some ⟨q, 0, none⟩), .slice ba bn bc, .int .i64 time] w fun e w' => e = .returned (.tuple #[.string (putC most (Y.map (·.f)) b time).2.1, .int .i64 (putC most (Y.map (·.f)) b time).2.2]) ∧
      ∃ a' n' c' Z, Z.map (·.f) = (putC most (Y.map (·.f)) b time).1 ∧ XK w' q most a' n' c' Z (fun k => T k ∨ (w.heap.size ≤ k ∧ k < w'.heap.size)) ∧ Ft (fun k => k = q) w w' := by
  have hbl := hb.hlen
  have hn : n ≤ 524288 := by have := hs.len; rw [List.length_map, h.ls.hlen] at this; exact this
  have h256 : ∀ y ∈ Y, y.f.b.length ≤ 256 := fun y hy => (hs.ok _ (List.mem_map.2 ⟨y, hy, rfl⟩)).b2
  have hus : usedC (Y.map (·.f)) ≤ 524288 := by have := hs.us; have := hs.rm; omega
  have hmost : 0 ≤ most ∧ most ≤ 524288 := ⟨h0, hs.rm⟩
  have same : ∀ w', Below w.heap.size w w' → ∃ a' n' c' Z, Z.map (·.f) = Y.map (·.f) ∧ XK w' q most a' n' c' Z (fun k => T k ∨ (w.heap.size ≤ k ∧ k < w'.heap.size)) ∧ Ft (fun k => k = q) w w' := fun w' hw =>
    ⟨a, n, c, Y, rfl, { h.mono hw with Tq := .inl h.Tq, Ta := fun b off s e => ⟨.inl (h.Ta b off s e).1, ((h.mono hw).Ta b off s e).2⟩, Tb := fun y hy b off s e => .inl (h.Tb y hy b off s e), Tt := fun y hy b off s e => .inl (h.Tt y hy b off s e), lt := fun k hk => hk.elim (fun hk => (h.mono hw).lt k hk) (·.2) }, Ft.of_below hw⟩
  by_cases hbad : b.length < 1 ∨ 256 < b.length
  · unfold putC
    rw [if_pos hbad]
    refine (xcput_bad ba bn bc time h (by omega) (Nat.le_trans hb.hle hb.hmax)).mono ?_
    rintro e w' ⟨rfl, rfl⟩
    exact ⟨rfl, same w (Below.refl _ _)⟩
  have hb1 : 1 ≤ bn ∧ bn ≤ 256 := by omega
  unfold putC
  rw [if_neg hbad]
  rcases at_find (sumOf b) (Y.map (·.f)) with ⟨hno, -⟩ | ⟨k, f, hk, hf, hfs, hat, hkl⟩
  · rw [hno]
    dsimp only
    by_cases hroom : most < (usedC (Y.map (·.f)) : Int) + b.length
    · rw [if_pos hroom]
      refine (xcput_full ba bn bc b time h hn h256 hus hmost hb hb1 hno (by rw [← hbl]; exact hroom)).mono ?_
      rintro e w' ⟨rfl, hw⟩
      exact ⟨rfl, same w' hw⟩
    · rw [if_neg hroom]
      refine (xcput_new ba bn bc b time h hn h256 hus hmost hb hb1 hno (by rw [← hbl]; exact hroom) htm).mono ?_
      rintro e w' ⟨rfl, a', n', c', Z, h1, h2, h3⟩
      exact ⟨rfl, a', n', c', Z, h1, h2, h3⟩
  · obtain ⟨y, hy, rfl⟩ : ∃ y, Y[k]? = some y ∧ y.f = f := by
      rw [List.getElem?_map] at hk
      cases hq : Y[k]? with
      | none => rw [hq] at hk; cases hk
      | some y => rw [hq] at hk; exact ⟨y, rfl, Option.some.inj hk⟩
    have hok := hs.ok y.f (List.mem_map.2 ⟨y, List.mem_of_getElem? hy, rfl⟩)
    rw [hf]
    dsimp only
    by_cases hsame : y.f.b = b
    · rw [if_pos hsame]
      refine (xcput_same ba bn bc b time h hn h256 hus hmost hb hb1 htm hs.ris k y hy hfs hat hok.tr (Nat.le_trans hok.tl (by omega)) hsame).mono ?_
      rintro e w' ⟨rfl, a', n', c', Z, h1, h2, h3⟩
      refine ⟨rfl, a', n', c', Z, ?_, h2, h3⟩
      rw [h1, hfs, hsame]
    · rw [if_neg hsame]
      cases hi : intactC y.f with
      | true =>
        rw [if_pos rfl]
        refine (xcput_exists ba bn bc b time h hn h256 hus hmost hb hb1 htm hs.ris k y hy hfs hat hok.tr (Nat.le_trans hok.tl (by omega)) hsame hi).mono ?_
        rintro e w' ⟨rfl, hw⟩
        exact ⟨rfl, same w' hw⟩
      | false =>
        rw [if_neg (by decide)]
        by_cases hroom : most < (usedC (Y.map (·.f)) : Int) - y.f.b.length + b.length
        · rw [if_pos hroom]
          refine (xcput_full2 ba bn bc b time h hn h256 hus hmost hb hb1 htm hs.ris k y hy hfs hat hok.tr (Nat.le_trans hok.tl (by omega)) hsame hi hroom).mono ?_
          rintro e w' ⟨rfl, hw⟩
          exact ⟨rfl, same w' hw⟩
        · rw [if_neg hroom]
          refine (xcput_over ba bn bc b time h hn h256 hus hmost hb hb1 htm hs.ris k y hy hfs hat hok.tr (Nat.le_trans hok.tl (by omega)) hsame hi hroom).mono ?_
          rintro e w' ⟨rfl, a', n', c', Z, h1, h2, h3⟩
          exact ⟨rfl, a', n', c', Z, h1, h2, h3⟩
/-- both stores: the program's holds L, the reference's M; each in blocks of its own, from base on -/
structure P2 (w : World) (base : Nat) (room : Int) (p q : Nat) (L M : List Fi) (S T : Nat → Prop) : Prop where
  c : ∃ m X, X.map (·.f) = L ∧ CK w p m room X S
  x : ∃ a n c Y, Y.map (·.f) = M ∧ XK w q room a n c Y T
  dj : Disj S T
  sb : ∀ k, S k → base ≤ k
  tb : ∀ k, T k → base ≤ k
section
variable {w w' : World} {base p q T0 : Nat} {room : Int} {L M L' M' : List Fi} {S T S' T' : Nat → Prop}
theorem P2.slt (h : P2 w base room p q L M S T) : ∀ k, S k → k < w.heap.size := by obtain ⟨m, X, -, hc⟩ := h.c; exact hc.lt
theorem P2.tlt (h : P2 w base room p q L M S T) : ∀ k, T k → k < w.heap.size := by obtain ⟨a, n, c, Y, -, hx⟩ := h.x; exact hx.lt
theorem P2.tq (h : P2 w base room p q L M S T) : T q := by obtain ⟨a, n, c, Y, -, hx⟩ := h.x; exact hx.Tq
theorem P2.mono (h : P2 w base room p q L M S T) (hb : Below w.heap.size w w') : P2 w' base room p q L M S T := by
  obtain ⟨m, X, e, hc⟩ := h.c
  obtain ⟨a, n, c, Y, e2, hx⟩ := h.x
  exact ⟨⟨m, X, e, hc.mono hb⟩, ⟨a, n, c, Y, e2, hx.mono hb⟩, h.dj, h.sb, h.tb⟩
/-- what a call of the program's store leaves -/
structure StepC (w : World) (base : Nat) (room : Int) (p q : Nat) (L' M : List Fi) (S T : Nat → Prop) (w' : World) : Prop where
  ex : ∃ S', P2 w' base room p q L' M S' T ∧ ∀ k, S' k → S k ∨ w.heap.size ≤ k
  ft : Ft S w w'
structure StepX (w : World) (base : Nat) (room : Int) (p q : Nat) (L M' : List Fi) (S T : Nat → Prop) (w' : World) : Prop where
  ex : ∃ T', P2 w' base room p q L M' S T' ∧ ∀ k, T' k → T k ∨ w.heap.size ≤ k
  ft : Ft T w w'
theorem P2.cstep (h : P2 w base room p q L M S T) (hbw : base ≤ w.heap.size) (hS : ∀ k, S' k → S k ∨ w.heap.size ≤ k) (hft : Ft S w w') (hc : ∃ m X, X.map (·.f) = L' ∧ CK w' p m room X S') : StepC w base room p q L' M S T w' := by
  obtain ⟨a, n, c, Y, e2, hx⟩ := h.x
  exact ⟨⟨S', ⟨hc, ⟨a, n, c, Y, e2, hx.ft hft h.dj.symm⟩, fun k hk ht => (hS k hk).elim (fun hs => h.dj k hs ht) (fun hn => absurd (hx.lt k ht) (by omega)), fun k hk => (hS k hk).elim (h.sb k) (fun hn => by omega), h.tb⟩, hS⟩, hft⟩
theorem P2.xstep (h : P2 w base room p q L M S T) (hbw : base ≤ w.heap.size) (hT : ∀ k, T' k → T k ∨ w.heap.size ≤ k) (hft : Ft (fun k => k = q) w w') (hx : ∃ a n c Y, Y.map (·.f) = M' ∧ XK w' q room a n c Y T') : StepX w base room p q L M' S T w' := by
  obtain ⟨m, X, e, hc⟩ := h.c
  exact ⟨⟨T', ⟨⟨m, X, e, hc.ft hft (fun k hs e => h.dj k hs (by rw [e]; exact h.tq))⟩, hx, fun k hk ht => (hT k ht).elim (fun hs => h.dj k hk hs) (fun hn => absurd (hc.lt k hk) (by omega)), h.sb, fun k hk => (hT k hk).elim (h.tb k) (fun hn => by omega)⟩, hT⟩, hft.mono (fun k e => by rw [e]; exact h.tq)⟩
-- ---- the calls
theorem qput (h : P2 w base room p q L M S T) (hbw : base ≤ w.heap.size) (hs : StOk T0 room L) (hT : T0 ≤ 899) (h0 : 0 ≤ room) (hK : Ks w) (ba : Option Addr) (bn bc : Nat) (b : List UInt8) (time : Int) (hb : Rd w ba bn bc b) (ht : SI64 time) :
    Calls Tryz.prog 22 #[.pointer (some ⟨p, 0, none⟩), .slice ba bn bc, .int .i64 time] w fun e w' => e = .returned (.tuple #[.string (putC room L b time).2.1, .int .i64 (putC room L b time).2.2]) ∧ StepC w base room p q (putC room L b time).1 M S T w' := by
  obtain ⟨m, X, rfl, hc⟩ := h.c
  refine (cput ba bn bc b time hc hs hb ht hK hT h0).mono ?_
  rintro e w' ⟨rfl, X', hX, hc', hft⟩
  exact ⟨rfl, h.cstep hbw (fun k hk => hk.imp id (·.1)) hft ⟨m, X', hX, hc'⟩⟩
theorem xput (h : P2 w base room p q L M S T) (hbw : base ≤ w.heap.size) (hs : StOk T0 room M) (hT : T0 ≤ 899) (h0 : 0 ≤ room) (ba : Option Addr) (bn bc : Nat) (b : List UInt8) (time : Int) (hb : Rd w ba bn bc b) (ht : SI64 time) :
    Calls Tryz.prog 37 #[.pointer (some ⟨q, 0, none⟩), .slice ba bn bc, .int .i64 time] w fun e w' => e = .returned (.tuple #[.string (putC room M b time).2.1, .int .i64 (putC room M b time).2.2]) ∧ StepX w base room p q L (putC room M b time).1 S T w' := by
  obtain ⟨a, n, c, Y, rfl, hx⟩ := h.x
  refine (xcput ba bn bc b time hx hs hT h0 hb ht).mono ?_
  rintro e w' ⟨rfl, a', n', c', Z, hZ, hx', hft⟩
  exact ⟨rfl, h.xstep hbw (fun k hk => hk.imp id (·.1)) hft ⟨a', n', c', Z, hZ, hx'⟩⟩
theorem xkn {a : Option Addr} {n c : Nat} {Y : List FY} (hx : XK w q room a n c Y T) (hs : StOk T0 room (Y.map (·.f))) : n ≤ 524288 := by have := hs.len; rw [List.length_map, hx.ls.hlen] at this; exact this
theorem ckn {X : List FX} (hs : StOk T0 room (X.map (·.f))) : X.length ≤ 524288 := by have := hs.len; rw [List.length_map] at this; exact this
theorem ckok {X : List FX} (hs : StOk T0 room (X.map (·.f))) : ∀ x ∈ X, FiOk T0 x.f := fun x hx => hs.ok _ (List.mem_map.2 ⟨x, hx, rfl⟩)
theorem qget (h : P2 w base room p q L M S T) (hs : StOk T0 room L) (hK : Ks w) (s : ByteArray) (hz : s.size ≤ maxLen) :
    Calls Tryz.prog 19 #[.pointer (some ⟨p, 0, none⟩), .string s] w fun e w' => ∃ v, e = .returned (.tuple #[v, .int .i64 (getC L s).2]) ∧ Fr w' w.heap.size v (getC L s).1 ∧ Below w.heap.size w w' := by
  obtain ⟨m, X, rfl, hc⟩ := h.c
  exact cget s hc (fun x hx => (ckok hs x hx).b2) hz hK
theorem xget (h : P2 w base room p q L M S T) (hs : StOk T0 room M) (s : ByteArray) :
    Calls Tryz.prog 38 #[.pointer (some ⟨q, 0, none⟩), .string s] w fun e w' => ∃ v, e = .returned (.tuple #[v, .int .i64 (getC M s).2]) ∧ Fr w' w.heap.size v (getC M s).1 ∧ Below w.heap.size w w' := by
  obtain ⟨a, n, c, Y, rfl, hx⟩ := h.x
  exact xcget s hx (xkn hx hs)
theorem qhas (h : P2 w base room p q L M S T) (hs : StOk T0 room L) (hK : Ks w) (s : ByteArray) (hz : s.size ≤ maxLen) :
    Calls Tryz.prog 21 #[.pointer (some ⟨p, 0, none⟩), .string s] w fun e w' => e = .returned (.bool (decide ((getC L s).2 = 0))) ∧ Below w.heap.size w w' := by
  obtain ⟨m, X, rfl, hc⟩ := h.c
  exact chas s hc (fun x hx => (ckok hs x hx).b2) hz hK
theorem xhas (h : P2 w base room p q L M S T) (hs : StOk T0 room M) (s : ByteArray) :
    Calls Tryz.prog 39 #[.pointer (some ⟨q, 0, none⟩), .string s] w fun e w' => e = .returned (.bool (decide ((getC M s).2 = 0))) ∧ Below w.heap.size w w' := by
  obtain ⟨a, n, c, Y, rfl, hx⟩ := h.x
  exact xchas s hx (xkn hx hs)
theorem qsync (h : P2 w base room p q L M S T) (hbw : base ≤ w.heap.size) (hs : StOk T0 room L) :
    Calls Tryz.prog 27 #[.pointer (some ⟨p, 0, none⟩)] w fun e w' => e = .returned (.int .i64 (looseC L : Nat)) ∧ StepC w base room p q (syncC L) M S T w' := by
  obtain ⟨m, X, rfl, hc⟩ := h.c
  refine (csync hc (ckok hs) (ckn hs)).mono ?_
  rintro e w' ⟨rfl, hc', hft⟩
  exact ⟨rfl, h.cstep hbw (fun k hk => .inl hk) hft ⟨m, _, by unfold syncC; rw [List.map_map, List.map_map]; rfl, hc'⟩⟩
theorem xsync (h : P2 w base room p q L M S T) (hbw : base ≤ w.heap.size) (hs : StOk T0 room M) :
    Calls Tryz.prog 40 #[.pointer (some ⟨q, 0, none⟩)] w fun e w' => e = .returned (.int .i64 (looseC M : Nat)) ∧ StepX w base room p q L (syncC M) S T w' := by
  obtain ⟨a, n, c, Y, rfl, hx⟩ := h.x
  refine (xcsync hx (xkn hx hs)).mono ?_
  rintro e w' ⟨rfl, a', c', hx', hft⟩
  exact ⟨rfl, h.xstep hbw (fun k hk => hk.imp id (·.1)) hft ⟨a', _, c', _, by unfold syncC; rw [List.map_map, List.map_map]; rfl, hx'⟩⟩
theorem qcrash (h : P2 w base room p q L M S T) (hbw : base ≤ w.heap.size) (hs : StOk T0 room L) (ka : Option Addr) (kl kc : Nat) (ks : List Int) (hk : Sl .i64 w ka kl ks) (hkS : kl ≠ 0 → ∀ b off s, ka = some ⟨b, off, s⟩ → ¬ S b) :
    Calls Tryz.prog 28 #[.pointer (some ⟨p, 0, none⟩), .slice ka kl kc] w fun e w' => e = .returned (.tuple #[]) ∧ StepC w base room p q (crashC ks 0 L) M S T w' := by
  obtain ⟨m, X, rfl, hc⟩ := h.c
  refine (ccrash hc (ckok hs) (ckn hs) ka kl kc ks hk hkS).mono ?_
  rintro e w' ⟨rfl, X', hX, hc', hft⟩
  exact ⟨rfl, h.cstep hbw (fun k hk => .inl hk) hft ⟨m, X', hX, hc'⟩⟩
theorem xcrash (h : P2 w base room p q L M S T) (hbw : base ≤ w.heap.size) (hs : StOk T0 room M) (ka : Option Addr) (kl kc : Nat) (ks : List Int) (hk : Sl .i64 w ka kl ks) :
    Calls Tryz.prog 41 #[.pointer (some ⟨q, 0, none⟩), .slice ka kl kc] w fun e w' => e = .returned (.tuple #[]) ∧ StepX w base room p q L (crashC ks 0 M) S T w' := by
  obtain ⟨a, n, c, Y, rfl, hx⟩ := h.x
  refine (xccrash ka kl kc ks hx (xkn hx hs) (fun y hy => by have := hs.ok y.f (List.mem_map.2 ⟨y, hy, rfl⟩); exact ⟨this.b1, this.b2, this.su⟩) hk).mono ?_
  rintro e w' ⟨rfl, a', m', c', Z, hZ, hx', hft⟩
  exact ⟨rfl, h.xstep hbw (fun k hk => hk.imp id (·.1)) hft ⟨a', m', c', Z, hZ, hx'⟩⟩
theorem qrot (h : P2 w base room p q L M S T) (hbw : base ≤ w.heap.size) (hs : StOk T0 room L) (i at' bt : Int) :
    Calls Tryz.prog 42 #[.pointer (some ⟨p, 0, none⟩), .int .i64 i, .int .i64 at', .int .i64 bt] w fun e w' => e = .returned (.bool (decide (L.length ≠ 0))) ∧ StepC w base room p q (rotC L i at' bt) M S T w' := by
  obtain ⟨m, X, rfl, hc⟩ := h.c
  refine (crot i at' bt hc (ckok hs) (ckn hs)).mono ?_
  rintro e w' ⟨rfl, X', hX, hc', hft⟩
  exact ⟨by rw [List.length_map], h.cstep hbw (fun k hk => .inl hk) hft ⟨m, X', hX, hc'⟩⟩
theorem xrot (h : P2 w base room p q L M S T) (hbw : base ≤ w.heap.size) (hs : StOk T0 room M) (i at' bt : Int) :
    Calls Tryz.prog 43 #[.pointer (some ⟨q, 0, none⟩), .int .i64 i, .int .i64 at', .int .i64 bt] w fun e w' => e = .returned (.bool (decide (M.length ≠ 0))) ∧ StepX w base room p q L (rotC M i at' bt) S T w' := by
  obtain ⟨a, n, c, Y, rfl, hx⟩ := h.x
  refine (xcrot i at' bt hx (xkn hx hs) (fun y hy => (hs.ok y.f (List.mem_map.2 ⟨y, hy, rfl⟩)).b1)).mono ?_
  rintro e w' ⟨rfl, a', c', Z, hZ, hx', hft⟩
  exact ⟨by rw [List.length_map, hx.ls.hlen], h.xstep hbw (fun k hk => hk.imp id (·.1)) hft ⟨a', _, c', Z, hZ, hx'⟩⟩
theorem map_filter {α : Type} (g : α → Fi) (P : Fi → Bool) (X : List α) : (X.filter fun x => P (g x)).map g = (X.map g).filter P := by rw [List.filter_map]; rfl
theorem qscrub (h : P2 w base room p q L M S T) (hbw : base ≤ w.heap.size) (hs : StOk T0 room L) (hK : Ks w) (h0 : 0 < base) :
    Calls Tryz.prog 31 #[.pointer (some ⟨p, 0, none⟩)] w fun e w' => ∃ v, e = .returned v ∧ LsO strE w' w.heap.size v ((L.filter fun f => !intactC f).map (·.s)) ∧ StepC w base room p q (L.filter intactC) M S T w' := by
  obtain ⟨m, X, rfl, hc⟩ := h.c
  refine (cscrub hc (ckok hs) (ckn hs) hK (fun hz => by have := h.sb 0 hz; omega)).mono ?_
  rintro e w' ⟨v, rfl, hl, hc', hft⟩
  refine ⟨v, rfl, ?_, h.cstep hbw (fun k hk => .inl hk) hft ⟨m, _, map_filter (·.f) intactC X, hc'⟩⟩
  rw [← map_filter (·.f) (fun f => !intactC f) X, List.map_map]; exact hl
theorem xscrub (h : P2 w base room p q L M S T) (hbw : base ≤ w.heap.size) (hs : StOk T0 room M) :
    Calls Tryz.prog 45 #[.pointer (some ⟨q, 0, none⟩)] w fun e w' => ∃ v, e = .returned v ∧ LsO strE w' w.heap.size v ((M.filter fun f => !intactC f).map (·.s)) ∧ StepX w base room p q L (M.filter intactC) S T w' := by
  obtain ⟨a, n, c, Y, rfl, hx⟩ := h.x
  refine (xcscrub hx (xkn hx hs)).mono ?_
  rintro e w' ⟨v, rfl, hl, a', c', hx', hft⟩
  refine ⟨v, rfl, ?_, h.xstep hbw (fun k hk => hk.imp id (·.1)) hft ⟨a', _, c', _, map_filter (·.f) intactC Y, hx'⟩⟩
  rw [← map_filter (·.f) (fun f => !intactC f) Y, List.map_map]; exact hl
theorem qsweep (h : P2 w base room p q L M S T) (hbw : base ≤ w.heap.size) (hs : StOk T0 room L) (time : Int) (na : Option Addr) (nn nc : Nat) (needs : List ByteArray) (la : Option Addr) (ln lc : Nat) (live : List Int)
    (hl : Sl .i64 w la ln live) (hnd : Ls strE w na nn nc needs) (hlS : ln ≠ 0 → ∀ b off s, la = some ⟨b, off, s⟩ → ¬ S b) (hnS : nn ≠ 0 → ∀ b off s, na = some ⟨b, off, s⟩ → ¬ S b) :
    Calls Tryz.prog 29 #[.pointer (some ⟨p, 0, none⟩), .int .i64 time, .slice na nn nc, .slice la ln lc] w fun e w' => e = .returned (.int .i64 ((L.filter (goesC time needs live)).length : Nat)) ∧ StepC w base room p q (L.filter fun f => !goesC time needs live f) M S T w' := by
  obtain ⟨m, X, rfl, hc⟩ := h.c
  refine (csweep hc (ckok hs) (ckn hs) time la na ln lc nn nc live needs hl hnd hlS hnS).mono ?_
  rintro e w' ⟨rfl, hc', hft⟩
  exact ⟨rfl, h.cstep hbw (fun k hk => .inl hk) hft ⟨m, _, map_filter (·.f) (fun f => !goesC time needs live f) X, hc'⟩⟩
theorem xsweep (h : P2 w base room p q L M S T) (hbw : base ≤ w.heap.size) (hs : StOk T0 room M) (time : Int) (na : Option Addr) (nn nc : Nat) (needs : List ByteArray) (la : Option Addr) (ln lc : Nat) (live : List Int)
    (hns : Ls strE w na nn nc needs) (hnn : nn ≤ 1000000) (hlv : Ls intE w la ln lc live) (hln : ln ≤ 1000000) :
    Calls Tryz.prog 46 #[.pointer (some ⟨q, 0, none⟩), .int .i64 time, .slice na nn nc, .slice la ln lc] w fun e w' => e = .returned (.int .i64 ((M.filter (goesC time needs live)).length : Nat)) ∧ StepX w base room p q L (M.filter fun f => !goesC time needs live f) S T w' := by
  obtain ⟨a, n, c, Y, rfl, hx⟩ := h.x
  refine (xcsweep time na nn nc needs la ln lc live hx (xkn hx hs) hns hnn hlv hln).mono ?_
  rintro e w' ⟨rfl, a', c', hx', hft⟩
  refine ⟨by rw [← map_filter (·.f) (goesC time needs live) Y, List.length_map], h.xstep hbw (fun k hk => hk.imp id (·.1)) hft ⟨a', _, c', _, map_filter (·.f) (fun f => !goesC time needs live f) Y, hx'⟩⟩
theorem qused (h : P2 w base room p q L M S T) (hs : StOk T0 room L) :
    Calls Tryz.prog 14 #[.pointer (some ⟨p, 0, none⟩)] w fun e w' => e = .returned (.int .i64 (usedC L : Nat)) ∧ Below w.heap.size w w' := by
  obtain ⟨m, X, rfl, hc⟩ := h.c
  exact cused hc (fun x hx => (ckok hs x hx).b2) (ckn hs)
theorem xused (h : P2 w base room p q L M S T) (hs : StOk T0 room M) :
    Calls Tryz.prog 15 #[.pointer (some ⟨q, 0, none⟩)] w fun e w' => e = .returned (.int .i64 (usedC M : Nat)) ∧ w = w' := by
  obtain ⟨a, n, c, Y, rfl, hx⟩ := h.x
  exact xcused hx (xkn hx hs) (fun y hy => (hs.ok y.f (List.mem_map.2 ⟨y, hy, rfl⟩)).b2)
theorem qloose (h : P2 w base room p q L M S T) (hs : StOk T0 room L) :
    Calls Tryz.prog 16 #[.pointer (some ⟨p, 0, none⟩)] w fun e w' => e = .returned (.int .i64 (looseC L : Nat)) ∧ Below w.heap.size w w' := by
  obtain ⟨m, X, rfl, hc⟩ := h.c
  exact clooseN hc (fun x hx => ⟨(ckok hs x hx).b2, (ckok hs x hx).su⟩) (ckn hs)
theorem xloose (h : P2 w base room p q L M S T) (hs : StOk T0 room M) :
    Calls Tryz.prog 17 #[.pointer (some ⟨q, 0, none⟩)] w fun e w' => e = .returned (.int .i64 (looseC M : Nat)) ∧ Below w.heap.size w w' := by
  obtain ⟨a, n, c, Y, rfl, hx⟩ := h.x
  exact xcloose hx (xkn hx hs)
theorem qfiles (h : P2 w base room p q L M S T) (hs : StOk T0 room L) (hT : T0 ≤ 900) :
    Calls Tryz.prog 12 #[.pointer (some ⟨p, 0, none⟩)] w fun e w' => ∃ v Y, e = .returned v ∧ Y.map (·.f) = L ∧ LsF w' w.heap.size v Y ∧ Below w.heap.size w w' := by
  obtain ⟨m, X, rfl, hc⟩ := h.c
  exact cfiles hc (ckok hs) hT (ckn hs)
theorem xfiles (h : P2 w base room p q L M S T) (hs : StOk T0 room M) :
    Calls Tryz.prog 13 #[.pointer (some ⟨q, 0, none⟩)] w fun e w' => ∃ v Z, e = .returned v ∧ Z.map (·.f) = M ∧ LsF w' w.heap.size v Z ∧ Below w.heap.size w w' := by
  obtain ⟨a, n, c, Y, rfl, hx⟩ := h.x
  exact xcfiles hx (xkn hx hs)
end
end Go.Proofs.YtkfhppbmnjmnoaaGreatDoor.W

/- TWO OPERATIONS OF A REGION THAT DRAWS that may come up in either order, both of them acts (two makes); MAKE of n elements of one cell each. No number of a dump. -/
set_option linter.unusedSimpArgs false
set_option linter.unusedVariables false
namespace Go.Proofs.YtkfhppbmnjmnoaaGreatDoor.W
open Go Go.ChangeShapes Go.WideShapes Go.ChangeAt Go.RowKit

section
variable {P : Program} {ops : Array Oper} {Q : Exit → Act → World → Prop} {S : World → Prop} {a : Act} {w : World} {fuel : Nat} {listed : Array Bool}
/-- operations i and j, whatever they do, are those that may come up -/
theorem h_two (i j : Nat) {o o' : Oper} (hi : ops[i]? = some o) (hj : ops[j]? = some o') (hr : Region.ready .any ops listed = [i, j])
    (h : ∀ K : Exit → Act → World → Prop, (∀ a' w', S w' → WH P ops Q S fuel (listed.setIfInBounds i true) a' w' → K .normal a' w') → wpList P ops K [o] a w)
    (h' : ∀ K : Exit → Act → World → Prop, (∀ a' w', S w' → WH P ops Q S fuel (listed.setIfInBounds j true) a' w' → K .normal a' w') → wpList P ops K [o'] a w) : WH P ops Q S (fuel + 1) listed a w :=
  ⟨fun hQ hs hS => by
    refine wpAnyH_all hr (by simp) fun k hk => ?_
    have hk' : k = i ∨ k = j := by simpa using hk
    rcases hk' with rfl | rfl
    · exact wpOp_of_list hi (h _ fun a' w' h1 h2 => ⟨rfl, h1, h2.out hQ hs h1⟩)
    · exact wpOp_of_list hj (h' _ fun a' w' h1 h2 => ⟨rfl, h1, h2.out hQ hs h1⟩)⟩
/-- MAKE of n elements of one cell each. -/
theorem make_one {rest : List Oper} {o : Oper} (hgd : o.guard = none) (x y : Operand) (T : TypeId)
    (ho : o.op = Op.makeSlice T x y) (elem : TypeId) (z : Value) (b : Nat) (hu : P.underlying T = some (.slice elem)) (hi : (P.info? elem).map (fun i => (i.zero, i.size, i.bytes)) = some (some z, 1, b)) (hz : z.cells = #[z])
    (X : Int) (n : Nat) (hx : a.eval x = .int .i64 X) (hy : a.eval y = .int .i64 X) (hn : X = (n : Int)) (hc : n ≤ 16777216) (hb : b * n ≤ 281474976710656)
    (h : ∀ w', Row w' w.heap.size elem (List.replicate n z) → Below w.heap.size w w' → w'.heap.size = w.heap.size + 1 → wpList P ops Q rest (a.put o.dst (.slice (some ⟨w.heap.size, 0, none⟩) n n)) w') :
    wpList P ops Q (o :: rest) a w := by
  subst hn
  refine wpList_plain hgd fun K hK => ?_
  cases hq : P.info? elem with
  | none => simp [hq] at hi
  | some i =>
    simp [hq] at hi
    obtain ⟨hz0, hs, hby⟩ := hi
    have hrun := run_makeSlice (P := P) (w := w) T elem i z hu hq hz0 .i64 .i64 (n : Int) (n : Int) (by omega) (Int.le_refl _) (by rw [hs]; simpa using hc)
      (by rw [hby]; have : ((b * n : Nat) : Int) ≤ 281474976710656 := by omega
          rwa [Int.natCast_mul] at this) (by omega)
    unfold Oper.wp
    simp [execOp, ho, hx, hy, hrun, Result.andThen]
    refine hK _ _ (h _ ?_ ((Below.refl _ _).alloc (Nat.le_refl _) _) (by simp))
    unfold Row
    rw [heap_alloc_new]
    congr 2
    apply Array.ext'
    rw [hs, hz]
    simp [toList_madeCells_one]
end
end Go.Proofs.YtkfhppbmnjmnoaaGreatDoor.W

/- LAYER 28 (chunk): SameFiles of the reference, at two lists of the same files. -/
set_option linter.unusedSimpArgs false
set_option linter.unusedVariables false
namespace Go.Proofs.YtkfhppbmnjmnoaaGreatDoor.W
open Go Go.ChangeShapes Go.WideShapes Go.ChangeAt Go.RowKit
open Go.Proofs.YtkfhppbmnjmnoaaGreatDoor.P (shaL shaL_len)

theorem lt_of_cell {w : World} {b o : Nat} {v : Value} (h : w.cell? ⟨b, o, none⟩ = some v) : b < w.heap.size := by
  refine Classical.byContradiction fun hn => ?_
  have : w.heap[b]? = none := Array.getElem?_eq_none (by omega)
  unfold World.cell? at h
  simp [this] at h
set_option maxRecDepth 100000 in
set_option maxHeartbeats 16000000 in
theorem xsame (a1 a2 : Option Addr) (n c1 n2 c2 : Nat) (Y Z : List FY) (w : World) (h1 : Ls fiE w a1 n c1 Y) (h2 : Ls fiE w a2 n2 c2 Z) (he : Y.map (·.f) = Z.map (·.f)) (hn : n ≤ 1000000) :
    Calls Tryz.prog 11 #[.slice a1 n c1, .slice a2 n2 c2] w fun e w' => e = .returned (.bool true) ∧ Below w.heap.size w w' := by
  obtain rfl : n = n2 := by have := congrArg List.length he; rw [List.length_map, List.length_map, h1.hlen, h2.hlen] at this; exact this
  have H1 := Lib.hid h1
  have H2 := Lib.hid h2
  have HE := Lib.hid he
  have SZ := Lib.hid file_size
  have FZ := Lib.hid file_zero
  clear h1 h2 he
  go_enter Tryz.func11, Tryz.ntmps11
  go_wp2_with fail
  go_loopw [5] (fun vi wr => ∃ (k : Nat), vi = .int .i64 (k : Int) ∧ k ≤ n ∧ Hid (Below w.heap.size w wr)) (fun vi _ => n - (intOf vi).toNat)
  case atStart => exact ⟨0, rfl, Nat.zero_le _, Lib.hid (Below.refl _ _)⟩
  case round =>
    obtain ⟨k, rfl, hk, B⟩ := hrel
    obtain ⟨wr, rfl⟩ : ∃ x, x = wr := ⟨_, rfl⟩
    by_cases hlt : k < n
    · obtain ⟨b1, o1, y, rfl, hy, hc1, hf1⟩ := H1.out.at fiOk B.out k hlt
      obtain ⟨b2, o2, z, rfl, hz, hc2, hf2⟩ := H2.out.at fiOk B.out k hlt
      have hyz : y.f = z.f := by
        have := congrArg (fun l : List Fi => l[k]?) HE.out
        simp only [List.getElem?_map, hy, hz, Option.map_some] at this
        exact Option.some.inj this
      have HC1 := Lib.hid (show ∀ j v, y.cells[j]? = some v → wr.cell? ⟨b1, o1 + k * 4 + j, none⟩ = some v from hc1)
      have HC2 := Lib.hid (show ∀ j v, z.cells[j]? = some v → wr.cell? ⟨b2, o2 + k * 4 + j, none⟩ = some v from hc2)
      have HF1 : FYr wr y := hf1
      have HF2 : FYr wr z := hf2
      clear hy hz hc1 hc2 hf1 hf2
      obtain ⟨⟨s, b, su, t⟩, fa, fn, fc, ta, tn, tc⟩ := y
      obtain ⟨f2, ga, gn, gc, ua, un, uc⟩ := z
      dsimp only at hyz
      subst hyz
      obtain ⟨-, rb1, rt1, -, -, ht1, -, -⟩ := HF1
      obtain ⟨-, rb2, rt2, -, -, -, -, -⟩ := HF2
      dsimp only at rb1 rt1 rb2 rt2 ht1
      obtain rfl : tn = un := by rw [← rt1.hlen, ← rt2.hlen]
      have HB1 := Lib.hid rb1
      have HB2 := Lib.hid rb2
      have HT1 := Lib.hid rt1
      have HT2 := Lib.hid rt2
      clear rb1 rt1 rb2 rt2
      have Q1 := Lib.hid (show b1 < wr.heap.size ∧ ∀ j v, (fiC s (.slice fa fn fc) su (.slice ta tn tc))[j]? = some v → wr.cell? ⟨b1, o1 + k * 4 + j, none⟩ = some v from ⟨lt_of_cell (HC1.out 0 _ rfl), HC1.out⟩)
      have Q2 := Lib.hid (show b2 < wr.heap.size ∧ ∀ j v, (fiC s (.slice ga gn gc) su (.slice ua tn uc))[j]? = some v → wr.cell? ⟨b2, o2 + k * 4 + j, none⟩ = some v from ⟨lt_of_cell (HC2.out 0 _ rfl), HC2.out⟩)
      have g1 : (0 : Int) ≤ (k : Int) := by omega
      have g2 : (k : Int) < (n : Int) := by omega
      clear HC1 HC2
      go_wp2_with fail
      refine region_h (fun v => Below wr.heap.size wr v) (by kernel_rfl) (by kernel_rfl) (Below.refl _ _).drew ?_
      obtain ⟨d0, hd0⟩ : ∃ wd, wr.drew = wd := ⟨_, rfl⟩
      have J0 : Hid (Below wr.heap.size wr d0) := Lib.hid (by rw [← hd0]; exact (Below.refl _ _).drew)
      rw [hd0]
      clear hd0
      (refine h_read 0 rfl (by kernel_rfl) (by kernel_rfl) (h_free rfl) ?_ ?_ ?_; rotate_left; (focus (intro v hv; go_simp; rfl)); go_simp)
      (refine h_read 1 rfl (by kernel_rfl) (by kernel_rfl) (h_free rfl) ?_ ?_ ?_; rotate_left; (focus (intro v hv; go_simp; rfl)); go_simp)
      (refine h_read 2 rfl (by kernel_rfl) (by kernel_rfl) (h_free rfl) ?_ ?_ ?_; rotate_left; (focus (intro v hv; go_simp; rfl)); go_simp)
      (refine h_read 3 rfl (by kernel_rfl) (by kernel_rfl) (h_free rfl) ?_ ?_ ?_; rotate_left; (focus (intro v hv; refine run_cells 44 (.tmp 22) ?_ b1 (o1 + k * 4) ?_ (fiC s (.slice fa fn fc) su (.slice ta tn tc)) _ (fun j' u' hj => (hv.cell (p := ⟨b1, o1 + k * 4 + j', none⟩) Q1.out.1).trans (Q1.out.2 j' u' hj)) Tryz.underlying44 rfl SZ.out; (focus rfl); go_simp)); go_simp)
      (refine h_read 4 rfl (by kernel_rfl) (by kernel_rfl) (h_free rfl) ?_ ?_ ?_; rotate_left; (focus (intro v hv; go_simp; rfl)); go_simp)
      (refine h_read 5 rfl (by kernel_rfl) (by kernel_rfl) (h_free rfl) ?_ ?_ ?_; rotate_left; (focus (intro v hv; go_simp; rfl)); go_simp)
      (refine h_read 6 rfl (by kernel_rfl) (by kernel_rfl) (h_free rfl) ?_ ?_ ?_; rotate_left; (focus (intro v hv; go_simp; rfl)); go_simp)
      (refine h_read 7 rfl (by kernel_rfl) (by kernel_rfl) (h_free rfl) ?_ ?_ ?_; rotate_left; (focus (intro v hv; refine run_cells 44 (.tmp 26) ?_ b2 (o2 + k * 4) ?_ (fiC s (.slice ga gn gc) su (.slice ua tn uc)) _ (fun j' u' hj => (hv.cell (p := ⟨b2, o2 + k * 4 + j', none⟩) Q2.out.1).trans (Q2.out.2 j' u' hj)) Tryz.underlying44 rfl SZ.out; (focus rfl); go_simp)); go_simp)
      refine h_two 8 9 rfl rfl (by kernel_rfl) ?_ ?_
      · intro K hK
        refine alloc_row rfl _ rfl _ FZ.out ?_
        intro d1 hr hb hz
        obtain ⟨g6, hg6⟩ : ∃ x, d0.heap.size = x := ⟨_, rfl⟩
        rw [hg6] at hr ⊢
        have R61 := Lib.hid hr
        have Hg6 := Lib.hid (show wr.heap.size ≤ g6 by rw [← hg6]; exact J0.out.size)
        have J1 := Lib.hid (J0.out.trans (hb.mono J0.out.size))
        have Ng6 := Lib.hid (show g6 < d1.heap.size by rw [← hg6]; omega)
        clear hr hz hg6
        refine hK _ _ J1.out ?_
        go_simp
        clear hK K hb
        (refine h_list 9 rfl (by kernel_rfl) ?_; intro K hK)
        refine alloc_row rfl _ rfl _ FZ.out ?_
        intro d2 hr hb hz
        obtain ⟨g7, hg7⟩ : ∃ x, d1.heap.size = x := ⟨_, rfl⟩
        rw [hg7] at hr ⊢
        have R72 := Lib.hid hr
        have Hg7 := Lib.hid (show wr.heap.size ≤ g7 by rw [← hg7]; exact J1.out.size)
        have J2 := Lib.hid (J1.out.trans (hb.mono J1.out.size))
        have Ng7 := Lib.hid (show g7 < d2.heap.size by rw [← hg7]; omega)
        have R62 := Lib.hid (R61.out.below hb R61.out.lt)
        have NE := Lib.hid (show g7 ≠ g6 from fun e => by have := Ng6.out; omega)
        clear hr hz hg7
        refine hK _ _ J2.out ?_
        go_simp
        clear hK K hb
        (refine h_list 10 rfl (by kernel_rfl) ?_; intro K hK)
        refine store_row rfl _ _ _ rfl g6 (fiC s (.slice fa fn fc) su (.slice ta tn tc)) (by go_simp) (by go_simp; first | done | rfl) 44 _ R62.out SZ.out rfl (fi_one _ _ _ _ rfl rfl) ?_
        intro d3 hr hu
        have R63 := Lib.hid hr
        have R73 := Lib.hid (R72.out.upd hu NE.out)
        have J3 := Lib.hid (J2.out.trans (hu.below Hg6.out))
        clear hr hu
        refine hK _ _ J3.out ?_
        go_simp
        clear hK K
        (refine h_list 11 rfl (by kernel_rfl) ?_; intro K hK)
        refine store_row rfl _ _ _ rfl g7 (fiC s (.slice ga gn gc) su (.slice ua tn uc)) (by go_simp) (by go_simp; first | done | rfl) 44 _ R73.out SZ.out rfl (fi_one _ _ _ _ rfl rfl) ?_
        intro d4 hr hu
        have R74 := Lib.hid hr
        have R64 := Lib.hid (R63.out.upd hu NE.out.symm)
        have J4 := Lib.hid (J3.out.trans (hu.below Hg7.out))
        clear hr hu
        refine hK _ _ J4.out ?_
        go_simp
        clear hK K
        refine h_done (by kernel_rfl) ?_
        have B4 := Lib.hid (B.out.trans (J4.out.mono B.out.size))
        have cv1 := conv_rd (HB1.out.mono J4.out)
        have cv2 := conv_rd (HB2.out.mono J4.out)
        have TT1 := Lib.hid (HT1.out.mono intOk J4.out)
        have TT2 := Lib.hid (HT2.out.mono intOk J4.out)
        obtain ⟨c0, c1, c2, c3⟩ := R64.out.k4
        obtain ⟨e0, e1, e2, e3⟩ := R74.out.k4
        have C3 := Lib.hid c3
        have E3 := Lib.hid e3
        have eqs : ((str b).toList == (str b).toList) = true := by simp
        go_wp2_with fail
        clear c0 c1 c2 e0 e1 e2 cv1 cv2 eqs
        go_loopw [8] (fun vi wt => ∃ (j : Nat), vi = .int .i64 (j : Int) ∧ j ≤ tn ∧ Hid (Below d4.heap.size d4 wt)) (fun vi _ => tn - (intOf vi).toNat)
        case atStart => exact ⟨0, rfl, Nat.zero_le _, Lib.hid (Below.refl _ _)⟩
        case round =>
          obtain ⟨j, rfl, hj, BJ⟩ := hrel
          obtain ⟨wt, rfl⟩ : ∃ x, x = wr := ⟨_, rfl⟩
          have R6L := Lib.hid (R64.out.below BJ.out R64.out.lt)
          have R7L := Lib.hid (R74.out.below BJ.out R74.out.lt)
          have c3' := R6L.out.k4.2.2.2
          by_cases hjt : j < tn
          · obtain ⟨b5, o5, x5, rfl, hx5, hc5, -⟩ := TT1.out.at intOk BJ.out j hjt
            obtain ⟨b6, o6, x6, rfl, hx6, hc6, -⟩ := TT2.out.at intOk BJ.out j hjt
            obtain rfl : x5 = x6 := by rw [hx5] at hx6; exact Option.some.inj hx6
            have K5 := Lib.hid (show wt.cell? ⟨b5, o5 + j, none⟩ = some (.int .i64 x5) by have := hc5 0 _ rfl; simpa using this)
            have K6 := Lib.hid (show wt.cell? ⟨b6, o6 + j, none⟩ = some (.int .i64 x5) by have := hc6 0 _ rfl; simpa using this)
            have L5 := Lib.hid (show b5 < wt.heap.size from lt_of_cell K5.out)
            have L6 := Lib.hid (show b6 < wt.heap.size from lt_of_cell K6.out)
            have j1 : (0 : Int) ≤ (j : Int) := by omega
            have j2 : (j : Int) < (tn : Int) := by omega
            clear hx5 hc5 hx6 hc6
            go_wp2_with fail
            clear c3' c3 e3
            refine region_h (fun v => Below wt.heap.size wt v) (by kernel_rfl) (by kernel_rfl) (Below.refl _ _).drew ?_
            obtain ⟨d0, hd0⟩ : ∃ wd, wt.drew = wd := ⟨_, rfl⟩
            have I0 : Hid (Below wt.heap.size wt d0) := Lib.hid (by rw [← hd0]; exact (Below.refl _ _).drew)
            rw [hd0]
            clear hd0
            (refine h_read 0 rfl (by kernel_rfl) (by kernel_rfl) (h_free rfl) ?_ ?_ ?_; rotate_left; (focus (intro v hv; go_simp; rfl)); go_simp)
            (refine h_read 1 rfl (by kernel_rfl) (by kernel_rfl) (h_free rfl) ?_ ?_ ?_; rotate_left; (focus (intro v hv; have x3 := (hv.cell (p := ⟨g6, 3, none⟩) R6L.out.lt).trans R6L.out.k4.2.2.2; have y3 := (hv.cell (p := ⟨g7, 3, none⟩) R7L.out.lt).trans R7L.out.k4.2.2.2; have x5' := (hv.cell (p := ⟨b5, o5 + j, none⟩) L5.out).trans K5.out; have x6' := (hv.cell (p := ⟨b6, o6 + j, none⟩) L6.out).trans K6.out; go_simp; rfl)); go_simp)
            (refine h_read 2 rfl (by kernel_rfl) (by kernel_rfl) (h_free rfl) ?_ ?_ ?_; rotate_left; (focus (intro v hv; go_simp; rfl)); go_simp)
            (refine h_read 3 rfl (by kernel_rfl) (by kernel_rfl) (h_free rfl) ?_ ?_ ?_; rotate_left; (focus (intro v hv; go_simp; rfl)); go_simp)
            (refine h_read 4 rfl (by kernel_rfl) (by kernel_rfl) (h_free rfl) ?_ ?_ ?_; rotate_left; (focus (intro v hv; have x3 := (hv.cell (p := ⟨g6, 3, none⟩) R6L.out.lt).trans R6L.out.k4.2.2.2; have y3 := (hv.cell (p := ⟨g7, 3, none⟩) R7L.out.lt).trans R7L.out.k4.2.2.2; have x5' := (hv.cell (p := ⟨b5, o5 + j, none⟩) L5.out).trans K5.out; have x6' := (hv.cell (p := ⟨b6, o6 + j, none⟩) L6.out).trans K6.out; go_simp; rfl)); go_simp)
            (refine h_read 5 rfl (by kernel_rfl) (by kernel_rfl) (h_free rfl) ?_ ?_ ?_; rotate_left; (focus (intro v hv; go_simp; rfl)); go_simp)
            (refine h_read 6 rfl (by kernel_rfl) (by kernel_rfl) (h_free rfl) ?_ ?_ ?_; rotate_left; (focus (intro v hv; have x3 := (hv.cell (p := ⟨g6, 3, none⟩) R6L.out.lt).trans R6L.out.k4.2.2.2; have y3 := (hv.cell (p := ⟨g7, 3, none⟩) R7L.out.lt).trans R7L.out.k4.2.2.2; have x5' := (hv.cell (p := ⟨b5, o5 + j, none⟩) L5.out).trans K5.out; have x6' := (hv.cell (p := ⟨b6, o6 + j, none⟩) L6.out).trans K6.out; go_simp; rfl)); go_simp)
            (refine h_read 7 rfl (by kernel_rfl) (by kernel_rfl) (h_free rfl) ?_ ?_ ?_; rotate_left; (focus (intro v hv; go_simp; rfl)); go_simp)
            (refine h_read 8 rfl (by kernel_rfl) (by kernel_rfl) (h_free rfl) ?_ ?_ ?_; rotate_left; (focus (intro v hv; go_simp; rfl)); go_simp)
            (refine h_read 9 rfl (by kernel_rfl) (by kernel_rfl) (h_free rfl) ?_ ?_ ?_; rotate_left; (focus (intro v hv; have x3 := (hv.cell (p := ⟨g6, 3, none⟩) R6L.out.lt).trans R6L.out.k4.2.2.2; have y3 := (hv.cell (p := ⟨g7, 3, none⟩) R7L.out.lt).trans R7L.out.k4.2.2.2; have x5' := (hv.cell (p := ⟨b5, o5 + j, none⟩) L5.out).trans K5.out; have x6' := (hv.cell (p := ⟨b6, o6 + j, none⟩) L6.out).trans K6.out; go_simp; rfl)); go_simp)
            (refine h_read 10 rfl (by kernel_rfl) (by kernel_rfl) (h_free rfl) ?_ ?_ ?_; rotate_left; (focus (intro v hv; go_simp; rfl)); go_simp)
            refine h_done (by kernel_rfl) ?_
            go_wp2_with fail
            go_roundw
            case rel => exact ⟨j + 1, by go_num, by omega, Lib.hid (BJ.out.trans (I0.out.mono BJ.out.size))⟩
            case measure => simp [intOf]; omega
          · obtain rfl : j = tn := by omega
            go_wp2_with fail
            go_roundw
            case rel => exact ⟨k + 1, by go_num, by omega, Lib.hid (B4.out.trans (BJ.out.mono B4.out.size))⟩
            case measure => simp [intOf]; omega
      · intro K hK
        refine alloc_row rfl _ rfl _ FZ.out ?_
        intro d1 hr hb hz
        obtain ⟨g7, hg7⟩ : ∃ x, d0.heap.size = x := ⟨_, rfl⟩
        rw [hg7] at hr ⊢
        have R71 := Lib.hid hr
        have Hg7 := Lib.hid (show wr.heap.size ≤ g7 by rw [← hg7]; exact J0.out.size)
        have J1 := Lib.hid (J0.out.trans (hb.mono J0.out.size))
        have Ng7 := Lib.hid (show g7 < d1.heap.size by rw [← hg7]; omega)
        clear hr hz hg7
        refine hK _ _ J1.out ?_
        go_simp
        clear hK K hb
        (refine h_list 8 rfl (by kernel_rfl) ?_; intro K hK)
        refine alloc_row rfl _ rfl _ FZ.out ?_
        intro d2 hr hb hz
        obtain ⟨g6, hg6⟩ : ∃ x, d1.heap.size = x := ⟨_, rfl⟩
        rw [hg6] at hr ⊢
        have R62 := Lib.hid hr
        have Hg6 := Lib.hid (show wr.heap.size ≤ g6 by rw [← hg6]; exact J1.out.size)
        have J2 := Lib.hid (J1.out.trans (hb.mono J1.out.size))
        have Ng6 := Lib.hid (show g6 < d2.heap.size by rw [← hg6]; omega)
        have R72 := Lib.hid (R71.out.below hb R71.out.lt)
        have NE := Lib.hid (show g7 ≠ g6 from fun e => by have := Ng7.out; omega)
        clear hr hz hg6
        refine hK _ _ J2.out ?_
        go_simp
        clear hK K hb
        (refine h_list 10 rfl (by kernel_rfl) ?_; intro K hK)
        refine store_row rfl _ _ _ rfl g6 (fiC s (.slice fa fn fc) su (.slice ta tn tc)) (by go_simp) (by go_simp; first | done | rfl) 44 _ R62.out SZ.out rfl (fi_one _ _ _ _ rfl rfl) ?_
        intro d3 hr hu
        have R63 := Lib.hid hr
        have R73 := Lib.hid (R72.out.upd hu NE.out)
        have J3 := Lib.hid (J2.out.trans (hu.below Hg6.out))
        clear hr hu
        refine hK _ _ J3.out ?_
        go_simp
        clear hK K
        (refine h_list 11 rfl (by kernel_rfl) ?_; intro K hK)
        refine store_row rfl _ _ _ rfl g7 (fiC s (.slice ga gn gc) su (.slice ua tn uc)) (by go_simp) (by go_simp; first | done | rfl) 44 _ R73.out SZ.out rfl (fi_one _ _ _ _ rfl rfl) ?_
        intro d4 hr hu
        have R74 := Lib.hid hr
        have R64 := Lib.hid (R63.out.upd hu NE.out.symm)
        have J4 := Lib.hid (J3.out.trans (hu.below Hg7.out))
        clear hr hu
        refine hK _ _ J4.out ?_
        go_simp
        clear hK K
        refine h_done (by kernel_rfl) ?_
        have B4 := Lib.hid (B.out.trans (J4.out.mono B.out.size))
        have cv1 := conv_rd (HB1.out.mono J4.out)
        have cv2 := conv_rd (HB2.out.mono J4.out)
        have TT1 := Lib.hid (HT1.out.mono intOk J4.out)
        have TT2 := Lib.hid (HT2.out.mono intOk J4.out)
        obtain ⟨c0, c1, c2, c3⟩ := R64.out.k4
        obtain ⟨e0, e1, e2, e3⟩ := R74.out.k4
        have C3 := Lib.hid c3
        have E3 := Lib.hid e3
        have eqs : ((str b).toList == (str b).toList) = true := by simp
        go_wp2_with fail
        clear c0 c1 c2 e0 e1 e2 cv1 cv2 eqs
        go_loopw [8] (fun vi wt => ∃ (j : Nat), vi = .int .i64 (j : Int) ∧ j ≤ tn ∧ Hid (Below d4.heap.size d4 wt)) (fun vi _ => tn - (intOf vi).toNat)
        case atStart => exact ⟨0, rfl, Nat.zero_le _, Lib.hid (Below.refl _ _)⟩
        case round =>
          obtain ⟨j, rfl, hj, BJ⟩ := hrel
          obtain ⟨wt, rfl⟩ : ∃ x, x = wr := ⟨_, rfl⟩
          have R6L := Lib.hid (R64.out.below BJ.out R64.out.lt)
          have R7L := Lib.hid (R74.out.below BJ.out R74.out.lt)
          have c3' := R6L.out.k4.2.2.2
          by_cases hjt : j < tn
          · obtain ⟨b5, o5, x5, rfl, hx5, hc5, -⟩ := TT1.out.at intOk BJ.out j hjt
            obtain ⟨b6, o6, x6, rfl, hx6, hc6, -⟩ := TT2.out.at intOk BJ.out j hjt
            obtain rfl : x5 = x6 := by rw [hx5] at hx6; exact Option.some.inj hx6
            have K5 := Lib.hid (show wt.cell? ⟨b5, o5 + j, none⟩ = some (.int .i64 x5) by have := hc5 0 _ rfl; simpa using this)
            have K6 := Lib.hid (show wt.cell? ⟨b6, o6 + j, none⟩ = some (.int .i64 x5) by have := hc6 0 _ rfl; simpa using this)
            have L5 := Lib.hid (show b5 < wt.heap.size from lt_of_cell K5.out)
            have L6 := Lib.hid (show b6 < wt.heap.size from lt_of_cell K6.out)
            have j1 : (0 : Int) ≤ (j : Int) := by omega
            have j2 : (j : Int) < (tn : Int) := by omega
            clear hx5 hc5 hx6 hc6
            go_wp2_with fail
            clear c3' c3 e3
            refine region_h (fun v => Below wt.heap.size wt v) (by kernel_rfl) (by kernel_rfl) (Below.refl _ _).drew ?_
            obtain ⟨d0, hd0⟩ : ∃ wd, wt.drew = wd := ⟨_, rfl⟩
            have I0 : Hid (Below wt.heap.size wt d0) := Lib.hid (by rw [← hd0]; exact (Below.refl _ _).drew)
            rw [hd0]
            clear hd0
            (refine h_read 0 rfl (by kernel_rfl) (by kernel_rfl) (h_free rfl) ?_ ?_ ?_; rotate_left; (focus (intro v hv; go_simp; rfl)); go_simp)
            (refine h_read 1 rfl (by kernel_rfl) (by kernel_rfl) (h_free rfl) ?_ ?_ ?_; rotate_left; (focus (intro v hv; have x3 := (hv.cell (p := ⟨g6, 3, none⟩) R6L.out.lt).trans R6L.out.k4.2.2.2; have y3 := (hv.cell (p := ⟨g7, 3, none⟩) R7L.out.lt).trans R7L.out.k4.2.2.2; have x5' := (hv.cell (p := ⟨b5, o5 + j, none⟩) L5.out).trans K5.out; have x6' := (hv.cell (p := ⟨b6, o6 + j, none⟩) L6.out).trans K6.out; go_simp; rfl)); go_simp)
            (refine h_read 2 rfl (by kernel_rfl) (by kernel_rfl) (h_free rfl) ?_ ?_ ?_; rotate_left; (focus (intro v hv; go_simp; rfl)); go_simp)
            (refine h_read 3 rfl (by kernel_rfl) (by kernel_rfl) (h_free rfl) ?_ ?_ ?_; rotate_left; (focus (intro v hv; go_simp; rfl)); go_simp)
            (refine h_read 4 rfl (by kernel_rfl) (by kernel_rfl) (h_free rfl) ?_ ?_ ?_; rotate_left; (focus (intro v hv; have x3 := (hv.cell (p := ⟨g6, 3, none⟩) R6L.out.lt).trans R6L.out.k4.2.2.2; have y3 := (hv.cell (p := ⟨g7, 3, none⟩) R7L.out.lt).trans R7L.out.k4.2.2.2; have x5' := (hv.cell (p := ⟨b5, o5 + j, none⟩) L5.out).trans K5.out; have x6' := (hv.cell (p := ⟨b6, o6 + j, none⟩) L6.out).trans K6.out; go_simp; rfl)); go_simp)
            (refine h_read 5 rfl (by kernel_rfl) (by kernel_rfl) (h_free rfl) ?_ ?_ ?_; rotate_left; (focus (intro v hv; go_simp; rfl)); go_simp)
            (refine h_read 6 rfl (by kernel_rfl) (by kernel_rfl) (h_free rfl) ?_ ?_ ?_; rotate_left; (focus (intro v hv; have x3 := (hv.cell (p := ⟨g6, 3, none⟩) R6L.out.lt).trans R6L.out.k4.2.2.2; have y3 := (hv.cell (p := ⟨g7, 3, none⟩) R7L.out.lt).trans R7L.out.k4.2.2.2; have x5' := (hv.cell (p := ⟨b5, o5 + j, none⟩) L5.out).trans K5.out; have x6' := (hv.cell (p := ⟨b6, o6 + j, none⟩) L6.out).trans K6.out; go_simp; rfl)); go_simp)
            (refine h_read 7 rfl (by kernel_rfl) (by kernel_rfl) (h_free rfl) ?_ ?_ ?_; rotate_left; (focus (intro v hv; go_simp; rfl)); go_simp)
            (refine h_read 8 rfl (by kernel_rfl) (by kernel_rfl) (h_free rfl) ?_ ?_ ?_; rotate_left; (focus (intro v hv; go_simp; rfl)); go_simp)
            (refine h_read 9 rfl (by kernel_rfl) (by kernel_rfl) (h_free rfl) ?_ ?_ ?_; rotate_left; (focus (intro v hv; have x3 := (hv.cell (p := ⟨g6, 3, none⟩) R6L.out.lt).trans R6L.out.k4.2.2.2; have y3 := (hv.cell (p := ⟨g7, 3, none⟩) R7L.out.lt).trans R7L.out.k4.2.2.2; have x5' := (hv.cell (p := ⟨b5, o5 + j, none⟩) L5.out).trans K5.out; have x6' := (hv.cell (p := ⟨b6, o6 + j, none⟩) L6.out).trans K6.out; go_simp; rfl)); go_simp)
            (refine h_read 10 rfl (by kernel_rfl) (by kernel_rfl) (h_free rfl) ?_ ?_ ?_; rotate_left; (focus (intro v hv; go_simp; rfl)); go_simp)
            refine h_done (by kernel_rfl) ?_
            go_wp2_with fail
            go_roundw
            case rel => exact ⟨j + 1, by go_num, by omega, Lib.hid (BJ.out.trans (I0.out.mono BJ.out.size))⟩
            case measure => simp [intOf]; omega
          · obtain rfl : j = tn := by omega
            go_wp2_with fail
            go_roundw
            case rel => exact ⟨k + 1, by go_num, by omega, Lib.hid (B4.out.trans (BJ.out.mono B4.out.size))⟩
            case measure => simp [intOf]; omega
    · obtain rfl : k = n := by omega
      go_wp2_with fail
      go_ret
      exact ⟨rfl, B.out⟩
end Go.Proofs.YtkfhppbmnjmnoaaGreatDoor.W

/- slices.Equal of strings -/
set_option linter.unusedSimpArgs false
set_option linter.unusedVariables false
namespace Go.Proofs.YtkfhppbmnjmnoaaGreatDoor.W
open Go Go.ChangeShapes Go.WideShapes Go.ChangeAt Go.RowKit

theorem str_next (L M : List ByteArray) (k : Nat) (x : ByteArray) (h1 : L[k]? = some x) (h2 : M[k]? = some x) (e : L.take k = M.take k) : L.take (k + 1) = M.take (k + 1) := by
  obtain ⟨a1, a2⟩ := List.getElem?_eq_some_iff.1 h1
  obtain ⟨b1, b2⟩ := List.getElem?_eq_some_iff.1 h2
  rw [List.take_succ_eq_append_getElem a1, List.take_succ_eq_append_getElem b1, a2, b2, e]
set_option maxRecDepth 100000 in
set_option maxHeartbeats 16000000 in
theorem strequal (a a' : Option Addr) (n c n' c' : Nat) (L M : List ByteArray) (w : World) (V : Bool) (h1 : Ls strE w a n c L) (h2 : Ls strE w a' n' c' M) (hV : V = true ↔ L = M) :
    Calls Tryz.prog 44 #[.slice a n c, .slice a' n' c'] w fun x w' => x = .returned (.bool V) ∧ Below w.heap.size w w' := by
  have H1 := Lib.hid h1
  have H2 := Lib.hid h2
  have L1 := Lib.hid h1.hlen
  have L2 := Lib.hid h2.hlen
  have HV := Lib.hid hV
  have hm := h1.hmax
  have hle := h1.hle
  clear h1 h2 hV
  by_cases hn : n = n'
  case neg =>
    have HF := Lib.hid (show V = false by
      cases hh : V with
      | false => rfl
      | true => exact absurd (by rw [← L1.out, ← L2.out, HV.out.1 hh]) hn)
    have gn : ((n : Int) == (n' : Int)) = false := beq_eq_false_iff_ne.2 (by omega)
    have gm : ¬ ((n : Int) = (n' : Int)) := by omega
    clear HV
    go_enter Tryz.func44, Tryz.ntmps44
    go_wp2_with fail
    go_ret
    exact ⟨one (vbool (by rw [HF.out])), Below.refl _ _⟩
  subst hn
  go_enter Tryz.func44, Tryz.ntmps44
  go_wp2_with fail
  go_loopw [13] (fun i wr => ∃ k : Nat, i = .int .i64 (k : Int) ∧ k ≤ n ∧ Hid (L.take k = M.take k) ∧ Hid (Below w.heap.size w wr)) (fun i _ => n - (intOf i).toNat)
  case atStart => exact ⟨0, rfl, Nat.zero_le _, Lib.hid rfl, Lib.hid (Below.refl _ _)⟩
  case round =>
    obtain ⟨k, rfl, hk, P, B⟩ := hrel
    by_cases hlt : k < n
    · obtain ⟨b, o, x, rfl, hx1, hc1, -⟩ := H1.out.at strOk B.out k hlt
      obtain ⟨b', o', y, rfl, hx2, hc2, -⟩ := H2.out.at strOk B.out k hlt
      have g1 : (0 : Int) ≤ (k : Int) := by omega
      have g2 : (k : Int) < (n : Int) := by omega
      have d1 : wr.cell? ⟨b, o + k, none⟩ = some (.string x) := by have := hc1 0 (.string x) rfl; rw [show o + k * strE.k + 0 = o + k by show o + k * 1 + 0 = o + k; omega] at this; exact this
      have d2 : wr.cell? ⟨b', o' + k, none⟩ = some (.string y) := by have := hc2 0 (.string y) rfl; rw [show o' + k * strE.k + 0 = o' + k by show o' + k * 1 + 0 = o' + k; omega] at this; exact this
      clear hc1 hc2
      by_cases hxy : x = y
      · subst hxy
        have HN := Lib.hid (str_next L M k x hx1 hx2 P.out)
        clear hx1 hx2
        go_wp2_with fail
        go_quiet (fail)
        go_wp2_with fail
        go_roundw
        case rel => exact ⟨k + 1, vint (by omega), by omega, HN, Lib.hid (below_drewN B.out _)⟩
        case measure => simp [intOf]; omega
      · have HF := Lib.hid (show V = false by
          cases hh : V with
          | false => rfl
          | true =>
            have := HV.out.1 hh
            rw [this, hx2] at hx1
            exact absurd (Option.some.inj hx1).symm hxy)
        have ne1 : (x.toList == y.toList) = false := eqM_ne.2 hxy
        have ne3 : ¬ x.toList = y.toList := fun e => by rw [e] at ne1; simp at ne1
        have ne2 : (x.toList != y.toList) = true := by rw [bne, ne1]; rfl
        clear hx1 hx2 hxy
        go_wp2_with fail
        go_quiet (fail)
        go_wp2_with fail
        go_ret
        exact ⟨one (vbool (by rw [HF.out])), below_drewN B.out _⟩
    · obtain rfl : n = k := by omega
      have HT := Lib.hid (show V = true from HV.out.2 (by
        have := P.out
        rwa [List.take_of_length_le (by rw [L1.out]; exact Nat.le_refl _), List.take_of_length_le (by rw [L2.out]; exact Nat.le_refl _)] at this))
      go_wp2_with fail
      go_ret
      exact ⟨one (vbool (by rw [HT.out])), B.out⟩
end Go.Proofs.YtkfhppbmnjmnoaaGreatDoor.W
