/- THE LAWS of layer 2 (pack), the third part: PackNobody. -/
import Derived.Test.YtbdlhcgilcpeoaaPackL
namespace Go.Proofs.Ytbdlhcgilcpeoaa.W
open Go.ChangeShapes Go.WideShapes Go.ChangeAt Go.RowKit

/-- a reader that no call made: nil, or a zero one at block p -/
def NoR (w : World) (r : Option Addr) : Prop := r = none ∨ ∃ p, r = some ⟨p, 0, none⟩ ∧ w.heap[p]? = some (.cells #[.bool false, .slice none 0 0, .int .i64 0] 56 (0, 0))

set_option maxHeartbeats 400000 in
theorem noErr (r : Option Addr) (w : World) (h : NoR w r) :
    Calls Try.prog 55 #[.pointer r] w fun x w' => x = .returned (.int .i64 2) ∧ w = w' := by
  rcases h with rfl | ⟨p, rfl, hh⟩
  · go_enter Try.func55, Try.ntmps55
    go_wp2
    go_ret
    exact ⟨rfl, rfl⟩
  · have c0 := cell_at hh 0 _ rfl
    clear hh
    go_enter Try.func55, Try.ntmps55
    go_wp2
    go_ret
    exact ⟨rfl, rfl⟩

set_option maxHeartbeats 400000 in
theorem noLeft (r : Option Addr) (w : World) (h : NoR w r) :
    Calls Try.prog 53 #[.pointer r] w fun x w' => x = .returned (.int .i64 0) ∧ w = w' := by
  rcases h with rfl | ⟨p, rfl, hh⟩
  · go_enter Try.func53, Try.ntmps53
    go_wp2
    go_ret
    exact ⟨rfl, rfl⟩
  · have c1 := cell_at hh 1 _ rfl
    clear hh
    go_enter Try.func53, Try.ntmps53
    go_wp2
    go_ret
    exact ⟨rfl, rfl⟩

set_option maxHeartbeats 400000 in
theorem noFail (r : Option Addr) (f : Int) (w : World) (h : NoR w r) :
    Calls Try.prog 51 #[.pointer r, .int .i64 f] w fun x w' => x = .returned (.tuple #[]) ∧ w = w' := by
  have HE := Lib.hid (noErr r w h)
  clear h
  go_enter Try.func51, Try.ntmps51
  go_wp2_with fail
  refine HE.out.mono ?_
  rintro x w' ⟨rfl, rfl⟩
  go_wp2_with fail
  refine bodyPost_ret (results_none rfl _ _ _) rfl ?_
  exact ⟨rfl, rfl⟩

set_option maxHeartbeats 400000 in
theorem noNum (r : Option Addr) (n : Int) (w : World) (h : NoR w r) :
    Calls Try.prog 45 #[.pointer r, .int .i64 n] w fun x w' => x = .returned (.int .i64 0) ∧ w = w' := by
  have HE := Lib.hid (noErr r w h)
  clear h
  go_enter Try.func45, Try.ntmps45
  go_wp2_with fail
  refine HE.out.mono ?_
  rintro x w' ⟨rfl, rfl⟩
  go_wp2_with fail
  go_ret
  exact ⟨rfl, rfl⟩

set_option maxHeartbeats 400000 in
theorem noTake (r : Option Addr) (n : Int) (w : World) (h : NoR w r) :
    Calls Try.prog 68 #[.pointer r, .int .i64 n] w fun x w' => x = .returned (.slice none 0 0) ∧ w = w' := by
  have HE := Lib.hid (noErr r w h)
  clear h
  go_enter Try.func68, Try.ntmps68
  go_wp2_with fail
  refine HE.out.mono ?_
  rintro x w' ⟨rfl, rfl⟩
  go_wp2_with fail
  go_ret
  exact ⟨rfl, rfl⟩

set_option maxHeartbeats 400000 in
theorem noText (r : Option Addr) (n : Int) (w : World) (h : NoR w r) :
    Calls Try.prog 47 #[.pointer r, .int .i64 n] w fun x w' => x = .returned (.string ByteArray.empty) ∧ w = w' := by
  have HN := Lib.hid (noNum r n w h)
  have HT := Lib.hid (noTake r 0 w h)
  have hcv := conv_rd (Rd_nil w)
  clear h
  go_enter Try.func47, Try.ntmps47
  go_wp2_with fail
  refine HN.out.mono ?_
  rintro x w' ⟨rfl, rfl⟩
  go_wp2_with fail
  refine HT.out.mono ?_
  rintro x w' ⟨rfl, rfl⟩
  go_wp2_with fail
  go_ret
  exact ⟨rfl, rfl⟩

set_option maxHeartbeats 400000 in
theorem noYes (r : Option Addr) (w : World) (h : NoR w r) :
    Calls Try.prog 49 #[.pointer r] w fun x w' => x = .returned (.bool false) ∧ w = w' := by
  have HT := Lib.hid (noTake r 1 w h)
  clear h
  go_enter Try.func49, Try.ntmps49
  go_wp2_with fail
  refine HT.out.mono ?_
  rintro x w' ⟨rfl, rfl⟩
  go_wp2_with fail
  go_ret
  exact ⟨rfl, rfl⟩

set_option maxHeartbeats 400000 in
theorem noEnd (r : Option Addr) (w : World) (h : NoR w r) :
    Calls Try.prog 57 #[.pointer r] w fun x w' => x = .returned (.int .i64 2) ∧ w = w' := by
  have HE := Lib.hid (noErr r w h)
  clear h
  go_enter Try.func57, Try.ntmps57
  go_wp2_with fail
  refine HE.out.mono ?_
  rintro x w' ⟨rfl, rfl⟩
  go_wp2_with fail
  go_ret
  exact ⟨rfl, rfl⟩

set_option maxHeartbeats 2000000 in
theorem law_PackNobody (n : Int) (w : World) (_w0 : (Lit.int .i64 n).wf = true) :
    Calls Try.prog 13 #[.int .i64 n] w fun e w' => e = .returned (.bool true) ∧ Below w.heap.size w w' := by
  have h0 : ∀ W, NoR W none := fun _ => .inl rfl
  have h1 : NoR (w.alloc (.cells #[.bool false, .slice none 0 0, .int .i64 0] 56)) (some ⟨w.heap.size, 0, none⟩) := .inr ⟨_, rfl, heap_alloc_new w _⟩
  have H0 := Lib.hid h0
  have H1 := Lib.hid h1
  clear h0 h1
  go_enter Try.func13, Try.ntmps13
  go_wp2_with (first | (go_at_call 51; first | ((with_reducible refine (noFail _ _ _ (H0.out _)).mono ?_); rintro x w' ⟨rfl, rfl⟩) | ((with_reducible refine (noFail _ _ _ H1.out).mono ?_); rintro x w' ⟨rfl, rfl⟩)) | (go_at_call 45; first | ((with_reducible refine (noNum _ _ _ (H0.out _)).mono ?_); rintro x w' ⟨rfl, rfl⟩) | ((with_reducible refine (noNum _ _ _ H1.out).mono ?_); rintro x w' ⟨rfl, rfl⟩)) | (go_at_call 47; first | ((with_reducible refine (noText _ _ _ (H0.out _)).mono ?_); rintro x w' ⟨rfl, rfl⟩) | ((with_reducible refine (noText _ _ _ H1.out).mono ?_); rintro x w' ⟨rfl, rfl⟩)) | (go_at_call 49; first | ((with_reducible refine (noYes _ _ (H0.out _)).mono ?_); rintro x w' ⟨rfl, rfl⟩) | ((with_reducible refine (noYes _ _ H1.out).mono ?_); rintro x w' ⟨rfl, rfl⟩)) | (go_at_call 53; first | ((with_reducible refine (noLeft _ _ (H0.out _)).mono ?_); rintro x w' ⟨rfl, rfl⟩) | ((with_reducible refine (noLeft _ _ H1.out).mono ?_); rintro x w' ⟨rfl, rfl⟩)) | (go_at_call 55; first | ((with_reducible refine (noErr _ _ (H0.out _)).mono ?_); rintro x w' ⟨rfl, rfl⟩) | ((with_reducible refine (noErr _ _ H1.out).mono ?_); rintro x w' ⟨rfl, rfl⟩)) | (go_at_call 57; first | ((with_reducible refine (noEnd _ _ (H0.out _)).mono ?_); rintro x w' ⟨rfl, rfl⟩) | ((with_reducible refine (noEnd _ _ H1.out).mono ?_); rintro x w' ⟨rfl, rfl⟩)) | (go_at_call 32; refine (awake2 _).mono ?_; rintro e w' ⟨rfl, hb⟩))
  go_ret
  refine ⟨rfl, ((Below.refl w.heap.size w).alloc (Nat.le_refl _) _).trans (Below.mono (by assumption) (by simp))⟩

end Go.Proofs.Ytbdlhcgilcpeoaa.W
