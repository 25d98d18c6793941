/- THE LAWS of layer 6 (caveat): CaveatChecks. -/
import Derived.Test.YtnmcfokckdgbaaaCavA
import Derived.Test.YtnmcfokckdgbaaaQ2
namespace Go.Proofs.Ytnmcfokckdgbaaa.W
open Go.ChangeShapes Go.WideShapes Go.ChangeAt Go.RowKit

set_option maxRecDepth 100000 in
set_option maxHeartbeats 4000000 in
theorem law_CaveatChecks (c : Cv) (s : ByteArray) (w : World) (hc : c.fit) (hs : s.size ≤ maxLen) :
    Calls Try.prog 7 #[c.val, .string s] w fun e w' => e = .returned (.bool true) ∧ Below w.heap.size w w' := by
  have HC := Lib.hid hc
  have HS := Lib.hid hs
  obtain ⟨kind, num, name⟩ := c
  have hn : name.size ≤ maxLen := hc.2.2
  unfold maxLen at hs hn
  clear hc
  by_cases h1 : 200 < s.size
  · go_enter Try.func7, Try.ntmps7
    go_wp2_with (first | (with_reducible refine box_row (o := ⟨some 2, _, _, _, _, _⟩) rfl _ _ rfl [.int .i64 kind, .int .i64 num, .string name] rfl ?_; intro w1 hr1 hb1 hz1; have HR1 := Lib.hid hr1; clear hr1 hz1; have HB1 := Lib.hid hb1; clear hb1; have f0 := HR1.out.c0; have f1 := HR1.out.c1; have f2 := HR1.out.c2) | (go_at_call 22; refine (awake6 _).mono ?_; rintro e w' ⟨rfl, hb⟩))
    go_ret
    exact ⟨rfl, HB1.out.trans ((by assumption : Below w1.heap.size w1 _).mono HB1.out.size)⟩
  · by_cases h2 : 200 < name.size
    · go_enter Try.func7, Try.ntmps7
      go_wp2_with (first | (with_reducible refine box_row (o := ⟨some 2, _, _, _, _, _⟩) rfl _ _ rfl [.int .i64 kind, .int .i64 num, .string name] rfl ?_; intro w1 hr1 hb1 hz1; have HR1 := Lib.hid hr1; clear hr1 hz1; have HB1 := Lib.hid hb1; clear hb1; have f0 := HR1.out.c0; have f1 := HR1.out.c1; have f2 := HR1.out.c2) | (go_at_call 22; refine (awake6 _).mono ?_; rintro e w' ⟨rfl, hb⟩))
      go_ret
      exact ⟨rfl, HB1.out.trans ((by assumption : Below w1.heap.size w1 _).mono HB1.out.size)⟩
    · go_enter Try.func7, Try.ntmps7
      go_wp2_with (with_reducible refine box_row (o := ⟨some 2, _, _, _, _, _⟩) rfl _ _ rfl [.int .i64 kind, .int .i64 num, .string name] rfl ?_; intro w1 hr1 hb1 hz1; have HR1 := Lib.hid hr1; clear hr1 hz1; have HB1 := Lib.hid hb1; clear hb1; have f0 := HR1.out.c0; have f1 := HR1.out.c1; have f2 := HR1.out.c2)
      clear f0 f1 f2
      refine region_w (C := fun v => Below w1.heap.size w1 v) (by kernel_rfl) (by kernel_rfl) (Below.refl _ _).drew ?_
      repeat (first
        | (refine w_read (wanted_free rfl) ?_ ?_ ?_; rotate_left; (focus (intro v hv; have f0 := (HR1.out.below hv HR1.out.lt).c0; have f1 := (HR1.out.below hv HR1.out.lt).c1; have f2 := (HR1.out.below hv HR1.out.lt).c2; go_simp; rfl)); go_simp)
        | (refine w_skip ?_ ?_; (focus (go_simp; first | done | (intro h; cases h) | simp)); go_simp)
        | (refine w_read ?_ ?_ ?_ ?_; (focus (go_simp; done)); rotate_left; (focus (intro v hv; have f0 := (HR1.out.below hv HR1.out.lt).c0; have f1 := (HR1.out.below hv HR1.out.lt).c1; have f2 := (HR1.out.below hv HR1.out.lt).c2; go_simp; rfl)); go_simp)
        | (refine w_call ?_ 23 ?_ ?_ ?_ ?_ ?_; (focus (go_simp; done)); rotate_left; (focus (intro v; go_simp; rfl)); rotate_left; (focus (intro v hv; exact q_grow (ccheck ⟨kind, num, name⟩ v HC.out) (by rfl) hv)); go_simp)
        | (refine w_call ?_ 24 ?_ ?_ ?_ ?_ ?_; (focus (go_simp; done)); rotate_left; (focus (intro v; go_simp; rfl)); rotate_left; (focus (intro v hv; exact q_grow (ucheck ⟨kind, num, name⟩ v HC.out) (by rfl) hv)); go_simp)
        | (refine w_call ?_ 25 ?_ ?_ ?_ ?_ ?_; (focus (go_simp; done)); rotate_left; (focus (intro v; go_simp; rfl)); rotate_left; (focus (intro v hv; exact q_same (cname s v HS.out) (by rfl) hv)); go_simp)
        | (refine w_call ?_ 26 ?_ ?_ ?_ ?_ ?_; (focus (go_simp; done)); rotate_left; (focus (intro v; go_simp; rfl)); rotate_left; (focus (intro v hv; exact q_same (uname s v HS.out) (by rfl) hv)); go_simp)
        | (refine w_call ?_ 22 ?_ ?_ ?_ ?_ ?_; (focus (go_simp; done)); rotate_left; (focus (intro v; go_simp; rfl)); rotate_left; (focus (intro v hv; exact q_grow (awake6 v) (by rfl) hv)); go_simp))
      refine w_nil ?_
      intro w3 hb3
      go_wp2_with fail
      go_ret
      exact ⟨rfl, HB1.out.trans (hb3.mono HB1.out.size)⟩

end Go.Proofs.Ytnmcfokckdgbaaa.W
