/- LAYER 9 (disk): the laws DiskNobody, DiskLives. -/
import Derived.Test.YtlohfalpcppcjaaDpV
set_option linter.unusedSimpArgs false
set_option linter.unusedVariables false
namespace Go.Proofs.Ytlohfalpcppcjaa.W
open Go Go.ChangeShapes Go.WideShapes Go.ChangeAt Go.RowKit

theorem awake9 (w : World) : Calls Try.prog 12 #[] w fun e w' => e = .returned (.bool true) ∧ Below w.heap.size w w' := awake_two dkC dnew_ok w
theorem disk_zero : (Try.prog.info? 53).map (·.zero) = some (some (.agg [.bool false, .int .i64 0, .slice none 0 0].toArray)) := by kernel_rfl

set_option maxRecDepth 100000 in
set_option maxHeartbeats 4000000 in
theorem law_DiskNobody (n : Int) (a : Option Addr) (len cap : Nat) (zs : List Int) (ka : Option Addr) (kl kc : Nat) (ks : List Int) (w : World) (_w0 : (Lit.int .i64 n).wf = true) (_w1 : IsRow .u8 w a len cap zs) (_w2 : IsRow .i64 w ka kl kc ks) :
    Calls Try.prog 7 #[.int .i64 n, .slice a len cap, .slice ka kl kc] w fun e w' => e = .returned (.bool true) ∧ Below w.heap.size w w' := by
  have TZ := Lib.hid disk_zero
  clear _w0 _w1 _w2
  go_enter Try.func7, Try.ntmps7
  go_wp2_with ((with_reducible refine alloc_row (o := ⟨some 8, _, _, _, _, _⟩) rfl _ rfl _ TZ.out ?_); intro w1 hr1 hb1 hz1; have R1 := Lib.hid hr1; have B1 := Lib.hid hb1; clear hr1 hb1 hz1)
  have RZ := Lib.hid (dready w.heap.size _ false _ _ w1 R1.out trivial)
  have FZ := Lib.hid (fun slot => dfind_zero w.heap.size _ _ _ slot w1 R1.out trivial)
  have RN := Lib.hid (dready_nil w1)
  have FN := Lib.hid (fun slot => dfind_nil slot w1)
  have CrN := Lib.hid (dcrash_nob none ka kl kc w1 RN.out)
  have CrZ := Lib.hid (dcrash_nob _ ka kl kc w1 RZ.out)
  have RdN := Lib.hid (dread_bad n 2 w1 none (by decide) (FN.out n))
  have RdZ := Lib.hid (dread_bad n 2 w1 _ (by decide) (FZ.out n))
  have ApN := Lib.hid (dappend_bad 0 n 2 a len cap w1 none (by decide) (FN.out n))
  have ApZ := Lib.hid (dappend_bad 0 n 2 a len cap w1 _ (by decide) (FZ.out n))
  have ClN := Lib.hid (dclear_bad n 2 w1 none (by decide) (FN.out n))
  have CuZ := Lib.hid (dcut_bad n n 2 w1 _ (by decide) (FZ.out n))
  have SyN := Lib.hid (dsync_nob none w1 RN.out)
  have SyZ := Lib.hid (dsync_nob _ w1 RZ.out)
  have SiN := Lib.hid (dsize_bad n 2 w1 none (by decide) (FN.out n))
  have LoZ := Lib.hid (dloose_nob _ w1 RZ.out)
  have RoN := Lib.hid (droom_nob none w1 RN.out)
  have SlZ := Lib.hid (dslots_nob _ w1 RZ.out)
  have CoN := Lib.hid (dcopy_nob none w1 RN.out)
  have CoZ := Lib.hid (dcopy_nob _ w1 RZ.out)
  go_wp2_with (first
    | (go_at_call 16; (with_reducible refine CrN.out.mono ?_); rintro e w2 ⟨rfl, rfl⟩; clear CrN)
    | (go_at_call 16; (with_reducible refine CrZ.out.mono ?_); rintro e w2 ⟨rfl, rfl⟩; clear CrZ)
    | (go_at_call 17; (with_reducible refine RdN.out.mono ?_); rintro e w2 ⟨rfl, rfl⟩; clear RdN)
    | (go_at_call 17; (with_reducible refine RdZ.out.mono ?_); rintro e w2 ⟨rfl, rfl⟩; clear RdZ)
    | (go_at_call 13; (with_reducible refine ApN.out.mono ?_); rintro e w2 ⟨rfl, rfl⟩; clear ApN)
    | (go_at_call 13; (with_reducible refine ApZ.out.mono ?_); rintro e w2 ⟨rfl, rfl⟩; clear ApZ)
    | (go_at_call 21; (with_reducible refine ClN.out.mono ?_); rintro e w2 ⟨rfl, rfl⟩; clear ClN)
    | (go_at_call 22; (with_reducible refine CuZ.out.mono ?_); rintro e w2 ⟨rfl, rfl⟩; clear CuZ)
    | (go_at_call 14; (with_reducible refine SyN.out.mono ?_); rintro e w2 ⟨rfl, rfl⟩; clear SyN)
    | (go_at_call 14; (with_reducible refine SyZ.out.mono ?_); rintro e w2 ⟨rfl, rfl⟩; clear SyZ)
    | (go_at_call 23; (with_reducible refine SiN.out.mono ?_); rintro e w2 ⟨rfl, rfl⟩; clear SiN)
    | (go_at_call 15; (with_reducible refine LoZ.out.mono ?_); rintro e w2 ⟨rfl, rfl⟩; clear LoZ)
    | (go_at_call 24; (with_reducible refine RoN.out.mono ?_); rintro e w2 ⟨rfl, rfl⟩; clear RoN)
    | (go_at_call 25; (with_reducible refine SlZ.out.mono ?_); rintro e w2 ⟨rfl, rfl⟩; clear SlZ)
    | (go_at_call 20; (with_reducible refine CoN.out.mono ?_); rintro e w2 ⟨rfl, rfl⟩; clear CoN)
    | (go_at_call 20; (with_reducible refine CoZ.out.mono ?_); rintro e w2 ⟨rfl, rfl⟩; clear CoZ)
    | (go_at_call 12; refine (awake9 w1).mono ?_; rintro e w9 ⟨rfl, hb9⟩; have B9 := Lib.hid (B1.out.trans (hb9.mono B1.out.size)); clear hb9))
  go_ret
  exact ⟨rfl, B9.out⟩
end Go.Proofs.Ytlohfalpcppcjaa.W
