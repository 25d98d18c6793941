/- CONTRACTS of layer 8 (token): Weaker. -/
import Derived.Test.YtlclkikbocbenaaDoorTokC
import Derived.Test.YtlclkikbocbenaaDoorCavK
import Derived.Test.YtlclkikbocbenaaDoorArr
import Derived.Test.YtlclkikbocbenaaDoorTokH
set_option linter.unusedSimpArgs false
set_option linter.unusedVariables false
namespace Go.Proofs.YtlclkikbocbenaaDoor.W
open Go.ChangeShapes Go.WideShapes Go.ChangeAt Go.RowKit
open Go.Proofs.YtlclkikbocbenaaDoor.P (enc)

def cvZ : Cv := ⟨0, 0, ⟨#[]⟩⟩
theorem made_cv (n : Nat) (hn : n < 8) : (madeCells #[.int .i64 0, .int .i64 0, .string ⟨#[]⟩] ((n + 1) * 3)).toList = cells (List.replicate (n + 1) cvZ) := by
  rcases (show n = 0 ∨ n = 1 ∨ n = 2 ∨ n = 3 ∨ n = 4 ∨ n = 5 ∨ n = 6 ∨ n = 7 by omega) with h | h | h | h | h | h | h | h <;> subst h <;> kernel_rfl
theorem put_cv (L : List Cv) (n : Nat) (hn : L.length = n) : splice (cells (List.replicate (n + 1) cvZ)) 0 (cells L) = cells (L ++ [cvZ]) := by
  unfold splice
  rw [List.take_zero, List.nil_append, Nat.zero_add, cells_len, hn, List.replicate_succ', cells_append, cells_append, List.drop_left' (by rw [cells_len, List.length_replicate])]
theorem set_cv (L : List Cv) (n : Nat) (hn : L.length = n) (c d : Cv) : splice (cells (L ++ [c])) (0 + n * 3) d.cells = cells (L ++ [d]) := by
  unfold splice
  have h1 : (cells L).length = 0 + n * 3 := by rw [cells_len, hn, Nat.zero_add]
  rw [cells_append, List.take_left' h1, cells_append]
  have e : ∀ x : Cv, cells [x] = x.cells := fun x => by simp [cells]
  rw [e, e, List.drop_eq_nil_of_le (by rw [List.length_append, h1]; simp [Cv.cells]), List.append_nil]
theorem Row.cvs {w : World} {g : Nat} {M : List Cv} (h : Row w g 49 (cells M)) (hf : ∀ c ∈ M, c.fit) (n : Nat) (hn : M.length = n) (hm : n ≤ 1000000) : Cvs w (some ⟨g, 0, none⟩) n n M := by
  subst hn
  refine ⟨rfl, Nat.le_refl _, by omega, hf, (fun h => by cases h), .inr ⟨g, 0, rfl, h.lt, fun i hi j v hj => ?_⟩⟩
  have hj3 : j < 3 := by have := (List.getElem?_eq_some_iff.1 hj).1; simpa [Cv.cells] using this
  rw [h.cellV, Nat.zero_add, cells_at M i j hi hj3]; exact hj
theorem infoCvs : (Tryd.prog.info? 23).map (·.size) = some 1 := by kernel_rfl
theorem infoStr1 : (Tryd.prog.info? 9).map (·.size) = some 1 := by kernel_rfl
theorem infoCv3 : (Tryd.prog.info? 49).map (·.size) = some 3 := by kernel_rfl
theorem Cvs.src {w : World} {a : Option Addr} {len cap : Nat} {L : List Cv} (h : Cvs w a len cap L) : len = 0 ∨ ∃ b o, a = some ⟨b, o, none⟩ ∧ ∀ j v, (cells L)[j]? = some v → w.cell? ⟨b, o + j, none⟩ = some v := by
  rcases h.hcells with h0 | ⟨b, off, e, -, hc⟩
  · exact .inl h0
  · refine .inr ⟨b, off, e, fun j v hj => ?_⟩
    have hj' : j < L.length * 3 := by have := (List.getElem?_eq_some_iff.1 hj).1; rwa [cells_len] at this
    have hml := h.hlen
    have hq : j = j / 3 * 3 + j % 3 := by omega
    have := hc (j / 3) (by omega) (j % 3) v (by rw [← cells_at L (j / 3) (j % 3) (by omega) (by omega), ← hq]; exact hj)
    rw [show off + j = off + j / 3 * 3 + j % 3 by omega]
    exact this

set_option maxRecDepth 100000 in
set_option maxHeartbeats 1000000 in
theorem weaker_ok (lane id epoch : Int) (a : Option Addr) (len cap : Nat) (L : List Cv) (tag : ByteArray) (kind num : Int) (name : ByteArray) (w : World) (hK : Ks w) (h : Cvs w a len cap L) (hc : Cv.fit ⟨kind, num, name⟩)
    (hok : tokOk lane id epoch L tag = true) (hcok : Cv.ok ⟨kind, num, name⟩ = true) (h8 : len < 8) :
    Calls Tryd.prog 31 #[.agg #[.int .i64 lane, .int .i64 id, .int .i64 epoch, .slice a len cap, .string tag], .agg #[.int .i64 kind, .int .i64 num, .string name]] w
      fun e w' => ∃ g, e = .returned (.tuple #[.agg (tokC lane id epoch (.slice (some ⟨g, 0, none⟩) (len + 1) (len + 1)) (str (nextL tag.data.toList ⟨kind, num, name⟩))).toArray, .int .i64 0]) ∧ w.heap.size ≤ g ∧ Cvs w' (some ⟨g, 0, none⟩) (len + 1) (len + 1) (L ++ [⟨kind, num, name⟩]) ∧ Below w.heap.size w w' := by
  have H := Lib.hid h
  have HK := Lib.hid hK
  have HC := Lib.hid hc
  have TZ := Lib.hid tok_zero
  have TS := Lib.hid tok_size
  have HE := Lib.hid (tokErr_ok hok)
  have HCE := Lib.hid (show Cv.err ⟨kind, num, name⟩ = 0 by unfold Cv.err; rw [hcok]; rfl)
  have HSZ := Lib.hid (tokOk_facts hok).2.1
  have HL := Lib.hid h.hlen
  obtain ⟨T, hT⟩ : ∃ T, str (nextL tag.data.toList ⟨kind, num, name⟩) = T := ⟨_, rfl⟩
  rw [hT]
  have HT := Lib.hid hT
  clear h hK hc hok hcok hT
  go_enter Tryd.func31, Tryd.ntmps31
  go_wp2_with (first
    | ((with_reducible refine box_row (o := ⟨some 2, _, _, _, _, _⟩) rfl _ _ rfl [.int .i64 lane, .int .i64 id, .int .i64 epoch, .slice a len cap, .string tag] rfl ?_); intro w1 hr1 hb1 hz1; have T1 := Lib.hid hr1; have B1 := Lib.hid hb1; clear hr1 hb1 hz1)
    | ((with_reducible refine box_row (o := ⟨some 3, _, _, _, _, _⟩) rfl _ _ rfl [.int .i64 kind, .int .i64 num, .string name] rfl ?_); intro w2 hr2 hb2 hz2; have C2 := Lib.hid hr2; have T2 := Lib.hid (T1.out.below hb2 T1.out.lt); have B2 := Lib.hid (B1.out.trans (hb2.mono B1.out.size)); clear hr2 hb2 hz2)
    | ((with_reducible refine alloc_row (o := ⟨some 4, _, _, _, _, _⟩) rfl _ rfl _ TZ.out ?_); intro w3 hr3 hb3 hz3; have A3 := Lib.hid hr3; have T3 := Lib.hid (T2.out.below hb3 T2.out.lt); have C3 := Lib.hid (C2.out.below hb3 C2.out.lt); have B3 := Lib.hid (B2.out.trans (hb3.mono B2.out.size)); clear hr3 hb3 hz3; obtain ⟨g0, g1, g2, g3, g4⟩ := T3.out.t5)
    | (go_at_call 35; refine (tkcheck_any lane id epoch a len cap L tag w3 (H.out.mono B3.out)).mono ?_; rw [HE.out]; rintro e w4 ⟨rfl, hb4⟩; have B4 := Lib.hid (B3.out.trans (hb4.mono B3.out.size)); have T4 := Lib.hid (T3.out.below hb4 T3.out.lt); have C4 := Lib.hid (C3.out.below hb4 C3.out.lt); have A4 := Lib.hid (A3.out.below hb4 A3.out.lt); clear hb4 g0 g1 g2 g3 g4; have f0 := C4.out.c0; have f1 := C4.out.c1; have f2 := C4.out.c2)
    | (go_at_call 60; refine (ccheck ⟨kind, num, name⟩ _ HC.out).mono ?_; rw [HCE.out]; rintro e w5 ⟨rfl, hb5⟩; have B5 := Lib.hid (B4.out.trans (hb5.mono B4.out.size)); have T5 := Lib.hid (T4.out.below hb5 T4.out.lt); have C5 := Lib.hid (C4.out.below hb5 C4.out.lt); have A5 := Lib.hid (A4.out.below hb5 A4.out.lt); clear hb5 f0 f1 f2; obtain ⟨g0, g1, g2, g3, g4⟩ := T5.out.t5; have f0 := C5.out.c0; have f1 := C5.out.c1; have f2 := C5.out.c2)
    | ((with_reducible refine make_wide (o := ⟨some 25, _, _, _, _, _⟩) rfl _ _ _ rfl 49 #[.int .i64 0, .int .i64 0, .string ⟨#[]⟩] 3 32 ?_ ?_ ((len : Int) + 1) (len + 1) ?_ ?_ ?_ ?_ ?_ ?_ ?_); (focus (exact Tryd.underlying23)); (focus (exact infoCv)); (focus go_simp); (focus go_simp); (focus (rfl)); (focus omega); (focus omega); (focus omega); intro w6 hr6 hb6 hz6; rw [made_cv len h8] at hr6; have N6 := Lib.hid hr6; have B6 := Lib.hid (B5.out.trans (hb6.mono B5.out.size)); have T6 := Lib.hid (T5.out.below hb6 T5.out.lt); have C6 := Lib.hid (C5.out.below hb6 C5.out.lt); have A6 := Lib.hid (A5.out.below hb6 A5.out.lt); have E1 := Lib.hid (Nat.ne_of_lt T5.out.lt); have E2 := Lib.hid (Nat.ne_of_lt C5.out.lt); have E3 := Lib.hid (Nat.ne_of_lt A5.out.lt); have E4 := Lib.hid (show w2.heap.size ≠ w.heap.size from fun h => absurd T2.out.lt (by rw [h]; exact Nat.lt_irrefl _)); clear hr6 hb6 hz6 g0 g1 g2 g3 g4 f0 f1 f2; obtain ⟨g0, g1, g2, g3, g4⟩ := T6.out.t5; have f0 := C6.out.c0; have f1 := C6.out.c1; have f2 := C6.out.c2)
    | ((with_reducible refine copy_wide (o := ⟨some 29, _, _, _, _, _⟩) rfl _ _ _ rfl 49 3 w5.heap.size 0 (len + 1) (len + 1) 49 _ a len cap (cells L) ?_ ?_ ?_ ?_ N6.out ?_ ?_ ?_ ?_ ?_ ?_); (focus go_simp); (focus go_simp); (focus (exact Tryd.underlying23)); (focus (exact infoCv3)); (focus omega); (focus (rw [cells_len, HL.out])); (focus (exact (H.out.mono B6.out).src)); (focus (rw [cells_len, cells_len, List.length_replicate, HL.out]; omega)); (focus (exact cells_one L)); intro w7 hr7 hu7; rw [put_cv L len HL.out] at hr7; have N7 := Lib.hid hr7; have B7 := Lib.hid (B6.out.trans (hu7.below B5.out.size)); have T7 := Lib.hid (T6.out.upd hu7 E1.out); have C7 := Lib.hid (C6.out.upd hu7 E2.out); have A7 := Lib.hid (A6.out.upd hu7 E3.out); clear hr7 hu7 g0 g1 g2 g3 g4 f0 f1 f2; obtain ⟨g0, g1, g2, g3, g4⟩ := T7.out.t5; have f0 := C7.out.c0; have f1 := C7.out.c1; have f2 := C7.out.c2)
    | ((with_reducible refine store_part (o := ⟨none, _, _, _, _, _⟩) rfl _ (.tmp 35) _ rfl w5.heap.size (0 + len * 3) [.int .i64 kind, .int .i64 num, .string name] ?_ ?_ 49 _ N7.out ?_ ?_ ?_ ?_); (focus go_simp); (focus go_simp); (focus (exact infoCv3)); (focus (rw [cells_len, List.length_append, HL.out]; simp; omega)); (focus (exact cells_one [⟨kind, num, name⟩])); intro w8 hr8 hu8; rw [show [Value.int .i64 kind, .int .i64 num, .string name] = Cv.cells ⟨kind, num, name⟩ from rfl, set_cv L len HL.out cvZ ⟨kind, num, name⟩] at hr8; have N8 := Lib.hid hr8; have B8 := Lib.hid (B7.out.trans (hu8.below B5.out.size)); have T8 := Lib.hid (T7.out.upd hu8 E1.out); have C8 := Lib.hid (C7.out.upd hu8 E2.out); have A8 := Lib.hid (A7.out.upd hu8 E3.out); clear hr8 hu8 g0 g1 g2 g3 g4 f0 f1 f2; obtain ⟨g0, g1, g2, g3, g4⟩ := T8.out.t5; have f0 := C8.out.c0; have f1 := C8.out.c1; have f2 := C8.out.c2)
    | (go_at_call 42; refine (tknext_any tag ⟨kind, num, name⟩ w8 (HK.out.below B8.out HK.out.pos) (by rw [HSZ.out]; decide) HC.out).mono ?_; rw [HT.out]; rintro e w9 ⟨rfl, hb9⟩; have B9 := Lib.hid (B8.out.trans (hb9.mono B8.out.size)); have T9 := Lib.hid (T8.out.below hb9 T8.out.lt); have N9 := Lib.hid (N8.out.below hb9 N8.out.lt); have A9 := Lib.hid (A8.out.below hb9 A8.out.lt); clear hb9 g0 g1 g2 g3 g4 f0 f1 f2; obtain ⟨g0, g1, g2, g3, g4⟩ := T9.out.t5; have z3 := T9.out.frozen 3; have z4 := T9.out.frozen 4)
    | ((with_reducible refine store_row (o := ⟨none, _, _, _, _, _⟩) rfl _ (.tmp 4) _ rfl w2.heap.size (tokC lane id epoch (.slice (some ⟨w5.heap.size, 0, none⟩) (len + 1) (len + 1)) T) ?_ ?_ 25 (tokC 0 0 0 (.slice none 0 0) ⟨#[]⟩) ?_ ?_ ?_ ?_ ?_); (focus go_simp); (focus (go_simp; rfl)); (focus (exact A9.out.upd ((Upd.setCell _ _ _ _).trans (Upd.setCell _ _ _ _)) E4.out)); (focus (exact TS.out)); (focus rfl); (focus (exact tok_one _ _ _ _ _ _ _)); intro w12 hr12 hu12; have A12 := Lib.hid hr12; have N12 := Lib.hid ((N9.out.upd ((Upd.setCell w9 w.heap.size 3 _).trans (Upd.setCell _ _ 4 _)) E1.out.symm).upd hu12 E3.out.symm); have B12 := Lib.hid ((B9.out.trans (((Upd.setCell w9 w.heap.size 3 _).trans (Upd.setCell _ _ 4 _)).below (Nat.le_refl _))).trans (hu12.below B2.out.size)); clear hr12 hu12))
  have hcv := N12.out.cvs (fun c hc => by
    rcases List.mem_append.1 hc with h1 | h1
    · exact H.out.hfit c h1
    · rw [List.mem_singleton.1 h1]; exact HC.out) (len + 1) (by rw [List.length_append, HL.out]; rfl) (by omega)
  exact bodyPost_ret (results_row_tmp rfl _ _ w2.heap.size 25 _ _ _ (by go_simp) A12.out Tryd.underlying25 rfl TS.out) rfl ⟨w5.heap.size, rfl, B5.out.size, hcv, B12.out⟩

set_option maxRecDepth 100000 in
set_option maxHeartbeats 1000000 in
theorem weaker_bad (lane id epoch : Int) (a : Option Addr) (len cap : Nat) (L : List Cv) (tag : ByteArray) (kind num : Int) (name : ByteArray) (w : World) (h : Cvs w a len cap L) (hc : Cv.fit ⟨kind, num, name⟩)
    (hok : tokOk lane id epoch L tag = true) (hcok : Cv.ok ⟨kind, num, name⟩ = false) :
    Calls Tryd.prog 31 #[.agg #[.int .i64 lane, .int .i64 id, .int .i64 epoch, .slice a len cap, .string tag], .agg #[.int .i64 kind, .int .i64 num, .string name]] w
      fun e w' => e = .returned (.tuple #[.agg (tokC 0 0 0 (.slice none 0 0) ⟨#[]⟩).toArray, .int .i64 1]) ∧ Below w.heap.size w w' := by
  have H := Lib.hid h
  have HC := Lib.hid hc
  have TZ := Lib.hid tok_zero
  have TS := Lib.hid tok_size
  have HE := Lib.hid (tokErr_ok hok)
  have HCE := Lib.hid (show Cv.err ⟨kind, num, name⟩ = 1 by unfold Cv.err; rw [hcok]; rfl)
  clear h hc hok hcok
  go_enter Tryd.func31, Tryd.ntmps31
  go_wp2_with (first
    | ((with_reducible refine box_row (o := ⟨some 2, _, _, _, _, _⟩) rfl _ _ rfl [.int .i64 lane, .int .i64 id, .int .i64 epoch, .slice a len cap, .string tag] rfl ?_); intro w1 hr1 hb1 hz1; have T1 := Lib.hid hr1; have B1 := Lib.hid hb1; clear hr1 hb1 hz1)
    | ((with_reducible refine box_row (o := ⟨some 3, _, _, _, _, _⟩) rfl _ _ rfl [.int .i64 kind, .int .i64 num, .string name] rfl ?_); intro w2 hr2 hb2 hz2; have C2 := Lib.hid hr2; have T2 := Lib.hid (T1.out.below hb2 T1.out.lt); have B2 := Lib.hid (B1.out.trans (hb2.mono B1.out.size)); clear hr2 hb2 hz2)
    | ((with_reducible refine alloc_row (o := ⟨some 4, _, _, _, _, _⟩) rfl _ rfl _ TZ.out ?_); intro w3 hr3 hb3 hz3; have A3 := Lib.hid hr3; have T3 := Lib.hid (T2.out.below hb3 T2.out.lt); have C3 := Lib.hid (C2.out.below hb3 C2.out.lt); have B3 := Lib.hid (B2.out.trans (hb3.mono B2.out.size)); clear hr3 hb3 hz3; obtain ⟨g0, g1, g2, g3, g4⟩ := T3.out.t5)
    | (go_at_call 35; refine (tkcheck_any lane id epoch a len cap L tag w3 (H.out.mono B3.out)).mono ?_; rw [HE.out]; rintro e w4 ⟨rfl, hb4⟩; have B4 := Lib.hid (B3.out.trans (hb4.mono B3.out.size)); have T4 := Lib.hid (T3.out.below hb4 T3.out.lt); have C4 := Lib.hid (C3.out.below hb4 C3.out.lt); have A4 := Lib.hid (A3.out.below hb4 A3.out.lt); clear hb4 g0 g1 g2 g3 g4; have f0 := C4.out.c0; have f1 := C4.out.c1; have f2 := C4.out.c2)
    | (go_at_call 60; refine (ccheck ⟨kind, num, name⟩ _ HC.out).mono ?_; rw [HCE.out]; rintro e w5 ⟨rfl, hb5⟩; have B5 := Lib.hid (B4.out.trans (hb5.mono B4.out.size)); have T5 := Lib.hid (T4.out.below hb5 T4.out.lt); have A5 := Lib.hid (A4.out.below hb5 A4.out.lt); clear hb5 f0 f1 f2; obtain ⟨g0, g1, g2, g3, g4⟩ := T5.out.t5)
    | ((with_reducible refine build_row (o := ⟨some 15, _, _, _, _, _⟩) rfl _ _ rfl [.int .i64 0, .int .i64 0, .int .i64 0, .slice none 0 0, .string ⟨#[]⟩] ?_ ?_); (focus (go_simp; exact built_none)))
    | ((with_reducible refine store_row (o := ⟨none, _, _, _, _, _⟩) rfl _ (.tmp 4) _ rfl w2.heap.size [.int .i64 0, .int .i64 0, .int .i64 0, .slice none 0 0, .string ⟨#[]⟩] ?_ ?_ 25 _ A5.out ?_ ?_ ?_ ?_); (focus go_simp); (focus go_simp); (focus (exact TS.out)); (focus rfl); (focus (exact tok_one _ _ _ _ _ _ _)); intro w6 hr6 hu6; have A6 := Lib.hid hr6; have B6 := Lib.hid (B5.out.trans (hu6.below B2.out.size)); clear hr6 hu6))
  exact bodyPost_ret (results_row_tmp rfl _ _ w2.heap.size 25 _ _ _ (by go_simp) A6.out Tryd.underlying25 rfl TS.out) rfl ⟨rfl, B6.out⟩

set_option maxRecDepth 100000 in
set_option maxHeartbeats 1000000 in
theorem weaker_full (lane id epoch : Int) (a : Option Addr) (len cap : Nat) (L : List Cv) (tag : ByteArray) (kind num : Int) (name : ByteArray) (w : World) (h : Cvs w a len cap L) (hc : Cv.fit ⟨kind, num, name⟩)
    (hok : tokOk lane id epoch L tag = true) (hcok : Cv.ok ⟨kind, num, name⟩ = true) (h8 : len = 8) :
    Calls Tryd.prog 31 #[.agg #[.int .i64 lane, .int .i64 id, .int .i64 epoch, .slice a len cap, .string tag], .agg #[.int .i64 kind, .int .i64 num, .string name]] w
      fun e w' => e = .returned (.tuple #[.agg (tokC 0 0 0 (.slice none 0 0) ⟨#[]⟩).toArray, .int .i64 7]) ∧ Below w.heap.size w w' := by
  have H := Lib.hid h
  have HC := Lib.hid hc
  have TZ := Lib.hid tok_zero
  have TS := Lib.hid tok_size
  have HE := Lib.hid (tokErr_ok hok)
  have HCE := Lib.hid (show Cv.err ⟨kind, num, name⟩ = 0 by unfold Cv.err; rw [hcok]; rfl)
  clear h hc hok hcok
  subst h8
  go_enter Tryd.func31, Tryd.ntmps31
  go_wp2_with (first
    | ((with_reducible refine box_row (o := ⟨some 2, _, _, _, _, _⟩) rfl _ _ rfl [.int .i64 lane, .int .i64 id, .int .i64 epoch, .slice a 8 cap, .string tag] rfl ?_); intro w1 hr1 hb1 hz1; have T1 := Lib.hid hr1; have B1 := Lib.hid hb1; clear hr1 hb1 hz1)
    | ((with_reducible refine box_row (o := ⟨some 3, _, _, _, _, _⟩) rfl _ _ rfl [.int .i64 kind, .int .i64 num, .string name] rfl ?_); intro w2 hr2 hb2 hz2; have C2 := Lib.hid hr2; have T2 := Lib.hid (T1.out.below hb2 T1.out.lt); have B2 := Lib.hid (B1.out.trans (hb2.mono B1.out.size)); clear hr2 hb2 hz2)
    | ((with_reducible refine alloc_row (o := ⟨some 4, _, _, _, _, _⟩) rfl _ rfl _ TZ.out ?_); intro w3 hr3 hb3 hz3; have A3 := Lib.hid hr3; have T3 := Lib.hid (T2.out.below hb3 T2.out.lt); have C3 := Lib.hid (C2.out.below hb3 C2.out.lt); have B3 := Lib.hid (B2.out.trans (hb3.mono B2.out.size)); clear hr3 hb3 hz3; obtain ⟨g0, g1, g2, g3, g4⟩ := T3.out.t5)
    | (go_at_call 35; refine (tkcheck_any lane id epoch a 8 cap L tag w3 (H.out.mono B3.out)).mono ?_; rw [HE.out]; rintro e w4 ⟨rfl, hb4⟩; have B4 := Lib.hid (B3.out.trans (hb4.mono B3.out.size)); have T4 := Lib.hid (T3.out.below hb4 T3.out.lt); have C4 := Lib.hid (C3.out.below hb4 C3.out.lt); have A4 := Lib.hid (A3.out.below hb4 A3.out.lt); clear hb4 g0 g1 g2 g3 g4; have f0 := C4.out.c0; have f1 := C4.out.c1; have f2 := C4.out.c2)
    | (go_at_call 60; refine (ccheck ⟨kind, num, name⟩ _ HC.out).mono ?_; rw [HCE.out]; rintro e w5 ⟨rfl, hb5⟩; have B5 := Lib.hid (B4.out.trans (hb5.mono B4.out.size)); have T5 := Lib.hid (T4.out.below hb5 T4.out.lt); have A5 := Lib.hid (A4.out.below hb5 A4.out.lt); clear hb5 f0 f1 f2; obtain ⟨g0, g1, g2, g3, g4⟩ := T5.out.t5)
    | ((with_reducible refine build_row (o := ⟨some 20, _, _, _, _, _⟩) rfl _ _ rfl [.int .i64 0, .int .i64 0, .int .i64 0, .slice none 0 0, .string ⟨#[]⟩] ?_ ?_); (focus (go_simp; exact built_none)))
    | ((with_reducible refine store_row (o := ⟨none, _, _, _, _, _⟩) rfl _ (.tmp 4) _ rfl w2.heap.size [.int .i64 0, .int .i64 0, .int .i64 0, .slice none 0 0, .string ⟨#[]⟩] ?_ ?_ 25 _ A5.out ?_ ?_ ?_ ?_); (focus go_simp); (focus go_simp); (focus (exact TS.out)); (focus rfl); (focus (exact tok_one _ _ _ _ _ _ _)); intro w6 hr6 hu6; have A6 := Lib.hid hr6; have B6 := Lib.hid (B5.out.trans (hu6.below B2.out.size)); clear hr6 hu6))
  exact bodyPost_ret (results_row_tmp rfl _ _ w2.heap.size 25 _ _ _ (by go_simp) A6.out Tryd.underlying25 rfl TS.out) rfl ⟨rfl, B6.out⟩

end Go.Proofs.YtlclkikbocbenaaDoor.W
