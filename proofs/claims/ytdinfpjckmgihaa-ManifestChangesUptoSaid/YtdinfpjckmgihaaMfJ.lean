/- LAYER 20 (manifest): slices.Sort, slices.Compact of strings by the shelf's contracts. -/
import Derived.Test.YtdinfpjckmgihaaMfI
import Derived.Shelf.Sort.Plain
import Derived.Shelf.Slices.In.SortNone
import Derived.Shelf.Slices.CompactS
import Derived.Sort.OwnSorted
import Derived.Lib.OwnBridge
set_option linter.unusedSimpArgs false
set_option linter.unusedVariables false
namespace Go.Proofs.Ytdinfpjckmgihaa.W
open Go Go.ChangeShapes Go.WideShapes Go.ChangeAt Go.RowKit
open Go.Sort

def laysSort_ren : Go.Shelf.Ren := ⟨fun | 190 => 53 | 125 => 78 | 258 => 77 | 128 => 103 | 129 => 104 | 302 => 94 | 303 => 95 | 304 => 96 | 305 => 97 | 306 => 98 | 307 => 99 | 308 => 100 | 309 => 101 | 310 => 102 | 333 => 106 | 329 => 107 | 330 => 108 | 334 => 109 | 335 => 110 | 336 => 82 | 344 => 111 | n => n, fun | 31 => 45 | 9 => 9 | 3 => 3 | 46 => 93 | 0 => 0 | 51 => 114 | 53 => 116 | 4 => 4 | 183 => 106 | 182 => 105 | 131 => 111 | 5 => 5 | 218 => 118 | 222 => 122 | 228 => 124 | 229 => 125 | n => n, fun | n => n⟩
theorem laysSort : Go.Proofs.Lays.n190 Try.prog laysSort_ren := {
  mixed := by kernel_rfl
  f125 := Try.func78.trans (congrArg some (by kernel_rfl))
  f128 := Try.func103.trans (congrArg some (by kernel_rfl))
  f129 := Try.func104.trans (congrArg some (by kernel_rfl))
  f190 := Try.func53.trans (congrArg some (by kernel_rfl))
  f258 := Try.func77.trans (congrArg some (by kernel_rfl))
  f302 := Try.func94.trans (congrArg some (by kernel_rfl))
  f303 := Try.func95.trans (congrArg some (by kernel_rfl))
  f304 := Try.func96.trans (congrArg some (by kernel_rfl))
  f305 := Try.func97.trans (congrArg some (by kernel_rfl))
  f306 := Try.func98.trans (congrArg some (by kernel_rfl))
  f307 := Try.func99.trans (congrArg some (by kernel_rfl))
  f308 := Try.func100.trans (congrArg some (by kernel_rfl))
  f309 := Try.func101.trans (congrArg some (by kernel_rfl))
  f310 := Try.func102.trans (congrArg some (by kernel_rfl))
  f329 := Try.func107.trans (congrArg some (by kernel_rfl))
  f330 := Try.func108.trans (congrArg some (by kernel_rfl))
  f333 := Try.func106.trans (congrArg some (by kernel_rfl))
  f334 := Try.func109.trans (congrArg some (by kernel_rfl))
  f335 := Try.func110.trans (congrArg some (by kernel_rfl))
  f336 := Try.func82.trans (congrArg some (by kernel_rfl))
  f344 := Try.func111.trans (congrArg some (by kernel_rfl))
  t0 := Try.underlying0
  a0 := Try.isAgg0
  z0 := Try.sizeOf0
  v0 := Try.zeroValue0
  t3 := Try.underlying3
  a3 := Try.isAgg3
  z3 := Try.sizeOf3
  v3 := Try.zeroValue3
  t4 := Try.underlying4
  a4 := Try.isAgg4
  z4 := Try.sizeOf4
  v4 := Try.zeroValue4
  t5 := Try.underlying5
  a5 := Try.isAgg5
  z5 := Try.sizeOf5
  v5 := Try.zeroValue5
  t9 := Try.underlying9
  a9 := Try.isAgg9
  z9 := Try.sizeOf9
  v9 := Try.zeroValue9
  t31 := Try.underlying45
  a31 := Try.isAgg45
  z31 := Try.sizeOf45
  v31 := Try.zeroValue45
  t46 := Try.underlying93
  a46 := Try.isAgg93
  z46 := Try.sizeOf93
  v46 := Try.zeroValue93
  t51 := Try.underlying114
  a51 := Try.isAgg114
  z51 := Try.sizeOf114
  v51 := Try.zeroValue114
  t53 := Try.underlying116
  a53 := Try.isAgg116
  z53 := Try.sizeOf116
  v53 := Try.zeroValue116
  t131 := Try.underlying111
  a131 := Try.isAgg111
  z131 := Try.sizeOf111
  v131 := Try.zeroValue111
  t182 := Try.underlying105
  a182 := Try.isAgg105
  z182 := Try.sizeOf105
  v182 := Try.zeroValue105
  t183 := Try.underlying106
  a183 := Try.isAgg106
  z183 := Try.sizeOf106
  v183 := Try.zeroValue106
  t218 := Try.underlying118
  a218 := Try.isAgg118
  z218 := Try.sizeOf118
  v218 := Try.zeroValue118
  t222 := Try.underlying122
  a222 := Try.isAgg122
  z222 := Try.sizeOf122
  v222 := Try.zeroValue122
  t228 := Try.underlying124
  a228 := Try.isAgg124
  z228 := Try.sizeOf124
  v228 := Try.zeroValue124
  t229 := Try.underlying125
  a229 := Try.isAgg125
  z229 := Try.sizeOf125
  v229 := Try.zeroValue125 }
def laysCompact_ren : Go.Shelf.Ren := ⟨fun | 194 => 54 | n => n, fun | 31 => 45 | 9 => 9 | 3 => 3 | 4 => 4 | 0 => 0 | n => n, fun | n => n⟩
theorem laysCompact : Go.Proofs.Lays.n194 Try.prog laysCompact_ren := {
  mixed := by kernel_rfl
  f194 := Try.func54.trans (congrArg some (by kernel_rfl))
  t0 := Try.underlying0
  a0 := Try.isAgg0
  z0 := Try.sizeOf0
  v0 := Try.zeroValue0
  t3 := Try.underlying3
  a3 := Try.isAgg3
  z3 := Try.sizeOf3
  v3 := Try.zeroValue3
  t4 := Try.underlying4
  a4 := Try.isAgg4
  z4 := Try.sizeOf4
  v4 := Try.zeroValue4
  t9 := Try.underlying9
  a9 := Try.isAgg9
  z9 := Try.sizeOf9
  v9 := Try.zeroValue9
  t31 := Try.underlying45
  a31 := Try.isAgg45
  z31 := Try.sizeOf45
  v31 := Try.zeroValue45 }

theorem flat_str (ss : List (List UInt8)) : flatE strE (ofL ss) = ss.map encStr := by
  unfold flatE ofL
  induction ss with
  | nil => rfl
  | cons s ss ih => rw [List.map_cons, List.flatMap_cons, ih]; rfl
theorem flat_str2 (L : List ByteArray) : flatE strE L = (byL L).map encStr := by rw [← flat_str, ofL_byL]
theorem psort : SortP 53 := by
  intro base v L w h hl hb
  obtain ⟨h1, h2⟩ := h
  rcases h2 with ⟨rfl, h0⟩ | ⟨g, cap, cur, rfl, hg, hh, hle, hm, hsz, ht⟩
  · have : L = [] := List.eq_nil_of_length_eq_zero h0
    subst this
    refine (Any.slices_Sort_string_none laysSort none 0 w).mono ?_
    rintro x w' ⟨rfl, hw⟩
    subst hw
    rw [show sortM [] = [] from List.eq_nil_of_length_eq_zero (by rw [sortM_len]; rfl)]
    exact ⟨rfl, LsO.nil _ _, (Below.refl _ _).mono hb⟩
  · have hlen := byL_len L
    have hH : Holds encStr w g 0 (byL L).toArray := holds_of_block hh (by rw [hlen, ← flat_str2, ← ht]; simp)
    have hlt : g < w.heap.size := (Array.getElem?_eq_some_iff.1 hh).1
    have h3 := Any.slices_Sort_string laysSort g 0 cap (byL L) w hH hlt (by rw [hlen]; omega)
    rw [hlen] at h3
    refine h3.mono ?_
    rintro x w' ⟨rfl, n, os, rfl⟩
    refine ⟨rfl, ?_, (Below.refl _ _ |>.mono hb).grown (grownBy_sorted _) hb (fun j hj => by cases hj; exact hg)⟩
    have h4 := ownsRow_sorted (n := n) (os := os) (ts := (byL L).mergeSort fun x y => decide (x ≤ y)) (List.length_mergeSort _) hg hh (by rw [hlen]; exact hle) hm (by simpa using hsz)
    rw [hlen] at h4
    unfold LsO
    rw [sortM_len]
    unfold sortM
    rw [flat_str]
    exact h4
theorem pcompact : CompP 54 := by
  intro base v L w h hl hb
  obtain ⟨h1, h2⟩ := id h
  rcases h2 with ⟨rfl, h0⟩ | ⟨g, cap, cur, rfl, hg, hh, hle, hm, hsz, ht⟩
  · have : L = [] := List.eq_nil_of_length_eq_zero h0
    subst this
    refine (Any.slices_Compact_string_empty laysCompact none 0 w).mono ?_
    rintro x w' ⟨rfl, hw⟩
    subst hw
    rw [show compactM [] = [] from rfl]
    exact ⟨_, rfl, LsO.nil _ _, (Below.refl _ _).mono hb⟩
  · have hlen := byL_len L
    have hH : Holds encStr w g 0 (byL L).toArray := holds_of_block hh (by rw [hlen, ← flat_str2, ← ht]; simp)
    have hm' : cap ≤ 9223372036854775807 := by unfold maxLen at hm; omega
    have h3 := Any.slices_Compact_string laysCompact g 0 cap (byL L) w hH (by rw [hlen]; omega) (by rw [hlen]; exact hle)
    rw [hlen] at h3
    have hcl := Lib.compact_length_le (byL L)
    refine h3.mono ?_
    rintro x w' ⟨rfl, q, rfl⟩
    refine ⟨_, rfl, ?_, Lib.below_putRow (Below.refl _ _ |>.mono hb) hg⟩
    have h4 := Lib.ownsRow_putRow (q := q) (k := (Lib.compact (byL L)).length) (ys := Lib.compact (byL L) ++ List.replicate (L.length - (Lib.compact (byL L)).length) []) (zs := byL L) (enc := encStr) (w := w) (base := base) (e := 9) (g := g) (n := L.length) (cap := cap) (by have h5 := h; unfold LsO at h5; rw [flat_str2] at h5; exact h5) (by simp; omega) (by omega)
    rw [List.take_left] at h4
    unfold LsO compactM
    rw [flat_str, ofL_len]
    exact h4
end Go.Proofs.Ytdinfpjckmgihaa.W
