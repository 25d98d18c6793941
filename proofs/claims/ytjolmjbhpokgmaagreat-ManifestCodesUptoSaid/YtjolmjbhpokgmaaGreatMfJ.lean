/- LAYER 20 (manifest): slices.Sort, slices.Compact of strings by the shelf's contracts. -/
import Derived.Test.YtjolmjbhpokgmaaGreatMfH
import Derived.Shelf.Sort.Plain
import Derived.Shelf.Slices.In.SortNone
import Derived.Shelf.Slices.CompactS
import Derived.Sort.OwnSorted
import Derived.Lib.OwnBridge
set_option linter.unusedSimpArgs false
set_option linter.unusedVariables false
namespace Go.Proofs.YtjolmjbhpokgmaaGreat.W
open Go Go.ChangeShapes Go.WideShapes Go.ChangeAt Go.RowKit
open Go.Sort

def laysSort_ren : Go.Shelf.Ren := ⟨fun | 190 => 59 | 125 => 81 | 258 => 80 | 128 => 102 | 129 => 103 | 302 => 93 | 303 => 94 | 304 => 95 | 305 => 96 | 306 => 97 | 307 => 98 | 308 => 99 | 309 => 100 | 310 => 101 | 333 => 104 | 329 => 105 | 330 => 106 | 334 => 107 | 335 => 108 | 336 => 92 | 344 => 109 | n => n, fun | 31 => 50 | 9 => 9 | 3 => 3 | 46 => 98 | 0 => 0 | 51 => 117 | 53 => 119 | 4 => 4 | 183 => 109 | 182 => 108 | 131 => 114 | 5 => 5 | 218 => 120 | 222 => 124 | 228 => 126 | 229 => 127 | n => n, fun | n => n⟩
theorem laysSort : Go.Proofs.Lays.n190 Tryz.prog laysSort_ren := {
  mixed := by kernel_rfl
  f125 := Tryz.func81.trans (congrArg some (by kernel_rfl))
  f128 := Tryz.func102.trans (congrArg some (by kernel_rfl))
  f129 := Tryz.func103.trans (congrArg some (by kernel_rfl))
  f190 := Tryz.func59.trans (congrArg some (by kernel_rfl))
  f258 := Tryz.func80.trans (congrArg some (by kernel_rfl))
  f302 := Tryz.func93.trans (congrArg some (by kernel_rfl))
  f303 := Tryz.func94.trans (congrArg some (by kernel_rfl))
  f304 := Tryz.func95.trans (congrArg some (by kernel_rfl))
  f305 := Tryz.func96.trans (congrArg some (by kernel_rfl))
  f306 := Tryz.func97.trans (congrArg some (by kernel_rfl))
  f307 := Tryz.func98.trans (congrArg some (by kernel_rfl))
  f308 := Tryz.func99.trans (congrArg some (by kernel_rfl))
  f309 := Tryz.func100.trans (congrArg some (by kernel_rfl))
  f310 := Tryz.func101.trans (congrArg some (by kernel_rfl))
  f329 := Tryz.func105.trans (congrArg some (by kernel_rfl))
  f330 := Tryz.func106.trans (congrArg some (by kernel_rfl))
  f333 := Tryz.func104.trans (congrArg some (by kernel_rfl))
  f334 := Tryz.func107.trans (congrArg some (by kernel_rfl))
  f335 := Tryz.func108.trans (congrArg some (by kernel_rfl))
  f336 := Tryz.func92.trans (congrArg some (by kernel_rfl))
  f344 := Tryz.func109.trans (congrArg some (by kernel_rfl))
  t0 := Tryz.underlying0
  a0 := Tryz.isAgg0
  z0 := Tryz.sizeOf0
  v0 := Tryz.zeroValue0
  t3 := Tryz.underlying3
  a3 := Tryz.isAgg3
  z3 := Tryz.sizeOf3
  v3 := Tryz.zeroValue3
  t4 := Tryz.underlying4
  a4 := Tryz.isAgg4
  z4 := Tryz.sizeOf4
  v4 := Tryz.zeroValue4
  t5 := Tryz.underlying5
  a5 := Tryz.isAgg5
  z5 := Tryz.sizeOf5
  v5 := Tryz.zeroValue5
  t9 := Tryz.underlying9
  a9 := Tryz.isAgg9
  z9 := Tryz.sizeOf9
  v9 := Tryz.zeroValue9
  t31 := Tryz.underlying50
  a31 := Tryz.isAgg50
  z31 := Tryz.sizeOf50
  v31 := Tryz.zeroValue50
  t46 := Tryz.underlying98
  a46 := Tryz.isAgg98
  z46 := Tryz.sizeOf98
  v46 := Tryz.zeroValue98
  t51 := Tryz.underlying117
  a51 := Tryz.isAgg117
  z51 := Tryz.sizeOf117
  v51 := Tryz.zeroValue117
  t53 := Tryz.underlying119
  a53 := Tryz.isAgg119
  z53 := Tryz.sizeOf119
  v53 := Tryz.zeroValue119
  t131 := Tryz.underlying114
  a131 := Tryz.isAgg114
  z131 := Tryz.sizeOf114
  v131 := Tryz.zeroValue114
  t182 := Tryz.underlying108
  a182 := Tryz.isAgg108
  z182 := Tryz.sizeOf108
  v182 := Tryz.zeroValue108
  t183 := Tryz.underlying109
  a183 := Tryz.isAgg109
  z183 := Tryz.sizeOf109
  v183 := Tryz.zeroValue109
  t218 := Tryz.underlying120
  a218 := Tryz.isAgg120
  z218 := Tryz.sizeOf120
  v218 := Tryz.zeroValue120
  t222 := Tryz.underlying124
  a222 := Tryz.isAgg124
  z222 := Tryz.sizeOf124
  v222 := Tryz.zeroValue124
  t228 := Tryz.underlying126
  a228 := Tryz.isAgg126
  z228 := Tryz.sizeOf126
  v228 := Tryz.zeroValue126
  t229 := Tryz.underlying127
  a229 := Tryz.isAgg127
  z229 := Tryz.sizeOf127
  v229 := Tryz.zeroValue127 }
def laysCompact_ren : Go.Shelf.Ren := ⟨fun | 194 => 60 | n => n, fun | 31 => 50 | 9 => 9 | 3 => 3 | 4 => 4 | 0 => 0 | n => n, fun | n => n⟩
theorem laysCompact : Go.Proofs.Lays.n194 Tryz.prog laysCompact_ren := {
  mixed := by kernel_rfl
  f194 := Tryz.func60.trans (congrArg some (by kernel_rfl))
  t0 := Tryz.underlying0
  a0 := Tryz.isAgg0
  z0 := Tryz.sizeOf0
  v0 := Tryz.zeroValue0
  t3 := Tryz.underlying3
  a3 := Tryz.isAgg3
  z3 := Tryz.sizeOf3
  v3 := Tryz.zeroValue3
  t4 := Tryz.underlying4
  a4 := Tryz.isAgg4
  z4 := Tryz.sizeOf4
  v4 := Tryz.zeroValue4
  t9 := Tryz.underlying9
  a9 := Tryz.isAgg9
  z9 := Tryz.sizeOf9
  v9 := Tryz.zeroValue9
  t31 := Tryz.underlying50
  a31 := Tryz.isAgg50
  z31 := Tryz.sizeOf50
  v31 := Tryz.zeroValue50 }

theorem flat_str (ss : List (List UInt8)) : flatE strE (ofL ss) = ss.map encStr := by
  unfold flatE ofL
  induction ss with
  | nil => rfl
  | cons s ss ih => rw [List.map_cons, List.flatMap_cons, ih]; rfl
theorem flat_str2 (L : List ByteArray) : flatE strE L = (byL L).map encStr := by rw [← flat_str, ofL_byL]
theorem psort : SortP 59 := by
  intro base v L w h hl hb
  obtain ⟨h1, h2⟩ := h
  rcases h2 with ⟨rfl, h0⟩ | ⟨g, cap, cur, rfl, hg, hh, hle, hm, hsz, ht⟩
  · have : L = [] := List.eq_nil_of_length_eq_zero h0
    subst this
    refine (Any.slices_Sort_string_none laysSort none 0 w).mono ?_
    rintro x w' ⟨rfl, hw⟩
    subst hw
    rw [show sortM [] = [] from List.eq_nil_of_length_eq_zero (by rw [sortM_len]; rfl)]
    exact ⟨rfl, LsO.nil _ _, (Below.refl _ _).mono hb⟩
  · have hlen := byL_len L
    have hH : Holds encStr w g 0 (byL L).toArray := holds_of_block hh (by rw [hlen, ← flat_str2, ← ht]; simp)
    have hlt : g < w.heap.size := (Array.getElem?_eq_some_iff.1 hh).1
    have h3 := Any.slices_Sort_string laysSort g 0 cap (byL L) w hH hlt (by rw [hlen]; omega)
    rw [hlen] at h3
    refine h3.mono ?_
    rintro x w' ⟨rfl, n, os, rfl⟩
    refine ⟨rfl, ?_, (Below.refl _ _ |>.mono hb).grown (grownBy_sorted _) hb (fun j hj => by cases hj; exact hg)⟩
    have h4 := ownsRow_sorted (n := n) (os := os) (ts := (byL L).mergeSort fun x y => decide (x ≤ y)) (List.length_mergeSort _) hg hh (by rw [hlen]; exact hle) hm (by simpa using hsz)
    rw [hlen] at h4
    unfold LsO
    rw [sortM_len]
    unfold sortM
    rw [flat_str]
    exact h4
theorem pcompact : CompP 60 := by
  intro base v L w h hl hb
  obtain ⟨h1, h2⟩ := id h
  rcases h2 with ⟨rfl, h0⟩ | ⟨g, cap, cur, rfl, hg, hh, hle, hm, hsz, ht⟩
  · have : L = [] := List.eq_nil_of_length_eq_zero h0
    subst this
    refine (Any.slices_Compact_string_empty laysCompact none 0 w).mono ?_
    rintro x w' ⟨rfl, hw⟩
    subst hw
    rw [show compactM [] = [] from rfl]
    exact ⟨_, rfl, LsO.nil _ _, (Below.refl _ _).mono hb⟩
  · have hlen := byL_len L
    have hH : Holds encStr w g 0 (byL L).toArray := holds_of_block hh (by rw [hlen, ← flat_str2, ← ht]; simp)
    have hm' : cap ≤ 9223372036854775807 := by unfold maxLen at hm; omega
    have h3 := Any.slices_Compact_string laysCompact g 0 cap (byL L) w hH (by rw [hlen]; omega) (by rw [hlen]; exact hle)
    rw [hlen] at h3
    have hcl := Lib.compact_length_le (byL L)
    refine h3.mono ?_
    rintro x w' ⟨rfl, q, rfl⟩
    refine ⟨_, rfl, ?_, Lib.below_putRow (Below.refl _ _ |>.mono hb) hg⟩
    have h4 := Lib.ownsRow_putRow (q := q) (k := (Lib.compact (byL L)).length) (ys := Lib.compact (byL L) ++ List.replicate (L.length - (Lib.compact (byL L)).length) []) (zs := byL L) (enc := encStr) (w := w) (base := base) (e := 9) (g := g) (n := L.length) (cap := cap) (by have h5 := h; unfold LsO at h5; rw [flat_str2] at h5; exact h5) (by simp; omega) (by omega)
    rw [List.take_left] at h4
    unfold LsO compactM
    rw [flat_str, ofL_len]
    exact h4
end Go.Proofs.YtjolmjbhpokgmaaGreat.W
