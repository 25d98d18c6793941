/- LAYER 20 (manifest): slices.Sort, slices.Compact of strings by the shelf's contracts. -/
import Derived.Test.YtphlkdfcngdlnaaGreatMfH
import Derived.Shelf.Sort.Plain
import Derived.Shelf.Slices.In.SortNone
import Derived.Shelf.Slices.CompactS
import Derived.Sort.OwnSorted
import Derived.Lib.OwnBridge
set_option linter.unusedSimpArgs false
set_option linter.unusedVariables false
namespace Go.Proofs.YtphlkdfcngdlnaaGreat.W
open Go Go.ChangeShapes Go.WideShapes Go.ChangeAt Go.RowKit
open Go.Sort

def laysSort_ren : Go.Shelf.Ren := ⟨fun | 190 => 60 | 125 => 82 | 258 => 81 | 128 => 103 | 129 => 104 | 302 => 94 | 303 => 95 | 304 => 96 | 305 => 97 | 306 => 98 | 307 => 99 | 308 => 100 | 309 => 101 | 310 => 102 | 333 => 106 | 329 => 107 | 330 => 108 | 334 => 109 | 335 => 110 | 336 => 92 | 344 => 111 | n => n, fun | 31 => 50 | 9 => 9 | 3 => 3 | 46 => 98 | 0 => 0 | 51 => 115 | 53 => 117 | 4 => 4 | 183 => 107 | 182 => 106 | 131 => 112 | 5 => 5 | 218 => 119 | 222 => 123 | 228 => 125 | 229 => 126 | n => n, fun | n => n⟩
theorem laysSort : Go.Proofs.Lays.n190 Tryz.prog laysSort_ren := {
  mixed := by kernel_rfl
  f125 := Tryz.func82.trans (congrArg some (by kernel_rfl))
  f128 := Tryz.func103.trans (congrArg some (by kernel_rfl))
  f129 := Tryz.func104.trans (congrArg some (by kernel_rfl))
  f190 := Tryz.func60.trans (congrArg some (by kernel_rfl))
  f258 := Tryz.func81.trans (congrArg some (by kernel_rfl))
  f302 := Tryz.func94.trans (congrArg some (by kernel_rfl))
  f303 := Tryz.func95.trans (congrArg some (by kernel_rfl))
  f304 := Tryz.func96.trans (congrArg some (by kernel_rfl))
  f305 := Tryz.func97.trans (congrArg some (by kernel_rfl))
  f306 := Tryz.func98.trans (congrArg some (by kernel_rfl))
  f307 := Tryz.func99.trans (congrArg some (by kernel_rfl))
  f308 := Tryz.func100.trans (congrArg some (by kernel_rfl))
  f309 := Tryz.func101.trans (congrArg some (by kernel_rfl))
  f310 := Tryz.func102.trans (congrArg some (by kernel_rfl))
  f329 := Tryz.func107.trans (congrArg some (by kernel_rfl))
  f330 := Tryz.func108.trans (congrArg some (by kernel_rfl))
  f333 := Tryz.func106.trans (congrArg some (by kernel_rfl))
  f334 := Tryz.func109.trans (congrArg some (by kernel_rfl))
  f335 := Tryz.func110.trans (congrArg some (by kernel_rfl))
  f336 := Tryz.func92.trans (congrArg some (by kernel_rfl))
  f344 := Tryz.func111.trans (congrArg some (by kernel_rfl))
  t0 := Tryz.underlying0
  a0 := Tryz.isAgg0
  z0 := Tryz.sizeOf0
  v0 := Tryz.zeroValue0
  t3 := Tryz.underlying3
  a3 := Tryz.isAgg3
  z3 := Tryz.sizeOf3
  v3 := Tryz.zeroValue3
  t4 := Tryz.underlying4
  a4 := Tryz.isAgg4
  z4 := Tryz.sizeOf4
  v4 := Tryz.zeroValue4
  t5 := Tryz.underlying5
  a5 := Tryz.isAgg5
  z5 := Tryz.sizeOf5
  v5 := Tryz.zeroValue5
  t9 := Tryz.underlying9
  a9 := Tryz.isAgg9
  z9 := Tryz.sizeOf9
  v9 := Tryz.zeroValue9
  t31 := Tryz.underlying50
  a31 := Tryz.isAgg50
  z31 := Tryz.sizeOf50
  v31 := Tryz.zeroValue50
  t46 := Tryz.underlying98
  a46 := Tryz.isAgg98
  z46 := Tryz.sizeOf98
  v46 := Tryz.zeroValue98
  t51 := Tryz.underlying115
  a51 := Tryz.isAgg115
  z51 := Tryz.sizeOf115
  v51 := Tryz.zeroValue115
  t53 := Tryz.underlying117
  a53 := Tryz.isAgg117
  z53 := Tryz.sizeOf117
  v53 := Tryz.zeroValue117
  t131 := Tryz.underlying112
  a131 := Tryz.isAgg112
  z131 := Tryz.sizeOf112
  v131 := Tryz.zeroValue112
  t182 := Tryz.underlying106
  a182 := Tryz.isAgg106
  z182 := Tryz.sizeOf106
  v182 := Tryz.zeroValue106
  t183 := Tryz.underlying107
  a183 := Tryz.isAgg107
  z183 := Tryz.sizeOf107
  v183 := Tryz.zeroValue107
  t218 := Tryz.underlying119
  a218 := Tryz.isAgg119
  z218 := Tryz.sizeOf119
  v218 := Tryz.zeroValue119
  t222 := Tryz.underlying123
  a222 := Tryz.isAgg123
  z222 := Tryz.sizeOf123
  v222 := Tryz.zeroValue123
  t228 := Tryz.underlying125
  a228 := Tryz.isAgg125
  z228 := Tryz.sizeOf125
  v228 := Tryz.zeroValue125
  t229 := Tryz.underlying126
  a229 := Tryz.isAgg126
  z229 := Tryz.sizeOf126
  v229 := Tryz.zeroValue126 }
def laysCompact_ren : Go.Shelf.Ren := ⟨fun | 194 => 61 | n => n, fun | 31 => 50 | 9 => 9 | 3 => 3 | 4 => 4 | 0 => 0 | n => n, fun | n => n⟩
theorem laysCompact : Go.Proofs.Lays.n194 Tryz.prog laysCompact_ren := {
  mixed := by kernel_rfl
  f194 := Tryz.func61.trans (congrArg some (by kernel_rfl))
  t0 := Tryz.underlying0
  a0 := Tryz.isAgg0
  z0 := Tryz.sizeOf0
  v0 := Tryz.zeroValue0
  t3 := Tryz.underlying3
  a3 := Tryz.isAgg3
  z3 := Tryz.sizeOf3
  v3 := Tryz.zeroValue3
  t4 := Tryz.underlying4
  a4 := Tryz.isAgg4
  z4 := Tryz.sizeOf4
  v4 := Tryz.zeroValue4
  t9 := Tryz.underlying9
  a9 := Tryz.isAgg9
  z9 := Tryz.sizeOf9
  v9 := Tryz.zeroValue9
  t31 := Tryz.underlying50
  a31 := Tryz.isAgg50
  z31 := Tryz.sizeOf50
  v31 := Tryz.zeroValue50 }

theorem flat_str (ss : List (List UInt8)) : flatE strE (ofL ss) = ss.map encStr := by
  unfold flatE ofL
  induction ss with
  | nil => rfl
  | cons s ss ih => rw [List.map_cons, List.flatMap_cons, ih]; rfl
theorem flat_str2 (L : List ByteArray) : flatE strE L = (byL L).map encStr := by rw [← flat_str, ofL_byL]
theorem psort : SortP 60 := by
  intro base v L w h hl hb
  obtain ⟨h1, h2⟩ := h
  rcases h2 with ⟨rfl, h0⟩ | ⟨g, cap, cur, rfl, hg, hh, hle, hm, hsz, ht⟩
  · have : L = [] := List.eq_nil_of_length_eq_zero h0
    subst this
    refine (Any.slices_Sort_string_none laysSort none 0 w).mono ?_
    rintro x w' ⟨rfl, hw⟩
    subst hw
    rw [show sortM [] = [] from List.eq_nil_of_length_eq_zero (by rw [sortM_len]; rfl)]
    exact ⟨rfl, LsO.nil _ _, (Below.refl _ _).mono hb⟩
  · have hlen := byL_len L
    have hH : Holds encStr w g 0 (byL L).toArray := holds_of_block hh (by rw [hlen, ← flat_str2, ← ht]; simp)
    have hlt : g < w.heap.size := (Array.getElem?_eq_some_iff.1 hh).1
    have h3 := Any.slices_Sort_string laysSort g 0 cap (byL L) w hH hlt (by rw [hlen]; omega)
    rw [hlen] at h3
    refine h3.mono ?_
    rintro x w' ⟨rfl, n, os, rfl⟩
    refine ⟨rfl, ?_, (Below.refl _ _ |>.mono hb).grown (grownBy_sorted _) hb (fun j hj => by cases hj; exact hg)⟩
    have h4 := ownsRow_sorted (n := n) (os := os) (ts := (byL L).mergeSort fun x y => decide (x ≤ y)) (List.length_mergeSort _) hg hh (by rw [hlen]; exact hle) hm (by simpa using hsz)
    rw [hlen] at h4
    unfold LsO
    rw [sortM_len]
    unfold sortM
    rw [flat_str]
    exact h4
theorem pcompact : CompP 61 := by
  intro base v L w h hl hb
  obtain ⟨h1, h2⟩ := id h
  rcases h2 with ⟨rfl, h0⟩ | ⟨g, cap, cur, rfl, hg, hh, hle, hm, hsz, ht⟩
  · have : L = [] := List.eq_nil_of_length_eq_zero h0
    subst this
    refine (Any.slices_Compact_string_empty laysCompact none 0 w).mono ?_
    rintro x w' ⟨rfl, hw⟩
    subst hw
    rw [show compactM [] = [] from rfl]
    exact ⟨_, rfl, LsO.nil _ _, (Below.refl _ _).mono hb⟩
  · have hlen := byL_len L
    have hH : Holds encStr w g 0 (byL L).toArray := holds_of_block hh (by rw [hlen, ← flat_str2, ← ht]; simp)
    have hm' : cap ≤ 9223372036854775807 := by unfold maxLen at hm; omega
    have h3 := Any.slices_Compact_string laysCompact g 0 cap (byL L) w hH (by rw [hlen]; omega) (by rw [hlen]; exact hle)
    rw [hlen] at h3
    have hcl := Lib.compact_length_le (byL L)
    refine h3.mono ?_
    rintro x w' ⟨rfl, q, rfl⟩
    refine ⟨_, rfl, ?_, Lib.below_putRow (Below.refl _ _ |>.mono hb) hg⟩
    have h4 := Lib.ownsRow_putRow (q := q) (k := (Lib.compact (byL L)).length) (ys := Lib.compact (byL L) ++ List.replicate (L.length - (Lib.compact (byL L)).length) []) (zs := byL L) (enc := encStr) (w := w) (base := base) (e := 9) (g := g) (n := L.length) (cap := cap) (by have h5 := h; unfold LsO at h5; rw [flat_str2] at h5; exact h5) (by simp; omega) (by omega)
    rw [List.take_left] at h4
    unfold LsO compactM
    rw [flat_str, ofL_len]
    exact h4
end Go.Proofs.YtphlkdfcngdlnaaGreat.W
