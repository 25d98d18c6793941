/- CONTRACTS of layer 4 (hmac): a key's block, a sum behind it, tags. -/
import Derived.Test.YtagblhkihammdaaDoorShaM
import Derived.Lib.ConvBytes
namespace Go.Proofs.YtagblhkihammdaaDoor.W
open Go.ChangeShapes Go.WideShapes Go.ChangeAt Go.RowKit
open Go.Proofs.YtagblhkihammdaaDoor.P

/-! ### plain: tags -/
def keyL (k : List UInt8) : List UInt8 := if 64 < k.length then shaL k else k
def kbL (k : List UInt8) : List UInt8 := keyL k ++ List.replicate (64 - (keyL k).length) 0
def xorL (x : UInt8) (b : List UInt8) : List UInt8 := b.map (· ^^^ x)
def behindL (b : List UInt8) (x : UInt8) (t : List UInt8) : List UInt8 := shaL (xorL x b ++ t)
def tagL (k t : List UInt8) : List UInt8 := behindL (kbL k) 92 (behindL (kbL k) 54 t)
theorem keyL_le (k : List UInt8) : (keyL k).length ≤ 64 := by
  unfold keyL; split
  · rw [shaL_len]; omega
  · omega
theorem kbL_len (k : List UInt8) : (kbL k).length = 64 := by
  have := keyL_le k
  simp [kbL]; omega
theorem xorL_len (x : UInt8) (b : List UInt8) : (xorL x b).length = b.length := by simp [xorL]
theorem tagL_len (k t : List UInt8) : (tagL k t).length = 32 := shaL_len _
/-- zeros behind a key, up to 64, are its block's own -/
theorem kbL_pad (k : List UInt8) (n : Nat) (h : k.length + n ≤ 64) : kbL (k ++ List.replicate n 0) = kbL k := by
  unfold kbL keyL
  rw [if_neg (by simp; omega), if_neg (by omega), List.append_assoc, List.replicate_append_replicate]
  congr 2
  simp; omega
theorem tagL_pad (k t : List UInt8) (n : Nat) (h : k.length + n ≤ 64) : tagL (k ++ List.replicate n 0) t = tagL k t := by
  unfold tagL; rw [kbL_pad k n h]

/-! ### memory -/
theorem conv_new (w : World) (s : ByteArray) (h : s.size ≤ maxLen) : ∃ w' c, (Go.convert 9 34 (.string s)).run Tryd.prog w = .ok (.slice (some ⟨w.heap.size, 0, none⟩) s.size c) w' ∧
    Rd w' (some ⟨w.heap.size, 0, none⟩) s.size c s.data.toList ∧ Below w.heap.size w w' ∧ w'.heap.size = w.heap.size + 1 := by
  refine ⟨Lib.bytesWorld w 5 s, grownCap w s.size 0 5, Lib.run_convert_string_bytes w 9 34 5 s Tryd.underlying9 Tryd.underlying34 Tryd.underlying5, ?_, ?_, Lib.bytesWorld_size w _ s⟩
  · refine ⟨by simp, grownCap_ge _ _ _ _, by have := grownCap_le_maxLen w s.size 0 5 h; unfold maxLen at this; omega, (fun h => by cases h), .inr ⟨w.heap.size, 0, rfl, by rw [Lib.bytesWorld_size]; omega, fun i hi => ?_⟩⟩
    rw [Nat.zero_add, Lib.bytesWorld_cell w _ s i hi]
    rfl
  · exact ⟨rfl, rfl, rfl, by rw [Lib.bytesWorld_size]; omega, fun k hk => Lib.bytesWorld_at_old w _ s k hk⟩

/-- CONVERT a string into bytes, in new memory. -/
theorem conv_str {w : World} {ops : Array Oper} {rest : List Oper} {o : Oper} {a : Act} {Q : Exit → Act → World → Prop} (hgd : o.guard = none) (x : Operand)
    (ho : o.op = .convert 9 34 x) (s : ByteArray) (hx : a.eval x = .string s) (hs : s.size ≤ maxLen)
    (h : ∀ w' c, Rd w' (some ⟨w.heap.size, 0, none⟩) s.size c s.data.toList → Below w.heap.size w w' → w'.heap.size = w.heap.size + 1 → wpList Tryd.prog ops Q rest (a.put o.dst (.slice (some ⟨w.heap.size, 0, none⟩) s.size c)) w') :
    wpList Tryd.prog ops Q (o :: rest) a w := by
  obtain ⟨w', c, hrun, hr, hb, hz⟩ := conv_new w s hs
  refine wpList_plain hgd fun K hK => ?_
  unfold Oper.wp
  simp [execOp, ho, hx, hrun, Result.andThen]
  exact hK _ _ (h w' c hr hb hz)

set_option maxRecDepth 100000 in
/-- COPY a string into an array's block. -/
theorem copy_str_row {w : World} {ops : Array Oper} {rest : List Oper} {o : Oper} {a : Act} {Q : Exit → Act → World → Prop} (hgd : o.guard = none) (d s : Operand)
    (ho : o.op = .call { callee := .builtin .copy, args := #[d, s], argTypes := #[34, 9] }) (g off dLen dCap : Nat) (t : ByteArray) (hd : a.eval d = .slice (some ⟨g, off, none⟩) dLen dCap) (hs : a.eval s = .string t)
    (ty : TypeId) (L : List UInt8) (hg : Row w g ty (L.map B)) (hle : t.size ≤ dLen) (hfit : off + t.size ≤ L.length)
    (h : ∀ w', Row w' g ty ((splice L off t.data.toList).map B) → Upd w w' g → wpList Tryd.prog ops Q rest (a.put o.dst (goInt t.size)) w') : wpList Tryd.prog ops Q (o :: rest) a w := by
  have hrun := Lib.run_copy_row_string (P := Tryd.prog) w 34 9 o.type 5 g off dLen dCap t _ _ Tryd.underlying34 infoByte1 hg hle (by simpa using hfit)
  refine wpList_plain hgd fun K hK => ?_
  unfold Oper.wp
  simp [execOp, ho, resolve, invoke, builtin, hd, hs, hrun, Result.andThen]
  refine hK _ _ (h _ ?_ (Upd.setRow _ _ _))
  unfold Row
  rw [setRow_heap w g _ _ _ _ hg]
  congr 2
  simp only [splice, Lib.byteCells, List.map_append, List.map_take, List.map_drop]
  simp
  intro _ _
  rfl

theorem zeroB64' : (Tryd.prog.info? 118).map (·.zero) = some (some (.agg ((List.replicate 64 (0 : UInt8)).map B).toArray)) := by kernel_rfl
theorem splice_key (k : List UInt8) : splice (List.replicate 64 (0 : UInt8)) 0 k = k ++ List.replicate (64 - k.length) 0 := by
  simp only [splice, List.take_zero, List.nil_append, Nat.zero_add, List.drop_replicate]

set_option maxRecDepth 100000 in
set_option maxHeartbeats 4000000 in
theorem key_any (s : ByteArray) (w : World) (hK : Ks w) (hs : s.size ≤ 50000000000000) :
    Calls Tryd.prog 87 #[.string s] w fun e w' => e = .returned (.agg ((kbL s.data.toList).map B).toArray) ∧ Below w.heap.size w w' := by
  obtain ⟨KB, hKB⟩ : ∃ x, kbL s.data.toList = x := ⟨_, rfl⟩
  have hKBl : KB.length = 64 := by rw [← hKB]; exact kbL_len _
  have HKB := Lib.hid hKB
  have HSZ := Lib.hid (show (Tryd.prog.info? 118).map (·.size) = some (KB.map B).length by rw [List.length_map, hKBl]; exact size64b)
  have HOL := Lib.hid (show ((List.replicate 64 (0 : UInt8)).map B).length = (KB.map B).length by rw [List.length_map, List.length_map, hKBl]; rfl)
  have HONE := Lib.hid (B_one KB)
  have HK := Lib.hid hK
  have HSM := Lib.hid (show s.size ≤ maxLen by unfold maxLen; omega)
  have hsl : s.data.toList.length = s.size := by simp
  rw [hKB]
  clear hK hKB hKBl
  by_cases h64 : 64 < s.size
  · have hkey : keyL s.data.toList = shaL s.data.toList := by unfold keyL; rw [if_pos (by rw [hsl]; exact h64)]
    have hspl : splice (List.replicate 64 (0 : UInt8)) 0 (str (shaL s.data.toList)).data.toList = KB := by
      rw [str_data, splice_key, ← HKB.out, kbL, hkey]
    have HSPL := Lib.hid hspl
    obtain ⟨S, hS⟩ : ∃ S, str (shaL s.data.toList) = S := ⟨_, rfl⟩
    have hS32 : S.size = 32 := by rw [← hS, str_size, shaL_len]
    rw [hS] at HSPL
    have HS := Lib.hid hS
    have HS32 := Lib.hid hS32
    have HS64 := Lib.hid (show S.size ≤ 64 ∧ 0 + S.size ≤ (List.replicate 64 (0 : UInt8)).length by rw [hS32]; exact ⟨by decide, by decide⟩)
    clear hkey hspl hS hsl
    go_enter Tryd.func87, Tryd.ntmps87
    go_wp2_with (first
      | (with_reducible refine alloc_row (o := ⟨some 2, _, _, _, _, _⟩) rfl _ rfl _ zeroB64' ?_; intro w1 hr1 hb1 hz1; have HR1 := Lib.hid hr1; clear hr1; have HZ1 := Lib.hid hz1; clear hz1; have HB1 := Lib.hid hb1; clear hb1)
      | (with_reducible refine conv_str rfl _ rfl s rfl HSM.out ?_; intro w2 c2 hr2 hb2 hz2; have HR2 := Lib.hid hr2; have HB2 := Lib.hid (HB1.out.trans (hb2.mono HB1.out.size)); have HRA := Lib.hid (HR1.out.below hb2 HR1.out.lt); clear hr2 hb2 hz2)
      | (go_at_call 110; refine (shasum_any _ _ _ _ _ (HK.out.below HB2.out HK.out.pos) HR2.out (by omega)).mono ?_; rw [HS.out]; rintro e w3 ⟨rfl, hb3⟩; have HB3 := Lib.hid (HB2.out.trans (hb3.mono HB2.out.size)); have HRB := Lib.hid (HRA.out.below hb3 HRA.out.lt); clear hb3)
      | (with_reducible refine alloc_row (o := ⟨some 3, _, _, _, _, _⟩) rfl _ rfl _ zeroB64' ?_; intro w4 hr4 hb4 hz4; have HR4 := Lib.hid hr4; have HRC := Lib.hid (HRB.out.below hb4 HRB.out.lt); have HB4 := Lib.hid (HB3.out.trans (hb4.mono HB3.out.size)); have HNE := Lib.hid (show w.heap.size < w3.heap.size from HRB.out.lt); clear hr4 hb4 hz4)
      | (with_reducible refine copy_str_row (o := ⟨some 12, _, _, _, _, _⟩) rfl _ _ rfl w3.heap.size 0 64 64 S rfl rfl 118 (List.replicate 64 0) HR4.out HS64.out.1 HS64.out.2 ?_; intro w5 hr5 hu5; rw [HSPL.out] at hr5; have HR5 := Lib.hid hr5; have HRD := Lib.hid (HRC.out.upd hu5 (by have := HNE.out; omega)); have HB5 := Lib.hid (HB4.out.trans (hu5.below (Nat.le_of_lt HNE.out))); clear hr5 hu5)
      | (with_reducible refine load_row (o := ⟨some 13, _, _, _, _, _⟩) rfl _ _ rfl _ rfl _ (KB.map B) _ HR5.out Tryd.underlying118 rfl HSZ.out ?_)
      | (with_reducible refine store_row (o := ⟨none, .store 118 _ _, _, _, _, _⟩) rfl _ _ _ rfl _ _ rfl rfl 118 _ HRD.out HSZ.out HOL.out HONE.out ?_; intro w6 hr6 hu6; have HR6 := Lib.hid hr6; have HB6 := Lib.hid (HB5.out.trans (hu6.below (Nat.le_refl _))); clear hr6 hu6))
    refine bodyPost_ret (results_cell_row rfl _ _ w.heap.size 118 (KB.map B).toArray _ (.array 64 5) rfl HR6.out Tryd.underlying118 rfl (by have := HSZ.out; simpa using this)) rfl ⟨rfl, HB6.out⟩
  · have hspl : splice (List.replicate 64 (0 : UInt8)) 0 s.data.toList = KB := by
      rw [splice_key, ← HKB.out, kbL, show keyL s.data.toList = s.data.toList from by unfold keyL; rw [if_neg (by rw [hsl]; exact h64)]]
    have HSPL := Lib.hid hspl
    have HS64 := Lib.hid (show s.size ≤ 64 ∧ 0 + s.size ≤ (List.replicate 64 (0 : UInt8)).length by rw [List.length_replicate]; omega)
    clear hspl hsl
    go_enter Tryd.func87, Tryd.ntmps87
    go_wp2_with (first
      | (with_reducible refine alloc_row (o := ⟨some 2, _, _, _, _, _⟩) rfl _ rfl _ zeroB64' ?_; intro w3 hr1 hb1 hz1; have HRB := Lib.hid hr1; clear hr1; have HB3 := Lib.hid hb1; clear hb1; have HZ3 := Lib.hid hz1; clear hz1)
      | (with_reducible refine alloc_row (o := ⟨some 3, _, _, _, _, _⟩) rfl _ rfl _ zeroB64' ?_; intro w4 hr4 hb4 hz4; have HR4 := Lib.hid hr4; have HRC := Lib.hid (HRB.out.below hb4 HRB.out.lt); have HB4 := Lib.hid (HB3.out.trans (hb4.mono HB3.out.size)); have HNE := Lib.hid (show w.heap.size < w3.heap.size from HRB.out.lt); clear hr4 hb4 hz4)
      | (with_reducible refine copy_str_row (o := ⟨some 12, _, _, _, _, _⟩) rfl _ _ rfl w3.heap.size 0 64 64 s rfl rfl 118 (List.replicate 64 0) HR4.out HS64.out.1 HS64.out.2 ?_; intro w5 hr5 hu5; rw [HSPL.out] at hr5; have HR5 := Lib.hid hr5; have HRD := Lib.hid (HRC.out.upd hu5 (by have := HNE.out; omega)); have HB5 := Lib.hid (HB4.out.trans (hu5.below (Nat.le_of_lt HNE.out))); clear hr5 hu5)
      | (with_reducible refine load_row (o := ⟨some 13, _, _, _, _, _⟩) rfl _ _ rfl _ rfl _ (KB.map B) _ HR5.out Tryd.underlying118 rfl HSZ.out ?_)
      | (with_reducible refine store_row (o := ⟨none, .store 118 _ _, _, _, _, _⟩) rfl _ _ _ rfl _ _ rfl rfl 118 _ HRD.out HSZ.out HOL.out HONE.out ?_; intro w6 hr6 hu6; have HR6 := Lib.hid hr6; have HB6 := Lib.hid (HB5.out.trans (hu6.below (Nat.le_refl _))); clear hr6 hu6))
    refine bodyPost_ret (results_cell_row rfl _ _ w.heap.size 118 (KB.map B).toArray _ (.array 64 5) rfl HR6.out Tryd.underlying118 rfl (by have := HSZ.out; simpa using this)) rfl ⟨rfl, HB6.out⟩

end Go.Proofs.YtagblhkihammdaaDoor.W
