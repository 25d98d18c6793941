/- LAYER 23 (command): Same of both. -/
import Derived.Test.YtmacjpgeamlmhaaCmN
import Derived.Test.YtmacjpgeamlmhaaMfPs
set_option linter.unusedSimpArgs false
set_option linter.unusedVariables false
namespace Go.Proofs.Ytmacjpgeamlmhaa.W
open Go Go.ChangeShapes Go.WideShapes Go.ChangeAt Go.RowKit
open Go.Proofs.Ytmacjpgeamlmhaa.S

set_option maxRecDepth 100000 in
set_option maxHeartbeats 8000000 in
theorem cmsame0 (cl sq kd id ep nu by1 ti : Int) (va : Option Addr) (vn vc : Nat) (V : List Cv) (sp nm : ByteArray) (pa : Option Addr) (pn pc : Nat) (PL : List Pc) (cl2 sq2 kd2 id2 ep2 nu2 by12 ti2 : Int) (va2 : Option Addr) (vn2 vc2 : Nat) (V2 : List Cv) (sp2 nm2 : ByteArray) (pa2 : Option Addr) (pn2 pc2 : Nat) (PL2 : List Pc) (vp : Bool) (w : World) (hV : Cvs w va vn vc V) (hV2 : Cvs w va2 vn2 vc2 V2) (hP : Ls pcE w pa pn pc PL) (hP2 : Ls pcE w pa2 pn2 pc2 PL2) (hvp : vp = true ↔ PL = PL2) (h0 : ¬ cl = cl2) :
    Calls Try.prog 14 #[.agg (cmC cl sq kd id ep va vn vc sp nm nu by1 ti pa pn pc).toArray, .agg (cmC cl2 sq2 kd2 id2 ep2 va2 vn2 vc2 sp2 nm2 nu2 by12 ti2 pa2 pn2 pc2).toArray] w fun e w' => e = .returned (.bool (sameB ⟨cl, sq, kd, id, ep, V, sp, nm, nu, by1, ti, PL⟩ ⟨cl2, sq2, kd2, id2, ep2, V2, sp2, nm2, nu2, by12, ti2, PL2⟩ vp)) ∧ Below w.heap.size w w' := by
  have HO := Lib.hid (show sameB ⟨cl, sq, kd, id, ep, V, sp, nm, nu, by1, ti, PL⟩ ⟨cl2, sq2, kd2, id2, ep2, V2, sp2, nm2, nu2, by12, ti2, PL2⟩ vp = false by unfold sameB; simp [h0])
  have hbb : (cl == cl2) = false := by simpa using h0
  clear hV hV2 hP hP2 hvp 
  go_enter Try.func14, Try.ntmps14
  go_wp2_with (first
    | ((with_reducible refine box_row (o := ⟨some 2, _, _, _, _, _⟩) rfl _ _ rfl (cmC cl sq kd id ep va vn vc sp nm nu by1 ti pa pn pc) rfl ?_); intro w1 hr hb hz; have XA1 := Lib.hid hr; have B1 := Lib.hid hb; clear hr hb hz)
    | ((with_reducible refine box_row (o := ⟨some 3, _, _, _, _, _⟩) rfl _ _ rfl (cmC cl2 sq2 kd2 id2 ep2 va2 vn2 vc2 sp2 nm2 nu2 by12 ti2 pa2 pn2 pc2) rfl ?_); intro w2 hr hb hz; have XB2 := Lib.hid hr; have XA2 := Lib.hid (XA1.out.below hb XA1.out.lt); have B2 := Lib.hid (B1.out.trans (hb.mono B1.out.size)); have a0 := XA2.out.cm'.c0; have b0 := XB2.out.cm'.c0; clear hr hb hz))
  go_ret
  exact ⟨one (vbool (by rw [HO.out])), B2.out⟩
set_option maxRecDepth 100000 in
set_option maxHeartbeats 8000000 in
theorem cmsame1 (cl sq kd id ep nu by1 ti : Int) (va : Option Addr) (vn vc : Nat) (V : List Cv) (sp nm : ByteArray) (pa : Option Addr) (pn pc : Nat) (PL : List Pc) (cl2 sq2 kd2 id2 ep2 nu2 by12 ti2 : Int) (va2 : Option Addr) (vn2 vc2 : Nat) (V2 : List Cv) (sp2 nm2 : ByteArray) (pa2 : Option Addr) (pn2 pc2 : Nat) (PL2 : List Pc) (vp : Bool) (w : World) (hV : Cvs w va vn vc V) (hV2 : Cvs w va2 vn2 vc2 V2) (hP : Ls pcE w pa pn pc PL) (hP2 : Ls pcE w pa2 pn2 pc2 PL2) (hvp : vp = true ↔ PL = PL2) (h0 : cl = cl2) (h1 : ¬ sq = sq2) :
    Calls Try.prog 14 #[.agg (cmC cl sq kd id ep va vn vc sp nm nu by1 ti pa pn pc).toArray, .agg (cmC cl2 sq2 kd2 id2 ep2 va2 vn2 vc2 sp2 nm2 nu2 by12 ti2 pa2 pn2 pc2).toArray] w fun e w' => e = .returned (.bool (sameB ⟨cl, sq, kd, id, ep, V, sp, nm, nu, by1, ti, PL⟩ ⟨cl2, sq2, kd2, id2, ep2, V2, sp2, nm2, nu2, by12, ti2, PL2⟩ vp)) ∧ Below w.heap.size w w' := by
  subst h0
  have HO := Lib.hid (show sameB ⟨cl, sq, kd, id, ep, V, sp, nm, nu, by1, ti, PL⟩ ⟨cl, sq2, kd2, id2, ep2, V2, sp2, nm2, nu2, by12, ti2, PL2⟩ vp = false by unfold sameB; simp [h1])
  have hbb : (sq == sq2) = false := by simpa using h1
  clear hV hV2 hP hP2 hvp 
  go_enter Try.func14, Try.ntmps14
  go_wp2_with (first
    | ((with_reducible refine box_row (o := ⟨some 2, _, _, _, _, _⟩) rfl _ _ rfl (cmC cl sq kd id ep va vn vc sp nm nu by1 ti pa pn pc) rfl ?_); intro w1 hr hb hz; have XA1 := Lib.hid hr; have B1 := Lib.hid hb; clear hr hb hz)
    | ((with_reducible refine box_row (o := ⟨some 3, _, _, _, _, _⟩) rfl _ _ rfl (cmC cl sq2 kd2 id2 ep2 va2 vn2 vc2 sp2 nm2 nu2 by12 ti2 pa2 pn2 pc2) rfl ?_); intro w2 hr hb hz; have XB2 := Lib.hid hr; have XA2 := Lib.hid (XA1.out.below hb XA1.out.lt); have B2 := Lib.hid (B1.out.trans (hb.mono B1.out.size)); have a0 := XA2.out.cm'.c0; have b0 := XB2.out.cm'.c0; have a1 := XA2.out.cm'.c1; have b1 := XB2.out.cm'.c1; clear hr hb hz))
  go_ret
  exact ⟨one (vbool (by rw [HO.out])), B2.out⟩
set_option maxRecDepth 100000 in
set_option maxHeartbeats 8000000 in
theorem cmsame2 (cl sq kd id ep nu by1 ti : Int) (va : Option Addr) (vn vc : Nat) (V : List Cv) (sp nm : ByteArray) (pa : Option Addr) (pn pc : Nat) (PL : List Pc) (cl2 sq2 kd2 id2 ep2 nu2 by12 ti2 : Int) (va2 : Option Addr) (vn2 vc2 : Nat) (V2 : List Cv) (sp2 nm2 : ByteArray) (pa2 : Option Addr) (pn2 pc2 : Nat) (PL2 : List Pc) (vp : Bool) (w : World) (hV : Cvs w va vn vc V) (hV2 : Cvs w va2 vn2 vc2 V2) (hP : Ls pcE w pa pn pc PL) (hP2 : Ls pcE w pa2 pn2 pc2 PL2) (hvp : vp = true ↔ PL = PL2) (h0 : cl = cl2) (h1 : sq = sq2) (h2 : ¬ kd = kd2) :
    Calls Try.prog 14 #[.agg (cmC cl sq kd id ep va vn vc sp nm nu by1 ti pa pn pc).toArray, .agg (cmC cl2 sq2 kd2 id2 ep2 va2 vn2 vc2 sp2 nm2 nu2 by12 ti2 pa2 pn2 pc2).toArray] w fun e w' => e = .returned (.bool (sameB ⟨cl, sq, kd, id, ep, V, sp, nm, nu, by1, ti, PL⟩ ⟨cl2, sq2, kd2, id2, ep2, V2, sp2, nm2, nu2, by12, ti2, PL2⟩ vp)) ∧ Below w.heap.size w w' := by
  subst h0
  subst h1
  have HO := Lib.hid (show sameB ⟨cl, sq, kd, id, ep, V, sp, nm, nu, by1, ti, PL⟩ ⟨cl, sq, kd2, id2, ep2, V2, sp2, nm2, nu2, by12, ti2, PL2⟩ vp = false by unfold sameB; simp [h2])
  have hbb : (kd == kd2) = false := by simpa using h2
  clear hV hV2 hP hP2 hvp 
  go_enter Try.func14, Try.ntmps14
  go_wp2_with (first
    | ((with_reducible refine box_row (o := ⟨some 2, _, _, _, _, _⟩) rfl _ _ rfl (cmC cl sq kd id ep va vn vc sp nm nu by1 ti pa pn pc) rfl ?_); intro w1 hr hb hz; have XA1 := Lib.hid hr; have B1 := Lib.hid hb; clear hr hb hz)
    | ((with_reducible refine box_row (o := ⟨some 3, _, _, _, _, _⟩) rfl _ _ rfl (cmC cl sq kd2 id2 ep2 va2 vn2 vc2 sp2 nm2 nu2 by12 ti2 pa2 pn2 pc2) rfl ?_); intro w2 hr hb hz; have XB2 := Lib.hid hr; have XA2 := Lib.hid (XA1.out.below hb XA1.out.lt); have B2 := Lib.hid (B1.out.trans (hb.mono B1.out.size)); have a0 := XA2.out.cm'.c0; have b0 := XB2.out.cm'.c0; have a1 := XA2.out.cm'.c1; have b1 := XB2.out.cm'.c1; have a2 := XA2.out.cm'.c2; have b2 := XB2.out.cm'.c2; clear hr hb hz))
  go_ret
  exact ⟨one (vbool (by rw [HO.out])), B2.out⟩
set_option maxRecDepth 100000 in
set_option maxHeartbeats 8000000 in
theorem cmsame3 (cl sq kd id ep nu by1 ti : Int) (va : Option Addr) (vn vc : Nat) (V : List Cv) (sp nm : ByteArray) (pa : Option Addr) (pn pc : Nat) (PL : List Pc) (cl2 sq2 kd2 id2 ep2 nu2 by12 ti2 : Int) (va2 : Option Addr) (vn2 vc2 : Nat) (V2 : List Cv) (sp2 nm2 : ByteArray) (pa2 : Option Addr) (pn2 pc2 : Nat) (PL2 : List Pc) (vp : Bool) (w : World) (hV : Cvs w va vn vc V) (hV2 : Cvs w va2 vn2 vc2 V2) (hP : Ls pcE w pa pn pc PL) (hP2 : Ls pcE w pa2 pn2 pc2 PL2) (hvp : vp = true ↔ PL = PL2) (h0 : cl = cl2) (h1 : sq = sq2) (h2 : kd = kd2) (h3 : ¬ id = id2) :
    Calls Try.prog 14 #[.agg (cmC cl sq kd id ep va vn vc sp nm nu by1 ti pa pn pc).toArray, .agg (cmC cl2 sq2 kd2 id2 ep2 va2 vn2 vc2 sp2 nm2 nu2 by12 ti2 pa2 pn2 pc2).toArray] w fun e w' => e = .returned (.bool (sameB ⟨cl, sq, kd, id, ep, V, sp, nm, nu, by1, ti, PL⟩ ⟨cl2, sq2, kd2, id2, ep2, V2, sp2, nm2, nu2, by12, ti2, PL2⟩ vp)) ∧ Below w.heap.size w w' := by
  subst h0
  subst h1
  subst h2
  have HO := Lib.hid (show sameB ⟨cl, sq, kd, id, ep, V, sp, nm, nu, by1, ti, PL⟩ ⟨cl, sq, kd, id2, ep2, V2, sp2, nm2, nu2, by12, ti2, PL2⟩ vp = false by unfold sameB; simp [h3])
  have hbb : (id == id2) = false := by simpa using h3
  clear hV hV2 hP hP2 hvp 
  go_enter Try.func14, Try.ntmps14
  go_wp2_with (first
    | ((with_reducible refine box_row (o := ⟨some 2, _, _, _, _, _⟩) rfl _ _ rfl (cmC cl sq kd id ep va vn vc sp nm nu by1 ti pa pn pc) rfl ?_); intro w1 hr hb hz; have XA1 := Lib.hid hr; have B1 := Lib.hid hb; clear hr hb hz)
    | ((with_reducible refine box_row (o := ⟨some 3, _, _, _, _, _⟩) rfl _ _ rfl (cmC cl sq kd id2 ep2 va2 vn2 vc2 sp2 nm2 nu2 by12 ti2 pa2 pn2 pc2) rfl ?_); intro w2 hr hb hz; have XB2 := Lib.hid hr; have XA2 := Lib.hid (XA1.out.below hb XA1.out.lt); have B2 := Lib.hid (B1.out.trans (hb.mono B1.out.size)); have a0 := XA2.out.cm'.c0; have b0 := XB2.out.cm'.c0; have a1 := XA2.out.cm'.c1; have b1 := XB2.out.cm'.c1; have a2 := XA2.out.cm'.c2; have b2 := XB2.out.cm'.c2; have a3 := XA2.out.cm'.c3; have b3 := XB2.out.cm'.c3; clear hr hb hz))
  go_ret
  exact ⟨one (vbool (by rw [HO.out])), B2.out⟩
set_option maxRecDepth 100000 in
set_option maxHeartbeats 8000000 in
theorem cmsame4 (cl sq kd id ep nu by1 ti : Int) (va : Option Addr) (vn vc : Nat) (V : List Cv) (sp nm : ByteArray) (pa : Option Addr) (pn pc : Nat) (PL : List Pc) (cl2 sq2 kd2 id2 ep2 nu2 by12 ti2 : Int) (va2 : Option Addr) (vn2 vc2 : Nat) (V2 : List Cv) (sp2 nm2 : ByteArray) (pa2 : Option Addr) (pn2 pc2 : Nat) (PL2 : List Pc) (vp : Bool) (w : World) (hV : Cvs w va vn vc V) (hV2 : Cvs w va2 vn2 vc2 V2) (hP : Ls pcE w pa pn pc PL) (hP2 : Ls pcE w pa2 pn2 pc2 PL2) (hvp : vp = true ↔ PL = PL2) (h0 : cl = cl2) (h1 : sq = sq2) (h2 : kd = kd2) (h3 : id = id2) (h4 : ¬ ep = ep2) :
    Calls Try.prog 14 #[.agg (cmC cl sq kd id ep va vn vc sp nm nu by1 ti pa pn pc).toArray, .agg (cmC cl2 sq2 kd2 id2 ep2 va2 vn2 vc2 sp2 nm2 nu2 by12 ti2 pa2 pn2 pc2).toArray] w fun e w' => e = .returned (.bool (sameB ⟨cl, sq, kd, id, ep, V, sp, nm, nu, by1, ti, PL⟩ ⟨cl2, sq2, kd2, id2, ep2, V2, sp2, nm2, nu2, by12, ti2, PL2⟩ vp)) ∧ Below w.heap.size w w' := by
  subst h0
  subst h1
  subst h2
  subst h3
  have HO := Lib.hid (show sameB ⟨cl, sq, kd, id, ep, V, sp, nm, nu, by1, ti, PL⟩ ⟨cl, sq, kd, id, ep2, V2, sp2, nm2, nu2, by12, ti2, PL2⟩ vp = false by unfold sameB; simp [h4])
  have hbb : (ep == ep2) = false := by simpa using h4
  clear hV hV2 hP hP2 hvp 
  go_enter Try.func14, Try.ntmps14
  go_wp2_with (first
    | ((with_reducible refine box_row (o := ⟨some 2, _, _, _, _, _⟩) rfl _ _ rfl (cmC cl sq kd id ep va vn vc sp nm nu by1 ti pa pn pc) rfl ?_); intro w1 hr hb hz; have XA1 := Lib.hid hr; have B1 := Lib.hid hb; clear hr hb hz)
    | ((with_reducible refine box_row (o := ⟨some 3, _, _, _, _, _⟩) rfl _ _ rfl (cmC cl sq kd id ep2 va2 vn2 vc2 sp2 nm2 nu2 by12 ti2 pa2 pn2 pc2) rfl ?_); intro w2 hr hb hz; have XB2 := Lib.hid hr; have XA2 := Lib.hid (XA1.out.below hb XA1.out.lt); have B2 := Lib.hid (B1.out.trans (hb.mono B1.out.size)); have a0 := XA2.out.cm'.c0; have b0 := XB2.out.cm'.c0; have a1 := XA2.out.cm'.c1; have b1 := XB2.out.cm'.c1; have a2 := XA2.out.cm'.c2; have b2 := XB2.out.cm'.c2; have a3 := XA2.out.cm'.c3; have b3 := XB2.out.cm'.c3; have a4 := XA2.out.cm'.c4; have b4 := XB2.out.cm'.c4; clear hr hb hz))
  go_ret
  exact ⟨one (vbool (by rw [HO.out])), B2.out⟩
set_option maxRecDepth 100000 in
set_option maxHeartbeats 8000000 in
theorem cmsame5 (cl sq kd id ep nu by1 ti : Int) (va : Option Addr) (vn vc : Nat) (V : List Cv) (sp nm : ByteArray) (pa : Option Addr) (pn pc : Nat) (PL : List Pc) (cl2 sq2 kd2 id2 ep2 nu2 by12 ti2 : Int) (va2 : Option Addr) (vn2 vc2 : Nat) (V2 : List Cv) (sp2 nm2 : ByteArray) (pa2 : Option Addr) (pn2 pc2 : Nat) (PL2 : List Pc) (vp : Bool) (w : World) (hV : Cvs w va vn vc V) (hV2 : Cvs w va2 vn2 vc2 V2) (hP : Ls pcE w pa pn pc PL) (hP2 : Ls pcE w pa2 pn2 pc2 PL2) (hvp : vp = true ↔ PL = PL2) (h0 : cl = cl2) (h1 : sq = sq2) (h2 : kd = kd2) (h3 : id = id2) (h4 : ep = ep2) (h5 : sameV V V2 = false) :
    Calls Try.prog 14 #[.agg (cmC cl sq kd id ep va vn vc sp nm nu by1 ti pa pn pc).toArray, .agg (cmC cl2 sq2 kd2 id2 ep2 va2 vn2 vc2 sp2 nm2 nu2 by12 ti2 pa2 pn2 pc2).toArray] w fun e w' => e = .returned (.bool (sameB ⟨cl, sq, kd, id, ep, V, sp, nm, nu, by1, ti, PL⟩ ⟨cl2, sq2, kd2, id2, ep2, V2, sp2, nm2, nu2, by12, ti2, PL2⟩ vp)) ∧ Below w.heap.size w w' := by
  subst h0
  subst h1
  subst h2
  subst h3
  subst h4
  have HO := Lib.hid (show sameB ⟨cl, sq, kd, id, ep, V, sp, nm, nu, by1, ti, PL⟩ ⟨cl, sq, kd, id, ep, V2, sp2, nm2, nu2, by12, ti2, PL2⟩ vp = false by unfold sameB; simp [h5])
  have HV := Lib.hid (fun w' (hb : Below w.heap.size w w') => (by have q := csame_any va va2 vn vn2 vc vc2 V V2 w' (hV.mono hb) (hV2.mono hb); rw [h5] at q; exact q : Calls Try.prog 48 #[.slice va vn vc, .slice va2 vn2 vc2] w' fun e w'' => e = .returned (.bool false) ∧ Below w'.heap.size w' w''))
  clear hV hV2 hP hP2 hvp h5
  go_enter Try.func14, Try.ntmps14
  go_wp2_with (first
    | ((with_reducible refine box_row (o := ⟨some 2, _, _, _, _, _⟩) rfl _ _ rfl (cmC cl sq kd id ep va vn vc sp nm nu by1 ti pa pn pc) rfl ?_); intro w1 hr hb hz; have XA1 := Lib.hid hr; have B1 := Lib.hid hb; clear hr hb hz)
    | ((with_reducible refine box_row (o := ⟨some 3, _, _, _, _, _⟩) rfl _ _ rfl (cmC cl sq kd id ep va2 vn2 vc2 sp2 nm2 nu2 by12 ti2 pa2 pn2 pc2) rfl ?_); intro w2 hr hb hz; have XB2 := Lib.hid hr; have XA2 := Lib.hid (XA1.out.below hb XA1.out.lt); have B2 := Lib.hid (B1.out.trans (hb.mono B1.out.size)); have a0 := XA2.out.cm'.c0; have b0 := XB2.out.cm'.c0; have a1 := XA2.out.cm'.c1; have b1 := XB2.out.cm'.c1; have a2 := XA2.out.cm'.c2; have b2 := XB2.out.cm'.c2; have a3 := XA2.out.cm'.c3; have b3 := XB2.out.cm'.c3; have a4 := XA2.out.cm'.c4; have b4 := XB2.out.cm'.c4; have a5 := XA2.out.cm'.c5; have b5 := XB2.out.cm'.c5; clear hr hb hz)
    | (go_at_call 48; (with_reducible refine (HV.out w2 B2.out).mono ?_); rintro e w3 ⟨rfl, hb⟩; have XA3 := Lib.hid (XA2.out.below hb XA2.out.lt); have XB3 := Lib.hid (XB2.out.below hb XB2.out.lt); have B3 := Lib.hid (B2.out.trans (hb.mono B2.out.size)); clear hb))
  go_ret
  exact ⟨one (vbool (by rw [HO.out])), B3.out⟩
set_option maxRecDepth 100000 in
set_option maxHeartbeats 8000000 in
theorem cmsame6 (cl sq kd id ep nu by1 ti : Int) (va : Option Addr) (vn vc : Nat) (V : List Cv) (sp nm : ByteArray) (pa : Option Addr) (pn pc : Nat) (PL : List Pc) (cl2 sq2 kd2 id2 ep2 nu2 by12 ti2 : Int) (va2 : Option Addr) (vn2 vc2 : Nat) (V2 : List Cv) (sp2 nm2 : ByteArray) (pa2 : Option Addr) (pn2 pc2 : Nat) (PL2 : List Pc) (vp : Bool) (w : World) (hV : Cvs w va vn vc V) (hV2 : Cvs w va2 vn2 vc2 V2) (hP : Ls pcE w pa pn pc PL) (hP2 : Ls pcE w pa2 pn2 pc2 PL2) (hvp : vp = true ↔ PL = PL2) (h0 : cl = cl2) (h1 : sq = sq2) (h2 : kd = kd2) (h3 : id = id2) (h4 : ep = ep2) (h5 : sameV V V2 = true) (h6 : ¬ sp.toList = sp2.toList) :
    Calls Try.prog 14 #[.agg (cmC cl sq kd id ep va vn vc sp nm nu by1 ti pa pn pc).toArray, .agg (cmC cl2 sq2 kd2 id2 ep2 va2 vn2 vc2 sp2 nm2 nu2 by12 ti2 pa2 pn2 pc2).toArray] w fun e w' => e = .returned (.bool (sameB ⟨cl, sq, kd, id, ep, V, sp, nm, nu, by1, ti, PL⟩ ⟨cl2, sq2, kd2, id2, ep2, V2, sp2, nm2, nu2, by12, ti2, PL2⟩ vp)) ∧ Below w.heap.size w w' := by
  subst h0
  subst h1
  subst h2
  subst h3
  subst h4
  have HO := Lib.hid (show sameB ⟨cl, sq, kd, id, ep, V, sp, nm, nu, by1, ti, PL⟩ ⟨cl, sq, kd, id, ep, V2, sp2, nm2, nu2, by12, ti2, PL2⟩ vp = false by unfold sameB; simp [h5, h6])
  have HV := Lib.hid (fun w' (hb : Below w.heap.size w w') => (by have q := csame_any va va2 vn vn2 vc vc2 V V2 w' (hV.mono hb) (hV2.mono hb); rw [h5] at q; exact q : Calls Try.prog 48 #[.slice va vn vc, .slice va2 vn2 vc2] w' fun e w'' => e = .returned (.bool true) ∧ Below w'.heap.size w' w''))
  have hbb : (sp.toList == sp2.toList) = false := by simpa using h6
  clear hV hV2 hP hP2 hvp h5
  go_enter Try.func14, Try.ntmps14
  go_wp2_with (first
    | ((with_reducible refine box_row (o := ⟨some 2, _, _, _, _, _⟩) rfl _ _ rfl (cmC cl sq kd id ep va vn vc sp nm nu by1 ti pa pn pc) rfl ?_); intro w1 hr hb hz; have XA1 := Lib.hid hr; have B1 := Lib.hid hb; clear hr hb hz)
    | ((with_reducible refine box_row (o := ⟨some 3, _, _, _, _, _⟩) rfl _ _ rfl (cmC cl sq kd id ep va2 vn2 vc2 sp2 nm2 nu2 by12 ti2 pa2 pn2 pc2) rfl ?_); intro w2 hr hb hz; have XB2 := Lib.hid hr; have XA2 := Lib.hid (XA1.out.below hb XA1.out.lt); have B2 := Lib.hid (B1.out.trans (hb.mono B1.out.size)); have a0 := XA2.out.cm'.c0; have b0 := XB2.out.cm'.c0; have a1 := XA2.out.cm'.c1; have b1 := XB2.out.cm'.c1; have a2 := XA2.out.cm'.c2; have b2 := XB2.out.cm'.c2; have a3 := XA2.out.cm'.c3; have b3 := XB2.out.cm'.c3; have a4 := XA2.out.cm'.c4; have b4 := XB2.out.cm'.c4; have a5 := XA2.out.cm'.c5; have b5 := XB2.out.cm'.c5; clear hr hb hz)
    | (go_at_call 48; (with_reducible refine (HV.out w2 B2.out).mono ?_); rintro e w3 ⟨rfl, hb⟩; have XA3 := Lib.hid (XA2.out.below hb XA2.out.lt); have XB3 := Lib.hid (XB2.out.below hb XB2.out.lt); have B3 := Lib.hid (B2.out.trans (hb.mono B2.out.size)); have a6 := XA3.out.cm'.c6; have b6 := XB3.out.cm'.c6; clear hb))
  go_ret
  exact ⟨one (vbool (by rw [HO.out])), B3.out⟩
set_option maxRecDepth 100000 in
set_option maxHeartbeats 8000000 in
theorem cmsame7 (cl sq kd id ep nu by1 ti : Int) (va : Option Addr) (vn vc : Nat) (V : List Cv) (sp nm : ByteArray) (pa : Option Addr) (pn pc : Nat) (PL : List Pc) (cl2 sq2 kd2 id2 ep2 nu2 by12 ti2 : Int) (va2 : Option Addr) (vn2 vc2 : Nat) (V2 : List Cv) (sp2 nm2 : ByteArray) (pa2 : Option Addr) (pn2 pc2 : Nat) (PL2 : List Pc) (vp : Bool) (w : World) (hV : Cvs w va vn vc V) (hV2 : Cvs w va2 vn2 vc2 V2) (hP : Ls pcE w pa pn pc PL) (hP2 : Ls pcE w pa2 pn2 pc2 PL2) (hvp : vp = true ↔ PL = PL2) (h0 : cl = cl2) (h1 : sq = sq2) (h2 : kd = kd2) (h3 : id = id2) (h4 : ep = ep2) (h5 : sameV V V2 = true) (h6 : sp.toList = sp2.toList) (h7 : ¬ nm.toList = nm2.toList) :
    Calls Try.prog 14 #[.agg (cmC cl sq kd id ep va vn vc sp nm nu by1 ti pa pn pc).toArray, .agg (cmC cl2 sq2 kd2 id2 ep2 va2 vn2 vc2 sp2 nm2 nu2 by12 ti2 pa2 pn2 pc2).toArray] w fun e w' => e = .returned (.bool (sameB ⟨cl, sq, kd, id, ep, V, sp, nm, nu, by1, ti, PL⟩ ⟨cl2, sq2, kd2, id2, ep2, V2, sp2, nm2, nu2, by12, ti2, PL2⟩ vp)) ∧ Below w.heap.size w w' := by
  subst h0
  subst h1
  subst h2
  subst h3
  subst h4
  obtain rfl := toL_eq h6
  clear h6
  have HO := Lib.hid (show sameB ⟨cl, sq, kd, id, ep, V, sp, nm, nu, by1, ti, PL⟩ ⟨cl, sq, kd, id, ep, V2, sp, nm2, nu2, by12, ti2, PL2⟩ vp = false by unfold sameB; simp [h5, h7])
  have HV := Lib.hid (fun w' (hb : Below w.heap.size w w') => (by have q := csame_any va va2 vn vn2 vc vc2 V V2 w' (hV.mono hb) (hV2.mono hb); rw [h5] at q; exact q : Calls Try.prog 48 #[.slice va vn vc, .slice va2 vn2 vc2] w' fun e w'' => e = .returned (.bool true) ∧ Below w'.heap.size w' w''))
  have hbb : (nm.toList == nm2.toList) = false := by simpa using h7
  clear hV hV2 hP hP2 hvp h5
  go_enter Try.func14, Try.ntmps14
  go_wp2_with (first
    | ((with_reducible refine box_row (o := ⟨some 2, _, _, _, _, _⟩) rfl _ _ rfl (cmC cl sq kd id ep va vn vc sp nm nu by1 ti pa pn pc) rfl ?_); intro w1 hr hb hz; have XA1 := Lib.hid hr; have B1 := Lib.hid hb; clear hr hb hz)
    | ((with_reducible refine box_row (o := ⟨some 3, _, _, _, _, _⟩) rfl _ _ rfl (cmC cl sq kd id ep va2 vn2 vc2 sp nm2 nu2 by12 ti2 pa2 pn2 pc2) rfl ?_); intro w2 hr hb hz; have XB2 := Lib.hid hr; have XA2 := Lib.hid (XA1.out.below hb XA1.out.lt); have B2 := Lib.hid (B1.out.trans (hb.mono B1.out.size)); have a0 := XA2.out.cm'.c0; have b0 := XB2.out.cm'.c0; have a1 := XA2.out.cm'.c1; have b1 := XB2.out.cm'.c1; have a2 := XA2.out.cm'.c2; have b2 := XB2.out.cm'.c2; have a3 := XA2.out.cm'.c3; have b3 := XB2.out.cm'.c3; have a4 := XA2.out.cm'.c4; have b4 := XB2.out.cm'.c4; have a5 := XA2.out.cm'.c5; have b5 := XB2.out.cm'.c5; clear hr hb hz)
    | (go_at_call 48; (with_reducible refine (HV.out w2 B2.out).mono ?_); rintro e w3 ⟨rfl, hb⟩; have XA3 := Lib.hid (XA2.out.below hb XA2.out.lt); have XB3 := Lib.hid (XB2.out.below hb XB2.out.lt); have B3 := Lib.hid (B2.out.trans (hb.mono B2.out.size)); have a6 := XA3.out.cm'.c6; have b6 := XB3.out.cm'.c6; have a7 := XA3.out.cm'.c7; have b7 := XB3.out.cm'.c7; clear hb))
  go_ret
  exact ⟨one (vbool (by rw [HO.out])), B3.out⟩
set_option maxRecDepth 100000 in
set_option maxHeartbeats 8000000 in
theorem cmsame8 (cl sq kd id ep nu by1 ti : Int) (va : Option Addr) (vn vc : Nat) (V : List Cv) (sp nm : ByteArray) (pa : Option Addr) (pn pc : Nat) (PL : List Pc) (cl2 sq2 kd2 id2 ep2 nu2 by12 ti2 : Int) (va2 : Option Addr) (vn2 vc2 : Nat) (V2 : List Cv) (sp2 nm2 : ByteArray) (pa2 : Option Addr) (pn2 pc2 : Nat) (PL2 : List Pc) (vp : Bool) (w : World) (hV : Cvs w va vn vc V) (hV2 : Cvs w va2 vn2 vc2 V2) (hP : Ls pcE w pa pn pc PL) (hP2 : Ls pcE w pa2 pn2 pc2 PL2) (hvp : vp = true ↔ PL = PL2) (h0 : cl = cl2) (h1 : sq = sq2) (h2 : kd = kd2) (h3 : id = id2) (h4 : ep = ep2) (h5 : sameV V V2 = true) (h6 : sp.toList = sp2.toList) (h7 : nm.toList = nm2.toList) (h8 : ¬ nu = nu2) :
    Calls Try.prog 14 #[.agg (cmC cl sq kd id ep va vn vc sp nm nu by1 ti pa pn pc).toArray, .agg (cmC cl2 sq2 kd2 id2 ep2 va2 vn2 vc2 sp2 nm2 nu2 by12 ti2 pa2 pn2 pc2).toArray] w fun e w' => e = .returned (.bool (sameB ⟨cl, sq, kd, id, ep, V, sp, nm, nu, by1, ti, PL⟩ ⟨cl2, sq2, kd2, id2, ep2, V2, sp2, nm2, nu2, by12, ti2, PL2⟩ vp)) ∧ Below w.heap.size w w' := by
  subst h0
  subst h1
  subst h2
  subst h3
  subst h4
  obtain rfl := toL_eq h6
  clear h6
  obtain rfl := toL_eq h7
  clear h7
  have HO := Lib.hid (show sameB ⟨cl, sq, kd, id, ep, V, sp, nm, nu, by1, ti, PL⟩ ⟨cl, sq, kd, id, ep, V2, sp, nm, nu2, by12, ti2, PL2⟩ vp = false by unfold sameB; simp [h5, h8])
  have HV := Lib.hid (fun w' (hb : Below w.heap.size w w') => (by have q := csame_any va va2 vn vn2 vc vc2 V V2 w' (hV.mono hb) (hV2.mono hb); rw [h5] at q; exact q : Calls Try.prog 48 #[.slice va vn vc, .slice va2 vn2 vc2] w' fun e w'' => e = .returned (.bool true) ∧ Below w'.heap.size w' w''))
  have hbb : (nu == nu2) = false := by simpa using h8
  clear hV hV2 hP hP2 hvp h5
  go_enter Try.func14, Try.ntmps14
  go_wp2_with (first
    | ((with_reducible refine box_row (o := ⟨some 2, _, _, _, _, _⟩) rfl _ _ rfl (cmC cl sq kd id ep va vn vc sp nm nu by1 ti pa pn pc) rfl ?_); intro w1 hr hb hz; have XA1 := Lib.hid hr; have B1 := Lib.hid hb; clear hr hb hz)
    | ((with_reducible refine box_row (o := ⟨some 3, _, _, _, _, _⟩) rfl _ _ rfl (cmC cl sq kd id ep va2 vn2 vc2 sp nm nu2 by12 ti2 pa2 pn2 pc2) rfl ?_); intro w2 hr hb hz; have XB2 := Lib.hid hr; have XA2 := Lib.hid (XA1.out.below hb XA1.out.lt); have B2 := Lib.hid (B1.out.trans (hb.mono B1.out.size)); have a0 := XA2.out.cm'.c0; have b0 := XB2.out.cm'.c0; have a1 := XA2.out.cm'.c1; have b1 := XB2.out.cm'.c1; have a2 := XA2.out.cm'.c2; have b2 := XB2.out.cm'.c2; have a3 := XA2.out.cm'.c3; have b3 := XB2.out.cm'.c3; have a4 := XA2.out.cm'.c4; have b4 := XB2.out.cm'.c4; have a5 := XA2.out.cm'.c5; have b5 := XB2.out.cm'.c5; clear hr hb hz)
    | (go_at_call 48; (with_reducible refine (HV.out w2 B2.out).mono ?_); rintro e w3 ⟨rfl, hb⟩; have XA3 := Lib.hid (XA2.out.below hb XA2.out.lt); have XB3 := Lib.hid (XB2.out.below hb XB2.out.lt); have B3 := Lib.hid (B2.out.trans (hb.mono B2.out.size)); have a6 := XA3.out.cm'.c6; have b6 := XB3.out.cm'.c6; have a7 := XA3.out.cm'.c7; have b7 := XB3.out.cm'.c7; have a8 := XA3.out.cm'.c8; have b8 := XB3.out.cm'.c8; clear hb))
  go_ret
  exact ⟨one (vbool (by rw [HO.out])), B3.out⟩
set_option maxRecDepth 100000 in
set_option maxHeartbeats 8000000 in
theorem cmsame9 (cl sq kd id ep nu by1 ti : Int) (va : Option Addr) (vn vc : Nat) (V : List Cv) (sp nm : ByteArray) (pa : Option Addr) (pn pc : Nat) (PL : List Pc) (cl2 sq2 kd2 id2 ep2 nu2 by12 ti2 : Int) (va2 : Option Addr) (vn2 vc2 : Nat) (V2 : List Cv) (sp2 nm2 : ByteArray) (pa2 : Option Addr) (pn2 pc2 : Nat) (PL2 : List Pc) (vp : Bool) (w : World) (hV : Cvs w va vn vc V) (hV2 : Cvs w va2 vn2 vc2 V2) (hP : Ls pcE w pa pn pc PL) (hP2 : Ls pcE w pa2 pn2 pc2 PL2) (hvp : vp = true ↔ PL = PL2) (h0 : cl = cl2) (h1 : sq = sq2) (h2 : kd = kd2) (h3 : id = id2) (h4 : ep = ep2) (h5 : sameV V V2 = true) (h6 : sp.toList = sp2.toList) (h7 : nm.toList = nm2.toList) (h8 : nu = nu2) (h9 : ¬ by1 = by12) :
    Calls Try.prog 14 #[.agg (cmC cl sq kd id ep va vn vc sp nm nu by1 ti pa pn pc).toArray, .agg (cmC cl2 sq2 kd2 id2 ep2 va2 vn2 vc2 sp2 nm2 nu2 by12 ti2 pa2 pn2 pc2).toArray] w fun e w' => e = .returned (.bool (sameB ⟨cl, sq, kd, id, ep, V, sp, nm, nu, by1, ti, PL⟩ ⟨cl2, sq2, kd2, id2, ep2, V2, sp2, nm2, nu2, by12, ti2, PL2⟩ vp)) ∧ Below w.heap.size w w' := by
  subst h0
  subst h1
  subst h2
  subst h3
  subst h4
  obtain rfl := toL_eq h6
  clear h6
  obtain rfl := toL_eq h7
  clear h7
  subst h8
  have HO := Lib.hid (show sameB ⟨cl, sq, kd, id, ep, V, sp, nm, nu, by1, ti, PL⟩ ⟨cl, sq, kd, id, ep, V2, sp, nm, nu, by12, ti2, PL2⟩ vp = false by unfold sameB; simp [h5, h9])
  have HV := Lib.hid (fun w' (hb : Below w.heap.size w w') => (by have q := csame_any va va2 vn vn2 vc vc2 V V2 w' (hV.mono hb) (hV2.mono hb); rw [h5] at q; exact q : Calls Try.prog 48 #[.slice va vn vc, .slice va2 vn2 vc2] w' fun e w'' => e = .returned (.bool true) ∧ Below w'.heap.size w' w''))
  have hbb : (by1 == by12) = false := by simpa using h9
  clear hV hV2 hP hP2 hvp h5
  go_enter Try.func14, Try.ntmps14
  go_wp2_with (first
    | ((with_reducible refine box_row (o := ⟨some 2, _, _, _, _, _⟩) rfl _ _ rfl (cmC cl sq kd id ep va vn vc sp nm nu by1 ti pa pn pc) rfl ?_); intro w1 hr hb hz; have XA1 := Lib.hid hr; have B1 := Lib.hid hb; clear hr hb hz)
    | ((with_reducible refine box_row (o := ⟨some 3, _, _, _, _, _⟩) rfl _ _ rfl (cmC cl sq kd id ep va2 vn2 vc2 sp nm nu by12 ti2 pa2 pn2 pc2) rfl ?_); intro w2 hr hb hz; have XB2 := Lib.hid hr; have XA2 := Lib.hid (XA1.out.below hb XA1.out.lt); have B2 := Lib.hid (B1.out.trans (hb.mono B1.out.size)); have a0 := XA2.out.cm'.c0; have b0 := XB2.out.cm'.c0; have a1 := XA2.out.cm'.c1; have b1 := XB2.out.cm'.c1; have a2 := XA2.out.cm'.c2; have b2 := XB2.out.cm'.c2; have a3 := XA2.out.cm'.c3; have b3 := XB2.out.cm'.c3; have a4 := XA2.out.cm'.c4; have b4 := XB2.out.cm'.c4; have a5 := XA2.out.cm'.c5; have b5 := XB2.out.cm'.c5; clear hr hb hz)
    | (go_at_call 48; (with_reducible refine (HV.out w2 B2.out).mono ?_); rintro e w3 ⟨rfl, hb⟩; have XA3 := Lib.hid (XA2.out.below hb XA2.out.lt); have XB3 := Lib.hid (XB2.out.below hb XB2.out.lt); have B3 := Lib.hid (B2.out.trans (hb.mono B2.out.size)); have a6 := XA3.out.cm'.c6; have b6 := XB3.out.cm'.c6; have a7 := XA3.out.cm'.c7; have b7 := XB3.out.cm'.c7; have a8 := XA3.out.cm'.c8; have b8 := XB3.out.cm'.c8; have a9 := XA3.out.cm'.c9; have b9 := XB3.out.cm'.c9; clear hb))
  go_ret
  exact ⟨one (vbool (by rw [HO.out])), B3.out⟩
set_option maxRecDepth 100000 in
set_option maxHeartbeats 8000000 in
theorem cmsame10 (cl sq kd id ep nu by1 ti : Int) (va : Option Addr) (vn vc : Nat) (V : List Cv) (sp nm : ByteArray) (pa : Option Addr) (pn pc : Nat) (PL : List Pc) (cl2 sq2 kd2 id2 ep2 nu2 by12 ti2 : Int) (va2 : Option Addr) (vn2 vc2 : Nat) (V2 : List Cv) (sp2 nm2 : ByteArray) (pa2 : Option Addr) (pn2 pc2 : Nat) (PL2 : List Pc) (vp : Bool) (w : World) (hV : Cvs w va vn vc V) (hV2 : Cvs w va2 vn2 vc2 V2) (hP : Ls pcE w pa pn pc PL) (hP2 : Ls pcE w pa2 pn2 pc2 PL2) (hvp : vp = true ↔ PL = PL2) (h0 : cl = cl2) (h1 : sq = sq2) (h2 : kd = kd2) (h3 : id = id2) (h4 : ep = ep2) (h5 : sameV V V2 = true) (h6 : sp.toList = sp2.toList) (h7 : nm.toList = nm2.toList) (h8 : nu = nu2) (h9 : by1 = by12) (h10 : ¬ ti = ti2) :
    Calls Try.prog 14 #[.agg (cmC cl sq kd id ep va vn vc sp nm nu by1 ti pa pn pc).toArray, .agg (cmC cl2 sq2 kd2 id2 ep2 va2 vn2 vc2 sp2 nm2 nu2 by12 ti2 pa2 pn2 pc2).toArray] w fun e w' => e = .returned (.bool (sameB ⟨cl, sq, kd, id, ep, V, sp, nm, nu, by1, ti, PL⟩ ⟨cl2, sq2, kd2, id2, ep2, V2, sp2, nm2, nu2, by12, ti2, PL2⟩ vp)) ∧ Below w.heap.size w w' := by
  subst h0
  subst h1
  subst h2
  subst h3
  subst h4
  obtain rfl := toL_eq h6
  clear h6
  obtain rfl := toL_eq h7
  clear h7
  subst h8
  subst h9
  have HO := Lib.hid (show sameB ⟨cl, sq, kd, id, ep, V, sp, nm, nu, by1, ti, PL⟩ ⟨cl, sq, kd, id, ep, V2, sp, nm, nu, by1, ti2, PL2⟩ vp = false by unfold sameB; simp [h5, h10])
  have HV := Lib.hid (fun w' (hb : Below w.heap.size w w') => (by have q := csame_any va va2 vn vn2 vc vc2 V V2 w' (hV.mono hb) (hV2.mono hb); rw [h5] at q; exact q : Calls Try.prog 48 #[.slice va vn vc, .slice va2 vn2 vc2] w' fun e w'' => e = .returned (.bool true) ∧ Below w'.heap.size w' w''))
  have hbb : (ti == ti2) = false := by simpa using h10
  clear hV hV2 hP hP2 hvp h5
  go_enter Try.func14, Try.ntmps14
  go_wp2_with (first
    | ((with_reducible refine box_row (o := ⟨some 2, _, _, _, _, _⟩) rfl _ _ rfl (cmC cl sq kd id ep va vn vc sp nm nu by1 ti pa pn pc) rfl ?_); intro w1 hr hb hz; have XA1 := Lib.hid hr; have B1 := Lib.hid hb; clear hr hb hz)
    | ((with_reducible refine box_row (o := ⟨some 3, _, _, _, _, _⟩) rfl _ _ rfl (cmC cl sq kd id ep va2 vn2 vc2 sp nm nu by1 ti2 pa2 pn2 pc2) rfl ?_); intro w2 hr hb hz; have XB2 := Lib.hid hr; have XA2 := Lib.hid (XA1.out.below hb XA1.out.lt); have B2 := Lib.hid (B1.out.trans (hb.mono B1.out.size)); have a0 := XA2.out.cm'.c0; have b0 := XB2.out.cm'.c0; have a1 := XA2.out.cm'.c1; have b1 := XB2.out.cm'.c1; have a2 := XA2.out.cm'.c2; have b2 := XB2.out.cm'.c2; have a3 := XA2.out.cm'.c3; have b3 := XB2.out.cm'.c3; have a4 := XA2.out.cm'.c4; have b4 := XB2.out.cm'.c4; have a5 := XA2.out.cm'.c5; have b5 := XB2.out.cm'.c5; clear hr hb hz)
    | (go_at_call 48; (with_reducible refine (HV.out w2 B2.out).mono ?_); rintro e w3 ⟨rfl, hb⟩; have XA3 := Lib.hid (XA2.out.below hb XA2.out.lt); have XB3 := Lib.hid (XB2.out.below hb XB2.out.lt); have B3 := Lib.hid (B2.out.trans (hb.mono B2.out.size)); have a6 := XA3.out.cm'.c6; have b6 := XB3.out.cm'.c6; have a7 := XA3.out.cm'.c7; have b7 := XB3.out.cm'.c7; have a8 := XA3.out.cm'.c8; have b8 := XB3.out.cm'.c8; have a9 := XA3.out.cm'.c9; have b9 := XB3.out.cm'.c9; have a10 := XA3.out.cm'.c10; have b10 := XB3.out.cm'.c10; clear hb))
  go_ret
  exact ⟨one (vbool (by rw [HO.out])), B3.out⟩
set_option maxRecDepth 100000 in
set_option maxHeartbeats 8000000 in
theorem cmsame11 (cl sq kd id ep nu by1 ti : Int) (va : Option Addr) (vn vc : Nat) (V : List Cv) (sp nm : ByteArray) (pa : Option Addr) (pn pc : Nat) (PL : List Pc) (cl2 sq2 kd2 id2 ep2 nu2 by12 ti2 : Int) (va2 : Option Addr) (vn2 vc2 : Nat) (V2 : List Cv) (sp2 nm2 : ByteArray) (pa2 : Option Addr) (pn2 pc2 : Nat) (PL2 : List Pc) (vp : Bool) (w : World) (hV : Cvs w va vn vc V) (hV2 : Cvs w va2 vn2 vc2 V2) (hP : Ls pcE w pa pn pc PL) (hP2 : Ls pcE w pa2 pn2 pc2 PL2) (hvp : vp = true ↔ PL = PL2) (h0 : cl = cl2) (h1 : sq = sq2) (h2 : kd = kd2) (h3 : id = id2) (h4 : ep = ep2) (h5 : sameV V V2 = true) (h6 : sp.toList = sp2.toList) (h7 : nm.toList = nm2.toList) (h8 : nu = nu2) (h9 : by1 = by12) (h10 : ti = ti2) (h11 : vp = false) :
    Calls Try.prog 14 #[.agg (cmC cl sq kd id ep va vn vc sp nm nu by1 ti pa pn pc).toArray, .agg (cmC cl2 sq2 kd2 id2 ep2 va2 vn2 vc2 sp2 nm2 nu2 by12 ti2 pa2 pn2 pc2).toArray] w fun e w' => e = .returned (.bool (sameB ⟨cl, sq, kd, id, ep, V, sp, nm, nu, by1, ti, PL⟩ ⟨cl2, sq2, kd2, id2, ep2, V2, sp2, nm2, nu2, by12, ti2, PL2⟩ vp)) ∧ Below w.heap.size w w' := by
  subst h0
  subst h1
  subst h2
  subst h3
  subst h4
  obtain rfl := toL_eq h6
  clear h6
  obtain rfl := toL_eq h7
  clear h7
  subst h8
  subst h9
  subst h10
  have HO := Lib.hid (show sameB ⟨cl, sq, kd, id, ep, V, sp, nm, nu, by1, ti, PL⟩ ⟨cl, sq, kd, id, ep, V2, sp, nm, nu, by1, ti, PL2⟩ vp = false by unfold sameB; simp [h5, h11])
  have HV := Lib.hid (fun w' (hb : Below w.heap.size w w') => (by have q := csame_any va va2 vn vn2 vc vc2 V V2 w' (hV.mono hb) (hV2.mono hb); rw [h5] at q; exact q : Calls Try.prog 48 #[.slice va vn vc, .slice va2 vn2 vc2] w' fun e w'' => e = .returned (.bool true) ∧ Below w'.heap.size w' w''))
  have HP := Lib.hid (fun w' (hb : Below w.heap.size w w') => (by have q := psamepV pa pa2 pn pc pn2 pc2 PL PL2 vp w' (hP.mono pcOk hb) (hP2.mono pcOk hb) hvp; rw [h11] at q; exact q : Calls Try.prog 49 #[.slice pa pn pc, .slice pa2 pn2 pc2] w' fun e w'' => e = .returned (.bool false) ∧ Below w'.heap.size w' w''))
  clear hV hV2 hP hP2 hvp h5 h11
  go_enter Try.func14, Try.ntmps14
  go_wp2_with (first
    | ((with_reducible refine box_row (o := ⟨some 2, _, _, _, _, _⟩) rfl _ _ rfl (cmC cl sq kd id ep va vn vc sp nm nu by1 ti pa pn pc) rfl ?_); intro w1 hr hb hz; have XA1 := Lib.hid hr; have B1 := Lib.hid hb; clear hr hb hz)
    | ((with_reducible refine box_row (o := ⟨some 3, _, _, _, _, _⟩) rfl _ _ rfl (cmC cl sq kd id ep va2 vn2 vc2 sp nm nu by1 ti pa2 pn2 pc2) rfl ?_); intro w2 hr hb hz; have XB2 := Lib.hid hr; have XA2 := Lib.hid (XA1.out.below hb XA1.out.lt); have B2 := Lib.hid (B1.out.trans (hb.mono B1.out.size)); have a0 := XA2.out.cm'.c0; have b0 := XB2.out.cm'.c0; have a1 := XA2.out.cm'.c1; have b1 := XB2.out.cm'.c1; have a2 := XA2.out.cm'.c2; have b2 := XB2.out.cm'.c2; have a3 := XA2.out.cm'.c3; have b3 := XB2.out.cm'.c3; have a4 := XA2.out.cm'.c4; have b4 := XB2.out.cm'.c4; have a5 := XA2.out.cm'.c5; have b5 := XB2.out.cm'.c5; clear hr hb hz)
    | (go_at_call 48; (with_reducible refine (HV.out w2 B2.out).mono ?_); rintro e w3 ⟨rfl, hb⟩; have XA3 := Lib.hid (XA2.out.below hb XA2.out.lt); have XB3 := Lib.hid (XB2.out.below hb XB2.out.lt); have B3 := Lib.hid (B2.out.trans (hb.mono B2.out.size)); have a6 := XA3.out.cm'.c6; have b6 := XB3.out.cm'.c6; have a7 := XA3.out.cm'.c7; have b7 := XB3.out.cm'.c7; have a8 := XA3.out.cm'.c8; have b8 := XB3.out.cm'.c8; have a9 := XA3.out.cm'.c9; have b9 := XB3.out.cm'.c9; have a10 := XA3.out.cm'.c10; have b10 := XB3.out.cm'.c10; have a11 := XA3.out.cm'.c11; have b11 := XB3.out.cm'.c11; clear hb)
    | (go_at_call 49; (with_reducible refine (HP.out w3 B3.out).mono ?_); rintro e w4 ⟨rfl, hb⟩; have B4 := Lib.hid (B3.out.trans (hb.mono B3.out.size)); clear hb))
  go_ret
  exact ⟨one (vbool (by rw [HO.out])), B4.out⟩
set_option maxRecDepth 100000 in
set_option maxHeartbeats 8000000 in
theorem cmsame12 (cl sq kd id ep nu by1 ti : Int) (va : Option Addr) (vn vc : Nat) (V : List Cv) (sp nm : ByteArray) (pa : Option Addr) (pn pc : Nat) (PL : List Pc) (cl2 sq2 kd2 id2 ep2 nu2 by12 ti2 : Int) (va2 : Option Addr) (vn2 vc2 : Nat) (V2 : List Cv) (sp2 nm2 : ByteArray) (pa2 : Option Addr) (pn2 pc2 : Nat) (PL2 : List Pc) (vp : Bool) (w : World) (hV : Cvs w va vn vc V) (hV2 : Cvs w va2 vn2 vc2 V2) (hP : Ls pcE w pa pn pc PL) (hP2 : Ls pcE w pa2 pn2 pc2 PL2) (hvp : vp = true ↔ PL = PL2) (h0 : cl = cl2) (h1 : sq = sq2) (h2 : kd = kd2) (h3 : id = id2) (h4 : ep = ep2) (h5 : sameV V V2 = true) (h6 : sp.toList = sp2.toList) (h7 : nm.toList = nm2.toList) (h8 : nu = nu2) (h9 : by1 = by12) (h10 : ti = ti2) (h11 : vp = true) :
    Calls Try.prog 14 #[.agg (cmC cl sq kd id ep va vn vc sp nm nu by1 ti pa pn pc).toArray, .agg (cmC cl2 sq2 kd2 id2 ep2 va2 vn2 vc2 sp2 nm2 nu2 by12 ti2 pa2 pn2 pc2).toArray] w fun e w' => e = .returned (.bool (sameB ⟨cl, sq, kd, id, ep, V, sp, nm, nu, by1, ti, PL⟩ ⟨cl2, sq2, kd2, id2, ep2, V2, sp2, nm2, nu2, by12, ti2, PL2⟩ vp)) ∧ Below w.heap.size w w' := by
  subst h0
  subst h1
  subst h2
  subst h3
  subst h4
  obtain rfl := toL_eq h6
  clear h6
  obtain rfl := toL_eq h7
  clear h7
  subst h8
  subst h9
  subst h10
  have HO := Lib.hid (show sameB ⟨cl, sq, kd, id, ep, V, sp, nm, nu, by1, ti, PL⟩ ⟨cl, sq, kd, id, ep, V2, sp, nm, nu, by1, ti, PL2⟩ vp = true by unfold sameB; simp [h5, h11])
  have HV := Lib.hid (fun w' (hb : Below w.heap.size w w') => (by have q := csame_any va va2 vn vn2 vc vc2 V V2 w' (hV.mono hb) (hV2.mono hb); rw [h5] at q; exact q : Calls Try.prog 48 #[.slice va vn vc, .slice va2 vn2 vc2] w' fun e w'' => e = .returned (.bool true) ∧ Below w'.heap.size w' w''))
  have HP := Lib.hid (fun w' (hb : Below w.heap.size w w') => (by have q := psamepV pa pa2 pn pc pn2 pc2 PL PL2 vp w' (hP.mono pcOk hb) (hP2.mono pcOk hb) hvp; rw [h11] at q; exact q : Calls Try.prog 49 #[.slice pa pn pc, .slice pa2 pn2 pc2] w' fun e w'' => e = .returned (.bool true) ∧ Below w'.heap.size w' w''))
  clear hV hV2 hP hP2 hvp h5 h11
  go_enter Try.func14, Try.ntmps14
  go_wp2_with (first
    | ((with_reducible refine box_row (o := ⟨some 2, _, _, _, _, _⟩) rfl _ _ rfl (cmC cl sq kd id ep va vn vc sp nm nu by1 ti pa pn pc) rfl ?_); intro w1 hr hb hz; have XA1 := Lib.hid hr; have B1 := Lib.hid hb; clear hr hb hz)
    | ((with_reducible refine box_row (o := ⟨some 3, _, _, _, _, _⟩) rfl _ _ rfl (cmC cl sq kd id ep va2 vn2 vc2 sp nm nu by1 ti pa2 pn2 pc2) rfl ?_); intro w2 hr hb hz; have XB2 := Lib.hid hr; have XA2 := Lib.hid (XA1.out.below hb XA1.out.lt); have B2 := Lib.hid (B1.out.trans (hb.mono B1.out.size)); have a0 := XA2.out.cm'.c0; have b0 := XB2.out.cm'.c0; have a1 := XA2.out.cm'.c1; have b1 := XB2.out.cm'.c1; have a2 := XA2.out.cm'.c2; have b2 := XB2.out.cm'.c2; have a3 := XA2.out.cm'.c3; have b3 := XB2.out.cm'.c3; have a4 := XA2.out.cm'.c4; have b4 := XB2.out.cm'.c4; have a5 := XA2.out.cm'.c5; have b5 := XB2.out.cm'.c5; clear hr hb hz)
    | (go_at_call 48; (with_reducible refine (HV.out w2 B2.out).mono ?_); rintro e w3 ⟨rfl, hb⟩; have XA3 := Lib.hid (XA2.out.below hb XA2.out.lt); have XB3 := Lib.hid (XB2.out.below hb XB2.out.lt); have B3 := Lib.hid (B2.out.trans (hb.mono B2.out.size)); have a6 := XA3.out.cm'.c6; have b6 := XB3.out.cm'.c6; have a7 := XA3.out.cm'.c7; have b7 := XB3.out.cm'.c7; have a8 := XA3.out.cm'.c8; have b8 := XB3.out.cm'.c8; have a9 := XA3.out.cm'.c9; have b9 := XB3.out.cm'.c9; have a10 := XA3.out.cm'.c10; have b10 := XB3.out.cm'.c10; have a11 := XA3.out.cm'.c11; have b11 := XB3.out.cm'.c11; clear hb)
    | (go_at_call 49; (with_reducible refine (HP.out w3 B3.out).mono ?_); rintro e w4 ⟨rfl, hb⟩; have B4 := Lib.hid (B3.out.trans (hb.mono B3.out.size)); clear hb))
  go_ret
  exact ⟨one (vbool (by rw [HO.out])), B4.out⟩
theorem cmsame (x y : CmX) (vp : Bool) (w : World) (hx : x.fit w) (hy : y.fit w) (hvp : vp = true ↔ x.m.P = y.m.P) :
    Calls Try.prog 14 #[.agg x.cells.toArray, .agg y.cells.toArray] w fun e w' => e = .returned (.bool (sameB x.m y.m vp)) ∧ Below w.heap.size w w' := by
  obtain ⟨⟨cl, sq, kd, id, ep, V, sp, nm, nu, by1, ti, PL⟩, va, vn, vc, pa, pn, pc⟩ := x
  obtain ⟨⟨cl2, sq2, kd2, id2, ep2, V2, sp2, nm2, nu2, by12, ti2, PL2⟩, va2, vn2, vc2, pa2, pn2, pc2⟩ := y
  have hV := hx.V
  have hV2 := hy.V
  have hP := hx.P
  have hP2 := hy.P
  dsimp only at hV hV2 hP hP2 hvp ⊢
  clear hx hy
  by_cases h0 : cl = cl2
  rotate_left
  · exact cmsame0 cl sq kd id ep nu by1 ti va vn vc V sp nm pa pn pc PL cl2 sq2 kd2 id2 ep2 nu2 by12 ti2 va2 vn2 vc2 V2 sp2 nm2 pa2 pn2 pc2 PL2 vp w hV hV2 hP hP2 hvp h0
  · skip
    by_cases h1 : sq = sq2
    rotate_left
    · exact cmsame1 cl sq kd id ep nu by1 ti va vn vc V sp nm pa pn pc PL cl2 sq2 kd2 id2 ep2 nu2 by12 ti2 va2 vn2 vc2 V2 sp2 nm2 pa2 pn2 pc2 PL2 vp w hV hV2 hP hP2 hvp h0 h1
    · skip
      by_cases h2 : kd = kd2
      rotate_left
      · exact cmsame2 cl sq kd id ep nu by1 ti va vn vc V sp nm pa pn pc PL cl2 sq2 kd2 id2 ep2 nu2 by12 ti2 va2 vn2 vc2 V2 sp2 nm2 pa2 pn2 pc2 PL2 vp w hV hV2 hP hP2 hvp h0 h1 h2
      · skip
        by_cases h3 : id = id2
        rotate_left
        · exact cmsame3 cl sq kd id ep nu by1 ti va vn vc V sp nm pa pn pc PL cl2 sq2 kd2 id2 ep2 nu2 by12 ti2 va2 vn2 vc2 V2 sp2 nm2 pa2 pn2 pc2 PL2 vp w hV hV2 hP hP2 hvp h0 h1 h2 h3
        · skip
          by_cases h4 : ep = ep2
          rotate_left
          · exact cmsame4 cl sq kd id ep nu by1 ti va vn vc V sp nm pa pn pc PL cl2 sq2 kd2 id2 ep2 nu2 by12 ti2 va2 vn2 vc2 V2 sp2 nm2 pa2 pn2 pc2 PL2 vp w hV hV2 hP hP2 hvp h0 h1 h2 h3 h4
          · skip
            cases h5 : sameV V V2
            · exact cmsame5 cl sq kd id ep nu by1 ti va vn vc V sp nm pa pn pc PL cl2 sq2 kd2 id2 ep2 nu2 by12 ti2 va2 vn2 vc2 V2 sp2 nm2 pa2 pn2 pc2 PL2 vp w hV hV2 hP hP2 hvp h0 h1 h2 h3 h4 h5
            · skip
              by_cases h6 : sp.toList = sp2.toList
              rotate_left
              · exact cmsame6 cl sq kd id ep nu by1 ti va vn vc V sp nm pa pn pc PL cl2 sq2 kd2 id2 ep2 nu2 by12 ti2 va2 vn2 vc2 V2 sp2 nm2 pa2 pn2 pc2 PL2 vp w hV hV2 hP hP2 hvp h0 h1 h2 h3 h4 h5 h6
              · skip
                by_cases h7 : nm.toList = nm2.toList
                rotate_left
                · exact cmsame7 cl sq kd id ep nu by1 ti va vn vc V sp nm pa pn pc PL cl2 sq2 kd2 id2 ep2 nu2 by12 ti2 va2 vn2 vc2 V2 sp2 nm2 pa2 pn2 pc2 PL2 vp w hV hV2 hP hP2 hvp h0 h1 h2 h3 h4 h5 h6 h7
                · skip
                  by_cases h8 : nu = nu2
                  rotate_left
                  · exact cmsame8 cl sq kd id ep nu by1 ti va vn vc V sp nm pa pn pc PL cl2 sq2 kd2 id2 ep2 nu2 by12 ti2 va2 vn2 vc2 V2 sp2 nm2 pa2 pn2 pc2 PL2 vp w hV hV2 hP hP2 hvp h0 h1 h2 h3 h4 h5 h6 h7 h8
                  · skip
                    by_cases h9 : by1 = by12
                    rotate_left
                    · exact cmsame9 cl sq kd id ep nu by1 ti va vn vc V sp nm pa pn pc PL cl2 sq2 kd2 id2 ep2 nu2 by12 ti2 va2 vn2 vc2 V2 sp2 nm2 pa2 pn2 pc2 PL2 vp w hV hV2 hP hP2 hvp h0 h1 h2 h3 h4 h5 h6 h7 h8 h9
                    · skip
                      by_cases h10 : ti = ti2
                      rotate_left
                      · exact cmsame10 cl sq kd id ep nu by1 ti va vn vc V sp nm pa pn pc PL cl2 sq2 kd2 id2 ep2 nu2 by12 ti2 va2 vn2 vc2 V2 sp2 nm2 pa2 pn2 pc2 PL2 vp w hV hV2 hP hP2 hvp h0 h1 h2 h3 h4 h5 h6 h7 h8 h9 h10
                      · skip
                        cases vp
                        · exact cmsame11 cl sq kd id ep nu by1 ti va vn vc V sp nm pa pn pc PL cl2 sq2 kd2 id2 ep2 nu2 by12 ti2 va2 vn2 vc2 V2 sp2 nm2 pa2 pn2 pc2 PL2 false w hV hV2 hP hP2 hvp h0 h1 h2 h3 h4 h5 h6 h7 h8 h9 h10 rfl
                        · skip
                          exact cmsame12 cl sq kd id ep nu by1 ti va vn vc V sp nm pa pn pc PL cl2 sq2 kd2 id2 ep2 nu2 by12 ti2 va2 vn2 vc2 V2 sp2 nm2 pa2 pn2 pc2 PL2 true w hV hV2 hP hP2 hvp h0 h1 h2 h3 h4 h5 h6 h7 h8 h9 h10 rfl
end Go.Proofs.Ytmacjpgeamlmhaa.W
