/- Several texts in one. -/
import Derived.Test.YtibjgaelaijgpaaGreatDoorX6
import Derived.Deep.Cut
import Derived.Deep.SlicePairs
import Derived.Test.YtibjgaelaijgpaaGreatDoorRows
import Derived.Test.YtibjgaelaijgpaaGreatDoorOp2
import Derived.ProofKit
import Derived.OpenShut
import Derived.Lib.SmallJoins
import Derived.Lib.AppendStr
/- Package sip: Rewrite. -/
namespace Go.Proofs.YtibjgaelaijgpaaGreatDoor
open Go.RowKit Go.Shelf
set_option maxRecDepth 100000
set_option linter.unusedVariables false
set_option linter.unusedSimpArgs false

/-- An address as a text. -/
def adB (a : Int) : ByteArray := rowB tDot (ad4 a)
def cgOf (h t p q : Int) (ml : List (Int × Int)) : Cg := ⟨adB h, adB t, p, q, ml⟩
/-- May a message be changed? -/
def rwOk (c : Cg) (st : ByteArray) (hs : List Hr) (zb : List Int) : Bool := rgB st hs zb.length && rgB st (mgH c (bdB c (strOfNums zb)).size hs) (bdB c (strOfNums zb)).size
def rwHs (c : Cg) (st : ByteArray) (hs : List Hr) (zb : List Int) : List Hr := if rwOk c st hs zb = true then mgH c (bdB c (strOfNums zb)).size hs else hs
def rwZb (c : Cg) (st : ByteArray) (hs : List Hr) (zb : List Int) : List Int := if rwOk c st hs zb = true then nmsB (bdB c (strOfNums zb)) else zb
theorem adB_size (a : Int) (h : 0 ≤ a ∧ a ≤ 4294967295) : (adB a).size ≤ 24 := Nat.le_trans (rowB_size tDot (ad4 a) (ad4_by a h)) (by simp [ad4, tDot, ByteArray.size])
theorem decB_len (n : Nat) (h : n < 10 ^ 20) : (decB n).size ≤ 20 := by
  have := nDig_le 20 n h (by omega)
  unfold decB
  simpa [ByteArray.size] using this
theorem wiB_size (c : Cg) (hc : c.wf) (v m e : ByteArray) : (wiB c v m e).size ≤ 3 * v.size + m.size + 2000 := by
  have h1 := cut_size v m
  unfold wiB
  split
  · omega
  · have h2 := plB_size c hc ((cutZ v m).extract 0 (endP e (cutZ v m)))
    simp only [ByteArray.size_append, ByteArray.size_extract] at h2 ⊢
    omega
theorem vuB_size (c : Cg) (hc : c.wf) (n : Nat) (hn : n < 10 ^ 20) (h : Hr) : (vuB c n h).size ≤ 3 * h.2.size + 2020 := by
  unfold vuB
  split
  · have := wiB_size c hc h.2 mkV enV; have e : mkV.size = 12 := rfl; omega
  split
  · have := wiB_size c hc h.2 mkC enK; have e : mkC.size = 1 := rfl; omega
  split
  · have := decB_len n hn; omega
  · omega
theorem mgH_hsz (c : Cg) (hc : c.wf) (n : Nat) (hn : n < 10 ^ 20) (hs : List Hr) : hsz (mgH c n hs) ≤ 3 * hsz hs + 2020 * hs.length := by
  induction hs with
  | nil => exact Nat.le_refl _
  | cons h t ih =>
    have := vuB_size c hc n hn h
    unfold mgH hsz at ih ⊢
    simp only [List.map_cons, List.sum_cons, List.length_cons] at ih ⊢
    omega
theorem rgB_facts {st : ByteArray} {hs : List Hr} {n : Nat} (h : rgB st hs n = true) : hs.length ≤ 64 ∧ n ≤ 4096 ∧ st.size ≤ 4096 ∧ hsz hs ≤ 4096 ∧ (∀ x ∈ hs, x.1.size ≤ 4096 ∧ x.2.size ≤ 4096) := by
  unfold rgB rhB szM at h
  simp only [Bool.and_eq_true, decide_eq_true_eq] at h
  obtain ⟨_, _, ⟨h1, _⟩, h2⟩ := h
  exact ⟨h1, by omega, by omega, by omega, fun x hx => by have := hsz_mem hx; omega⟩

set_option maxRecDepth 100000 in
set_option maxHeartbeats 8000000 in
theorem rewrite14_any (h t p q : Int) (ml : List (Int × Int)) (mv : Value) (st : ByteArray) (sv sb : Value) (hs : List Hr) (zb : List Int) (w : World) (hT : TabI w) (hM : TabM w) (hh : 0 ≤ h ∧ h ≤ 4294967295) (ht : 0 ≤ t ∧ t ≤ 4294967295) (hc : (cgOf h t p q ml).wf) (hI : RdP2 w.heap.size w mv ml) (hH : RdM w.heap.size w sv hs) (hB : Rd w.heap.size w sb zb) (hzl : zb.length ≤ 140737488355328) (hhl : hs.length ≤ 5000) (hz : szM st hs zb.length ≤ 9000000000000000000) :
    Calls Tryz.prog 11 #[.agg #[.string st, sv, sb], .int .u32 h, .int .u32 t, .int .u16 p, .int .u16 q, mv] w fun e w' => Later w w' ∧ ∃ vh vb, e = .returned (.agg #[.string st, vh, vb]) ∧ w'.ownsRow w.heap.size 44 2 vh (rwHs (cgOf h t p q ml) st hs zb).length (hrs (rwHs (cgOf h t p q ml) st hs zb)) ∧ Ow w.heap.size w' vb (rwZb (cgOf h t p q ml) st hs zb) := by
  obtain ⟨sa, scp, rfl, hsc1, hsc2⟩ := hH.slice
  obtain ⟨ba, bcp, rfl, hbc1, hbc2⟩ := hB.slice
  obtain ⟨ma, mc, rfl, hmc1, hmc2⟩ := hI.slice
  have hb4 : Later w ((w.alloc (.cells #[.string st, .slice sa hs.length scp, .slice ba zb.length bcp] 25)).alloc (.cells #[.string ⟨#[]⟩, .slice none 0 0, .slice none 0 0] 25)) := ((Below.refl _ _).alloc (Nat.le_refl _) _).alloc (by simp) _
  have C0 := hide (show ((w.alloc (.cells #[.string st, .slice sa hs.length scp, .slice ba zb.length bcp] 25)).alloc (.cells #[.string ⟨#[]⟩, .slice none 0 0, .slice none 0 0] 25)).heap[w.heap.size]? = some (.cells #[.string st, .slice sa hs.length scp, .slice ba zb.length bcp] 25 (0, 0)) from (Below.heap_alloc _ _ _ (by simp)).trans (heap_alloc_new w _))
  have C1 : Hid (((w.alloc (.cells #[.string st, .slice sa hs.length scp, .slice ba zb.length bcp] 25)).alloc (.cells #[.string ⟨#[]⟩, .slice none 0 0, .slice none 0 0] 25)).heap[w.heap.size + 1]? = some (.cells #[.string ⟨#[]⟩, .slice none 0 0, .slice none 0 0] 25 (0, 0))) := by
    have := heap_alloc_new (w.alloc (.cells #[.string st, .slice sa hs.length scp, .slice ba zb.length bcp] 25)) (.cells #[.string ⟨#[]⟩, .slice none 0 0, .slice none 0 0] 25)
    rw [World.size_alloc] at this
    exact this
  have HRH : Hid (rwHs (cgOf h t p q ml) st hs zb = if rwOk (cgOf h t p q ml) st hs zb = true then mgH (cgOf h t p q ml) (bdB (cgOf h t p q ml) (strOfNums zb)).size hs else hs) := rfl
  have HRZ : Hid (rwZb (cgOf h t p q ml) st hs zb = if rwOk (cgOf h t p q ml) st hs zb = true then nmsB (bdB (cgOf h t p q ml) (strOfNums zb)) else zb) := rfl
  have HOK : Hid (rwOk (cgOf h t p q ml) st hs zb = (rgB st hs zb.length && rgB st (mgH (cgOf h t p q ml) (bdB (cgOf h t p q ml) (strOfNums zb)).size hs) (bdB (cgOf h t p q ml) (strOfNums zb)).size)) := rfl
  generalize rwHs (cgOf h t p q ml) st hs zb = rh at *
  generalize rwZb (cgOf h t p q ml) st hs zb = rz at *
  generalize rwOk (cgOf h t p q ml) st hs zb = ok at *
  have HRG := hide (fun W (l : Later w W) => right14_any st hs (.slice sa hs.length scp) (.slice ba zb.length bcp) zb W (hT.later l) (hH.later l) (hB.later l) hz)
  have HF : Hid (rgB st hs zb.length = true → hs.length ≤ 64 ∧ zb.length ≤ 4096 ∧ st.size ≤ 4096 ∧ hsz hs ≤ 4096 ∧ (∀ x ∈ hs, x.1.size ≤ 4096 ∧ x.2.size ≤ 4096)) := fun h => rgB_facts h
  generalize rgB st hs zb.length = b1 at *
  go_enter Tryz.func11, Tryz.ntmps11
  go_upto_region 1 with fail
  generalize (w.alloc (.cells #[.string st, .slice sa hs.length scp, .slice ba zb.length bcp] 25)).alloc (.cells #[.string ⟨#[]⟩, .slice none 0 0, .slice none 0 0] 25) = w4 at *
  generalize hgc : w.heap.size = gc at C0 C1 ⊢
  have k0 := block_cell C0.out
  go_wp2_with fail
  refine (HRG.out w4 hb4).mono ?_
  rintro e w5 ⟨rfl, l5⟩
  clear k0
  have L5 := Later.trans hb4 l5
  cases b1 with
  | false =>
    have HRH2 := HRH; have HRZ2 := HRZ
    have hok : ok = false := HOK.out
    have L52 := l5
    replace HRH : Hid (rh = hs) := by have := HRH2.out; rw [hok] at this; exact this
    replace HRZ : Hid (rz = zb) := by have := HRZ2.out; rw [hok] at this; exact this
    have kM := block_cell (later_keep (L52) C0.out)
    go_wp2_with fail
    refine (own_any st _ _ hs zb w5 (hH.later L5) (hB.later L5) (by omega) hzl).mono ?_
    rintro e W9 ⟨l9, vh, vb, rfl, hr9, hO9⟩
    obtain ⟨va, vc, rfl⟩ := owns_form hr9
    obtain ⟨xa, xc, rfl, _, _⟩ := hO9.slice
    clear kM
    have HA := later_keep ((L52).trans l9) C1.out
    have kA := block_cell HA
    have fA := block_frozen HA
    have LL := (L5).trans l9
    go_wp2_with fail
    generalize hV : (((W9.setCell ⟨gc + 1, 0, none⟩ _).setCell ⟨gc + 1, 1, none⟩ _).setCell ⟨gc + 1, 2, none⟩ _) = V8
    have hV9 : V8 = putRow W9 (gc + 1) 0 [.string st, .slice va hs.length vc, .slice xa zb.length xc] := hV.symm
    have hb8 : But (fun b => b = gc + 1) W9 V8 := by rw [hV9]; exact putRow_but (E := fun b => b = gc + 1) (n := gc + 1) rfl _ _ _ _ (But.refl _ _)
    have p8 := putRow_all [.string st, .slice va hs.length vc, .slice xa zb.length xc] HA rfl
    rw [← hV9] at p8
    clear hV hV9
    have P8 := block_cell p8
    have hw8 : Later w V8 := Below.trans LL (hb8.below (LL).size (fun k h e => by omega))
    have hr8 := own_but (base' := w.heap.size) hr9 hb8 HA (by decide) (L5).size
    have hO8 : Ow w.heap.size V8 (.slice xa zb.length xc) zb := (hO9.but hb8 (fun b h e => by have := (Array.getElem?_eq_some_iff.1 (later_keep (L52) C1.out)).1; omega)).mono (L5).size
    exact bodyPost_ret (v := .agg #[.string st, .slice va hs.length vc, .slice xa zb.length xc]) (by simp [results, Tryz.results11, go_sem, P8]) rfl ⟨hw8, _, _, rfl, (by rw [HRH.out]; exact hr8), (by rw [HRZ.out]; exact hO8)⟩
  | true =>
    obtain ⟨hf1, hf2, hf3, hf4, hf5⟩ := HF.out rfl
    have HA1 := hide (fun W (l : Later w W) => address_any h hh W (hT.later l))
    have HA2 := hide (fun W (l : Later w W) => address_any t ht W (hT.later l))
    have HMG := hide (fun W (l : Later w W) => message_any (cgOf h t p q ml) (.slice ma ml.length mc) st (.slice sa hs.length scp) (.slice ba zb.length bcp) hs zb W (hT.later l) (hM.later l) hc (hI.later l) (hH.later l) (hB.later l) hf2 hf1 hf5)
    have hnbs := bdB_size (cgOf h t p q ml) hc (strOfNums zb) (by rw [strOfNums_size]; exact hf2)
    have hmh := mgH_hsz (cgOf h t p q ml) hc (bdB (cgOf h t p q ml) (strOfNums zb)).size (by omega) hs
    have hml : (mgH (cgOf h t p q ml) (bdB (cgOf h t p q ml) (strOfNums zb)).size hs).length = hs.length := by unfold mgH; simp
    have HML := hide hml
    clear hml
    have HMG2 : Hid (∀ W, Later w W → Calls Tryz.prog 24 #[.agg #[.string (rowB tDot (ad4 h)), .string (rowB tDot (ad4 t)), .int .u16 p, .int .u16 q, .slice ma ml.length mc], .agg #[.string st, .slice sa hs.length scp, .slice ba zb.length bcp]] W fun e w' => Later W w' ∧ ∃ vh vb, e = .returned (.agg #[.string st, vh, vb]) ∧ w'.ownsRow W.heap.size 44 2 vh hs.length (hrs (mgH (cgOf h t p q ml) (bdB (cgOf h t p q ml) (strOfNums zb)).size hs)) ∧ w'.ownsRow W.heap.size 5 1 vb (bdB (cgOf h t p q ml) (strOfNums zb)).size (nvs (bdB (cgOf h t p q ml) (strOfNums zb)))) := HMG.out
    clear HMG
    generalize mgH (cgOf h t p q ml) (bdB (cgOf h t p q ml) (strOfNums zb)).size hs = mh at *
    generalize bdB (cgOf h t p q ml) (strOfNums zb) = nb at *
    generalize rowB tDot (ad4 h) = ra at *
    generalize rowB tDot (ad4 t) = rb at *
    go_wp2_with fail
    refine (HA1.out w5 L5).mono ?_
    rintro e w6 ⟨rfl, l6⟩
    have l6' : Later w5 w6 := l6
    go_wp2_with fail
    refine (HA2.out w6 (L5.trans l6')).mono ?_
    rintro e w7 ⟨rfl, l7⟩
    have l7' : Later w6 w7 := l7
    have L7 := L5.trans (l6'.trans l7')
    have K7 := l5.trans (l6'.trans l7')
    clear HA1 HA2 l6 l7
    have la := later_allocR w7 (.cells #[.string ra, .string rb, .int .u16 p, .int .u16 q, .slice ma ml.length mc] 64)
    have CG := hide (heap_alloc_new w7 (.cells #[.string ra, .string rb, .int .u16 p, .int .u16 q, .slice ma ml.length mc] 64))
    go_upto_region 4 with fail
    generalize w7.alloc _ = w8 at *
    generalize w7.heap.size = gg at *
    have L8 := L7.trans la
    have K8 := K7.trans la
    have kG := block_cell CG.out
    have kM := block_cell (later_keep K8 C0.out)
    go_wp2_with fail
    refine (HMG2.out w8 L8).mono ?_
    rintro e w9 ⟨l9, vh, vb, rfl, hrH, hrB⟩
    obtain ⟨va, vc, rfl⟩ := owns_form hrH
    obtain ⟨xa, xc, rfl⟩ := owns_form hrB
    clear kG kM
    have L9 := L8.trans l9
    have K9 := K8.trans l9
    have lb := later_allocR w9 (.cells #[.string st, .slice va hs.length vc, .slice xa nb.size xc] 25)
    have CN := hide (heap_alloc_new w9 (.cells #[.string st, .slice va hs.length vc, .slice xa nb.size xc] 25))
    have hrH2 := hrH
    rw [← HML.out] at hrH2
    have hH9 := hide (ownM_rd hrH2)
    rw [HML.out] at hH9
    have hO9 : Ow w8.heap.size w9 (.slice xa nb.size xc) (nmsB nb) := Ow.of_row hrB
    go_upto_region 5 with fail
    have hH10 := hide (hH9.out.later lb)
    have hO10 := hide (hO9.rd.later lb)
    have hr10 := hide (owns_mono (base' := w.heap.size) (ownsS_ct hrH (CTs.of lb)) L8.size)
    have hb10 := hide (owns_mono (base' := w.heap.size) (ownsS_ct hrB (CTs.of lb)) L8.size)
    have L10 := L9.trans lb
    have K10 := K9.trans lb
    clear hH9 hO9 hrH hrB hrH2
    generalize w9.alloc _ = w10 at *
    generalize w9.heap.size = gz at *
    have kN := block_cell CN.out
    go_wp2_with fail
    have hnl : (nmsB nb).length = nb.size := nmsB_len nb
    have HR2 := hide (right14_any st mh (.slice va hs.length vc) (.slice xa nb.size xc) (nmsB nb) w10 (hT.later L10) hH10.out hO10.out (by unfold szM; rw [hnl]; omega))
    rw [hnl] at HR2
    clear hnl
    refine HR2.out.mono ?_
    rintro e w11 ⟨rfl, l11⟩
    clear kN HR2
    have L11 := L10.trans l11
    have K11 := K10.trans l11
    cases hr2 : rgB st mh nb.size with
    | true =>
      have hok : ok = true := by rw [HOK.out, hr2]; rfl
      replace HRH : Hid (rh = mh) := by have := HRH.out; rw [hok] at this; exact this
      replace HRZ : Hid (rz = nmsB nb) := by have := HRZ.out; rw [hok] at this; exact this
      clear hok hr2
      have hr11 := hide (ownsS_ct hr10.out (CTs.of l11))
      have hb11 := hide (ownsS_ct hb10.out (CTs.of l11))
      have kN := block_cell (later_keep l11 CN.out)
      have HA := later_keep K11 C1.out
      have kA := block_cell HA
      have fA := block_frozen HA
      go_wp2_with fail
      generalize hV : (((w11.setCell ⟨gc + 1, 0, none⟩ _).setCell ⟨gc + 1, 1, none⟩ _).setCell ⟨gc + 1, 2, none⟩ _) = V8
      have hV9 : V8 = putRow w11 (gc + 1) 0 [.string st, .slice va hs.length vc, .slice xa nb.size xc] := hV.symm
      have hb8 : But (fun b => b = gc + 1) w11 V8 := by rw [hV9]; exact putRow_but (E := fun b => b = gc + 1) (n := gc + 1) rfl _ _ _ _ (But.refl _ _)
      have p8 := putRow_all [.string st, .slice va hs.length vc, .slice xa nb.size xc] HA rfl
      rw [← hV9] at p8
      clear hV hV9
      have P8 := block_cell p8
      have hw8 : Later w V8 := Below.trans L11 (hb8.below (L11).size (fun k h e => by omega))
      have hr8 := own_but (base' := w.heap.size) hr11.out hb8 HA (by decide) (Nat.le_refl _)
      have hb8' := own_but (base' := w.heap.size) hb11.out hb8 HA (by decide) (Nat.le_refl _)
      exact bodyPost_ret (v := .agg #[.string st, .slice va hs.length vc, .slice xa nb.size xc]) (by simp [results, Tryz.results11, go_sem, P8]) rfl ⟨hw8, _, _, rfl, (by rw [HRH.out, HML.out]; exact hr8), (by rw [HRZ.out]; exact Ow.of_row hb8')⟩
    | false =>
      have hok : ok = false := by rw [HOK.out, hr2]; rfl
      have HRH2 := HRH; have HRZ2 := HRZ
      replace HRH : Hid (rh = hs) := by have := HRH2.out; rw [hok] at this; exact this
      replace HRZ : Hid (rz = zb) := by have := HRZ2.out; rw [hok] at this; exact this
      clear hok hr2 HRH2 HRZ2
      have L112 := K11
      have kM := block_cell (later_keep (L112) C0.out)
      go_wp2_with fail
      refine (own_any st _ _ hs zb w11 (hH.later L11) (hB.later L11) (by omega) hzl).mono ?_
      rintro e W9 ⟨l9, vh, vb, rfl, hr9, hO9⟩
      obtain ⟨va, vc, rfl⟩ := owns_form hr9
      obtain ⟨xa, xc, rfl, _, _⟩ := hO9.slice
      clear kM
      have HA := later_keep ((L112).trans l9) C1.out
      have kA := block_cell HA
      have fA := block_frozen HA
      have LL := (L11).trans l9
      go_wp2_with fail
      generalize hV : (((W9.setCell ⟨gc + 1, 0, none⟩ _).setCell ⟨gc + 1, 1, none⟩ _).setCell ⟨gc + 1, 2, none⟩ _) = V8
      have hV9 : V8 = putRow W9 (gc + 1) 0 [.string st, .slice va hs.length vc, .slice xa zb.length xc] := hV.symm
      have hb8 : But (fun b => b = gc + 1) W9 V8 := by rw [hV9]; exact putRow_but (E := fun b => b = gc + 1) (n := gc + 1) rfl _ _ _ _ (But.refl _ _)
      have p8 := putRow_all [.string st, .slice va hs.length vc, .slice xa zb.length xc] HA rfl
      rw [← hV9] at p8
      clear hV hV9
      have P8 := block_cell p8
      have hw8 : Later w V8 := Below.trans LL (hb8.below (LL).size (fun k h e => by omega))
      have hr8 := own_but (base' := w.heap.size) hr9 hb8 HA (by decide) (L11).size
      have hO8 : Ow w.heap.size V8 (.slice xa zb.length xc) zb := (hO9.but hb8 (fun b h e => by have := (Array.getElem?_eq_some_iff.1 (later_keep (L112) C1.out)).1; omega)).mono (L11).size
      exact bodyPost_ret (v := .agg #[.string st, .slice va hs.length vc, .slice xa zb.length xc]) (by simp [results, Tryz.results11, go_sem, P8]) rfl ⟨hw8, _, _, rfl, (by rw [HRH.out]; exact hr8), (by rw [HRZ.out]; exact hO8)⟩
end Go.Proofs.YtibjgaelaijgpaaGreatDoor

/- How arguments of package sip's laws read: messages, changes. -/
namespace Go.Proofs.YtibjgaelaijgpaaGreatDoor
open Go.ChangeShapes Go.WideShapes Go.ChangeAt Go.RowKit Go.Joins
set_option maxRecDepth 100000
set_option linter.unusedVariables false
set_option linter.unusedSimpArgs false

theorem arr3s {α : Type} {l : Array α} (h : l.size = 3) : ∃ a b c, l = #[a, b, c] := by
  obtain ⟨l⟩ := l
  match l, h with
  | [a, b, c], _ => exact ⟨a, b, c, rfl⟩
theorem lst3s {α : Type} {l : List α} (h : l.length = 3) : ∃ a b c, l = [a, b, c] := by
  match l, h with
  | [a, b, c], _ => exact ⟨a, b, c, rfl⟩
theorem arr5s {α : Type} {l : Array α} (h : l.size = 5) : ∃ a b c d e, l = #[a, b, c, d, e] := by
  obtain ⟨l⟩ := l
  match l, h with
  | [a, b, c, d, e], _ => exact ⟨a, b, c, d, e, rfl⟩
theorem lst5s {α : Type} {l : List α} (h : l.length = 5) : ∃ a b c d e, l = [a, b, c, d, e] := by
  match l, h with
  | [a, b, c, d, e], _ => exact ⟨a, b, c, d, e, rfl⟩
theorem wAll_at {H : Type} (P : Program) (e : TypeId) : ∀ (l : List (DataW H)), (DataW.weightsAll P e l).all (· ≤ reachBytes) = true → ∀ d ∈ l, (d.weights P e).all (· ≤ reachBytes) = true
  | [], _, d, hd => by cases hd
  | x :: r, h, d, hd => by
    simp only [DataW.weightsAll, List.all_append, Bool.and_eq_true] at h
    rcases List.mem_cons.1 hd with rfl | hd
    · exact h.1
    · exact wAll_at P e r h.2 d hd

/-- A field that is a slice of headers. -/
theorem open_headers {H : Type} {enc : TypeId × Value → H} {W : World} {n : Nat} {c : Value} {y : DataW H × List MemPlace} (h : DataW.trod enc Tryz.prog W 0 (fun _ => true) true n 22 [c] = some y) :
    ∃ hs : List Hr, RdM W.heap.size W c hs ∧ ((DataW.weights Tryz.prog 22 y.1).all (· ≤ reachBytes) = true → (∀ o ∈ hs, o.1.size ≤ 140737488351232 ∧ o.2.size ≤ 140737488351232) ∧ hs.length ≤ 140737488351232) := by
  rcases Go.Deep.open_slice_pairs Tryz.underlying22 Tryz.underlying44 (by kernel_rfl) rfl rfl (by kernel_rfl) (by kernel_rfl) h with ⟨hcs, _⟩ | ⟨a, len, cap, m, n', V0, V1, D0, D1, P0, P1, hcs, _, hl, hm, hmm, hx, hall⟩
  · simp at hcs
    subst hcs
    exact ⟨([] : List Hr), .inl ⟨none, 0, rfl, rfl, by omega, fun _ => rfl⟩, fun _ => ⟨fun o ho => (nomatch ho), by simp⟩⟩
  · simp at hcs
    subst hcs
    rw [if_pos rfl] at hmm
    obtain rfl : cap = m := hmm.symm
    have hm' : cap ≤ 9223372036854775807 := by simpa [maxLen] using hm
    have each : ∀ i, ∃ o : Hr, i < cap → (V0 i = .string o.1 ∧ V1 i = .string o.2 ∧ ((DataW.weights Tryz.prog 9 (D0 i)).all (· ≤ reachBytes) = true → o.1.size ≤ 140737488351232) ∧ ((DataW.weights Tryz.prog 9 (D1 i)).all (· ≤ reachBytes) = true → o.2.size ≤ 140737488351232)) := by
      intro i
      by_cases hi : i < cap
      · obtain ⟨_, _, g0, g1⟩ := hall i hi
        obtain ⟨s0, e0, x0, _⟩ := DataW.trod_string Tryz.underlying9 g0
        obtain ⟨s1, e1, x1, _⟩ := DataW.trod_string Tryz.underlying9 g1
        simp at e0 e1
        simp only [Prod.mk.injEq] at x0 x1
        refine ⟨(s0, s1), fun _ => ⟨e0, e1, fun hw => ?_, fun hw => ?_⟩⟩
        · rw [x0.1] at hw
          simp only [DataW.weights, List.all_cons, List.all_nil, Bool.and_true, decide_eq_true_eq, reachBytes, Array.length_toList] at hw
          exact of_decide_eq_true hw
        · rw [x1.1] at hw
          simp only [DataW.weights, List.all_cons, List.all_nil, Bool.and_true, decide_eq_true_eq, reachBytes, Array.length_toList] at hw
          exact of_decide_eq_true hw
      · exact ⟨(⟨#[]⟩, ⟨#[]⟩), fun h => absurd h hi⟩
    obtain ⟨O, hO⟩ := Classical.axiomOfChoice each
    refine ⟨(List.range len).map O, ?_, fun hw => ?_⟩
    · by_cases h0 : len = 0
      · subst h0
        exact .inl ⟨_, cap, rfl, rfl, hm', fun h => by cases h⟩
      · obtain ⟨b, off, spot⟩ := a
        have hc := (hall 0 (by omega)).1
        have hspot : spot = none := by simpa [Addr.add] using World.cell?_spot hc
        subst hspot
        refine .inr ⟨b, off, cap, by simp, by intro e; have := congrArg List.length e; simp at this; omega, by simp; omega, hm', ?_, fun j hj i hi => ?_⟩
        · have := World.block_lt_of_cell? W _ hc
          simpa [Addr.add] using this
        · have hj' : j < len := by simpa using hj
          obtain ⟨h1, h2, _, _⟩ := hall j (by omega)
          have hOj := hO j (by omega)
          rw [addr_addS] at h1 h2
          rw [hOj.1] at h1
          rw [hOj.2.1] at h2
          have hg : ((List.range len).map O)[j] = O j := by simp
          rw [hg]
          rcases (by omega : i = 0 ∨ i = 1) with rfl | rfl
          · exact h1
          · exact h2
    · rw [hx] at hw
      simp only [DataW.weights, Tryz.underlying22, List.all_cons, List.all_append, Bool.and_eq_true, decide_eq_true_eq] at hw
      obtain ⟨hw1, hw2, _⟩ := hw
      refine ⟨fun o ho => ?_, ?_⟩
      · obtain ⟨i, hi, rfl⟩ := List.mem_map.1 ho
        have hi' := List.mem_range.1 hi
        have h2 := wAll_at Tryz.prog 44 _ hw2 (.agg [D0 i, D1 i]) (List.mem_map.2 ⟨i, hi, rfl⟩)
        simp only [DataW.weights, Tryz.underlying44, DataW.weightsEach, List.map_cons, List.map_nil, List.all_append, Bool.and_eq_true] at h2
        have hOi := hO i (by omega)
        exact ⟨hOi.2.2.1 (by simp_all), hOi.2.2.2 (by simp_all)⟩
      · have hb : Tryz.prog.bytesOf 44 = 32 := by kernel_rfl
        rw [hb] at hw1
        simp only [List.length_map, List.length_range, reachBytes] at hw1 ⊢
        omega

/-- A message, by value. -/
theorem open_message {H : Type} {enc : TypeId × Value → H} {W : World} {r : Reach} {b0 : Nat} {v : Value} {d : DataW H} {p : List MemPlace} (hv : Value.okWide Tryz.prog W r b0 25 v) (h : DataW.Trod enc Tryz.prog W 0 (fun _ => true) true 25 v d p) :
    ∃ (st : ByteArray) (sv sb : Value) (hs : List Hr) (zb : List Int), v = .agg #[.string st, sv, sb] ∧ Mt.By zb ∧ RdM W.heap.size W sv hs ∧ Rd W.heap.size W sb zb ∧
      ((DataW.weights Tryz.prog 25 d).all (· ≤ reachBytes) = true → st.size ≤ 140737488351232 ∧ (∀ o ∈ hs, o.1.size ≤ 140737488351232 ∧ o.2.size ≤ 140737488351232) ∧ hs.length ≤ 140737488351232 ∧ zb.length ≤ 140737488351232) := by
  obtain ⟨cs, rfl, hsz⟩ := okWide_struct Tryz.underlying25 hv
  obtain ⟨c0, c1, c2, rfl⟩ := arr3s (hsz.trans (by kernel_rfl))
  obtain ⟨fuel, hf⟩ := h
  obtain ⟨xs, n, _, hx, _, hlen, hfs⟩ := DataW.trod_struct Tryz.underlying25 hf
  obtain ⟨y0, y1, y2, rfl⟩ := lst3s hlen
  have k1 : Tryz.prog.cellsOf 9 = 1 := by kernel_rfl
  have k2 : Tryz.prog.cellsOf 22 = 1 := by kernel_rfl
  have k5 : Tryz.prog.cellsOf 23 = 1 := by kernel_rfl
  have f0 := hfs 0 _ rfl
  have f1 := hfs 1 _ rfl
  have f2 := hfs 2 _ rfl
  simp [Value.cells, k1, k2, k5] at f0 f1 f2
  obtain ⟨st, e0, x0, _⟩ := DataW.trod_string Tryz.underlying9 f0
  obtain ⟨hs, hI, hwh⟩ := open_headers f1
  obtain ⟨zb, hB, hId, hwd⟩ := open_bytes f2
  simp at e0
  subst e0
  simp only [Prod.mk.injEq] at hx
  refine ⟨st, c1, c2, hs, zb, rfl, hB, hI, hId, fun hw => ?_⟩
  rw [hx.1] at hw
  simp only [DataW.weights, Tryz.underlying25, DataW.weightsEach, List.map_cons, List.map_nil, List.all_append, Bool.and_eq_true] at hw
  have g1 := hwh (by simp_all)
  have g2 := hwd (by simp_all)
  refine ⟨?_, g1.1, g1.2, g2⟩
  have hw0 : (DataW.weights Tryz.prog 9 y0.1).all (· ≤ reachBytes) = true := by simp_all
  rw [show y0.1 = _ from congrArg Prod.fst x0] at hw0
  simp only [DataW.weights, List.all_cons, List.all_nil, Bool.and_true, decide_eq_true_eq, reachBytes, Array.length_toList] at hw0
  exact of_decide_eq_true hw0

/-- A field that is a slice of media. -/
theorem open_medias {H : Type} {enc : TypeId × Value → H} {W : World} {n : Nat} {c : Value} {y : DataW H × List MemPlace} (h : DataW.trod enc Tryz.prog W 0 (fun _ => true) true n 28 [c] = some y) :
    ∃ l : List (Int × Int), RdP2 W.heap.size W c l ∧ (∀ m ∈ l, (0 ≤ m.1 ∧ m.1 ≤ 65535) ∧ (0 ≤ m.2 ∧ m.2 ≤ 65535)) ∧ ((DataW.weights Tryz.prog 28 y.1).all (· ≤ reachBytes) = true → l.length * 4 ≤ 140737488351232) := by
  rcases Go.Deep.open_slice_pairs Tryz.underlying28 Tryz.underlying55 (by kernel_rfl) rfl rfl (by kernel_rfl) (by kernel_rfl) h with ⟨hcs, _⟩ | ⟨a, len, cap, m, n', V0, V1, D0, D1, P0, P1, hcs, _, hl, hm, hmm, hx, hall⟩
  · simp at hcs
    subst hcs
    exact ⟨([] : List (Int × Int)), .inl ⟨none, 0, rfl, rfl, by omega⟩, fun o ho => (nomatch ho), fun _ => by simp⟩
  · simp at hcs
    subst hcs
    rw [if_pos rfl] at hmm
    obtain rfl : cap = m := hmm.symm
    have hm' : cap ≤ 9223372036854775807 := by simpa [maxLen] using hm
    have each : ∀ i, ∃ o : Int × Int, i < cap → (V0 i = .int .u16 o.1 ∧ V1 i = .int .u16 o.2 ∧ (0 ≤ o.1 ∧ o.1 ≤ 65535) ∧ (0 ≤ o.2 ∧ o.2 ≤ 65535)) := by
      intro i
      by_cases hi : i < cap
      · obtain ⟨_, _, g0, g1⟩ := hall i hi
        obtain ⟨s0, e0, _, w0⟩ := DataW.trod_int Tryz.underlying27 g0
        obtain ⟨s1, e1, _, w1⟩ := DataW.trod_int Tryz.underlying27 g1
        simp at e0 e1
        exact ⟨(s0, s1), fun _ => ⟨e0, e1, by simpa [Lit.wf, IntKind.min, IntKind.max, IntKind.signed, IntKind.bits] using w0, by simpa [Lit.wf, IntKind.min, IntKind.max, IntKind.signed, IntKind.bits] using w1⟩⟩
      · exact ⟨(0, 0), fun h => absurd h hi⟩
    obtain ⟨O, hO⟩ := Classical.axiomOfChoice each
    refine ⟨(List.range len).map O, ?_, fun o ho => ?_, fun hw => ?_⟩
    · by_cases h0 : len = 0
      · subst h0
        exact .inl ⟨_, cap, rfl, rfl, hm'⟩
      · obtain ⟨b, off, spot⟩ := a
        have hc := (hall 0 (by omega)).1
        have hspot : spot = none := by simpa [Addr.add] using World.cell?_spot hc
        subst hspot
        refine .inr ⟨b, off, cap, by simp, by intro e; have := congrArg List.length e; simp at this; omega, by simp; omega, hm', ?_, fun j hj => ?_⟩
        · have := World.block_lt_of_cell? W _ hc
          simpa [Addr.add] using this
        · have hj' : j < len := by simpa using hj
          obtain ⟨h1, h2, _, _⟩ := hall j (by omega)
          have hOj := hO j (by omega)
          rw [addr_addS] at h1 h2
          rw [hOj.1] at h1
          rw [hOj.2.1] at h2
          have hg : ((List.range len).map O)[j] = O j := by simp
          rw [hg]
          exact ⟨h1, h2⟩
    · obtain ⟨i, hi, rfl⟩ := List.mem_map.1 ho
      have := hO i (by have := List.mem_range.1 hi; omega)
      exact this.2.2
    · rw [hx] at hw
      simp only [DataW.weights, Tryz.underlying28, List.all_cons, List.all_append, Bool.and_eq_true, decide_eq_true_eq] at hw
      have hw1 := hw.1
      have hb : Tryz.prog.bytesOf 55 = 4 := by kernel_rfl
      rw [hb] at hw1
      simp only [List.length_map, List.length_range, reachBytes] at hw1 ⊢
      omega

/-- A change, by value. -/
theorem open_change {H : Type} {enc : TypeId × Value → H} {W : World} {r : Reach} {b0 : Nat} {v : Value} {d : DataW H} {p : List MemPlace} (hv : Value.okWide Tryz.prog W r b0 30 v) (h : DataW.Trod enc Tryz.prog W 0 (fun _ => true) true 30 v d p) :
    ∃ (a b q u : Int) (mv : Value) (l : List (Int × Int)), v = .agg #[.int .u32 a, .int .u32 b, .int .u16 q, .int .u16 u, mv] ∧ (0 ≤ a ∧ a ≤ 4294967295) ∧ (0 ≤ b ∧ b ≤ 4294967295) ∧ (0 ≤ q ∧ q ≤ 65535) ∧ (0 ≤ u ∧ u ≤ 65535) ∧ RdP2 W.heap.size W mv l ∧ (∀ m ∈ l, (0 ≤ m.1 ∧ m.1 ≤ 65535) ∧ (0 ≤ m.2 ∧ m.2 ≤ 65535)) ∧
      ((DataW.weights Tryz.prog 30 d).all (· ≤ reachBytes) = true → l.length * 4 ≤ 140737488351232) := by
  obtain ⟨cs, rfl, hsz⟩ := okWide_struct Tryz.underlying30 hv
  obtain ⟨c0, c1, c2, c3, c4, rfl⟩ := arr5s (hsz.trans (by kernel_rfl))
  obtain ⟨fuel, hf⟩ := h
  obtain ⟨xs, n, _, hx, _, hlen, hfs⟩ := DataW.trod_struct Tryz.underlying30 hf
  obtain ⟨y0, y1, y2, y3, y4, rfl⟩ := lst5s hlen
  have k1 : Tryz.prog.cellsOf 26 = 1 := by kernel_rfl
  have k2 : Tryz.prog.cellsOf 27 = 1 := by kernel_rfl
  have k5 : Tryz.prog.cellsOf 28 = 1 := by kernel_rfl
  have f0 := hfs 0 _ rfl
  have f1 := hfs 1 _ rfl
  have f2 := hfs 2 _ rfl
  have f3 := hfs 3 _ rfl
  have f4 := hfs 4 _ rfl
  simp [Value.cells, k1, k2, k5] at f0 f1 f2 f3 f4
  obtain ⟨a, e0, _, w0⟩ := DataW.trod_int Tryz.underlying26 f0
  obtain ⟨b, e1, _, w1⟩ := DataW.trod_int Tryz.underlying26 f1
  obtain ⟨q, e2, _, w2⟩ := DataW.trod_int Tryz.underlying27 f2
  obtain ⟨u, e3, _, w3⟩ := DataW.trod_int Tryz.underlying27 f3
  obtain ⟨l, hI, hr, hwl⟩ := open_medias f4
  simp at e0 e1 e2 e3
  subst e0 e1 e2 e3
  simp [Lit.wf, IntKind.min, IntKind.max, IntKind.signed, IntKind.bits] at w0 w1 w2 w3
  simp only [Prod.mk.injEq] at hx
  refine ⟨a, b, q, u, c4, l, rfl, w0, w1, w2, w3, hI, hr, fun hw => ?_⟩
  rw [hx.1] at hw
  simp only [DataW.weights, Tryz.underlying30, DataW.weightsEach, List.map_cons, List.map_nil, List.all_append, Bool.and_eq_true] at hw
  exact hwl (by simp_all)
end Go.Proofs.YtibjgaelaijgpaaGreatDoor

/- Numbers as text, and a message that is changed to the same. -/
namespace Go.Proofs.YtibjgaelaijgpaaGreatDoor
open Go.RowKit Go.Shelf
set_option maxRecDepth 100000
set_option linter.unusedVariables false
set_option linter.unusedSimpArgs false
theorem dgt_rng {c : Int} (h : dgt c = true) : 48 ≤ c ∧ c ≤ 57 := by unfold dgt at h; simpa using h
theorem strOf_at (l : List Int) (hl : Mt.By l) (i : Nat) (h : i < l.length) : bAt (strOfNums l) i = l[i]?.getD 0 := by
  have hs : i < (strOfNums l).size := by rw [strOfNums_size]; exact h
  have hb := hl l[i] (List.getElem_mem h)
  unfold bAt
  rw [List.getElem?_eq_getElem h]
  simp only [Option.getD_some, ByteArray.get!, strOfNums]
  rw [getElem!_pos _ i (by simpa using h)]
  simp
  omega
/-- A number's digits. -/
def dg (n : Nat) : List Int := nmsB (decB n)
theorem dg_eq (n : Nat) : dg n = (Lib.decDigits n).map fun b => (b.toNat : Int) := rfl
theorem dg_small {n : Nat} (h : n < 10) : dg n = [48 + (n : Int)] := by
  rw [dg_eq, Lib.decDigits, dif_pos h]
  simp
  omega
theorem dg_big {n : Nat} (h : 10 ≤ n) : dg n = dg (n / 10) ++ [48 + ((n % 10 : Nat) : Int)] := by
  rw [dg_eq, Lib.decDigits, dif_neg (by omega), List.map_append, ← dg_eq]
  simp
  omega
theorem dg_pos (n : Nat) : 0 < (dg n).length := by
  by_cases h : n < 10
  · rw [dg_small h]; simp
  · rw [dg_big (by omega)]; simp
theorem dg_dgt : ∀ (n : Nat), ∀ z ∈ dg n, dgt z = true := by
  intro n
  induction n using Nat.strongRecOn with
  | ind n ih =>
    intro z hz
    by_cases h : n < 10
    · rw [dg_small h] at hz
      simp at hz
      subst hz
      unfold dgt
      simp
      omega
    · rw [dg_big (by omega)] at hz
      rcases List.mem_append.1 hz with hz | hz
      · exact ih (n / 10) (by omega) z hz
      · simp only [List.mem_singleton] at hz
        subst hz
        unfold dgt
        simp
        omega
theorem nmsB_at (s : ByteArray) (i : Nat) (h : i < s.size) : bAt s i = (nmsB s)[i]?.getD 0 := by
  unfold bAt nmsB
  have h' : i < s.data.toList.length := by rw [Array.length_toList]; exact h
  rw [List.getElem?_map, List.getElem?_eq_getElem h']
  simp only [Option.map_some, Option.getD_some, ByteArray.get!]
  rw [getElem!_pos s.data i h]
  simp
theorem nmsB_str (l : List Int) (h : Mt.By l) : nmsB (strOfNums l) = l := by
  apply List.ext_getElem?
  intro i
  by_cases hi : i < l.length
  · have hs : i < (strOfNums l).size := by rw [strOfNums_size]; exact hi
    have h1 := strOf_at l h i hi
    rw [nmsB_at _ _ hs] at h1
    have h2 : i < (nmsB (strOfNums l)).length := by rw [nmsB_len]; exact hs
    rw [List.getElem?_eq_getElem h2, List.getElem?_eq_getElem hi] at h1 ⊢
    simp only [Option.getD_some] at h1
    rw [h1]
  · rw [List.getElem?_eq_none (l := nmsB (strOfNums l)) (by rw [nmsB_len, strOfNums_size]; omega), List.getElem?_eq_none (by omega)]
theorem str_nmsB (s : ByteArray) : strOfNums (nmsB s) = s := by
  cases s with
  | mk d =>
    unfold strOfNums nmsB
    congr 1
    rw [List.map_map]
    have : ((fun n : Int => UInt8.ofNat n.toNat) ∘ fun b : UInt8 => (b.toNat : Int)) = id := by
      funext b
      simp
    rw [this]
    simp
theorem numP_step {s : ByteArray} {most : Int} {pos : Nat} {n : Int} (h : pos < s.size) (hd : dgt (bAt s pos) = true) (h0 : ¬ (0 < pos ∧ n = 0)) (hm : n * 10 + (bAt s pos - 48) ≤ most) :
    numP s most (s.size - pos) pos n = numP s most (s.size - (pos + 1)) (pos + 1) (n * 10 + (bAt s pos - 48)) := by
  rw [show s.size - pos = (s.size - (pos + 1)) + 1 by omega]
  show (if _ then _ else if _ then _ else if _ then _ else _) = _
  rw [if_neg (by rw [hd]; simp), if_neg h0, if_neg (by omega)]
theorem take_at {l : List Int} {k i : Nat} {r : List Int} (h : l.take k = r) (hi : i < r.length) : l[i]?.getD 0 = r[i]?.getD 0 := by
  have hk : i < k := by rw [← h, List.length_take] at hi; omega
  rw [← h, List.getElem?_take, if_pos hk]
theorem reads_dg (s : ByteArray) (most : Int) : ∀ n : Nat, (nmsB s).take (dg n).length = dg n → (n : Int) ≤ most → numP s most s.size 0 0 = numP s most (s.size - (dg n).length) (dg n).length n := by
  intro n
  induction n using Nat.strongRecOn with
  | ind n ih =>
    intro h hm
    have hsz : (dg n).length ≤ s.size := by
      have := congrArg List.length h
      rw [List.length_take, nmsB_len] at this
      omega
    by_cases hn : n < 10
    · have hl : (dg n).length = 1 := by rw [dg_small hn]; rfl
      have h0 := take_at h (i := 0) (by omega)
      rw [← nmsB_at _ _ (by omega), dg_small hn] at h0
      simp only [List.getElem?_cons_zero, Option.getD_some] at h0
      rw [hl]
      have := numP_step (s := s) (most := most) (pos := 0) (n := 0) (by omega) (by rw [h0]; unfold dgt; simp; omega) (by omega) (by rw [h0]; omega)
      rw [Nat.sub_zero, h0] at this
      rw [this]
      congr 1
      omega
    · have hb := dg_big (n := n) (by omega)
      have hl : (dg n).length = (dg (n / 10)).length + 1 := by rw [hb, List.length_append]; rfl
      have h1 : (nmsB s).take (dg (n / 10)).length = dg (n / 10) := by
        have h2 := congrArg (List.take (dg (n / 10)).length) h
        rw [List.take_take, Nat.min_eq_left (by omega)] at h2
        rw [h2, hb, List.take_left]
      rw [ih (n / 10) (by omega) h1 (by omega)]
      have h0 := take_at h (i := (dg (n / 10)).length) (by omega)
      rw [← nmsB_at _ _ (by omega)] at h0
      have h3 : (dg n)[(dg (n / 10)).length]?.getD 0 = 48 + ((n % 10 : Nat) : Int) := by
        rw [hb, List.getElem?_append_right (Nat.le_refl _)]
        simp
      rw [h3] at h0
      have := numP_step (s := s) (most := most) (pos := (dg (n / 10)).length) (n := ((n / 10 : Nat) : Int)) (by omega) (by rw [h0]; unfold dgt; simp; omega) (by omega) (by rw [h0]; omega)
      rw [this, h0, hl]
      congr 1
      omega
theorem numV_dg (n : Nat) (most : Int) (h : (n : Int) ≤ most) : numV (decB n) most = some (n : Int) := by
  unfold numV
  have hs : (decB n).size = (dg n).length := (nmsB_len _).symm
  have hp := dg_pos n
  rw [if_neg (by omega), reads_dg (decB n) most n (by show (dg n).take _ = _; rw [List.take_length]) h, hs, Nat.sub_self]
  rfl
theorem numP_dg (s : ByteArray) (most : Int) : ∀ k pos n v, numP s most k pos n = some v → pos + k = s.size → 0 ≤ n → ((pos = 0 ∧ n = 0) ∨ (0 < pos ∧ (nmsB s).take pos = dg n.toNat)) → 0 < s.size → nmsB s = dg v.toNat ∧ 0 ≤ v
  | 0, pos, n, v, h, hk, hn, hi, hs => by
    have e : n = v := by simpa [numP] using h
    subst e
    rcases hi with ⟨h1, _⟩ | ⟨_, h2⟩
    · omega
    · rw [List.take_of_length_le (by rw [nmsB_len]; omega)] at h2
      exact ⟨h2, hn⟩
  | k + 1, pos, n, v, h, hk, hn, hi, hs => by
    have hu : numP s most (k + 1) pos n = if dgt (bAt s pos) = false then none else if 0 < pos ∧ n = 0 then none else if most < n * 10 + (bAt s pos - 48) then none else numP s most k (pos + 1) (n * 10 + (bAt s pos - 48)) := rfl
    rw [hu] at h
    split at h
    · cases h
    rename_i hd
    split at h
    · cases h
    rename_i h0
    split at h
    · cases h
    have hd' : dgt (bAt s pos) = true := by simpa using hd
    have hr := dgt_rng hd'
    refine numP_dg s most k (pos + 1) _ v h (by omega) (by omega) (.inr ⟨by omega, ?_⟩) hs
    have hlt : pos < (nmsB s).length := by rw [nmsB_len]; omega
    have hc : (nmsB s)[pos]'hlt = bAt s pos := by rw [nmsB_at _ _ (by omega), List.getElem?_eq_getElem hlt]; rfl
    rw [List.take_succ_eq_append_getElem hlt, hc]
    rcases hi with ⟨rfl, rfl⟩ | ⟨hp, ht⟩
    · rw [List.take_zero, dg_small (by omega)]
      simp
      omega
    · have hn0 : 0 < n := by
        rcases Int.lt_or_eq_of_le hn with h | h
        · exact h
        · exact absurd ⟨hp, h.symm⟩ h0
      rw [ht, dg_big (n := (n * 10 + (bAt s pos - 48)).toNat) (by omega)]
      have e1 : (n * 10 + (bAt s pos - 48)).toNat / 10 = n.toNat := by omega
      have e2 : (((n * 10 + (bAt s pos - 48)).toNat % 10 : Nat) : Int) = bAt s pos - 48 := by omega
      rw [e1, e2]
      congr 2
      omega
theorem numV_some {s : ByteArray} {most v : Int} (h : numV s most = some v) : nmsB s = dg v.toNat ∧ 0 ≤ v := by
  unfold numV at h
  split at h
  · cases h
  · exact numP_dg s most s.size 0 0 v h (by omega) (by omega) (.inl ⟨rfl, rfl⟩) (by omega)

theorem eqS_iff {x y : ByteArray} : eqS x y = true ↔ x = y := by
  unfold eqS
  constructor
  · intro h; exact ba_ext (by simpa using h)
  · rintro rfl; simp
theorem prV_some {s : ByteArray} {p : Int} (h : prV s = some p) : s = decB p.toNat ∧ 1 ≤ p ∧ p ≤ 65535 := by
  refine ⟨?_, prV_rng s h⟩
  have hn : numV s 65535 = some p := by
    unfold prV at h
    split at h
    · cases h
    · rename_i q hq
      split at h
      · cases h
      · cases h; exact hq
  have := (numV_some hn).1
  rw [← str_nmsB s, this]
  exact str_nmsB _
theorem ba_app (x y : ByteArray) : (x ++ y).data.toList = x.data.toList ++ y.data.toList := by simp
theorem ba_ext_list (s : ByteArray) (i j : Nat) : (s.extract i j).data.toList = (s.data.toList.take j).drop i := by
  rw [ByteArray.data_extract, Array.toList_extract, List.extract_eq_take_drop, List.take_drop]
  by_cases h : i ≤ j
  · rw [Nat.add_sub_cancel' h]
  · rw [List.drop_eq_nil_of_le (by rw [List.length_take]; omega), List.drop_eq_nil_of_le (by rw [List.length_take]; omega)]
theorem bapp_nil (x : ByteArray) : x ++ ⟨#[]⟩ = x := ba_ext (by rw [ba_app]; exact List.append_nil _)
theorem cut_at {s p : ByteArray} (h : cutF s p = true) : s = cutA s p ++ (p ++ cutZ s p) := by
  apply ba_ext
  rw [ba_app, ba_app]
  rcases cut_spec s p with ⟨_, h, _⟩ | ⟨h1, _⟩
  · exact h
  · rw [h] at h1; cases h1
theorem cut_not {s p : ByteArray} (h : cutF s p = false) : cutA s p = s ∧ cutZ s p = ⟨#[]⟩ := by
  rcases cut_spec s p with ⟨h1, _⟩ | ⟨_, h1, h2, _⟩
  · rw [h] at h1; cases h1
  · exact ⟨h1, h2⟩
theorem ext_split (s : ByteArray) (k : Nat) (h : k ≤ s.size) : s.extract 0 k ++ s.extract k s.size = s := by
  apply ba_ext
  rw [ba_app, ba_ext_list, ba_ext_list, ba_len s, List.take_length, List.drop_zero, List.take_append_drop]
/-- A line that names a port is what is ahead, the port, what is behind. -/
theorem mdO_join {l a b : ByteArray} {p : Int} (h : mdO l = some (a, p, b)) : a ++ decB p.toNat ++ b = l ∧ 1 ≤ p ∧ p ≤ 65535 := by
  unfold mdO at h
  split at h
  · cases h
  split at h
  · cases h
  rename_i h1 h2
  cases hp : prV (cutA (cutZ l spB) spB) with
  | none => rw [hp] at h; cases h
  | some q =>
    rw [hp] at h
    simp only at h
    split at h
    · cases h
    · cases h
      obtain ⟨e, hr⟩ := prV_some hp
      refine ⟨?_, hr⟩
      rw [← e]
      have hF : cutF l spB = true := by
        cases hf : cutF l spB with
        | true => rfl
        | false =>
          have := (cut_not hf).2
          rw [this] at h2
          exact absurd (by decide) h2
      have hs := cut_size (cutZ l spB) spB
      have h2' : cutF (cutZ l spB) spB = true := by simpa using h2
      have hz : cutA (cutZ l spB) spB = (cutZ l spB).extract 0 (cutA (cutZ l spB) spB).size := by
        apply ba_ext
        rw [ba_ext_list, List.drop_zero]
        conv => rhs; arg 2; rw [cut_at h2']
        rw [ba_app, ba_len, List.take_left]
      conv => rhs; rw [cut_at hF]
      rw [ByteArray.append_assoc, ByteArray.append_assoc]
      congr 2
      conv => lhs; arg 1; rw [hz]
      exact ext_split _ _ hs.1
theorem suf_app {s p : ByteArray} (h : hsB s p = true) : ∃ t : ByteArray, s = t ++ p := by
  unfold hsB Lib.hasSuffix at h
  obtain ⟨t, ht⟩ := List.isSuffixOf_iff_suffix.1 h
  exact ⟨⟨t.toArray⟩, ba_ext (by rw [ba_app]; simp [ht])⟩
theorem ts_join {s p : ByteArray} (h : hsB s p = true) : tsB s p ++ p = s := by
  obtain ⟨t, rfl⟩ := suf_app h
  have h' : Lib.hasSuffix (t ++ p).data.toList p.data.toList = true := h
  apply ba_ext
  rw [ba_app]
  unfold tsB Lib.trimSuffix
  rw [if_pos h', ba_app]
  simp
theorem suf_of {s o p : ByteArray} (h : hsB s (o ++ p) = true) : hsB s p = true := by
  obtain ⟨t, rfl⟩ := suf_app h
  unfold hsB Lib.hasSuffix
  rw [List.isSuffixOf_iff_suffix]
  exact ⟨(t ++ o).data.toList, by simp⟩
/-- Nothing is to be changed. -/
def Cg.same (c : Cg) : Prop := c.host = c.is ∧ c.port = c.np ∧ ∀ m ∈ c.media, m.1 = m.2
end Go.Proofs.YtibjgaelaijgpaaGreatDoor

/- Bytes made of a text, appended to; package sip: joined, Build. -/
namespace Go.Proofs.YtibjgaelaijgpaaGreatDoor
open Go.RowKit Go.Shelf
set_option maxRecDepth 100000
set_option linter.unusedVariables false
set_option linter.unusedSimpArgs false

/-- storeCells into a row of which no cell is frozen. -/
theorem storeG (P : Program) (g o : Nat) (t : TypeId) (fz : Nat × Nat) : ∀ (vs : List Value) (i : Nat) (cur : Array Value) (w : World), w.heap[g]? = some (.cells cur t fz) → cur.size ≤ fz.1 ∨ fz = (0, 0) → o + i + vs.length ≤ cur.size → (∀ v ∈ vs, v.oneCell' = true) →
    (storeCells ⟨g, o, none⟩ vs i).run P w = .ok () (w.setRow g (cur.toList.take (o + i) ++ vs ++ cur.toList.drop (o + i + vs.length)).toArray)
  | [], i, cur, w, hg, _, _, _ => by
    simp only [storeCells, List.append_nil, List.length_nil, Nat.add_zero, List.take_append_drop, Array.toArray_toList]
    rw [setRow_self w g cur t fz hg]
    rfl
  | v :: rest, i, cur, w, hg, hfz, hl, h1 => by
    have hi : o + i < cur.size := by simp at hl; omega
    have hadd : (⟨g, o, none⟩ : Addr).add i = ⟨g, o + i, none⟩ := by unfold Addr.add; split <;> simp_all
    have hcell : w.cell? ⟨g, o + i, none⟩ = some cur[o + i] := by simp [World.cell?, hg, hi]
    have hfro : w.frozen? ⟨g, o + i, none⟩ = false := by
      obtain ⟨lo, hi'⟩ := fz
      simp only [World.frozen?, hg, Bool.and_eq_false_iff, decide_eq_false_iff_not]
      rcases hfz with h | h
      · left
        simp only at h
        omega
      · right
        simp only [Prod.mk.injEq] at h
        omega
    have hst : (store ((⟨g, o, none⟩ : Addr).add i) v).run P w = .ok () (w.setRow g (cur.setIfInBounds (o + i) v)) := by
      rw [hadd, run_store P w _ v _ (h1 v (by simp)), hcell]
      simp [hfro, setCell_eq_setRow w g (o + i) cur t fz v hg]
    have ih := storeG P g o t fz rest (i + 1) (cur.setIfInBounds (o + i) v) (w.setRow g (cur.setIfInBounds (o + i) v)) (setRow_heap w g cur _ t _ hg) (by simpa using hfz) (by simp at hl ⊢; omega) (fun x hx => h1 x (by simp [hx]))
    simp only [storeCells, Sem.run_bind, hst, Result.andThen_ok, ih, setRow_setRow]
    congr 3
    have e := list_seg_step cur.toList (o + i) v rest (by simp at hl ⊢; omega)
    simpa [Array.toList_setIfInBounds, Nat.add_assoc] using e
/-- Bytes of one's own in a row of which no cell is frozen. -/
def OwG (base : Nat) (W : World) (v : Value) (ys : List Int) : Prop :=
  ∃ g cap cur fz, v = .slice (some ⟨g, 0, none⟩) ys.length cap ∧ base ≤ g ∧ W.heap[g]? = some (.cells cur 5 fz) ∧ (cur.size ≤ fz.1 ∨ fz = (0, 0)) ∧ ys.length ≤ cap ∧ cap ≤ maxLen ∧ cur.size = cap ∧ cur.toList.take ys.length = ys.map (Value.int .u8)
theorem OwG.form {base : Nat} {W : World} {v : Value} {ys : List Int} (h : OwG base W v ys) : ∃ g cap, v = .slice (some ⟨g, 0, none⟩) ys.length cap ∧ base ≤ g := let ⟨g, cap, _, _, e, hb, _⟩ := h; ⟨g, cap, e, hb⟩
theorem OwG.later {base : Nat} {A B : World} {v : Value} {ys : List Int} (h : OwG base A v ys) (l : Later A B) : OwG base B v ys := let ⟨g, cap, cur, fz, e, hb, hh, r⟩ := h; ⟨g, cap, cur, fz, e, hb, later_keep l hh, r⟩
theorem OwG.cell {base : Nat} {W : World} {g cap : Nat} {ys : List Int} (h : OwG base W (.slice (some ⟨g, 0, none⟩) ys.length cap) ys) (j : Nat) (hj : j < ys.length) : W.cell? ⟨g, j, none⟩ = some (.int .u8 ys[j]) := by
  obtain ⟨g', cap', cur, fz, e, hb, hh, _, _, _, hs, ht⟩ := h
  cases e
  rw [cell_of_row W g j cur _ fz hh, ← Array.getElem?_toList]
  have h1 := congrArg (·[j]?) ht
  simp only [List.getElem?_take, if_pos hj, List.getElem?_map, List.getElem?_eq_getElem hj, Option.map_some] at h1
  exact h1
theorem OwG.rd {base : Nat} {W : World} {v : Value} {ys : List Int} (h : OwG base W v ys) : Rd W.heap.size W v ys := by
  obtain ⟨g, cap, cur, fz, rfl, hb, hh, hf, hc, hm, hs, ht⟩ := h
  unfold maxLen at hm
  by_cases hn : ys = []
  · subst hn
    exact .inl ⟨_, cap, rfl, rfl, hm, fun h => by cases h⟩
  · refine .inr ⟨g, 0, cap, rfl, hn, hc, hm, (Array.getElem?_eq_some_iff.1 hh).1, fun j hj => ?_⟩
    rw [Nat.zero_add, List.getElem?_eq_getElem hj]
    exact OwG.cell ⟨g, cap, cur, fz, rfl, hb, hh, hf, hc, by unfold maxLen; exact hm, hs, ht⟩ j hj
theorem conv_G (w : World) (s : ByteArray) (hs : s.size ≤ 140737488355328) : OwG w.heap.size (Lib.bytesWorld w 5 s) (.slice (some ⟨w.heap.size, 0, none⟩) s.size (grownCap w s.size 0 5)) (nmsB s) := by
  have hc := grownCap_le_maxLen w s.size 0 5 (by unfold maxLen; omega)
  have hg := grownCap_ge w s.size 0 5
  have hz : (Lib.bytesCells w 5 s).size = grownCap w s.size 0 5 := by
    have : s.data.size = s.size := rfl
    simp [Lib.bytesCells, this]
    omega
  refine ⟨w.heap.size, _, _, _, by rw [nmsB_len], Nat.le_refl _, Lib.bytesWorld_at_new w 5 s, .inl (Nat.le_refl _), by rw [nmsB_len]; exact hg, hc, hz, ?_⟩
  unfold Lib.bytesCells nmsB
  rw [Array.toList_append, List.take_left' (by simp)]
  simp
theorem grown_later {w W W' : World} {base : Nat} {v : Value} (hg : W.grownBy W' v.ownBlock) (hl : Below base w W) (hbs : base ≤ W.heap.size) (hb : ∀ k, v.ownBlock = some k → base ≤ k) : Below base w W' :=
  hl.trans ⟨hg.os, hg.tape, hg.output, hg.size, fun i hi => by
    by_cases hiW : i < W.heap.size
    · exact hg.block i hiW (fun e => by have := hb i e.symm; omega)
    · omega⟩
/-- append of a text. -/
theorem appG_str (ty base : Nat) (W : World) (v : Value) (ys : List Int) (h : OwG base W v ys) (s : ByteArray) (hb : base ≤ W.heap.size) (hz : ys.length + s.size ≤ 1000000) :
    ∃ v' W', (Builtin.append_ #[23, 9] ty #[v, .string s]).run Tryz.prog W = .ok v' W' ∧ OwG base W' v' (ys ++ nmsB s) ∧ W.grownBy W' v.ownBlock := by
  obtain ⟨i, hi, hz0, hz1, hz2⟩ := info_partsS info_u8
  have h' := h
  obtain ⟨g, cap, cur, fz, rfl, hbg, hg, hfz, hnc, hcm, hcs, htake⟩ := h
  have hsc : Lib.strCells s = (nmsB s).map (Value.int .u8) := by unfold Lib.strCells nmsB; rw [List.map_map]; rfl
  have hlen : (ys ++ nmsB s).length = ys.length + s.size := by rw [List.length_append, nmsB_len]
  by_cases hroom : ys.length + s.size ≤ cap
  · have hf := Lib.run_firstCells_string (P := Tryz.prog) W 1 s
    have hst := storeG Tryz.prog g ys.length 5 fz (Lib.strCells s) 0 cur W hg hfz (by rw [Lib.strCells_length]; omega) (Lib.strCells_oneCell s)
    simp only [Nat.add_zero, Lib.strCells_length] at hst
    have hr : (Builtin.append_ #[23, 9] ty #[.slice (some ⟨g, 0, none⟩) ys.length cap, .string s]).run Tryz.prog W = .ok (.slice (some ⟨g, 0, none⟩) (ys.length + s.size) cap) (W.setRow g (cur.toList.take ys.length ++ Lib.strCells s ++ cur.toList.drop (ys.length + s.size)).toArray) := by
      simp [Builtin.append_, run_underlying Tryz.underlying23, run_underlying Tryz.underlying9, sizeOf, typeInfo, hi, hz1, Builtin.lenOf, hroom, hf, Addr.add_lit, hst]
    refine ⟨_, _, hr, ?_, ⟨rfl, rfl, rfl, by simp, fun k _ hk => setRow_other W g k _ (fun e => hk (by simp [Value.ownBlock, e]))⟩⟩
    have hsz : (cur.toList.take ys.length ++ Lib.strCells s ++ cur.toList.drop (ys.length + s.size)).toArray.size = cap := by
      simp only [List.size_toArray, List.length_append, List.length_take, List.length_drop, Array.length_toList, Lib.strCells_length]
      omega
    refine ⟨g, cap, _, fz, by rw [hlen], hbg, setRow_heap W g cur _ _ _ hg, by rw [hsz, ← hcs]; exact hfz, by omega, hcm, hsz, ?_⟩
    rw [htake, hsc, ← List.map_append, List.take_left' (by simp)]
  · have holds : ∀ j u, (ys.map (Value.int .u8))[j]? = some u → W.cell? ((⟨g, 0, none⟩ : Addr).add j) = some u := fun j u hu => by
      have hj : j < ys.length := by have := (List.getElem?_eq_some_iff.1 hu).1; simpa using this
      rw [addr_addS, Nat.zero_add, OwG.cell h' j hj, ← hu, List.getElem?_map, List.getElem?_eq_getElem hj]
      rfl
    have hr := Lib.run_append_grow_string (P := Tryz.prog) W 23 9 ty 5 i (.int .u8 0) Tryz.underlying23 Tryz.underlying9 hi hz0 ⟨g, 0, none⟩ ys.length cap (ys.map (Value.int .u8)) (by rw [hz1]; simp) holds s (by omega) (by omega) (by rw [hz2]; exact growslice_fits (by omega) (by omega))
    have hge := grownCap_ge W (ys.length + s.size) cap 5
    have hcm2 : grownCap W (ys.length + s.size) cap 5 ≤ maxLen := grownCap_le_maxLen W (ys.length + s.size) cap 5 (by unfold maxLen; omega)
    refine ⟨_, _, hr, ⟨W.heap.size, _, _, (0, 0), by rw [hlen], hb, heap_alloc_new W.drew _, .inr rfl, by rw [hlen]; exact hge, hcm2, ?_, ?_⟩, ⟨rfl, rfl, rfl, by simp, fun k hk _ => Below.heap_alloc W.drew _ k hk⟩⟩
    · have hz1 : (Value.int IntKind.u8 0).cells.size = 1 := rfl
      simp only [Array.size_append, List.size_toArray, size_zeroCells, hz1, List.length_map, Lib.strCells_length]
      omega
    · simp only [Array.toList_append, List.append_assoc, hsc]
      rw [← List.append_assoc, ← List.map_append, List.take_left' (by simp)]
/-- append of bytes. -/
theorem appG_bytes (ty base n₀ : Nat) (W : World) (v : Value) (ys : List Int) (h : OwG base W v ys) (sx : Value) (zs : List Int) (hI : Rd n₀ W sx zs) (hb : base ≤ W.heap.size) (hz : ys.length + zs.length ≤ 1000000) :
    ∃ v' W', (Builtin.append_ #[23, 23] ty #[v, sx]).run Tryz.prog W = .ok v' W' ∧ OwG base W' v' (ys ++ zs) ∧ W.grownBy W' v.ownBlock := by
  obtain ⟨i, hi, hz0, hz1, hz2⟩ := info_partsS info_u8
  have h' := h
  obtain ⟨g, cap, cur, fz, rfl, hbg, hg, hfz, hnc, hcm, hcs, htake⟩ := h
  have hlen : (ys ++ zs).length = ys.length + zs.length := List.length_append
  obtain ⟨ao, c, rfl, hcells⟩ : ∃ ao c, sx = .slice ao zs.length c ∧ (Builtin.firstCells 1 zs.length sx).run Tryz.prog W = .ok (zs.map (Value.int .u8)).toArray W := by
    rcases hI with ⟨ao, cp, rfl, rfl, hm, hn⟩ | ⟨b, off, cp, rfl, hne, hl, hm, hb, hc⟩
    · refine ⟨ao, cp, rfl, ?_⟩
      cases ao with
      | none => simp [Builtin.firstCells]
      | some a =>
        have := run_firstCells_some (P := Tryz.prog) W 1 0 a 0 cp [] rfl (fun j v hj => by simp at hj)
        exact this
    · exact ⟨_, cp, rfl, run_firstCells_some (P := Tryz.prog) W 1 zs.length ⟨b, off, none⟩ zs.length cp (zs.map (Value.int .u8)) (by simp) (fun j u hu => by
        have hj : j < zs.length := by have := (List.getElem?_eq_some_iff.1 hu).1; simpa using this
        rw [addr_addS, hc j hj, ← hu, List.getElem?_map, List.getElem?_eq_getElem hj]
        rfl)⟩
  by_cases hroom : ys.length + zs.length ≤ cap
  · have hst := storeG Tryz.prog g ys.length 5 fz (zs.map (Value.int .u8)) 0 cur W hg hfz (by simp; omega) (by intro u hu; simp at hu; obtain ⟨z, _, rfl⟩ := hu; rfl)
    simp only [Nat.add_zero, List.length_map] at hst
    have hr : (Builtin.append_ #[23, 23] ty #[.slice (some ⟨g, 0, none⟩) ys.length cap, .slice ao zs.length c]).run Tryz.prog W = .ok (.slice (some ⟨g, 0, none⟩) (ys.length + zs.length) cap) (W.setRow g (cur.toList.take ys.length ++ zs.map (Value.int .u8) ++ cur.toList.drop (ys.length + zs.length)).toArray) := by
      simp [Builtin.append_, run_underlying Tryz.underlying23, sizeOf, typeInfo, hi, hz1, Builtin.lenOf, hroom, hcells, Addr.add_lit, hst]
    refine ⟨_, _, hr, ?_, ⟨rfl, rfl, rfl, by simp, fun k _ hk => setRow_other W g k _ (fun e => hk (by simp [Value.ownBlock, e]))⟩⟩
    have hsz : (cur.toList.take ys.length ++ zs.map (Value.int .u8) ++ cur.toList.drop (ys.length + zs.length)).toArray.size = cap := by
      simp only [List.size_toArray, List.length_append, List.length_take, List.length_drop, Array.length_toList, List.length_map]
      omega
    refine ⟨g, cap, _, fz, by rw [hlen], hbg, setRow_heap W g cur _ _ _ hg, by rw [hsz, ← hcs]; exact hfz, by omega, hcm, hsz, ?_⟩
    rw [htake, ← List.map_append, List.take_left' (by simp)]
  · have holds : ∀ j u, (ys.map (Value.int .u8))[j]? = some u → W.cell? ((⟨g, 0, none⟩ : Addr).add j) = some u := fun j u hu => by
      have hj : j < ys.length := by have := (List.getElem?_eq_some_iff.1 hu).1; simpa using this
      rw [addr_addS, Nat.zero_add, OwG.cell h' j hj, ← hu, List.getElem?_map, List.getElem?_eq_getElem hj]
      rfl
    rcases hI with ⟨_, _, e, h0, _⟩ | ⟨b, off, cp, e, hne, hl, hm, hbb, hc⟩
    · exact absurd (by rw [h0]; exact hnc) hroom
    cases e
    have hr := run_append_grow (P := Tryz.prog) (w := W) 23 ty 5 i (.int .u8 0) Tryz.underlying23 hi hz0 ⟨g, 0, none⟩ ys.length cap (ys.map (Value.int .u8)) (by rw [hz1]; simp) holds ⟨b, off, none⟩ zs.length c (zs.map (Value.int .u8)) (by rw [hz1]; simp) (fun j u hu => by
        have hj : j < zs.length := by have := (List.getElem?_eq_some_iff.1 hu).1; simpa using this
        rw [addr_addS, hc j hj, ← hu, List.getElem?_map, List.getElem?_eq_getElem hj]
        rfl) (by omega) (by omega) (by rw [hz2]; exact growslice_fits (by omega) (by omega))
    have hge := grownCap_ge W (ys.length + zs.length) cap 5
    have hcm2 : grownCap W (ys.length + zs.length) cap 5 ≤ maxLen := grownCap_le_maxLen W (ys.length + zs.length) cap 5 (by unfold maxLen; omega)
    refine ⟨_, _, hr, ⟨W.heap.size, _, _, (0, 0), by rw [hlen], hb, heap_alloc_new W.drew _, .inr rfl, by rw [hlen]; exact hge, hcm2, ?_, ?_⟩, ⟨rfl, rfl, rfl, by simp, fun k hk _ => Below.heap_alloc W.drew _ k hk⟩⟩
    · have hz1 : (Value.int IntKind.u8 0).cells.size = 1 := rfl
      simp only [Array.size_append, List.size_toArray, size_zeroCells, hz1, List.length_map]
      omega
    · simp only [Array.toList_append, List.append_assoc]
      rw [← List.append_assoc, ← List.map_append, List.take_left' (by simp)]

theorem wpList_appT {P : Program} {ops : Array Oper} {rest : List Oper} {o : Oper} {a : Act} {Q : Exit → Act → World → Prop} {w : World} (hg : o.guard = none) (s x : Operand) (t u : TypeId) (hop : o.op = Op.call { callee := Callee.builtin Builtin.append, args := #[s, x], argTypes := #[t, u] })
    (v sx : Value) (hs : a.eval s = v) (hx : a.eval x = sx) (v' : Value) (w' : World) (hrun : (Builtin.append_ #[t, u] o.type #[v, sx]).run P w = .ok v' w') (hk : wpList P ops Q rest (a.put o.dst v') w') : wpList P ops Q (o :: rest) a w :=
  wpList_plain hg fun K hK => wp_appT s x t u hop v sx hs hx v' w' hrun (hK _ _ hk)

def nmE : ByteArray := ⟨#[58, 32]⟩
/-- A header's line. -/
def hdB (h : Hr) : ByteArray := h.1 ++ nmE ++ h.2 ++ crB
/-- Headers' lines. -/
def hdL (hs : List Hr) : List Int := hs.flatMap fun h => nmsB (hdB h)
/-- A message's bytes. -/
def txM (st : ByteArray) (hs : List Hr) (zb : List Int) : List Int := nmsB (st ++ crB) ++ hdL hs ++ nmsB crB ++ zb
theorem nmsB_app (s t : ByteArray) : nmsB (s ++ t) = nmsB s ++ nmsB t := by unfold nmsB; simp
theorem hdL_snoc (l : List Hr) (h : Hr) : hdL (l ++ [h]) = hdL l ++ nmsB (hdB h) := by unfold hdL; simp
theorem hdB_size (h : Hr) : (hdB h).size = h.1.size + 2 + h.2.size + 2 := by unfold hdB; simp only [ByteArray.size_append]; rfl
theorem hdL_len (l : List Hr) : (hdL l).length = hsz l := by
  induction l with
  | nil => rfl
  | cons h l ih => unfold hdL hsz at ih ⊢; rw [List.flatMap_cons, List.length_append, ih, nmsB_len, hdB_size]; simp
set_option maxRecDepth 100000 in
set_option maxHeartbeats 8000000 in
theorem joined_any (st : ByteArray) (sv sb : Value) (hs : List Hr) (zb : List Int) (w : World) (hH : RdM w.heap.size w sv hs) (hB : Rd w.heap.size w sb zb) (hz : szM st hs zb.length ≤ 4096) :
    Calls Tryz.prog 34 #[.agg #[.string st, sv, sb]] w fun e w' => Later w w' ∧ ∃ v, e = .returned v ∧ OwG w.heap.size w' v (txM st hs zb) := by
  obtain ⟨sa, scp, rfl, hsc1, hsc2⟩ := hH.slice
  obtain ⟨ba, bcp, rfl, hbc1, hbc2⟩ := hB.slice
  have l0 : Later w (w.alloc (.cells #[.string st, .slice sa hs.length scp, .slice ba zb.length bcp] 25)) := later_allocR _ _
  have C0 := hide (heap_alloc_new w (.cells #[.string st, .slice sa hs.length scp, .slice ba zb.length bcp] 25))
  have hz2 : st.size + 2 + hsz hs + 2 + zb.length ≤ 4096 := hz
  have HTX : Hid (txM st hs zb = nmsB (st ++ crB) ++ hdL hs ++ nmsB crB ++ zb) := rfl
  generalize txM st hs zb = tx at *
  have hcs : (st ++ crB).size = st.size + 2 := by rw [ByteArray.size_append]; rfl
  have HCS := hide hcs
  clear hcs
  go_enter Tryz.func34, Tryz.ntmps34
  go_upto_region 1 with fail
  generalize w.alloc _ = w0 at *
  have hgs : w.heap.size ≤ w0.heap.size := l0.size
  have HB0 := hide (hB.later l0)
  have HH0 := hide (hH.later l0)
  have k0 := block_cell C0.out
  obtain ⟨gb, cb, w1, hcv, hG1, l1⟩ : ∃ g c w1, (convert 9 23 (.string (st ++ ⟨#[13, 10]⟩))).run Tryz.prog w0 = .ok (.slice (some ⟨g, 0, none⟩) (nmsB (st ++ crB)).length c) w1 ∧ OwG w.heap.size w1 (.slice (some ⟨g, 0, none⟩) (nmsB (st ++ crB)).length c) (nmsB (st ++ crB)) ∧ Later w0 w1 := by
    have hG := conv_G w0 (st ++ crB) (by rw [HCS.out]; omega)
    rw [← nmsB_len (st ++ crB)] at hG
    obtain ⟨g, cap, cur, fz, e, hbg, r⟩ := hG
    refine ⟨w0.heap.size, _, _, ?_, ⟨g, cap, cur, fz, e, by omega, r⟩, conv_later w0 5 (st ++ crB)⟩
    rw [nmsB_len]
    exact Lib.run_convert_string_bytes w0 9 23 5 (st ++ crB) Tryz.underlying9 Tryz.underlying23 Tryz.underlying5
  have hy0 : (nmsB (st ++ crB)).length = st.size + 2 := by rw [nmsB_len, HCS.out]
  have HY0 := hide hy0
  have HG1 := hide hG1
  clear hG1 hy0
  generalize nmsB (st ++ crB) = y0 at *
  go_upto_region 2 with fail
  clear hcv k0
  have C1 := hide (later_keep l1 C0.out)
  have k1 := block_cell C1.out
  go_upto_region 3 with fail
  clear k1
  have HH1 := hide (hH.later (Later.trans l0 l1))
  have HB1 := hide (hB.later (Later.trans l0 l1))
  have L1 : Later w w1 := Later.trans l0 l1
  go_loopw [3, 13] (fun bv iv wr => ∃ k : Nat, k ≤ hs.length ∧ iv = .int .i64 (k : Int) ∧ Below w.heap.size w wr ∧ Hid (wr.heap[w.heap.size]? = some (.cells #[.string st, .slice sa hs.length scp, .slice ba zb.length bcp] 25 (0, 0))) ∧ Hid (OwG w.heap.size wr bv (y0 ++ hdL (hs.take k)))) (fun _ iv _ => hs.length - (intOf iv).toNat)
  case atStart => exact ⟨0, by omega, rfl, L1, C1, by rw [List.take_zero]; show Hid (OwG _ _ _ (y0 ++ [])); rw [List.append_nil]; exact HG1⟩
  case round =>
    obtain ⟨k, hk, rfl, lr, CR, HG⟩ := hrel
    have hle := hsz_take_le hs k
    have hdl := hdL_len (hs.take k)
    by_cases hlt : k < hs.length
    · have hlt' : (k : Int) < (hs.length : Int) := by omega
      obtain ⟨b, off, cp, e, _, _, hbn, hcs⟩ := (hH.below lr).cells (by omega)
      cases e
      have d0 := hcs k hlt 0 (by omega)
      have d1 := hcs k hlt 1 (by omega)
      have hsn : hs.take (k + 1) = hs.take k ++ [hs[k]] := by rw [← List.take_append_getElem hlt]
      have HSN : Hid (hdL (hs.take (k + 1)) = hdL (hs.take k) ++ nmsB (hdB hs[k])) := by show _ = _; rw [hsn, hdL_snoc]
      have hle2 := hsz_take_le hs (k + 1)
      rw [hsn, hsz_snoc] at hle2
      clear hcs hsn
      generalize hs[k] = r at *
      obtain ⟨x, y⟩ := r
      simp only [hrc, List.getElem?_cons_zero, List.getElem?_cons_succ, Nat.add_zero] at d0 d1 hle2
      have la := later_allocR wr (.cells #[.string x, .string y] 44)
      have B1 := hide (heap_alloc_new wr (.cells #[.string x, .string y] 44))
      go_upto_region 5 with fail
      clear d0 d1
      have lrs := lr.size
      have hlb : Below w.heap.size w (wr.alloc (.cells #[.string x, .string y] 44)) := lr.trans (la.mono lrs)
      have CQ := hide (later_keep la CR.out)
      have HG' := hide (HG.out.later la)
      have hgq : w.heap.size ≤ (wr.alloc (.cells #[.string x, .string y] 44)).heap.size := hlb.size
      generalize wr.alloc _ = wq at *
      have hHB : Hid (hdB (x, y) = x ++ ⟨#[58, 32]⟩ ++ y ++ ⟨#[13, 10]⟩) := rfl
      have hbs := hdB_size (x, y)
      rw [hHB.out] at HSN hbs
      have hyl : (y0 ++ hdL (hs.take k)).length = st.size + 2 + hsz (hs.take k) := by rw [List.length_append, hdl, HY0.out]
      obtain ⟨v2, w2, hrun, hG2, hgb2⟩ := appG_str 23 w.heap.size wq _ _ HG'.out (x ++ ⟨#[58, 32]⟩ ++ y ++ ⟨#[13, 10]⟩) hgq (by rw [hyl, hbs]; simp only; omega)
      obtain ⟨g2, c2, e2, hg2⟩ := hG2.form
      obtain ⟨g1, c1, e1, hg1⟩ := HG'.out.form
      generalize hn1 : (y0 ++ hdL (hs.take k)).length = n1 at e1
      generalize hn2 : (y0 ++ hdL (hs.take k) ++ nmsB (x ++ ⟨#[58, 32]⟩ ++ y ++ ⟨#[13, 10]⟩)).length = n2 at e2
      subst e1
      subst e2
      clear hn1 hn2 hyl
      have l2 := grown_later hgb2 hlb hgq (fun k hk => by simp [Value.ownBlock] at hk; omega)
      have C2 : Hid (w2.heap[w.heap.size]? = some (.cells #[.string st, .slice (some ⟨b, off, none⟩) hs.length scp, .slice ba zb.length bcp] 25 (0, 0))) := by
        show _ = _
        rw [hgb2.block w.heap.size (Array.getElem?_eq_some_iff.1 CQ.out).1 (fun e => by
          simp [Value.ownBlock] at e
          obtain ⟨_, _, cur, fz, e1, _, hh, _⟩ := HG'.out
          cases e1
          rw [← e, CQ.out] at hh
          cases hh)]
        exact CQ.out
      have HG2 := hide hG2
      have HRUN := hide hrun
      have hk1 := block_cell B1.out
      have hxs : x.size + 2 + y.size + 2 ≤ 4096 := by omega
      clear hG2 hrun hgb2 hdl HG HG' hbs hle hle2
      generalize wr.heap.size = gh at *
      go_wp2_with (at_builtin; refine wpList_appT rfl (.tmp 17) (.tmp 24) 23 9 rfl _ _ rfl rfl _ _ HRUN.out ?_)
      go_roundw
      case rel => exact ⟨k + 1, by omega, by go_num, l2, C2, by rw [HSN.out, ← List.append_assoc]; exact HG2⟩
      case measure => simp [intOf]; omega
    · obtain rfl : k = hs.length := by omega
      have hnl : ¬ ((hs.length : Nat) : Int) < (hs.length : Int) := by omega
      rw [List.take_length] at HG hdl
      obtain ⟨g1, c1, e1, hg1⟩ := HG.out.form
      have hyl : (y0 ++ hdL hs).length = st.size + 2 + hsz hs := by rw [List.length_append, hdl, HY0.out]
      obtain ⟨v2, w2, hrun, hG2, hgb2⟩ := appG_str 23 w.heap.size wr _ _ HG.out ⟨#[13, 10]⟩ lr.size (by rw [hyl]; show _ + 2 ≤ _; omega)
      obtain ⟨g2, c2, e2, hg2⟩ := hG2.form
      have l2 := grown_later hgb2 lr lr.size (fun k hk => by rw [e1] at hk; simp [Value.ownBlock] at hk; omega)
      have C2 : w2.heap[w.heap.size]? = some (.cells #[.string st, .slice sa hs.length scp, .slice ba zb.length bcp] 25 (0, 0)) := by
        rw [hgb2.block w.heap.size (Array.getElem?_eq_some_iff.1 CR.out).1 (fun e => by
          rw [e1] at e
          simp [Value.ownBlock] at e
          obtain ⟨_, _, cur, fz, e2, _, hh, _⟩ := HG.out
          rw [e1] at e2
          cases e2
          rw [← e, CR.out] at hh
          cases hh)]
        exact CR.out
      obtain ⟨v3, w3, hrun3, hG3, hgb3⟩ := appG_bytes 23 w.heap.size w.heap.size w2 _ _ hG2 _ zb (hB.below l2) l2.size (by rw [List.length_append, hyl, nmsB_len]; show _ + 2 + _ ≤ _; omega)
      have l3 := grown_later hgb3 l2 l2.size (fun k hk => by rw [e2] at hk; simp [Value.ownBlock] at hk; omega)
      obtain ⟨g3, c3, e3, hg3⟩ := hG3.form
      rw [show y0 ++ hdL hs ++ nmsB ⟨#[13, 10]⟩ ++ zb = tx from HTX.out.symm] at hG3 e3
      have HG3 := hide hG3
      have HRUN := hide hrun
      have HRUN3 := hide hrun3
      have k2 := block_cell C2
      clear hG3 hrun hrun3 hgb2 hgb3 hG2 hdl hyl hle HG
      generalize hn1 : (y0 ++ hdL hs).length = n1 at e1
      generalize hn2 : (y0 ++ hdL hs ++ nmsB ⟨#[13, 10]⟩).length = n2 at e2
      generalize hn3 : tx.length = n3 at e3
      clear hn1 hn2 hn3
      subst e1
      subst e2
      subst e3
      go_wp2_with (at_builtin; refine wpList_appT rfl (.tmp 27) (.const (.string ⟨#[13, 10]⟩)) 23 9 rfl _ _ rfl rfl _ _ HRUN.out ?_; refine Hid.out ?_)
      show wpList _ _ _ _ _ _
      go_wp2_with (at_builtin; go_loud (refine wpList_appT rfl (.tmp 29) (.tmp 31) 23 23 rfl _ _ rfl rfl _ _ HRUN3.out ?_))
      go_ret
      exact ⟨l3, _, rfl, HG3.out⟩
end Go.Proofs.YtibjgaelaijgpaaGreatDoor

/- Package sip: Build, Same; the law's few. -/
namespace Go.Proofs.YtibjgaelaijgpaaGreatDoor
open Go.RowKit Go.Shelf
set_option maxRecDepth 100000
set_option linter.unusedVariables false
set_option linter.unusedSimpArgs false

theorem rgB_sz {st : ByteArray} {hs : List Hr} {n : Nat} (h : rgB st hs n = true) : szM st hs n ≤ 4096 := by
  unfold rgB at h
  simp only [Bool.and_eq_true, decide_eq_true_eq] at h
  exact h.2.2.2

set_option maxHeartbeats 4000000 in
theorem build14_yes (st : ByteArray) (sv sb : Value) (hs : List Hr) (zb : List Int) (w : World) (hT : TabI w) (hH : RdM w.heap.size w sv hs) (hB : Rd w.heap.size w sb zb) (hz : szM st hs zb.length ≤ 9000000000000000000) (hr : rgB st hs zb.length = true) :
    Calls Tryz.prog 19 #[.agg #[.string st, sv, sb]] w fun e w' => Later w w' ∧ ∃ v, e = .returned (.tuple #[v, .int .i64 0]) ∧ OwG w.heap.size w' v (txM st hs zb) := by
  obtain ⟨sa, scp, rfl, hsc1, hsc2⟩ := hH.slice
  obtain ⟨ba, bcp, rfl, hbc1, hbc2⟩ := hB.slice
  have l0 : Later w (w.alloc (.cells #[.string st, .slice sa hs.length scp, .slice ba zb.length bcp] 25)) := later_allocR _ _
  have C0 := hide (heap_alloc_new w (.cells #[.string st, .slice sa hs.length scp, .slice ba zb.length bcp] 25))
  have HR := hide (fun W (l : Later w W) => right14_any st hs _ _ zb W (hT.later l) (hH.later l) (hB.later l) hz)
  rw [hr] at HR
  have hz4 := rgB_sz hr
  have HJ := hide (fun W (l : Later w W) => joined_any st _ _ hs zb W (hH.later l) (hB.later l) hz4)
  clear hr hz4 hz
  generalize txM st hs zb = tx at *
  go_enter Tryz.func19, Tryz.ntmps19
  go_upto_region 1 with fail
  generalize w.alloc _ = w0 at *
  have hgs : w.heap.size ≤ w0.heap.size := l0.size
  generalize w.heap.size = gm at *
  have k0 := block_cell C0.out
  go_wp2_with fail
  refine (HR.out w0 l0).mono ?_
  rintro e w1 ⟨rfl, l1⟩
  clear k0
  have k1 := block_cell (later_keep l1 C0.out)
  go_wp2_with fail
  refine (HJ.out w1 (Later.trans l0 l1)).mono ?_
  rintro e w2 ⟨l2, v, rfl, hG⟩
  clear k1
  obtain ⟨g, c, e, hg⟩ := hG.form
  generalize hn : tx.length = n at e
  subst e
  have HG := hide hG
  have hsz := l1.size
  clear hG hn
  go_wp2_with fail
  exact bodyPost_ret (v := .tuple #[.slice (some ⟨g, 0, none⟩) n c, .int .i64 0]) (by simp [results, Tryz.results19, go_sem]) rfl ⟨Later.trans l0 (l1.trans l2), _, rfl, let ⟨g, cap, cur, fz, e, hb, r⟩ := HG.out; ⟨g, cap, cur, fz, e, by have := l0.size; omega, r⟩⟩

theorem RdM.take {n₀ : Nat} {W : World} {a : Option Addr} {n cap : Nat} {l : List Hr} (h : RdM n₀ W (.slice a n cap) l) (k : Nat) (hk : k ≤ l.length) : RdM n₀ W (.slice a k cap) (l.take k) := by
  rcases h with ⟨a', cap', e, rfl, hm, hn⟩ | ⟨b, off, cap', e, hne, hl, hm, hb, hc⟩
  · cases e
    obtain rfl : k = 0 := by simpa using hk
    exact .inl ⟨_, _, rfl, rfl, hm, hn⟩
  · cases e
    by_cases h0 : k = 0
    · subst h0
      exact .inl ⟨_, _, rfl, rfl, hm, fun h => by cases h⟩
    · have hl2 : (l.take k).length = k := by rw [List.length_take]; omega
      refine .inr ⟨b, off, cap, by rw [hl2], fun e => by rw [e] at hl2; simp at hl2; omega, by rw [hl2]; omega, hm, hb, fun j hj i hi => ?_⟩
      rw [hc j (by rw [hl2] at hj; omega) i hi]
      simp

set_option maxHeartbeats 4000000 in
theorem few_any (st : ByteArray) (sv sb : Value) (hs : List Hr) (zb : List Int) (w : World) (hH : RdM w.heap.size w sv hs) (hB : Rd w.heap.size w sb zb) :
    Calls Tryz.prog 4 #[.agg #[.string st, sv, sb]] w fun e w' => Later w w' ∧ ∃ sv', e = .returned (.agg #[.string st, sv', sb]) ∧ RdM w.heap.size w sv' (hs.take 100) := by
  obtain ⟨sa, scp, rfl, hsc1, hsc2⟩ := hH.slice
  obtain ⟨ba, bcp, rfl, hbc1, hbc2⟩ := hB.slice
  have hb4 : Later w ((w.alloc (.cells #[.string st, .slice sa hs.length scp, .slice ba zb.length bcp] 25)).alloc (.cells #[.string ⟨#[]⟩, .slice none 0 0, .slice none 0 0] 25)) := ((Below.refl _ _).alloc (Nat.le_refl _) _).alloc (by simp) _
  have C0 := hide (show ((w.alloc (.cells #[.string st, .slice sa hs.length scp, .slice ba zb.length bcp] 25)).alloc (.cells #[.string ⟨#[]⟩, .slice none 0 0, .slice none 0 0] 25)).heap[w.heap.size]? = some (.cells #[.string st, .slice sa hs.length scp, .slice ba zb.length bcp] 25 (0, 0)) from (Below.heap_alloc _ _ _ (by simp)).trans (heap_alloc_new w _))
  have C1 : Hid (((w.alloc (.cells #[.string st, .slice sa hs.length scp, .slice ba zb.length bcp] 25)).alloc (.cells #[.string ⟨#[]⟩, .slice none 0 0, .slice none 0 0] 25)).heap[w.heap.size + 1]? = some (.cells #[.string ⟨#[]⟩, .slice none 0 0, .slice none 0 0] 25 (0, 0))) := by
    have := heap_alloc_new (w.alloc (.cells #[.string st, .slice sa hs.length scp, .slice ba zb.length bcp] 25)) (.cells #[.string ⟨#[]⟩, .slice none 0 0, .slice none 0 0] 25)
    rw [World.size_alloc] at this
    exact this
  go_enter Tryz.func4, Tryz.ntmps4
  go_upto_region 1 with fail
  generalize (w.alloc (.cells #[.string st, .slice sa hs.length scp, .slice ba zb.length bcp] 25)).alloc (.cells #[.string ⟨#[]⟩, .slice none 0 0, .slice none 0 0] 25) = w4 at *
  generalize hgc : w.heap.size = gc at C0 C1 ⊢
  have k0 := block_cell C0.out
  have HGC := hide hgc
  clear hgc
  by_cases hgt : 100 < hs.length
  · have hgt' : (100 : Int) < (hs.length : Int) := by omega
    obtain ⟨b, off, cap, e, _⟩ := hH.cells (by omega)
    cases e
    have HR := hide (hH.take 100 (by omega))
    rw [HGC.out] at HR
    have f0 := block_frozen C0.out
    have k1 := block_cell C1.out
    have f1 := block_frozen C1.out
    have hcap : ¬ scp = 0 := by omega
    have hcp1 : (100 : Int) ≤ (scp : Int) := by omega
    go_upto_region 3 with fail
    have D0 := heap_set1 C0.out 1 (.slice (some ⟨b, off, none⟩) 100 scp)
    have D1 := hsetS_ne (m := gc) (j := 1) (v := .slice (some ⟨b, off, none⟩) 100 scp) C1.out (by omega)
    have hb1 : But (fun b => b = gc ∨ b = gc + 1) w4 (w4.setCell ⟨gc, 1, none⟩ (.slice (some ⟨b, off, none⟩) 100 scp)) := (But.refl _ _).setCell (.inl rfl) _
    clear k0 f0 k1 f1
    generalize w4.setCell ⟨gc, 1, none⟩ _ = V1 at *
    have D0' : V1.heap[gc]? = some (.cells #[.string st, .slice (some ⟨b, off, none⟩) 100 scp, .slice ba zb.length bcp] 25 (0, 0)) := D0
    have k0 := block_cell D0'
    have k1 := block_cell D1
    have f1 := block_frozen D1
    go_wp2_with fail
    generalize hV : (((V1.setCell ⟨gc + 1, 0, none⟩ _).setCell ⟨gc + 1, 1, none⟩ _).setCell ⟨gc + 1, 2, none⟩ _) = V8
    have hV9 : V8 = putRow V1 (gc + 1) 0 [.string st, .slice (some ⟨b, off, none⟩) 100 scp, .slice ba zb.length bcp] := hV.symm
    have hb8 : But (fun b => b = gc ∨ b = gc + 1) w4 V8 := by rw [hV9]; exact putRow_but (E := fun b => b = gc ∨ b = gc + 1) (n := gc + 1) (.inr rfl) _ _ _ _ hb1
    have p8 := putRow_all [.string st, .slice (some ⟨b, off, none⟩) 100 scp, .slice ba zb.length bcp] D1 rfl
    rw [← hV9] at p8
    clear hV hV9
    have P8 := block_cell p8
    have hw8 : Later w V8 := Below.trans hb4 (hb8.below hb4.size (fun k h e => by have := HGC.out; omega))
    exact bodyPost_ret (v := .agg #[.string st, .slice (some ⟨b, off, none⟩) 100 scp, .slice ba zb.length bcp]) (by simp [results, Tryz.results4, go_sem, P8]) rfl ⟨hw8, _, rfl, by rw [HGC.out]; exact HR.out⟩
  · have hgt' : ¬ (100 : Int) < (hs.length : Int) := by omega
    have HR := hide hH
    rw [show hs = hs.take 100 from (List.take_of_length_le (by omega)).symm] at HR
    rw [show (hs.take 100).length = hs.length from by rw [List.length_take]; omega] at HR
    have k1 := block_cell C1.out
    have f1 := block_frozen C1.out
    go_wp2_with fail
    generalize hV : (((w4.setCell ⟨gc + 1, 0, none⟩ _).setCell ⟨gc + 1, 1, none⟩ _).setCell ⟨gc + 1, 2, none⟩ _) = V8
    have hV9 : V8 = putRow w4 (gc + 1) 0 [.string st, .slice sa hs.length scp, .slice ba zb.length bcp] := hV.symm
    have hb8 : But (fun b => b = gc + 1) w4 V8 := by rw [hV9]; exact putRow_but (E := fun b => b = gc + 1) (n := gc + 1) rfl _ _ _ _ (But.refl _ _)
    have p8 := putRow_all [.string st, .slice sa hs.length scp, .slice ba zb.length bcp] C1.out rfl
    rw [← hV9] at p8
    clear hV hV9
    have P8 := block_cell p8
    have hw8 : Later w V8 := Below.trans hb4 (hb8.below hb4.size (fun k h e => by have := HGC.out; omega))
    exact bodyPost_ret (v := .agg #[.string st, .slice sa hs.length scp, .slice ba zb.length bcp]) (by simp [results, Tryz.results4, go_sem, P8]) rfl ⟨hw8, _, rfl, HR.out⟩

end Go.Proofs.YtibjgaelaijgpaaGreatDoor

/- Package sip: Same; the law's live. -/
namespace Go.Proofs.YtibjgaelaijgpaaGreatDoor
open Go.RowKit Go.Shelf
set_option maxRecDepth 100000
set_option linter.unusedVariables false
set_option linter.unusedSimpArgs false

/-- Two messages are the same. -/
def smM (s1 s2 : ByteArray) (h1 h2 : List Hr) (z1 z2 : List Int) : Bool := eqS s1 s2 && (decide (h1 = h2) && decide (z1 = z2))
theorem smM_self (s : ByteArray) (h : List Hr) (z : List Int) : smM s s h h z z = true := by
  unfold smM
  rw [eqS_iff.2 rfl]
  simp

def lvV : ByteArray := ⟨#[83, 73, 80, 47, 50, 46, 48, 47, 85, 68, 80, 32, 49, 48, 46, 48, 46, 48, 46, 50, 58, 53, 48, 54, 48, 59, 98, 114, 97, 110, 99, 104, 61, 49]⟩
def lvW : ByteArray := ⟨#[83, 73, 80, 47, 50, 46, 48, 47, 85, 68, 80, 32, 49, 46, 50, 46, 51, 46, 52, 58, 55, 48, 48, 48, 59, 98, 114, 97, 110, 99, 104, 61, 49]⟩
def lvH : List Hr := [(⟨#[86, 105, 97]⟩, lvV), (clN, ⟨#[48]⟩)]
theorem lv_rg : rgB ⟨#[65]⟩ lvH 0 = true := by decide +kernel
theorem lv_rw : rwHs (cgOf 167772162 16909060 5060 7000 []) ⟨#[65]⟩ lvH [] = [(⟨#[86, 105, 97]⟩, lvW), (clN, ⟨#[48]⟩)] := by decide +kernel
theorem lv_sz : (txM ⟨#[65]⟩ lvH []).length = 65 := by decide +kernel

theorem rdH_made (W : World) (l : List Hr) (hl : l.length ≤ 1000) : RdM (W.alloc (.cells (hrs l).toArray 44)).heap.size (W.alloc (.cells (hrs l).toArray 44)) (.slice (some ⟨W.heap.size, 0, none⟩) l.length l.length) l := by
  by_cases hn : l = []
  · subst hn
    exact .inl ⟨_, _, rfl, rfl, by simp, fun h => by cases h⟩
  · refine .inr ⟨W.heap.size, 0, l.length, rfl, hn, Nat.le_refl _, by omega, by simp, fun j hj i hi => ?_⟩
    rw [Nat.zero_add, block_cell (heap_alloc_new W _), ← hrs_at l j i hj hi]
    simp
theorem cg_wf {h t p q : Int} {ml : List (Int × Int)} (hh : 0 ≤ h ∧ h ≤ 4294967295) (ht : 0 ≤ t ∧ t ≤ 4294967295) (hp : 0 ≤ p ∧ p ≤ 65535) (hq : 0 ≤ q ∧ q ≤ 65535) (hm : ∀ m ∈ ml, (0 ≤ m.1 ∧ m.1 ≤ 65535) ∧ (0 ≤ m.2 ∧ m.2 ≤ 65535)) : (cgOf h t p q ml).wf :=
  ⟨⟨by have := adB_size h hh; show (adB h).size ≤ _; omega, by have := adB_size t ht; show (adB t).size ≤ _; omega⟩, hp, hq, hm⟩

set_option maxRecDepth 100000 in
set_option maxHeartbeats 4000000 in
theorem live14_any (w : World) (hT : TabI w) (hM : TabM w) :
    Calls Tryz.prog 9 #[] w fun e w' => e = .returned (.bool true) ∧ Later w w' := by
  have l0 : Later w ((w.alloc (.cells (hrs lvH).toArray 44)).alloc (.cells #[.string ⟨#[65]⟩, .slice (some ⟨w.heap.size, 0, none⟩) 2 2, .slice none 0 0] 25)) := ((Below.refl _ _).alloc (Nat.le_refl _) _).alloc (by simp) _
  have hH0 := (rdH_made w lvH (by decide)).later (later_allocR _ (.cells #[.string ⟨#[65]⟩, .slice (some ⟨w.heap.size, 0, none⟩) 2 2, .slice none 0 0] 25))
  have C0 := hide (heap_alloc_new (w.alloc (.cells (hrs lvH).toArray 44)) (.cells #[.string ⟨#[65]⟩, .slice (some ⟨w.heap.size, 0, none⟩) 2 2, .slice none 0 0] 25))
  rw [World.size_alloc] at C0
  have hH0' : Hid (RdM ((w.alloc (.cells (hrs lvH).toArray 44)).alloc (.cells #[.string ⟨#[65]⟩, .slice (some ⟨w.heap.size, 0, none⟩) 2 2, .slice none 0 0] 25)).heap.size ((w.alloc (.cells (hrs lvH).toArray 44)).alloc (.cells #[.string ⟨#[65]⟩, .slice (some ⟨w.heap.size, 0, none⟩) 2 2, .slice none 0 0] 25)) (.slice (some ⟨w.heap.size, 0, none⟩) 2 2) lvH) := hH0
  clear hH0
  go_enter Tryz.func9, Tryz.ntmps9
  go_upto_region 2 with fail
  change Code.wp _ _ _ _ ((w.alloc (.cells (hrs lvH).toArray 44)).alloc (.cells #[.string ⟨#[65]⟩, .slice (some ⟨w.heap.size, 0, none⟩) 2 2, .slice none 0 0] 25))
  generalize (w.alloc (.cells (hrs lvH).toArray 44)).alloc (.cells #[.string ⟨#[65]⟩, .slice (some ⟨w.heap.size, 0, none⟩) 2 2, .slice none 0 0] 25) = w1 at *
  generalize w.heap.size = gc at *
  have k0 := block_cell C0.out
  have HRW := hide (rewrite14_any 167772162 16909060 5060 7000 [] (.slice none 0 0) ⟨#[65]⟩ (.slice (some ⟨gc, 0, none⟩) 2 2) (.slice none 0 0) lvH [] w1 (hT.later l0) (hM.later l0) (by decide) (by decide) (cg_wf (by decide) (by decide) (by decide) (by decide) (fun m hm => by cases hm)) (.inl ⟨none, 0, rfl, rfl, by omega⟩) hH0'.out (.inl ⟨none, 0, rfl, rfl, by omega, fun _ => rfl⟩) (by decide) (by decide) (by decide +kernel))
  rw [lv_rw] at HRW
  have HBD := hide (fun W (l : Later w1 W) => build14_yes ⟨#[65]⟩ (.slice (some ⟨gc, 0, none⟩) 2 2) (.slice none 0 0) lvH [] W (hT.later (Later.trans l0 l)) (hH0'.out.later l) (.inl ⟨none, 0, rfl, rfl, by omega, fun _ => rfl⟩) (by decide +kernel) lv_rg)
  generalize rwZb (cgOf 167772162 16909060 5060 7000 []) ⟨#[65]⟩ lvH [] = rz at *
  go_wp2_with fail
  refine HRW.out.mono ?_
  rintro e w2 ⟨l2, vh, vb, rfl, hrow, hO⟩
  obtain ⟨va, vc, rfl⟩ := owns_form hrow
  obtain ⟨xa, xc, rfl, _, _⟩ := hO.slice
  clear k0
  have la := later_allocR w2 (.cells #[.string ⟨#[65]⟩, .slice va 2 vc, .slice xa rz.length xc] 25)
  have C1 := hide (heap_alloc_new w2 (.cells #[.string ⟨#[65]⟩, .slice va 2 vc, .slice xa rz.length xc] 25))
  have HR2 := hide ((ownM_rd hrow).later la)
  go_upto_region 3 with fail
  have K3 : Later w1 (w2.alloc (.cells #[.string ⟨#[65]⟩, .slice va 2 vc, .slice xa rz.length xc] 25)) := Later.trans l2 la
  change Code.wp _ _ _ _ (w2.alloc (.cells #[.string ⟨#[65]⟩, .slice va 2 vc, .slice xa rz.length xc] 25))
  generalize w2.alloc (.cells #[.string ⟨#[65]⟩, .slice va 2 vc, .slice xa rz.length xc] 25) = w3 at *
  have hgn : [((⟨#[86, 105, 97]⟩, lvW) : Hr), (clN, ⟨#[48]⟩)].length = 2 := rfl
  generalize w2.heap.size = gn at *
  have k1 := block_cell (later_keep K3 C0.out)
  go_wp2_with fail
  refine (HBD.out w3 K3).mono ?_
  rintro e w4 ⟨l4, v, rfl, hG⟩
  obtain ⟨g, c, e, hg⟩ := hG.form
  rw [lv_sz] at e
  subst e
  clear k1 hG HBD HRW
  have D1 := later_keep l4 C1.out
  have kN := block_cell D1
  obtain ⟨b, off, cp, e, _, _, hbn, hcs⟩ := (HR2.out.later l4).cells (by decide)
  obtain ⟨rfl, rfl⟩ : va = some ⟨b, off, none⟩ ∧ vc = cp := by injection e with h1 h2 h3; exact ⟨h1, h3⟩
  have d1 := hcs 0 (by decide) 1 (by decide)
  have d1' : w4.cell? ⟨b, off + 1, none⟩ = some (.string lvW) := by have := d1; rw [Nat.zero_mul, Nat.add_zero] at this; exact this
  unfold lvW at d1'
  clear hcs d1 e
  go_wp2_with fail
  go_ret
  exact ⟨rfl, Later.trans l0 (Later.trans K3 l4)⟩
end Go.Proofs.YtibjgaelaijgpaaGreatDoor

/- The document's texts: plain, name, lower, digits. -/
namespace Go.Proofs.YtibjgaelaijgpaaGreatDoor
open Go.RowKit Go.Shelf
set_option maxRecDepth 100000
set_option linter.unusedVariables false
set_option linter.unusedSimpArgs false

theorem bAt_get (s : ByteArray) (i : Nat) (h : i < s.size) : ((s[i]'h).toNat : Int) = bAt s i := by unfold bAt; simp [ByteArray.get!, getElem!_pos, h]; rfl

set_option maxHeartbeats 4000000 in
theorem rplain_any (s : ByteArray) (w : World) (hs : s.size ≤ 9223372036854775807) :
    Calls Tryz.prog 25 #[.string s] w fun e w' => e = .returned (.bool (allB lnC s)) ∧ w' = w := by
  have hs' : (s.size : Int) ≤ 9223372036854775807 := by omega
  go_enter Tryz.func25, Tryz.ntmps25
  go_upto_region 2 with fail
  go_loopw [3] (fun iv wr => ∃ pos : Nat, pos ≤ s.size ∧ iv = .int .i64 (pos : Int) ∧ wr = w ∧ Hid (∀ j, j < pos → lnC (bAt s j) = true)) (fun iv _ => s.size - (intOf iv).toNat)
  case atStart => exact ⟨0, by omega, rfl, rfl, fun j hj => by omega⟩
  case round =>
    obtain ⟨pos, hp, rfl, rfl, HA⟩ := hrel
    by_cases hlt : pos < s.size
    · have hlt1 : (pos : Int) < s.size := by omega
      have hbg := bAt_get s pos hlt
      cases hl : lnC (bAt s pos) with
      | false =>
        have HV := hide (allB_no hlt hl)
        have h13 : bAt s pos = 13 ∨ bAt s pos = 10 := by unfold lnC at hl; simp at hl; omega
        clear hl HA
        rw [← hbg] at h13
        clear hbg
        rcases h13 with h | h
        · have q : ((((s[pos]'hlt).toNat : Nat) : Int) == 13) = true := by simp [h]
          clear h
          go_wp2_with fail
          go_ret
          exact ⟨by rw [HV.out]; rfl, rfl⟩
        · have q : ((((s[pos]'hlt).toNat : Nat) : Int) == 13) = false := by simp [h]
          have q2 : ((((s[pos]'hlt).toNat : Nat) : Int) == 10) = true := by simp [h]
          clear h
          go_wp2_with fail
          go_ret
          exact ⟨by rw [HV.out]; rfl, rfl⟩
      | true =>
        have HN : Hid (∀ j, j < pos + 1 → lnC (bAt s j) = true) := fun j hj => by
          rcases Nat.lt_or_eq_of_le (Nat.lt_succ_iff.1 hj) with h | rfl
          · exact HA.out j h
          · exact hl
        have h13 : ((((s[pos]'hlt).toNat : Nat) : Int) == 13) = false ∧ ((((s[pos]'hlt).toNat : Nat) : Int) == 10) = false := by
          rw [hbg]
          unfold lnC at hl
          simpa using hl
        obtain ⟨q1, q2⟩ := h13
        clear hl HA hbg
        go_wp2_with fail
        go_roundw
        case rel => exact ⟨pos + 1, by omega, by go_num, by first | trivial | rfl, HN⟩
        case measure => simp [intOf]; omega
    · have hnl : ¬ (pos : Int) < s.size := by omega
      have HV := hide (allB_yes (s := s) (p := lnC) (fun j hj => HA.out j (by omega)))
      go_wp2_with fail
      go_ret
      exact ⟨by rw [HV.out]; rfl, rfl⟩

set_option maxHeartbeats 8000000 in
theorem rname_any (s : ByteArray) (w : World) (hs : s.size ≤ 9223372036854775807) :
    Calls Tryz.prog 27 #[.string s] w fun e w' => e = .returned (.bool (allN nmC s)) ∧ w' = w := by
  have hs' : (s.size : Int) ≤ 9223372036854775807 := by omega
  go_enter Tryz.func27, Tryz.ntmps27
  go_upto_region 2 with fail
  go_loopw [3, 4] (fun iv cv wr => ∃ pos : Nat, pos ≤ s.size ∧ iv = .int .i64 (pos : Int) ∧ wr = w ∧ Hid (∀ j, j < pos → nmC (bAt s j) = true)) (fun iv _ _ => s.size - (intOf iv).toNat)
  case atStart => exact ⟨0, by omega, rfl, rfl, fun j hj => by omega⟩
  case round =>
    obtain ⟨pos, hp, rfl, rfl, HA⟩ := hrel
    by_cases hlt : pos < s.size
    · have hlt1 : (pos : Int) < s.size := by omega
      have hbg := bAt_get s pos hlt
      have hN : Hid (nmC (bAt s pos) = true → ∀ j, j < pos + 1 → nmC (bAt s j) = true) := fun hl j hj => by
          rcases Nat.lt_or_eq_of_le (Nat.lt_succ_iff.1 hj) with h | rfl
          · exact HA.out j h
          · exact hl
      have hV : Hid (nmC (bAt s pos) = false → allN nmC s = false) := fun hl => by unfold allN; rw [allB_no hlt hl]; rfl
      have hdef : Hid (nmC (bAt s pos) = ((decide (97 ≤ bAt s pos) && decide (bAt s pos ≤ 122)) || (decide (65 ≤ bAt s pos) && decide (bAt s pos ≤ 90)) || ((decide (48 ≤ bAt s pos) && decide (bAt s pos ≤ 57)) || bAt s pos == 45))) := rfl
      rw [hdef.out] at hN hV
      clear hdef HA
      rw [← hbg] at hN hV
      clear hbg
      have hcr : (0 : Int) ≤ ((s[pos]'hlt).toNat : Int) ∧ ((s[pos]'hlt).toNat : Int) ≤ 255 := by have := (s[pos]'hlt).toNat_lt; omega
      go_upto_region 5 with fail
      generalize (((s[pos]'hlt).toNat : Nat) : Int) = c at *
      by_cases a1 : 97 ≤ c
      · by_cases a2 : c ≤ 122
        · have HN := hide (hN.out (by simp <;> omega)); clear hN hV; go_wp2_with fail; go_roundw; exact ⟨pos + 1, by omega, by go_num, trivial, HN⟩; (simp [intOf]; omega)
        · have a3 : 65 ≤ c := by omega
          have a4 : ¬ c ≤ 90 := by omega
          have a5 : 48 ≤ c := by omega
          have a6 : ¬ c ≤ 57 := by omega
          have a7 : (c == 45) = false := by simp; omega
          have HN := hide (hV.out (by simp <;> omega)); clear hN hV; go_wp2_with fail; go_ret; exact ⟨by rw [HN.out]; rfl, rfl⟩
      · by_cases a3 : 65 ≤ c
        · by_cases a4 : c ≤ 90
          · have HN := hide (hN.out (by simp <;> omega)); clear hN hV; go_wp2_with fail; go_roundw; exact ⟨pos + 1, by omega, by go_num, trivial, HN⟩; (simp [intOf]; omega)
          · have a5 : 48 ≤ c := by omega
            have a6 : ¬ c ≤ 57 := by omega
            have a7 : (c == 45) = false := by simp; omega
            have HN := hide (hV.out (by simp <;> omega)); clear hN hV; go_wp2_with fail; go_ret; exact ⟨by rw [HN.out]; rfl, rfl⟩
        · by_cases a5 : 48 ≤ c
          · by_cases a6 : c ≤ 57
            · have HN := hide (hN.out (by simp <;> omega)); clear hN hV; go_wp2_with fail; go_roundw; exact ⟨pos + 1, by omega, by go_num, trivial, HN⟩; (simp [intOf]; omega)
            · have a7 : (c == 45) = false := by simp; omega
              have HN := hide (hV.out (by simp <;> omega)); clear hN hV; go_wp2_with fail; go_ret; exact ⟨by rw [HN.out]; rfl, rfl⟩
          · by_cases a7 : c = 45
            · subst a7
              have HN := hide (hN.out (by simp <;> omega)); clear hN hV; go_wp2_with fail; go_roundw; exact ⟨pos + 1, by omega, by go_num, trivial, HN⟩; (simp [intOf]; omega)
            · have a8 : (c == 45) = false := by simp [a7]
              have HN := hide (hV.out (by simp <;> omega)); clear hN hV; go_wp2_with fail; go_ret; exact ⟨by rw [HN.out]; rfl, rfl⟩
    · have hnl : ¬ (pos : Int) < s.size := by omega
      have HB : Hid (allB nmC s = true) := allB_yes (fun j hj => HA.out j (by omega))
      clear HA
      by_cases hs0 : s.size = 0
      · have HV : Hid (allN nmC s = false) := by show _ = _; unfold allN; rw [hs0]; simp
        obtain rfl := str_empty s hs0
        go_wp2_with fail
        go_ret
        exact ⟨by rw [HV.out]; rfl, rfl⟩
      · have HV : Hid (allN nmC s = true) := by show _ = _; unfold allN; rw [HB.out]; simp [hs0]
        have hne := str_ne hs0
        go_wp2_with fail
        go_ret
        exact ⟨by rw [HV.out]; rfl, rfl⟩
end Go.Proofs.YtibjgaelaijgpaaGreatDoor

/- The document's texts: lower, digits. -/
namespace Go.Proofs.YtibjgaelaijgpaaGreatDoor
open Go.RowKit Go.Shelf
set_option maxRecDepth 100000
set_option linter.unusedVariables false
set_option linter.unusedSimpArgs false

/-- A text's bytes with small letters. -/
def lowZ (s : ByteArray) : List Int := (nmsB s).map sml
theorem sml_rng {c : Int} (h : 0 ≤ c ∧ c ≤ 255) : 0 ≤ sml c ∧ sml c ≤ 255 := by unfold sml; split <;> omega
theorem lowZ_by (s : ByteArray) : Mt.By (lowZ s) := fun z hz => by
  simp only [lowZ, List.mem_map] at hz
  obtain ⟨c, hc, rfl⟩ := hz
  exact sml_rng (nmsB_by s c hc)
theorem lowZ_len (s : ByteArray) : (lowZ s).length = s.size := by unfold lowZ; rw [List.length_map, nmsB_len]
theorem swP_iff (s t : ByteArray) (h : s.size = t.size) : ∀ k pos, pos + k = s.size → (swP s t k pos = true ↔ ∀ j, pos ≤ j → j < s.size → sml (bAt s j) = sml (bAt t j))
  | 0, pos, hk => by
    constructor
    · intro _ j h1 h2; omega
    · intro _; rfl
  | k + 1, pos, hk => by
    have e : swP s t (k + 1) pos = if sml (bAt s pos) = sml (bAt t pos) then swP s t k (pos + 1) else false := rfl
    rw [e]
    split
    · rename_i hq
      rw [swP_iff s t h k (pos + 1) (by omega)]
      constructor
      · intro hh j h1 h2
        rcases Nat.eq_or_lt_of_le h1 with rfl | h1
        · exact hq
        · exact hh j h1 h2
      · intro hh j h1 h2; exact hh j (by omega) h2
    · rename_i hq
      constructor
      · intro hh; cases hh
      · intro hh; exact absurd (hh pos (Nat.le_refl _) (by omega)) hq
theorem lowZ_at (s : ByteArray) (j : Nat) (h : j < s.size) : (lowZ s)[j]? = some (sml (bAt s j)) := by
  unfold lowZ
  have h' : j < (nmsB s).length := by rw [nmsB_len]; exact h
  rw [List.getElem?_map, nmsB_at s j h, List.getElem?_eq_getElem h']
  rfl
theorem swV_low (s t : ByteArray) : swV s t = decide (lowZ s = lowZ t) := by
  rw [Bool.eq_iff_iff, decide_eq_true_eq]
  unfold swV
  rw [Bool.and_eq_true, decide_eq_true_eq]
  constructor
  · rintro ⟨h1, h2⟩
    rw [swP_iff s t h1 s.size 0 (by omega)] at h2
    apply List.ext_getElem?
    intro j
    by_cases hj : j < s.size
    · rw [lowZ_at s j hj, lowZ_at t j (by omega), h2 j (by omega) hj]
    · rw [List.getElem?_eq_none (by rw [lowZ_len]; omega), List.getElem?_eq_none (by rw [lowZ_len]; omega)]
  · intro h
    have h1 : s.size = t.size := by rw [← lowZ_len, ← lowZ_len, h]
    refine ⟨h1, (swP_iff s t h1 s.size 0 (by omega)).2 fun j _ hj => ?_⟩
    have := lowZ_at s j hj
    rw [h, lowZ_at t j (by omega)] at this
    exact (Option.some.inj this).symm
/-- Two words are the same, large or small, where their small forms are. -/
theorem low_eq (s t : ByteArray) : eqS (strOfNums (lowZ s)) (strOfNums (lowZ t)) = swV s t := by
  rw [swV_low, Bool.eq_iff_iff, eqS_iff, decide_eq_true_eq]
  constructor
  · intro h
    have := congrArg nmsB h
    rwa [nmsB_str _ (lowZ_by s), nmsB_str _ (lowZ_by t)] at this
  · intro h; rw [h]
theorem low_cl (s : ByteArray) : (ByteArray.toList (strOfNums (lowZ s)) == ByteArray.toList ⟨#[99, 111, 110, 116, 101, 110, 116, 45, 108, 101, 110, 103, 116, 104]⟩) = swV s clN := by
  rw [str_beq, ← low_eq]
  congr 1

set_option maxRecDepth 100000 in
set_option maxHeartbeats 8000000 in
theorem rlower_any (s : ByteArray) (w : World) (hs : s.size ≤ 140737488355328) :
    Calls Tryz.prog 15 #[.string s] w fun e w' => e = .returned (.string (strOfNums (lowZ s))) ∧ Later w w' := by
  obtain ⟨i0, hi0, hz0, hz1, hz2⟩ := info_partsS info_u8
  have hs' : (s.size : Int) ≤ 140737488355328 := by omega
  go_enter Tryz.func15, Tryz.ntmps15
  go_upto_region 3 with fail
  go_loopw [3, 4, 5] (fun bv iv cv wr => ∃ pos : Nat, pos ≤ s.size ∧ iv = .int .i64 (pos : Int) ∧ Below w.heap.size w wr ∧ Hid (wr.ownsRow w.heap.size 5 1 bv ((lowZ s).take pos).length (((lowZ s).take pos).map (Value.int .u8)))) (fun _ iv _ _ => s.size - (intOf iv).toNat)
  case atStart => exact ⟨0, by omega, rfl, Below.refl _ _, ⟨rfl, .inl ⟨rfl, rfl⟩⟩⟩
  case round =>
    obtain ⟨pos, hp, rfl, lr, HO⟩ := hrel
    by_cases hlt : pos < s.size
    · have hlt1 : (pos : Int) < s.size := by omega
      have hbg := bAt_get s pos hlt
      have HS : Hid ((lowZ s).take (pos + 1) = (lowZ s).take pos ++ [sml (bAt s pos)]) := by
        show _ = _
        have h' : pos < (lowZ s).length := by rw [lowZ_len]; exact hlt
        rw [List.take_succ_eq_append_getElem h']
        have := lowZ_at s pos hlt
        rw [List.getElem?_eq_getElem h'] at this
        rw [Option.some.inj this]
      have HML : Hid (((lowZ s).take pos).length = pos) := by show _ = _; rw [List.length_take, lowZ_len]; omega
      generalize (lowZ s).take pos = M at *
      rw [← hbg] at HS
      clear hbg
      have hcr : (0 : Int) ≤ ((s[pos]'hlt).toNat : Int) ∧ ((s[pos]'hlt).toNat : Int) ≤ 255 := by have := (s[pos]'hlt).toNat_lt; omega
      have hM1 : M.length ≤ 140737488355327 := by rw [HML.out]; omega
      go_upto_region 6 with fail
      generalize (((s[pos]'hlt).toNat : Nat) : Int) = c at *
      by_cases a1 : 65 ≤ c
      · by_cases a2 : c ≤ 90
        · have hsm : sml c = c + 32 := by unfold sml; rw [if_pos ⟨a1, a2⟩]
          rw [hsm] at HS
          clear hsm
          go_upto_region 8 with fail
          have hcr2 : 0 ≤ c + 32 ∧ c + 32 ≤ 255 := by omega
          generalize c + 32 = d at *
          clear a1 a2 hcr
          have la := later_allocR wr (.cells #[.int .u8 d] 5); have HO1 := hide (ownsS_later HO.out la); have hb1 : w.heap.size ≤ (wr.alloc (.cells #[.int .u8 d] 5)).heap.size := (lr.trans (la.mono lr.size)).size; have HRD : Hid (Rd (wr.alloc (.cells #[.int .u8 d] 5)).heap.size (wr.alloc (.cells #[.int .u8 d] 5)) (.slice (some ⟨wr.heap.size, 0, none⟩) 1 1) [d]) := rd_mark [d] 5 (0, 0) wr (by simp) (by simp); obtain ⟨v2, w2, hrun, hown2, hgb⟩ := run_app (wr.alloc (.cells #[.int .u8 d] 5)) 23 23 5 w.heap.size i0 Tryz.underlying23 hi0 hz0 hz1 hz2 _ M HO1.out (wr.alloc (.cells #[.int .u8 d] 5)).heap.size (.slice (some ⟨wr.heap.size, 0, none⟩) 1 1) [d] HRD.out (by simp; omega) hb1; obtain ⟨va2, vc2, rfl⟩ := owns_form hown2; obtain ⟨va1, vc1, rfl⟩ := owns_form HO1.out; have l2 : Below w.heap.size w w2 := grown_later hgb (lr.trans (la.mono lr.size)) hb1 (fun k hk => (HO1.out.lt k hk).1); have HRUN := hide hrun; have HO2 := hide hown2; clear hrun hown2 hgb; generalize hm2 : (M ++ [d]).length = m2 at HRUN HO2; have HM2 := hide hm2; clear hm2; go_wp2_with (at_builtin; refine wpList_appw rfl (.tmp 23) (.tmp 25) 23 rfl _ _ rfl rfl _ w2 HRUN.out ?_); go_roundw; exact ⟨pos + 1, by omega, by go_num, l2, by rw [HS.out, HM2.out]; exact HO2⟩; (simp [intOf]; omega)
        · have hsm : sml c = c := by unfold sml; rw [if_neg (by omega)]
          rw [hsm] at HS
          clear hsm
          go_upto_region 8 with fail
          clear a1 a2
          generalize c = d at *
          have la := later_allocR wr (.cells #[.int .u8 d] 5); have HO1 := hide (ownsS_later HO.out la); have hb1 : w.heap.size ≤ (wr.alloc (.cells #[.int .u8 d] 5)).heap.size := (lr.trans (la.mono lr.size)).size; have HRD : Hid (Rd (wr.alloc (.cells #[.int .u8 d] 5)).heap.size (wr.alloc (.cells #[.int .u8 d] 5)) (.slice (some ⟨wr.heap.size, 0, none⟩) 1 1) [d]) := rd_mark [d] 5 (0, 0) wr (by simp) (by simp); obtain ⟨v2, w2, hrun, hown2, hgb⟩ := run_app (wr.alloc (.cells #[.int .u8 d] 5)) 23 23 5 w.heap.size i0 Tryz.underlying23 hi0 hz0 hz1 hz2 _ M HO1.out (wr.alloc (.cells #[.int .u8 d] 5)).heap.size (.slice (some ⟨wr.heap.size, 0, none⟩) 1 1) [d] HRD.out (by simp; omega) hb1; obtain ⟨va2, vc2, rfl⟩ := owns_form hown2; obtain ⟨va1, vc1, rfl⟩ := owns_form HO1.out; have l2 : Below w.heap.size w w2 := grown_later hgb (lr.trans (la.mono lr.size)) hb1 (fun k hk => (HO1.out.lt k hk).1); have HRUN := hide hrun; have HO2 := hide hown2; clear hrun hown2 hgb; generalize hm2 : (M ++ [d]).length = m2 at HRUN HO2; have HM2 := hide hm2; clear hm2; go_wp2_with (at_builtin; refine wpList_appw rfl (.tmp 23) (.tmp 25) 23 rfl _ _ rfl rfl _ w2 HRUN.out ?_); go_roundw; exact ⟨pos + 1, by omega, by go_num, l2, by rw [HS.out, HM2.out]; exact HO2⟩; (simp [intOf]; omega)
      · have hsm : sml c = c := by unfold sml; rw [if_neg (by omega)]
        rw [hsm] at HS
        clear hsm
        go_upto_region 8 with fail
        clear a1
        generalize c = d at *
        have la := later_allocR wr (.cells #[.int .u8 d] 5); have HO1 := hide (ownsS_later HO.out la); have hb1 : w.heap.size ≤ (wr.alloc (.cells #[.int .u8 d] 5)).heap.size := (lr.trans (la.mono lr.size)).size; have HRD : Hid (Rd (wr.alloc (.cells #[.int .u8 d] 5)).heap.size (wr.alloc (.cells #[.int .u8 d] 5)) (.slice (some ⟨wr.heap.size, 0, none⟩) 1 1) [d]) := rd_mark [d] 5 (0, 0) wr (by simp) (by simp); obtain ⟨v2, w2, hrun, hown2, hgb⟩ := run_app (wr.alloc (.cells #[.int .u8 d] 5)) 23 23 5 w.heap.size i0 Tryz.underlying23 hi0 hz0 hz1 hz2 _ M HO1.out (wr.alloc (.cells #[.int .u8 d] 5)).heap.size (.slice (some ⟨wr.heap.size, 0, none⟩) 1 1) [d] HRD.out (by simp; omega) hb1; obtain ⟨va2, vc2, rfl⟩ := owns_form hown2; obtain ⟨va1, vc1, rfl⟩ := owns_form HO1.out; have l2 : Below w.heap.size w w2 := grown_later hgb (lr.trans (la.mono lr.size)) hb1 (fun k hk => (HO1.out.lt k hk).1); have HRUN := hide hrun; have HO2 := hide hown2; clear hrun hown2 hgb; generalize hm2 : (M ++ [d]).length = m2 at HRUN HO2; have HM2 := hide hm2; clear hm2; go_wp2_with (at_builtin; refine wpList_appw rfl (.tmp 23) (.tmp 25) 23 rfl _ _ rfl rfl _ w2 HRUN.out ?_); go_roundw; exact ⟨pos + 1, by omega, by go_num, l2, by rw [HS.out, HM2.out]; exact HO2⟩; (simp [intOf]; omega)
    · obtain rfl : pos = s.size := by omega
      have hnl : ¬ ((s.size : Nat) : Int) < s.size := by omega
      rw [show (lowZ s).take s.size = lowZ s from List.take_of_length_le (by rw [lowZ_len]; exact Nat.le_refl _)] at HO
      have hcv := conv_rd 23 9 5 Tryz.underlying23 Tryz.underlying5 Tryz.underlying9 (Ow.of_row HO.out).rd
      obtain ⟨va, vc, rfl⟩ := owns_form HO.out
      have HW : Hid (Later w wr) := lr
      clear HO lr
      generalize (lowZ s).length = nl at *
      generalize hrs : strOfNums (lowZ s) = rs at *
      have HRS := hide hrs
      clear hrs
      go_wp2_with fail
      go_ret
      exact ⟨by rw [HRS.out]; rfl, HW.out⟩

theorem decB_small {n : Nat} (h : n < 10) : decB n = strOfNums [48 + (n : Int)] := by
  have := dg_small h
  rw [← str_nmsB (decB n), show nmsB (decB n) = dg n from rfl, this]
theorem decB_big {n : Nat} (h : 10 ≤ n) : decB n = decB (n / 10) ++ strOfNums [48 + ((n % 10 : Nat) : Int)] := by
  have := dg_big h
  apply ba_ext
  have h1 : ∀ s t : ByteArray, nmsB s = nmsB t → s = t := fun s t h => by rw [← str_nmsB s, ← str_nmsB t, h]
  rw [h1 (decB n) (decB (n / 10) ++ strOfNums [48 + ((n % 10 : Nat) : Int)]) (by
    rw [nmsB_app, nmsB_str _ (fun z hz => by simp at hz; subst hz; omega)]
    exact this)]
theorem rd_one (W : World) (d : Int) : Rd (W.alloc (.cells #[.int .u8 d] 5)).heap.size (W.alloc (.cells #[.int .u8 d] 5)) (.slice (some ⟨W.heap.size, 0, none⟩) 1 1) [d] := rd_mark [d] 5 (0, 0) W (by simp) (by simp)
theorem wrI {x : Int} (h1 : -9223372036854775808 ≤ x) (h2 : x ≤ 9223372036854775807) : IntKind.i64.wrap x = x := by
  unfold IntKind.wrap
  simp [IntKind.signed, IntKind.bits]
  omega
theorem wrB {x : Int} (h1 : 0 ≤ x) (h2 : x ≤ 255) : IntKind.u8.wrap x = x := by
  unfold IntKind.wrap
  simp [IntKind.signed, IntKind.bits]
  omega
/-- A number as the document writes it. -/
def DigsAt (n : Nat) : Prop := ∀ w : World, Calls Tryz.prog 18 #[.int .i64 (n : Int)] w fun e w' => e = .returned (.string (decB n)) ∧ Later w w'

set_option maxRecDepth 100000 in
set_option maxHeartbeats 8000000 in
theorem rdigits_step (n : Nat) (hn : n ≤ 9223372036854775807) (hi : 10 ≤ n → DigsAt (n / 10)) : DigsAt n := by
  intro w
  have hn' : (n : Int) ≤ 9223372036854775807 := by omega
  by_cases h10 : n < 10
  · have h1 : (n : Int) < 10 := by omega
    have HV := hide (decB_small h10)
    go_enter Tryz.func18, Tryz.ntmps18
    have hcv := conv_rd 23 9 5 Tryz.underlying23 Tryz.underlying5 Tryz.underlying9 (rd_one w (48 + (n : Int)))
    generalize hrs : strOfNums [48 + (n : Int)] = rs at *
    go_wp2_with fail
    go_ret
    exact ⟨by rw [HV.out]; rfl, later_allocR _ _⟩
  · have h1 : ¬ (n : Int) < 10 := by omega
    have HV := hide (decB_big (n := n) (by omega))
    have HI := hide (hi (by omega))
    have hds : (decB (n / 10)).size ≤ 20 := decB_len _ (by omega)
    go_enter Tryz.func18, Tryz.ntmps18
    go_upto_region 3 with fail
    refine anyR_begin (R := Later) Later.pre Later.drew 11 rfl (by kernel_rfl) (fun V0 hV0 => ?_)
    refine anyR_val Later.pre 0 rfl (by kernel_rfl) (by kernel_rfl) (by kernel_rfl) (fun _ _ _ _ h => h) rfl ?_; apply Exists.intro; refine ⟨fun v1 hv1 => ?_, ?_⟩; (· (go_simp; rfl)); simp only [Act.put, List.setIfInBounds_toArray, List.set_cons_zero, List.set_cons_succ]
    refine anyR_val Later.pre 3 rfl (by kernel_rfl) (by kernel_rfl) (by kernel_rfl) (fun _ _ _ _ h => h) rfl ?_; apply Exists.intro; refine ⟨fun v1 hv1 => ?_, ?_⟩; (· (go_simp; rfl)); simp only [Act.put, List.setIfInBounds_toArray, List.set_cons_zero, List.set_cons_succ]
    refine anyR_val Later.pre 1 rfl (by kernel_rfl) (by kernel_rfl) (by kernel_rfl) (fun _ _ _ _ h => h) rfl ?_; apply Exists.intro; refine ⟨fun v1 hv1 => ?_, ?_⟩; (· (go_simp; rfl)); simp only [Act.put, List.setIfInBounds_toArray, List.set_cons_zero, List.set_cons_succ]
    refine anyR_val Later.pre 4 rfl (by kernel_rfl) (by kernel_rfl) (by kernel_rfl) (fun _ _ _ _ h => h) rfl ?_; apply Exists.intro; refine ⟨fun v1 hv1 => ?_, ?_⟩; (· (go_simp; rfl)); simp only [Act.put, List.setIfInBounds_toArray, List.set_cons_zero, List.set_cons_succ]
    have e1 : IntKind.i64.wrap ((n : Int) / 10) = ((n / 10 : Nat) : Int) := by
      have h : (n : Int) / 10 = ((n / 10 : Nat) : Int) := by omega
      rw [h]
      exact wrI (by omega) (by omega)
    have e2 : (n : Int).tmod 10 = ((n % 10 : Nat) : Int) := by rw [Int.tmod_eq_emod_of_nonneg (by omega)]; omega
    simp only [e1, e2]
    clear e1 e2
    have hm9 : n % 10 ≤ 9 := by omega
    generalize n % 10 = r at *
    generalize n / 10 = q at *
    have hm9' : (r : Int) ≤ 9 := by omega
    refine anyR_take Later.pre 2 (.string (decB q)) rfl (by kernel_rfl) (by kernel_rfl) (by kernel_rfl) (fun _ _ _ h => h) rfl (fun u hu => goes_call 18 #[.int .i64 (q : Int)] (by go_simp) (HI.out u)) ?_
    simp only [Act.put, List.setIfInBounds_toArray, List.set_cons_zero, List.set_cons_succ]
    refine anyR_val Later.pre 5 rfl (by kernel_rfl) (by kernel_rfl) (by kernel_rfl) (fun _ _ _ _ h => h) rfl ?_; apply Exists.intro; refine ⟨fun v1 hv1 => ?_, ?_⟩; (· (go_simp; rfl)); simp only [Act.put, List.setIfInBounds_toArray, List.set_cons_zero, List.set_cons_succ]
    refine anyR_val Later.pre 6 rfl (by kernel_rfl) (by kernel_rfl) (by kernel_rfl) (fun _ _ _ _ h => h) rfl ?_; apply Exists.intro; refine ⟨fun v1 hv1 => ?_, ?_⟩; (· (go_simp; rfl)); simp only [Act.put, List.setIfInBounds_toArray, List.set_cons_zero, List.set_cons_succ]
    simp only [wrI (x := 48 + (r : Int)) (by omega) (by omega), wrB (x := 48 + (r : Int)) (by omega) (by omega)]
    refine anyR_one 7 rfl (by kernel_rfl) rfl (fun V1 hV1 => ?_)
    unfold Oper.wp
    go_simp
    have l2 := later_allocR V1 (.cells #[.int .u8 (48 + (r : Int))] 5)
    have HR := hide (rd_one V1 (48 + (r : Int)))
    refine ⟨l2, ?_⟩
    change wpAnyR _ _ _ _ _ _ _ _ (V1.alloc (.cells #[.int .u8 (48 + (r : Int))] 5))
    generalize V1.alloc (.cells #[.int .u8 (48 + (r : Int))] 5) = V2 at *
    have qc : ∀ u, Later V2 u → (convert 23 9 (.slice (some ⟨V1.heap.size, 0, none⟩) 1 1)).run Tryz.prog u = .ok (.string (strOfNums [48 + (r : Int)])) u := fun u hu => conv_rd 23 9 5 Tryz.underlying23 Tryz.underlying5 Tryz.underlying9 (HR.out.later hu)
    have hss : (strOfNums [48 + (r : Int)]).size = 1 := strOfNums_size _
    have hss2 : (strOfNums [48 + (r : Int)]).size ≤ 1 := by omega
    clear hss
    generalize strOfNums [48 + (r : Int)] = rs at *
    generalize V1.heap.size = g1 at *
    generalize decB q = dq at *
    refine anyR_val Later.pre 8 rfl (by kernel_rfl) (by kernel_rfl) (by kernel_rfl) (fun _ _ _ _ h => h) rfl ?_; apply Exists.intro; refine ⟨fun v1 hv1 => ?_, ?_⟩; (· (go_simp; rfl)); simp only [Act.put, List.setIfInBounds_toArray, List.set_cons_zero, List.set_cons_succ]
    clear qc
    refine anyR_val Later.pre 9 rfl (by kernel_rfl) (by kernel_rfl) (by kernel_rfl) (fun _ _ _ _ h => h) rfl ⟨.string (dq ++ rs), fun v1 hv1 => (by go_simp; omega), ?_⟩; simp only [Act.put, List.setIfInBounds_toArray, List.set_cons_zero, List.set_cons_succ]
    refine anyR_val Later.pre 10 rfl (by kernel_rfl) (by kernel_rfl) (by kernel_rfl) (fun _ _ _ _ h => h) rfl ?_; apply Exists.intro; refine ⟨fun v1 hv1 => ?_, ?_⟩; (· (go_simp; rfl)); simp only [Act.put, List.setIfInBounds_toArray, List.set_cons_zero, List.set_cons_succ]
    refine anyR_done (by kernel_rfl) (fun V9 hV9 => ?_)
    have L9 : Later w V9 := hV0.trans (hV1.trans (l2.trans hV9))
    go_wp2_with fail
    go_ret
    exact ⟨by rw [HV.out]; rfl, L9⟩
theorem rdigits_any (n : Nat) (hn : n ≤ 9223372036854775807) : DigsAt n := by
  induction n using Nat.strongRecOn with
  | ind n ih => exact rdigits_step n hn (fun h => ih (n / 10) (by omega) (by omega))
end Go.Proofs.YtibjgaelaijgpaaGreatDoor

/- The document's size and Right. -/
namespace Go.Proofs.YtibjgaelaijgpaaGreatDoor
open Go.RowKit Go.Shelf
set_option maxRecDepth 100000
set_option linter.unusedVariables false
set_option linter.unusedSimpArgs false

/-- A size: more than 4096 or not, as the message's. -/
def SzQ (n : Nat) (e : Ending) : Prop := ∃ r : Int, e = .returned (.int .i64 r) ∧ decide (4096 < r) = decide (4096 < n)

set_option maxRecDepth 100000 in
set_option maxHeartbeats 8000000 in
theorem rsize_any (st : ByteArray) (hs : List Hr) (sv sb : Value) (zb : List Int) (w : World) (hI : RdM w.heap.size w sv hs) (hB : Rd w.heap.size w sb zb) (hz : szM st hs zb.length ≤ 9000000000000000000) :
    Calls Tryz.prog 26 #[.agg #[.string st, sv, sb]] w fun e w' => SzQ (szM st hs zb.length) e ∧ Later w w' := by
  obtain ⟨ah, ch, rfl, hl1, hm1⟩ := hI.slice
  obtain ⟨ab, cb, rfl, hl2, hm2⟩ := hB.slice
  have l0 : Later w (w.alloc (.cells #[.string st, .slice ah hs.length ch, .slice ab zb.length cb] 34)) := later_allocR _ _
  have C0 := hide (heap_alloc_new w (.cells #[.string st, .slice ah hs.length ch, .slice ab zb.length cb] 34))
  have HL := hsz_len hs
  have HZ : Hid (szM st hs zb.length = st.size + 2 + hsz hs + 2 + zb.length) := rfl
  have hz2 : st.size + 2 + hsz hs + 2 + zb.length ≤ 9000000000000000000 := hz
  generalize szM st hs zb.length = sz at *
  go_enter Tryz.func26, Tryz.ntmps26
  go_upto_region 1 with fail
  generalize w.alloc _ = w0 at *
  have HI := hide (hI.later l0)
  generalize w.heap.size = gm at *
  have k0 := block_cell C0.out
  go_upto_region 3 with fail
  clear k0
  go_loopw [3, 4] (fun nv iv wr => ∃ k : Nat, k ≤ hs.length ∧ iv = .int .i64 (k : Int) ∧ nv = .int .i64 ((st.size + 4 + zb.length + hsz (hs.take k) : Nat) : Int) ∧ Later w0 wr) (fun _ iv _ => hs.length - (intOf iv).toNat)
  case atStart => exact ⟨0, by omega, rfl, by simp [hsz], Later.refl _⟩
  case round =>
    obtain ⟨k, hk, rfl, rfl, lr⟩ := hrel
    have hle0 := hsz_take_le hs k
    have k1 := block_cell (later_keep lr C0.out)
    by_cases hlt : k < hs.length
    · have hlt' : (k : Int) < (hs.length : Int) := by omega
      by_cases h4 : st.size + 4 + zb.length + hsz (hs.take k) ≤ 4096
      · have h4' : ((st.size + 4 + zb.length + hsz (hs.take k) : Nat) : Int) ≤ 4096 := by omega
        obtain ⟨b, off, cp, e, _, _, hbn, hcs⟩ := (HI.out.below lr).cells (by omega)
        cases e
        have d0 := hcs k hlt 0 (by omega)
        have d1 := hcs k hlt 1 (by omega)
        have hsn : hs.take (k + 1) = hs.take k ++ [hs[k]] := by rw [← List.take_append_getElem hlt]
        have hsz1 : hsz (hs.take (k + 1)) = hsz (hs.take k) + (hs[k].1.size + 2 + hs[k].2.size + 2) := by rw [hsn, hsz_snoc]
        have hle := hsz_take_le hs (k + 1)
        clear hcs hsn
        generalize hs[k] = r at *
        obtain ⟨x, y⟩ := r
        simp only [hrc, List.getElem?_cons_zero, List.getElem?_cons_succ, Nat.add_zero] at d0 d1 hsz1
        have HS1 := hide hsz1
        rw [hsz1] at hle
        clear hsz1 h4 hle0
        generalize hn0 : st.size + 4 + zb.length + hsz (hs.take k) = n0 at *
        have HN0 := hide hn0
        have hxy : n0 + (x.size + y.size + 4) ≤ 9000000000000000000 := by omega
        clear hn0 hle
        go_upto_region 5 with fail
        clear k1
        refine anyR_begin (R := Later) Later.pre Later.drew 19 rfl (by kernel_rfl) (fun V0 hV0 => ?_)
        have k1 : ∀ v, Later V0 v → ∀ j, v.cell? ⟨gm, j, none⟩ = #[.string st, .slice (some ⟨b, off, none⟩) hs.length ch, .slice ab zb.length cb][j]? := fun v hv => block_cell (later_keep (lr.trans (hV0.trans hv)) C0.out)
        have q0 : ∀ v, Later V0 v → v.cell? ⟨b, off + k * 2, none⟩ = some (.string x) := fun v hv => (hV0.trans hv).cell d0
        have q1 : ∀ v, Later V0 v → v.cell? ⟨b, off + k * 2 + 1, none⟩ = some (.string y) := fun v hv => (hV0.trans hv).cell d1
        clear d0 d1
        refine anyR_val Later.pre 0 rfl (by kernel_rfl) (by kernel_rfl) (by kernel_rfl) (fun _ _ _ _ h => h) rfl ?_; apply Exists.intro; refine ⟨fun v1 hv1 => ?_, ?_⟩; (· (go_simp; rfl)); simp only [Act.put, List.setIfInBounds_toArray, List.set_cons_zero, List.set_cons_succ]
        refine anyR_val Later.pre 1 rfl (by kernel_rfl) (by kernel_rfl) (by kernel_rfl) (fun _ _ _ _ h => h) rfl ?_; apply Exists.intro; refine ⟨fun v1 hv1 => ?_, ?_⟩; (· (go_simp; rfl)); simp only [Act.put, List.setIfInBounds_toArray, List.set_cons_zero, List.set_cons_succ]
        refine anyR_val Later.pre 2 rfl (by kernel_rfl) (by kernel_rfl) (by kernel_rfl) (fun _ _ _ _ h => h) rfl ?_; apply Exists.intro; refine ⟨fun v1 hv1 => ?_, ?_⟩; (· (go_simp; rfl)); simp only [Act.put, List.setIfInBounds_toArray, List.set_cons_zero, List.set_cons_succ]
        refine anyR_val Later.pre 3 rfl (by kernel_rfl) (by kernel_rfl) (by kernel_rfl) (fun _ _ _ _ h => h) rfl ?_; apply Exists.intro; refine ⟨fun v1 hv1 => ?_, ?_⟩; (· (go_simp; rfl)); simp only [Act.put, List.setIfInBounds_toArray, List.set_cons_zero, List.set_cons_succ]
        refine anyR_val Later.pre 4 rfl (by kernel_rfl) (by kernel_rfl) (by kernel_rfl) (fun _ _ _ _ h => h) rfl ?_; apply Exists.intro; refine ⟨fun v1 hv1 => ?_, ?_⟩; (· (go_simp; rfl)); simp only [Act.put, List.setIfInBounds_toArray, List.set_cons_zero, List.set_cons_succ]
        refine anyR_val Later.pre 5 rfl (by kernel_rfl) (by kernel_rfl) (by kernel_rfl) (fun _ _ _ _ h => h) rfl ?_; apply Exists.intro; refine ⟨fun v1 hv1 => ?_, ?_⟩; (· (go_simp; rfl)); simp only [Act.put, List.setIfInBounds_toArray, List.set_cons_zero, List.set_cons_succ]
        refine anyR_val Later.pre 6 rfl (by kernel_rfl) (by kernel_rfl) (by kernel_rfl) (fun _ _ _ _ h => h) rfl ?_; apply Exists.intro; refine ⟨fun v1 hv1 => ?_, ?_⟩; (· (go_simp; rfl)); simp only [Act.put, List.setIfInBounds_toArray, List.set_cons_zero, List.set_cons_succ]
        refine anyR_val Later.pre 7 rfl (by kernel_rfl) (by kernel_rfl) (by kernel_rfl) (fun _ _ _ _ h => h) rfl ?_; apply Exists.intro; refine ⟨fun v1 hv1 => ?_, ?_⟩; (· (go_simp; rfl)); simp only [Act.put, List.setIfInBounds_toArray, List.set_cons_zero, List.set_cons_succ]
        refine anyR_val Later.pre 8 rfl (by kernel_rfl) (by kernel_rfl) (by kernel_rfl) (fun _ _ _ _ h => h) rfl ?_; apply Exists.intro; refine ⟨fun v1 hv1 => ?_, ?_⟩; (· (go_simp; rfl)); simp only [Act.put, List.setIfInBounds_toArray, List.set_cons_zero, List.set_cons_succ]
        refine anyR_val Later.pre 9 rfl (by kernel_rfl) (by kernel_rfl) (by kernel_rfl) (fun _ _ _ _ h => h) rfl ?_; apply Exists.intro; refine ⟨fun v1 hv1 => ?_, ?_⟩; (· (go_simp; rfl)); simp only [Act.put, List.setIfInBounds_toArray, List.set_cons_zero, List.set_cons_succ]
        refine anyR_val Later.pre 10 rfl (by kernel_rfl) (by kernel_rfl) (by kernel_rfl) (fun _ _ _ _ h => h) rfl ?_; apply Exists.intro; refine ⟨fun v1 hv1 => ?_, ?_⟩; (· (go_simp; rfl)); simp only [Act.put, List.setIfInBounds_toArray, List.set_cons_zero, List.set_cons_succ]
        refine anyR_val Later.pre 11 rfl (by kernel_rfl) (by kernel_rfl) (by kernel_rfl) (fun _ _ _ _ h => h) rfl ?_; apply Exists.intro; refine ⟨fun v1 hv1 => ?_, ?_⟩; (· (go_simp; rfl)); simp only [Act.put, List.setIfInBounds_toArray, List.set_cons_zero, List.set_cons_succ]
        refine anyR_val Later.pre 12 rfl (by kernel_rfl) (by kernel_rfl) (by kernel_rfl) (fun _ _ _ _ h => h) rfl ?_; apply Exists.intro; refine ⟨fun v1 hv1 => ?_, ?_⟩; (· (go_simp; rfl)); simp only [Act.put, List.setIfInBounds_toArray, List.set_cons_zero, List.set_cons_succ]
        refine anyR_val Later.pre 13 rfl (by kernel_rfl) (by kernel_rfl) (by kernel_rfl) (fun _ _ _ _ h => h) rfl ?_; apply Exists.intro; refine ⟨fun v1 hv1 => ?_, ?_⟩; (· (go_simp; rfl)); simp only [Act.put, List.setIfInBounds_toArray, List.set_cons_zero, List.set_cons_succ]
        refine anyR_val Later.pre 14 rfl (by kernel_rfl) (by kernel_rfl) (by kernel_rfl) (fun _ _ _ _ h => h) rfl ?_; apply Exists.intro; refine ⟨fun v1 hv1 => ?_, ?_⟩; (· (go_simp; rfl)); simp only [Act.put, List.setIfInBounds_toArray, List.set_cons_zero, List.set_cons_succ]
        refine anyR_val Later.pre 15 rfl (by kernel_rfl) (by kernel_rfl) (by kernel_rfl) (fun _ _ _ _ h => h) rfl ?_; apply Exists.intro; refine ⟨fun v1 hv1 => ?_, ?_⟩; (· (go_simp; rfl)); simp only [Act.put, List.setIfInBounds_toArray, List.set_cons_zero, List.set_cons_succ]
        refine anyR_val Later.pre 16 rfl (by kernel_rfl) (by kernel_rfl) (by kernel_rfl) (fun _ _ _ _ h => h) rfl ?_; apply Exists.intro; refine ⟨fun v1 hv1 => ?_, ?_⟩; (· (go_simp; rfl)); simp only [Act.put, List.setIfInBounds_toArray, List.set_cons_zero, List.set_cons_succ]
        refine anyR_val Later.pre 17 rfl (by kernel_rfl) (by kernel_rfl) (by kernel_rfl) (fun _ _ _ _ h => h) rfl ?_; apply Exists.intro; refine ⟨fun v1 hv1 => ?_, ?_⟩; (· (go_simp; rfl)); simp only [Act.put, List.setIfInBounds_toArray, List.set_cons_zero, List.set_cons_succ]
        refine anyR_val Later.pre 18 rfl (by kernel_rfl) (by kernel_rfl) (by kernel_rfl) (fun _ _ _ _ h => h) rfl ?_; apply Exists.intro; refine ⟨fun v1 hv1 => ?_, ?_⟩; (· (go_simp; rfl)); simp only [Act.put, List.setIfInBounds_toArray, List.set_cons_zero, List.set_cons_succ]
        clear k1 q0 q1
        refine anyR_done (by kernel_rfl) (fun V9 hV9 => ?_)
        have L9 : Later w0 V9 := lr.trans (hV0.trans hV9)
        have e1 := wrI (x := (x.size : Int) + (y.size : Int)) (by omega) (by omega)
        have e2 := wrI (x := (x.size : Int) + (y.size : Int) + 4) (by omega) (by omega)
        have e3 := wrI (x := (n0 : Int) + ((x.size : Int) + (y.size : Int) + 4)) (by omega) (by omega)
        simp only [e1, e2, e3]
        clear e1 e2 e3
        go_wp2_with fail
        go_roundw
        case rel => exact ⟨k + 1, by omega, by go_num, by rw [HS1.out]; congr 1; have := HN0.out; omega, L9⟩
        case measure => simp [intOf]; omega
      · have h4' : ¬ ((st.size + 4 + zb.length + hsz (hs.take k) : Nat) : Int) ≤ 4096 := by omega
        have HV : Hid (decide (4096 < ((st.size + 4 + zb.length + hsz (hs.take k) : Nat) : Int)) = decide (4096 < sz)) := by show _ = _; rw [decide_eq_true (by omega), decide_eq_true (by have := HZ.out; omega)]
        clear h4
        generalize st.size + 4 + zb.length + hsz (hs.take k) = n0 at *
        go_wp2_with fail
        go_ret
        exact ⟨⟨_, rfl, HV.out⟩, Later.trans l0 lr⟩
    · obtain rfl : k = hs.length := by omega
      have hnl : ¬ ((hs.length : Nat) : Int) < (hs.length : Int) := by omega
      rw [List.take_length]
      have HV : Hid (decide (4096 < ((st.size + 4 + zb.length + hsz hs : Nat) : Int)) = decide (4096 < sz)) := by show _ = _; rw [decide_eq_decide]; have := HZ.out; omega
      generalize st.size + 4 + zb.length + hsz hs = n0 at *
      go_wp2_with fail
      go_ret
      exact ⟨⟨_, rfl, HV.out⟩, Later.trans l0 lr⟩

/-- A value with a blank ahead or behind. -/
theorem vl_blank (v : ByteArray) (h : v.size ≠ 0) : (Lib.hasPrefix v.data.toList [32] = (bAt v 0 == 32)) ∧ (Lib.hasSuffix v.data.toList [32] = (bAt v (v.size - 1) == 32)) := by
  have hl : v.data.toList.length = v.size := (ba_len v).symm
  constructor
  · unfold Lib.hasPrefix bAt
    cases hv : v.data.toList with
    | nil => rw [hv] at hl; simp at hl; omega
    | cons a l =>
      have : v.get! 0 = a := by
        have h0 : 0 < v.data.size := by show 0 < v.size; omega
        simp only [ByteArray.get!]
        rw [getElem!_pos v.data 0 h0, ← Array.getElem_toList]
        simp [hv]
      rw [this, Bool.eq_iff_iff]
      simp only [List.isPrefixOf, Bool.and_true, beq_iff_eq]
      constructor
      · intro e; rw [← e]; rfl
      · intro e; apply UInt8.toNat_inj.1; have : (32 : UInt8).toNat = 32 := rfl; omega
  · unfold Lib.hasSuffix bAt
    have hne : v.data.toList ≠ [] := fun e => by rw [e] at hl; simp at hl; omega
    have hdl : v.data.toList = v.data.toList.dropLast ++ [v.data.toList.getLast hne] := (List.dropLast_concat_getLast hne).symm
    have hga : v.get! (v.size - 1) = v.data.toList.getLast hne := by
      have h0 : v.size - 1 < v.data.size := by show _ < v.size; omega
      simp only [ByteArray.get!]
      rw [getElem!_pos v.data (v.size - 1) h0, List.getLast_eq_getElem, ← Array.getElem_toList]
      congr 1
    rw [hga, Bool.eq_iff_iff, List.isSuffixOf_iff_suffix, beq_iff_eq]
    generalize v.data.toList.getLast hne = a at *
    constructor
    · rintro ⟨t, ht⟩
      rw [hdl] at ht
      have := (List.append_inj' ht rfl).2
      simp only [List.cons.injEq, and_true] at this
      rw [← this]; rfl
    · intro e
      have : a = 32 := by apply UInt8.toNat_inj.1; have : (32 : UInt8).toNat = 32 := rfl; omega
      exact ⟨v.data.toList.dropLast, by rw [hdl, this]; simp⟩
end Go.Proofs.YtibjgaelaijgpaaGreatDoor
