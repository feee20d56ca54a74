/- Package ftp: the line, of any length. -/
import Derived.Test.YtfnlakpjepjhbaaDoorFVa
import Derived.Test.YtfnlakpjepjhbaaDoorFX
namespace Go.Proofs.YtfnlakpjepjhbaaDoor
open Go.RowKit Go.Shelf
set_option maxRecDepth 100000
set_option linter.unusedVariables false
set_option linter.unusedSimpArgs false

set_option maxHeartbeats 4000000 in
theorem indexCr_one (sv : Value) (zs : List Int) (w : World) (hB : Mt.By zs) (hI : Rd w.heap.size w sv zs) (h1 : zs.length = 1) :
    Calls Tryd.prog 47 #[sv, .string ⟨#[13, 10]⟩] w fun e w' => ∃ r : Int, e = .returned (.int .i64 r) ∧ decide (0 ≤ r) = crl zs ∧ Below w.heap.size w w' := by
  obtain ⟨c, rfl⟩ : ∃ c, zs = [c] := by
    match zs, h1 with
    | [c], _ => exact ⟨c, rfl⟩
  obtain ⟨bb, off, cp, rfl, hl5, hl6, hl7, hcell⟩ := hI.cells (by simp)
  have hck : w.cell? ⟨bb, off, none⟩ = some (.int .u8 c) := hcell 0 (by simp)
  have hzb : 0 ≤ c ∧ c ≤ 255 := hB c (by simp)
  have HCR : Hid (crl [c] = isCr c) := by show _ = _; unfold crl; simp
  generalize crl [c] = cc at *
  simp only [List.length_singleton] at *
  clear hcell hI h1
  go_enter Tryd.func47, Tryd.ntmps47
  by_cases hasc : c < 128
  · have HX : Hid (decide (0 ≤ Lib.indexByte [13, 10] c.toNat.toUInt8) = isCr c) := ixcr c hzb
    generalize hixe : Lib.indexByte [13, 10] c.toNat.toUInt8 = ix at *
    have HIX := hide hixe
    clear hixe
    have hge : ¬ (128 : Int) ≤ c := by omega
    go_wp2_with fail
    rw [run_callFunc_extern Tryd.func62 (by kernel_rfl) (by kernel_rfl) (by kernel_rfl) (e := Extern.BytealgIndexByte.indexByte) (by kernel_rfl), Lib.run_indexByteString, HIX.out]
    simp only [Result.andThen]
    rw [Oper.upon_value]
    by_cases hx : 0 ≤ ix
    · go_wp2_with fail
      go_ret
      exact ⟨0, rfl, by rw [HCR.out, ← HX.out]; simp [hx], Below.refl _ _⟩
    · go_wp2_with fail
      go_ret
      exact ⟨-1, rfl, by rw [HCR.out, ← HX.out]; simp; omega, Below.refl _ _⟩
  · have hge : (128 : Int) ≤ c := by omega
    have HF : Hid (isCr c = false) := by show _ = _; unfold isCr; simp; omega
    go_wp2_with fail
    go_loopw [] (fun wx => ∃ pos : Nat, pos ≤ 2 ∧ wx = w.iter ⟨#[13, 10]⟩ pos) (fun wx => 2 - wx.iterPos w.heap.size)
    case atStart => exact ⟨0, by omega, rfl⟩
    case round =>
      obtain ⟨pos, hp, rfl⟩ := hrel
      have l3 : Later w (w.iter ⟨#[13, 10]⟩ pos) := iter_later _ _ _
      rcases (show pos = 0 ∨ pos = 1 ∨ pos = 2 by omega) with rfl | rfl | rfl
      · have hnx := run_next_any (P := Tryd.prog) w ⟨#[13, 10]⟩ 0 0 (by decide)
        rw [show Utf8.decode ⟨#[13, 10]⟩ 0 = (13, 1) from by decide] at hnx
        go_wp2_with fail
        go_roundw
        case rel => exact ⟨1, by omega, rfl⟩
        case measure => simp [World.iterPos_iter]
      · have hnx := run_next_any (P := Tryd.prog) w ⟨#[13, 10]⟩ 1 0 (by decide)
        rw [show Utf8.decode ⟨#[13, 10]⟩ 1 = (10, 1) from by decide] at hnx
        go_wp2_with fail
        go_roundw
        case rel => exact ⟨2, by omega, rfl⟩
        case measure => simp [World.iterPos_iter]
      · have hnx := run_next_end (P := Tryd.prog) w ⟨#[13, 10]⟩ 2 0 (by decide)
        go_wp2_with fail
        go_ret
        exact ⟨-1, rfl, by rw [HCR.out, HF.out]; rfl, l3⟩

set_option maxHeartbeats 1000000 in
theorem containsCr_all (sv : Value) (zs : List Int) (w : World) (hT : TabR w) (hB : Mt.By zs) (hI : Rd w.heap.size w sv zs) :
    Calls Tryd.prog 31 #[sv, .string ⟨#[13, 10]⟩] w fun e w' => e = .returned (.bool (crl zs)) ∧ Below w.heap.size w w' := by
  obtain ⟨av, cv, rfl, hlv, hmv⟩ := hI.slice
  have H : Hid (Calls Tryd.prog 47 #[.slice av zs.length cv, .string ⟨#[13, 10]⟩] w fun e w' => ∃ r : Int, e = .returned (.int .i64 r) ∧ decide (0 ≤ r) = crl zs ∧ Below w.heap.size w w') := by
    by_cases h8 : 8 < zs.length
    · exact indexCr_any _ zs w hB hI h8
    · by_cases h1 : zs.length = 1
      · exact indexCr_one _ zs w hB hI h1
      · exact indexCr_short _ zs w hT hB hI (by omega) h1
  clear hT
  go_enter Tryd.func31, Tryd.ntmps31
  go_wp2_with fail
  refine H.out.mono ?_
  rintro e w1 ⟨r, rfl, hr, b1⟩
  have HR := hide hr
  clear hr
  go_wp2_with fail
  go_ret
  exact ⟨by rw [← HR.out]; rfl, b1⟩

set_option maxHeartbeats 4000000 in
theorem lineOf_some (bb off cp : Nat) (zs : List Int) (w : World) (hT : TabR w) (hB : Mt.By zs) (hI : Rd w.heap.size w (.slice (some ⟨bb, off, none⟩) zs.length cp) zs) :
    Calls Tryd.prog 13 #[.slice (some ⟨bb, off, none⟩) zs.length cp] w fun e w' => e = .returned (lineV bb off cp zs) ∧ Below w.heap.size w w' := by
  have hb1 : Below w.heap.size w (w.alloc (.cells #[.int .u8 13, .int .u8 10] 5 (2, 3))) := (Below.refl _ _).alloc (Nat.le_refl _) _
  have l1 : Later w (w.alloc (.cells #[.int .u8 13, .int .u8 10] 5 (2, 3))) := hb1
  have HT := hide (hT.later l1)
  clear hT
  have hcl : ∀ j, (w.alloc (.cells #[.int .u8 13, .int .u8 10] 5 (2, 3))).cell? ⟨w.heap.size, j, none⟩ = #[Value.int .u8 13, .int .u8 10][j]? := fun j => World.cell?_alloc_mark w _ _ _ j
  have R1' : Rd (w.alloc (.cells #[.int .u8 13, .int .u8 10] 5 (2, 3))).heap.size (w.alloc (.cells #[.int .u8 13, .int .u8 10] 5 (2, 3))) (.slice (some ⟨w.heap.size, 0, none⟩) 2 2) [13, 10] := .inr ⟨w.heap.size, 0, 2, rfl, by simp, by simp, by omega, by simp, fun j hj => by
    have hj2 : j < 2 := hj
    rw [Nat.zero_add, hcl]
    have : j = 0 ∨ j = 1 := by omega
    rcases this with rfl | rfl <;> rfl⟩
  have hcv := Lib.run_convert_bytes_const (P := Tryd.prog) w 26 5 #[.int .u8 13, .int .u8 10] 2 2 Tryd.underlying26 Tryd.underlying5
  have HC := hide (cutSuffix_any bb off cp _ zs [13, 10] w.heap.size _ hB By_crlf (hI.later l1) R1' (by simp))
  have HO : Hid (oneL zs = (endB zs [13, 10] && (decide (zs.length ≤ 128) && !(crl (zs.take (zs.length - 2)))))) := rfl
  clear R1' hcl
  go_enter Tryd.func13, Tryd.ntmps13
  go_wp2_with fail
  refine HC.out.mono ?_
  rintro e w2 ⟨rfl, rfl⟩
  clear HC hcv
  cases hE : endB zs [13, 10] with
  | false =>
    rw [if_neg (by simp)]
    go_wp2_with fail
    go_ret
    exact ⟨by rw [lineV_no (by rw [HO.out, hE]; rfl)]; rfl, hb1⟩
  | true =>
    have hz2 : 2 ≤ zs.length := by unfold endB at hE; simp at hE; exact hE.1
    rw [if_pos rfl, show zs.length - ([13, 10] : List Int).length = zs.length - 2 from rfl]
    by_cases h128 : zs.length ≤ 128
    · have t2 : decide ((128 : Int) < zs.length) = false := by simp; omega
      have hl2 : (zs.take (zs.length - 2)).length = zs.length - 2 := by rw [List.length_take]; omega
      have HK := hide (containsCr_all (.slice (some ⟨bb, off, none⟩) (zs.length - 2) cp) (zs.take (zs.length - 2)) _ HT.out (hB.take _) ((hI.later l1).take (zs.length - 2) (by omega)))
      have HO2 : Hid (oneL zs = !(crl (zs.take (zs.length - 2)))) := by show _ = _; rw [HO.out, hE]; simp [h128]
      generalize crl (zs.take (zs.length - 2)) = cc at *
      clear hl2 HO hE hz2
      go_wp2_with fail
      refine HK.out.mono ?_
      rintro e w3 ⟨rfl, b3⟩
      have l3 := l1.trans b3
      cases cc with
      | true =>
        go_wp2_with fail
        go_ret
        exact ⟨by rw [lineV_no (by rw [HO2.out]; rfl)]; rfl, l3⟩
      | false =>
        go_wp2_with fail
        go_ret
        exact ⟨by rw [lineV_yes (by rw [HO2.out]; rfl)]; rfl, l3⟩
    · have t2 : decide ((128 : Int) < zs.length) = true := by simp; omega
      have HO2 : Hid (oneL zs = false) := by show _ = _; rw [HO.out]; simp [h128]
      clear HO hE hz2
      go_wp2_with fail
      go_ret
      exact ⟨by rw [lineV_no HO2.out]; rfl, hb1⟩

set_option maxHeartbeats 4000000 in
theorem lineOf_nil (a : Option Addr) (cp : Nat) (w : World) :
    Calls Tryd.prog 13 #[.slice a 0 cp] w fun e w' => e = .returned (.slice none 0 0) ∧ Below w.heap.size w w' := by
  have hb1 : Below w.heap.size w (w.alloc (.cells #[.int .u8 13, .int .u8 10] 5 (2, 3))) := (Below.refl _ _).alloc (Nat.le_refl _) _
  have hcv := Lib.run_convert_bytes_const (P := Tryd.prog) w 26 5 #[.int .u8 13, .int .u8 10] 2 2 Tryd.underlying26 Tryd.underlying5
  go_enter Tryd.func13, Tryd.ntmps13
  go_wp2
  go_ret
  exact ⟨rfl, hb1⟩
end Go.Proofs.YtfnlakpjepjhbaaDoor
