/- Package ftp: the line of more than eight bytes. -/
import Derived.Lib.SlBytesConst
import Derived.Test.YtfnlakpjepjhbaaDoorFU
import Derived.Test.YtfnlakpjepjhbaaDoorFL
namespace Go.Proofs.YtfnlakpjepjhbaaDoor
open Go.RowKit Go.Shelf
set_option maxRecDepth 100000
set_option linter.unusedVariables false
set_option linter.unusedSimpArgs false

set_option maxHeartbeats 1000000 in
theorem containsCr_any (sv : Value) (zs : List Int) (w : World) (hB : Mt.By zs) (hI : Rd w.heap.size w sv zs) (h8 : 8 < zs.length) :
    Calls Tryd.prog 31 #[sv, .string ⟨#[13, 10]⟩] w fun e w' => e = .returned (.bool (crl zs)) ∧ Below w.heap.size w w' := by
  obtain ⟨av, cv, rfl, hlv, hmv⟩ := hI.slice
  have H := hide (indexCr_any _ zs w hB hI h8)
  go_enter Tryd.func31, Tryd.ntmps31
  go_wp2_with fail
  refine H.out.mono ?_
  rintro e w1 ⟨r, rfl, hr, b1⟩
  have HR := hide hr
  clear hr
  go_wp2_with fail
  go_ret
  exact ⟨by rw [← HR.out]; rfl, b1⟩

/-- Whether bytes are one line. -/
def oneL (zs : List Int) : Bool := endB zs [13, 10] && (decide (zs.length ≤ 128) && !(crl (zs.take (zs.length - 2))))
/-- The line, as a slice of the bytes. -/
def lineV (bb off cp : Nat) (zs : List Int) : Value := if oneL zs = true then .slice (some ⟨bb, off, none⟩) (zs.length - 2) cp else .slice none 0 0
theorem lineV_yes {bb off cp : Nat} {zs : List Int} (h : oneL zs = true) : lineV bb off cp zs = .slice (some ⟨bb, off, none⟩) (zs.length - 2) cp := by unfold lineV; rw [if_pos h]
theorem lineV_no {bb off cp : Nat} {zs : List Int} (h : oneL zs = false) : lineV bb off cp zs = .slice none 0 0 := by unfold lineV; rw [if_neg (by rw [h]; simp)]
theorem By_crlf : Mt.By [13, 10] := fun z hz => by simp at hz; omega

set_option maxHeartbeats 4000000 in
theorem lineOf_long (bb off cp : Nat) (zs : List Int) (w : World) (hB : Mt.By zs) (hI : Rd w.heap.size w (.slice (some ⟨bb, off, none⟩) zs.length cp) zs) (h10 : 10 < zs.length) :
    Calls Tryd.prog 13 #[.slice (some ⟨bb, off, none⟩) zs.length cp] w fun e w' => e = .returned (lineV bb off cp zs) ∧ Below w.heap.size w w' := by
  have hb1 : Below w.heap.size w (w.alloc (.cells #[.int .u8 13, .int .u8 10] 5 (2, 3))) := (Below.refl _ _).alloc (Nat.le_refl _) _
  have l1 : Later w (w.alloc (.cells #[.int .u8 13, .int .u8 10] 5 (2, 3))) := hb1
  have hcl : ∀ j, (w.alloc (.cells #[.int .u8 13, .int .u8 10] 5 (2, 3))).cell? ⟨w.heap.size, j, none⟩ = #[Value.int .u8 13, .int .u8 10][j]? := fun j => World.cell?_alloc_mark w _ _ _ j
  have R1' : Rd (w.alloc (.cells #[.int .u8 13, .int .u8 10] 5 (2, 3))).heap.size (w.alloc (.cells #[.int .u8 13, .int .u8 10] 5 (2, 3))) (.slice (some ⟨w.heap.size, 0, none⟩) 2 2) [13, 10] := .inr ⟨w.heap.size, 0, 2, rfl, by simp, by simp, by omega, by simp, fun j hj => by
    have hj2 : j < 2 := hj
    rw [Nat.zero_add, hcl]
    have : j = 0 ∨ j = 1 := by omega
    rcases this with rfl | rfl <;> rfl⟩
  have hcv := Lib.run_convert_bytes_const (P := Tryd.prog) w 26 5 #[.int .u8 13, .int .u8 10] 2 2 Tryd.underlying26 Tryd.underlying5
  have HC := hide (cutSuffix_any bb off cp _ zs [13, 10] w.heap.size _ hB By_crlf (hI.later l1) R1' (by simp))
  have HO : Hid (oneL zs = (endB zs [13, 10] && (decide (zs.length ≤ 128) && !(crl (zs.take (zs.length - 2)))))) := rfl
  clear R1' hcl
  go_enter Tryd.func13, Tryd.ntmps13
  go_wp2_with fail
  refine HC.out.mono ?_
  rintro e w2 ⟨rfl, rfl⟩
  clear HC hcv
  cases hE : endB zs [13, 10] with
  | false =>
    rw [if_neg (by simp)]
    go_wp2_with fail
    go_ret
    exact ⟨by rw [lineV_no (by rw [HO.out, hE]; rfl)]; rfl, hb1⟩
  | true =>
    rw [if_pos rfl, show zs.length - ([13, 10] : List Int).length = zs.length - 2 from rfl]
    by_cases h128 : zs.length ≤ 128
    · have t2 : decide ((128 : Int) < zs.length) = false := by simp; omega
      have hl2 : (zs.take (zs.length - 2)).length = zs.length - 2 := by rw [List.length_take]; omega
      have HK := hide (containsCr_any (.slice (some ⟨bb, off, none⟩) (zs.length - 2) cp) (zs.take (zs.length - 2)) _ (hB.take _) ((hI.later l1).take (zs.length - 2) (by omega)) (by omega))
      have HO2 : Hid (oneL zs = !(crl (zs.take (zs.length - 2)))) := by show _ = _; rw [HO.out, hE]; simp [h128]
      generalize crl (zs.take (zs.length - 2)) = cc at *
      clear hl2 HO hE
      go_wp2_with fail
      refine HK.out.mono ?_
      rintro e w3 ⟨rfl, b3⟩
      have l3 := l1.trans b3
      cases cc with
      | true =>
        go_wp2_with fail
        go_ret
        exact ⟨by rw [lineV_no (by rw [HO2.out]; rfl)]; rfl, l3⟩
      | false =>
        go_wp2_with fail
        go_ret
        exact ⟨by rw [lineV_yes (by rw [HO2.out]; rfl)]; rfl, l3⟩
    · have t2 : decide ((128 : Int) < zs.length) = true := by simp; omega
      have HO2 : Hid (oneL zs = false) := by show _ = _; rw [HO.out]; simp [h128]
      clear HO hE
      go_wp2_with fail
      go_ret
      exact ⟨by rw [lineV_no HO2.out]; rfl, hb1⟩
end Go.Proofs.YtfnlakpjepjhbaaDoor
