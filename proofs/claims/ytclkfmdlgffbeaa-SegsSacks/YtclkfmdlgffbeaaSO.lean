/- Package segs: what a packet's segment is: its header. -/
import Derived.Test.YtclkfmdlgffbeaaSN
import Derived.Test.YtclkfmdlgffbeaaSF
namespace Go.Proofs.Ytclkfmdlgffbeaa
open Go.RowKit Go.Shelf
set_option maxRecDepth 100000
set_option linter.unusedVariables false
set_option linter.unusedSimpArgs false

/-- How many bytes a segment's header says that it has; what it is refused with, but for its options (0: nothing). -/
def thd (zs : List Int) : Int := zs[12]?.getD 0 / 16 * 4
def ptc (proto src dst : Int) (zs : List Int) : Int := if proto ≠ 6 then 12 else if zs.length < 20 then 3 else if thd zs < 20 ∨ zs[12]?.getD 0 % 16 ≠ 0 then 4 else if (zs.length : Int) < thd zs then 3 else if Mt.cks (psd src dst 6 zs.length ++ zs) ≠ 0 then 5 else 0

set_option maxHeartbeats 4000000 in
theorem tcpHead_any (tos id ttl proto src dst : Int) (keep : Bool) (so sd : Value) (zs : List Int) (w : World) (hB : Mt.By zs) (hI : Rd w.heap.size w sd zs) (hl : 12 + zs.length ≤ 140737488355328) (hsr : 0 ≤ src ∧ src ≤ 4294967295) (hds : 0 ≤ dst ∧ dst ≤ 4294967295) :
    Calls Try.prog 20 #[.agg #[.int .u8 tos, .int .u16 id, .bool keep, .int .u8 ttl, .int .u8 proto, .int .u32 src, .int .u32 dst, so, sd]] w fun e w' => Below w.heap.size w w' ∧ ((ptc proto src dst zs ≠ 0 ∧ e = .returned (.tuple #[.int .i64 0, .int .i64 (ptc proto src dst zs)])) ∨ (ptc proto src dst zs = 0 ∧ e = .returned (.tuple #[.int .i64 (thd zs), .int .i64 0]))) := by
  obtain ⟨ad, cd, rfl, hl1, hm1⟩ := hI.slice
  have hb0 : Below w.heap.size w (w.alloc (.cells #[.int .u8 tos, .int .u16 id, .bool keep, .int .u8 ttl, .int .u8 proto, .int .u32 src, .int .u32 dst, so, .slice ad zs.length cd] 26)) := (Below.refl _ _).alloc (Nat.le_refl _) _
  by_cases c1 : proto = 6
  · have t1 : (proto != 6) = false := by simp [c1]
    have C1 := hide c1
    clear c1
    by_cases c2 : zs.length < 20
    · have HF : Hid (ptc proto src dst zs = 3) := by show _ = _; unfold ptc; rw [if_neg (by simp [C1.out]), if_pos c2]
      have t2 : (zs.length : Int) < 20 := by omega
      clear c2
      go_enter Try.func20, Try.ntmps20
      go_wp2_with fail
      exact bodyPost_ret (v := .tuple #[.int .i64 0, .int .i64 3]) (by simp [results, Try.results20, go_sem]) rfl ⟨hb0, .inl ⟨by rw [HF.out]; decide, by rw [HF.out]⟩⟩
    · have t2 : ¬ (zs.length : Int) < 20 := by omega
      obtain ⟨b, off, cap, e0, hlc, hmc, hbb, hcs⟩ := hI.cells (by omega)
      simp at e0
      obtain ⟨rfl, rfl⟩ := e0
      have d0 := (hb0.cell (p := ⟨b, off + 12, none⟩) hbb).trans (hcs 12 (by omega))
      have b0 := hB.at 12
      have i12 : (12 : Int) < zs.length := by omega
      clear hcs
      have HTH : Hid (thd zs = zs[12]?.getD 0 / 16 * 4) := rfl
      have HC2 := hide c2
      generalize hx : zs[12]?.getD 0 = x at d0 b0 HTH
      have HX := hide hx
      have hand := and15 x b0
      clear hx c2
      by_cases c3 : x / 16 * 4 < 20
      · have HF : Hid (ptc proto src dst zs = 4) := by show _ = _; unfold ptc; rw [if_neg (by simp [C1.out]), if_neg HC2.out, if_pos (.inl (by rw [HTH.out]; exact c3))]
        go_enter Try.func20, Try.ntmps20
        go_wp2_with fail
        exact bodyPost_ret (v := .tuple #[.int .i64 0, .int .i64 4]) (by simp [results, Try.results20, go_sem]) rfl ⟨hb0, .inl ⟨by rw [HF.out]; decide, by rw [HF.out]⟩⟩
      · by_cases c4 : x % 16 = 0
        · have t4 : (x % 16 != 0) = false := by simp [c4]
          by_cases c5 : (zs.length : Int) < x / 16 * 4
          · have HF : Hid (ptc proto src dst zs = 3) := by show _ = _; unfold ptc; rw [if_neg (by simp [C1.out]), if_neg HC2.out, if_neg (by rw [HTH.out, HX.out]; omega), if_pos (by rw [HTH.out]; exact c5)]
            have C4 := hide c4
            clear c4
            go_enter Try.func20, Try.ntmps20
            go_wp2_with fail
            exact bodyPost_ret (v := .tuple #[.int .i64 0, .int .i64 3]) (by simp [results, Try.results20, go_sem]) rfl ⟨hb0, .inl ⟨by rw [HF.out]; decide, by rw [HF.out]⟩⟩
          · have C4 := hide c4
            clear c4
            have hBs := (By_psd src dst 6 zs.length hsr hds (by omega)).append hB
            have hln : (psd src dst 6 zs.length ++ zs).length = 12 + zs.length := by rw [List.length_append, psd_length]
            have hBS := hide hBs
            have HLN := hide hln
            clear hBs hln
            go_enter Try.func20, Try.ntmps20
            go_wp2_with fail
            rw [C1.out]
            refine (summed_any tos id ttl 6 src dst keep _ _ zs _ ((hI.below (by rw [C1.out] at hb0; exact hb0)).mono (by simp)) hl hsr hds).mono ?_
            rintro e w3 ⟨a3, c3', rfl, hO3, hb3⟩
            rw [C1.out] at hb0
            generalize hgW : w.alloc (.cells #[.int .u8 tos, .int .u16 id, .bool keep, .int .u8 ttl, .int .u8 6, .int .u32 src, .int .u32 dst, so, .slice (some ⟨b, off, none⟩) zs.length cd] 26) = W0 at *
            clear hgW
            go_wp2_with fail
            rw [← HLN.out] at hO3 ⊢
            refine (good_any _ _ hBS.out (by rw [HLN.out]; exact hl) w3 hO3.rd).mono ?_
            rintro e w4 ⟨rfl, hb4⟩
            have hw4 : Below w.heap.size w w4 := hb0.trans ((hb3.trans (hb4.mono hb3.size)).mono hb0.size)
            by_cases c6 : Mt.cks (psd src dst 6 zs.length ++ zs) = 0
            · have t6 : (Mt.cks (psd src dst 6 zs.length ++ zs) == 0) = true := by simp [c6]
              have HF : Hid (ptc proto src dst zs = 0) := by show _ = _; unfold ptc; rw [if_neg (by simp [C1.out]), if_neg HC2.out, if_neg (by rw [HTH.out, HX.out]; have := C4.out; omega), if_neg (by rw [HTH.out]; omega), if_neg (by simp [c6])]
              clear c6
              go_wp2_with fail
              exact bodyPost_ret (v := .tuple #[.int .i64 (x / 16 * 4), .int .i64 0]) (by simp [results, Try.results20, go_sem]) rfl ⟨hw4, .inr ⟨HF.out, by rw [HTH.out]⟩⟩
            · have t6 : (Mt.cks (psd src dst 6 zs.length ++ zs) == 0) = false := by simp [c6]
              have HF : Hid (ptc proto src dst zs = 5) := by show _ = _; unfold ptc; rw [if_neg (by simp [C1.out]), if_neg HC2.out, if_neg (by rw [HTH.out, HX.out]; have := C4.out; omega), if_neg (by rw [HTH.out]; omega), if_pos c6]
              clear c6
              go_wp2_with fail
              exact bodyPost_ret (v := .tuple #[.int .i64 0, .int .i64 5]) (by simp [results, Try.results20, go_sem]) rfl ⟨hw4, .inl ⟨by rw [HF.out]; decide, by rw [HF.out]⟩⟩
        · have t4 : (x % 16 != 0) = true := by simp [c4]
          have HF : Hid (ptc proto src dst zs = 4) := by show _ = _; unfold ptc; rw [if_neg (by simp [C1.out]), if_neg HC2.out, if_pos (.inr (by rw [HX.out]; exact c4))]
          clear c4
          go_enter Try.func20, Try.ntmps20
          go_wp2_with fail
          exact bodyPost_ret (v := .tuple #[.int .i64 0, .int .i64 4]) (by simp [results, Try.results20, go_sem]) rfl ⟨hb0, .inl ⟨by rw [HF.out]; decide, by rw [HF.out]⟩⟩
  · have t1 : (proto != 6) = true := by simp [c1]
    have HF : Hid (ptc proto src dst zs = 12) := by show _ = _; unfold ptc; rw [if_pos c1]
    clear c1
    go_enter Try.func20, Try.ntmps20
    go_wp2_with fail
    exact bodyPost_ret (v := .tuple #[.int .i64 0, .int .i64 12]) (by simp [results, Try.results20, go_sem]) rfl ⟨hb0, .inl ⟨by rw [HF.out]; decide, by rw [HF.out]⟩⟩
end Go.Proofs.Ytclkfmdlgffbeaa
