/- The document's expected flows: find. -/
import Derived.Test.YtbimdhapkbdmjaaEH
namespace Go.Proofs.Ytbimdhapkbdmjaa
open Go.RowKit Go.Shelf
set_option maxRecDepth 100000
set_option linter.unusedVariables false
set_option linter.unusedSimpArgs false

set_option maxHeartbeats 8000000 in
theorem rfind12_any (base b : Nat) (v : Value) (l : List Ex) (t : Tu) (now : Int) (w : World) (hT : BL 64 base w b v l) (hl : l.length ≤ 1000) :
    Calls Try.prog 44 #[.pointer (some ⟨b, 0, none⟩), .agg (tuc t).toArray, .int .i64 now] w fun e w' => ixP (pkX t now) l e ∧ Later w w' := by
  obtain ⟨av, cv, rfl, _, _⟩ := (ownE_rd hT.2.2).slice
  obtain ⟨tp, ts, td, ta, tq⟩ := t
  unfold tuc
  simp only
  have lb0 : Later w (w.alloc (.cells #[.int .u8 tp, .int .u32 ts, .int .u32 td, .int .u16 ta, .int .u16 tq] 28)) := (Below.refl _ _).alloc (Nat.le_refl _) _
  have c0 := heap_alloc_new w (.cells #[.int .u8 tp, .int .u32 ts, .int .u32 td, .int .u16 ta, .int .u16 tq] 28)
  have hli : (l.length : Int) ≤ 1000 := by omega
  go_enter Try.func44, Try.ntmps44
  go_upto_region 1 with fail
  generalize w.alloc _ = w0 at *
  go_wp2_with fail
  go_loopw [7] (fun i wr => ∃ k : Nat, k ≤ l.length ∧ i = .int .i64 (k : Int) ∧ (∀ y ∈ l.take k, pkX ⟨tp, ts, td, ta, tq⟩ now y = false) ∧ Later w0 wr) (fun i _ => l.length - (intOf i).toNat)
  case atStart => exact ⟨0, by omega, rfl, by simp, Later.refl _⟩
  case round =>
    obtain ⟨k, hk, rfl, hno, lr⟩ := hrel
    have HNO := hide hno
    have L1 := lb0.trans lr
    have hTr := hT.later L1
    have cr := later_keep lr c0
    clear hno
    by_cases hkl : k < l.length
    · obtain ⟨g, off, cp, e, _, _, hgn, hcs⟩ := (ownE_rd hTr.2.2).cells (by omega)
      simp at e
      obtain ⟨rfl, rfl⟩ := e
      have c0 := hcs k hkl 0 (by omega)
      have c1 := hcs k hkl 1 (by omega)
      have c2 := hcs k hkl 2 (by omega)
      have c3 := hcs k hkl 3 (by omega)
      have c4 := hcs k hkl 4 (by omega)
      have c5 := hcs k hkl 5 (by omega)
      have c6 := hcs k hkl 6 (by omega)
      have c7 := hcs k hkl 7 (by omega)
      have c8 := hcs k hkl 8 (by omega)
      have hkl' : (k : Int) < l.length := by omega
      have htk : l.take (k + 1) = l.take k ++ [l[k]] := (List.take_append_getElem hkl).symm
      have HNO2 : Hid (pkX ⟨tp, ts, td, ta, tq⟩ now l[k] = false → ∀ y ∈ l.take (k + 1), pkX ⟨tp, ts, td, ta, tq⟩ now y = false) := fun h y hy => by
        rw [htk] at hy
        rcases List.mem_append.1 hy with h' | h'
        · exact HNO.out y h'
        · rw [show y = l[k] from by simpa using h']; exact h
      have HYE : Hid (pkX ⟨tp, ts, td, ta, tq⟩ now l[k] = true → ixP (pkX ⟨tp, ts, td, ta, tq⟩ now) l (.returned (.int .i64 (k : Int)))) := fun h => .inl ⟨k, hkl, rfl, h, HNO.out⟩
      clear hcs htk
      have kb := block_cell hTr.2.1
      generalize l[k] = r at *
      obtain ⟨pr, src, dst, sp, dp, host, hp, ms, dl⟩ := r
      simp only [exc, List.getElem?_cons_zero, List.getElem?_cons_succ, Nat.add_zero] at c0 c1 c2 c3 c4 c5 c6 c7 c8
      have la : Later wr (wr.alloc (.cells #[.int .u8 pr, .int .u32 src, .int .u32 dst, .int .u16 sp, .int .u16 dp, .int .u32 host, .int .u16 hp, .int .i64 ms, .int .i64 dl] 26)) := (Below.refl _ _).alloc (Nat.le_refl _) _
      have cB := heap_alloc_new wr (.cells #[.int .u8 pr, .int .u32 src, .int .u32 dst, .int .u16 sp, .int .u16 dp, .int .u32 host, .int .u16 hp, .int .i64 ms, .int .i64 dl] 26)
      have rB := later_keep la cr
      have L2 := lr.trans la
      have L3 := L1.trans la
      go_upto_region 5 with fail
      generalize wr.alloc (.cells #[.int .u8 pr, .int .u32 src, .int .u32 dst, .int .u16 sp, .int .u16 dp, .int .u32 host, .int .u16 hp, .int .i64 ms, .int .i64 dl] 26) = w2 at *
      clear c0 c1 c2 c3 c4 c5 c6 c7 c8 kb
      have kB := block_cell cB
      have rk := block_cell rB
      clear cB rB cr
      by_cases e1 : pr = tp
      · by_cases e2 : dst = td
        · by_cases e3 : dp = tq
          · by_cases e6 : dl > now
            · have e6' : now < dl := e6
              by_cases e4 : src = 0
              · skip
                have HYA : Hid (pkX ⟨tp, ts, td, ta, tq⟩ now ⟨pr, src, dst, sp, dp, host, hp, ms, dl⟩ = true) := by show _ = _; unfold pkX ftX; simp; omega
                go_wp2_with fail
                go_ret
                exact ⟨HYE.out HYA.out, L3⟩
              · by_cases e5 : src = ts
                · skip
                  have HYA : Hid (pkX ⟨tp, ts, td, ta, tq⟩ now ⟨pr, src, dst, sp, dp, host, hp, ms, dl⟩ = true) := by show _ = _; unfold pkX ftX; simp; omega
                  go_wp2_with fail
                  go_ret
                  exact ⟨HYE.out HYA.out, L3⟩
                · skip
                  have HNA : Hid (pkX ⟨tp, ts, td, ta, tq⟩ now ⟨pr, src, dst, sp, dp, host, hp, ms, dl⟩ = false) := by show _ = _; unfold pkX ftX; simp; try omega
                  go_wp2_with fail
                  go_roundw
                  case rel => exact ⟨k + 1, by omega, by go_num, HNO2.out HNA.out, L2⟩
                  case measure => simp [intOf]; omega
            · have e6' : ¬ now < dl := e6
              by_cases e4 : src = 0
              · skip
                have HNA : Hid (pkX ⟨tp, ts, td, ta, tq⟩ now ⟨pr, src, dst, sp, dp, host, hp, ms, dl⟩ = false) := by show _ = _; unfold pkX ftX; simp; try omega
                go_wp2_with fail
                go_roundw
                case rel => exact ⟨k + 1, by omega, by go_num, HNO2.out HNA.out, L2⟩
                case measure => simp [intOf]; omega
              · by_cases e5 : src = ts
                · skip
                  have HNA : Hid (pkX ⟨tp, ts, td, ta, tq⟩ now ⟨pr, src, dst, sp, dp, host, hp, ms, dl⟩ = false) := by show _ = _; unfold pkX ftX; simp; try omega
                  go_wp2_with fail
                  go_roundw
                  case rel => exact ⟨k + 1, by omega, by go_num, HNO2.out HNA.out, L2⟩
                  case measure => simp [intOf]; omega
                · skip
                  have HNA : Hid (pkX ⟨tp, ts, td, ta, tq⟩ now ⟨pr, src, dst, sp, dp, host, hp, ms, dl⟩ = false) := by show _ = _; unfold pkX ftX; simp; try omega
                  go_wp2_with fail
                  go_roundw
                  case rel => exact ⟨k + 1, by omega, by go_num, HNO2.out HNA.out, L2⟩
                  case measure => simp [intOf]; omega
          · skip
            have HNA : Hid (pkX ⟨tp, ts, td, ta, tq⟩ now ⟨pr, src, dst, sp, dp, host, hp, ms, dl⟩ = false) := by show _ = _; unfold pkX ftX; simp; try omega
            go_wp2_with fail
            go_roundw
            case rel => exact ⟨k + 1, by omega, by go_num, HNO2.out HNA.out, L2⟩
            case measure => simp [intOf]; omega
        · skip
          have HNA : Hid (pkX ⟨tp, ts, td, ta, tq⟩ now ⟨pr, src, dst, sp, dp, host, hp, ms, dl⟩ = false) := by show _ = _; unfold pkX ftX; simp; try omega
          go_wp2_with fail
          go_roundw
          case rel => exact ⟨k + 1, by omega, by go_num, HNO2.out HNA.out, L2⟩
          case measure => simp [intOf]; omega
      · skip
        have HNA : Hid (pkX ⟨tp, ts, td, ta, tq⟩ now ⟨pr, src, dst, sp, dp, host, hp, ms, dl⟩ = false) := by show _ = _; unfold pkX ftX; simp; try omega
        go_wp2_with fail
        go_roundw
        case rel => exact ⟨k + 1, by omega, by go_num, HNO2.out HNA.out, L2⟩
        case measure => simp [intOf]; omega
    · obtain rfl : k = l.length := by omega
      have kb := block_cell hTr.2.1
      have HF : Hid (ixP (pkX ⟨tp, ts, td, ta, tq⟩ now) l (.returned (.int .i64 (-1)))) := .inr ⟨rfl, fun x hx => HNO.out x (by rw [List.take_length]; exact hx)⟩
      go_wp2_with fail
      go_ret
      exact ⟨HF.out, L1⟩
end Go.Proofs.Ytbimdhapkbdmjaa
