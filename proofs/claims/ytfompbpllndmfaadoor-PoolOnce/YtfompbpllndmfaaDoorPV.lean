/- Package pool: play without deeds. -/
import Derived.Test.YtfompbpllndmfaaDoorPU
namespace Go.Proofs.YtfompbpllndmfaaDoor
open Go.RowKit Go.Shelf
set_option maxRecDepth 100000
set_option linter.unusedVariables false
set_option linter.unusedSimpArgs false

set_option maxHeartbeats 4000000 in
theorem play_none (lo sz : Nat) (hlo : lo ≤ 65535) (hsz : sz ≤ 65535) (w : World) :
    Calls Tryd.prog 7 #[.int .u16 (lo : Int), .int .u16 (sz : Int), .slice none 0 0] w fun e w' => Later w w' ∧ ∃ lw hg rb : Nat, 1 ≤ lw ∧ lw ≤ hg ∧ hg < 65536 ∧ e = .returned (.tuple #[.pointer (some ⟨w.heap.size, 0, none⟩), .pointer (some ⟨rb, 0, none⟩), .bool true]) ∧ PB w.heap.size w' w.heap.size (lw : Int) (hg : Int) (wsOf (nums lw hg)) := by
  have hlo' : (lo : Int) ≤ 65535 := by omega
  have hsz' : (sz : Int) ≤ 65535 := by omega
  go_enter Tryd.func7, Tryd.ntmps7
  go_upto_region 2 with fail
  obtain ⟨hi, hhi, hhl⟩ : ∃ hi : Nat, IntKind.u16.wrap ((lo : Int) + (sz : Int) % 200) = (hi : Int) ∧ hi ≤ 65535 := by
    refine ⟨(lo + sz % 200) % 65536, ?_, by omega⟩
    have e1 : ∀ z : Int, IntKind.u16.wrap z = z % 65536 := fun z => by simp [IntKind.wrap, IntKind.signed, IntKind.bits]
    rw [e1]
    omega
  rw [hhi]
  generalize (sz : Int) % 200 = q0 at *
  clear hhi hsz hsz'
  have hhl' : (hi : Int) ≤ 65535 := by omega
  have hcase : lo = 0 ∨ (lo ≠ 0 ∧ hi < lo) ∨ (1 ≤ lo ∧ lo ≤ hi) := by omega
  rcases hcase with rfl | ⟨ha, hb⟩ | ⟨h1, h2⟩
  case' inl =>
    go_upto_region 4 with fail
    obtain ⟨lw, hlw, hg, hhg, h1, h2, h3⟩ : ∃ lw : Nat, (10 : Int) = (lw : Int) ∧ ∃ hg : Nat, (20 : Int) = (hg : Int) ∧ 1 ≤ lw ∧ lw ≤ hg ∧ hg ≤ 65535 := ⟨10, rfl, 20, rfl, by omega, by omega, by omega⟩
    rw [show Value.int IntKind.u16 10 = Value.int IntKind.u16 (lw : Int) from by rw [← hlw], show Value.int IntKind.u16 20 = Value.int IntKind.u16 (hg : Int) from by rw [← hhg]]
    clear hlw hhg hhl hhl' hlo hlo'
  case' inr.inl =>
    have ha' : ¬ (lo : Int) = 0 := by omega
    have hb' : (hi : Int) < (lo : Int) := by omega
    go_upto_region 4 with fail
    obtain ⟨lw, hlw, hg, hhg, h1, h2, h3⟩ : ∃ lw : Nat, (10 : Int) = (lw : Int) ∧ ∃ hg : Nat, (20 : Int) = (hg : Int) ∧ 1 ≤ lw ∧ lw ≤ hg ∧ hg ≤ 65535 := ⟨10, rfl, 20, rfl, by omega, by omega, by omega⟩
    rw [show Value.int IntKind.u16 10 = Value.int IntKind.u16 (lw : Int) from by rw [← hlw], show Value.int IntKind.u16 20 = Value.int IntKind.u16 (hg : Int) from by rw [← hhg]]
    clear hlw hhg hhl hhl' ha hb ha' hb' hlo hlo'
  case' inr.inr =>
    have ha' : ¬ (lo : Int) = 0 := by omega
    have hb' : ¬ (hi : Int) < (lo : Int) := by omega
    go_upto_region 4 with fail
    obtain ⟨lw, rfl⟩ : ∃ lw : Nat, lw = lo := ⟨lo, rfl⟩
    obtain ⟨hg, rfl⟩ : ∃ hg : Nat, hg = hi := ⟨hi, rfl⟩
    have h3 := hhl
    clear hhl hhl' ha' hb' hlo hlo'
  all_goals
    have HN := hide (new8_yes lw hg h1 h2 (by omega) w)
    have HR := hide (fun W => rnew8_yes lw hg h1 h2 (by omega) W)
    go_wp2_with fail
    refine HN.out.mono ?_
    rintro e w1 ⟨rfl, l1, hT1⟩
    go_wp2_with fail
    refine (HR.out w1).mono ?_
    rintro e w2 ⟨rfl, hw2⟩
    have l2 : Later w1 w2 := by rw [hw2]; exact (Below.refl _ _).alloc (Nat.le_refl _) _
    have hT2 := hT1.later l2
    have L2 := l1.trans l2
    have H123 := hide (And.intro h1 (And.intro h2 h3))
    clear hw2 HN HR l1 l2 hT1 h1 h2 h3
    go_wp2_with fail
    go_loopw [12] (fun i wr => i = .int .i64 0 ∧ wr = w2) (fun i _ => 0)
    case atStart => exact ⟨rfl, rfl⟩
    case round =>
      obtain ⟨rfl, rfl⟩ := hrel
      go_wp2_with fail
      refine bodyPost_ret (v := .tuple #[.pointer (some ⟨w.heap.size, 0, none⟩), .pointer (some ⟨w1.heap.size, 0, none⟩), .bool true]) (by simp [results, Tryd.results7, go_sem]) rfl ?_
      obtain ⟨h1, h2, h3⟩ := H123.out
      exact ⟨L2, lw, hg, _, h1, h2, by omega, rfl, hT2⟩
end Go.Proofs.YtfompbpllndmfaaDoor
