/- The walk of TopPorts. -/
import Derived.Test.YtpadobnklhgijaaDoorPK
namespace Go.Proofs.YtpadobnklhgijaaDoor
open Go.RowKit Go.Shelf
set_option maxRecDepth 100000
set_option linter.unusedVariables false
set_option linter.unusedSimpArgs false

theorem fr_take {ws : Nat → Nat} {a b : Nat} (h : ∀ m, fr ws m = decide (a ≤ m ∧ m ≤ b)) (m : Nat) : fr (wsR ws a) m = decide (a + 1 ≤ m ∧ m ≤ b) := by
  unfold wsR
  rw [fr_remove, h m, Bool.eq_iff_iff]
  simp
  omega
theorem fr_give {ws : Nat → Nat} {a k : Nat} (h : ∀ m, fr ws m = decide (a ≤ m ∧ m < k)) (hak : a ≤ k) (m : Nat) : fr (wsA ws k) m = decide (a ≤ m ∧ m < k + 1) := by
  unfold wsA
  rw [fr_add, h m, Bool.eq_iff_iff]
  simp
  omega

theorem take_low (base b low high : Nat) (ws : Nat → Nat) (a c : Nat) (w : World) (hT : PB base w b (low : Int) (high : Int) ws) (hz : Dz w) (ha : 1 ≤ a) (hac : a ≤ c) (hc : c < 65536) (h : ∀ m, fr ws m = decide (a ≤ m ∧ m ≤ c)) :
    Calls Tryd.prog 13 #[.pointer (some ⟨b, 0, none⟩), .int .u16 0] w fun e w' => e = .returned (.tuple #[.int .u16 (a : Int), .int .i64 0]) ∧ PB base w' b (low : Int) (high : Int) (wsR ws a) ∧ But (fun g => g = b) w w' := by
  have hq : fr ws 0 = false := by rw [h]; simp; omega
  have hL := els_interval ws a c hac hc (fun m _ => h m)
  obtain ⟨L, hL2⟩ := nums_cons a c hac
  have hn : fsn false 0 (els ws) = a := by unfold fsn; rw [hL, hL2]; simp
  have hb : fsb false (els ws) = true := by unfold fsb; rw [hL, hL2]; simp
  refine (take8_any base b low high ws 0 w hT (by omega) hz).mono ?_
  rintro e w' ⟨rfl, ht, hbt⟩
  rw [hq] at ht ⊢
  rw [hn] at ht ⊢
  rw [tke_t hb]
  rcases ht with ⟨h1, _⟩ | ⟨_, h2⟩
  · rw [hb] at h1; cases h1
  · exact ⟨rfl, h2, hbt⟩
theorem take_none (base b low high : Nat) (ws : Nat → Nat) (wish : Nat) (w : World) (hT : PB base w b (low : Int) (high : Int) ws) (hz : Dz w) (hw : wish < 65536) (h : ∀ m, fr ws m = false) :
    Calls Tryd.prog 13 #[.pointer (some ⟨b, 0, none⟩), .int .u16 (wish : Int)] w fun e w' => e = .returned (.tuple #[.int .u16 0, .int .i64 9]) ∧ PB base w' b (low : Int) (high : Int) ws ∧ But (fun g => g = b) w w' := by
  have hL := els_none ws (fun m _ => h m)
  have hn : fsn false wish (els ws) = 0 := by unfold fsn; rw [hL]; rfl
  have hb : fsb false (els ws) = false := by unfold fsb; rw [hL]; rfl
  refine (take8_any base b low high ws wish w hT hw hz).mono ?_
  rintro e w' ⟨rfl, ht, hbt⟩
  rw [h wish] at ht ⊢
  rw [hn] at ht ⊢
  rw [tke_f hb]
  rcases ht with ⟨_, h2⟩ | ⟨h1, _⟩
  · exact ⟨rfl, h2, hbt⟩
  · rw [hb] at h1; cases h1
theorem cnt_none {ws : Nat → Nat} (h : ∀ m, fr ws m = false) : cnt ws 1024 = 0 := by
  rw [cnt_eq]
  show (els ws).length = 0
  rw [els_none ws (fun m _ => h m)]
  rfl
theorem cnt_interval {ws : Nat → Nat} {a b : Nat} (hab : a ≤ b) (hb : b < 65536) (h : ∀ m, fr ws m = decide (a ≤ m ∧ m ≤ b)) : cnt ws 1024 = b - a + 1 := by
  rw [cnt_eq]
  show (els ws).length = _
  rw [els_interval ws a b hab hb (fun m _ => h m), nums_length]

end Go.Proofs.YtpadobnklhgijaaDoor