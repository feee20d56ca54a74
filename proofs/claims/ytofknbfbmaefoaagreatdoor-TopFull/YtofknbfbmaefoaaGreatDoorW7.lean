import Derived.Test.YtofknbfbmaefoaaGreatDoorW6
namespace Go.Proofs.YtofknbfbmaefoaaGreatDoor
set_option maxHeartbeats 1000000
open Go.RowKit Go.Shelf
set_option maxRecDepth 100000
theorem Rd.drew {n₀ : Nat} {w : World} {sv : Value} {zs : List Int} (q : Nat) (h : Rd n₀ w sv zs) : Rd n₀ (w.drewN q) sv zs := h.below (below_draw (Below.refl _ _) q)
theorem Ow.drew {base : Nat} {w : World} {sv : Value} {zs : List Int} (q : Nat) (h : Ow base w sv zs) : Ow base (w.drewN q) sv zs := h.below (below_draw (Below.refl w.heap.size _) q) (Nat.le_refl _)
theorem Rd.cells {n₀ : Nat} {w : World} {sv : Value} {zs : List Int} (h : Rd n₀ w sv zs) (hne : 0 < zs.length) : ∃ b off cap, sv = .slice (some ⟨b, off, none⟩) zs.length cap ∧ zs.length ≤ cap ∧ cap ≤ 9223372036854775807 ∧ b < n₀ ∧ ∀ j, j < zs.length → w.cell? ⟨b, off + j, none⟩ = some (.int .u8 (zs[j]?.getD 0)) := by
 rcases h with ⟨a, cap, e, hz, _⟩ | ⟨b, off, cap, e, _, hl, hm, hb, hc⟩
 ·subst hz; simp at hne
 ·exact ⟨b, off, cap, e, hl, hm, hb, hc⟩
theorem get16_rd {n₀ : Nat} (sv : Value) (zs : List Int) (hB : Mt.By zs) (p : Nat) (h : p + 1 < zs.length) (w : World) (hI : Rd n₀ w sv zs) :
  Calls Tryz.prog 146 #[sv, .int .i64 p] w fun e w' => e = .returned (.int .u16 (wat zs p)) ∧ ∃ n, w' = w.drewN n := by
 obtain ⟨b, off, cap, rfl, hl, hm, _, hc⟩ := hI.cells (by omega)
 exact get16_yes b off zs.length cap _ _ p w (by omega) h (hB.at p) (hB.at (p + 1)) (hc p (by omega)) (hc (p + 1) h)
theorem or_join32 (x y : Int) (hx : 0 ≤ x ∧ x ≤ 65535) (hy : 0 ≤ y ∧ y ≤ 65535) : bits .or .u32 (x * 65536) y = x * 65536 + y := by
 rw [u32_or _ _ (by omega) (by omega) (by omega) (by omega)]
 have := nat_join 16 (x * 65536).toNat y.toNat (by omega) (by omega)
 omega
def wat4 (zs : List Int) (p : Nat) : Int := wat zs p * 65536 + wat zs (p + 2)
theorem get32_rd {n₀ : Nat} (sv : Value) (zs : List Int) (hB : Mt.By zs) (p : Nat) (h : p + 3 < zs.length) (w : World) (hI : Rd n₀ w sv zs) :
  Calls Tryz.prog 99 #[sv, .int .i64 p] w fun e w' => e = .returned (.int .u32 (wat4 zs p)) ∧ ∃ n, w' = w.drewN n := by
 obtain ⟨a, cap, rfl, hl, hm⟩ := hI.slice
 have HW : Hid (wat4 zs p = wat zs p * 65536 + wat zs (p + 2)) := rfl
 have b0 := wat_bd hB p
 have b1 := wat_bd hB (p + 2)
 go_enter Tryz.func99, Tryz.ntmps99
 go_wp2_with fail
 refine (holds_yes _ _ _ _ _ _ (by omega) (by omega) (by omega) (by omega)).mono ?_
 rintro e w1 ⟨rfl, rfl⟩
 go_wp2_with fail
 refine (get16_rd _ zs hB p (by omega) _ hI).mono ?_
 rintro e w2 ⟨rfl, q, rfl⟩
 go_wp2_with fail
 rw [show ((p : Int) + 2) = ((p + 2 : Nat) : Int) from by omega]
 refine (get16_rd _ zs hB (p + 2) (by omega) _ (hI.drew q)).mono ?_
 rintro e w2 ⟨rfl, q2, rfl⟩
 generalize wat zs p = x at *
 generalize wat zs (p + 2) = y at *
 go_wp2
 rw [or_join32 x y b0 b1]
 go_ret
 exact ⟨by rw [HW.out]; rfl, _, rfl⟩
theorem get32_no (a : Option Addr) (len cap : Nat) (p : Int) (w : World) (hl : len ≤ 9223372036854775807) (h1 : p < 0 ∨ (len : Int) < p + 4) :
  Calls Tryz.prog 99 #[.slice a len cap, .int .i64 p] w fun e w' => e = .returned (.int .u32 0) ∧ w' = w := by
 go_enter Tryz.func99, Tryz.ntmps99
 go_wp2_with (go_at_call 86; refine (holds_no _ _ _ _ _ _ hl (by omega) (by omega) h1).mono ?_; rintro e w' ⟨rfl, rfl⟩)
 go_ret
 exact ⟨rfl, rfl⟩
theorem wat_put2 (zs : List Int) (k : Nat) (v : Int) (h : k + 1 < zs.length) (_hv : 0 ≤ v) : wat (Mt.put2 zs k v) k = v := by
 obtain ⟨e0, e1⟩ := Mt.put2_at zs k v h
 unfold wat; rw [e0, e1]; omega
end Go.Proofs.YtofknbfbmaefoaaGreatDoor
