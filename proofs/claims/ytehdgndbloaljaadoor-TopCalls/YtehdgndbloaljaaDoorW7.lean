/- Words read from bytes, of two and of four. -/
import Derived.Test.YtehdgndbloaljaaDoorW6
namespace Go.Proofs.YtehdgndbloaljaaDoor
open Go.RowKit Go.Shelf
set_option maxRecDepth 100000

theorem Rd.drew {n₀ : Nat} {w : World} {sv : Value} {zs : List Int} (q : Nat) (h : Rd n₀ w sv zs) : Rd n₀ (w.drewN q) sv zs := h.below (below_draw (Below.refl _ _) q)
theorem Ow.drew {base : Nat} {w : World} {sv : Value} {zs : List Int} (q : Nat) (h : Ow base w sv zs) : Ow base (w.drewN q) sv zs := h.below (below_draw (Below.refl w.heap.size _) q) (Nat.le_refl _)
theorem Rd.cells {n₀ : Nat} {w : World} {sv : Value} {zs : List Int} (h : Rd n₀ w sv zs) (hne : 0 < zs.length) : ∃ b off cap, sv = .slice (some ⟨b, off, none⟩) zs.length cap ∧ zs.length ≤ cap ∧ cap ≤ 9223372036854775807 ∧ b < n₀ ∧ ∀ j, j < zs.length → w.cell? ⟨b, off + j, none⟩ = some (.int .u8 (zs[j]?.getD 0)) := by
  rcases h with ⟨a, cap, e, hz, _⟩ | ⟨b, off, cap, e, _, hl, hm, hb, hc⟩
  · subst hz; simp at hne
  · exact ⟨b, off, cap, e, hl, hm, hb, hc⟩

theorem or_join32 (x y : Int) (hx : 0 ≤ x ∧ x ≤ 65535) (hy : 0 ≤ y ∧ y ≤ 65535) : bits .or .u32 (x * 65536) y = x * 65536 + y := by
  rw [u32_or _ _ (by omega) (by omega) (by omega) (by omega)]
  have := nat_join 16 (x * 65536).toNat y.toNat (by omega) (by omega)
  omega

/-- The word of four bytes. -/
def wat4 (zs : List Int) (p : Nat) : Int := wat zs p * 65536 + wat zs (p + 2)

theorem wat_put2 (zs : List Int) (k : Nat) (v : Int) (h : k + 1 < zs.length) (_hv : 0 ≤ v) : wat (Mt.put2 zs k v) k = v := by
  obtain ⟨e0, e1⟩ := Mt.put2_at zs k v h
  unfold wat; rw [e0, e1]; omega
theorem wat_put2_other (zs : List Int) (k j : Nat) (v : Int) (h1 : j + 1 < k ∨ k + 1 < j) : wat (Mt.put2 zs k v) j = wat zs j := by
  unfold wat; rw [Mt.put2_other _ _ _ _ (by omega) (by omega), Mt.put2_other _ _ _ _ (by omega) (by omega)]
theorem put4_other (zs : List Int) (k j : Nat) (v : Int) (h : j < k ∨ k + 4 ≤ j) : (put4 zs k v)[j]? = zs[j]? := by
  unfold put4; rw [Mt.put2_other _ _ _ _ (by omega) (by omega), Mt.put2_other _ _ _ _ (by omega) (by omega)]
theorem wat_put4 (zs : List Int) (k : Nat) (v : Int) (h : k + 3 < zs.length) (hv : 0 ≤ v) : wat (put4 zs k v) k = v / 65536 ∧ wat (put4 zs k v) (k + 2) = v % 65536 := by
  unfold put4
  refine ⟨?_, wat_put2 _ _ _ (by rw [Mt.put2_length]; omega) (by omega)⟩
  rw [wat_put2_other _ _ _ _ (by omega), wat_put2 _ _ _ (by omega) (by omega)]
theorem wat4_put4 (zs : List Int) (k : Nat) (v : Int) (h : k + 3 < zs.length) (hv : 0 ≤ v) : wat4 (put4 zs k v) k = v := by
  obtain ⟨e0, e1⟩ := wat_put4 zs k v h hv
  unfold wat4; rw [e0, e1]; omega
theorem putAt4_nat (zs : List Int) (k : Nat) (v : Int) (hk : k + 3 < zs.length) : putAt4 zs (k : Int) v = put4 zs k v := by
  unfold putAt4; rw [if_pos (by omega), Int.toNat_natCast]
end Go.Proofs.YtehdgndbloaljaaDoor
