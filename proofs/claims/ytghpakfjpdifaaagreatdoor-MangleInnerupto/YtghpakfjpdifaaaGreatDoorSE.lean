/- Package segs: the packet with a datagram. -/
import Derived.Test.YtghpakfjpdifaaaGreatDoorSB
import Derived.Test.YtghpakfjpdifaaaGreatDoorSC
import Derived.Test.YtghpakfjpdifaaaGreatDoorSD
namespace Go.Proofs.YtghpakfjpdifaaaGreatDoor
open Go.RowKit Go.Shelf
set_option maxRecDepth 100000
set_option linter.unusedVariables false
set_option linter.unusedSimpArgs false

theorem Ow.aside {base mb : Nat} {W W' : World} {v : Value} {zs : List Int} {cur : Array Value} {t : TypeId} (h : Ow base W v zs) (hm : W.heap[mb]? = some (.cells cur t (0, 0))) (ht : t ≠ 5) (hb : But (fun b => b = mb) W W') : Ow base W' v zs := by
 rcases h with h | ⟨g, cap, c, h1, h2, h3, h4, h5, h6, h7⟩
 ·exact .inl h
 ·refine .inr ⟨g, cap, c, h1, h2, h3, h4, h5, (hb.block g (bl9 h6) (fun e => ?_)).trans h6, h7⟩
  subst e
  rw [hm] at h6
  simp at h6
  exact ht h6.2


/-- A datagram's bytes, 0 for its check sum; with it. -/
def udp0 (sp dp : Int) (zm : List Int) : List Int := [sp, dp, (8 + (zm.length : Int)) % 65536, 0].flatMap b2 ++ zm
def udp (sp dp : Int) (bare : Bool) (src dst : Int) (zm : List Int) : List Int := if bare then udp0 sp dp zm else Mt.put2 (udp0 sp dp zm) 6 (usm src dst 17 (udp0 sp dp zm))
theorem udp0_length (sp dp : Int) (zm : List Int) : (udp0 sp dp zm).length = 8 + zm.length := by simp [udp0, b2]; omega
theorem udp_length (sp dp : Int) (bare : Bool) (src dst : Int) (zm : List Int) : (udp sp dp bare src dst zm).length = 8 + zm.length := by unfold udp; split <;> simp [Mt.put2_length, udp0_length]
theorem By_udp0 (sp dp : Int) (zm : List Int) (h1 : 0 ≤ sp ∧ sp ≤ 65535) (h2 : 0 ≤ dp ∧ dp ≤ 65535) (hB : Mt.By zm) : Mt.By (udp0 sp dp zm) := by
 unfold udp0
 refine Mt.By.append ?_ hB
 simp only [List.flatMap_cons, List.flatMap_nil, b2]
 exact .mk (by omega) (.mk (by omega) (.mk (by omega) (.mk (by omega) (.mk (by omega) (.mk (by omega) (.mk (by omega) (.mk (by omega) .nil)))))))
theorem By_udp (sp dp : Int) (bare : Bool) (src dst : Int) (zm : List Int) (h1 : 0 ≤ sp ∧ sp ≤ 65535) (h2 : 0 ≤ dp ∧ dp ≤ 65535) (hB : Mt.By zm) : Mt.By (udp sp dp bare src dst zm) := by
 unfold udp
 split
 ·exact By_udp0 sp dp zm h1 h2 hB
 ·exact (By_udp0 sp dp zm h1 h2 hB).put2 6 (by have := usm_bd src dst 17 (udp0 sp dp zm); omega)

end Go.Proofs.YtghpakfjpdifaaaGreatDoor
