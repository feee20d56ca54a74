/- Package ipv4: a packet's header. -/
import Derived.RegionTactic
import Derived.BigRegion
import Derived.Deep.RegionLaw
import Derived.Test.YtohflohdbkamnaaGreatDoorV1
namespace Go.Proofs.YtohflohdbkamnaaGreatDoor
open Go.RowKit Go.Shelf
set_option maxRecDepth 100000

/-- append(v, x...), v of the call's own, x bytes wherever they lie: what it yields. -/
theorem run_app {P : Program} (w : World) (t ty e : TypeId) (base : Nat) (i : TypeInfo) (ht : P.underlying t = some (.slice e)) (hi : P.info? e = some i) (hz : i.zero = some (.int .u8 0)) (hsize : i.size = 1) (hby : i.bytes = 1)
    (v : Value) (ys : List Int) (hown : w.ownsRow base e 1 v ys.length (ys.map (Value.int .u8)))
    (n₀ : Nat) (sx : Value) (zs : List Int) (hI : Rd n₀ w sx zs) (hbd : ys.length + zs.length ≤ 140737488355328) (hbase : base ≤ w.heap.size) :
    ∃ v' w', (Builtin.append_ #[t, t] ty #[v, sx]).run P w = .ok v' w' ∧ w'.ownsRow base e 1 v' (ys ++ zs).length ((ys ++ zs).map (Value.int .u8)) ∧ w.grownBy w' v.ownBlock := by
  rcases hI with ⟨ao, cap, rfl, rfl, hm, hn⟩ | ⟨b, off, cap, rfl, hne, hl, hm, hb, hc⟩
  · cases ao with
    | none =>
      obtain rfl := hn rfl
      exact ⟨v, w, run_append_owned_none w base t ty e i 1 ht hi v _ _ hown, by simpa using hown, ⟨rfl, rfl, rfl, Nat.le_refl _, fun _ _ _ => rfl⟩⟩
    | some ad =>
      obtain ⟨v', w', hr, h2, h3, _⟩ := run_append_own (P := P) w base t ty e i (.int .u8 0) 1 1 ht hi hz hsize hby rfl (by decide) v _ _ hown ad 0 cap [] rfl (fun j u hj => by simp at hj) (fun u hu => by simp at hu) (by unfold maxLen; omega) (by omega) hbase
      exact ⟨v', w', hr, by simpa using h2, h3⟩
  · obtain ⟨v', w', hr, h2, h3, _⟩ := run_append_own (P := P) w base t ty e i (.int .u8 0) 1 1 ht hi hz hsize hby rfl (by decide) v _ _ hown ⟨b, off, none⟩ zs.length cap (zs.map (Value.int .u8)) (by simp)
      (fun j u hj => by
        have hj' : j < zs.length := by have := (List.getElem?_eq_some_iff.1 hj).1; simpa using this
        rw [show (⟨b, off, none⟩ : Addr).add j = ⟨b, off + j, none⟩ from by unfold Addr.add; split <;> simp_all, hc j hj', ← hj]
        simp [hj'])
      (fun u hu => by obtain ⟨z, _, rfl⟩ := List.mem_map.1 hu; rfl) (by unfold maxLen; omega) (by omega) hbase
    exact ⟨v', w', hr, by simpa using h2, h3⟩

end Go.Proofs.YtohflohdbkamnaaGreatDoor
