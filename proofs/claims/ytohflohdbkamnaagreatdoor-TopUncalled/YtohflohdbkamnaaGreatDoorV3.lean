/- Package ipv4: Build of a packet. -/
import Derived.ArgAppend
import Derived.Test.YtohflohdbkamnaaGreatDoorV2
namespace Go.Proofs.YtohflohdbkamnaaGreatDoor
open Go.RowKit Go.Shelf
set_option maxRecDepth 100000

theorem app_nil {P : Program} (w : World) (t ty e : TypeId) (i : TypeInfo) (ht : P.underlying t = some (.slice e)) (hi : P.info? e = some i) (g n : Nat) : (Builtin.append_ #[t, t] ty #[.slice (some ⟨g, 0, none⟩) n n, .slice none 0 0]).run P w = .ok (.slice (some ⟨g, 0, none⟩) n n) w := by
  simp [Builtin.append_, run_underlying ht, sizeOf, typeInfo, hi, Builtin.lenOf, Builtin.firstCells, storeCells]

/-- append onto bytes of one's own whose capacity is their length. -/
theorem run_app_ow {P : Program} (w : World) (t ty : TypeId) (base : Nat) (i : TypeInfo) (ht : P.underlying t = some (.slice 5)) (hi : P.info? 5 = some i) (hz : i.zero = some (.int .u8 0)) (hsize : i.size = 1) (hby : i.bytes = 1)
    (a : Option Addr) (n : Nat) (ys : List Int) (hO : Ow base w (.slice a n n) ys) (hne : 0 < ys.length)
    (n₀ : Nat) (sx : Value) (zs : List Int) (hI : Rd n₀ w sx zs) (hbd : ys.length + zs.length ≤ 140737488355328) (hbase : base ≤ w.heap.size) :
    ∃ v' w', (Builtin.append_ #[t, t] ty #[.slice a n n, sx]).run P w = .ok v' w' ∧ Ow base w' v' (ys ++ zs) ∧ Below w.heap.size w w' := by
  obtain ⟨g, rfl, rfl, hg, hcf, _⟩ := hO.at hne
  rcases hI with ⟨ao, cap, rfl, rfl, hm, hn⟩ | ⟨b, off, cap, rfl, hze, hl, hm, hb, hc⟩
  · refine ⟨.slice (some ⟨g, 0, none⟩) ys.length ys.length, w, ?_, by rw [List.append_nil]; exact hO, Below.refl _ _⟩
    cases ao with
    | none =>
      obtain rfl := hn rfl
      exact app_nil w t ty 5 i ht hi g _
    | some ad =>
      have := run_append_room_cells (P := P) w t ty 5 i ht hi g 0 ys.length ys.length ad 0 cap [] (by simp) (fun j u hj => by simp at hj) (fun u hu => by simp at hu) (by omega) (fun j hj => by simp at hj) (fun j hj => by simp at hj)
      exact this
  · have hz0 : 0 < zs.length := by cases zs with | nil => exact absurd rfl hze | cons _ _ => simp
    obtain ⟨v', w', hr, h2, h3⟩ := run_append_arg_grows (P := P) w t ty 5 i (.int .u8 0) 1 1 ht hi hz hsize hby rfl (by decide) ⟨g, 0, none⟩ ys.length ys.length (ys.map (Value.int .u8)) (by simp)
      (fun j u hj => by
        have hj' : j < ys.length := by have := (List.getElem?_eq_some_iff.1 hj).1; simpa using this
        rw [show (⟨g, 0, none⟩ : Addr).add j = ⟨g, j, none⟩ from by unfold Addr.add; split <;> simp_all, (hcf j hj').1, ← hj]
        simp [hj'])
      ⟨b, off, none⟩ zs.length cap (zs.map (Value.int .u8)) (by simp)
      (fun j u hj => by
        have hj' : j < zs.length := by have := (List.getElem?_eq_some_iff.1 hj).1; simpa using this
        rw [show (⟨b, off, none⟩ : Addr).add j = ⟨b, off + j, none⟩ from by unfold Addr.add; split <;> simp_all, hc j hj', ← hj]
        simp [hj'])
      (by omega) (by unfold maxLen; omega) (by omega)
    rw [← List.map_append] at h2
    exact ⟨v', w', hr, (Ow.of_row h2).mono hbase, (Below.refl _ w).grown h3 (Nat.le_refl _) (fun _ e => by cases e)⟩

end Go.Proofs.YtohflohdbkamnaaGreatDoor
