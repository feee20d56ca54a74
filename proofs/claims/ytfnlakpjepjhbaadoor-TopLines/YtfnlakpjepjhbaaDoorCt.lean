/- Package slices: Grow of nothing, Concat of slices of bytes. -/
import Derived.Lib.AppendZeros
import Derived.Deep.Cut
import Derived.Test.YtfnlakpjepjhbaaDoorRt
import Derived.Test.YtfnlakpjepjhbaaDoorCA
namespace Go.Proofs.YtfnlakpjepjhbaaDoor
open Go.RowKit Go.Shelf
set_option maxRecDepth 100000
set_option linter.unusedVariables false
set_option linter.unusedSimpArgs false

set_option maxHeartbeats 2000000 in
theorem grow_pos (n : Nat) (w : World) (h0 : 0 < n) (hn : n ≤ 140737488355328) :
    Calls Tryd.prog 38 #[.slice none 0 0, .int .i64 n] w fun e w' => ∃ v, e = .returned v ∧ w'.ownsRow w.heap.size 5 1 v 0 [] ∧ Below w.heap.size w w' := by
  obtain ⟨i0, hi, hz0, hz1, hz2⟩ := info_parts info_u8
  have hcap := grownCap_le_maxLen w n 0 5 (by unfold maxLen; omega)
  have hcap0 := grownCap_ge w n 0 5
  have hr := Lib.run_append_nil_zeros (P := Tryd.prog) w 26 3 26 5 i0 (.int .u8 0) .i64 .i64 Tryd.underlying26 Tryd.underlying3 hi hz0 n h0 (by omega) (by omega) (by rw [hz2]; omega)
  have hsz : (Builtin.zeroCells (Value.int .u8 0).cells n ++ Builtin.zeroCells (Value.int .u8 0).cells (grownCap w n 0 5 - n)).size = grownCap w n 0 5 * 1 := by
    simp [Builtin.zeroCells, Value.cells]
    omega
  have ho := World.ownsRow_made (base := w.heap.size) (e := 5) (size := 1) w.drew (Builtin.zeroCells (Value.int .u8 0).cells n ++ Builtin.zeroCells (Value.int .u8 0).cells (grownCap w n 0 5 - n)) (grownCap w n 0 5) (Nat.le_refl _) hcap hsz
  have hb : Below w.heap.size w (w.drew.alloc (.cells (Builtin.zeroCells (Value.int .u8 0).cells n ++ Builtin.zeroCells (Value.int .u8 0).cells (grownCap w n 0 5 - n)) 5)) := (Below.refl _ _).drew.alloc (Nat.le_refl _) _
  have HO := hide ho
  have HB := hide hb
  clear ho hb hsz
  generalize w.drew.alloc (.cells (Builtin.zeroCells (Value.int .u8 0).cells n ++ Builtin.zeroCells (Value.int .u8 0).cells (grownCap w n 0 5 - n)) 5) = w1 at *
  generalize grownCap w n 0 5 = cp at *
  have hcp : cp ≤ 9223372036854775807 := hcap
  clear hcap
  go_enter Tryd.func38, Tryd.ntmps38
  go_wp2_with (at_builtin; refine Lib.wpList_append_run _ rfl (.tmp 20) (.tmp 21) _ _ rfl (.slice none 0 0) (.int .i64 n) rfl rfl _ _ hr ?_; clear hr)
  go_ret
  exact ⟨_, rfl, HO.out, HB.out⟩

set_option maxHeartbeats 2000000 in
theorem grow_any (n : Nat) (w : World) (hn : n ≤ 140737488355328) :
    Calls Tryd.prog 38 #[.slice none 0 0, .int .i64 n] w fun e w' => ∃ v, e = .returned v ∧ w'.ownsRow w.heap.size 5 1 v 0 [] ∧ Below w.heap.size w w' := by
  by_cases h0 : 0 < n
  · exact grow_pos n w h0 hn
  obtain rfl : n = 0 := by omega
  go_enter Tryd.func38, Tryd.ntmps38
  go_wp2_with fail
  go_ret
  exact ⟨_, rfl, World.ownsRow_nil _ _ _ _, Below.refl _ _⟩

set_option maxHeartbeats 2000000 in
/-- Slices put one behind the other. -/
theorem concat_any (pb cap : Nat) (svs : List Value) (zss : List (List Int)) (w : World) (hn : svs.length = zss.length) (hcap : svs.length ≤ cap) (hk : svs.length ≤ 1000) (hl : zss.flatten.length ≤ 140737488355328)
    (hc : ∀ j, j < svs.length → w.cell? ⟨pb, j, none⟩ = some (svs[j]?.getD undef)) (hR : ∀ j, j < svs.length → Rd w.heap.size w (svs[j]?.getD undef) (zss[j]?.getD [])) :
    Calls Tryd.prog 22 #[.slice (some ⟨pb, 0, none⟩) svs.length cap] w fun e w' => ∃ v, e = .returned v ∧ w'.ownsRow w.heap.size 5 1 v zss.flatten.length (zss.flatten.map (Value.int .u8)) ∧ Below w.heap.size w w' := by
  obtain ⟨i0, hi, hz0, hz1, hz2⟩ := info_parts info_u8
  have HN := hide hn
  clear hn
  have HFL := hide (fun k (hlt : k < svs.length) => show (zss.take (k + 1)).flatten = (zss.take k).flatten ++ (zss[k]?.getD []) ∧ (zss.take (k + 1)).flatten.length ≤ zss.flatten.length from by
    have hkz : k < zss.length := by have := HN.out; omega
    have e1 : zss.take (k + 1) = zss.take k ++ [zss[k]?.getD []] := by
      rw [List.take_succ_eq_append_getElem hkz, List.getElem?_eq_getElem hkz]
      rfl
    refine ⟨by rw [e1, List.flatten_append, List.flatten_cons, List.flatten_nil, List.append_nil], ?_⟩
    conv => rhs; rw [← List.take_append_drop (k + 1) zss, List.flatten_append]
    simp)
  go_enter Tryd.func22, Tryd.ntmps22
  go_wp2
  go_loopw [3, 11] (fun v i wr => ∃ k : Nat, k ≤ svs.length ∧ i = .int .i64 (k : Int) ∧ v = .int .i64 ((zss.take k).flatten.length : Nat) ∧ wr = w)
    (fun _ i _ => svs.length - (intOf i).toNat)
  case atStart => exact ⟨0, by omega, rfl, rfl, rfl⟩
  case round =>
    obtain ⟨k, hk1, rfl, rfl, rfl⟩ := hrel
    by_cases hlt : k < svs.length
    · have hcx := hc k hlt
      have hRx := hR k hlt
      obtain ⟨hfl, hle⟩ := HFL.out k hlt
      have hlen : (zss.take k).flatten.length + (zss[k]?.getD []).length ≤ 140737488355328 := by rw [← List.length_append, ← hfl]; omega
      have HF : Hid ((zss.take (k + 1)).flatten.length = (zss.take k).flatten.length + (zss[k]?.getD []).length) := by show _ = _; rw [hfl, List.length_append]
      clear hfl hle hc hR
      generalize svs[k]?.getD undef = sv at *
      generalize zss[k]?.getD [] = zs at *
      generalize (zss.take k).flatten.length = sz at *
      obtain ⟨a, cp, rfl, hl1, hm1⟩ := hRx.slice
      have hlt' : (k : Int) < svs.length := by omega
      go_wp2_with fail
      go_roundw
      case rel => exact ⟨k + 1, by omega, by go_num, by rw [HF.out]; go_num, trivial⟩
      case measure => simp [intOf]; omega
    · obtain rfl : k = svs.length := by omega
      obtain ⟨w0, hw0⟩ : ∃ x, x = wr := ⟨_, rfl⟩
      subst hw0
      rw [HN.out, List.take_length]
      rw [HN.out] at hc hR
      have hgr := hide (grow_any zss.flatten.length w0 hl)
      have HL := hide hl
      clear hl
      generalize hnn : zss.flatten.length = nn at hgr HL ⊢
      have HQ := hide hnn
      clear hnn
      go_upto_region 9 with fail
      go_wp2_with fail
      refine hgr.out.mono ?_
      rintro e w1 ⟨nv, rfl, hown1, hb1⟩
      go_wp2_with fail
      go_loopw [6, 27] (fun v i wq => ∃ k : Nat, k ≤ zss.length ∧ i = .int .i64 (k : Int) ∧ wq.ownsRow w0.heap.size 5 1 v (zss.take k).flatten.length ((zss.take k).flatten.map (Value.int .u8)) ∧ Below w0.heap.size w0 wq)
        (fun _ i _ => zss.length - (intOf i).toNat)
      case atStart => exact ⟨0, by omega, rfl, hown1, hb1⟩
      case round =>
        obtain ⟨k, hk1, rfl, hown, hnx⟩ := hrel
        by_cases hlt : k < zss.length
        · have hck := hc k hlt
          have hpb : pb < w0.heap.size := World.block_lt_of_cell? w0 ⟨pb, k, none⟩ hck
          have hcx : wr.cell? ⟨pb, k, none⟩ = some (svs[k]?.getD undef) := (hnx.cell (p := ⟨pb, k, none⟩) hpb).trans hck
          have hRx : Rd w0.heap.size wr (svs[k]?.getD undef) (zss[k]?.getD []) := (hR k hlt).below hnx
          obtain ⟨hfl, hle⟩ := HFL.out k (by rw [HN.out]; exact hlt)
          have HF := hide hfl
          have hlen : (zss.take k).flatten.length + (zss[k]?.getD []).length ≤ 140737488355328 := by rw [← List.length_append, ← hfl]; exact Nat.le_trans hle (by rw [HQ.out]; exact HL.out)
          clear hfl hle hc hR hck
          generalize svs[k]?.getD undef = sv at *
          generalize zss[k]?.getD [] = zs at *
          obtain ⟨a, cp, rfl, hl1, hm1⟩ := hRx.slice
          have hlt' : (k : Int) < zss.length := by omega
          have hk' : zss.length ≤ 1000 := by rw [← HN.out]; exact hk
          have HL1 := hide (show k + 1 ≤ zss.length from hlt)
          go_wp2_with (at_builtin; refine wpList_app _ rfl (.tmp 31) (.tmp 32) 26 rfl w0.heap.size 5 i0 Tryd.underlying26 hi hz0 hz1 hz2 _ _ rfl hown w0.heap.size _ zs rfl hRx hlen hnx.size ?_; intro v1 w1 hown1 hg1; have hb1 := below_app hnx hown hg1 (Nat.le_refl _) hnx.size; clear hg1 hown)
          go_roundw
          case rel => exact ⟨k + 1, HL1.out, by go_num, by rw [HF.out]; exact hown1, hb1⟩
          case measure => have := HL1.out; simp [intOf]; omega
        · obtain rfl : k = zss.length := by omega
          rw [List.take_length] at hown
          go_wp2_with fail
          go_ret
          exact ⟨_, rfl, hown, hnx⟩
end Go.Proofs.YtfnlakpjepjhbaaDoor
