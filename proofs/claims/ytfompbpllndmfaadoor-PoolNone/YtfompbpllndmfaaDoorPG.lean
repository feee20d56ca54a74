/- Package pool: the numbers from low to high, one after the other. -/
import Derived.Test.YtfompbpllndmfaaDoorPF
namespace Go.Proofs.YtfompbpllndmfaaDoor
open Go.RowKit Go.Shelf
set_option maxRecDepth 100000
attribute [local go_sem] Oper.semAt_some
set_option linter.unusedVariables false
set_option linter.unusedSimpArgs false

theorem alln_gen (n : Nat) (hn : 2 ≤ n) (B b n₀ base : Nat) (low high : Int) (ws : Nat → Nat) (w : World) (hB : w.heap[B]? = some (.cells #[.pointer (some ⟨b, 2, none⟩)] 62 (0, 0))) (hn0 : n₀ ≤ w.heap.size) (hT : PB base w b low high ws) (hb : b < n₀) (hz : Dz w) (hz0 : 0 < n₀) :
    GenX Fence.wide n Tryd.prog 33 #[.pointer (some ⟨B, 0, none⟩)] encN (KN n₀ B) (XN ws) (fun xs => xs = els ws) (fun _ => True) w := fun l J Jx W hW hJ hY h0 =>
  alln_in n hn l B b n₀ base low high ws J Jx hJ hY W (later_keep hW hB) (Nat.le_trans hn0 (Below.size hW)) (hT.later hW) hb (hz.later hW) hz0 h0

theorem wrapi (x : Int) (h1 : -9223372036854775808 ≤ x) (h2 : x ≤ 9223372036854775807) : IntKind.i64.wrap x = x := by
  simp [IntKind.wrap, IntKind.signed, IntKind.bits]
  omega

theorem wp_calm {P : Program} {c : Code} {Q : Exit → Act → World → Prop} {a : Act} {w : World} (h : c.wp P (fun e a w => e = .normal ∧ Q .normal a w) a w) : c.wp P Q a w := wp_mono h (fun e a w h => by obtain ⟨rfl, h⟩ := h; exact h)

/-- Numbers from low to high. -/
def nums (low high : Nat) : List Nat := (List.range (high - low + 1)).map (fun i => low + i)
def XM (low high : Nat) (pre : List Nat) (x : Nat) (_V : World) : Prop := ∃ rest, pre ++ x :: rest = nums low high
/-- What lies below stays, one block more, and a pool's ends. -/
def KL (n₀ B b : Nat) (A C : World) : Prop := KN n₀ B A C ∧ ∀ i, i < 2 → ∀ v, A.cell? ⟨b, i, none⟩ = some v → C.cell? ⟨b, i, none⟩ = some v
theorem KL.refl (n₀ B b : Nat) (A : World) : KL n₀ B b A A := ⟨KN.refl _ _ _, fun i _ v h => h⟩
theorem KL.trans {n₀ B b : Nat} {A C D : World} (h : KL n₀ B b A C) (k : KL n₀ B b C D) : KL n₀ B b A D := ⟨h.1.trans k.1, fun i hi v hv => k.2 i hi v (h.2 i hi v hv)⟩
theorem KL.of {n₀ B b : Nat} {A C : World} (l : Later A C) (h : n₀ ≤ A.heap.size) : KL n₀ B b A C := ⟨KN.of l h, fun i _ v hv => l.cell hv⟩

set_option maxRecDepth 100000 in
set_option maxHeartbeats 2000000 in
theorem numb_in (n : Nat) (hn : 2 ≤ n) (l B b n₀ low high : Nat) (hlh : low ≤ high) (hh : high < 65536) (J Jx : List Nat → World → Prop)
    (hJ : ∀ s A B, J s A → Later A B → J s B)
    (hY : ∀ pre x V, J pre V → XM low high pre x V → YieldAt Fence.wide (n - 1) Tryd.prog l (encN x) V fun e V' => (e = .returned (.bool true) ∧ J (pre ++ [x]) V' ∧ KL n₀ B b V V') ∨ (e = .returned (.bool false) ∧ Jx (pre ++ [x]) V'))
    (W : World) (hB : W.heap[B]? = some (.cells #[.pointer (some ⟨b, 0, none⟩)] 24 (0, 0))) (hn0 : n₀ ≤ W.heap.size) (c0 : W.cell? ⟨b, 0, none⟩ = some (.int .u16 (low : Int))) (c1 : W.cell? ⟨b, 1, none⟩ = some (.int .u16 (high : Int))) (h0 : J [] W) :
    CallsIn Fence.wide n Tryd.prog 35 #[.func (.yield l) #[] #[], .pointer (some ⟨B, 0, none⟩)] W fun e W' => (∃ v, e = .returned v) ∧ ((∃ xs, xs = nums low high ∧ J xs W') ∨ (∃ pre, True ∧ Jx pre W')) := by
  have HBX := hide hB
  have HC0 := hide c0
  have HC1 := hide c1
  clear hB c0 c1
  have hlh' : (low : Int) ≤ (high : Int) := by omega
  have hh' : (high : Int) < 65536 := by omega
  refine callsIn_of_wp Tryd.func35 rfl trivial ?_ rfl
  simp only [Tryd.ntmps35, List.size_toArray, List.length_cons, List.length_nil, Nat.reduceAdd, Nat.reduceSub, Array.replicate_succ, Array.replicate_zero, List.push_toArray, List.append_toArray, List.nil_append, List.cons_append]
  refine wpIn_seq ?_
  refine wpIn_wide.2 (wp_calm ?_)
  refine anyR_begin (R := Later) Later.pre Later.drew 13 rfl (by kernel_rfl) (fun V1 hV1 => ?_)
  have q0 : ∀ v1, Later V1 v1 → v1.cell? ⟨b, 0, none⟩ = some (.int .u16 (low : Int)) := fun v1 h => (hV1.trans h).cell HC0.out
  have q1 : ∀ v1, Later V1 v1 → v1.cell? ⟨b, 1, none⟩ = some (.int .u16 (high : Int)) := fun v1 h => (hV1.trans h).cell HC1.out
  have q2 : ∀ v1, Later V1 v1 → ∀ j, v1.cell? ⟨B, j, none⟩ = #[Value.pointer (some ⟨b, 0, none⟩)][j]? := fun v1 h => block_cell (later_keep (hV1.trans h) HBX.out)
  refine anyR_val Later.pre 0 rfl (by kernel_rfl) (by kernel_rfl) (by kernel_rfl) (fun _ _ _ _ h => by cases h.1) rfl ?_; apply Exists.intro; refine ⟨fun w1 hw1 => ?_, ?_⟩; (· (go_simp; rfl)); simp only [Act.put, List.setIfInBounds_toArray, List.set_cons_zero, List.set_cons_succ]
  refine anyR_val Later.pre 1 rfl (by kernel_rfl) (by kernel_rfl) (by kernel_rfl) (fun _ _ _ _ h => by cases h.1) rfl ?_; apply Exists.intro; refine ⟨fun w1 hw1 => ?_, ?_⟩; (· (go_simp; rfl)); simp only [Act.put, List.setIfInBounds_toArray, List.set_cons_zero, List.set_cons_succ]
  refine anyR_val Later.pre 2 rfl (by kernel_rfl) (by kernel_rfl) (by kernel_rfl) (fun _ _ _ _ h => by cases h.1) rfl ?_; apply Exists.intro; refine ⟨fun w1 hw1 => ?_, ?_⟩; (· (go_simp; rfl)); simp only [Act.put, List.setIfInBounds_toArray, List.set_cons_zero, List.set_cons_succ]
  refine anyR_val Later.pre 3 rfl (by kernel_rfl) (by kernel_rfl) (by kernel_rfl) (fun _ _ _ _ h => by cases h.1) rfl ?_; apply Exists.intro; refine ⟨fun w1 hw1 => ?_, ?_⟩; (· (go_simp; rfl)); simp only [Act.put, List.setIfInBounds_toArray, List.set_cons_zero, List.set_cons_succ]
  refine anyR_val Later.pre 4 rfl (by kernel_rfl) (by kernel_rfl) (by kernel_rfl) (fun _ _ _ _ h => by cases h.1) rfl ?_; apply Exists.intro; refine ⟨fun w1 hw1 => ?_, ?_⟩; (· (go_simp; rfl)); simp only [Act.put, List.setIfInBounds_toArray, List.set_cons_zero, List.set_cons_succ]
  refine anyR_val Later.pre 5 rfl (by kernel_rfl) (by kernel_rfl) (by kernel_rfl) (fun _ _ _ _ h => by cases h.1) rfl ?_; apply Exists.intro; refine ⟨fun w1 hw1 => ?_, ?_⟩; (· (go_simp; rfl)); simp only [Act.put, List.setIfInBounds_toArray, List.set_cons_zero, List.set_cons_succ]
  refine anyR_val Later.pre 6 rfl (by kernel_rfl) (by kernel_rfl) (by kernel_rfl) (fun _ _ _ _ h => by cases h.1) rfl ?_; apply Exists.intro; refine ⟨fun w1 hw1 => ?_, ?_⟩; (· (go_simp; rfl)); simp only [Act.put, List.setIfInBounds_toArray, List.set_cons_zero, List.set_cons_succ]
  refine anyR_val Later.pre 7 rfl (by kernel_rfl) (by kernel_rfl) (by kernel_rfl) (fun _ _ _ _ h => by cases h.1) rfl ?_; apply Exists.intro; refine ⟨fun w1 hw1 => ?_, ?_⟩; (· (go_simp; rfl)); simp only [Act.put, List.setIfInBounds_toArray, List.set_cons_zero, List.set_cons_succ]
  refine anyR_val Later.pre 8 rfl (by kernel_rfl) (by kernel_rfl) (by kernel_rfl) (fun _ _ _ _ h => by cases h.1) rfl ?_; apply Exists.intro; refine ⟨fun w1 hw1 => ?_, ?_⟩; (· (go_simp; rfl)); simp only [Act.put, List.setIfInBounds_toArray, List.set_cons_zero, List.set_cons_succ]
  refine anyR_val Later.pre 9 rfl (by kernel_rfl) (by kernel_rfl) (by kernel_rfl) (fun _ _ _ _ h => by cases h.1) rfl ?_; apply Exists.intro; refine ⟨fun w1 hw1 => ?_, ?_⟩; (· (go_simp; rfl)); simp only [Act.put, List.setIfInBounds_toArray, List.set_cons_zero, List.set_cons_succ]
  refine anyR_val Later.pre 10 rfl (by kernel_rfl) (by kernel_rfl) (by kernel_rfl) (fun _ _ _ _ h => by cases h.1) rfl ?_; apply Exists.intro; refine ⟨fun w1 hw1 => ?_, ?_⟩; (· (go_simp; rfl)); simp only [Act.put, List.setIfInBounds_toArray, List.set_cons_zero, List.set_cons_succ]
  refine anyR_val Later.pre 11 rfl (by kernel_rfl) (by kernel_rfl) (by kernel_rfl) (fun _ _ _ _ h => by cases h.1) rfl ?_; apply Exists.intro; refine ⟨fun w1 hw1 => ?_, ?_⟩; (· (go_simp; rfl)); simp only [Act.put, List.setIfInBounds_toArray, List.set_cons_zero, List.set_cons_succ]
  refine anyR_val Later.pre 12 rfl (by kernel_rfl) (by kernel_rfl) (by kernel_rfl) (fun _ _ _ _ h => by cases h.1) rfl ?_; apply Exists.intro; refine ⟨fun w1 hw1 => ?_, ?_⟩; (· (go_simp; rfl)); simp only [Act.put, List.setIfInBounds_toArray, List.set_cons_zero, List.set_cons_succ]
  refine anyR_done (by kernel_rfl) (fun V2 hV2 => ⟨rfl, ?_⟩)
  have L2 := hV1.trans hV2
  clear q0 q1 q2 hlh' hh'
  have hwv : IntKind.i64.wrap (IntKind.i64.wrap (IntKind.i64.wrap (high : Int) - IntKind.i64.wrap (low : Int)) + 1) = (high : Int) - (low : Int) + 1 := by
    rw [wrapi (high : Int) (by omega) (by omega), wrapi (low : Int) (by omega) (by omega), wrapi ((high : Int) - (low : Int)) (by omega) (by omega), wrapi ((high : Int) - (low : Int) + 1) (by omega) (by omega)]
  rw [hwv]
  clear hwv
  generalize IntKind.i64.wrap (IntKind.i64.wrap (high : Int) - IntKind.i64.wrap (low : Int)) = z0 at *
  generalize IntKind.i64.wrap (high : Int) = z1 at *
  generalize IntKind.i64.wrap (low : Int) = z2 at *
  generalize hq : (high : Int) - (low : Int) + 1 = q at *
  have HQ := hide hq
  clear hq
  have hkl2 : KL n₀ B b W V2 := KL.of L2 hn0
  have hJ2 := hJ _ _ _ h0 L2
  gi_wp2
  gi_loopw [16] (fun i wr => ∃ p : Nat, p ≤ high - low + 1 ∧ i = .int .i64 (p : Int) ∧ J ((nums low high).take p) wr ∧ KL n₀ B b W wr) (fun i _ => high - low + 1 - (intOf i).toNat)
  case atStart => exact ⟨0, by omega, rfl, hJ2, hkl2⟩
  case round =>
    obtain ⟨p, hp, rfl, hJp, hkp⟩ := hrel
    have hnl : (nums low high).length = high - low + 1 := by unfold nums; simp
    by_cases hlt : p < high - low + 1
    · have hlt' : (p : Int) < q := by have := HQ.out; omega
      have hpl : p < (nums low high).length := by omega
      have hnp : (nums low high)[p] = low + p := by
        have h2 : (nums low high)[p]? = some (low + p) := by unfold nums; rw [List.getElem?_map, List.getElem?_range hlt]; rfl
        rw [List.getElem?_eq_getElem hpl] at h2
        exact Option.some.inj h2
      have hat : XM low high ((nums low high).take p) (low + p) wr := ⟨(nums low high).drop (p + 1), by rw [← hnp, ← List.drop_eq_getElem_cons hpl, List.take_append_drop]⟩
      have htk : (nums low high).take (p + 1) = (nums low high).take p ++ [low + p] := by rw [← hnp, List.take_append_getElem hpl]
      obtain ⟨fn, tmps, assign, body, hy, hR⟩ := hY _ _ _ hJp hat
      dsimp only [encN] at hy
      rw [show ((low + p : Nat) : Int) = (low : Int) + (p : Int) from by omega] at hy
      have HTK := hide htk
      have HR := hide hR
      have c0 := hkp.2 0 (by omega) _ HC0.out
      have hbx := block_cell (hkp.1.2 _ HBX.out)
      have HLT := hide hlt
      have hw6 : IntKind.u16.wrap ((low : Int) + IntKind.u16.wrap (p : Int)) = (low : Int) + (p : Int) := by
        have e1 : ∀ z : Int, IntKind.u16.wrap z = z % 65536 := fun z => by simp [IntKind.wrap, IntKind.signed, IntKind.bits]
        rw [e1, e1]
        omega
      have HW6 := hide hw6
      clear hw6
      clear hat htk hR hnp hpl hnl hlt hp
      gi_wp2
      rw [HW6.out]
      simp only [hy]
      refine ⟨fun _ => by omega, HR.out.mono ?_⟩
      rintro e W3 (⟨rfl, hJ3, hk3⟩ | ⟨rfl, hJx3⟩)
      · have hp6 : (p : Int) < 65536 := by have := HLT.out; omega
        gi_wp2
        go_roundw
        case rel => exact ⟨p + 1, by have := HLT.out; omega, by go_num, by rw [HTK.out]; exact hJ3, hkp.trans hk3⟩
        case measure => simp [intOf]; have := HLT.out; omega
      · gi_wp2
        refine bodyPost_ret (results_none rfl _ _ _) rfl ?_
        exact ⟨⟨_, rfl⟩, .inr ⟨_, trivial, hJx3⟩⟩
    · obtain rfl : p = high - low + 1 := by omega
      have hge : ¬ ((high - low + 1 : Nat) : Int) < q := by have := HQ.out; omega
      rw [List.take_of_length_le (by omega)] at hJp
      have HJ := hide hJp
      clear hJp
      clear hlt hp hnl
      generalize high - low + 1 = q2 at *
      gi_wp2
      go_end0
      first | exact ⟨⟨_, rfl⟩, .inl ⟨_, rfl, HJ.out⟩⟩ | exact ⟨⟨_, rfl⟩, .inl HJ.out⟩

theorem numb_gen (n : Nat) (hn : 2 ≤ n) (B b n₀ low high : Nat) (hlh : low ≤ high) (hh : high < 65536) (w : World) (hB : w.heap[B]? = some (.cells #[.pointer (some ⟨b, 0, none⟩)] 24 (0, 0))) (hn0 : n₀ ≤ w.heap.size) (c0 : w.cell? ⟨b, 0, none⟩ = some (.int .u16 (low : Int))) (c1 : w.cell? ⟨b, 1, none⟩ = some (.int .u16 (high : Int))) :
    GenX Fence.wide n Tryd.prog 35 #[.pointer (some ⟨B, 0, none⟩)] encN (KL n₀ B b) (XM low high) (fun xs => xs = nums low high) (fun _ => True) w := fun l J Jx W hW hJ hY h0 =>
  numb_in n hn l B b n₀ low high hlh hh J Jx hJ hY W (later_keep hW hB) (Nat.le_trans hn0 (Below.size hW)) ((show Later w W from hW).cell c0) ((show Later w W from hW).cell c1) h0
end Go.Proofs.YtfompbpllndmfaaDoor
