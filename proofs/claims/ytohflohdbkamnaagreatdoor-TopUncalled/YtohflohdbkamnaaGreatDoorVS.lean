/- Package ipv4's reader: the packet that it takes out. -/
import Derived.Test.YtohflohdbkamnaaGreatDoorVQ
import Derived.Test.YtohflohdbkamnaaGreatDoorHd
namespace Go.Proofs.YtohflohdbkamnaaGreatDoor
open Go.RowKit Go.Shelf
set_option maxRecDepth 100000
set_option linter.unusedVariables false
set_option linter.unusedSimpArgs false

/-- The packet of bytes whose header has h bytes, n in all. -/
def pkt (zs : List Int) (so sd : Value) : Value :=
  .agg #[.int .u8 (zs[1]?.getD 0), .int .u16 (wat zs 4), .bool (decide (16384 ≤ wat zs 6 % 32768)), .int .u8 (zs[8]?.getD 0), .int .u8 (zs[9]?.getD 0), .int .u32 (wat4 zs 12), .int .u32 (wat4 zs 16), so, sd]

theorem Rd.drop {n₀ : Nat} {A : World} {a : Option Addr} {len cap : Nat} {zs : List Int} (k : Nat) (hk : k ≤ len) (h : Rd n₀ A (.slice a len cap) zs) : Rd n₀ A (sliced a k len cap 1) (zs.drop k) := by
  rcases h with ⟨a', cap', e, hz, hm, hn⟩ | ⟨b, off, cap', e, hne, hl, hm, hb, hc⟩
  · cases e
    obtain rfl : k = 0 := by omega
    subst hz
    cases a with
    | none => exact .inl ⟨none, cap, by simp [sliced], by simp, hm, hn⟩
    | some x => exact .inl ⟨if cap = 0 then some x else (some x).map (·.add (0 * 1)), cap, by simp [sliced], by simp, hm, fun h => by split at h <;> simp at h⟩
  · cases e
    by_cases h0 : k = zs.length
    · subst h0
      exact .inl ⟨if cap = zs.length then some ⟨b, off, none⟩ else (some (⟨b, off, none⟩ : Addr)).map (·.add (zs.length * 1)), cap - zs.length, by simp [sliced], by simp, by omega, fun h => by split at h <;> simp at h⟩
    · refine .inr ⟨b, off + k, cap - k, ?_, ?_, by simp; omega, by omega, hb, fun j hj => ?_⟩
      · simp [sliced]
        rw [if_neg (by omega)]
        unfold Addr.add
        split <;> simp_all
      · intro e
        have := congrArg List.length e
        simp at this
        omega
      · have hj' : k + j < zs.length := by simp at hj; omega
        rw [Nat.add_assoc, hc (k + j) hj']
        simp

theorem Rd.cutAt {n₀ : Nat} {A : World} {b off len cap : Nat} {zs : List Int} (k : Nat) (hk : k ≤ len) (h : Rd n₀ A (.slice (some ⟨b, off, none⟩) len cap) zs) :
    Rd n₀ A (.slice (if cap = k then some ⟨b, off, none⟩ else some ⟨b, off + k, none⟩) (len - k) (cap - k)) (zs.drop k) := by
  have := h.drop k hk
  by_cases hk0 : k = 0
  · subst hk0
    simpa [sliced, Addr.add] using this
  · simpa [sliced, Addr.add, hk0] using this
theorem Ow.but {base : Nat} {E : Nat → Prop} {W W' : World} {sv : Value} {zs : List Int} (h : Ow base W sv zs) (hb : But E W W') (hE : ∀ b, base ≤ b → ¬ E b) : Ow base W' sv zs := by
  rcases h with h | ⟨g, cap, cur, e, hg, h1, h2, h3, h4, h5⟩
  · exact .inl h
  · exact .inr ⟨g, cap, cur, e, hg, h1, h2, h3, (hb.block g (Array.getElem?_eq_some_iff.1 h4).1 (hE g hg)).trans h4, h5⟩

/-- The packet lies in block n₀. -/
def Fin (n₀ : Nat) (zs : List Int) (k n : Nat) (w : World) : Prop :=
  ∃ so sd, w.heap[n₀]? = some (.cells #[.int .u8 (zs[1]?.getD 0), .int .u16 (wat zs 4), .bool (decide (16384 ≤ wat zs 6 % 32768)), .int .u8 (zs[8]?.getD 0), .int .u8 (zs[9]?.getD 0), .int .u32 (wat4 zs 12), .int .u32 (wat4 zs 16), so, sd] 78 (0, 0)) ∧
    Ow (n₀ + 1) w so ((zs.take k).drop 20) ∧ Ow (n₀ + 1) w sd ((zs.take n).drop k)
theorem Fin.later {n₀ : Nat} {zs : List Int} {k n : Nat} {w w' : World} (l : Later w w') (h : Fin n₀ zs k n w) : Fin n₀ zs k n w' := by
  obtain ⟨so, sd, h1, h2, h3⟩ := h
  exact ⟨so, sd, (l.block n₀ (Array.getElem?_eq_some_iff.1 h1).1).trans h1, h2.below l (Nat.le_refl _), h3.below l (Nat.le_refl _)⟩
theorem KO {E : Nat → Prop} {n₀ k n : Nat} {zs : List Int} {t : TypeId} {w w' : World} (l : Later w w') : Keep E (Wr n₀ 9 t) (Fin n₀ zs k n) w w' := Keep.of (fun _ _ l h => h.later l) (fun _ _ l h => h.later l) l

set_option maxHeartbeats 4000000 in
theorem packet_any (rb : Nat) (sv : Value) (zs : List Int) (k n : Nat) (w : World) (hB : Mt.By zs) (hl : zs.length ≤ 225000000000000) (hI : Rd w.heap.size w sv zs) (h20 : 20 ≤ k) (hkn : k ≤ n) (hle : n ≤ zs.length) (h16 : n ≤ 65535)
    (c0 : w.cell? ⟨rb, 0, none⟩ = some (.int .i64 k)) (c1 : w.cell? ⟨rb, 1, none⟩ = some (.int .i64 n)) (c2 : w.cell? ⟨rb, 2, none⟩ = some sv) :
    Calls Tryz.prog 125 #[.pointer (some ⟨rb, 0, none⟩)] w fun e w' => ∃ so sd, e = .returned (pkt zs so sd) ∧ Ow w.heap.size w' so ((zs.take k).drop 20) ∧ Ow w.heap.size w' sd ((zs.take n).drop k) ∧ Later w w' := by
  obtain ⟨i0, hi, hz0, hz1, hz2⟩ := info_parts info_u8
  obtain ⟨b, off, cap, rfl, hl1, hm1, hb, hc⟩ := hI.cells (by omega)
  have d1 := hc 1 (by omega)
  have d8 := hc 8 (by omega)
  have d9 := hc 9 (by omega)
  have hff := wat_bd hB 6
  have ha := and_keep _ hff
  have HP : ∀ so sd, Hid (pkt zs so sd = .agg #[.int .u8 (zs[1]?.getD 0), .int .u16 (wat zs 4), .bool (decide (16384 ≤ wat zs 6 % 32768)), .int .u8 (zs[8]?.getD 0), .int .u8 (zs[9]?.getD 0), .int .u32 (wat4 zs 12), .int .u32 (wat4 zs 16), so, sd]) := fun _ _ => rfl
  have hne : (bits .and .u16 (wat zs 6) 16384 != 0) = decide (16384 ≤ wat zs 6 % 32768) := by rw [ha]; by_cases h : 16384 ≤ wat zs 6 % 32768 <;> simp [h]
  clear ha
  have hrb : rb < w.heap.size := World.block_lt_of_cell? w ⟨rb, 0, none⟩ c0
  go_enter Tryz.func125, Tryz.ntmps125
  go_wp2_with fail
  refine anyR_begin (R := Keep (fun b => b = w.heap.size) (Wr w.heap.size 9 78) (Fin w.heap.size zs k n)) (Keep.pre _ _ _) (fun w => KO (Later.drew w)) 42 rfl (by kernel_rfl) (fun W1 hW1 => ?_)
  have hbel : ∀ w1, Keep (fun b => b = w.heap.size) (Wr w.heap.size 9 78) (Fin w.heap.size zs k n) W1 w1 → Below w.heap.size w w1 := fun w1 h => ((Below.refl w.heap.size w).alloc (Nat.le_refl _) _).trans ((hW1.trans h).1.below (by simp) (fun k hk e => by omega))
  have hr1 : ∀ w1, Keep (fun b => b = w.heap.size) (Wr w.heap.size 9 78) (Fin w.heap.size zs k n) W1 w1 → Rd w.heap.size w1 (.slice (some ⟨b, off, none⟩) zs.length cap) zs := fun w1 h => hI.below (hbel w1 h)
  have q0 : ∀ w1, Keep (fun b => b = w.heap.size) (Wr w.heap.size 9 78) (Fin w.heap.size zs k n) W1 w1 → w1.cell? ⟨rb, 0, none⟩ = some (.int .i64 k) := fun w1 h => ((hbel w1 h).cell (p := ⟨rb, 0, none⟩) hrb).trans c0
  have q1 : ∀ w1, Keep (fun b => b = w.heap.size) (Wr w.heap.size 9 78) (Fin w.heap.size zs k n) W1 w1 → w1.cell? ⟨rb, 1, none⟩ = some (.int .i64 n) := fun w1 h => ((hbel w1 h).cell (p := ⟨rb, 1, none⟩) hrb).trans c1
  have e1 : ∀ w1, Keep (fun b => b = w.heap.size) (Wr w.heap.size 9 78) (Fin w.heap.size zs k n) W1 w1 → w1.cell? ⟨b, off + 1, none⟩ = some (.int .u8 (zs[1]?.getD 0)) := fun w1 h => ((hbel w1 h).cell (p := ⟨b, off + 1, none⟩) hb).trans d1
  have e8 : ∀ w1, Keep (fun b => b = w.heap.size) (Wr w.heap.size 9 78) (Fin w.heap.size zs k n) W1 w1 → w1.cell? ⟨b, off + 8, none⟩ = some (.int .u8 (zs[8]?.getD 0)) := fun w1 h => ((hbel w1 h).cell (p := ⟨b, off + 8, none⟩) hb).trans d8
  have e9 : ∀ w1, Keep (fun b => b = w.heap.size) (Wr w.heap.size 9 78) (Fin w.heap.size zs k n) W1 w1 → w1.cell? ⟨b, off + 9, none⟩ = some (.int .u8 (zs[9]?.getD 0)) := fun w1 h => ((hbel w1 h).cell (p := ⟨b, off + 9, none⟩) hb).trans d9
  clear d1 d8 d9 c0 c1 c2
  have i9 : (9 : Int) < zs.length := by omega
  have i8 : (8 : Int) < zs.length := by omega
  have i1 : (1 : Int) < zs.length := by omega
  have hkc : k ≤ cap := by omega
  have hnc : n ≤ cap := by omega
  have i20 : (20 : Int) ≤ k := by omega
  have ikn : (k : Int) ≤ n := by omega
  have inc : (n : Int) ≤ cap := by omega
  generalize gz1 : zs[1]?.getD 0 = z1 at *
  have G1 := hide gz1
  clear gz1
  generalize gz8 : zs[8]?.getD 0 = z8 at *
  have G8 := hide gz8
  clear gz8
  generalize gz9 : zs[9]?.getD 0 = z9 at *
  have G9 := hide gz9
  clear gz9
  refine anyR_val (Keep.pre _ _ _) 0 rfl (by kernel_rfl) (by kernel_rfl) (by kernel_rfl) (fun _ _ _ _ h => h) rfl ?_; apply Exists.intro; refine ⟨fun w1 hw1 => ?_, ?_⟩; (· (go_simp; rfl)); simp only [Act.put, List.setIfInBounds_toArray, List.set_cons_zero, List.set_cons_succ]
  refine anyR_val (Keep.pre _ _ _) 1 rfl (by kernel_rfl) (by kernel_rfl) (by kernel_rfl) (fun _ _ _ _ h => h) rfl ?_; apply Exists.intro; refine ⟨fun w1 hw1 => ?_, ?_⟩; (· (go_simp; rfl)); simp only [Act.put, List.setIfInBounds_toArray, List.set_cons_zero, List.set_cons_succ]
  refine anyR_val (Keep.pre _ _ _) 2 rfl (by kernel_rfl) (by kernel_rfl) (by kernel_rfl) (fun _ _ _ _ h => h) rfl ?_; apply Exists.intro; refine ⟨fun w1 hw1 => ?_, ?_⟩; (· (go_simp; rfl)); simp only [Act.put, List.setIfInBounds_toArray, List.set_cons_zero, List.set_cons_succ]
  refine anyR_val (Keep.pre _ _ _) 3 rfl (by kernel_rfl) (by kernel_rfl) (by kernel_rfl) (fun _ _ _ _ h => h) rfl ?_; apply Exists.intro; refine ⟨fun w1 hw1 => ?_, ?_⟩; (· (go_simp; rfl)); simp only [Act.put, List.setIfInBounds_toArray, List.set_cons_zero, List.set_cons_succ]
  refine anyR_take (Keep.pre _ _ _) 4 (.int .u16 (wat zs 4)) rfl (by kernel_rfl) (by kernel_rfl) (by kernel_rfl) (fun _ _ _ h => h) rfl (fun w1 hw1 => goes_call 167 #[.slice (some ⟨b, off, none⟩) zs.length cap, .int .i64 4] (by go_simp) ?_) ?_
  · exact (get16_rd _ zs hB 4 (by omega) w1 (hr1 w1 hw1)).mono fun e w' ⟨he, q, hw⟩ => ⟨he, KO (by rw [hw]; exact below_draw (Later.refl w1) q)⟩
  simp only [Act.put, List.setIfInBounds_toArray, List.set_cons_zero, List.set_cons_succ]
  refine anyR_val (Keep.pre _ _ _) 5 rfl (by kernel_rfl) (by kernel_rfl) (by kernel_rfl) (fun _ _ _ _ h => h) rfl ?_; apply Exists.intro; refine ⟨fun w1 hw1 => ?_, ?_⟩; (· (go_simp; rfl)); simp only [Act.put, List.setIfInBounds_toArray, List.set_cons_zero, List.set_cons_succ]
  refine anyR_take (Keep.pre _ _ _) 6 (.int .u16 (wat zs 6)) rfl (by kernel_rfl) (by kernel_rfl) (by kernel_rfl) (fun _ _ _ h => h) rfl (fun w1 hw1 => goes_call 167 #[.slice (some ⟨b, off, none⟩) zs.length cap, .int .i64 6] (by go_simp) ?_) ?_
  · exact (get16_rd _ zs hB 6 (by omega) w1 (hr1 w1 hw1)).mono fun e w' ⟨he, q, hw⟩ => ⟨he, KO (by rw [hw]; exact below_draw (Later.refl w1) q)⟩
  simp only [Act.put, List.setIfInBounds_toArray, List.set_cons_zero, List.set_cons_succ]
  refine anyR_val (Keep.pre _ _ _) 7 rfl (by kernel_rfl) (by kernel_rfl) (by kernel_rfl) (fun _ _ _ _ h => h) rfl ?_; apply Exists.intro; refine ⟨fun w1 hw1 => ?_, ?_⟩; (· (go_simp; rfl)); simp only [Act.put, List.setIfInBounds_toArray, List.set_cons_zero, List.set_cons_succ]
  refine anyR_take (Keep.pre _ _ _) 8 (.bool (decide (16384 ≤ wat zs 6 % 32768))) rfl (by kernel_rfl) (by kernel_rfl) (by kernel_rfl) (fun _ _ _ h => h) rfl (fun w1 hw1 => goes_val (Keep.pre _ _ _) (by rw [← hne]; go_simp)) ?_
  simp only [Act.put, List.setIfInBounds_toArray, List.set_cons_zero, List.set_cons_succ]
  refine anyR_val (Keep.pre _ _ _) 9 rfl (by kernel_rfl) (by kernel_rfl) (by kernel_rfl) (fun _ _ _ _ h => h) rfl ?_; apply Exists.intro; refine ⟨fun w1 hw1 => ?_, ?_⟩; (· (go_simp; rfl)); simp only [Act.put, List.setIfInBounds_toArray, List.set_cons_zero, List.set_cons_succ]
  refine anyR_val (Keep.pre _ _ _) 10 rfl (by kernel_rfl) (by kernel_rfl) (by kernel_rfl) (fun _ _ _ _ h => h) rfl ?_; apply Exists.intro; refine ⟨fun w1 hw1 => ?_, ?_⟩; (· (go_simp; rfl)); simp only [Act.put, List.setIfInBounds_toArray, List.set_cons_zero, List.set_cons_succ]
  refine anyR_val (Keep.pre _ _ _) 11 rfl (by kernel_rfl) (by kernel_rfl) (by kernel_rfl) (fun _ _ _ _ h => h) rfl ?_; apply Exists.intro; refine ⟨fun w1 hw1 => ?_, ?_⟩; (· (go_simp; rfl)); simp only [Act.put, List.setIfInBounds_toArray, List.set_cons_zero, List.set_cons_succ]
  refine anyR_val (Keep.pre _ _ _) 12 rfl (by kernel_rfl) (by kernel_rfl) (by kernel_rfl) (fun _ _ _ _ h => h) rfl ?_; apply Exists.intro; refine ⟨fun w1 hw1 => ?_, ?_⟩; (· (go_simp; rfl)); simp only [Act.put, List.setIfInBounds_toArray, List.set_cons_zero, List.set_cons_succ]
  refine anyR_val (Keep.pre _ _ _) 13 rfl (by kernel_rfl) (by kernel_rfl) (by kernel_rfl) (fun _ _ _ _ h => h) rfl ?_; apply Exists.intro; refine ⟨fun w1 hw1 => ?_, ?_⟩; (· (go_simp; rfl)); simp only [Act.put, List.setIfInBounds_toArray, List.set_cons_zero, List.set_cons_succ]
  refine anyR_val (Keep.pre _ _ _) 14 rfl (by kernel_rfl) (by kernel_rfl) (by kernel_rfl) (fun _ _ _ _ h => h) rfl ?_; apply Exists.intro; refine ⟨fun w1 hw1 => ?_, ?_⟩; (· (go_simp; rfl)); simp only [Act.put, List.setIfInBounds_toArray, List.set_cons_zero, List.set_cons_succ]
  refine anyR_val (Keep.pre _ _ _) 15 rfl (by kernel_rfl) (by kernel_rfl) (by kernel_rfl) (fun _ _ _ _ h => h) rfl ?_; apply Exists.intro; refine ⟨fun w1 hw1 => ?_, ?_⟩; (· (go_simp; rfl)); simp only [Act.put, List.setIfInBounds_toArray, List.set_cons_zero, List.set_cons_succ]
  refine anyR_take (Keep.pre _ _ _) 16 (.int .u32 (wat4 zs 12)) rfl (by kernel_rfl) (by kernel_rfl) (by kernel_rfl) (fun _ _ _ h => h) rfl (fun w1 hw1 => goes_call 169 #[.slice (some ⟨b, off, none⟩) zs.length cap, .int .i64 12] (by go_simp) ?_) ?_
  · exact (get32_rd _ zs hB 12 (by omega) w1 (hr1 w1 hw1)).mono fun e w' ⟨he, q, hw⟩ => ⟨he, KO (by rw [hw]; exact below_draw (Later.refl w1) q)⟩
  simp only [Act.put, List.setIfInBounds_toArray, List.set_cons_zero, List.set_cons_succ]
  refine anyR_val (Keep.pre _ _ _) 17 rfl (by kernel_rfl) (by kernel_rfl) (by kernel_rfl) (fun _ _ _ _ h => h) rfl ?_; apply Exists.intro; refine ⟨fun w1 hw1 => ?_, ?_⟩; (· (go_simp; rfl)); simp only [Act.put, List.setIfInBounds_toArray, List.set_cons_zero, List.set_cons_succ]
  refine anyR_take (Keep.pre _ _ _) 18 (.int .u32 (wat4 zs 16)) rfl (by kernel_rfl) (by kernel_rfl) (by kernel_rfl) (fun _ _ _ h => h) rfl (fun w1 hw1 => goes_call 169 #[.slice (some ⟨b, off, none⟩) zs.length cap, .int .i64 16] (by go_simp) ?_) ?_
  · exact (get32_rd _ zs hB 16 (by omega) w1 (hr1 w1 hw1)).mono fun e w' ⟨he, q, hw⟩ => ⟨he, KO (by rw [hw]; exact below_draw (Later.refl w1) q)⟩
  simp only [Act.put, List.setIfInBounds_toArray, List.set_cons_zero, List.set_cons_succ]
  refine anyR_val (Keep.pre _ _ _) 19 rfl (by kernel_rfl) (by kernel_rfl) (by kernel_rfl) (fun _ _ _ _ h => h) rfl ?_; apply Exists.intro; refine ⟨fun w1 hw1 => ?_, ?_⟩; (· (go_simp; rfl)); simp only [Act.put, List.setIfInBounds_toArray, List.set_cons_zero, List.set_cons_succ]
  refine anyR_val (Keep.pre _ _ _) 20 rfl (by kernel_rfl) (by kernel_rfl) (by kernel_rfl) (fun _ _ _ _ h => h) rfl ?_; apply Exists.intro; refine ⟨fun w1 hw1 => ?_, ?_⟩; (· (go_simp; rfl)); simp only [Act.put, List.setIfInBounds_toArray, List.set_cons_zero, List.set_cons_succ]
  refine anyR_val (Keep.pre _ _ _) 21 rfl (by kernel_rfl) (by kernel_rfl) (by kernel_rfl) (fun _ _ _ _ h => h) rfl ?_; apply Exists.intro; refine ⟨fun w1 hw1 => ?_, ?_⟩; (· (go_simp; rfl)); simp only [Act.put, List.setIfInBounds_toArray, List.set_cons_zero, List.set_cons_succ]
  refine anyR_val (Keep.pre _ _ _) 22 rfl (by kernel_rfl) (by kernel_rfl) (by kernel_rfl) (fun _ _ _ _ h => h) rfl ?_; apply Exists.intro; refine ⟨fun w1 hw1 => ?_, ?_⟩; (· (go_simp; rfl)); simp only [Act.put, List.setIfInBounds_toArray, List.set_cons_zero, List.set_cons_succ]
  refine anyR_val (Keep.pre _ _ _) 23 rfl (by kernel_rfl) (by kernel_rfl) (by kernel_rfl) (fun _ _ _ _ h => h) rfl ?_; apply Exists.intro; refine ⟨fun w1 hw1 => ?_, ?_⟩; (· (go_simp; rfl)); simp only [Act.put, List.setIfInBounds_toArray, List.set_cons_zero, List.set_cons_succ]
  refine anyR_val (Keep.pre _ _ _) 24 rfl (by kernel_rfl) (by kernel_rfl) (by kernel_rfl) (fun _ _ _ _ h => h) rfl ?_; apply Exists.intro; refine ⟨fun w1 hw1 => ?_, ?_⟩; (· (go_simp; rfl)); simp only [Act.put, List.setIfInBounds_toArray, List.set_cons_zero, List.set_cons_succ]
  refine anyR_val (Keep.pre _ _ _) 25 rfl (by kernel_rfl) (by kernel_rfl) (by kernel_rfl) (fun _ _ _ _ h => h) rfl ?_; apply Exists.intro; refine ⟨fun w1 hw1 => ?_, ?_⟩; (· (go_simp; rfl)); simp only [Act.put, List.setIfInBounds_toArray, List.set_cons_zero, List.set_cons_succ]
  refine anyR_val (Keep.pre _ _ _) 27 rfl (by kernel_rfl) (by kernel_rfl) (by kernel_rfl) (fun _ _ _ _ h => h) rfl ?_; apply Exists.intro; refine ⟨fun w1 hw1 => ?_, ?_⟩; (· (go_simp; rfl)); simp only [Act.put, List.setIfInBounds_toArray, List.set_cons_zero, List.set_cons_succ]
  refine anyR_val (Keep.pre _ _ _) 28 rfl (by kernel_rfl) (by kernel_rfl) (by kernel_rfl) (fun _ _ _ _ h => h) rfl ?_; apply Exists.intro; refine ⟨fun w1 hw1 => ?_, ?_⟩; (· (go_simp; rfl)); simp only [Act.put, List.setIfInBounds_toArray, List.set_cons_zero, List.set_cons_succ]
  refine anyR_val (Keep.pre _ _ _) 29 rfl (by kernel_rfl) (by kernel_rfl) (by kernel_rfl) (fun _ _ _ _ h => h) rfl ?_; apply Exists.intro; refine ⟨fun w1 hw1 => ?_, ?_⟩; (· (go_simp; rfl)); simp only [Act.put, List.setIfInBounds_toArray, List.set_cons_zero, List.set_cons_succ]
  refine anyR_val (Keep.pre _ _ _) 30 rfl (by kernel_rfl) (by kernel_rfl) (by kernel_rfl) (fun _ _ _ _ h => h) rfl ?_; apply Exists.intro; refine ⟨fun w1 hw1 => ?_, ?_⟩; (· (go_simp; rfl)); simp only [Act.put, List.setIfInBounds_toArray, List.set_cons_zero, List.set_cons_succ]
  refine anyR_val (Keep.pre _ _ _) 31 rfl (by kernel_rfl) (by kernel_rfl) (by kernel_rfl) (fun _ _ _ _ h => h) rfl ?_; apply Exists.intro; refine ⟨fun w1 hw1 => ?_, ?_⟩; (· (go_simp; rfl)); simp only [Act.put, List.setIfInBounds_toArray, List.set_cons_zero, List.set_cons_succ]
  refine anyR_val (Keep.pre _ _ _) 32 rfl (by kernel_rfl) (by kernel_rfl) (by kernel_rfl) (fun _ _ _ _ h => h) rfl ?_; apply Exists.intro; refine ⟨fun w1 hw1 => ?_, ?_⟩; (· (go_simp; rfl)); simp only [Act.put, List.setIfInBounds_toArray, List.set_cons_zero, List.set_cons_succ]
  refine anyR_val (Keep.pre _ _ _) 33 rfl (by kernel_rfl) (by kernel_rfl) (by kernel_rfl) (fun _ _ _ _ h => h) rfl ?_; apply Exists.intro; refine ⟨fun w1 hw1 => ?_, ?_⟩; (· (go_simp; rfl)); simp only [Act.put, List.setIfInBounds_toArray, List.set_cons_zero, List.set_cons_succ]
  refine anyR_val (Keep.pre _ _ _) 34 rfl (by kernel_rfl) (by kernel_rfl) (by kernel_rfl) (fun _ _ _ _ h => h) rfl ?_; apply Exists.intro; refine ⟨fun w1 hw1 => ?_, ?_⟩; (· (go_simp; rfl)); simp only [Act.put, List.setIfInBounds_toArray, List.set_cons_zero, List.set_cons_succ]
  refine anyR_val (Keep.pre _ _ _) 35 rfl (by kernel_rfl) (by kernel_rfl) (by kernel_rfl) (fun _ _ _ _ h => h) rfl ?_; apply Exists.intro; refine ⟨fun w1 hw1 => ?_, ?_⟩; (· (go_simp; rfl)); simp only [Act.put, List.setIfInBounds_toArray, List.set_cons_zero, List.set_cons_succ]
  refine anyR_val (Keep.pre _ _ _) 36 rfl (by kernel_rfl) (by kernel_rfl) (by kernel_rfl) (fun _ _ _ _ h => h) rfl ?_; apply Exists.intro; refine ⟨fun w1 hw1 => ?_, ?_⟩; (· (go_simp; rfl)); simp only [Act.put, List.setIfInBounds_toArray, List.set_cons_zero, List.set_cons_succ]
  refine anyR_val (Keep.pre _ _ _) 37 rfl (by kernel_rfl) (by kernel_rfl) (by kernel_rfl) (fun _ _ _ _ h => h) rfl ?_; apply Exists.intro; refine ⟨fun w1 hw1 => ?_, ?_⟩; (· (go_simp; rfl)); simp only [Act.put, List.setIfInBounds_toArray, List.set_cons_zero, List.set_cons_succ]
  refine anyR_val (Keep.pre _ _ _) 38 rfl (by kernel_rfl) (by kernel_rfl) (by kernel_rfl) (fun _ _ _ _ h => h) rfl ?_; apply Exists.intro; refine ⟨fun w1 hw1 => ?_, ?_⟩; (· (go_simp; rfl)); simp only [Act.put, List.setIfInBounds_toArray, List.set_cons_zero, List.set_cons_succ]
  have hs25 : ∀ w1, Keep (fun b => b = w.heap.size) (Wr w.heap.size 9 78) (Fin w.heap.size zs k n) W1 w1 → Rd w.heap.size w1 (.slice (if cap = 20 then some (⟨b, off, none⟩ : Addr) else some ⟨b, off + 20, none⟩) (k - 20) (cap - 20)) ((zs.take k).drop 20) := fun w1 h => ((hr1 w1 h).take k (by omega)).cutAt 20 (by omega)
  have hs38 : ∀ w1, Keep (fun b => b = w.heap.size) (Wr w.heap.size 9 78) (Fin w.heap.size zs k n) W1 w1 → Rd w.heap.size w1 (.slice (if cap = k then some (⟨b, off, none⟩ : Addr) else some ⟨b, off + k, none⟩) (n - k) (cap - k)) ((zs.take n).drop k) := fun w1 h => ((hr1 w1 h).take n (by omega)).cutAt k (by omega)
  generalize (if cap = 20 then some (⟨b, off, none⟩ : Addr) else some ⟨b, off + 20, none⟩) = ad20 at *
  generalize (if cap = k then some (⟨b, off, none⟩ : Addr) else some ⟨b, off + k, none⟩) = adk at *
  have hs1 : w.heap.size < W1.heap.size := by have := hW1.1.size; simp at this; omega
  have hg1 : Wr w.heap.size 9 78 W1 := hW1.2.1 ⟨_, heap_alloc_new w _, rfl⟩
  refine anyR_one 26 rfl (by kernel_rfl) rfl (fun W2 hW2 => ?_)
  have hs2 := Nat.lt_of_lt_of_le hs1 hW2.1.size
  obtain ⟨v3, W3, hrun3, hown3, hgr3⟩ := run_app (P := Tryz.prog) W2 23 23 5 (w.heap.size + 1) i0 Tryz.underlying23 hi hz0 hz1 hz2 (.slice none 0 0) [] (World.ownsRow_nil _ _ _ _) w.heap.size _ ((zs.take k).drop 20) (hs25 W2 hW2) (by simp; omega) hs2
  have hl3 : Later W2 W3 := (Below.refl _ W2).grown hgr3 (Nat.le_refl _) (fun _ e => by cases e)
  have hO3 := Ow.of_row hown3
  rw [List.nil_append] at hO3
  clear hown3 hgr3
  obtain ⟨a3, cap3, rfl, hq3, hm3⟩ := hO3.slice
  refine wp_app (.const (.slice none 0 0)) (.tmp 33) 23 rfl _ _ rfl rfl _ W3 hrun3 ⟨KO hl3, ?_⟩
  simp only [Act.put, List.setIfInBounds_toArray, List.set_cons_zero, List.set_cons_succ]
  have hW3 := hW2.trans (KO hl3)
  refine anyR_one 39 rfl (by kernel_rfl) rfl (fun W4 hW4 => ?_)
  have hs4 := Nat.lt_of_lt_of_le hs1 (hW3.trans hW4).1.size
  obtain ⟨v5, W5, hrun5, hown5, hgr5⟩ := run_app (P := Tryz.prog) W4 23 23 5 (w.heap.size + 1) i0 Tryz.underlying23 hi hz0 hz1 hz2 (.slice none 0 0) [] (World.ownsRow_nil _ _ _ _) w.heap.size _ ((zs.take n).drop k) (hs38 W4 (hW3.trans hW4)) (by simp; omega) hs4
  have hl5 : Later W4 W5 := (Below.refl _ W4).grown hgr5 (Nat.le_refl _) (fun _ e => by cases e)
  have hO5 := Ow.of_row hown5
  rw [List.nil_append] at hO5
  clear hown5 hgr5
  obtain ⟨a5, cap5, rfl, hq5, hm5⟩ := hO5.slice
  refine wp_app (.const (.slice none 0 0)) (.tmp 46) 23 rfl _ _ rfl rfl _ W5 hrun5 ⟨KO hl5, ?_⟩
  simp only [Act.put, List.setIfInBounds_toArray, List.set_cons_zero, List.set_cons_succ]
  have hW5 := (hW3.trans hW4).trans (KO hl5)
  refine anyR_val (Keep.pre _ _ _) 40 rfl (by kernel_rfl) (by kernel_rfl) (by kernel_rfl) (fun _ _ _ _ h => h) rfl ?_; apply Exists.intro; refine ⟨fun w1 hw1 => ?_, ?_⟩; (· (go_simp; rfl)); simp only [Act.put, List.setIfInBounds_toArray, List.set_cons_zero, List.set_cons_succ]
  refine anyR_one 41 rfl (by kernel_rfl) rfl (fun W6 hW6 => ?_)
  obtain ⟨cur, hcur, hsz⟩ := (hW5.trans hW6).2.1 hg1
  have k6 : ∀ j, W6.cell? ⟨w.heap.size, j, none⟩ = cur[j]? := block_cell hcur
  have f6 : ∀ j, W6.frozen? ⟨w.heap.size, j, none⟩ = false := block_frozen hcur
  unfold Oper.wp
  go_simp
  have hk3 : min k zs.length - 20 = ((zs.take k).drop 20).length := by simp
  have hk5 : n - k = ((zs.take n).drop k).length := by simp; omega
  generalize hV7 : ((((((((W6.setCell ⟨w.heap.size, 0, none⟩ _).setCell ⟨w.heap.size, 1, none⟩ _).setCell ⟨w.heap.size, 2, none⟩ _).setCell ⟨w.heap.size, 3, none⟩ _).setCell ⟨w.heap.size, 4, none⟩ _).setCell ⟨w.heap.size, 5, none⟩ _).setCell ⟨w.heap.size, 6, none⟩ _).setCell ⟨w.heap.size, 7, none⟩ _).setCell ⟨w.heap.size, 8, none⟩ _ = V7
  have hV8 : V7 = putRow W6 w.heap.size 0 [.int .u8 z1, .int .u16 (wat zs 4), .bool (decide (16384 ≤ wat zs 6 % 32768)), .int .u8 z8, .int .u8 z9, .int .u32 (wat4 zs 12), .int .u32 (wat4 zs 16), .slice a3 (min k zs.length - 20) cap3, .slice a5 (n - k) cap5] := hV7.symm
  have hb7 : But (fun b => b = w.heap.size) W6 V7 := by rw [hV8]; exact putRow_but (E := fun b => b = w.heap.size) (n := w.heap.size) rfl _ _ _ _ (But.refl _ _)
  have hh7 := putRow_all [.int .u8 z1, .int .u16 (wat zs 4), .bool (decide (16384 ≤ wat zs 6 % 32768)), .int .u8 z8, .int .u8 z9, .int .u32 (wat4 zs 12), .int .u32 (wat4 zs 16), .slice a3 (min k zs.length - 20) cap3, .slice a5 (n - k) cap5] hcur (by simpa using hsz)
  rw [← hV8] at hh7
  clear hV7 hV8
  have hbb := ((hW4.1.trans (But.of hl5)).trans hW6.1).trans hb7
  have hF7 : Fin w.heap.size zs k n V7 := by
    refine ⟨_, _, ?_, hO3.but hbb (fun b h e => by omega), hO5.but (hW6.1.trans hb7) (fun b h e => by omega)⟩
    rw [G1.out, G8.out, G9.out, ← hk3, ← hk5]
    exact hh7
  refine ⟨⟨hb7, fun _ => ⟨_, hh7, rfl⟩, fun _ => hF7⟩, anyR_done (by kernel_rfl) (fun W8 hW8 => ?_)⟩
  obtain ⟨so, sd, hh8, hO7, hO8⟩ := hW8.2.2 hF7
  have r8 := block_cell hh8
  have hlat : Later w W8 := hbel W8 (((hW5.trans hW6).trans ⟨hb7, fun _ => ⟨_, hh7, rfl⟩, fun _ => hF7⟩).trans hW8)
  clear hs25 hs38 hk3 hk5 hF7 hbb hh7 hb7 q0 q1 e1 e8 e9 hr1 hbel
  go_wp2_with fail
  exact bodyPost_ret (v := pkt zs so sd) (by simp [results, Tryz.results125, go_sem, r8, pkt]) rfl ⟨so, sd, rfl, hO7.mono (Nat.le_succ _), hO8.mono (Nat.le_succ _), hlat⟩
end Go.Proofs.YtohflohdbkamnaaGreatDoor
