/- The walk of RulesMost. -/
import Derived.Test.YtgjemeibaghfaabYQ
import Derived.Test.YtgjemeibaghfaabRu
namespace Go.Proofs.Ytgjemeibaghfaab
open Go.RowKit Go.Shelf
set_option maxRecDepth 100000
set_option linter.unusedVariables false
set_option linter.unusedSimpArgs false

def mkR (i : Nat) : Ru := ⟨1, 0, (i : Int), 32, 9, 0, 0, 0⟩
def mks (n : Nat) : List Ru := (List.range n).map mkR
theorem mks_length (n : Nat) : (mks n).length = n := by unfold mks; simp
theorem mkR_right (i : Nat) : rtB (mkR i) = true := by
  unfold rtB mkR rtM upp
  simp
theorem mkR_wf (i : Nat) (h : i < 60) : wfR (mkR i) := by unfold wfR mkR; simp; omega
theorem mks_mem {i n : Nat} : mkR i ∈ mks n ↔ i < n := by
  unfold mks
  rw [List.mem_map]
  constructor
  · rintro ⟨j, hj, e⟩
    unfold mkR at e
    simp at e hj
    omega
  · intro h
    exact ⟨i, by simpa using h, rfl⟩
theorem mks_succ (n : Nat) : mks (n + 1) = mks n ++ [mkR n] := by unfold mks; simp [List.range_succ]
theorem mks_has (i : Nat) : hasB (mkR i) (mks (min i 32)) = false := by
  cases h : hasB (mkR i) (mks (min i 32)) with
  | false => rfl
  | true => have := mks_mem.1 (hasB_iff.1 h); omega
theorem mks_add_yes {i : Nat} (h : i < 32) : adE (mks (min i 32)) (mkR i) = 0 ∧ adL (mks (min i 32)) (mkR i) = mks (min (i + 1) 32) := by
  have h0 : adE (mks (min i 32)) (mkR i) = 0 := by unfold adE; rw [mkR_right, mks_has, mks_length, if_neg (by simp), if_neg (by simp), if_neg (by omega)]
  refine ⟨h0, ?_⟩
  rw [adL_yes h0, Nat.min_eq_left (by omega), Nat.min_eq_left (by omega), mks_succ]
theorem mks_add_no {i : Nat} (h : ¬ i < 32) : adE (mks (min i 32)) (mkR i) = 9 ∧ adL (mks (min i 32)) (mkR i) = mks (min (i + 1) 32) := by
  have h0 : adE (mks (min i 32)) (mkR i) = 9 := by unfold adE; rw [mkR_right, mks_has, mks_length, if_neg (by simp), if_neg (by simp), if_pos (by omega)]
  refine ⟨h0, ?_⟩
  rw [adL_no (by rw [h0]; omega), Nat.min_eq_right (by omega), Nat.min_eq_right (by omega)]
def lastR : Ru := ⟨1, 0, 0, 0, 5, 0, 0, 0⟩
theorem last_wf : wfR lastR := by unfold wfR lastR; simp
theorem last_add {n j : Nat} (h : n ≤ 32) (hj : j < n) : adE ((mks n).eraseIdx j) lastR = 0 := by
  have h1 : rtB lastR = true := by decide +kernel
  have h2 : hasB lastR ((mks n).eraseIdx j) = false := by
    cases h : hasB lastR ((mks n).eraseIdx j) with
    | false => rfl
    | true =>
      have := List.mem_of_mem_eraseIdx (hasB_iff.1 h)
      unfold mks at this
      obtain ⟨i, _, e⟩ := List.mem_map.1 this
      unfold mkR lastR at e
      simp at e
  unfold adE
  rw [h1, h2, if_neg (by simp), if_neg (by simp), List.length_eraseIdx_of_lt (by rw [mks_length]; exact hj), mks_length, if_neg (by omega)]

/-- The first of what a slice reads as, and what is behind. -/
theorem RdQ.upto {n₀ : Nat} {A : World} {a : Option Addr} {len cap : Nat} {l : List Ru} (k : Nat) (hk : k ≤ len) (h : RdQ n₀ A (.slice a len cap) l) : RdQ n₀ A (sliced a 0 k cap 8) (l.take k) := by
  rcases h with ⟨a', cap', e, hz, hm, hn⟩ | ⟨b, off, cap', e, hne, hl, hm, hb, hc⟩
  · cases e
    obtain rfl : k = 0 := by omega
    subst hz
    exact .inl ⟨_, _, rfl, by simp, by omega, fun h => by cases a with | none => simp [hn rfl] | some x => split at h <;> simp at h⟩
  · cases e
    by_cases h0 : k = 0
    · subst h0
      exact .inl ⟨_, _, rfl, by simp, by omega, fun h => by split at h <;> simp at h⟩
    · have hlen : (l.take k).length = k := by simp; omega
      refine .inr ⟨b, off, cap, ?_, fun e => by rw [e] at hlen; simp at hlen; omega, by omega, hm, hb, fun j hj i hi => ?_⟩
      · rw [hlen]
        simp [sliced, Addr.add]
      · rw [hc j (by omega) i hi, List.getElem_take]
theorem RdQ.from {n₀ : Nat} {A : World} {a : Option Addr} {len cap : Nat} {l : List Ru} (k : Nat) (hk : k ≤ len) (h : RdQ n₀ A (.slice a len cap) l) : RdQ n₀ A (sliced a k len cap 8) (l.drop k) := by
  rcases h with ⟨a', cap', e, hz, hm, hn⟩ | ⟨b, off, cap', e, hne, hl, hm, hb, hc⟩
  · cases e
    obtain rfl : k = 0 := by omega
    subst hz
    exact .inl ⟨_, _, rfl, by simp, by omega, fun h => by cases a with | none => simp [hn rfl] | some x => split at h <;> simp at h⟩
  · cases e
    by_cases h0 : k = l.length
    · subst h0
      exact .inl ⟨if cap = l.length then some ⟨b, off, none⟩ else (some (⟨b, off, none⟩ : Addr)).map (·.add (l.length * 8)), cap - l.length, by simp [sliced], by simp, by omega, fun h => by split at h <;> simp at h⟩
    · refine .inr ⟨b, off + k * 8, cap - k, ?_, fun e => by have := congrArg List.length e; simp at this; omega, by simp; omega, by omega, hb, fun j hj i hi => ?_⟩
      · simp [sliced]
        rw [if_neg (by omega), addr_add']
      · have hj' : k + j < l.length := by simp at hj; omega
        rw [show off + k * 8 + j * 8 + i = off + (k + j) * 8 + i from by omega, hc (k + j) hj' i hi, List.getElem_drop]

set_option maxHeartbeats 8000000 in
theorem walk_RulesMost (w : World) (n : Int) (hn : 0 ≤ n ∧ n ≤ 255) (at0 : Int) (ha : 0 ≤ at0 ∧ at0 ≤ 255) :
    Calls Try.prog 3 #[.int .u8 n, .int .u8 at0] w fun e w' => e = .returned (.bool true) ∧ Below w.heap.size w w' := by
  obtain ⟨K, hK⟩ : ∃ r : Nat, n % 60 = (r : Int) := ⟨(n % 60).toNat, by omega⟩
  have hKt : n.tmod 60 = (K : Int) := by rw [Int.tmod_eq_emod_of_nonneg hn.1]; exact hK
  have hK6 : K < 60 := by omega
  have HK := hide hK
  clear hK
  go_enter Try.func3, Try.ntmps3
  go_wp2_with fail
  refine (new9_any w).mono ?_
  rintro e w1 ⟨rfl, l1, hT1⟩
  generalize hb : w.heap.size = b at *
  have HB := hide hb
  clear hb
  go_wp2_with fail
  go_loopw [7] (fun i wr => ∃ k : Nat, k ≤ K ∧ i = .int .i64 (k : Int) ∧ (∃ v, RL 42 b wr b v (mks (min k 32))) ∧ Below b w1 wr) (fun i _ => K - (intOf i).toNat)
  case atStart => exact ⟨0, by omega, rfl, ⟨_, hT1⟩, Below.refl _ _⟩
  case round =>
    obtain ⟨k, hk, rfl, ⟨v, hT⟩, hbw⟩ := hrel
    have hbs : b ≤ wr.heap.size := Nat.le_of_lt hT.blt
    by_cases hlt : k < K
    · have hlt' : (k : Int) < K := by omega
      have hmod : (k : Int) % 4294967296 = k := by omega
      have hA := add9_any b b v (mks (min k 32)) (mkR k) wr hT (mkR_wf k (by omega)) (by rw [mks_length]; omega) hbs
      have HA := hide hA
      clear hA
      go_wp2_with fail
      refine HA.out.mono ?_
      by_cases h32 : k < 32
      · rw [(mks_add_yes h32).1, (mks_add_yes h32).2]
        rintro e w3 ⟨rfl, v3, hT3, hb3, f3⟩
        have h32' : (k : Int) < 32 := by omega
        have hbl : Below b wr w3 := hb3.below hbs (fun x hx e => by rcases e with rfl | e; (· omega); (· have := (hT.lt e).1; omega))
        clear hb3
        go_wp2_with fail
        go_roundw
        case rel => exact ⟨k + 1, by omega, by go_num, ⟨_, hT3⟩, hbw.trans hbl⟩
        case measure => simp [intOf]; omega
      · rw [(mks_add_no h32).1, (mks_add_no h32).2]
        rintro e w3 ⟨rfl, v3, hT3, hb3, f3⟩
        have h32' : ¬ (k : Int) < 32 := by omega
        have hbl : Below b wr w3 := hb3.below hbs (fun x hx e => by rcases e with rfl | e; (· omega); (· have := (hT.lt e).1; omega))
        clear hb3
        go_wp2_with fail
        go_roundw
        case rel => exact ⟨k + 1, by omega, by go_num, ⟨_, hT3⟩, hbw.trans hbl⟩
        case measure => simp [intOf]; omega
    · obtain rfl : k = K := by omega
      have hL : Later w wr := Below.trans l1 (by rw [HB.out]; exact hbw)
      obtain ⟨kk, hkk⟩ : ∃ kk, kk = min k 32 := ⟨_, rfl⟩
      rw [← hkk] at hT
      have hkb : kk ≤ 32 := by omega
      have HKK := hide hkk
      clear hkk
      generalize hwO : wr = wO at *
      clear hwO
      go_upto_region 11 with fail
      · rw [show (32 : Int) = ((kk : Nat) : Int) from by have := HKK.out; omega]
        have hbs4 : b ≤ wO.heap.size := Nat.le_of_lt hT.blt
        go_wp2_with fail
        refine (list9_any b (some ⟨b, 0, none⟩) (mks kk) wO (.inr ⟨b, v, rfl, hT⟩) (by rw [mks_length]; omega)).mono ?_
        rw [mks_length]
        rintro e w4 ⟨l4, u4', rfl, hu4⟩
        have hu4' : w4.ownsRow wO.heap.size 30 8 u4' (mks kk).length (rus (mks kk)) := by rw [mks_length]; exact hu4
        obtain ⟨al, cl, rfl, hl1, hl2⟩ := (ownU_rd hu4').slice
        have hrd4 := ownU_rd hu4'
        rw [mks_length] at hrd4 hl1 ⊢
        have HRD4 := hide hrd4
        have hap : ∀ bx, (∃ ox cx, Value.slice al kk cl = .slice (some ⟨bx, ox, none⟩) (mks kk).length cx) → ¬ (bx = b ∨ v.ownBlock = some bx) := fun bx ⟨ox, cx, e⟩ h => by
          have hown : (Value.slice al kk cl).ownBlock = some bx := by rw [e]; rfl
          have hlt := (hu4'.lt bx (by rw [mks_length]; exact hown)).1
          rcases h with h | h
          · have := hT.blt; omega
          · have := (hT.lt h).2; omega
        have HAP := hide hap
        clear hap
        clear hu4 hu4' hrd4
        have hT4 := hT.later l4
        by_cases hk0 : kk = 0
        · have := HKK.out
          omega
        · obtain ⟨j, hj⟩ : ∃ r : Nat, at0 % (kk : Int) = (r : Int) := ⟨(at0 % (kk : Int)).toNat, by have := Int.emod_nonneg at0 (show (kk : Int) ≠ 0 by omega); omega⟩
          have hjt : at0.tmod (kk : Int) = (j : Int) := by rw [Int.tmod_eq_emod_of_nonneg ha.1]; exact hj
          have hjk : j < kk := by have := Int.emod_lt_of_pos at0 (show (0 : Int) < kk by omega); omega
          have hk0' : ¬ (kk : Int) = 0 := by omega
          have hdE : drE (mks kk) (j : Int) = 0 := drE_yes (by rw [mks_length]; exact hjk)
          have hdL : drL (mks kk) (j : Int) = (mks kk).eraseIdx j := drL_yes hdE
          have HD := drop9_any b b v (mks kk) (j : Int) w4 hT4 (by rw [mks_length]; omega)
          rw [hdE, hdL] at HD
          have HDR := hide HD
          clear HD hdE hdL
          go_wp2_with fail
          refine HDR.out.mono ?_
          rintro e w5 ⟨rfl, v5, hT5, hb5, f5⟩
          have hs4 := l4.size
          have hvl : ∀ g, v.ownBlock = some g → b ≤ g ∧ g < wO.heap.size := fun g hg => hT.lt hg
          have hbO : b < wO.heap.size := hT.blt
          have hrd5 : RdQ w4.heap.size w5 (.slice al kk cl) (mks kk) := by
            rcases HRD4.out with h | ⟨bx, ox, cx, q1, q2, q3, q4, q5, q6⟩
            · exact .inl h
            · refine .inr ⟨bx, ox, cx, q1, q2, q3, q4, q5, fun jj hjj ii hii => ?_⟩
              have hbx : ¬ (bx = b ∨ v.ownBlock = some bx) := HAP.out bx ⟨ox, cx, q1⟩
              exact ((World.cell?_of_block (w := w4) (hb5.block bx q5 hbx)).trans (q6 jj hjj ii hii))
          have HRD5 := hide hrd5
          have L5 : Later w w5 := Below.trans (hL.trans l4) (hb5.below (Nat.le_trans hL.size hs4) (fun x hx e => by rcases e with rfl | e; (· have := HB.out; omega); (· have := hvl x e; have := HB.out; omega)))
          have hs45 := hb5.size
          clear hrd5 HRD4 hb5
          have hjl : j ≤ cl := by omega
          have hs5 := L5.size
          have hlen5 : ((mks kk).eraseIdx j).length = kk - 1 := by rw [List.length_eraseIdx_of_lt (by rw [mks_length]; exact hjk), mks_length]
          go_wp2_with fail
          refine (list9_any b (some ⟨b, 0, none⟩) ((mks kk).eraseIdx j) w5 (.inr ⟨b, v5, rfl, hT5⟩) (by omega)).mono ?_
          rintro e w6 ⟨l6, u6, rfl, hu6⟩
          obtain ⟨am, cm, rfl, hm1, hm2⟩ := (ownU_rd hu6).slice
          have hrd6 := ownU_rd hu6
          rw [hlen5] at hrd6 hm1 ⊢
          have HRD6 := hide hrd6
          clear hu6 hrd6
          have hT6 := hT5.later l6
          have hrl6 := HRD5.out.below (l6.mono hs45)
          have HRL6 := hide hrl6
          clear hrl6 HRD5
          have hlast := last_add hkb hjk
          have HLA := hide hlast
          clear hlast
          have j1 : (j : Int) < kk := by omega
          have j2 : (j : Int) ≤ kk - 1 := by omega
          have j3 : j ≤ kk - 1 := by omega
          have j4 : j ≤ cm := by omega
          have j5 : j + 1 ≤ kk := by omega
          have j6 : (j : Int) + 1 ≤ kk := by omega
          have j7 : 1 ≤ kk := by omega
          have j8 : ((kk - 1 : Nat) : Int) = (kk : Int) - 1 := by omega
          have j9 : (j : Int) ≤ ((kk - 1 : Nat) : Int) := by omega
          have j10 : ¬ (j : Int) + 1 < 0 := by omega
          have hwr : IntKind.i64.wrap ((j : Int) + 1) = (j : Int) + 1 := by simp [IntKind.wrap, IntKind.bits, IntKind.signed]; omega
          have HWR := hide hwr
          have HWK : Hid (IntKind.i64.wrap ((kk : Int) - 1) = (kk : Int) - 1) := show _ = _ from by simp [IntKind.wrap, IntKind.bits, IntKind.signed]; omega
          clear hwr
          go_upto_region 17 with fail
          refine anyT_begin (R := Below b) 38 rfl (by kernel_rfl) ?_
          have ld : Later w6 w6.drew := Later.drew w6
          generalize w6.drew = Wd at *
          refine anyT_oneG 0 rfl (by kernel_rfl) (by rfl) ?_
          refine wp_enter 8 #[] (by go_simp) ?_
          refine (live9_any Wd).mono ?_
          rintro e V2 ⟨rfl, l2⟩
          have hbW : b ≤ Wd.heap.size := by have := ld.size; have := l6.size; have := HB.out; omega
          refine ⟨l2.mono hbW, ?_⟩
          simp only [Act.put, List.setIfInBounds_toArray, List.set_cons_zero, List.set_cons_succ]
          have M2 := ld.trans l2
          refine anyT_val (⟨fun A => Below.refl _ _, fun A B C h k => h.trans k⟩ : Pre (Below b)) 1 rfl (by kernel_rfl) (by kernel_rfl) (by kernel_rfl) (fun _ _ _ _ h => h) rfl ?_; apply Exists.intro; refine ⟨fun v1 hv1 => ?_, ?_⟩; (· (go_simp; rfl)); simp only [Act.put, List.setIfInBounds_toArray, List.set_cons_zero, List.set_cons_succ]
          refine anyT_valG (⟨fun A => Below.refl _ _, fun A B C h k => h.trans k⟩ : Pre (Below b)) 2 rfl (by kernel_rfl) (by kernel_rfl) (by kernel_rfl) (fun _ _ _ _ h => h) (by rfl) ?_; apply Exists.intro; refine ⟨fun v1 hv1 => ?_, ?_⟩; (· (go_simp; rfl)); simp only [Act.put, List.setIfInBounds_toArray, List.set_cons_zero, List.set_cons_succ]
          refine anyT_valG (⟨fun A => Below.refl _ _, fun A B C h k => h.trans k⟩ : Pre (Below b)) 3 rfl (by kernel_rfl) (by kernel_rfl) (by kernel_rfl) (fun _ _ _ _ h => h) (by rfl) ?_; apply Exists.intro; refine ⟨fun v1 hv1 => ?_, ?_⟩; (· (go_simp; rfl)); simp only [Act.put, List.setIfInBounds_toArray, List.set_cons_zero, List.set_cons_succ]
          refine anyT_val (⟨fun A => Below.refl _ _, fun A B C h k => h.trans k⟩ : Pre (Below b)) 4 rfl (by kernel_rfl) (by kernel_rfl) (by kernel_rfl) (fun _ _ _ _ h => h) rfl ?_; apply Exists.intro; refine ⟨fun v1 hv1 => ?_, ?_⟩; (· (go_simp; rfl)); simp only [Act.put, List.setIfInBounds_toArray, List.set_cons_zero, List.set_cons_succ]
          refine anyT_val (⟨fun A => Below.refl _ _, fun A B C h k => h.trans k⟩ : Pre (Below b)) 5 rfl (by kernel_rfl) (by kernel_rfl) (by kernel_rfl) (fun _ _ _ _ h => h) rfl ?_; apply Exists.intro; refine ⟨fun v1 hv1 => ?_, ?_⟩; (· (go_simp; rfl)); simp only [Act.put, List.setIfInBounds_toArray, List.set_cons_zero, List.set_cons_succ]
          refine anyT_valG (⟨fun A => Below.refl _ _, fun A B C h k => h.trans k⟩ : Pre (Below b)) 6 rfl (by kernel_rfl) (by kernel_rfl) (by kernel_rfl) (fun _ _ _ _ h => h) (by rfl) ?_; apply Exists.intro; refine ⟨fun v1 hv1 => ?_, ?_⟩; (· (go_simp; rfl)); simp only [Act.put, List.setIfInBounds_toArray, List.set_cons_zero, List.set_cons_succ]
          refine anyT_valG (⟨fun A => Below.refl _ _, fun A B C h k => h.trans k⟩ : Pre (Below b)) 7 rfl (by kernel_rfl) (by kernel_rfl) (by kernel_rfl) (fun _ _ _ _ h => h) (by rfl) ?_; apply Exists.intro; refine ⟨fun v1 hv1 => ?_, ?_⟩; (· (go_simp; rfl)); simp only [Act.put, List.setIfInBounds_toArray, List.set_cons_zero, List.set_cons_succ]
          refine anyT_valG (⟨fun A => Below.refl _ _, fun A B C h k => h.trans k⟩ : Pre (Below b)) 8 rfl (by kernel_rfl) (by kernel_rfl) (by kernel_rfl) (fun _ _ _ _ h => h) (by rfl) ?_; apply Exists.intro; refine ⟨fun v1 hv1 => ?_, ?_⟩; (· (go_simp; rfl)); simp only [Act.put, List.setIfInBounds_toArray, List.set_cons_zero, List.set_cons_succ]
          refine anyT_valG (⟨fun A => Below.refl _ _, fun A B C h k => h.trans k⟩ : Pre (Below b)) 9 rfl (by kernel_rfl) (by kernel_rfl) (by kernel_rfl) (fun _ _ _ _ h => h) (by rfl) ?_; apply Exists.intro; refine ⟨fun v1 hv1 => ?_, ?_⟩; (· (go_simp; rfl)); simp only [Act.put, List.setIfInBounds_toArray, List.set_cons_zero, List.set_cons_succ]
          refine anyT_valG (⟨fun A => Below.refl _ _, fun A B C h k => h.trans k⟩ : Pre (Below b)) 10 rfl (by kernel_rfl) (by kernel_rfl) (by kernel_rfl) (fun _ _ _ _ h => h) (by rfl) ⟨.bool true, fun v1 hv1 => ?_, ?_⟩
          · go_simp
            exact HWK.out.symm
          simp only [Act.put, List.setIfInBounds_toArray, List.set_cons_zero, List.set_cons_succ]
          refine anyT_val (⟨fun A => Below.refl _ _, fun A B C h k => h.trans k⟩ : Pre (Below b)) 11 rfl (by kernel_rfl) (by kernel_rfl) (by kernel_rfl) (fun _ _ _ _ h => h) rfl ?_; apply Exists.intro; refine ⟨fun v1 hv1 => ?_, ?_⟩; (· (go_simp; rfl)); simp only [Act.put, List.setIfInBounds_toArray, List.set_cons_zero, List.set_cons_succ]
          refine anyT_val (⟨fun A => Below.refl _ _, fun A B C h k => h.trans k⟩ : Pre (Below b)) 12 rfl (by kernel_rfl) (by kernel_rfl) (by kernel_rfl) (fun _ _ _ _ h => h) rfl ?_; apply Exists.intro; refine ⟨fun v1 hv1 => ?_, ?_⟩; (· (go_simp; rfl)); simp only [Act.put, List.setIfInBounds_toArray, List.set_cons_zero, List.set_cons_succ]
          refine anyT_valG (⟨fun A => Below.refl _ _, fun A B C h k => h.trans k⟩ : Pre (Below b)) 13 rfl (by kernel_rfl) (by kernel_rfl) (by kernel_rfl) (fun _ _ _ _ h => h) (by rfl) ?_; apply Exists.intro; refine ⟨fun v1 hv1 => ?_, ?_⟩; (· (go_simp; rfl)); simp only [Act.put, List.setIfInBounds_toArray, List.set_cons_zero, List.set_cons_succ]
          refine anyT_valG (⟨fun A => Below.refl _ _, fun A B C h k => h.trans k⟩ : Pre (Below b)) 14 rfl (by kernel_rfl) (by kernel_rfl) (by kernel_rfl) (fun _ _ _ _ h => h) (by rfl) ?_; apply Exists.intro; refine ⟨fun v1 hv1 => ?_, ?_⟩; (· (go_simp; rfl)); simp only [Act.put, List.setIfInBounds_toArray, List.set_cons_zero, List.set_cons_succ]
          refine anyT_valG (⟨fun A => Below.refl _ _, fun A B C h k => h.trans k⟩ : Pre (Below b)) 15 rfl (by kernel_rfl) (by kernel_rfl) (by kernel_rfl) (fun _ _ _ _ h => h) (by rfl) ⟨sliced am 0 j cm 8, fun v1 hv1 => by go_simp, ?_⟩
          simp only [Act.put, List.setIfInBounds_toArray, List.set_cons_zero, List.set_cons_succ]
          refine anyT_valG (⟨fun A => Below.refl _ _, fun A B C h k => h.trans k⟩ : Pre (Below b)) 16 rfl (by kernel_rfl) (by kernel_rfl) (by kernel_rfl) (fun _ _ _ _ h => h) (by rfl) ?_; apply Exists.intro; refine ⟨fun v1 hv1 => ?_, ?_⟩; (· (go_simp; rfl)); simp only [Act.put, List.setIfInBounds_toArray, List.set_cons_zero, List.set_cons_succ]
          refine anyT_valG (⟨fun A => Below.refl _ _, fun A B C h k => h.trans k⟩ : Pre (Below b)) 17 rfl (by kernel_rfl) (by kernel_rfl) (by kernel_rfl) (fun _ _ _ _ h => h) (by rfl) ?_; apply Exists.intro; refine ⟨fun v1 hv1 => ?_, ?_⟩; (· (go_simp; rfl)); simp only [Act.put, List.setIfInBounds_toArray, List.set_cons_zero, List.set_cons_succ]
          refine anyT_valG (⟨fun A => Below.refl _ _, fun A B C h k => h.trans k⟩ : Pre (Below b)) 18 rfl (by kernel_rfl) (by kernel_rfl) (by kernel_rfl) (fun _ _ _ _ h => h) (by rfl) ⟨sliced al 0 j cl 8, fun v1 hv1 => by go_simp, ?_⟩
          simp only [Act.put, List.setIfInBounds_toArray, List.set_cons_zero, List.set_cons_succ]
          have hX : RdQ w6.heap.size V2 (sliced am 0 j cm 8) ((mks kk).take j) := by
            have := (HRD6.out.below M2).upto j j3
            rw [erase_eq, List.take_left' (by rw [List.length_take, mks_length]; omega)] at this
            exact this
          have hY : RdQ w4.heap.size V2 (sliced al 0 j cl 8) ((mks kk).take j) := (HRL6.out.below (M2.mono (Nat.le_trans hs45 l6.size))).upto j (by omega)
          refine anyT_oneG 19 rfl (by kernel_rfl) (by rfl) ?_
          refine wp_enter 10 #[sliced am 0 j cm 8, sliced al 0 j cl 8] (by go_simp) ?_
          refine (same9_any w6.heap.size w4.heap.size _ _ _ _ V2 hX hY M2.size (Nat.le_trans hs45 (Nat.le_trans l6.size M2.size))).mono ?_
          rw [decide_eq_true (rfl : (mks kk).take j = (mks kk).take j)]
          rintro e V3 ⟨rfl, l3⟩
          refine ⟨l3.mono (Nat.le_trans hbW l2.size), ?_⟩
          clear hX hY
          simp only [Act.put, List.setIfInBounds_toArray, List.set_cons_zero, List.set_cons_succ]
          have M3 := M2.trans l3
          refine anyT_val (⟨fun A => Below.refl _ _, fun A B C h k => h.trans k⟩ : Pre (Below b)) 20 rfl (by kernel_rfl) (by kernel_rfl) (by kernel_rfl) (fun _ _ _ _ h => h) rfl ?_; apply Exists.intro; refine ⟨fun v1 hv1 => ?_, ?_⟩; (· (go_simp; rfl)); simp only [Act.put, List.setIfInBounds_toArray, List.set_cons_zero, List.set_cons_succ]
          refine anyT_val (⟨fun A => Below.refl _ _, fun A B C h k => h.trans k⟩ : Pre (Below b)) 21 rfl (by kernel_rfl) (by kernel_rfl) (by kernel_rfl) (fun _ _ _ _ h => h) rfl ?_; apply Exists.intro; refine ⟨fun v1 hv1 => ?_, ?_⟩; (· (go_simp; rfl)); simp only [Act.put, List.setIfInBounds_toArray, List.set_cons_zero, List.set_cons_succ]
          refine anyT_valG (⟨fun A => Below.refl _ _, fun A B C h k => h.trans k⟩ : Pre (Below b)) 22 rfl (by kernel_rfl) (by kernel_rfl) (by kernel_rfl) (fun _ _ _ _ h => h) (by rfl) ?_; apply Exists.intro; refine ⟨fun v1 hv1 => ?_, ?_⟩; (· (go_simp; rfl)); simp only [Act.put, List.setIfInBounds_toArray, List.set_cons_zero, List.set_cons_succ]
          refine anyT_valG (⟨fun A => Below.refl _ _, fun A B C h k => h.trans k⟩ : Pre (Below b)) 23 rfl (by kernel_rfl) (by kernel_rfl) (by kernel_rfl) (fun _ _ _ _ h => h) (by rfl) ?_; apply Exists.intro; refine ⟨fun v1 hv1 => ?_, ?_⟩; (· (go_simp; rfl)); simp only [Act.put, List.setIfInBounds_toArray, List.set_cons_zero, List.set_cons_succ]
          refine anyT_valG (⟨fun A => Below.refl _ _, fun A B C h k => h.trans k⟩ : Pre (Below b)) 24 rfl (by kernel_rfl) (by kernel_rfl) (by kernel_rfl) (fun _ _ _ _ h => h) (by rfl) ⟨sliced am j (kk - 1) cm 8, fun v1 hv1 => by go_simp, ?_⟩
          simp only [Act.put, List.setIfInBounds_toArray, List.set_cons_zero, List.set_cons_succ]
          refine anyT_valG (⟨fun A => Below.refl _ _, fun A B C h k => h.trans k⟩ : Pre (Below b)) 25 rfl (by kernel_rfl) (by kernel_rfl) (by kernel_rfl) (fun _ _ _ _ h => h) (by rfl) ?_; apply Exists.intro; refine ⟨fun v1 hv1 => ?_, ?_⟩; (· (go_simp; rfl)); simp only [Act.put, List.setIfInBounds_toArray, List.set_cons_zero, List.set_cons_succ]
          refine anyT_valG (⟨fun A => Below.refl _ _, fun A B C h k => h.trans k⟩ : Pre (Below b)) 26 rfl (by kernel_rfl) (by kernel_rfl) (by kernel_rfl) (fun _ _ _ _ h => h) (by rfl) ?_; apply Exists.intro; refine ⟨fun v1 hv1 => ?_, ?_⟩; (· (go_simp; rfl)); simp only [Act.put, List.setIfInBounds_toArray, List.set_cons_zero, List.set_cons_succ]
          refine anyT_valG (⟨fun A => Below.refl _ _, fun A B C h k => h.trans k⟩ : Pre (Below b)) 27 rfl (by kernel_rfl) (by kernel_rfl) (by kernel_rfl) (fun _ _ _ _ h => h) (by rfl) ⟨.int .i64 ((j : Int) + 1), fun v1 hv1 => by go_simp; rw [HWR.out], ?_⟩
          simp only [Act.put, List.setIfInBounds_toArray, List.set_cons_zero, List.set_cons_succ]
          refine anyT_valG (⟨fun A => Below.refl _ _, fun A B C h k => h.trans k⟩ : Pre (Below b)) 28 rfl (by kernel_rfl) (by kernel_rfl) (by kernel_rfl) (fun _ _ _ _ h => h) (by rfl) ⟨sliced al (j + 1) kk cl 8, fun v1 hv1 => by go_simp, ?_⟩
          simp only [Act.put, List.setIfInBounds_toArray, List.set_cons_zero, List.set_cons_succ]
          have hX : RdQ w6.heap.size V3 (sliced am j (kk - 1) cm 8) ((mks kk).drop (j + 1)) := by
            have := (HRD6.out.below M3).from j j3
            rw [erase_eq, List.drop_left' (by rw [List.length_take, mks_length]; omega)] at this
            exact this
          have hY : RdQ w4.heap.size V3 (sliced al (j + 1) kk cl 8) ((mks kk).drop (j + 1)) := (HRL6.out.below (M3.mono (Nat.le_trans hs45 l6.size))).from (j + 1) j5
          refine anyT_oneG 29 rfl (by kernel_rfl) (by rfl) ?_
          refine wp_enter 10 #[sliced am j (kk - 1) cm 8, sliced al (j + 1) kk cl 8] (by go_simp) ?_
          refine (same9_any w6.heap.size w4.heap.size _ _ _ _ V3 hX hY M3.size (Nat.le_trans hs45 (Nat.le_trans l6.size M3.size))).mono ?_
          rw [decide_eq_true (rfl : (mks kk).drop (j + 1) = (mks kk).drop (j + 1))]
          rintro e V4 ⟨rfl, l4'⟩
          refine ⟨l4'.mono (Nat.le_trans hbW (l2.trans l3).size), ?_⟩
          clear hX hY
          simp only [Act.put, List.setIfInBounds_toArray, List.set_cons_zero, List.set_cons_succ]
          have M4 := M3.trans l4'
          refine anyT_val (⟨fun A => Below.refl _ _, fun A B C h k => h.trans k⟩ : Pre (Below b)) 30 rfl (by kernel_rfl) (by kernel_rfl) (by kernel_rfl) (fun _ _ _ _ h => h) rfl ?_; apply Exists.intro; refine ⟨fun v1 hv1 => ?_, ?_⟩; (· (go_simp; rfl)); simp only [Act.put, List.setIfInBounds_toArray, List.set_cons_zero, List.set_cons_succ]
          refine anyT_val (⟨fun A => Below.refl _ _, fun A B C h k => h.trans k⟩ : Pre (Below b)) 31 rfl (by kernel_rfl) (by kernel_rfl) (by kernel_rfl) (fun _ _ _ _ h => h) rfl ?_; apply Exists.intro; refine ⟨fun v1 hv1 => ?_, ?_⟩; (· (go_simp; rfl)); simp only [Act.put, List.setIfInBounds_toArray, List.set_cons_zero, List.set_cons_succ]
          refine anyT_valG (⟨fun A => Below.refl _ _, fun A B C h k => h.trans k⟩ : Pre (Below b)) 32 rfl (by kernel_rfl) (by kernel_rfl) (by kernel_rfl) (fun _ _ _ _ h => h) (by rfl) ?_; apply Exists.intro; refine ⟨fun v1 hv1 => ?_, ?_⟩; (· (go_simp; rfl)); simp only [Act.put, List.setIfInBounds_toArray, List.set_cons_zero, List.set_cons_succ]
          refine anyT_valG (⟨fun A => Below.refl _ _, fun A B C h k => h.trans k⟩ : Pre (Below b)) 33 rfl (by kernel_rfl) (by kernel_rfl) (by kernel_rfl) (fun _ _ _ _ h => h) (by rfl) ?_; apply Exists.intro; refine ⟨fun v1 hv1 => ?_, ?_⟩; (· (go_simp; rfl)); simp only [Act.put, List.setIfInBounds_toArray, List.set_cons_zero, List.set_cons_succ]
          have hbV : b ≤ V4.heap.size := Nat.le_trans hbW (l2.trans (l3.trans l4')).size
          refine anyT_oneG 34 rfl (by kernel_rfl) (by rfl) ?_
          refine wp_enter 6 #[.pointer (some ⟨b, 0, none⟩), .agg #[.int .i64 1, .int .u8 0, .int .u32 0, .int .i64 0, .int .u32 5, .int .u16 0, .int .u32 0, .int .u16 0]] (by go_simp) ?_
          refine (add9_any b b v5 ((mks kk).eraseIdx j) lastR V4 (hT6.later M4) last_wf (by omega) hbV).mono ?_
          rw [HLA.out]
          rintro e V5 ⟨rfl, v9, hT9, hb9, f9⟩
          have hbl9 : Below b V4 V5 := hb9.below hbV (fun x hx e => by rcases e with rfl | e; (· omega); (· have := (hT5.lt e).1; omega))
          refine ⟨hbl9, ?_⟩
          simp only [Act.put, List.setIfInBounds_toArray, List.set_cons_zero, List.set_cons_succ]
          refine anyT_valG (⟨fun A => Below.refl _ _, fun A B C h k => h.trans k⟩ : Pre (Below b)) 35 rfl (by kernel_rfl) (by kernel_rfl) (by kernel_rfl) (fun _ _ _ _ h => h) (by rfl) ?_; apply Exists.intro; refine ⟨fun v1 hv1 => ?_, ?_⟩; (· (go_simp; rfl)); simp only [Act.put, List.setIfInBounds_toArray, List.set_cons_zero, List.set_cons_succ]
          refine anyT_val (⟨fun A => Below.refl _ _, fun A B C h k => h.trans k⟩ : Pre (Below b)) 36 rfl (by kernel_rfl) (by kernel_rfl) (by kernel_rfl) (fun _ _ _ _ h => h) rfl ?_; apply Exists.intro; refine ⟨fun v1 hv1 => ?_, ?_⟩; (· (go_simp; rfl)); simp only [Act.put, List.setIfInBounds_toArray, List.set_cons_zero, List.set_cons_succ]
          refine anyT_val (⟨fun A => Below.refl _ _, fun A B C h k => h.trans k⟩ : Pre (Below b)) 37 rfl (by kernel_rfl) (by kernel_rfl) (by kernel_rfl) (fun _ _ _ _ h => h) rfl ?_; apply Exists.intro; refine ⟨fun v1 hv1 => ?_, ?_⟩; (· (go_simp; rfl)); simp only [Act.put, List.setIfInBounds_toArray, List.set_cons_zero, List.set_cons_succ]
          refine anyT_done (by kernel_rfl) ?_
          have hfin : Below w.heap.size w V5 := Below.trans (L5.trans (l6.trans M4)) (by rw [HB.out]; exact hbl9)
          go_wp2_with fail
          go_ret
          exact ⟨rfl, hfin⟩
      · obtain rfl : kk = k := by have := HKK.out; omega
        have hbs4 : b ≤ wO.heap.size := Nat.le_of_lt hT.blt
        go_wp2_with fail
        refine (list9_any b (some ⟨b, 0, none⟩) (mks kk) wO (.inr ⟨b, v, rfl, hT⟩) (by rw [mks_length]; omega)).mono ?_
        rw [mks_length]
        rintro e w4 ⟨l4, u4', rfl, hu4⟩
        have hu4' : w4.ownsRow wO.heap.size 30 8 u4' (mks kk).length (rus (mks kk)) := by rw [mks_length]; exact hu4
        obtain ⟨al, cl, rfl, hl1, hl2⟩ := (ownU_rd hu4').slice
        have hrd4 := ownU_rd hu4'
        rw [mks_length] at hrd4 hl1 ⊢
        have HRD4 := hide hrd4
        have hap : ∀ bx, (∃ ox cx, Value.slice al kk cl = .slice (some ⟨bx, ox, none⟩) (mks kk).length cx) → ¬ (bx = b ∨ v.ownBlock = some bx) := fun bx ⟨ox, cx, e⟩ h => by
          have hown : (Value.slice al kk cl).ownBlock = some bx := by rw [e]; rfl
          have hlt := (hu4'.lt bx (by rw [mks_length]; exact hown)).1
          rcases h with h | h
          · have := hT.blt; omega
          · have := (hT.lt h).2; omega
        have HAP := hide hap
        clear hap
        clear hu4 hu4' hrd4
        have hT4 := hT.later l4
        by_cases hk0 : kk = 0
        · subst hk0
          go_wp2_with fail
          refine (live9_any w4).mono ?_
          rintro e w5 ⟨rfl, l5⟩
          go_wp2_with fail
          go_ret
          exact ⟨rfl, hL.trans (l4.trans l5)⟩
        · obtain ⟨j, hj⟩ : ∃ r : Nat, at0 % (kk : Int) = (r : Int) := ⟨(at0 % (kk : Int)).toNat, by have := Int.emod_nonneg at0 (show (kk : Int) ≠ 0 by omega); omega⟩
          have hjt : at0.tmod (kk : Int) = (j : Int) := by rw [Int.tmod_eq_emod_of_nonneg ha.1]; exact hj
          have hjk : j < kk := by have := Int.emod_lt_of_pos at0 (show (0 : Int) < kk by omega); omega
          have hk0' : ¬ (kk : Int) = 0 := by omega
          have hdE : drE (mks kk) (j : Int) = 0 := drE_yes (by rw [mks_length]; exact hjk)
          have hdL : drL (mks kk) (j : Int) = (mks kk).eraseIdx j := drL_yes hdE
          have HD := drop9_any b b v (mks kk) (j : Int) w4 hT4 (by rw [mks_length]; omega)
          rw [hdE, hdL] at HD
          have HDR := hide HD
          clear HD hdE hdL
          go_wp2_with fail
          refine HDR.out.mono ?_
          rintro e w5 ⟨rfl, v5, hT5, hb5, f5⟩
          have hs4 := l4.size
          have hvl : ∀ g, v.ownBlock = some g → b ≤ g ∧ g < wO.heap.size := fun g hg => hT.lt hg
          have hbO : b < wO.heap.size := hT.blt
          have hrd5 : RdQ w4.heap.size w5 (.slice al kk cl) (mks kk) := by
            rcases HRD4.out with h | ⟨bx, ox, cx, q1, q2, q3, q4, q5, q6⟩
            · exact .inl h
            · refine .inr ⟨bx, ox, cx, q1, q2, q3, q4, q5, fun jj hjj ii hii => ?_⟩
              have hbx : ¬ (bx = b ∨ v.ownBlock = some bx) := HAP.out bx ⟨ox, cx, q1⟩
              exact ((World.cell?_of_block (w := w4) (hb5.block bx q5 hbx)).trans (q6 jj hjj ii hii))
          have HRD5 := hide hrd5
          have L5 : Later w w5 := Below.trans (hL.trans l4) (hb5.below (Nat.le_trans hL.size hs4) (fun x hx e => by rcases e with rfl | e; (· have := HB.out; omega); (· have := hvl x e; have := HB.out; omega)))
          have hs45 := hb5.size
          clear hrd5 HRD4 hb5
          have hjl : j ≤ cl := by omega
          have hs5 := L5.size
          have hlen5 : ((mks kk).eraseIdx j).length = kk - 1 := by rw [List.length_eraseIdx_of_lt (by rw [mks_length]; exact hjk), mks_length]
          go_wp2_with fail
          refine (list9_any b (some ⟨b, 0, none⟩) ((mks kk).eraseIdx j) w5 (.inr ⟨b, v5, rfl, hT5⟩) (by omega)).mono ?_
          rintro e w6 ⟨l6, u6, rfl, hu6⟩
          obtain ⟨am, cm, rfl, hm1, hm2⟩ := (ownU_rd hu6).slice
          have hrd6 := ownU_rd hu6
          rw [hlen5] at hrd6 hm1 ⊢
          have HRD6 := hide hrd6
          clear hu6 hrd6
          have hT6 := hT5.later l6
          have hrl6 := HRD5.out.below (l6.mono hs45)
          have HRL6 := hide hrl6
          clear hrl6 HRD5
          have hlast := last_add hkb hjk
          have HLA := hide hlast
          clear hlast
          have j1 : (j : Int) < kk := by omega
          have j2 : (j : Int) ≤ kk - 1 := by omega
          have j3 : j ≤ kk - 1 := by omega
          have j4 : j ≤ cm := by omega
          have j5 : j + 1 ≤ kk := by omega
          have j6 : (j : Int) + 1 ≤ kk := by omega
          have j7 : 1 ≤ kk := by omega
          have j8 : ((kk - 1 : Nat) : Int) = (kk : Int) - 1 := by omega
          have j9 : (j : Int) ≤ ((kk - 1 : Nat) : Int) := by omega
          have j10 : ¬ (j : Int) + 1 < 0 := by omega
          have hwr : IntKind.i64.wrap ((j : Int) + 1) = (j : Int) + 1 := by simp [IntKind.wrap, IntKind.bits, IntKind.signed]; omega
          have HWR := hide hwr
          have HWK : Hid (IntKind.i64.wrap ((kk : Int) - 1) = (kk : Int) - 1) := show _ = _ from by simp [IntKind.wrap, IntKind.bits, IntKind.signed]; omega
          clear hwr
          go_upto_region 17 with fail
          refine anyT_begin (R := Below b) 38 rfl (by kernel_rfl) ?_
          have ld : Later w6 w6.drew := Later.drew w6
          generalize w6.drew = Wd at *
          refine anyT_oneG 0 rfl (by kernel_rfl) (by rfl) ?_
          refine wp_enter 8 #[] (by go_simp) ?_
          refine (live9_any Wd).mono ?_
          rintro e V2 ⟨rfl, l2⟩
          have hbW : b ≤ Wd.heap.size := by have := ld.size; have := l6.size; have := HB.out; omega
          refine ⟨l2.mono hbW, ?_⟩
          simp only [Act.put, List.setIfInBounds_toArray, List.set_cons_zero, List.set_cons_succ]
          have M2 := ld.trans l2
          refine anyT_val (⟨fun A => Below.refl _ _, fun A B C h k => h.trans k⟩ : Pre (Below b)) 1 rfl (by kernel_rfl) (by kernel_rfl) (by kernel_rfl) (fun _ _ _ _ h => h) rfl ?_; apply Exists.intro; refine ⟨fun v1 hv1 => ?_, ?_⟩; (· (go_simp; rfl)); simp only [Act.put, List.setIfInBounds_toArray, List.set_cons_zero, List.set_cons_succ]
          refine anyT_valG (⟨fun A => Below.refl _ _, fun A B C h k => h.trans k⟩ : Pre (Below b)) 2 rfl (by kernel_rfl) (by kernel_rfl) (by kernel_rfl) (fun _ _ _ _ h => h) (by rfl) ?_; apply Exists.intro; refine ⟨fun v1 hv1 => ?_, ?_⟩; (· (go_simp; rfl)); simp only [Act.put, List.setIfInBounds_toArray, List.set_cons_zero, List.set_cons_succ]
          refine anyT_valG (⟨fun A => Below.refl _ _, fun A B C h k => h.trans k⟩ : Pre (Below b)) 3 rfl (by kernel_rfl) (by kernel_rfl) (by kernel_rfl) (fun _ _ _ _ h => h) (by rfl) ?_; apply Exists.intro; refine ⟨fun v1 hv1 => ?_, ?_⟩; (· (go_simp; rfl)); simp only [Act.put, List.setIfInBounds_toArray, List.set_cons_zero, List.set_cons_succ]
          refine anyT_val (⟨fun A => Below.refl _ _, fun A B C h k => h.trans k⟩ : Pre (Below b)) 4 rfl (by kernel_rfl) (by kernel_rfl) (by kernel_rfl) (fun _ _ _ _ h => h) rfl ?_; apply Exists.intro; refine ⟨fun v1 hv1 => ?_, ?_⟩; (· (go_simp; rfl)); simp only [Act.put, List.setIfInBounds_toArray, List.set_cons_zero, List.set_cons_succ]
          refine anyT_val (⟨fun A => Below.refl _ _, fun A B C h k => h.trans k⟩ : Pre (Below b)) 5 rfl (by kernel_rfl) (by kernel_rfl) (by kernel_rfl) (fun _ _ _ _ h => h) rfl ?_; apply Exists.intro; refine ⟨fun v1 hv1 => ?_, ?_⟩; (· (go_simp; rfl)); simp only [Act.put, List.setIfInBounds_toArray, List.set_cons_zero, List.set_cons_succ]
          refine anyT_valG (⟨fun A => Below.refl _ _, fun A B C h k => h.trans k⟩ : Pre (Below b)) 6 rfl (by kernel_rfl) (by kernel_rfl) (by kernel_rfl) (fun _ _ _ _ h => h) (by rfl) ?_; apply Exists.intro; refine ⟨fun v1 hv1 => ?_, ?_⟩; (· (go_simp; rfl)); simp only [Act.put, List.setIfInBounds_toArray, List.set_cons_zero, List.set_cons_succ]
          refine anyT_valG (⟨fun A => Below.refl _ _, fun A B C h k => h.trans k⟩ : Pre (Below b)) 7 rfl (by kernel_rfl) (by kernel_rfl) (by kernel_rfl) (fun _ _ _ _ h => h) (by rfl) ?_; apply Exists.intro; refine ⟨fun v1 hv1 => ?_, ?_⟩; (· (go_simp; rfl)); simp only [Act.put, List.setIfInBounds_toArray, List.set_cons_zero, List.set_cons_succ]
          refine anyT_valG (⟨fun A => Below.refl _ _, fun A B C h k => h.trans k⟩ : Pre (Below b)) 8 rfl (by kernel_rfl) (by kernel_rfl) (by kernel_rfl) (fun _ _ _ _ h => h) (by rfl) ?_; apply Exists.intro; refine ⟨fun v1 hv1 => ?_, ?_⟩; (· (go_simp; rfl)); simp only [Act.put, List.setIfInBounds_toArray, List.set_cons_zero, List.set_cons_succ]
          refine anyT_valG (⟨fun A => Below.refl _ _, fun A B C h k => h.trans k⟩ : Pre (Below b)) 9 rfl (by kernel_rfl) (by kernel_rfl) (by kernel_rfl) (fun _ _ _ _ h => h) (by rfl) ?_; apply Exists.intro; refine ⟨fun v1 hv1 => ?_, ?_⟩; (· (go_simp; rfl)); simp only [Act.put, List.setIfInBounds_toArray, List.set_cons_zero, List.set_cons_succ]
          refine anyT_valG (⟨fun A => Below.refl _ _, fun A B C h k => h.trans k⟩ : Pre (Below b)) 10 rfl (by kernel_rfl) (by kernel_rfl) (by kernel_rfl) (fun _ _ _ _ h => h) (by rfl) ⟨.bool true, fun v1 hv1 => ?_, ?_⟩
          · go_simp
            exact HWK.out.symm
          simp only [Act.put, List.setIfInBounds_toArray, List.set_cons_zero, List.set_cons_succ]
          refine anyT_val (⟨fun A => Below.refl _ _, fun A B C h k => h.trans k⟩ : Pre (Below b)) 11 rfl (by kernel_rfl) (by kernel_rfl) (by kernel_rfl) (fun _ _ _ _ h => h) rfl ?_; apply Exists.intro; refine ⟨fun v1 hv1 => ?_, ?_⟩; (· (go_simp; rfl)); simp only [Act.put, List.setIfInBounds_toArray, List.set_cons_zero, List.set_cons_succ]
          refine anyT_val (⟨fun A => Below.refl _ _, fun A B C h k => h.trans k⟩ : Pre (Below b)) 12 rfl (by kernel_rfl) (by kernel_rfl) (by kernel_rfl) (fun _ _ _ _ h => h) rfl ?_; apply Exists.intro; refine ⟨fun v1 hv1 => ?_, ?_⟩; (· (go_simp; rfl)); simp only [Act.put, List.setIfInBounds_toArray, List.set_cons_zero, List.set_cons_succ]
          refine anyT_valG (⟨fun A => Below.refl _ _, fun A B C h k => h.trans k⟩ : Pre (Below b)) 13 rfl (by kernel_rfl) (by kernel_rfl) (by kernel_rfl) (fun _ _ _ _ h => h) (by rfl) ?_; apply Exists.intro; refine ⟨fun v1 hv1 => ?_, ?_⟩; (· (go_simp; rfl)); simp only [Act.put, List.setIfInBounds_toArray, List.set_cons_zero, List.set_cons_succ]
          refine anyT_valG (⟨fun A => Below.refl _ _, fun A B C h k => h.trans k⟩ : Pre (Below b)) 14 rfl (by kernel_rfl) (by kernel_rfl) (by kernel_rfl) (fun _ _ _ _ h => h) (by rfl) ?_; apply Exists.intro; refine ⟨fun v1 hv1 => ?_, ?_⟩; (· (go_simp; rfl)); simp only [Act.put, List.setIfInBounds_toArray, List.set_cons_zero, List.set_cons_succ]
          refine anyT_valG (⟨fun A => Below.refl _ _, fun A B C h k => h.trans k⟩ : Pre (Below b)) 15 rfl (by kernel_rfl) (by kernel_rfl) (by kernel_rfl) (fun _ _ _ _ h => h) (by rfl) ⟨sliced am 0 j cm 8, fun v1 hv1 => by go_simp, ?_⟩
          simp only [Act.put, List.setIfInBounds_toArray, List.set_cons_zero, List.set_cons_succ]
          refine anyT_valG (⟨fun A => Below.refl _ _, fun A B C h k => h.trans k⟩ : Pre (Below b)) 16 rfl (by kernel_rfl) (by kernel_rfl) (by kernel_rfl) (fun _ _ _ _ h => h) (by rfl) ?_; apply Exists.intro; refine ⟨fun v1 hv1 => ?_, ?_⟩; (· (go_simp; rfl)); simp only [Act.put, List.setIfInBounds_toArray, List.set_cons_zero, List.set_cons_succ]
          refine anyT_valG (⟨fun A => Below.refl _ _, fun A B C h k => h.trans k⟩ : Pre (Below b)) 17 rfl (by kernel_rfl) (by kernel_rfl) (by kernel_rfl) (fun _ _ _ _ h => h) (by rfl) ?_; apply Exists.intro; refine ⟨fun v1 hv1 => ?_, ?_⟩; (· (go_simp; rfl)); simp only [Act.put, List.setIfInBounds_toArray, List.set_cons_zero, List.set_cons_succ]
          refine anyT_valG (⟨fun A => Below.refl _ _, fun A B C h k => h.trans k⟩ : Pre (Below b)) 18 rfl (by kernel_rfl) (by kernel_rfl) (by kernel_rfl) (fun _ _ _ _ h => h) (by rfl) ⟨sliced al 0 j cl 8, fun v1 hv1 => by go_simp, ?_⟩
          simp only [Act.put, List.setIfInBounds_toArray, List.set_cons_zero, List.set_cons_succ]
          have hX : RdQ w6.heap.size V2 (sliced am 0 j cm 8) ((mks kk).take j) := by
            have := (HRD6.out.below M2).upto j j3
            rw [erase_eq, List.take_left' (by rw [List.length_take, mks_length]; omega)] at this
            exact this
          have hY : RdQ w4.heap.size V2 (sliced al 0 j cl 8) ((mks kk).take j) := (HRL6.out.below (M2.mono (Nat.le_trans hs45 l6.size))).upto j (by omega)
          refine anyT_oneG 19 rfl (by kernel_rfl) (by rfl) ?_
          refine wp_enter 10 #[sliced am 0 j cm 8, sliced al 0 j cl 8] (by go_simp) ?_
          refine (same9_any w6.heap.size w4.heap.size _ _ _ _ V2 hX hY M2.size (Nat.le_trans hs45 (Nat.le_trans l6.size M2.size))).mono ?_
          rw [decide_eq_true (rfl : (mks kk).take j = (mks kk).take j)]
          rintro e V3 ⟨rfl, l3⟩
          refine ⟨l3.mono (Nat.le_trans hbW l2.size), ?_⟩
          clear hX hY
          simp only [Act.put, List.setIfInBounds_toArray, List.set_cons_zero, List.set_cons_succ]
          have M3 := M2.trans l3
          refine anyT_val (⟨fun A => Below.refl _ _, fun A B C h k => h.trans k⟩ : Pre (Below b)) 20 rfl (by kernel_rfl) (by kernel_rfl) (by kernel_rfl) (fun _ _ _ _ h => h) rfl ?_; apply Exists.intro; refine ⟨fun v1 hv1 => ?_, ?_⟩; (· (go_simp; rfl)); simp only [Act.put, List.setIfInBounds_toArray, List.set_cons_zero, List.set_cons_succ]
          refine anyT_val (⟨fun A => Below.refl _ _, fun A B C h k => h.trans k⟩ : Pre (Below b)) 21 rfl (by kernel_rfl) (by kernel_rfl) (by kernel_rfl) (fun _ _ _ _ h => h) rfl ?_; apply Exists.intro; refine ⟨fun v1 hv1 => ?_, ?_⟩; (· (go_simp; rfl)); simp only [Act.put, List.setIfInBounds_toArray, List.set_cons_zero, List.set_cons_succ]
          refine anyT_valG (⟨fun A => Below.refl _ _, fun A B C h k => h.trans k⟩ : Pre (Below b)) 22 rfl (by kernel_rfl) (by kernel_rfl) (by kernel_rfl) (fun _ _ _ _ h => h) (by rfl) ?_; apply Exists.intro; refine ⟨fun v1 hv1 => ?_, ?_⟩; (· (go_simp; rfl)); simp only [Act.put, List.setIfInBounds_toArray, List.set_cons_zero, List.set_cons_succ]
          refine anyT_valG (⟨fun A => Below.refl _ _, fun A B C h k => h.trans k⟩ : Pre (Below b)) 23 rfl (by kernel_rfl) (by kernel_rfl) (by kernel_rfl) (fun _ _ _ _ h => h) (by rfl) ?_; apply Exists.intro; refine ⟨fun v1 hv1 => ?_, ?_⟩; (· (go_simp; rfl)); simp only [Act.put, List.setIfInBounds_toArray, List.set_cons_zero, List.set_cons_succ]
          refine anyT_valG (⟨fun A => Below.refl _ _, fun A B C h k => h.trans k⟩ : Pre (Below b)) 24 rfl (by kernel_rfl) (by kernel_rfl) (by kernel_rfl) (fun _ _ _ _ h => h) (by rfl) ⟨sliced am j (kk - 1) cm 8, fun v1 hv1 => by go_simp, ?_⟩
          simp only [Act.put, List.setIfInBounds_toArray, List.set_cons_zero, List.set_cons_succ]
          refine anyT_valG (⟨fun A => Below.refl _ _, fun A B C h k => h.trans k⟩ : Pre (Below b)) 25 rfl (by kernel_rfl) (by kernel_rfl) (by kernel_rfl) (fun _ _ _ _ h => h) (by rfl) ?_; apply Exists.intro; refine ⟨fun v1 hv1 => ?_, ?_⟩; (· (go_simp; rfl)); simp only [Act.put, List.setIfInBounds_toArray, List.set_cons_zero, List.set_cons_succ]
          refine anyT_valG (⟨fun A => Below.refl _ _, fun A B C h k => h.trans k⟩ : Pre (Below b)) 26 rfl (by kernel_rfl) (by kernel_rfl) (by kernel_rfl) (fun _ _ _ _ h => h) (by rfl) ?_; apply Exists.intro; refine ⟨fun v1 hv1 => ?_, ?_⟩; (· (go_simp; rfl)); simp only [Act.put, List.setIfInBounds_toArray, List.set_cons_zero, List.set_cons_succ]
          refine anyT_valG (⟨fun A => Below.refl _ _, fun A B C h k => h.trans k⟩ : Pre (Below b)) 27 rfl (by kernel_rfl) (by kernel_rfl) (by kernel_rfl) (fun _ _ _ _ h => h) (by rfl) ⟨.int .i64 ((j : Int) + 1), fun v1 hv1 => by go_simp; rw [HWR.out], ?_⟩
          simp only [Act.put, List.setIfInBounds_toArray, List.set_cons_zero, List.set_cons_succ]
          refine anyT_valG (⟨fun A => Below.refl _ _, fun A B C h k => h.trans k⟩ : Pre (Below b)) 28 rfl (by kernel_rfl) (by kernel_rfl) (by kernel_rfl) (fun _ _ _ _ h => h) (by rfl) ⟨sliced al (j + 1) kk cl 8, fun v1 hv1 => by go_simp, ?_⟩
          simp only [Act.put, List.setIfInBounds_toArray, List.set_cons_zero, List.set_cons_succ]
          have hX : RdQ w6.heap.size V3 (sliced am j (kk - 1) cm 8) ((mks kk).drop (j + 1)) := by
            have := (HRD6.out.below M3).from j j3
            rw [erase_eq, List.drop_left' (by rw [List.length_take, mks_length]; omega)] at this
            exact this
          have hY : RdQ w4.heap.size V3 (sliced al (j + 1) kk cl 8) ((mks kk).drop (j + 1)) := (HRL6.out.below (M3.mono (Nat.le_trans hs45 l6.size))).from (j + 1) j5
          refine anyT_oneG 29 rfl (by kernel_rfl) (by rfl) ?_
          refine wp_enter 10 #[sliced am j (kk - 1) cm 8, sliced al (j + 1) kk cl 8] (by go_simp) ?_
          refine (same9_any w6.heap.size w4.heap.size _ _ _ _ V3 hX hY M3.size (Nat.le_trans hs45 (Nat.le_trans l6.size M3.size))).mono ?_
          rw [decide_eq_true (rfl : (mks kk).drop (j + 1) = (mks kk).drop (j + 1))]
          rintro e V4 ⟨rfl, l4'⟩
          refine ⟨l4'.mono (Nat.le_trans hbW (l2.trans l3).size), ?_⟩
          clear hX hY
          simp only [Act.put, List.setIfInBounds_toArray, List.set_cons_zero, List.set_cons_succ]
          have M4 := M3.trans l4'
          refine anyT_val (⟨fun A => Below.refl _ _, fun A B C h k => h.trans k⟩ : Pre (Below b)) 30 rfl (by kernel_rfl) (by kernel_rfl) (by kernel_rfl) (fun _ _ _ _ h => h) rfl ?_; apply Exists.intro; refine ⟨fun v1 hv1 => ?_, ?_⟩; (· (go_simp; rfl)); simp only [Act.put, List.setIfInBounds_toArray, List.set_cons_zero, List.set_cons_succ]
          refine anyT_val (⟨fun A => Below.refl _ _, fun A B C h k => h.trans k⟩ : Pre (Below b)) 31 rfl (by kernel_rfl) (by kernel_rfl) (by kernel_rfl) (fun _ _ _ _ h => h) rfl ?_; apply Exists.intro; refine ⟨fun v1 hv1 => ?_, ?_⟩; (· (go_simp; rfl)); simp only [Act.put, List.setIfInBounds_toArray, List.set_cons_zero, List.set_cons_succ]
          refine anyT_valG (⟨fun A => Below.refl _ _, fun A B C h k => h.trans k⟩ : Pre (Below b)) 32 rfl (by kernel_rfl) (by kernel_rfl) (by kernel_rfl) (fun _ _ _ _ h => h) (by rfl) ?_; apply Exists.intro; refine ⟨fun v1 hv1 => ?_, ?_⟩; (· (go_simp; rfl)); simp only [Act.put, List.setIfInBounds_toArray, List.set_cons_zero, List.set_cons_succ]
          refine anyT_valG (⟨fun A => Below.refl _ _, fun A B C h k => h.trans k⟩ : Pre (Below b)) 33 rfl (by kernel_rfl) (by kernel_rfl) (by kernel_rfl) (fun _ _ _ _ h => h) (by rfl) ?_; apply Exists.intro; refine ⟨fun v1 hv1 => ?_, ?_⟩; (· (go_simp; rfl)); simp only [Act.put, List.setIfInBounds_toArray, List.set_cons_zero, List.set_cons_succ]
          have hbV : b ≤ V4.heap.size := Nat.le_trans hbW (l2.trans (l3.trans l4')).size
          refine anyT_oneG 34 rfl (by kernel_rfl) (by rfl) ?_
          refine wp_enter 6 #[.pointer (some ⟨b, 0, none⟩), .agg #[.int .i64 1, .int .u8 0, .int .u32 0, .int .i64 0, .int .u32 5, .int .u16 0, .int .u32 0, .int .u16 0]] (by go_simp) ?_
          refine (add9_any b b v5 ((mks kk).eraseIdx j) lastR V4 (hT6.later M4) last_wf (by omega) hbV).mono ?_
          rw [HLA.out]
          rintro e V5 ⟨rfl, v9, hT9, hb9, f9⟩
          have hbl9 : Below b V4 V5 := hb9.below hbV (fun x hx e => by rcases e with rfl | e; (· omega); (· have := (hT5.lt e).1; omega))
          refine ⟨hbl9, ?_⟩
          simp only [Act.put, List.setIfInBounds_toArray, List.set_cons_zero, List.set_cons_succ]
          refine anyT_valG (⟨fun A => Below.refl _ _, fun A B C h k => h.trans k⟩ : Pre (Below b)) 35 rfl (by kernel_rfl) (by kernel_rfl) (by kernel_rfl) (fun _ _ _ _ h => h) (by rfl) ?_; apply Exists.intro; refine ⟨fun v1 hv1 => ?_, ?_⟩; (· (go_simp; rfl)); simp only [Act.put, List.setIfInBounds_toArray, List.set_cons_zero, List.set_cons_succ]
          refine anyT_val (⟨fun A => Below.refl _ _, fun A B C h k => h.trans k⟩ : Pre (Below b)) 36 rfl (by kernel_rfl) (by kernel_rfl) (by kernel_rfl) (fun _ _ _ _ h => h) rfl ?_; apply Exists.intro; refine ⟨fun v1 hv1 => ?_, ?_⟩; (· (go_simp; rfl)); simp only [Act.put, List.setIfInBounds_toArray, List.set_cons_zero, List.set_cons_succ]
          refine anyT_val (⟨fun A => Below.refl _ _, fun A B C h k => h.trans k⟩ : Pre (Below b)) 37 rfl (by kernel_rfl) (by kernel_rfl) (by kernel_rfl) (fun _ _ _ _ h => h) rfl ?_; apply Exists.intro; refine ⟨fun v1 hv1 => ?_, ?_⟩; (· (go_simp; rfl)); simp only [Act.put, List.setIfInBounds_toArray, List.set_cons_zero, List.set_cons_succ]
          refine anyT_done (by kernel_rfl) ?_
          have hfin : Below w.heap.size w V5 := Below.trans (L5.trans (l6.trans M4)) (by rw [HB.out]; exact hbl9)
          go_wp2_with fail
          go_ret
          exact ⟨rfl, hfin⟩
end Go.Proofs.Ytgjemeibaghfaab
