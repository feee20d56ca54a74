/- Several texts in one. -/
import Derived.Test.YtehdgndbloaljaaDoorX2
import Derived.Laws.Closers25b
import Derived.Laws.BitsLemmas
import Derived.Test.YtehdgndbloaljaaDoorVS
import Derived.Lib.ConvBytes
import Derived.OwnWalk
import Derived.Test.YtehdgndbloaljaaDoorX3
import Derived.Deep.Cut
/- The document's digits and addresses, as lines have them. -/
namespace Go.Proofs.YtehdgndbloaljaaDoor
open Go.RowKit Go.Shelf
set_option maxRecDepth 100000
set_option linter.unusedVariables false
set_option linter.unusedSimpArgs false

/-- A number as the document writes it. -/
def TDigsAt (n : Nat) : Prop := ∀ w : World, Calls Tryd.prog 66 #[.int .i64 (n : Int)] w fun e w' => e = .returned (.string (decB n)) ∧ Later w w'

set_option maxRecDepth 100000 in
set_option maxHeartbeats 8000000 in
theorem tdigits_step (n : Nat) (hn : n ≤ 9223372036854775807) (hi : 10 ≤ n → TDigsAt (n / 10)) : TDigsAt n := by
  intro w
  have hn' : (n : Int) ≤ 9223372036854775807 := by omega
  by_cases h10 : n < 10
  · have h1 : (n : Int) < 10 := by omega
    have HV := hide (decB_small h10)
    go_enter Tryd.func66, Tryd.ntmps66
    have hcv := conv_rd 22 9 5 Tryd.underlying22 Tryd.underlying5 Tryd.underlying9 (rd_one w (48 + (n : Int)))
    generalize hrs : strOfNums [48 + (n : Int)] = rs at *
    go_wp2_with fail
    go_ret
    exact ⟨by rw [HV.out]; rfl, later_allocR _ _⟩
  · have h1 : ¬ (n : Int) < 10 := by omega
    have HV := hide (decB_big (n := n) (by omega))
    have HI := hide (hi (by omega))
    have hds : (decB (n / 10)).size ≤ 20 := decB_len _ (by omega)
    go_enter Tryd.func66, Tryd.ntmps66
    go_upto_region 3 with fail
    refine anyR_begin (R := Later) Later.pre Later.drew 11 rfl (by kernel_rfl) (fun V0 hV0 => ?_)
    refine anyR_val Later.pre 0 rfl (by kernel_rfl) (by kernel_rfl) (by kernel_rfl) (fun _ _ _ _ h => h) rfl ?_; apply Exists.intro; refine ⟨fun v1 hv1 => ?_, ?_⟩; (· (go_simp; rfl)); simp only [Act.put, List.setIfInBounds_toArray, List.set_cons_zero, List.set_cons_succ]
    refine anyR_val Later.pre 3 rfl (by kernel_rfl) (by kernel_rfl) (by kernel_rfl) (fun _ _ _ _ h => h) rfl ?_; apply Exists.intro; refine ⟨fun v1 hv1 => ?_, ?_⟩; (· (go_simp; rfl)); simp only [Act.put, List.setIfInBounds_toArray, List.set_cons_zero, List.set_cons_succ]
    refine anyR_val Later.pre 1 rfl (by kernel_rfl) (by kernel_rfl) (by kernel_rfl) (fun _ _ _ _ h => h) rfl ?_; apply Exists.intro; refine ⟨fun v1 hv1 => ?_, ?_⟩; (· (go_simp; rfl)); simp only [Act.put, List.setIfInBounds_toArray, List.set_cons_zero, List.set_cons_succ]
    refine anyR_val Later.pre 4 rfl (by kernel_rfl) (by kernel_rfl) (by kernel_rfl) (fun _ _ _ _ h => h) rfl ?_; apply Exists.intro; refine ⟨fun v1 hv1 => ?_, ?_⟩; (· (go_simp; rfl)); simp only [Act.put, List.setIfInBounds_toArray, List.set_cons_zero, List.set_cons_succ]
    have e1 : IntKind.i64.wrap ((n : Int) / 10) = ((n / 10 : Nat) : Int) := by
      have h : (n : Int) / 10 = ((n / 10 : Nat) : Int) := by omega
      rw [h]
      exact wrI (by omega) (by omega)
    have e2 : (n : Int).tmod 10 = ((n % 10 : Nat) : Int) := by rw [Int.tmod_eq_emod_of_nonneg (by omega)]; omega
    simp only [e1, e2]
    clear e1 e2
    have hm9 : n % 10 ≤ 9 := by omega
    generalize n % 10 = r at *
    generalize n / 10 = q at *
    have hm9' : (r : Int) ≤ 9 := by omega
    refine anyR_take Later.pre 2 (.string (decB q)) rfl (by kernel_rfl) (by kernel_rfl) (by kernel_rfl) (fun _ _ _ h => h) rfl (fun u hu => goes_call 66 #[.int .i64 (q : Int)] (by go_simp) (HI.out u)) ?_
    simp only [Act.put, List.setIfInBounds_toArray, List.set_cons_zero, List.set_cons_succ]
    refine anyR_val Later.pre 5 rfl (by kernel_rfl) (by kernel_rfl) (by kernel_rfl) (fun _ _ _ _ h => h) rfl ?_; apply Exists.intro; refine ⟨fun v1 hv1 => ?_, ?_⟩; (· (go_simp; rfl)); simp only [Act.put, List.setIfInBounds_toArray, List.set_cons_zero, List.set_cons_succ]
    refine anyR_val Later.pre 6 rfl (by kernel_rfl) (by kernel_rfl) (by kernel_rfl) (fun _ _ _ _ h => h) rfl ?_; apply Exists.intro; refine ⟨fun v1 hv1 => ?_, ?_⟩; (· (go_simp; rfl)); simp only [Act.put, List.setIfInBounds_toArray, List.set_cons_zero, List.set_cons_succ]
    simp only [wrI (x := 48 + (r : Int)) (by omega) (by omega), wrB (x := 48 + (r : Int)) (by omega) (by omega)]
    refine anyR_one 7 rfl (by kernel_rfl) rfl (fun V1 hV1 => ?_)
    unfold Oper.wp
    go_simp
    have l2 := later_allocR V1 (.cells #[.int .u8 (48 + (r : Int))] 5)
    have HR := hide (rd_one V1 (48 + (r : Int)))
    refine ⟨l2, ?_⟩
    change wpAnyR _ _ _ _ _ _ _ _ (V1.alloc (.cells #[.int .u8 (48 + (r : Int))] 5))
    generalize V1.alloc (.cells #[.int .u8 (48 + (r : Int))] 5) = V2 at *
    have qc : ∀ u, Later V2 u → (convert 22 9 (.slice (some ⟨V1.heap.size, 0, none⟩) 1 1)).run Tryd.prog u = .ok (.string (strOfNums [48 + (r : Int)])) u := fun u hu => conv_rd 22 9 5 Tryd.underlying22 Tryd.underlying5 Tryd.underlying9 (HR.out.later hu)
    have hss : (strOfNums [48 + (r : Int)]).size = 1 := strOfNums_size _
    have hss2 : (strOfNums [48 + (r : Int)]).size ≤ 1 := by omega
    clear hss
    generalize strOfNums [48 + (r : Int)] = rs at *
    generalize V1.heap.size = g1 at *
    generalize decB q = dq at *
    refine anyR_val Later.pre 8 rfl (by kernel_rfl) (by kernel_rfl) (by kernel_rfl) (fun _ _ _ _ h => h) rfl ?_; apply Exists.intro; refine ⟨fun v1 hv1 => ?_, ?_⟩; (· (go_simp; rfl)); simp only [Act.put, List.setIfInBounds_toArray, List.set_cons_zero, List.set_cons_succ]
    clear qc
    refine anyR_val Later.pre 9 rfl (by kernel_rfl) (by kernel_rfl) (by kernel_rfl) (fun _ _ _ _ h => h) rfl ⟨.string (dq ++ rs), fun v1 hv1 => (by go_simp; omega), ?_⟩; simp only [Act.put, List.setIfInBounds_toArray, List.set_cons_zero, List.set_cons_succ]
    refine anyR_val Later.pre 10 rfl (by kernel_rfl) (by kernel_rfl) (by kernel_rfl) (fun _ _ _ _ h => h) rfl ?_; apply Exists.intro; refine ⟨fun v1 hv1 => ?_, ?_⟩; (· (go_simp; rfl)); simp only [Act.put, List.setIfInBounds_toArray, List.set_cons_zero, List.set_cons_succ]
    refine anyR_done (by kernel_rfl) (fun V9 hV9 => ?_)
    have L9 : Later w V9 := hV0.trans (hV1.trans (l2.trans hV9))
    go_wp2_with fail
    go_ret
    exact ⟨by rw [HV.out]; rfl, L9⟩
theorem tdigits_any (n : Nat) (hn : n ≤ 9223372036854775807) : TDigsAt n := by
  induction n using Nat.strongRecOn with
  | ind n ih => exact tdigits_step n hn (fun h => ih (n / 10) (by omega) (by omega))

theorem tand255 {x : Int} (h₀ : 0 ≤ x) (h₁ : x < 4294967296) : bits .and .u32 x 255 = x % 256 := by first | exact bits_mask .u32 32 (by decide) wraps_u32 8 (by decide) x h₀ h₁ | go_bits2
theorem tdigI (z : Int) (h : 0 ≤ z ∧ z ≤ 65535) (w : World) : Calls Tryd.prog 66 #[.int .i64 z] w fun e w' => e = .returned (.string (decB z.toNat)) ∧ Later w w' := by
  have := tdigits_any z.toNat (by omega) w
  rwa [Int.toNat_of_nonneg h.1] at this

set_option maxRecDepth 100000 in
set_option maxHeartbeats 4000000 in
theorem tdotted_any (a : Int) (h : 0 ≤ a ∧ a ≤ 4294967295) (w : World) :
    Calls Tryd.prog 50 #[.int .u32 a, .string tDot] w fun e w' => e = .returned (.string (adB a)) ∧ Later w w' := by
  obtain ⟨h0, h1⟩ := h
  have HV := hide (adB_form a)
  have s1 := decB_size (a / 16777216).toNat (by omega)
  have s2 := decB_size (a / 65536 % 256).toNat (by omega)
  have s3 := decB_size (a / 256 % 256).toNat (by omega)
  have s4 := decB_size (a % 256).toNat (by omega)
  have H1 := hide (fun w => tdigI (a / 16777216) (by omega) w)
  have H2 := hide (fun w => tdigI (a / 65536 % 256) (by omega) w)
  have H3 := hide (fun w => tdigI (a / 256 % 256) (by omega) w)
  have H4 := hide (fun w => tdigI (a % 256) (by omega) w)
  generalize decB (a / 16777216).toNat = d1 at *
  generalize decB (a / 65536 % 256).toNat = d2 at *
  generalize decB (a / 256 % 256).toNat = d3 at *
  generalize decB (a % 256).toNat = d4 at *
  have m2 : bits .and .u32 (a / 65536) 255 = a / 65536 % 256 := tand255 (by omega) (by omega)
  have m3 : bits .and .u32 (a / 256) 255 = a / 256 % 256 := tand255 (by omega) (by omega)
  have m4 : a.tmod 256 = a % 256 := Int.tmod_eq_emod_of_nonneg h0
  have e1 : ByteArray.size tDot = 1 := rfl
  have b2 : 0 ≤ a / 65536 % 256 ∧ a / 65536 % 256 ≤ 255 := by omega
  have b3 : 0 ≤ a / 256 % 256 ∧ a / 256 % 256 ≤ 255 := by omega
  have b4 : 0 ≤ a % 256 ∧ a % 256 ≤ 255 := by omega
  go_enter Tryd.func50, Tryd.ntmps50
  go_wp2_with fail
  refine (H1.out w).mono ?_
  rintro e w1 ⟨rfl, l1⟩
  go_wp2_with fail
  refine (H2.out w1).mono ?_
  rintro e w2 ⟨rfl, l2⟩
  go_wp2_with fail
  refine (H3.out w2).mono ?_
  rintro e w3 ⟨rfl, l3⟩
  go_wp2_with fail
  refine (H4.out w3).mono ?_
  rintro e w4 ⟨rfl, l4⟩
  go_wp2_with fail
  go_ret
  refine ⟨?_, Later.trans l1 (l2.trans (l3.trans l4))⟩
  rw [HV.out]
  show Ending.returned (.string (d1 ++ tDot ++ d2 ++ tDot ++ d3 ++ tDot ++ d4)) = _
  simp only [ByteArray.append_assoc]

set_option maxHeartbeats 4000000 in
theorem rconn_any (l : ByteArray) (a : Int) (h : 0 ≤ a ∧ a ≤ 4294967295) (w : World) :
    Calls Tryd.prog 31 #[.string l, .int .u32 a] w fun e w' => e = .returned (.bool (eqS l (cnB ++ adB a))) ∧ Later w w' := by
  have HD := hide (fun W => tdotted_any a h W)
  have hs := adB_size a h
  have HQ : Hid ((l.toList == (⟨#[99, 61, 73, 78, 32, 73, 80, 52, 32]⟩ ++ adB a : ByteArray).toList) = eqS l (cnB ++ adB a)) := str_beq l (cnB ++ adB a)
  generalize adB a = ad at *
  have e9 : ByteArray.size ⟨#[99, 61, 73, 78, 32, 73, 80, 52, 32]⟩ = 9 := rfl
  go_enter Tryd.func31, Tryd.ntmps31
  go_wp2_with fail
  refine (HD.out w).mono ?_
  rintro e w1 ⟨rfl, l1⟩
  have hq := HQ.out
  go_wp2_with fail
  go_ret
  exact ⟨rfl, l1⟩
end Go.Proofs.YtehdgndbloaljaaDoor

/- The first two signs of a kind in a text: mathematics. -/
namespace Go.Proofs.YtehdgndbloaljaaDoor
open Go.RowKit Go.Shelf
set_option maxRecDepth 100000
set_option linter.unusedVariables false
set_option linter.unusedSimpArgs false

theorem occ2 (s : List UInt8) (a b : UInt8) (j : Nat) : Lib.occAt s [a, b] j = true ↔ s[j]? = some a ∧ s[j + 1]? = some b := by
  have e0 : s[j]? = (s.drop j)[0]? := by rw [List.getElem?_drop]; rfl
  have e1 : s[j + 1]? = (s.drop j)[1]? := by rw [List.getElem?_drop]
  unfold Lib.occAt
  rw [e0, e1]
  rcases s.drop j with _ | ⟨x, _ | ⟨y, t⟩⟩
  · simp [List.isPrefixOf]
  · simp [List.isPrefixOf]
  · show ((a == x) && ((b == y) && true)) = true ↔ _
    rw [Bool.and_eq_true, Bool.and_true, beq_iff_eq, beq_iff_eq]
    simp only [List.getElem?_cons_zero, List.getElem?_cons_succ, Option.some.injEq]
    constructor <;> rintro ⟨rfl, rfl⟩ <;> exact ⟨rfl, rfl⟩
theorem bAt_of (s : ByteArray) (j : Nat) (c : UInt8) (h : j < s.size) : s.data.toList[j]? = some c ↔ bAt s j = (c.toNat : Int) := by
  have h' : j < s.data.toList.length := by rw [Array.length_toList]; exact h
  have e : s.get! j = s.data.toList[j] := by
    simp only [ByteArray.get!]
    rw [getElem!_pos s.data j h]
    simp
  rw [List.getElem?_eq_getElem h']
  unfold bAt
  rw [e]
  constructor
  · intro h; cases h; rfl
  · intro h; congr 1; exact UInt8.toNat_inj.1 (by omega)
/-- No such two ahead. -/
def No2 (s : ByteArray) (a b : Int) (i : Nat) : Prop := ∀ j, j < i → j + 1 < s.size → ¬ (bAt s j = a ∧ bAt s (j + 1) = b)
theorem No2.succ {s : ByteArray} {a b : Int} {i : Nat} (h : No2 s a b i) (hi : ¬ (bAt s i = a ∧ bAt s (i + 1) = b)) : No2 s a b (i + 1) := fun j hj hl => by
  rcases Nat.lt_or_eq_of_le (Nat.lt_succ_iff.1 hj) with q | rfl
  · exact h j q hl
  · exact hi
theorem occ2_no {s : ByteArray} {a b : UInt8} {j : Nat} (h : j + 1 < s.size → ¬ (bAt s j = (a.toNat : Int) ∧ bAt s (j + 1) = (b.toNat : Int))) : Lib.occAt s.data.toList [a, b] j = false := by
  cases hc : Lib.occAt s.data.toList [a, b] j with
  | false => rfl
  | true =>
    obtain ⟨h1, h2⟩ := (occ2 _ _ _ _).1 hc
    have hl : j + 1 < s.size := by
      have := (List.getElem?_eq_some_iff.1 h2).1
      rwa [Array.length_toList] at this
    exact absurd ⟨(bAt_of s j a (by omega)).1 h1, (bAt_of s (j + 1) b hl).1 h2⟩ (h hl)
theorem cut2_yes {s : ByteArray} {a b : UInt8} {i : Nat} (hi : i + 1 < s.size) (h1 : bAt s i = (a.toNat : Int)) (h2 : bAt s (i + 1) = (b.toNat : Int)) (hn : No2 s (a.toNat : Int) (b.toNat : Int) i) :
    cutF s ⟨#[a, b]⟩ = true ∧ cutA s ⟨#[a, b]⟩ = s.extract 0 i ∧ cutZ s ⟨#[a, b]⟩ = s.extract (i + 2) s.size := by
  have hl : s.data.toList.length = s.size := by rw [Array.length_toList]; rfl
  have g1 := (bAt_of s i a (by omega)).2 h1
  have g2 := (bAt_of s (i + 1) b hi).2 h2
  have es : (s.extract 0 i).size = i := by rw [ByteArray.size_extract]; omega
  refine cut_uniq ?_ ?_
  · apply ba_ext
    rw [ba_app, ba_app, ba_ext_list, ba_ext_list, List.drop_zero]
    have e1 : s.data.toList.take s.size = s.data.toList := by rw [← hl, List.take_length]
    rw [e1]
    have q1 : i < s.data.toList.length := by omega
    have q2 : i + 1 < s.data.toList.length := by omega
    rw [List.getElem?_eq_getElem q1] at g1
    rw [List.getElem?_eq_getElem q2] at g2
    conv => lhs; rw [← List.take_append_drop i s.data.toList, List.drop_eq_getElem_cons q1, List.drop_eq_getElem_cons q2]
    cases g1
    cases g2
    rfl
  · rw [es]
    exact fun j hj => occ2_no (fun hl => hn j hj hl)
theorem cut2_no {s : ByteArray} {a b : UInt8} {i : Nat} (hi : s.size ≤ i + 1) (hn : No2 s (a.toNat : Int) (b.toNat : Int) i) : cutF s ⟨#[a, b]⟩ = false := by
  cases hf : cutF s ⟨#[a, b]⟩ with
  | false => rfl
  | true =>
    have ho : Lib.occAt s.data.toList [a, b] (cutA s ⟨#[a, b]⟩).size = true := by
      rcases cut_spec s ⟨#[a, b]⟩ with ⟨_, he, _⟩ | ⟨hf', _⟩
      · unfold Lib.occAt
        conv => lhs; arg 2; rw [he]
        rw [ba_len, List.drop_left, List.isPrefixOf_iff_prefix]
        exact List.prefix_append _ _
      · rw [hf] at hf'; cases hf'
    rw [occ2_no (fun hl => hn _ (by omega) hl)] at ho
    cases ho
end Go.Proofs.YtehdgndbloaljaaDoor

/- The document's cut: a line, and what is behind its end. -/
namespace Go.Proofs.YtehdgndbloaljaaDoor
open Go.RowKit Go.Shelf
set_option maxRecDepth 100000
set_option linter.unusedVariables false
set_option linter.unusedSimpArgs false

/-- What the document's cut tells. -/
def RcQ (n₀ : Nat) (s : ByteArray) (W : World) (v : Value) : Prop :=
  (cutF s crB = true ∧ ∃ vb, v = .tuple #[.string (cutA s crB), vb, .bool true] ∧ Rd n₀ W vb (nmsB (cutZ s crB))) ∨
  (cutF s crB = false ∧ v = .tuple #[.string ⟨#[]⟩, .slice none 0 0, .bool false])
theorem str_take (zb : List Int) (i : Nat) (hi : i ≤ zb.length) : (strOfNums zb).extract 0 i = strOfNums (zb.take i) := by
  apply ba_ext
  rw [ba_ext_list, strOfNums_data, strOfNums_data, List.drop_zero, List.map_take]
theorem str_drop (zb : List Int) (i : Nat) : (strOfNums zb).extract i (strOfNums zb).size = strOfNums (zb.drop i) := by
  apply ba_ext
  rw [ba_ext_list, strOfNums_data, strOfNums_data, strOfNums_size, ← List.map_take, List.take_length, List.map_drop]
theorem by_drop {zb : List Int} (hy : Mt.By zb) (i : Nat) : Mt.By (zb.drop i) := fun z hz => hy z (List.mem_of_mem_drop hz)

set_option maxRecDepth 100000 in
set_option maxHeartbeats 8000000 in
theorem rcut_any (n₀ : Nat) (sb : Value) (zb : List Int) (w : World) (hn₀ : n₀ ≤ w.heap.size) (hB : Rd n₀ w sb zb) (hy : Mt.By zb) (hz : zb.length ≤ 1000000) :
    Calls Tryd.prog 21 #[sb] w fun e w' => Later w w' ∧ ∃ v, e = .returned v ∧ RcQ n₀ (strOfNums zb) w' v := by
  obtain ⟨ba, cp, rfl, hc1, hc2⟩ := hB.slice
  have hss : (strOfNums zb).size = zb.length := strOfNums_size zb
  go_enter Tryd.func21, Tryd.ntmps21
  go_upto_region 2 with fail
  go_loopw [5] (fun iv wr => ∃ i : Nat, i ≤ zb.length ∧ iv = .int .i64 (i : Int) ∧ wr = w ∧ Hid (No2 (strOfNums zb) 13 10 i)) (fun iv _ => zb.length - (intOf iv).toNat)
  case atStart => exact ⟨0, by omega, rfl, rfl, fun j hj => by omega⟩
  case round =>
    obtain ⟨i, hi, rfl, rfl, HN⟩ := hrel
    by_cases hlt : i + 1 < zb.length
    · have hlt' : (i : Int) + 1 < (zb.length : Int) := by omega
      have hb0 := strOf_at zb hy i (by omega)
      have hb1 := strOf_at zb hy (i + 1) hlt
      have hB' := hB
      rcases hB with ⟨_, _, _, rfl, _⟩ | ⟨b, off, cap, e, hne, hl, hm, hbn, hc⟩
      · simp at hlt
      cases e
      have d0 : wr.cell? ⟨b, off + i, none⟩ = some (.int .u8 (zb[i]?.getD 0)) := by rw [hc i (by omega), List.getElem?_eq_getElem (by omega)]
      have d1 : wr.cell? ⟨b, off + (i + 1), none⟩ = some (.int .u8 (zb[i + 1]?.getD 0)) := by rw [hc (i + 1) hlt, List.getElem?_eq_getElem hlt]
      generalize zb[i]?.getD 0 = x0 at *
      generalize zb[i + 1]?.getD 0 = x1 at *
      have HC : Hid (x0 = 13 → x1 = 10 → cutF (strOfNums zb) crB = true ∧ cutA (strOfNums zb) crB = strOfNums (zb.take i) ∧ cutZ (strOfNums zb) crB = strOfNums (zb.drop (i + 2))) := fun h0 h1 => by
        have := cut2_yes (s := strOfNums zb) (a := 13) (b := 10) (i := i) (by omega) (by rw [hb0, h0]; rfl) (by rw [hb1, h1]; rfl) HN.out
        rw [str_take zb i (by omega), str_drop] at this
        exact this
      have HS : Hid (¬ (x0 = 13 ∧ x1 = 10) → No2 (strOfNums zb) 13 10 (i + 1)) := fun h => HN.out.succ (by rw [hb0, hb1]; exact h)
      clear hb0 hb1 hc HN
      by_cases h0 : x0 = 13
      · by_cases h1 : x1 = 10
        · have HCC := hide (HC.out h0 h1)
          have HT := hide (hB'.take i (by omega))
          have HD := hide (Rd.drop (i + 2) (by omega) hB')
          have hby := hide (by_drop hy (i + 2))
          subst h0 h1
          clear HC HS
          have hcp1 : (i : Int) ≤ (cp : Int) := by omega
          have hcp2 : (i : Int) + 2 ≤ (zb.length : Int) := by omega
          have hcp3 : (cp : Int) ≤ 9223372036854775807 := by omega
          have hkw : Hid (IntKind.i64.wrap ((i : Int) + 2) = ((i + 2 : Nat) : Int)) := by (show _ = _); rw [IntKind.wrap_i64]; omega
          have hk2 : i + 2 ≤ zb.length := by omega
          generalize hkk : i + 2 = kk at *
          clear hkk
          have hk3 : (kk : Int) ≤ (zb.length : Int) := by omega
          have hk4 : (kk : Int) ≤ 9223372036854775807 := by omega
          go_upto_region 5 with fail
          clear d0 d1
          have hcv := fun W (l : Later wr W) => conv_rd 22 9 5 Tryd.underlying22 Tryd.underlying5 Tryd.underlying9 (HT.out.below (l.mono hn₀))
          refine anyR_begin (R := Later) Later.pre Later.drew 11 rfl (by kernel_rfl) (fun V0 hV0 => ?_)
          have qcv : ∀ v, Later V0 v → (convert 22 9 (.slice (some ⟨b, off, none⟩) i cp)).run Tryd.prog v = .ok (.string (strOfNums (zb.take i))) v := fun v hv => hcv v (hV0.trans hv)
          clear hcv
          refine anyR_val Later.pre 0 rfl (by kernel_rfl) (by kernel_rfl) (by kernel_rfl) (fun _ _ _ _ h => h) rfl ?_; apply Exists.intro; refine ⟨fun v1 hv1 => ?_, ?_⟩; (· (go_simp; rfl)); simp only [Act.put, List.setIfInBounds_toArray, List.set_cons_zero, List.set_cons_succ]
          refine anyR_val Later.pre 1 rfl (by kernel_rfl) (by kernel_rfl) (by kernel_rfl) (fun _ _ _ _ h => h) rfl ?_; apply Exists.intro; refine ⟨fun v1 hv1 => ?_, ?_⟩; (· (go_simp; rfl)); simp only [Act.put, List.setIfInBounds_toArray, List.set_cons_zero, List.set_cons_succ]
          refine anyR_val Later.pre 2 rfl (by kernel_rfl) (by kernel_rfl) (by kernel_rfl) (fun _ _ _ _ h => h) rfl ?_; apply Exists.intro; refine ⟨fun v1 hv1 => ?_, ?_⟩; (· (go_simp; rfl)); simp only [Act.put, List.setIfInBounds_toArray, List.set_cons_zero, List.set_cons_succ]
          refine anyR_val Later.pre 3 rfl (by kernel_rfl) (by kernel_rfl) (by kernel_rfl) (fun _ _ _ _ h => h) rfl ?_; apply Exists.intro; refine ⟨fun v1 hv1 => ?_, ?_⟩; (· (go_simp; rfl)); simp only [Act.put, List.setIfInBounds_toArray, List.set_cons_zero, List.set_cons_succ]
          refine anyR_val Later.pre 4 rfl (by kernel_rfl) (by kernel_rfl) (by kernel_rfl) (fun _ _ _ _ h => h) rfl ?_; apply Exists.intro; refine ⟨fun v1 hv1 => ?_, ?_⟩; (· (go_simp; rfl)); simp only [Act.put, List.setIfInBounds_toArray, List.set_cons_zero, List.set_cons_succ]
          refine anyR_val Later.pre 5 rfl (by kernel_rfl) (by kernel_rfl) (by kernel_rfl) (fun _ _ _ _ h => h) rfl ?_; apply Exists.intro; refine ⟨fun v1 hv1 => ?_, ?_⟩; (· (go_simp; rfl)); simp only [Act.put, List.setIfInBounds_toArray, List.set_cons_zero, List.set_cons_succ]
          refine anyR_val Later.pre 6 rfl (by kernel_rfl) (by kernel_rfl) (by kernel_rfl) (fun _ _ _ _ h => h) rfl ⟨.int .i64 (kk : Int), fun v1 hv1 => (by go_simp; exact hkw.out), ?_⟩
          simp only [Act.put, List.setIfInBounds_toArray, List.set_cons_zero, List.set_cons_succ]
          refine anyR_val Later.pre 7 rfl (by kernel_rfl) (by kernel_rfl) (by kernel_rfl) (fun _ _ _ _ h => h) rfl ⟨sliced (some ⟨b, off, none⟩) kk zb.length cp 1, fun v1 hv1 => (by go_simp; all_goals first | rfl | (intro _; omega) | omega), ?_⟩
          simp only [Act.put, List.setIfInBounds_toArray, List.set_cons_zero, List.set_cons_succ]
          generalize sliced (some ⟨b, off, none⟩) kk zb.length cp 1 = vv at *
          obtain ⟨a9, c9, rfl, _, _⟩ := HD.out.slice
          generalize hn9 : (zb.drop kk).length = n9 at *
          clear hn9
          refine anyR_val Later.pre 8 rfl (by kernel_rfl) (by kernel_rfl) (by kernel_rfl) (fun _ _ _ _ h => h) rfl ?_; apply Exists.intro; refine ⟨fun v1 hv1 => ?_, ?_⟩; (· (go_simp; rfl)); simp only [Act.put, List.setIfInBounds_toArray, List.set_cons_zero, List.set_cons_succ]
          refine anyR_val Later.pre 9 rfl (by kernel_rfl) (by kernel_rfl) (by kernel_rfl) (fun _ _ _ _ h => h) rfl ?_; apply Exists.intro; refine ⟨fun v1 hv1 => ?_, ?_⟩; (· (go_simp; rfl)); simp only [Act.put, List.setIfInBounds_toArray, List.set_cons_zero, List.set_cons_succ]
          refine anyR_val Later.pre 10 rfl (by kernel_rfl) (by kernel_rfl) (by kernel_rfl) (fun _ _ _ _ h => h) rfl ?_; apply Exists.intro; refine ⟨fun v1 hv1 => ?_, ?_⟩; (· (go_simp; rfl)); simp only [Act.put, List.setIfInBounds_toArray, List.set_cons_zero, List.set_cons_succ]
          refine anyR_done (by kernel_rfl) (fun V9 hV9 => ?_)
          have RD := hide (HD.out.below ((hV0.trans hV9).mono hn₀))
          clear qcv HD
          go_wp2_with fail
          exact bodyPost_ret (v := .tuple #[.string (strOfNums (zb.take i)), .slice a9 n9 c9, .bool true]) (by simp [results, Tryd.results21, go_sem]) rfl ⟨hV0.trans hV9, _, rfl, .inl ⟨HCC.out.1, _, by rw [HCC.out.2.1], by rw [HCC.out.2.2, nmsB_str _ hby.out]; exact RD.out⟩⟩
        · have HSS := hide (HS.out (fun h => h1 h.2))
          have t1 : (x1 == 10) = false := by simp [h1]
          subst h0
          clear HC HS h1
          go_wp2_with fail
          go_roundw
          case rel => exact ⟨i + 1, by omega, by go_num, by first | trivial | rfl, HSS⟩
          case measure => simp [intOf]; omega
      · have HSS := hide (HS.out (fun h => h0 h.1))
        have t0 : (x0 == 13) = false := by simp [h0]
        clear HC HS h0
        go_wp2_with fail
        go_roundw
        case rel => exact ⟨i + 1, by omega, by go_num, by first | trivial | rfl, HSS⟩
        case measure => simp [intOf]; omega
    · have hnl : ¬ (i : Int) + 1 < (zb.length : Int) := by omega
      have HCN := hide (cut2_no (s := strOfNums zb) (a := 13) (b := 10) (i := i) (by omega) HN.out)
      go_wp2_with fail
      exact bodyPost_ret (v := .tuple #[.string ⟨#[]⟩, .slice none 0 0, .bool false]) (by simp [results, Tryd.results21, go_sem]) rfl ⟨Later.refl _, _, rfl, .inr ⟨HCN.out, rfl⟩⟩
end Go.Proofs.YtehdgndbloaljaaDoor

/- A line that names a port, as the document reads it: mathematics. -/
namespace Go.Proofs.YtehdgndbloaljaaDoor
open Go.RowKit Go.Shelf
set_option maxRecDepth 100000
set_option linter.unusedVariables false
set_option linter.unusedSimpArgs false

theorem bAt_L (l : ByteArray) (j : Nat) (h : j < l.data.toList.length) : bAt l j = ((l.data.toList[j]).toNat : Int) := by
  have h' : j < l.size := by rw [ba_len]; exact h
  exact (bAt_of l j (l.data.toList[j]) h').1 (List.getElem?_eq_getElem h)
theorem cut_empty {s p : ByteArray} (hs : s.size = 0) (hp : p.size ≠ 0) : cutF s p = false := by
  cases hf : cutF s p with
  | false => rfl
  | true =>
    have := congrArg ByteArray.size (cut_yes hf)
    rw [ByteArray.size_append, ByteArray.size_append] at this
    omega
theorem prV_digits {s : ByteArray} {p : Int} (h : prV s = some p) : ∀ u ∈ s.data.toList, dgt (u.toNat : Int) = true := fun u hu => by
  unfold prV at h
  cases hn : numV s 65535 with
  | none => rw [hn] at h; cases h
  | some v =>
    have h1 := (numV_some hn).1
    have hm : (u.toNat : Int) ∈ nmsB s := by unfold nmsB; exact List.mem_map.2 ⟨u, hu, rfl⟩
    rw [h1] at hm
    exact dg_dgt _ _ hm
theorem sp_no_lt {R : List UInt8} (hR : ∀ u ∈ R, ltC (u.toNat : Int) = true) : (32 : UInt8) ∉ R := fun h => by have := hR _ h; revert this; decide +kernel
theorem sp_no_dg {R : List UInt8} (hR : ∀ u ∈ R, dgt (u.toNat : Int) = true) : (32 : UInt8) ∉ R := fun h => by have := hR _ h; revert this; decide +kernel
theorem allN_ltC {s : ByteArray} : allN ltC s = true ↔ (∀ u ∈ s.data.toList, ltC (u.toNat : Int) = true) ∧ s.size ≠ 0 := by
  unfold allN
  rw [Bool.and_eq_true, allB_nms, List.all_eq_true]
  constructor
  · rintro ⟨h1, h2⟩
    exact ⟨fun u hu => h1 _ (by unfold nmsB; exact List.mem_map.2 ⟨u, hu, rfl⟩), by simpa using h2⟩
  · rintro ⟨h1, h2⟩
    refine ⟨fun z hz => ?_, by simpa using h2⟩
    unfold nmsB at hz
    obtain ⟨u, hu, rfl⟩ := List.mem_map.1 hz
    exact h1 u hu
/-- What such a line is made of. -/
theorem md_list {l a b : ByteArray} {p : Int} (h : mdO l = some (a, p, b)) : ∃ R A Z : List UInt8, l.data.toList = 109 :: 61 :: (R ++ 32 :: (A ++ 32 :: Z)) ∧ R ≠ [] ∧ (∀ u ∈ R, ltC (u.toNat : Int) = true) ∧ prV ⟨A.toArray⟩ = some p ∧ a.data.toList = 109 :: 61 :: (R ++ [32]) ∧ b.data.toList = 32 :: Z := by
  unfold mdO at h
  split at h
  · cases h
  rename_i h1
  split at h
  · cases h
  rename_i h2
  cases hp : prV (cutA (cutZ l spB) spB) with
  | none => rw [hp] at h; cases h
  | some q =>
    rw [hp] at h
    simp only at h
    split at h
    · cases h
    rename_i h3
    simp only [Option.some.injEq, Prod.mk.injEq] at h
    obtain ⟨ha, rfl, hb⟩ := h
    have h1' : hpB (cutA l spB) meB = true := by simpa using h1
    have h2' : cutF (cutZ l spB) spB = true := by simpa using h2
    have h3' : allN ltC (tpB (cutA l spB) meB) = true := by simpa using h3
    have hf : cutF l spB = true := by
      cases hf : cutF l spB with
      | true => rfl
      | false => rw [(cut_no hf).2, cut_empty (s := ⟨#[]⟩) rfl (by decide)] at h2'; cases h2'
    have e1 := cut_yes hf
    have e2 := cut_yes h2'
    have h1'' := h1'
    unfold hpB Lib.hasPrefix at h1'
    rw [List.isPrefixOf_iff_prefix] at h1'
    obtain ⟨R, hR⟩ := h1'
    have hR' : (cutA l spB).data.toList = 109 :: 61 :: R := hR.symm
    have ht : (tpB (cutA l spB) meB).data.toList = R := by
      unfold tpB Lib.trimPrefix
      unfold hpB at h1''
      rw [if_pos h1'', hR']
      rfl
    obtain ⟨hl, hn⟩ := allN_ltC.1 h3'
    rw [ht] at hl
    have e3 : (cutZ l spB).data.toList = (cutA (cutZ l spB) spB).data.toList ++ 32 :: (cutZ (cutZ l spB) spB).data.toList := by
      have := congrArg (fun s : ByteArray => s.data.toList) e2
      rw [ba_app, ba_app] at this
      exact this
    refine ⟨R, (cutA (cutZ l spB) spB).data.toList, (cutZ (cutZ l spB) spB).data.toList, ?_, ?_, hl, ?_, ?_, ?_⟩
    · have := congrArg (fun s : ByteArray => s.data.toList) e1
      rw [ba_app, ba_app, hR', e3] at this
      exact this
    · intro hr
      rw [ba_len, ht, hr] at hn
      exact hn rfl
    · have : (⟨(cutA (cutZ l spB) spB).data.toList.toArray⟩ : ByteArray) = cutA (cutZ l spB) spB := ba_ext (by simp)
      rw [this]
      exact hp
    · rw [← ha, ba_app, hR']
      rfl
    · rw [← hb, ba_ext_list, ba_len (cutZ l spB), List.take_length, e3, ba_len (cutA (cutZ l spB) spB), List.drop_left]
/-- What is made so is such a line. -/
theorem md_make {l : ByteArray} {R A Z : List UInt8} {p : Int} (hl : l.data.toList = 109 :: 61 :: (R ++ 32 :: (A ++ 32 :: Z))) (hR0 : R ≠ []) (hR : ∀ u ∈ R, ltC (u.toNat : Int) = true) (hp : prV ⟨A.toArray⟩ = some p) :
    mdO l = some (⟨(109 :: 61 :: (R ++ [32])).toArray⟩, p, ⟨(32 :: Z).toArray⟩) := by
  have hd := prV_digits hp
  simp only at hd
  obtain ⟨c1, c2, c3⟩ := cut_uniq (s := l) (p := spB) (a := ⟨(109 :: 61 :: R).toArray⟩) (z := ⟨(A ++ 32 :: Z).toArray⟩) (ba_ext (by rw [ba_app, ba_app, hl]; simp [spB])) (by
    rw [hl]
    have := noOcc1 (a := 109 :: 61 :: R) (r := 32 :: (A ++ 32 :: Z)) (c := 32) (by
      simp only [List.mem_cons]
      rintro (h | h | h)
      · exact absurd h (by decide)
      · exact absurd h (by decide)
      · exact sp_no_lt hR h)
    have e : ByteArray.size ⟨(109 :: 61 :: R).toArray⟩ = (109 :: 61 :: R).length := by simp [ByteArray.size]
    rw [e]
    simpa [spB] using this)
  obtain ⟨d1, d2, d3⟩ := cut_uniq (s := ⟨(A ++ 32 :: Z).toArray⟩) (p := spB) (a := ⟨A.toArray⟩) (z := ⟨Z.toArray⟩) (ba_ext (by rw [ba_app, ba_app]; simp [spB])) (by
    have := noOcc1 (a := A) (r := 32 :: Z) (c := 32) (sp_no_dg (fun u hu => hd u (by simpa using hu)))
    have e : ByteArray.size ⟨A.toArray⟩ = A.length := by simp [ByteArray.size]
    rw [e]
    simpa [spB] using this)
  have hh : hpB ⟨(109 :: 61 :: R).toArray⟩ meB = true := by
    unfold hpB Lib.hasPrefix
    rw [List.isPrefixOf_iff_prefix]
    exact ⟨R, by simp [meB]⟩
  have ht : tpB ⟨(109 :: 61 :: R).toArray⟩ meB = ⟨R.toArray⟩ := by
    apply ba_ext
    unfold tpB Lib.trimPrefix
    unfold hpB at hh
    rw [if_pos hh]
    simp [meB]
  have ha : allN ltC ⟨R.toArray⟩ = true := allN_ltC.2 ⟨fun u hu => hR u (by simpa using hu), by
    intro h
    have : R.length = 0 := by simpa [ByteArray.size] using h
    exact hR0 (List.eq_nil_of_length_eq_zero this)⟩
  unfold mdO
  rw [c2, c3, if_neg (by rw [hh]; simp), if_neg (by rw [d1]; simp), d2, hp]
  simp only
  rw [ht, if_neg (by rw [ha]; simp)]
  refine congrArg some (Prod.ext ?_ (Prod.ext rfl ?_))
  · apply ba_ext
    show (_ ++ _ : ByteArray).data.toList = _
    rw [ba_app]
    simp [spB]
  · apply ba_ext
    show (ByteArray.extract _ _ _).data.toList = _
    rw [ba_ext_list]
    have e : ByteArray.size ⟨A.toArray⟩ = A.length := by simp [ByteArray.size]
    have e2 : ByteArray.size ⟨(A ++ 32 :: Z).toArray⟩ = (A ++ 32 :: Z).length := by simp [ByteArray.size]
    rw [e, e2]
    simp only [List.take_length, List.drop_left]

/-- How far letters go. -/
def LtS (l : ByteArray) (n : Nat) : Prop := 2 ≤ n ∧ n ≤ l.size ∧ ∀ j, 2 ≤ j → j < n → ltC (bAt l j) = true
theorem LtS.succ {l : ByteArray} {n : Nat} (h : LtS l n) (hn : n < l.size) (hc : ltC (bAt l n) = true) : LtS l (n + 1) := ⟨by have := h.1; omega, by omega, fun j h1 h2 => by
  rcases Nat.lt_or_eq_of_le (Nat.lt_succ_iff.1 h2) with q | rfl
  · exact h.2.2 j h1 q
  · exact hc⟩
theorem nmsB_get (l : ByteArray) (j : Nat) (h : j < l.size) : (nmsB l)[j]?.getD 0 = bAt l j := (nmsB_at l j h).symm
/-- What the document's media tells. -/
def rmV (l : ByteArray) : Option (ByteArray × Int × ByteArray) → Value
  | none => .tuple #[.int .i64 0, .int .i64 0, .int .i64 0, .bool false]
  | some (a, p, b) => .tuple #[.int .i64 p, .int .i64 ((a.size : Nat) : Int), .int .i64 (((l.size - b.size : Nat)) : Int), .bool true]
/-- It begins otherwise. -/
theorem md_begin {l : ByteArray} (h : ¬ (2 ≤ l.size ∧ bAt l 0 = 109 ∧ bAt l 1 = 61)) : mdO l = none := by
  cases hm : mdO l with
  | none => rfl
  | some m =>
    obtain ⟨a, p, b⟩ := m
    obtain ⟨R, A, Z, hl, _⟩ := md_list hm
    have hlen := congrArg List.length hl
    simp only [List.length_cons, List.length_append] at hlen
    refine absurd ⟨by rw [ba_len]; omega, ?_, ?_⟩ h
    · rw [bAt_L l 0 (by omega)]; simp [hl]
    · rw [bAt_L l 1 (by omega)]; simp [hl]
/-- Where its letters and digits end. -/
theorem md_where {l a b : ByteArray} {p : Int} (h : mdO l = some (a, p, b)) {n : Nat} (hn : LtS l n) (hs : n = l.size ∨ ltC (bAt l n) = false) :
    2 < n ∧ n < l.size ∧ bAt l n = 32 ∧ numD (nmsB l) (n + 1) 65535 = some (p, l.size - b.size) ∧ 1 ≤ p ∧ l.size - b.size < l.size ∧ bAt l (l.size - b.size) = 32 ∧ a.size = n + 1 := by
  obtain ⟨R, A, Z, hl, hR0, hR, hp, ha, hb⟩ := md_list h
  have hlen := congrArg List.length hl
  simp only [List.length_cons, List.length_append] at hlen
  have hsz : l.size = R.length + A.length + Z.length + 4 := by rw [ba_len]; omega
  have hRl : 0 < R.length := List.length_pos_iff.2 hR0
  have hbs : b.size = Z.length + 1 := by rw [ba_len, hb]; rfl
  have q1 : ∀ j, 2 ≤ j → j < R.length + 2 → ltC (bAt l j) = true := fun j h1 h2 => by
    rw [bAt_L l j (by omega)]
    have : l.data.toList[j]'(by omega) = R[j - 2]'(by omega) := by
      simp only [hl]
      obtain ⟨k, rfl⟩ : ∃ k, j = k + 2 := ⟨j - 2, by omega⟩
      simp only [List.getElem_cons_succ, Nat.add_sub_cancel]
      rw [List.getElem_append_left (by omega)]
    rw [this]
    exact hR _ (List.getElem_mem _)
  have q2 : bAt l (R.length + 2) = 32 := by
    rw [bAt_L l _ (by omega)]
    have : l.data.toList[R.length + 2]'(by omega) = 32 := by
      simp only [hl, List.getElem_cons_succ]
      rw [List.getElem_append_right (Nat.le_refl _)]
      simp
    rw [this]
    rfl
  have hnn : n = R.length + 2 := by
    rcases Nat.lt_trichotomy n (R.length + 2) with g | g | g
    · rcases hs with hs | hs
      · omega
      · rw [q1 n hn.1 g] at hs; cases hs
    · exact g
    · have := hn.2.2 (R.length + 2) (by omega) g
      rw [q2] at this
      exact absurd this (by decide +kernel)
  have q3 : ∀ j, j < A.length → bAt l (R.length + 3 + j) = ((A[j]!).toNat : Int) := fun j hj => by
    rw [bAt_L l _ (by omega)]
    have : l.data.toList[R.length + 3 + j]'(by omega) = A[j] := by
      simp only [hl, show R.length + 3 + j = R.length + 1 + j + 1 + 1 from by omega, List.getElem_cons_succ]
      rw [List.getElem_append_right (by omega)]
      simp only [show R.length + 1 + j - R.length = j + 1 from by omega, List.getElem_cons_succ]
      rw [List.getElem_append_left hj]
    rw [this, getElem!_pos A j hj]
  have q4 : bAt l (R.length + 3 + A.length) = 32 := by
    rw [bAt_L l _ (by omega)]
    have : l.data.toList[R.length + 3 + A.length]'(by omega) = 32 := by
      simp only [hl, show R.length + 3 + A.length = R.length + 1 + A.length + 1 + 1 from by omega, List.getElem_cons_succ]
      rw [List.getElem_append_right (by omega)]
      simp only [show R.length + 1 + A.length - R.length = A.length + 1 from by omega, List.getElem_cons_succ]
      rw [List.getElem_append_right (Nat.le_refl _)]
      simp
    rw [this]
    rfl
  have hd := prV_digits hp
  simp only at hd
  have hpr := prV_rng _ hp
  have hby := nmsB_by l
  have hzl : (nmsB l).length = l.size := nmsB_len l
  have hdz : dgZ (nmsB l) (R.length + 3) = R.length + 3 + A.length := by
    have hle := dgZ_le (zs := nmsB l) (p := R.length + 3) (by omega)
    rcases Nat.lt_trichotomy (dgZ (nmsB l) (R.length + 3)) (R.length + 3 + A.length) with g | g | g
    · have := dgZ_out (zs := nmsB l) (p := R.length + 3) (by omega)
      rw [nmsB_get l _ (by omega)] at this
      obtain ⟨j, hj⟩ : ∃ j, dgZ (nmsB l) (R.length + 3) = R.length + 3 + j := ⟨_, (Nat.add_sub_cancel' hle.1).symm⟩
      rw [hj, q3 j (by omega), getElem!_pos A j (by omega), hd _ (by simp)] at this
      cases this
    · exact g
    · have := dgZ_in (zs := nmsB l) (p := R.length + 3) (j := R.length + 3 + A.length) (by omega) g
      rw [nmsB_get l _ (by omega), q4] at this
      exact absurd this (by decide +kernel)
  have hdS : dgS (nmsB l) (R.length + 3) = ⟨A.toArray⟩ := by
    unfold dgS
    rw [hdz]
    apply ba_ext
    rw [strOfNums_data, show R.length + 3 + A.length - (R.length + 3) = A.length from by omega]
    have e : (nmsB l).drop (R.length + 3) = (A ++ 32 :: Z).map fun u => (u.toNat : Int) := by
      unfold nmsB
      rw [← List.map_drop, hl]
      congr 1
      simp only [show R.length + 3 = R.length + 1 + 1 + 1 from rfl, List.drop_succ_cons]
      rw [show R.length + 1 = R.length + 1 from rfl, ← List.drop_drop, List.drop_left]
      rfl
    rw [e, List.map_append, List.take_left' (by simp), List.map_map]
    show List.map _ A = A
    have : ∀ u : UInt8, ((fun n : Int => UInt8.ofNat n.toNat) ∘ fun u : UInt8 => (u.toNat : Int)) u = u := fun u => by simp
    rw [List.map_congr_left (fun u _ => this u)]
    simp
  have hnv : numV ⟨A.toArray⟩ 65535 = some p := by
    unfold prV at hp
    cases hv : numV ⟨A.toArray⟩ 65535 with
    | none => rw [hv] at hp; cases hp
    | some v =>
      rw [hv] at hp
      simp only at hp
      split at hp
      · cases hp
      · exact hp
  have hnd : numD (nmsB l) (R.length + 3) 65535 = some (p, R.length + 3 + A.length) := by
    rw [numD_is hby (by omega) (by omega), hdS, hnv, hdz]
    rfl
  rw [hnn]
  have he : l.size - b.size = R.length + 3 + A.length := by omega
  rw [he]
  have has : a.size = R.length + 3 := by rw [ba_len, ha]; simp
  exact ⟨by omega, by omega, q2, hnd, hpr.1, by omega, q4, by omega⟩
/-- What the document finds so is such a line. -/
theorem md_found {l : ByteArray} (h0 : 2 ≤ l.size ∧ bAt l 0 = 109 ∧ bAt l 1 = 61) {n : Nat} (hn : LtS l n) (h2 : 2 < n) (hl : n < l.size) (hsp : bAt l n = 32) {p : Int} {e : Nat} (hd : numD (nmsB l) (n + 1) 65535 = some (p, e)) (hp : p ≠ 0) (he : e < l.size) (hes : bAt l e = 32) :
    mdO l ≠ none := by
  have hzl : (nmsB l).length = l.size := nmsB_len l
  have hlL : l.data.toList.length = l.size := by rw [ba_len]
  rw [numD_is (nmsB_by l) (by omega) (by omega)] at hd
  cases hv : numV (dgS (nmsB l) (n + 1)) 65535 with
  | none => rw [hv] at hd; cases hd
  | some v =>
    rw [hv] at hd
    simp only [Option.map_some, Option.some.injEq, Prod.mk.injEq] at hd
    obtain ⟨rfl, hde⟩ := hd
    have hle := dgZ_le (zs := nmsB l) (p := n + 1) (by omega)
    rw [hde] at hle
    have hdS : dgS (nmsB l) (n + 1) = ⟨((l.data.toList.drop (n + 1)).take (e - (n + 1))).toArray⟩ := by
      unfold dgS
      rw [hde]
      apply ba_ext
      rw [strOfNums_data]
      unfold nmsB
      rw [← List.map_drop, ← List.map_take, List.map_map]
      have : ∀ u : UInt8, ((fun n : Int => UInt8.ofNat n.toNat) ∘ fun u : UInt8 => (u.toNat : Int)) u = u := fun u => by simp
      rw [List.map_congr_left (fun u _ => this u)]
      simp
    have hpv : prV ⟨((l.data.toList.drop (n + 1)).take (e - (n + 1))).toArray⟩ = some v := by
      unfold prV
      rw [← hdS, hv]
      simp [hp]
    have g0 : l.data.toList[0]'(by omega) = 109 := by
      have := h0.2.1; rw [bAt_L l 0 (by omega)] at this; exact UInt8.toNat_inj.1 (by have e : (109 : UInt8).toNat = 109 := rfl; omega)
    have g1 : l.data.toList[1]'(by omega) = 61 := by
      have := h0.2.2; rw [bAt_L l 1 (by omega)] at this; exact UInt8.toNat_inj.1 (by have e : (61 : UInt8).toNat = 61 := rfl; omega)
    have g2 : l.data.toList[n]'(by omega) = 32 := by
      rw [bAt_L l n (by omega)] at hsp; exact UInt8.toNat_inj.1 (by have e : (32 : UInt8).toNat = 32 := rfl; omega)
    have g3 : l.data.toList[e]'(by omega) = 32 := by
      rw [bAt_L l e (by omega)] at hes; exact UInt8.toNat_inj.1 (by have e : (32 : UInt8).toNat = 32 := rfl; omega)
    have hform : l.data.toList = 109 :: 61 :: ((l.data.toList.drop 2).take (n - 2) ++ 32 :: ((l.data.toList.drop (n + 1)).take (e - (n + 1)) ++ 32 :: l.data.toList.drop (e + 1))) := by
      have a1 : l.data.toList = l.data.toList[0]'(by omega) :: l.data.toList[1]'(by omega) :: l.data.toList.drop 2 := by
        conv => lhs; rw [← List.drop_zero (l := l.data.toList), List.drop_eq_getElem_cons (by omega), List.drop_eq_getElem_cons (by omega)]
      have a2 : l.data.toList.drop 2 = (l.data.toList.drop 2).take (n - 2) ++ l.data.toList.drop n := by
        conv => lhs; rw [← List.take_append_drop (n - 2) (l.data.toList.drop 2), List.drop_drop]
        rw [show 2 + (n - 2) = n from by omega]
      have a3 : l.data.toList.drop n = l.data.toList[n]'(by omega) :: l.data.toList.drop (n + 1) := List.drop_eq_getElem_cons (by omega)
      have a4 : l.data.toList.drop (n + 1) = (l.data.toList.drop (n + 1)).take (e - (n + 1)) ++ l.data.toList.drop e := by
        conv => lhs; rw [← List.take_append_drop (e - (n + 1)) (l.data.toList.drop (n + 1)), List.drop_drop]
        rw [show n + 1 + (e - (n + 1)) = e from by omega]
      have a5 : l.data.toList.drop e = l.data.toList[e]'(by omega) :: l.data.toList.drop (e + 1) := List.drop_eq_getElem_cons (by omega)
      rw [g0, g1] at a1
      rw [g2] at a3
      rw [g3] at a5
      conv => lhs; rw [a1, a2, a3, a4, a5]
    rw [md_make hform (by
      intro h
      have := congrArg List.length h
      rw [List.length_take, List.length_drop] at this
      simp at this
      omega) (fun u hu => by
        obtain ⟨j, hj, rfl⟩ := List.getElem_of_mem hu
        rw [List.length_take, List.length_drop] at hj
        have := hn.2.2 (2 + j) (by omega) (by omega)
        rw [bAt_L l (2 + j) (by omega)] at this
        rw [List.getElem_take, List.getElem_drop]
        exact this) hpv]
    simp
end Go.Proofs.YtehdgndbloaljaaDoor

/- The walk of the document's media. -/
namespace Go.Proofs.YtehdgndbloaljaaDoor
open Go.RowKit Go.Shelf
set_option maxRecDepth 100000
set_option linter.unusedVariables false
set_option linter.unusedSimpArgs false

theorem ext2 {l : ByteArray} (h2 : 2 ≤ l.size) : ((l.extract 0 2).toList == [109, 61]) = decide (bAt l 0 = 109 ∧ bAt l 1 = 61) := by
  have hl : l.data.toList.length = l.size := by rw [ba_len]
  have b0 := bAt_L l 0 (by omega)
  have b1 := bAt_L l 1 (by omega)
  have e : (l.extract 0 2).toList = [l.data.toList[0]'(by omega), l.data.toList[1]'(by omega)] := by
    rw [ByteArray.toList_eq]
    show (l.extract 0 2).data.toList = _
    rw [ba_ext_list, List.drop_zero]
    have : l.data.toList = l.data.toList[0]'(by omega) :: l.data.toList[1]'(by omega) :: l.data.toList.drop 2 := by
      conv => lhs; rw [← List.drop_zero (l := l.data.toList), List.drop_eq_getElem_cons (by omega), List.drop_eq_getElem_cons (by omega)]
    conv => lhs; rw [this]
    rfl
  rw [e, b0, b1]
  have u : ∀ (x y : UInt8) (k : Nat), y.toNat = k → ((x == y) = decide ((x.toNat : Int) = (k : Int))) := fun x y k hk => by
    rw [Bool.eq_iff_iff, beq_iff_eq, decide_eq_true_eq]
    exact ⟨fun h => by rw [h, hk], fun h => UInt8.toNat_inj.1 (by omega)⟩
  show ((_ == (109 : UInt8)) && ((_ == (61 : UInt8)) && true)) = _
  rw [u _ 109 109 rfl, u _ 61 61 rfl, Bool.and_true]
  simp

set_option maxRecDepth 100000 in
set_option maxHeartbeats 8000000 in
theorem rmedia_any (l : ByteArray) (w : World) (hs : l.size ≤ 100000) :
    Calls Tryd.prog 32 #[.string l] w fun e w' => e = .returned (rmV l (mdO l)) ∧ Later w w' := by
  by_cases h2 : 2 ≤ l.size
  · have hex := ext2 h2
    have hs2 : ¬ (l.size : Int) < 2 := by omega
    have hs3 : (2 : Int) ≤ (l.size : Int) := by omega
    by_cases hb : bAt l 0 = 109 ∧ bAt l 1 = 61
    · have h0 : 2 ≤ l.size ∧ bAt l 0 = 109 ∧ bAt l 1 = 61 := ⟨h2, hb⟩
      rw [decide_eq_true hb] at hex
      generalize hmo : mdO l = mo
      have HMO := hide hmo
      clear hmo hb
      go_enter Tryd.func32, Tryd.ntmps32
      go_upto_region 4 with fail
      clear hex hs2 hs3
      go_loopw [6] (fun av wr => ∃ n : Nat, av = .int .i64 (n : Int) ∧ wr = w ∧ Hid (LtS l n)) (fun av _ => l.size - (intOf av).toNat)
      case atStart => exact ⟨2, rfl, rfl, ⟨Nat.le_refl _, h2, fun j h1 h2 => by omega⟩⟩
      case round =>
        obtain ⟨n, rfl, hwr, HL⟩ := hrel
        subst hwr
        have hnl := HL.out.2.1
        by_cases hlt : n < l.size
        · have hlt1 : (n : Int) < (l.size : Int) := by omega
          have hbg := bAt_get l n hlt
          have HSU : Hid (ltC (bAt l n) = true → LtS l (n + 1)) := fun h => HL.out.succ hlt h
          have HLC : Hid (ltC (bAt l n) = ((decide (97 ≤ bAt l n) && decide (bAt l n ≤ 122)) || (decide (65 ≤ bAt l n) && decide (bAt l n ≤ 90)))) := rfl
          rw [← hbg] at HLC HSU
          have HST0 : Hid (ltC ((((l[n]'hlt).toNat : Nat) : Int)) = false → n = l.size ∨ ltC (bAt l n) = false) := fun h => .inr (by rw [← hbg]; exact h)
          clear hbg
          by_cases a1 : 97 ≤ (((l[n]'hlt).toNat : Nat) : Int)
          · by_cases a2 : (((l[n]'hlt).toNat : Nat) : Int) ≤ 122
            · have HN := hide (HSU.out (by rw [HLC.out]; simp [a1, a2]))
              clear HSU HLC HST0
              go_wp2_with fail
              go_roundw
              case rel => exact ⟨n + 1, by go_num, by first | trivial | rfl, HN⟩
              case measure => simp [intOf]; omega
            · have a3 : 65 ≤ (((l[n]'hlt).toNat : Nat) : Int) := by omega
              have a4 : ¬ (((l[n]'hlt).toNat : Nat) : Int) ≤ 90 := by omega
              have HST := hide (HST0.out (by rw [HLC.out]; simp [a2, a4]))
              clear HSU HLC HST0
              go_upto_region 6 with fail
              clear a1 a2 a3 a4
              have HW : Hid (∀ a p b, mo = some (a, p, b) → 2 < n ∧ n < l.size ∧ bAt l n = 32 ∧ numD (nmsB l) (n + 1) 65535 = some (p, l.size - b.size) ∧ 1 ≤ p ∧ l.size - b.size < l.size ∧ bAt l (l.size - b.size) = 32 ∧ a.size = n + 1) := fun a p b h => md_where (HMO.out.trans h) HL.out HST.out
              have hn2 := HL.out.1
              by_cases c1 : n = 2
              · have HNO : Hid (mo = none) := by
                  (show _ = _)
                  cases hm : mo with
                  | none => rfl
                  | some m => obtain ⟨a, p, b⟩ := m; have := HW.out a p b hm; omega
                have t1 : ((n : Int) == 2) = true := by simp [c1]
                clear c1
                go_wp2_with fail
                refine bodyPost_ret (v := .tuple #[.int .i64 0, .int .i64 0, .int .i64 0, .bool false]) (by simp [results, Tryd.results32, go_sem]) rfl ?_
                exact ⟨by rw [HNO.out]; rfl, Later.refl _⟩
              by_cases c2 : n < l.size
              · have t1 : ((n : Int) == 2) = false := by rw [beq_eq_false_iff_ne]; omega
                have t2 : ¬ (l.size : Int) ≤ (n : Int) := by omega
                have hbg := bAt_get l n c2
                by_cases c3 : bAt l n = 32
                · have t3 : ((((l[n]'c2).toNat : Nat) : Int) != 32) = false := by rw [hbg, c3]; rfl
                  have HMF : Hid (∀ p e, numD (nmsB l) (n + 1) 65535 = some (p, e) → p ≠ 0 → e < l.size → bAt l e = 32 → mo ≠ none) := fun p e hd hp he hes => by rw [← HMO.out]; exact md_found h0 HL.out (by omega) c2 c3 hd hp he hes
                  clear hbg c1
                  go_upto_region 8 with fail
                  clear t1 t2 t3
                  have hG := conv_G wr l (by omega)
                  have hcv := Lib.run_convert_string_bytes wr 9 22 5 l Tryd.underlying9 Tryd.underlying22 Tryd.underlying5
                  have lc := conv_later wr 5 l
                  have hR := hG.rd
                  generalize Lib.bytesWorld wr 5 l = w2 at *
                  generalize grownCap wr l.size 0 5 = gcp at *
                  have HNU := hide (rnumber_any wr.heap.size 0 gcp w2.heap.size (nmsB l) (nmsB_by l) (n + 1) 65535 w2 (by rw [nmsB_len]; exact hR) (by rw [nmsB_len]; omega) (by rw [nmsB_len]; omega) (by omega))
                  rw [nmsB_len] at HNU
                  clear hG hR
                  generalize numD (nmsB l) (n + 1) 65535 = nd at *
                  generalize wr.heap.size = gq at *
                  have q1 : ((n + 1 : Nat) : Int) = (n : Int) + 1 := by omega
                  rw [q1] at HNU
                  clear q1
                  have hnb : (n : Int) + 1 ≤ 9223372036854775807 := by omega
                  go_wp2_with fail
                  refine HNU.out.mono ?_
                  rintro e w3 ⟨rfl, hw3⟩
                  subst hw3
                  clear hcv HNU
                  cases nd with
                  | none =>
                    have HNO : Hid (mo = none) := by
                      (show _ = _)
                      cases hm : mo with
                      | none => rfl
                      | some m => obtain ⟨a, p, b⟩ := m; have := (HW.out a p b hm).2.2.2.1; cases this
                    simp only [Option.map_none, Option.getD_none, Option.isSome_none]
                    go_wp2_with fail
                    refine bodyPost_ret (v := .tuple #[.int .i64 0, .int .i64 0, .int .i64 0, .bool false]) (by simp [results, Tryd.results32, go_sem]) rfl ?_
                    exact ⟨by rw [HNO.out]; rfl, lc⟩
                  | some pe =>
                    obtain ⟨p, e⟩ := pe
                    simp only [Option.map_some, Option.getD_some, Option.isSome_some]
                    have HW2 : Hid (∀ a q b, mo = some (a, q, b) → q = p ∧ l.size - b.size = e ∧ 1 ≤ p ∧ e < l.size ∧ bAt l e = 32 ∧ a.size = n + 1) := fun a q b h => by
                      obtain ⟨_, _, _, g1, g2, g3, g4, g5⟩ := HW.out a q b h
                      simp only [Option.some.injEq, Prod.mk.injEq] at g1
                      obtain ⟨rfl, rfl⟩ := g1
                      exact ⟨rfl, rfl, g2, g3, g4, g5⟩
                    clear HW
                    by_cases d1 : p = 0
                    · have HNO : Hid (mo = none) := by
                        (show _ = _)
                        cases hm : mo with
                        | none => rfl
                        | some m => obtain ⟨a, q, b⟩ := m; have := HW2.out a q b hm; omega
                      subst d1
                      go_wp2_with fail
                      refine bodyPost_ret (v := .tuple #[.int .i64 0, .int .i64 0, .int .i64 0, .bool false]) (by simp [results, Tryd.results32, go_sem]) rfl ?_
                      exact ⟨by rw [HNO.out]; rfl, lc⟩
                    · have f1 : (p == 0) = false := by rw [beq_eq_false_iff_ne]; exact d1
                      by_cases d2 : e < l.size
                      · have f2 : ¬ (l.size : Int) ≤ (e : Int) := by omega
                        have hbe := bAt_get l e d2
                        by_cases d3 : bAt l e = 32
                        · have f3 : ((((l[e]'d2).toNat : Nat) : Int) != 32) = false := by rw [hbe, d3]; rfl
                          have hne := HMF.out p e rfl d1 d2 d3
                          obtain ⟨m, HNO⟩ : ∃ m, Hid (mo = some m) := by
                            cases hm : mo with
                            | none => exact absurd hm hne
                            | some m => exact ⟨m, rfl⟩
                          obtain ⟨a, q, b⟩ := m
                          obtain ⟨g1, g2, _, _, _, g5⟩ := HW2.out a q b HNO.out
                          subst g1
                          have G2 := hide g2
                          have G5 := hide g5
                          clear hne hbe d3 d1 HMF HW2 g2 g5
                          go_wp2_with fail
                          refine bodyPost_ret (v := .tuple #[.int .i64 q, .int .i64 ((n : Int) + 1), .int .i64 (e : Int), .bool true]) (by simp [results, Tryd.results32, go_sem]) rfl ?_
                          exact ⟨by rw [HNO.out]; simp only [rmV]; rw [G2.out, G5.out]; rfl, lc⟩
                        · have HNO : Hid (mo = none) := by
                            (show _ = _)
                            cases hm : mo with
                            | none => rfl
                            | some m => obtain ⟨a, q, b⟩ := m; exact absurd (HW2.out a q b hm).2.2.2.2.1 d3
                          have f3 : ((((l[e]'d2).toNat : Nat) : Int) != 32) = true := by rw [hbe]; simp [d3]
                          clear hbe d3 d1 HMF HW2
                          go_wp2_with fail
                          refine bodyPost_ret (v := .tuple #[.int .i64 0, .int .i64 0, .int .i64 0, .bool false]) (by simp [results, Tryd.results32, go_sem]) rfl ?_
                          exact ⟨by rw [HNO.out]; rfl, lc⟩
                      · have HNO : Hid (mo = none) := by
                          (show _ = _)
                          cases hm : mo with
                          | none => rfl
                          | some m => obtain ⟨a, q, b⟩ := m; exact absurd (HW2.out a q b hm).2.2.2.1 d2
                        have f2 : (l.size : Int) ≤ (e : Int) := by omega
                        clear d1 HMF HW2
                        go_wp2_with fail
                        refine bodyPost_ret (v := .tuple #[.int .i64 0, .int .i64 0, .int .i64 0, .bool false]) (by simp [results, Tryd.results32, go_sem]) rfl ?_
                        exact ⟨by rw [HNO.out]; rfl, lc⟩
                · have HNO : Hid (mo = none) := by
                    (show _ = _)
                    cases hm : mo with
                    | none => rfl
                    | some m => obtain ⟨a, p, b⟩ := m; exact absurd (HW.out a p b hm).2.2.1 c3
                  have t3 : ((((l[n]'c2).toNat : Nat) : Int) != 32) = true := by rw [hbg]; simp [c3]
                  clear hbg c3 c1
                  go_wp2_with fail
                  refine bodyPost_ret (v := .tuple #[.int .i64 0, .int .i64 0, .int .i64 0, .bool false]) (by simp [results, Tryd.results32, go_sem]) rfl ?_
                  exact ⟨by rw [HNO.out]; rfl, Later.refl _⟩
              · have HNO : Hid (mo = none) := by
                  (show _ = _)
                  cases hm : mo with
                  | none => rfl
                  | some m => obtain ⟨a, p, b⟩ := m; exact absurd (HW.out a p b hm).2.1 c2
                have t1 : ((n : Int) == 2) = false := by rw [beq_eq_false_iff_ne]; omega
                have t2 : (l.size : Int) ≤ (n : Int) := by omega
                clear c1
                go_wp2_with fail
                refine bodyPost_ret (v := .tuple #[.int .i64 0, .int .i64 0, .int .i64 0, .bool false]) (by simp [results, Tryd.results32, go_sem]) rfl ?_
                exact ⟨by rw [HNO.out]; rfl, Later.refl _⟩
          · by_cases a3 : 65 ≤ (((l[n]'hlt).toNat : Nat) : Int)
            · by_cases a4 : (((l[n]'hlt).toNat : Nat) : Int) ≤ 90
              · have HN := hide (HSU.out (by rw [HLC.out]; simp [a3, a4]))
                clear HSU HLC HST0
                go_wp2_with fail
                go_roundw
                case rel => exact ⟨n + 1, by go_num, by first | trivial | rfl, HN⟩
                case measure => simp [intOf]; omega
              · have HST := hide (HST0.out (by rw [HLC.out]; simp [a1, a4]))
                clear HSU HLC HST0
                go_upto_region 6 with fail
                clear a1 a3 a4
                have HW : Hid (∀ a p b, mo = some (a, p, b) → 2 < n ∧ n < l.size ∧ bAt l n = 32 ∧ numD (nmsB l) (n + 1) 65535 = some (p, l.size - b.size) ∧ 1 ≤ p ∧ l.size - b.size < l.size ∧ bAt l (l.size - b.size) = 32 ∧ a.size = n + 1) := fun a p b h => md_where (HMO.out.trans h) HL.out HST.out
                have hn2 := HL.out.1
                by_cases c1 : n = 2
                · have HNO : Hid (mo = none) := by
                    (show _ = _)
                    cases hm : mo with
                    | none => rfl
                    | some m => obtain ⟨a, p, b⟩ := m; have := HW.out a p b hm; omega
                  have t1 : ((n : Int) == 2) = true := by simp [c1]
                  clear c1
                  go_wp2_with fail
                  refine bodyPost_ret (v := .tuple #[.int .i64 0, .int .i64 0, .int .i64 0, .bool false]) (by simp [results, Tryd.results32, go_sem]) rfl ?_
                  exact ⟨by rw [HNO.out]; rfl, Later.refl _⟩
                by_cases c2 : n < l.size
                · have t1 : ((n : Int) == 2) = false := by rw [beq_eq_false_iff_ne]; omega
                  have t2 : ¬ (l.size : Int) ≤ (n : Int) := by omega
                  have hbg := bAt_get l n c2
                  by_cases c3 : bAt l n = 32
                  · have t3 : ((((l[n]'c2).toNat : Nat) : Int) != 32) = false := by rw [hbg, c3]; rfl
                    have HMF : Hid (∀ p e, numD (nmsB l) (n + 1) 65535 = some (p, e) → p ≠ 0 → e < l.size → bAt l e = 32 → mo ≠ none) := fun p e hd hp he hes => by rw [← HMO.out]; exact md_found h0 HL.out (by omega) c2 c3 hd hp he hes
                    clear hbg c1
                    go_upto_region 8 with fail
                    clear t1 t2 t3
                    have hG := conv_G wr l (by omega)
                    have hcv := Lib.run_convert_string_bytes wr 9 22 5 l Tryd.underlying9 Tryd.underlying22 Tryd.underlying5
                    have lc := conv_later wr 5 l
                    have hR := hG.rd
                    generalize Lib.bytesWorld wr 5 l = w2 at *
                    generalize grownCap wr l.size 0 5 = gcp at *
                    have HNU := hide (rnumber_any wr.heap.size 0 gcp w2.heap.size (nmsB l) (nmsB_by l) (n + 1) 65535 w2 (by rw [nmsB_len]; exact hR) (by rw [nmsB_len]; omega) (by rw [nmsB_len]; omega) (by omega))
                    rw [nmsB_len] at HNU
                    clear hG hR
                    generalize numD (nmsB l) (n + 1) 65535 = nd at *
                    generalize wr.heap.size = gq at *
                    have q1 : ((n + 1 : Nat) : Int) = (n : Int) + 1 := by omega
                    rw [q1] at HNU
                    clear q1
                    have hnb : (n : Int) + 1 ≤ 9223372036854775807 := by omega
                    go_wp2_with fail
                    refine HNU.out.mono ?_
                    rintro e w3 ⟨rfl, hw3⟩
                    subst hw3
                    clear hcv HNU
                    cases nd with
                    | none =>
                      have HNO : Hid (mo = none) := by
                        (show _ = _)
                        cases hm : mo with
                        | none => rfl
                        | some m => obtain ⟨a, p, b⟩ := m; have := (HW.out a p b hm).2.2.2.1; cases this
                      simp only [Option.map_none, Option.getD_none, Option.isSome_none]
                      go_wp2_with fail
                      refine bodyPost_ret (v := .tuple #[.int .i64 0, .int .i64 0, .int .i64 0, .bool false]) (by simp [results, Tryd.results32, go_sem]) rfl ?_
                      exact ⟨by rw [HNO.out]; rfl, lc⟩
                    | some pe =>
                      obtain ⟨p, e⟩ := pe
                      simp only [Option.map_some, Option.getD_some, Option.isSome_some]
                      have HW2 : Hid (∀ a q b, mo = some (a, q, b) → q = p ∧ l.size - b.size = e ∧ 1 ≤ p ∧ e < l.size ∧ bAt l e = 32 ∧ a.size = n + 1) := fun a q b h => by
                        obtain ⟨_, _, _, g1, g2, g3, g4, g5⟩ := HW.out a q b h
                        simp only [Option.some.injEq, Prod.mk.injEq] at g1
                        obtain ⟨rfl, rfl⟩ := g1
                        exact ⟨rfl, rfl, g2, g3, g4, g5⟩
                      clear HW
                      by_cases d1 : p = 0
                      · have HNO : Hid (mo = none) := by
                          (show _ = _)
                          cases hm : mo with
                          | none => rfl
                          | some m => obtain ⟨a, q, b⟩ := m; have := HW2.out a q b hm; omega
                        subst d1
                        go_wp2_with fail
                        refine bodyPost_ret (v := .tuple #[.int .i64 0, .int .i64 0, .int .i64 0, .bool false]) (by simp [results, Tryd.results32, go_sem]) rfl ?_
                        exact ⟨by rw [HNO.out]; rfl, lc⟩
                      · have f1 : (p == 0) = false := by rw [beq_eq_false_iff_ne]; exact d1
                        by_cases d2 : e < l.size
                        · have f2 : ¬ (l.size : Int) ≤ (e : Int) := by omega
                          have hbe := bAt_get l e d2
                          by_cases d3 : bAt l e = 32
                          · have f3 : ((((l[e]'d2).toNat : Nat) : Int) != 32) = false := by rw [hbe, d3]; rfl
                            have hne := HMF.out p e rfl d1 d2 d3
                            obtain ⟨m, HNO⟩ : ∃ m, Hid (mo = some m) := by
                              cases hm : mo with
                              | none => exact absurd hm hne
                              | some m => exact ⟨m, rfl⟩
                            obtain ⟨a, q, b⟩ := m
                            obtain ⟨g1, g2, _, _, _, g5⟩ := HW2.out a q b HNO.out
                            subst g1
                            have G2 := hide g2
                            have G5 := hide g5
                            clear hne hbe d3 d1 HMF HW2 g2 g5
                            go_wp2_with fail
                            refine bodyPost_ret (v := .tuple #[.int .i64 q, .int .i64 ((n : Int) + 1), .int .i64 (e : Int), .bool true]) (by simp [results, Tryd.results32, go_sem]) rfl ?_
                            exact ⟨by rw [HNO.out]; simp only [rmV]; rw [G2.out, G5.out]; rfl, lc⟩
                          · have HNO : Hid (mo = none) := by
                              (show _ = _)
                              cases hm : mo with
                              | none => rfl
                              | some m => obtain ⟨a, q, b⟩ := m; exact absurd (HW2.out a q b hm).2.2.2.2.1 d3
                            have f3 : ((((l[e]'d2).toNat : Nat) : Int) != 32) = true := by rw [hbe]; simp [d3]
                            clear hbe d3 d1 HMF HW2
                            go_wp2_with fail
                            refine bodyPost_ret (v := .tuple #[.int .i64 0, .int .i64 0, .int .i64 0, .bool false]) (by simp [results, Tryd.results32, go_sem]) rfl ?_
                            exact ⟨by rw [HNO.out]; rfl, lc⟩
                        · have HNO : Hid (mo = none) := by
                            (show _ = _)
                            cases hm : mo with
                            | none => rfl
                            | some m => obtain ⟨a, q, b⟩ := m; exact absurd (HW2.out a q b hm).2.2.2.1 d2
                          have f2 : (l.size : Int) ≤ (e : Int) := by omega
                          clear d1 HMF HW2
                          go_wp2_with fail
                          refine bodyPost_ret (v := .tuple #[.int .i64 0, .int .i64 0, .int .i64 0, .bool false]) (by simp [results, Tryd.results32, go_sem]) rfl ?_
                          exact ⟨by rw [HNO.out]; rfl, lc⟩
                  · have HNO : Hid (mo = none) := by
                      (show _ = _)
                      cases hm : mo with
                      | none => rfl
                      | some m => obtain ⟨a, p, b⟩ := m; exact absurd (HW.out a p b hm).2.2.1 c3
                    have t3 : ((((l[n]'c2).toNat : Nat) : Int) != 32) = true := by rw [hbg]; simp [c3]
                    clear hbg c3 c1
                    go_wp2_with fail
                    refine bodyPost_ret (v := .tuple #[.int .i64 0, .int .i64 0, .int .i64 0, .bool false]) (by simp [results, Tryd.results32, go_sem]) rfl ?_
                    exact ⟨by rw [HNO.out]; rfl, Later.refl _⟩
                · have HNO : Hid (mo = none) := by
                    (show _ = _)
                    cases hm : mo with
                    | none => rfl
                    | some m => obtain ⟨a, p, b⟩ := m; exact absurd (HW.out a p b hm).2.1 c2
                  have t1 : ((n : Int) == 2) = false := by rw [beq_eq_false_iff_ne]; omega
                  have t2 : (l.size : Int) ≤ (n : Int) := by omega
                  clear c1
                  go_wp2_with fail
                  refine bodyPost_ret (v := .tuple #[.int .i64 0, .int .i64 0, .int .i64 0, .bool false]) (by simp [results, Tryd.results32, go_sem]) rfl ?_
                  exact ⟨by rw [HNO.out]; rfl, Later.refl _⟩
            · have HST := hide (HST0.out (by rw [HLC.out]; simp [a1, a3]))
              clear HSU HLC HST0
              go_upto_region 6 with fail
              clear a1 a3
              have HW : Hid (∀ a p b, mo = some (a, p, b) → 2 < n ∧ n < l.size ∧ bAt l n = 32 ∧ numD (nmsB l) (n + 1) 65535 = some (p, l.size - b.size) ∧ 1 ≤ p ∧ l.size - b.size < l.size ∧ bAt l (l.size - b.size) = 32 ∧ a.size = n + 1) := fun a p b h => md_where (HMO.out.trans h) HL.out HST.out
              have hn2 := HL.out.1
              by_cases c1 : n = 2
              · have HNO : Hid (mo = none) := by
                  (show _ = _)
                  cases hm : mo with
                  | none => rfl
                  | some m => obtain ⟨a, p, b⟩ := m; have := HW.out a p b hm; omega
                have t1 : ((n : Int) == 2) = true := by simp [c1]
                clear c1
                go_wp2_with fail
                refine bodyPost_ret (v := .tuple #[.int .i64 0, .int .i64 0, .int .i64 0, .bool false]) (by simp [results, Tryd.results32, go_sem]) rfl ?_
                exact ⟨by rw [HNO.out]; rfl, Later.refl _⟩
              by_cases c2 : n < l.size
              · have t1 : ((n : Int) == 2) = false := by rw [beq_eq_false_iff_ne]; omega
                have t2 : ¬ (l.size : Int) ≤ (n : Int) := by omega
                have hbg := bAt_get l n c2
                by_cases c3 : bAt l n = 32
                · have t3 : ((((l[n]'c2).toNat : Nat) : Int) != 32) = false := by rw [hbg, c3]; rfl
                  have HMF : Hid (∀ p e, numD (nmsB l) (n + 1) 65535 = some (p, e) → p ≠ 0 → e < l.size → bAt l e = 32 → mo ≠ none) := fun p e hd hp he hes => by rw [← HMO.out]; exact md_found h0 HL.out (by omega) c2 c3 hd hp he hes
                  clear hbg c1
                  go_upto_region 8 with fail
                  clear t1 t2 t3
                  have hG := conv_G wr l (by omega)
                  have hcv := Lib.run_convert_string_bytes wr 9 22 5 l Tryd.underlying9 Tryd.underlying22 Tryd.underlying5
                  have lc := conv_later wr 5 l
                  have hR := hG.rd
                  generalize Lib.bytesWorld wr 5 l = w2 at *
                  generalize grownCap wr l.size 0 5 = gcp at *
                  have HNU := hide (rnumber_any wr.heap.size 0 gcp w2.heap.size (nmsB l) (nmsB_by l) (n + 1) 65535 w2 (by rw [nmsB_len]; exact hR) (by rw [nmsB_len]; omega) (by rw [nmsB_len]; omega) (by omega))
                  rw [nmsB_len] at HNU
                  clear hG hR
                  generalize numD (nmsB l) (n + 1) 65535 = nd at *
                  generalize wr.heap.size = gq at *
                  have q1 : ((n + 1 : Nat) : Int) = (n : Int) + 1 := by omega
                  rw [q1] at HNU
                  clear q1
                  have hnb : (n : Int) + 1 ≤ 9223372036854775807 := by omega
                  go_wp2_with fail
                  refine HNU.out.mono ?_
                  rintro e w3 ⟨rfl, hw3⟩
                  subst hw3
                  clear hcv HNU
                  cases nd with
                  | none =>
                    have HNO : Hid (mo = none) := by
                      (show _ = _)
                      cases hm : mo with
                      | none => rfl
                      | some m => obtain ⟨a, p, b⟩ := m; have := (HW.out a p b hm).2.2.2.1; cases this
                    simp only [Option.map_none, Option.getD_none, Option.isSome_none]
                    go_wp2_with fail
                    refine bodyPost_ret (v := .tuple #[.int .i64 0, .int .i64 0, .int .i64 0, .bool false]) (by simp [results, Tryd.results32, go_sem]) rfl ?_
                    exact ⟨by rw [HNO.out]; rfl, lc⟩
                  | some pe =>
                    obtain ⟨p, e⟩ := pe
                    simp only [Option.map_some, Option.getD_some, Option.isSome_some]
                    have HW2 : Hid (∀ a q b, mo = some (a, q, b) → q = p ∧ l.size - b.size = e ∧ 1 ≤ p ∧ e < l.size ∧ bAt l e = 32 ∧ a.size = n + 1) := fun a q b h => by
                      obtain ⟨_, _, _, g1, g2, g3, g4, g5⟩ := HW.out a q b h
                      simp only [Option.some.injEq, Prod.mk.injEq] at g1
                      obtain ⟨rfl, rfl⟩ := g1
                      exact ⟨rfl, rfl, g2, g3, g4, g5⟩
                    clear HW
                    by_cases d1 : p = 0
                    · have HNO : Hid (mo = none) := by
                        (show _ = _)
                        cases hm : mo with
                        | none => rfl
                        | some m => obtain ⟨a, q, b⟩ := m; have := HW2.out a q b hm; omega
                      subst d1
                      go_wp2_with fail
                      refine bodyPost_ret (v := .tuple #[.int .i64 0, .int .i64 0, .int .i64 0, .bool false]) (by simp [results, Tryd.results32, go_sem]) rfl ?_
                      exact ⟨by rw [HNO.out]; rfl, lc⟩
                    · have f1 : (p == 0) = false := by rw [beq_eq_false_iff_ne]; exact d1
                      by_cases d2 : e < l.size
                      · have f2 : ¬ (l.size : Int) ≤ (e : Int) := by omega
                        have hbe := bAt_get l e d2
                        by_cases d3 : bAt l e = 32
                        · have f3 : ((((l[e]'d2).toNat : Nat) : Int) != 32) = false := by rw [hbe, d3]; rfl
                          have hne := HMF.out p e rfl d1 d2 d3
                          obtain ⟨m, HNO⟩ : ∃ m, Hid (mo = some m) := by
                            cases hm : mo with
                            | none => exact absurd hm hne
                            | some m => exact ⟨m, rfl⟩
                          obtain ⟨a, q, b⟩ := m
                          obtain ⟨g1, g2, _, _, _, g5⟩ := HW2.out a q b HNO.out
                          subst g1
                          have G2 := hide g2
                          have G5 := hide g5
                          clear hne hbe d3 d1 HMF HW2 g2 g5
                          go_wp2_with fail
                          refine bodyPost_ret (v := .tuple #[.int .i64 q, .int .i64 ((n : Int) + 1), .int .i64 (e : Int), .bool true]) (by simp [results, Tryd.results32, go_sem]) rfl ?_
                          exact ⟨by rw [HNO.out]; simp only [rmV]; rw [G2.out, G5.out]; rfl, lc⟩
                        · have HNO : Hid (mo = none) := by
                            (show _ = _)
                            cases hm : mo with
                            | none => rfl
                            | some m => obtain ⟨a, q, b⟩ := m; exact absurd (HW2.out a q b hm).2.2.2.2.1 d3
                          have f3 : ((((l[e]'d2).toNat : Nat) : Int) != 32) = true := by rw [hbe]; simp [d3]
                          clear hbe d3 d1 HMF HW2
                          go_wp2_with fail
                          refine bodyPost_ret (v := .tuple #[.int .i64 0, .int .i64 0, .int .i64 0, .bool false]) (by simp [results, Tryd.results32, go_sem]) rfl ?_
                          exact ⟨by rw [HNO.out]; rfl, lc⟩
                      · have HNO : Hid (mo = none) := by
                          (show _ = _)
                          cases hm : mo with
                          | none => rfl
                          | some m => obtain ⟨a, q, b⟩ := m; exact absurd (HW2.out a q b hm).2.2.2.1 d2
                        have f2 : (l.size : Int) ≤ (e : Int) := by omega
                        clear d1 HMF HW2
                        go_wp2_with fail
                        refine bodyPost_ret (v := .tuple #[.int .i64 0, .int .i64 0, .int .i64 0, .bool false]) (by simp [results, Tryd.results32, go_sem]) rfl ?_
                        exact ⟨by rw [HNO.out]; rfl, lc⟩
                · have HNO : Hid (mo = none) := by
                    (show _ = _)
                    cases hm : mo with
                    | none => rfl
                    | some m => obtain ⟨a, p, b⟩ := m; exact absurd (HW.out a p b hm).2.2.1 c3
                  have t3 : ((((l[n]'c2).toNat : Nat) : Int) != 32) = true := by rw [hbg]; simp [c3]
                  clear hbg c3 c1
                  go_wp2_with fail
                  refine bodyPost_ret (v := .tuple #[.int .i64 0, .int .i64 0, .int .i64 0, .bool false]) (by simp [results, Tryd.results32, go_sem]) rfl ?_
                  exact ⟨by rw [HNO.out]; rfl, Later.refl _⟩
              · have HNO : Hid (mo = none) := by
                  (show _ = _)
                  cases hm : mo with
                  | none => rfl
                  | some m => obtain ⟨a, p, b⟩ := m; exact absurd (HW.out a p b hm).2.1 c2
                have t1 : ((n : Int) == 2) = false := by rw [beq_eq_false_iff_ne]; omega
                have t2 : (l.size : Int) ≤ (n : Int) := by omega
                clear c1
                go_wp2_with fail
                refine bodyPost_ret (v := .tuple #[.int .i64 0, .int .i64 0, .int .i64 0, .bool false]) (by simp [results, Tryd.results32, go_sem]) rfl ?_
                exact ⟨by rw [HNO.out]; rfl, Later.refl _⟩
        · have hng : ¬ (n : Int) < (l.size : Int) := by omega
          have HST : Hid (n = l.size ∨ ltC (bAt l n) = false) := .inl (by omega)
          go_upto_region 6 with fail
          have HW : Hid (∀ a p b, mo = some (a, p, b) → 2 < n ∧ n < l.size ∧ bAt l n = 32 ∧ numD (nmsB l) (n + 1) 65535 = some (p, l.size - b.size) ∧ 1 ≤ p ∧ l.size - b.size < l.size ∧ bAt l (l.size - b.size) = 32 ∧ a.size = n + 1) := fun a p b h => md_where (HMO.out.trans h) HL.out HST.out
          have hn2 := HL.out.1
          by_cases c1 : n = 2
          · have HNO : Hid (mo = none) := by
              (show _ = _)
              cases hm : mo with
              | none => rfl
              | some m => obtain ⟨a, p, b⟩ := m; have := HW.out a p b hm; omega
            have t1 : ((n : Int) == 2) = true := by simp [c1]
            clear c1
            go_wp2_with fail
            refine bodyPost_ret (v := .tuple #[.int .i64 0, .int .i64 0, .int .i64 0, .bool false]) (by simp [results, Tryd.results32, go_sem]) rfl ?_
            exact ⟨by rw [HNO.out]; rfl, Later.refl _⟩
          have c2 := hlt
          · have HNO : Hid (mo = none) := by
              (show _ = _)
              cases hm : mo with
              | none => rfl
              | some m => obtain ⟨a, p, b⟩ := m; exact absurd (HW.out a p b hm).2.1 c2
            have t1 : ((n : Int) == 2) = false := by rw [beq_eq_false_iff_ne]; omega
            have t2 : (l.size : Int) ≤ (n : Int) := by omega
            clear c1
            go_wp2_with fail
            refine bodyPost_ret (v := .tuple #[.int .i64 0, .int .i64 0, .int .i64 0, .bool false]) (by simp [results, Tryd.results32, go_sem]) rfl ?_
            exact ⟨by rw [HNO.out]; rfl, Later.refl _⟩
    · have HNO : Hid (mdO l = none) := md_begin (fun h => hb h.2)
      rw [decide_eq_false hb] at hex
      generalize mdO l = mo at *
      go_enter Tryd.func32, Tryd.ntmps32
      go_wp2_with fail
      refine bodyPost_ret (v := .tuple #[.int .i64 0, .int .i64 0, .int .i64 0, .bool false]) (by simp [results, Tryd.results32, go_sem]) rfl ?_
      exact ⟨by rw [HNO.out]; rfl, Later.refl _⟩
  · have HNO : Hid (mdO l = none) := md_begin (fun h => h2 h.1)
    have hs2 : (l.size : Int) < 2 := by omega
    generalize mdO l = mo at *
    go_enter Tryd.func32, Tryd.ntmps32
    go_wp2_with fail
    refine bodyPost_ret (v := .tuple #[.int .i64 0, .int .i64 0, .int .i64 0, .bool false]) (by simp [results, Tryd.results32, go_sem]) rfl ?_
    exact ⟨by rw [HNO.out]; rfl, Later.refl _⟩
end Go.Proofs.YtehdgndbloaljaaDoor

/- The document's lines. -/
namespace Go.Proofs.YtehdgndbloaljaaDoor
open Go.RowKit Go.Shelf
set_option maxRecDepth 100000
set_option linter.unusedVariables false
set_option linter.unusedSimpArgs false

/-- A text's lines as the document has them: each without its end, and whether it has one. -/
def dlF : Nat → ByteArray → List (ByteArray × Bool)
  | 0, s => [(s, false)]
  | n + 1, s => if cutF s crB = false then [(s, false)] else (cutA s crB, true) :: dlF n (cutZ s crB)
def dlB (s : ByteArray) : List (ByteArray × Bool) := dlF s.size s
theorem dlF_fuel : ∀ (n m : Nat) (s : ByteArray), s.size ≤ n → s.size ≤ m → dlF n s = dlF m s
  | 0, 0, s, _, _ => rfl
  | 0, m + 1, s, h, _ => by unfold dlF; rw [if_pos (cut_empty (by omega) (by decide))]
  | n + 1, 0, s, _, h => by unfold dlF; rw [if_pos (cut_empty (by omega) (by decide))]
  | n + 1, m + 1, s, h1, h2 => by
    unfold dlF
    split
    · rfl
    · rename_i hc
      have hf : cutF s crB = true := by simpa using hc
      have h0 : s.size ≠ 0 := fun h => by rw [cut_empty h (by decide)] at hf; cases hf
      have := (cut_sizes s crB).2 h0 (by decide)
      rw [dlF_fuel n m (cutZ s crB) (by omega) (by omega)]
theorem dlB_no {s : ByteArray} (h : cutF s crB = false) : dlB s = [(s, false)] := by
  unfold dlB
  cases s.size with
  | zero => rfl
  | succ n => unfold dlF; rw [if_pos h]
theorem dlB_yes {s : ByteArray} (h : cutF s crB = true) : dlB s = (cutA s crB, true) :: dlB (cutZ s crB) := by
  have h0 : s.size ≠ 0 := fun h0 => by rw [cut_empty h0 (by decide)] at h; cases h
  have hz := (cut_sizes s crB).2 h0 (by decide)
  have e : dlB s = dlF (s.size - 1 + 1) s := by unfold dlB; congr 1; omega
  rw [e]
  show (if cutF s crB = false then _ else _) = _
  rw [if_neg (by rw [h]; simp)]
  rw [dlF_fuel (s.size - 1) (cutZ s crB).size (cutZ s crB) (by omega) (Nat.le_refl _)]
  rfl
theorem dlF_len : ∀ (n : Nat) (s : ByteArray), (dlF n s).length ≤ n + 1
  | 0, s => Nat.le_refl _
  | n + 1, s => by
    unfold dlF
    split
    · simp
    · have := dlF_len n (cutZ s crB); simp only [List.length_cons]; omega
def lvS (l : List (ByteArray × Bool)) : List Value := l.map fun x => .string x.1
def lvE (l : List (ByteArray × Bool)) : List Value := l.map fun x => .bool x.2
theorem info_str14 : (Tryd.prog.info? 9).map (fun i => (i.zero, i.size, i.bytes)) = some (some (.string ⟨#[]⟩), 1, 16) := by kernel_rfl
theorem info_bool14 : (Tryd.prog.info? 4).map (fun i => (i.zero, i.size, i.bytes)) = some (some (.bool false), 1, 1) := by kernel_rfl
/-- One more of a plain kind appended. -/
theorem app1G {W : World} {base : Nat} {e t : TypeId} {i : TypeInfo} {z : Value} {bytes : Nat} (ht : Tryd.prog.underlying t = some (.slice e)) (hi : Tryd.prog.info? e = some i) (hz : i.zero = some z) (h1 : i.size = 1) (h2 : i.bytes = bytes) (hb : bytes ≤ 16) (hzc : z.cells.size = 1) {v : Value} {xs : List Value} (x : Value) (hx : x.oneCell' = true) (ho : W.ownsRow base e 1 v xs.length xs) (hl : xs.length ≤ 1000000) (hbW : base ≤ W.heap.size) (ty : TypeId) :
    ∃ a c W', (Builtin.append_ #[t, t] ty #[v, .slice (some ⟨W.heap.size, 0, none⟩) 1 1]).run Tryd.prog (W.alloc (.cells #[x] e)) = .ok (.slice a (xs.length + 1) c) W' ∧ W'.ownsRow base e 1 (.slice a (xs.length + 1) c) (xs ++ [x]).length (xs ++ [x]) ∧ (W.alloc (.cells #[x] e)).grownBy W' v.ownBlock := by
  have la := later_allocR W (.cells #[x] e)
  have hn := heap_alloc_new W (.cells #[x] e)
  obtain ⟨v', W', hrun, hrow, hg, _⟩ := run_append_own (P := Tryd.prog) (W.alloc (.cells #[x] e)) base t ty e i z 1 bytes ht hi hz h1 h2 hzc (by decide) v xs.length xs (ownsS_ct ho (CTs.of la)) ⟨W.heap.size, 0, none⟩ 1 1 [x] rfl
    (fun j u hj => by
      rw [show (⟨W.heap.size, 0, none⟩ : Addr).add j = ⟨W.heap.size, j, none⟩ from by unfold Addr.add; split <;> simp_all, block_cell hn j]
      simpa using hj)
    (by intro u hu; simp at hu; subst hu; exact hx) (by unfold maxLen; omega) (by have : (xs.length + 1) * bytes ≤ 1000001 * 16 := Nat.mul_le_mul (by omega) hb; omega) (Nat.le_trans hbW la.size)
  obtain ⟨a, c, rfl⟩ := owns_form hrow
  exact ⟨a, c, W', hrun, by simpa using hrow, hg⟩
/-- What such an append leaves. -/
theorem app1_keep {W W' : World} {base : Nat} {e : TypeId} {v x : Value} {xs : List Value} (ho : W.ownsRow base e 1 v xs.length xs) (hg : (W.alloc (.cells #[x] e)).grownBy W' v.ownBlock) (hb : base ≤ W.heap.size) : Below base W W' ∧ ∀ {e' : TypeId} {size : Nat} {v' : Value} {n : Nat} {ys : List Value}, e' ≠ e → W.ownsRow base e' size v' n ys → W'.ownsRow base e' size v' n ys := by
  have la := later_allocR W (.cells #[x] e)
  have ho' := ownsS_ct ho (CTs.of la)
  refine ⟨(la.mono hb).trans ⟨hg.os, hg.tape, hg.output, hg.size, fun i hi => ?_⟩, fun hne h => keep_own ho' hg hne (ownsS_ct h (CTs.of la))⟩
  cases hh : (W.alloc (.cells #[x] e)).heap[i]? with
  | none => have := Array.getElem?_eq_none_iff.1 hh; have := la.size; omega
  | some o => exact keep_row ho' hg hh (.inr hi)

set_option maxRecDepth 100000 in
set_option maxHeartbeats 8000000 in
theorem rlines_any (sb : Value) (zb : List Int) (w : World) (hB : Rd w.heap.size w sb zb) (hy : Mt.By zb) (hz : zb.length ≤ 100000) :
    Calls Tryd.prog 30 #[sb] w fun e w' => Later w w' ∧ ∃ v1 v2, e = .returned (.tuple #[v1, v2]) ∧ w'.ownsRow w.heap.size 9 1 v1 (dlB (strOfNums zb)).length (lvS (dlB (strOfNums zb))) ∧ w'.ownsRow w.heap.size 4 1 v2 (dlB (strOfNums zb)).length (lvE (dlB (strOfNums zb))) := by
  obtain ⟨ba, bcp, rfl, hbc1, hbc2⟩ := hB.slice
  obtain ⟨i1, hi1, hz11, hz12, hz13⟩ := info_partsS info_str14
  obtain ⟨i2, hi2, hz21, hz22, hz23⟩ := info_partsS info_bool14
  have hdl : (dlB (strOfNums zb)).length ≤ 100001 := by have := dlF_len (strOfNums zb).size (strOfNums zb); rw [strOfNums_size] at this; unfold dlB; rw [strOfNums_size]; omega
  have hB0 : Hid (Rd w.heap.size w (.slice ba zb.length bcp) (nmsB (strOfNums zb))) := by
    show Rd _ _ _ _
    rw [nmsB_str zb hy]; exact hB
  have hss : (strOfNums zb).size = zb.length := strOfNums_size zb
  generalize hDL : dlB (strOfNums zb) = dl at *
  have HDL := hide hDL
  clear hDL hB
  go_enter Tryd.func30, Tryd.ntmps30
  go_upto_region 3 with fail
  go_loopw [0, 4, 5] (fun rv ov ev wr => ∃ (t : ByteArray) (pre : List (ByteArray × Bool)), Below w.heap.size w wr ∧ t.size ≤ 100000 ∧ Hid (Rd w.heap.size wr rv (nmsB t)) ∧ Hid (wr.ownsRow w.heap.size 9 1 ov pre.length (lvS pre)) ∧ Hid (wr.ownsRow w.heap.size 4 1 ev pre.length (lvE pre)) ∧ Hid (pre ++ dlB t = dl)) (fun rv _ _ _ => match rv with | .slice _ n _ => n | _ => 0)
  case atStart => exact ⟨strOfNums zb, [], Below.refl _ _, by omega, hB0, hide ⟨rfl, .inl ⟨rfl, rfl⟩⟩, hide ⟨rfl, .inl ⟨rfl, rfl⟩⟩, by (show _ = _); rw [List.nil_append]; exact HDL.out⟩
  case round =>
    obtain ⟨t, pre, hbr, ht, HR, HO, HE, HD⟩ := hrel
    obtain ⟨ra, rc, e, _, _⟩ := HR.out.slice
    subst e
    obtain ⟨oa, oc, rfl⟩ := owns_form HO.out
    obtain ⟨ea, ec, rfl⟩ := owns_form HE.out
    have hpl : pre.length ≤ 100001 := by have := congrArg List.length HD.out; rw [List.length_append] at this; omega
    have HC2 := hide (rcut_any w.heap.size _ (nmsB t) wr hbr.size HR.out (nmsB_by t) (by rw [nmsB_len]; omega))
    rw [str_nms] at HC2
    have HTL := hide (nmsB_len t)
    have hbrs := hbr.size
    have HRR := hide HR.out
    generalize (nmsB t).length = tl at *
    go_wp2_with fail
    refine HC2.out.mono ?_
    rintro e w3 ⟨l3, v, rfl, hq⟩
    have L3 : Below w.heap.size w w3 := Below.trans hbr (l3.mono hbrs)
    have hs3 := L3.size
    have HO3 := hide (ownsS_ct HO.out (CTs.of l3))
    have HE3 := hide (ownsS_ct HE.out (CTs.of l3))
    have hR3' := hide (HRR.out.below (l3.mono hbrs))
    clear HC2 HO HE HR HRR
    have hlS : (lvS pre).length = pre.length := by unfold lvS; simp
    have hlE : (lvE pre).length = pre.length := by unfold lvE; simp
    rcases hq with ⟨hcf, vb, rfl, hR3⟩ | ⟨hcf, rfl⟩
    · have hf := congrArg ByteArray.size (cut_yes hcf)
      rw [ByteArray.size_append, ByteArray.size_append, show crB.size = 2 from rfl] at hf
      have HD2 : Hid ((pre ++ [(cutA t crB, true)]) ++ dlB (cutZ t crB) = dl) := by
        (show _ = _)
        rw [← HD.out, dlB_yes hcf]
        simp
      obtain ⟨za, zc, rfl, _, _⟩ := hR3.slice
      have HZL := hide (nmsB_len (cutZ t crB))
      have HRZ := hide hR3
      have hzs : (cutZ t crB).size < t.size := by omega
      clear hR3 hcf hf HD
      generalize cutA t crB = lt at *
      generalize cutZ t crB = z at *
      generalize (nmsB z).length = zl at *
      obtain ⟨a1, c1, W1, hr1, hO1, hg1⟩ := app1G (t := 80) Tryd.underlying80 hi1 hz11 hz12 hz13 (by decide) rfl (.string lt) rfl (by rw [hlS]; exact HO3.out) (by omega) hs3 80
      obtain ⟨k1, k1o⟩ := app1_keep (by rw [hlS]; exact HO3.out) hg1 hs3
      rw [hlS] at hr1 hO1
      have hE1 := k1o (by decide) HE3.out
      have hs1 : w.heap.size ≤ W1.heap.size := Nat.le_trans hs3 k1.size
      obtain ⟨a2, c2, W2, hr2, hO2, hg2⟩ := app1G (t := 81) Tryd.underlying81 hi2 hz21 hz22 hz23 (by decide) rfl (.bool true) rfl (by rw [hlE]; exact hE1) (by omega) hs1 81
      obtain ⟨k2, k2o⟩ := app1_keep (by rw [hlE]; exact hE1) hg2 hs1
      rw [hlE] at hr2 hO2
      have HO2 := hide (k2o (by decide) hO1)
      have HE2 := hide hO2
      have L5 : Below w.heap.size w W2 := L3.trans (k1.trans k2)
      have HRZ2 := hide (HRZ.out.below (k1.trans k2))
      have HR1 := hide hr1
      have HR2 := hide hr2
      clear hr1 hr2 hO1 hO2 hg1 hg2 k1o k2o k1 k2 hE1 HO3 HE3
      have HOF : Hid (W2.ownsRow w.heap.size 9 1 (.slice a1 (pre.length + 1) c1) (pre ++ [(lt, true)]).length (lvS (pre ++ [(lt, true)]))) := by
        have e1 : lvS (pre ++ [(lt, true)]) = lvS pre ++ [.string lt] := by unfold lvS; simp
        have e2 : (pre ++ [(lt, true)]).length = (lvS pre ++ [Value.string lt]).length := by unfold lvS; simp
        rw [e1, e2]; exact HO2
      have HEF : Hid (W2.ownsRow w.heap.size 4 1 (.slice a2 (pre.length + 1) c2) (pre ++ [(lt, true)]).length (lvE (pre ++ [(lt, true)]))) := by
        have e1 : lvE (pre ++ [(lt, true)]) = lvE pre ++ [.bool true] := by unfold lvE; simp
        have e2 : (pre ++ [(lt, true)]).length = (lvE pre ++ [Value.bool true]).length := by unfold lvE; simp
        rw [e1, e2]; exact HE2
      clear HO2 HE2
      go_upto_region 7 with (at_builtin; refine wpList_appT rfl (.tmp 25) (.tmp 27) 80 80 rfl _ _ rfl rfl _ _ HR1.out ?_)
      go_upto_region 8 with (at_builtin; refine wpList_appT rfl (.tmp 29) (.tmp 30) 81 81 rfl _ _ rfl rfl _ _ HR2.out ?_)
      go_wp2_with fail
      go_roundw
      case rel => exact ⟨z, pre ++ [(lt, true)], L5, by omega, HRZ2, HOF, HEF, HD2⟩
      case measure => (show zl < tl); rw [HZL.out, HTL.out]; exact hzs
    · have HD2 : Hid (pre ++ [(t, false)] = dl) := by
        (show _ = _)
        rw [← HD.out, dlB_no hcf]
      have hcv := conv_rd 22 9 5 Tryd.underlying22 Tryd.underlying5 Tryd.underlying9 hR3'.out
      rw [str_nms] at hcv
      clear hcf HD
      obtain ⟨a1, c1, W1, hr1, hO1, hg1⟩ := app1G (t := 80) Tryd.underlying80 hi1 hz11 hz12 hz13 (by decide) rfl (.string t) rfl (by rw [hlS]; exact HO3.out) (by omega) hs3 80
      obtain ⟨k1, k1o⟩ := app1_keep (by rw [hlS]; exact HO3.out) hg1 hs3
      rw [hlS] at hr1 hO1
      have hE1 := k1o (by decide) HE3.out
      have hs1 : w.heap.size ≤ W1.heap.size := Nat.le_trans hs3 k1.size
      obtain ⟨a2, c2, W2, hr2, hO2, hg2⟩ := app1G (t := 81) Tryd.underlying81 hi2 hz21 hz22 hz23 (by decide) rfl (.bool false) rfl (by rw [hlE]; exact hE1) (by omega) hs1 81
      obtain ⟨k2, k2o⟩ := app1_keep (by rw [hlE]; exact hE1) hg2 hs1
      rw [hlE] at hr2 hO2
      have L5 : Below w.heap.size w W2 := L3.trans (k1.trans k2)
      have HOF : Hid (W2.ownsRow w.heap.size 9 1 (.slice a1 (pre.length + 1) c1) dl.length (lvS dl)) := by
        have e1 : lvS (pre ++ [(t, false)]) = lvS pre ++ [.string t] := by unfold lvS; simp
        have e2 : (pre ++ [(t, false)]).length = (lvS pre ++ [Value.string t]).length := by unfold lvS; simp
        rw [← HD2.out, e1, e2]; exact k2o (by decide) hO1
      have HEF : Hid (W2.ownsRow w.heap.size 4 1 (.slice a2 (pre.length + 1) c2) dl.length (lvE dl)) := by
        have e1 : lvE (pre ++ [(t, false)]) = lvE pre ++ [.bool false] := by unfold lvE; simp
        have e2 : (pre ++ [(t, false)]).length = (lvE pre ++ [Value.bool false]).length := by unfold lvE; simp
        rw [← HD2.out, e1, e2]; exact hO2
      have HR1 := hide hr1
      have HR2 := hide hr2
      clear hr1 hr2 hO1 hO2 hg1 hg2 k1o k2o k1 k2 hE1 HO3 HE3
      go_wp2_with (at_builtin; first | refine wpList_appT rfl (.tmp 17) (.tmp 20) 80 80 rfl _ _ rfl rfl _ _ HR1.out ?_ | refine wpList_appT rfl (.tmp 22) (.tmp 23) 81 81 rfl _ _ rfl rfl _ _ HR2.out ?_)
      exact bodyPost_ret (v := .tuple #[.slice a1 (pre.length + 1) c1, .slice a2 (pre.length + 1) c2]) (by simp [results, Tryd.results30, go_sem]) rfl ⟨L5, _, _, rfl, HOF.out, HEF.out⟩
end Go.Proofs.YtehdgndbloaljaaDoor

/- The document's Ports. -/
namespace Go.Proofs.YtehdgndbloaljaaDoor
open Go.RowKit Go.Shelf
set_option maxRecDepth 100000
set_option linter.unusedVariables false
set_option linter.unusedSimpArgs false

/-- What a row of one's own holds. -/
theorem own_cellG {W : World} {base : Nat} {e : TypeId} {sa : Option Addr} {n cap : Nat} {xs : List Value} (h : W.ownsRow base e 1 (.slice sa n cap) n xs) (hn : 0 < xs.length) : ∃ g, sa = some ⟨g, 0, none⟩ ∧ ∀ j, j < xs.length → W.cell? ⟨g, j, none⟩ = xs[j]? := by
  obtain ⟨h1, ⟨e, h0⟩ | ⟨g, cap', cur, e, hg, hh, hl, hm, hs, hc⟩⟩ := h
  · cases e
    rw [h0] at h1
    omega
  · cases e
    refine ⟨g, rfl, fun j hj => ?_⟩
    rw [block_cell hh, ← hc, List.getElem?_take_of_lt (by rw [h1] at hj; omega)]
    simp
/-- Ports and address over the document's lines. -/
def ptD (l : List (ByteArray × Bool)) : List Int := l.foldl (fun acc x => ptS acc (x.1, crB)) []
def thD (h : ByteArray) (l : List (ByteArray × Bool)) : Bool := l.any fun x => eqS x.1 (cnB ++ h)
theorem ptD_snoc (l : List (ByteArray × Bool)) (x : ByteArray × Bool) : ptD (l ++ [x]) = ptS (ptD l) (x.1, crB) := by unfold ptD; simp
theorem thD_snoc (h : ByteArray) (l : List (ByteArray × Bool)) (x : ByteArray × Bool) : thD h (l ++ [x]) = (thD h l || eqS x.1 (cnB ++ h)) := by unfold thD; simp
theorem ptS_fst (acc : List Int) (x y : ByteArray × ByteArray) (h : x.1 = y.1) : ptS acc x = ptS acc y := by unfold ptS; rw [h]
theorem ptS_empty (acc : List Int) {s : ByteArray} (hs : s.size = 0) (z : ByteArray) : ptS acc (s, z) = acc := by unfold ptS; simp only; rw [md_begin (fun h => by omega)]
theorem eqS_empty {s h : ByteArray} (hs : s.size = 0) : eqS s (cnB ++ h) = false := by
  cases hq : eqS s (cnB ++ h) with
  | false => rfl
  | true =>
    have := congrArg ByteArray.size (eqS_iff.1 hq)
    rw [ByteArray.size_append, show cnB.size = 9 from rfl] at this
    omega
theorem pt_same : ∀ (n : Nat) (s : ByteArray), s.size ≤ n → ∀ acc, (dlB s).foldl (fun acc x => ptS acc (x.1, crB)) acc = (lnsB s).foldl ptS acc
  | n, s, hn, acc => by
    cases hf : cutF s crB with
    | false =>
      rw [dlB_no hf]
      by_cases h0 : s.size = 0
      · rw [lnsB_nil h0]
        exact ptS_empty acc h0 crB
      · obtain ⟨ha, hz⟩ := cut_no hf
        rw [lnsB_cons h0, ha, hz, lnsB_nil (s := ⟨#[]⟩) rfl]
        exact ptS_fst _ _ _ rfl
    | true =>
      have h0 : s.size ≠ 0 := fun h0 => by rw [cut_empty h0 (by decide)] at hf; cases hf
      have hz := (cut_sizes s crB).2 h0 (by decide)
      rw [dlB_yes hf, lnsB_cons h0]
      cases n with
      | zero => omega
      | succ n =>
        simp only [List.foldl_cons]
        rw [ptS_fst acc (cutA s crB, crB) (cutA s crB, betw s crB) rfl]
        exact pt_same n (cutZ s crB) (by omega) _
theorem th_same (h : ByteArray) : ∀ (n : Nat) (s : ByteArray), s.size ≤ n → thD h (dlB s) = thB h (lnsB s)
  | n, s, hn => by
    cases hf : cutF s crB with
    | false =>
      rw [dlB_no hf]
      by_cases h0 : s.size = 0
      · rw [lnsB_nil h0]
        unfold thD thB
        simp [eqS_empty h0]
      · obtain ⟨ha, hz⟩ := cut_no hf
        rw [lnsB_cons h0, ha, hz, lnsB_nil (s := ⟨#[]⟩) rfl]
        unfold thD thB
        simp
    | true =>
      have h0 : s.size ≠ 0 := fun h0 => by rw [cut_empty h0 (by decide)] at hf; cases hf
      have hz := (cut_sizes s crB).2 h0 (by decide)
      rw [dlB_yes hf, lnsB_cons h0]
      cases n with
      | zero => omega
      | succ n =>
        have ih := th_same h n (cutZ s crB) (by omega)
        unfold thD thB at ih ⊢
        simp only [List.any_cons]
        rw [ih]
theorem dlF_mem : ∀ (n : Nat) (s : ByteArray) (x : ByteArray × Bool), x ∈ dlF n s → x.1.size ≤ s.size
  | 0, s, x, h => by simp only [dlF, List.mem_singleton] at h; subst h; exact Nat.le_refl _
  | n + 1, s, x, h => by
    unfold dlF at h
    split at h
    · simp only [List.mem_singleton] at h; subst h; exact Nat.le_refl _
    · have hz := cut_size s crB
      rcases List.mem_cons.1 h with rfl | h
      · exact hz.1
      · have := dlF_mem n _ x h
        omega
theorem ptD_len : ∀ (n : Nat) (l : List (ByteArray × Bool)), l.length = n → (ptD l).length ≤ n
  | 0, l, h => by rw [List.eq_nil_of_length_eq_zero h]; exact Nat.le_refl _
  | n + 1, l, h => by
    rcases List.eq_nil_or_concat l with rfl | ⟨l', x, e⟩
    · cases h
    rw [List.concat_eq_append] at e
    subst e
    have h1 := ptD_len n l' (by simpa using h)
    have h2 := ptS_len (ptD l') (x.1, crB)
    rw [ptD_snoc]
    omega

set_option maxRecDepth 100000 in
set_option maxHeartbeats 8000000 in
theorem rports14_any (st : ByteArray) (sv sb : Value) (hs : List Hr) (zb : List Int) (h : Int) (w : World) (hH : RdM w.heap.size w sv hs) (hB : Rd w.heap.size w sb zb) (hy : Mt.By zb) (hz : zb.length ≤ 5000) (hh : 0 ≤ h ∧ h ≤ 4294967295) :
    Calls Tryd.prog 15 #[.agg #[.string st, sv, sb], .int .u32 h] w fun e w' => Later w w' ∧ ∃ v, e = .returned v ∧ w'.ownsRow w.heap.size 47 1 v (ptsB (adB h) (strOfNums zb)).length (u16v (ptsB (adB h) (strOfNums zb))) := by
  obtain ⟨sa, scp, rfl, hsc1, hsc2⟩ := hH.slice
  obtain ⟨ba, bcp, rfl, hbc1, hbc2⟩ := hB.slice
  obtain ⟨i1, hi1, hz11, hz12, hz13⟩ := info_partsS info_u16S
  have l0 : Later w (w.alloc (.cells #[.string st, .slice sa hs.length scp, .slice ba zb.length bcp] 31)) := later_allocR _ _
  have C0 := hide (heap_alloc_new w (.cells #[.string st, .slice sa hs.length scp, .slice ba zb.length bcp] 31))
  have HLN := hide (rlines_any _ zb _ (hB.later l0) hy (by omega))
  have hss : (strOfNums zb).size ≤ 5000 := by rw [strOfNums_size]; exact hz
  have HPT0 : Hid (ptsB (adB h) (strOfNums zb) = if thD (adB h) (dlB (strOfNums zb)) = true then ptD (dlB (strOfNums zb)) else []) := by
    (show _ = _)
    unfold ptsB
    rw [th_same (adB h) _ _ (Nat.le_refl _)]
    have := pt_same _ (strOfNums zb) (Nat.le_refl _) []
    unfold ptD ptL
    rw [this]
  have HDM : Hid (∀ x ∈ dlB (strOfNums zb), x.1.size ≤ 5000) := fun x hx => Nat.le_trans (dlF_mem _ _ x hx) hss
  have hdl : (dlB (strOfNums zb)).length ≤ 5001 := by have := dlF_len (strOfNums zb).size (strOfNums zb); unfold dlB; omega
  have HCO := hide (fun l W => rconn_any l h hh W)
  generalize ptsB (adB h) (strOfNums zb) = pts at *
  generalize dlB (strOfNums zb) = dl at *
  generalize adB h = host at *
  clear hss
  go_enter Tryd.func15, Tryd.ntmps15
  go_upto_region 3 with fail
  generalize hw0 : w.alloc _ = w0 at *
  have hl0s := l0.size
  generalize hgc : w.heap.size = gc at C0 ⊢
  have k0 := block_cell C0.out
  go_wp2_with fail
  refine HLN.out.mono ?_
  rintro e w1 ⟨l1, v1, v2, rfl, hrow1, hrow2⟩
  clear k0 HLN
  rw [← hgc]
  clear hgc C0
  have L1 : Below w.heap.size w w1 := Later.trans l0 l1
  have HS1 := hide (owns_mono (base' := w.heap.size) hrow1 hl0s)
  clear hrow1 hl0s hw0
  obtain ⟨la, lc, rfl⟩ := owns_form HS1.out
  obtain ⟨ea, ec, rfl⟩ := owns_form hrow2
  clear hrow2
  go_upto_region 5 with fail
  go_loopw [5, 6, 9] (fun ov sv iv wr => ∃ k : Nat, k ≤ dl.length ∧ iv = .int .i64 (k : Int) ∧ Below w.heap.size w wr ∧ (∃ v, ov = v ∧ Hid (wr.ownsRow w.heap.size 47 1 v (ptD (dl.take k)).length (u16v (ptD (dl.take k))))) ∧ sv = .bool (thD host (dl.take k)) ∧ Hid (wr.ownsRow w.heap.size 9 1 (.slice la dl.length lc) dl.length (lvS dl))) (fun _ _ iv _ => dl.length - (intOf iv).toNat)
  case atStart => exact ⟨0, by omega, rfl, L1, ⟨.slice none 0 0, rfl, hide ⟨rfl, .inl ⟨rfl, rfl⟩⟩⟩, rfl, HS1⟩
  case round =>
    obtain ⟨k, hk, rfl, M1, ⟨v, rfl, HO⟩, rfl, HS⟩ := hrel
    have hls : (lvS dl).length = dl.length := by unfold lvS; simp
    obtain ⟨oa, oc, rfl⟩ := owns_form HO.out
    by_cases hlt : k < dl.length
    · have hlt' : (k : Int) < (dl.length : Int) := by omega
      have hacl := ptD_len _ (dl.take k) rfl
      rw [List.length_take] at hacl
      have htk : dl.take (k + 1) = dl.take k ++ [dl[k]] := by rw [← List.take_append_getElem hlt]
      have HPT : Hid (ptD (dl.take (k + 1)) = ptS (ptD (dl.take k)) (dl[k].1, crB)) := by (show _ = _); rw [htk, ptD_snoc]
      have HTH : Hid (thD host (dl.take (k + 1)) = (thD host (dl.take k) || eqS dl[k].1 (cnB ++ host))) := by (show _ = _); rw [htk, thD_snoc]
      obtain ⟨g0, hga0, hgc0⟩ := own_cellG HS.out (by rw [hls]; omega)
      subst hga0
      have kl : wr.cell? ⟨g0, k, none⟩ = some (.string dl[k].1) := by
        rw [hgc0 k (by rw [hls]; exact hlt)]
        unfold lvS
        rw [List.getElem?_map, List.getElem?_eq_getElem hlt]
        rfl
      have hlk := HDM.out dl[k] (List.getElem_mem hlt)
      have HGC := hide hgc0
      clear htk hgc0
      generalize hlk0 : dl[k].1 = lk at *
      have HLK : Hid (∀ W : World, W.ownsRow w.heap.size 9 1 (.slice (some ⟨g0, 0, none⟩) dl.length lc) dl.length (lvS dl) → W.cell? ⟨g0, k, none⟩ = some (.string lk)) := fun W hW => by
        obtain ⟨g', e', hc'⟩ := own_cellG hW (by rw [hls]; omega)
        cases e'
        rw [hc' k (by rw [hls]; exact hlt)]
        unfold lvS
        rw [List.getElem?_map, List.getElem?_eq_getElem hlt, ← hlk0]
        rfl
      clear hlk0 HGC
      generalize hacd : ptD (dl.take k) = acc at *
      clear hacd
      have hal : (u16v acc).length = acc.length := by unfold u16v; simp
      have hac5 : acc.length ≤ 5001 := by omega
      generalize thD host (dl.take k) = b0 at *
      cases b0 with
      | true =>
        have HTN : Hid (thD host (dl.take (k + 1)) = true) := by (show _ = _); rw [HTH.out]; rfl
        clear HTH
        go_upto_region 8 with fail
        have w3 := wr
        have HO3 := HO
        have HS3 := HS
        have M3 := M1
        go_wp2_with fail
        refine (rmedia_any lk wr (by omega)).mono ?_
        rintro e w4 ⟨rfl, l4⟩
        have M4 : Below w.heap.size w w4 := Below.trans M3 (l4.mono M3.size)
        have HO4 := hide (ownsS_ct HO3.out (CTs.of l4))
        have HS4 := hide (ownsS_ct HS3.out (CTs.of l4))
        have hs4 := M4.size
        clear HO3 HS3 l4 kl
        cases mo : mdO lk with
        | none =>
          have HP2 : Hid (ptD (dl.take (k + 1)) = acc) := by (show _ = _); rw [HPT.out]; unfold ptS; simp only; rw [mo]
          clear HPT mo
          simp only [rmV]
          go_upto_region 10 with fail
          go_loopw [13, 14] (fun okv kv wq => ∃ j : Nat, okv = .bool false ∧ kv = .int .i64 (j : Int) ∧ j ≤ acc.length ∧ wq = w4) (fun _ kv _ => acc.length - (intOf kv).toNat)
          case atStart => exact ⟨0, rfl, rfl, by omega, rfl⟩
          case round =>
            obtain ⟨j, rfl, rfl, hj, hwq⟩ := hrel
            subst hwq
            by_cases hjl : j < acc.length
            · have hjl' : (j : Int) < (acc.length : Int) := by omega
              go_wp2_with fail
              go_roundw
              case rel => exact ⟨j + 1, rfl, by go_num, by omega, by first | trivial | rfl⟩
              case measure => simp [intOf]; omega
            · have hjl' : ¬ (j : Int) < (acc.length : Int) := by omega
              go_wp2_with fail
              go_roundw
              case rel => exact ⟨k + 1, by omega, by go_num, M4, by rw [HP2.out]; exact ⟨_, rfl, HO4⟩, by rw [HTN.out], HS4⟩
              case measure => simp [intOf]; omega
        | some m =>
          obtain ⟨ma, p, mb⟩ := m
          have hpr : 1 ≤ p ∧ p ≤ 65535 := (mdO_size mo).2.2
          have HPY : Hid (p ∈ acc → ptD (dl.take (k + 1)) = acc) := fun h => by rw [HPT.out]; unfold ptS; simp only; rw [mo]; simp [h]
          have HPN : Hid (p ∉ acc → ptD (dl.take (k + 1)) = acc ++ [p]) := fun h => by rw [HPT.out]; unfold ptS; simp only; rw [mo]; simp [h]
          clear HPT mo
          simp only [rmV]
          go_upto_region 10 with fail
          go_loopw [13, 14] (fun okv kv wq => ∃ j : Nat, okv = .bool (decide (p ∉ acc.take j)) ∧ kv = .int .i64 (j : Int) ∧ j ≤ acc.length ∧ wq = w4) (fun _ kv _ => acc.length - (intOf kv).toNat)
          case atStart => exact ⟨0, by simp, rfl, by omega, rfl⟩
          case round =>
            obtain ⟨j, rfl, rfl, hj, hwq⟩ := hrel
            subst hwq
            by_cases hjl : j < acc.length
            · have hjl' : (j : Int) < (acc.length : Int) := by omega
              have hst : (p ∉ acc.take (j + 1)) ↔ (p ∉ acc.take j ∧ acc[j]?.getD 0 ≠ p) := by
                rw [← List.take_append_getElem hjl, List.mem_append, List.mem_singleton, List.getElem?_eq_getElem hjl]
                simp only [Option.getD_some, not_or]
                exact ⟨fun h => ⟨h.1, fun e => h.2 e.symm⟩, fun h => ⟨h.1, fun e => h.2 e.symm⟩⟩
              have HST := hide hst
              obtain ⟨g, hga, hgc⟩ := own_cellG HO4.out (by rw [hal]; omega) 
              subst hga
              have hcell : wr.cell? ⟨g, j, none⟩ = some (.int .u16 (acc[j]?.getD 0)) := by
                rw [hgc j (by rw [hal]; exact hjl), List.getElem?_eq_getElem hjl]
                unfold u16v
                simp
              clear hst hgc
              generalize acc[j]?.getD 0 = y at *
              by_cases hin : p ∈ acc.take j
              · have d0 : decide (p ∉ acc.take j) = false := by simp [hin]
                rw [d0]
                have HNX : Hid (decide (p ∉ acc.take (j + 1)) = false) := by (show _ = _); rw [decide_eq_false_iff_not, HST.out]; exact fun h => h.1 hin
                clear HST hin d0
                go_wp2_with fail
                go_roundw
                case rel => exact ⟨j + 1, by rw [HNX.out], by go_num, by omega, by first | trivial | rfl⟩
                case measure => simp [intOf]; omega
              · have d0 : decide (p ∉ acc.take j) = true := by simp [hin]
                rw [d0]
                by_cases hyp : y = p
                · have HNX : Hid (decide (p ∉ acc.take (j + 1)) = false) := by (show _ = _); rw [decide_eq_false_iff_not, HST.out]; exact fun h => h.2 hyp
                  have t1 : (y != p) = false := by simp [hyp]
                  clear HST hin d0 hyp
                  go_wp2_with fail
                  go_roundw
                  case rel => exact ⟨j + 1, by rw [HNX.out], by go_num, by omega, by first | trivial | rfl⟩
                  case measure => simp [intOf]; omega
                · have HNX : Hid (decide (p ∉ acc.take (j + 1)) = true) := by (show _ = _); rw [decide_eq_true_eq, HST.out]; exact ⟨hin, hyp⟩
                  have t1 : (y != p) = true := by simp [hyp]
                  clear HST hin d0 hyp
                  go_wp2_with fail
                  go_roundw
                  case rel => exact ⟨j + 1, by rw [HNX.out], by go_num, by omega, by first | trivial | rfl⟩
                  case measure => simp [intOf]; omega
            · have hjl' : ¬ (j : Int) < (acc.length : Int) := by omega
              have hje : acc.take j = acc := List.take_of_length_le (by omega)
              rw [hje]
              by_cases hin : p ∈ acc
              · have d0 : decide (p ∉ acc) = false := by simp [hin]
                rw [d0]
                have HP2 := hide (HPY.out hin)
                clear HPY HPN hin d0
                go_wp2_with fail
                go_roundw
                case rel => exact ⟨k + 1, by omega, by go_num, M4, by rw [HP2.out]; exact ⟨_, rfl, HO4⟩, by rw [HTN.out], HS4⟩
                case measure => simp [intOf]; omega
              · have d0 : decide (p ∉ acc) = true := by simp [hin]
                rw [d0]
                have HP2 := hide (HPN.out hin)
                clear HPY HPN hin d0
                obtain ⟨a1, c1, W1, hr1, hO1, hg1⟩ := app1G (t := 43) Tryd.underlying43 hi1 hz11 hz12 hz13 (by decide) rfl (.int .u16 p) rfl (by rw [hal]; exact HO4.out) (by omega) hs4 43
                obtain ⟨k1, k1o⟩ := app1_keep (by rw [hal]; exact HO4.out) hg1 hs4
                rw [hal] at hr1 hO1
                have HS5 := hide (k1o (by decide) HS4.out)
                have M5 : Below w.heap.size w W1 := M4.trans k1
                have HOF : Hid (W1.ownsRow w.heap.size 47 1 (.slice a1 (acc.length + 1) c1) (acc ++ [p]).length (u16v (acc ++ [p]))) := by
                  have e1 : u16v (acc ++ [p]) = u16v acc ++ [.int .u16 p] := by unfold u16v; simp
                  have e2 : (acc ++ [p]).length = (u16v acc ++ [Value.int .u16 p]).length := by unfold u16v; simp
                  rw [e1, e2]; exact hO1
                have HR1 := hide hr1
                clear hr1 hO1 hg1 k1o k1
                go_upto_region 14 with fail
                go_wp2_with (at_builtin; refine wpList_appT rfl (.tmp 63) (.tmp 66) 43 43 rfl _ _ rfl rfl _ _ HR1.out ?_)
                go_roundw
                case rel => exact ⟨k + 1, by omega, by go_num, M5, by rw [HP2.out]; exact ⟨_, rfl, HOF⟩, by rw [HTN.out], HS5⟩
                case measure => simp [intOf]; omega
      | false =>
        have HTN : Hid (thD host (dl.take (k + 1)) = eqS lk (cnB ++ host)) := by (show _ = _); rw [HTH.out]; rfl
        clear HTH
        go_upto_region 7 with fail
        go_wp2_with fail
        refine (HCO.out lk wr).mono ?_
        rintro e w3 ⟨rfl, l3⟩
        generalize eqS lk (cnB ++ host) = bq at *
        have M3 : Below w.heap.size w w3 := Below.trans M1 (l3.mono M1.size)
        have HO3 := hide (ownsS_ct HO.out (CTs.of l3))
        have HS3 := hide (ownsS_ct HS.out (CTs.of l3))
        clear kl
        have kl := HLK.out w3 HS3.out
        clear HO HS l3
        go_upto_region 8 with fail
        go_wp2_with fail
        refine (rmedia_any lk w3 (by omega)).mono ?_
        rintro e w4 ⟨rfl, l4⟩
        have M4 : Below w.heap.size w w4 := Below.trans M3 (l4.mono M3.size)
        have HO4 := hide (ownsS_ct HO3.out (CTs.of l4))
        have HS4 := hide (ownsS_ct HS3.out (CTs.of l4))
        have hs4 := M4.size
        clear HO3 HS3 l4 kl
        cases mo : mdO lk with
        | none =>
          have HP2 : Hid (ptD (dl.take (k + 1)) = acc) := by (show _ = _); rw [HPT.out]; unfold ptS; simp only; rw [mo]
          clear HPT mo
          simp only [rmV]
          go_upto_region 10 with fail
          go_loopw [13, 14] (fun okv kv wq => ∃ j : Nat, okv = .bool false ∧ kv = .int .i64 (j : Int) ∧ j ≤ acc.length ∧ wq = w4) (fun _ kv _ => acc.length - (intOf kv).toNat)
          case atStart => exact ⟨0, rfl, rfl, by omega, rfl⟩
          case round =>
            obtain ⟨j, rfl, rfl, hj, hwq⟩ := hrel
            subst hwq
            by_cases hjl : j < acc.length
            · have hjl' : (j : Int) < (acc.length : Int) := by omega
              go_wp2_with fail
              go_roundw
              case rel => exact ⟨j + 1, rfl, by go_num, by omega, by first | trivial | rfl⟩
              case measure => simp [intOf]; omega
            · have hjl' : ¬ (j : Int) < (acc.length : Int) := by omega
              go_wp2_with fail
              go_roundw
              case rel => exact ⟨k + 1, by omega, by go_num, M4, by rw [HP2.out]; exact ⟨_, rfl, HO4⟩, by rw [HTN.out], HS4⟩
              case measure => simp [intOf]; omega
        | some m =>
          obtain ⟨ma, p, mb⟩ := m
          have hpr : 1 ≤ p ∧ p ≤ 65535 := (mdO_size mo).2.2
          have HPY : Hid (p ∈ acc → ptD (dl.take (k + 1)) = acc) := fun h => by rw [HPT.out]; unfold ptS; simp only; rw [mo]; simp [h]
          have HPN : Hid (p ∉ acc → ptD (dl.take (k + 1)) = acc ++ [p]) := fun h => by rw [HPT.out]; unfold ptS; simp only; rw [mo]; simp [h]
          clear HPT mo
          simp only [rmV]
          go_upto_region 10 with fail
          go_loopw [13, 14] (fun okv kv wq => ∃ j : Nat, okv = .bool (decide (p ∉ acc.take j)) ∧ kv = .int .i64 (j : Int) ∧ j ≤ acc.length ∧ wq = w4) (fun _ kv _ => acc.length - (intOf kv).toNat)
          case atStart => exact ⟨0, by simp, rfl, by omega, rfl⟩
          case round =>
            obtain ⟨j, rfl, rfl, hj, hwq⟩ := hrel
            subst hwq
            by_cases hjl : j < acc.length
            · have hjl' : (j : Int) < (acc.length : Int) := by omega
              have hst : (p ∉ acc.take (j + 1)) ↔ (p ∉ acc.take j ∧ acc[j]?.getD 0 ≠ p) := by
                rw [← List.take_append_getElem hjl, List.mem_append, List.mem_singleton, List.getElem?_eq_getElem hjl]
                simp only [Option.getD_some, not_or]
                exact ⟨fun h => ⟨h.1, fun e => h.2 e.symm⟩, fun h => ⟨h.1, fun e => h.2 e.symm⟩⟩
              have HST := hide hst
              obtain ⟨g, hga, hgc⟩ := own_cellG HO4.out (by rw [hal]; omega) 
              subst hga
              have hcell : wr.cell? ⟨g, j, none⟩ = some (.int .u16 (acc[j]?.getD 0)) := by
                rw [hgc j (by rw [hal]; exact hjl), List.getElem?_eq_getElem hjl]
                unfold u16v
                simp
              clear hst hgc
              generalize acc[j]?.getD 0 = y at *
              by_cases hin : p ∈ acc.take j
              · have d0 : decide (p ∉ acc.take j) = false := by simp [hin]
                rw [d0]
                have HNX : Hid (decide (p ∉ acc.take (j + 1)) = false) := by (show _ = _); rw [decide_eq_false_iff_not, HST.out]; exact fun h => h.1 hin
                clear HST hin d0
                go_wp2_with fail
                go_roundw
                case rel => exact ⟨j + 1, by rw [HNX.out], by go_num, by omega, by first | trivial | rfl⟩
                case measure => simp [intOf]; omega
              · have d0 : decide (p ∉ acc.take j) = true := by simp [hin]
                rw [d0]
                by_cases hyp : y = p
                · have HNX : Hid (decide (p ∉ acc.take (j + 1)) = false) := by (show _ = _); rw [decide_eq_false_iff_not, HST.out]; exact fun h => h.2 hyp
                  have t1 : (y != p) = false := by simp [hyp]
                  clear HST hin d0 hyp
                  go_wp2_with fail
                  go_roundw
                  case rel => exact ⟨j + 1, by rw [HNX.out], by go_num, by omega, by first | trivial | rfl⟩
                  case measure => simp [intOf]; omega
                · have HNX : Hid (decide (p ∉ acc.take (j + 1)) = true) := by (show _ = _); rw [decide_eq_true_eq, HST.out]; exact ⟨hin, hyp⟩
                  have t1 : (y != p) = true := by simp [hyp]
                  clear HST hin d0 hyp
                  go_wp2_with fail
                  go_roundw
                  case rel => exact ⟨j + 1, by rw [HNX.out], by go_num, by omega, by first | trivial | rfl⟩
                  case measure => simp [intOf]; omega
            · have hjl' : ¬ (j : Int) < (acc.length : Int) := by omega
              have hje : acc.take j = acc := List.take_of_length_le (by omega)
              rw [hje]
              by_cases hin : p ∈ acc
              · have d0 : decide (p ∉ acc) = false := by simp [hin]
                rw [d0]
                have HP2 := hide (HPY.out hin)
                clear HPY HPN hin d0
                go_wp2_with fail
                go_roundw
                case rel => exact ⟨k + 1, by omega, by go_num, M4, by rw [HP2.out]; exact ⟨_, rfl, HO4⟩, by rw [HTN.out], HS4⟩
                case measure => simp [intOf]; omega
              · have d0 : decide (p ∉ acc) = true := by simp [hin]
                rw [d0]
                have HP2 := hide (HPN.out hin)
                clear HPY HPN hin d0
                obtain ⟨a1, c1, W1, hr1, hO1, hg1⟩ := app1G (t := 43) Tryd.underlying43 hi1 hz11 hz12 hz13 (by decide) rfl (.int .u16 p) rfl (by rw [hal]; exact HO4.out) (by omega) hs4 43
                obtain ⟨k1, k1o⟩ := app1_keep (by rw [hal]; exact HO4.out) hg1 hs4
                rw [hal] at hr1 hO1
                have HS5 := hide (k1o (by decide) HS4.out)
                have M5 : Below w.heap.size w W1 := M4.trans k1
                have HOF : Hid (W1.ownsRow w.heap.size 47 1 (.slice a1 (acc.length + 1) c1) (acc ++ [p]).length (u16v (acc ++ [p]))) := by
                  have e1 : u16v (acc ++ [p]) = u16v acc ++ [.int .u16 p] := by unfold u16v; simp
                  have e2 : (acc ++ [p]).length = (u16v acc ++ [Value.int .u16 p]).length := by unfold u16v; simp
                  rw [e1, e2]; exact hO1
                have HR1 := hide hr1
                clear hr1 hO1 hg1 k1o k1
                go_upto_region 14 with fail
                go_wp2_with (at_builtin; refine wpList_appT rfl (.tmp 63) (.tmp 66) 43 43 rfl _ _ rfl rfl _ _ HR1.out ?_)
                go_roundw
                case rel => exact ⟨k + 1, by omega, by go_num, M5, by rw [HP2.out]; exact ⟨_, rfl, HOF⟩, by rw [HTN.out], HS5⟩
                case measure => simp [intOf]; omega
    · have hnl : ¬ (k : Int) < (dl.length : Int) := by omega
      have hkk : dl.take k = dl := List.take_of_length_le (by omega)
      rw [hkk] at HO ⊢
      clear hkk
      generalize ptD dl = acc at *
      generalize thD host dl = b0 at *
      cases b0 with
      | true =>
        go_wp2_with fail
        go_ret
        exact ⟨M1, _, rfl, by rw [HPT0.out]; exact HO.out⟩
      | false =>
        go_wp2_with fail
        go_ret
        exact ⟨M1, _, rfl, by rw [HPT0.out]; exact ⟨rfl, .inl ⟨rfl, rfl⟩⟩⟩
end Go.Proofs.YtehdgndbloaljaaDoor

/- The walk of SipSelf. -/
namespace Go.Proofs.YtehdgndbloaljaaDoor
open Go.RowKit Go.Shelf
set_option maxRecDepth 100000
set_option linter.unusedVariables false
set_option linter.unusedSimpArgs false

/-- How long a message of few headers is. -/
theorem szM_few {st : ByteArray} {hs : List Hr} {n : Nat} (h1 : st.size ≤ 140737488351232) (h2 : ∀ o ∈ hs, o.1.size ≤ 140737488351232 ∧ o.2.size ≤ 140737488351232) (h3 : n ≤ 140737488351232) : szM st (hs.take 100) n ≤ 9000000000000000000 ∧ (hs.take 100).length ≤ 100 := by
  have hl : (hs.take 100).length ≤ 100 := by rw [List.length_take]; omega
  have h2' : ∀ o ∈ hs.take 100, o.1.size ≤ 140737488351232 ∧ o.2.size ≤ 140737488351232 := fun o ho => h2 o (List.mem_of_mem_take ho)
  generalize hs.take 100 = l at *
  have : ∀ m (l : List Hr), l.length ≤ m → (∀ o ∈ l, o.1.size ≤ 140737488351232 ∧ o.2.size ≤ 140737488351232) → hsz l ≤ m * 281474976702468 := by
    intro m
    induction m with
    | zero => intro l hl _; have : l = [] := List.eq_nil_of_length_eq_zero (by omega); subst this; simp [hsz]
    | succ m ih =>
      intro l hl h
      cases l with
      | nil => simp [hsz]
      | cons a l =>
        have h1 := ih l (by simpa using hl) (fun o ho => h o (by simp [ho]))
        have h2 := h a (by simp)
        unfold hsz at h1 ⊢
        simp only [List.map_cons, List.sum_cons]
        omega
  have h4 := this 100 l hl h2'
  unfold szM
  exact ⟨by omega, hl⟩
theorem cg_same (h p : Int) (ml : List (Int × Int)) (hm : ∀ m ∈ ml, m.1 = m.2) : (cgOf h h p p ml).same := ⟨rfl, rfl, hm⟩

end Go.Proofs.YtehdgndbloaljaaDoor

/- The walk of SipPorts. -/
namespace Go.Proofs.YtehdgndbloaljaaDoor
open Go.RowKit Go.Shelf
set_option maxRecDepth 100000
set_option linter.unusedVariables false
set_option linter.unusedSimpArgs false

theorem ptS_rng {acc : List Int} (h : ∀ y ∈ acc, 1 ≤ y ∧ y ≤ 65535) (x : ByteArray × ByteArray) : ∀ y ∈ ptS acc x, 1 ≤ y ∧ y ≤ 65535 := by
  unfold ptS
  cases hm : mdO x.1 with
  | none => exact h
  | some m =>
    obtain ⟨a, p, b⟩ := m
    simp only
    split
    · exact h
    · intro y hy
      rcases List.mem_append.1 hy with q | q
      · exact h y q
      · rw [List.mem_singleton.1 q]
        exact (mdO_size hm).2.2
theorem ptL_rng (l : List (ByteArray × ByteArray)) : ∀ acc : List Int, (∀ y ∈ acc, 1 ≤ y ∧ y ≤ 65535) → ∀ y ∈ l.foldl ptS acc, 1 ≤ y ∧ y ≤ 65535 := by
  induction l with
  | nil => intro acc h; exact h
  | cons x l ih => intro acc h; exact ih _ (ptS_rng h x)
theorem ptsB_rng (h s : ByteArray) : ∀ y ∈ ptsB h s, 1 ≤ y ∧ y ≤ 65535 := by
  unfold ptsB
  split
  · exact ptL_rng _ [] (fun y hy => by cases hy)
  · intro y hy; cases hy
theorem ptsB_len (h s : ByteArray) : (ptsB h s).length ≤ s.size := by
  unfold ptsB
  split
  · have h1 := ptL_len _ (lnsB s) rfl
    have h2 := lnsF_len s.size s
    unfold lnsB at *
    omega
  · exact Nat.zero_le _

set_option maxRecDepth 100000 in
set_option maxHeartbeats 8000000 in
theorem walk_SipPorts (w : World) (hT : TabI w) (hM : TabM w) (st : ByteArray) (sv sb : Value) (hs : List Hr) (zb : List Int) (hy : Mt.By zb) (hH : RdM w.heap.size w sv hs) (hB : Rd w.heap.size w sb zb)
    (hz : st.size ≤ 140737488351232 ∧ (∀ o ∈ hs, o.1.size ≤ 140737488351232 ∧ o.2.size ≤ 140737488351232) ∧ hs.length ≤ 140737488351232 ∧ zb.length ≤ 140737488351232) (h : Int) (hh : 0 ≤ h ∧ h ≤ 4294967295) :
    Calls Tryd.prog 5 #[.agg #[.string st, sv, sb], .int .u32 h] w fun e w' => e = .returned (.bool true) ∧ Below w.heap.size w w' := by
  obtain ⟨sa, scp, rfl, _, _⟩ := hH.slice
  obtain ⟨ba, bcp, rfl, hbl, hbc⟩ := hB.slice
  obtain ⟨hz1, hz2', _, hz3⟩ := hz
  obtain ⟨hzz, hl100⟩ := szM_few (n := zb.length) hz1 hz2' hz3
  have l0 : Later w (w.alloc (.cells #[.string st, .slice sa hs.length scp, .slice ba zb.length bcp] 25)) := later_allocR _ _
  have C0 := hide (heap_alloc_new w (.cells #[.string st, .slice sa hs.length scp, .slice ba zb.length bcp] 25))
  have HFW := hide (few_any st _ _ hs zb _ (hH.later l0) (hB.later l0))
  generalize hs.take 100 = hl at *
  have HL := hide (fun W (l : Later w W) => live14_any W (hT.later l) (hM.later l))
  have HBB := hide (fun W (l : Later w W) => hB.later l)
  go_enter Tryd.func5, Tryd.ntmps5
  go_upto_region 1 with fail
  generalize w.alloc _ = w0 at *
  generalize w.heap.size = gm at C0 ⊢
  have k0 := block_cell C0.out
  go_wp2_with fail
  refine HFW.out.mono ?_
  rintro e w1 ⟨l1, sv2, rfl, hI⟩
  obtain ⟨a2, c2, rfl, _, _⟩ := hI.slice
  clear k0 HFW C0
  have la := later_allocR w1 (.cells #[.string st, .slice a2 hl.length c2, .slice ba zb.length bcp] 25)
  have C1 := hide (heap_alloc_new w1 (.cells #[.string st, .slice a2 hl.length c2, .slice ba zb.length bcp] 25))
  have HI := hide ((hI.later l1).later la)
  have HI1 := hide (fun W (b : Below w1.heap.size w1 W) => ((hI.later l1).below b).mono b.size)
  have LA : Hid (Below w1.heap.size w1 (w1.alloc (.cells #[.string st, .slice a2 hl.length c2, .slice ba zb.length bcp] 25))) := la
  have L2 : Later w (w1.alloc (.cells #[.string st, .slice a2 hl.length c2, .slice ba zb.length bcp] 25)) := (Later.trans l0 l1).trans la
  have hgn : w.heap.size ≤ w1.heap.size := (Later.trans l0 l1).size
  go_upto_region 2 with fail
  change Code.wp _ _ _ _ (w1.alloc (.cells #[.string st, .slice a2 hl.length c2, .slice ba zb.length bcp] 25))
  generalize w1.alloc (.cells #[.string st, .slice a2 hl.length c2, .slice ba zb.length bcp] 25) = w2 at *
  generalize w1.heap.size = gn at *
  clear la l1 l0
  by_cases h5 : zb.length ≤ 5000
  · have h5' : ¬ (5000 : Int) < (zb.length : Int) := by omega
    have k1 := block_cell C1.out
    go_upto_region 4 with fail
    clear k1
    have HB2 := hide (HBB.out w2 L2)
    have hyc := hy
    have hzc : zb.length ≤ 5000 := h5
    clear hy
    generalize zb = zc at *
    have HPO := hide (fun W (l : Later w2 W) => ports14_any st _ _ hl zc h W (hT.later (L2.trans l)) (hM.later (L2.trans l)) (HI.out.later l) (HB2.out.later l) hzc hh)
    have HRF := hide (fun W (l : Later w2 W) => ref_any st _ _ hl zc W (HI.out.later l) (HB2.out.later l) hl100)
    have HRP := hide (fun W v (l : Later w2 W) (hv : RdM W.heap.size W v hl) => rports14_any st v _ hl zc h W hv (HB2.out.later l) hyc hzc hh)
    have HRNG : Hid (∀ y ∈ ptsB (adB h) (strOfNums zc), 1 ≤ y ∧ y ≤ 65535) := ptsB_rng _ _
    have hpl : (ptsB (adB h) (strOfNums zc)).length ≤ 5000 := by have := ptsB_len (adB h) (strOfNums zc); rw [strOfNums_size] at this; omega
    generalize ptsB (adB h) (strOfNums zc) = pts at *
    refine anyR_begin (R := Later) Later.pre Later.drew 9 rfl (by kernel_rfl) (fun V0 hV0 => ?_)
    have kF : ∀ u, Later V0 u → ∀ j, u.cell? ⟨gn, j, none⟩ = (#[.string st, .slice a2 hl.length c2, .slice ba zc.length bcp] : Array Value)[j]? := fun u hu => block_cell (later_keep (hV0.trans hu) C1.out)
    refine anyR_val Later.pre 0 rfl (by kernel_rfl) (by kernel_rfl) (by kernel_rfl) (fun _ _ _ _ h => h) rfl ?_; apply Exists.intro; refine ⟨fun v1 hv1 => ?_, ?_⟩; (· (go_simp; rfl)); simp only [Act.put, List.setIfInBounds_toArray, List.set_cons_zero, List.set_cons_succ]
    refine anyR_val Later.pre 1 rfl (by kernel_rfl) (by kernel_rfl) (by kernel_rfl) (fun _ _ _ _ h => h) rfl ?_; apply Exists.intro; refine ⟨fun v1 hv1 => ?_, ?_⟩; (· (go_simp; rfl)); simp only [Act.put, List.setIfInBounds_toArray, List.set_cons_zero, List.set_cons_succ]
    refine anyR_val Later.pre 3 rfl (by kernel_rfl) (by kernel_rfl) (by kernel_rfl) (fun _ _ _ _ h => h) rfl ?_; apply Exists.intro; refine ⟨fun v1 hv1 => ?_, ?_⟩; (· (go_simp; rfl)); simp only [Act.put, List.setIfInBounds_toArray, List.set_cons_zero, List.set_cons_succ]
    refine anyR_val Later.pre 5 rfl (by kernel_rfl) (by kernel_rfl) (by kernel_rfl) (fun _ _ _ _ h => h) rfl ?_; apply Exists.intro; refine ⟨fun v1 hv1 => ?_, ?_⟩; (· (go_simp; rfl)); simp only [Act.put, List.setIfInBounds_toArray, List.set_cons_zero, List.set_cons_succ]
    clear kF
    refine anyR_one 2 rfl (by kernel_rfl) rfl (fun V1 hV1 => ?_)
    refine wp_enter 14 #[.agg #[.string st, .slice a2 hl.length c2, .slice ba zc.length bcp], .int .u32 h] (by go_simp) ((HPO.out V1 (hV0.trans hV1)).mono ?_)
    rintro e V2 ⟨k2, v, rfl, hrow1⟩
    obtain ⟨pa, pc, rfl⟩ := owns_form hrow1
    refine ⟨k2, ?_⟩
    simp only [Act.put, List.setIfInBounds_toArray, List.set_cons_zero, List.set_cons_succ]
    refine anyR_one 4 rfl (by kernel_rfl) rfl (fun V3 hV3 => ?_)
    refine wp_enter 16 #[.agg #[.string st, .slice a2 hl.length c2, .slice ba zc.length bcp]] (by go_simp) ((HRF.out V3 (hV0.trans (hV1.trans (k2.trans hV3)))).mono ?_)
    rintro e V4 ⟨k4, vh, rfl, hrowh⟩
    have hIh := ownR_rd hrowh
    obtain ⟨va, vc, rfl⟩ := owns_form hrowh
    clear hrowh
    refine ⟨k4, ?_⟩
    simp only [Act.put, List.setIfInBounds_toArray, List.set_cons_zero, List.set_cons_succ]
    refine anyR_one 6 rfl (by kernel_rfl) rfl (fun V5 hV5 => ?_)
    refine wp_enter 15 #[.agg #[.string st, .slice va hl.length vc, .slice ba zc.length bcp], .int .u32 h] (by go_simp) ((HRP.out V5 _ (hV0.trans (hV1.trans (k2.trans (hV3.trans (k4.trans hV5))))) (hIh.later hV5)).mono ?_)
    rintro e V6 ⟨k6, v, rfl, hrow2⟩
    obtain ⟨qa, qc, rfl⟩ := owns_form hrow2
    refine ⟨k6, ?_⟩
    simp only [Act.put, List.setIfInBounds_toArray, List.set_cons_zero, List.set_cons_succ]
    refine anyR_val Later.pre 7 rfl (by kernel_rfl) (by kernel_rfl) (by kernel_rfl) (fun _ _ _ _ h => h) rfl ?_; apply Exists.intro; refine ⟨fun v1 hv1 => ?_, ?_⟩; (· (go_simp; rfl)); simp only [Act.put, List.setIfInBounds_toArray, List.set_cons_zero, List.set_cons_succ]
    refine anyR_val Later.pre 8 rfl (by kernel_rfl) (by kernel_rfl) (by kernel_rfl) (fun _ _ _ _ h => h) rfl ?_; apply Exists.intro; refine ⟨fun v1 hv1 => ?_, ?_⟩; (· (go_simp; rfl)); simp only [Act.put, List.setIfInBounds_toArray, List.set_cons_zero, List.set_cons_succ]
    refine anyR_done (by kernel_rfl) (fun V9 hV9 => ?_)
    have L9 : Later w V9 := L2.trans (hV0.trans (hV1.trans (k2.trans (hV3.trans (k4.trans (hV5.trans (k6.trans hV9)))))))
    have HA := hide (ownsS_ct hrow1 (CTs.of (hV3.trans (k4.trans (hV5.trans (k6.trans hV9))))))
    have HB9 := hide (ownsS_ct hrow2 (CTs.of hV9))
    clear hrow1 hrow2 HPO HRF HRP hIh
    have hln : ((pts.length : Int) != (pts.length : Int)) = false := by simp
    go_upto_region 8 with fail
    clear hln
    have hul : (u16v pts).length = pts.length := by unfold u16v; simp
    go_loopw [8] (fun iv wr => ∃ k : Nat, k ≤ pts.length ∧ iv = .int .i64 (k : Int) ∧ Later V9 wr) (fun iv _ => pts.length - (intOf iv).toNat)
    case atStart => exact ⟨0, by omega, rfl, Later.refl _⟩
    case round =>
      obtain ⟨k, hk, rfl, lr⟩ := hrel
      by_cases hlt : k < pts.length
      · have hlt' : (k : Int) < (pts.length : Int) := by omega
        obtain ⟨g1, hg1, hc1⟩ := own_cellG (ownsS_ct HA.out (CTs.of lr)) (by rw [hul]; omega)
        obtain ⟨g2, hg2, hc2⟩ := own_cellG (ownsS_ct HB9.out (CTs.of lr)) (by rw [hul]; omega)
        have d1 := hc1 k (by rw [hul]; exact hlt)
        have d2 := hc2 k (by rw [hul]; exact hlt)
        have hu : (u16v pts)[k]? = some (.int .u16 (pts[k]?.getD 0)) := by unfold u16v; rw [List.getElem?_map, List.getElem?_eq_getElem hlt]; rfl
        rw [hu] at d1 d2
        have hr := HRNG.out pts[k] (List.getElem_mem hlt)
        have hg : pts[k]?.getD 0 = pts[k] := by rw [List.getElem?_eq_getElem hlt]; rfl
        rw [← hg] at hr
        clear hc1 hc2 hu hg
        subst hg1 hg2
        generalize pts[k]?.getD 0 = y at *
        have t1 : (y != y) = false := by simp
        have t2 : (y == 0) = false := by rw [beq_eq_false_iff_ne]; omega
        go_upto_region 10 with fail
        refine anyR_begin (R := Later) Later.pre Later.drew 16 rfl (by kernel_rfl) (fun U0 hU0 => ?_)
        have e1 : ∀ u, Later U0 u → u.cell? ⟨g1, k, none⟩ = some (.int .u16 y) := fun u hu => (hU0.trans hu).cell d1
        have e2 : ∀ u, Later U0 u → u.cell? ⟨g2, k, none⟩ = some (.int .u16 y) := fun u hu => (hU0.trans hu).cell d2
        clear d1 d2
        refine anyR_val Later.pre 0 rfl (by kernel_rfl) (by kernel_rfl) (by kernel_rfl) (fun _ _ _ _ h => h) rfl ?_; apply Exists.intro; refine ⟨fun v1 hv1 => ?_, ?_⟩; (· (go_simp; rfl)); simp only [Act.put, List.setIfInBounds_toArray, List.set_cons_zero, List.set_cons_succ]
        refine anyR_val Later.pre 1 rfl (by kernel_rfl) (by kernel_rfl) (by kernel_rfl) (fun _ _ _ _ h => h) rfl ?_; apply Exists.intro; refine ⟨fun v1 hv1 => ?_, ?_⟩; (· (go_simp; rfl)); simp only [Act.put, List.setIfInBounds_toArray, List.set_cons_zero, List.set_cons_succ]
        refine anyR_val Later.pre 2 rfl (by kernel_rfl) (by kernel_rfl) (by kernel_rfl) (fun _ _ _ _ h => h) rfl ?_; apply Exists.intro; refine ⟨fun v1 hv1 => ?_, ?_⟩; (· (go_simp; rfl)); simp only [Act.put, List.setIfInBounds_toArray, List.set_cons_zero, List.set_cons_succ]
        refine anyR_val Later.pre 3 rfl (by kernel_rfl) (by kernel_rfl) (by kernel_rfl) (fun _ _ _ _ h => h) rfl ?_; apply Exists.intro; refine ⟨fun v1 hv1 => ?_, ?_⟩; (· (go_simp; rfl)); simp only [Act.put, List.setIfInBounds_toArray, List.set_cons_zero, List.set_cons_succ]
        refine anyR_val Later.pre 4 rfl (by kernel_rfl) (by kernel_rfl) (by kernel_rfl) (fun _ _ _ _ h => h) rfl ?_; apply Exists.intro; refine ⟨fun v1 hv1 => ?_, ?_⟩; (· (go_simp; rfl)); simp only [Act.put, List.setIfInBounds_toArray, List.set_cons_zero, List.set_cons_succ]
        refine anyR_val Later.pre 5 rfl (by kernel_rfl) (by kernel_rfl) (by kernel_rfl) (fun _ _ _ _ h => h) rfl ?_; apply Exists.intro; refine ⟨fun v1 hv1 => ?_, ?_⟩; (· (go_simp; rfl)); simp only [Act.put, List.setIfInBounds_toArray, List.set_cons_zero, List.set_cons_succ]
        refine anyR_val Later.pre 6 rfl (by kernel_rfl) (by kernel_rfl) (by kernel_rfl) (fun _ _ _ _ h => h) rfl ?_; apply Exists.intro; refine ⟨fun v1 hv1 => ?_, ?_⟩; (· (go_simp; rfl)); simp only [Act.put, List.setIfInBounds_toArray, List.set_cons_zero, List.set_cons_succ]
        refine anyR_val Later.pre 7 rfl (by kernel_rfl) (by kernel_rfl) (by kernel_rfl) (fun _ _ _ _ h => h) rfl ?_; apply Exists.intro; refine ⟨fun v1 hv1 => ?_, ?_⟩; (· (go_simp; rfl)); simp only [Act.put, List.setIfInBounds_toArray, List.set_cons_zero, List.set_cons_succ]
        refine anyR_val Later.pre 8 rfl (by kernel_rfl) (by kernel_rfl) (by kernel_rfl) (fun _ _ _ _ h => h) rfl ?_; apply Exists.intro; refine ⟨fun v1 hv1 => ?_, ?_⟩; (· (go_simp; rfl)); simp only [Act.put, List.setIfInBounds_toArray, List.set_cons_zero, List.set_cons_succ]
        try rw [t1]
        refine anyR_val Later.pre 9 rfl (by kernel_rfl) (by kernel_rfl) (by kernel_rfl) (fun _ _ _ _ h => h) rfl ?_; apply Exists.intro; refine ⟨fun v1 hv1 => ?_, ?_⟩; (· (go_simp; rfl)); simp only [Act.put, List.setIfInBounds_toArray, List.set_cons_zero, List.set_cons_succ]
        refine anyR_valG Later.pre 10 rfl (by kernel_rfl) (by kernel_rfl) (by kernel_rfl) (fun _ _ _ _ h => h) (by rfl) ?_; apply Exists.intro; refine ⟨fun v1 hv1 => ?_, ?_⟩; (· (go_simp; rfl)); simp only [Act.put, List.setIfInBounds_toArray, List.set_cons_zero, List.set_cons_succ]
        refine anyR_valG Later.pre 11 rfl (by kernel_rfl) (by kernel_rfl) (by kernel_rfl) (fun _ _ _ _ h => h) (by rfl) ?_; apply Exists.intro; refine ⟨fun v1 hv1 => ?_, ?_⟩; (· (go_simp; rfl)); simp only [Act.put, List.setIfInBounds_toArray, List.set_cons_zero, List.set_cons_succ]
        refine anyR_valG Later.pre 12 rfl (by kernel_rfl) (by kernel_rfl) (by kernel_rfl) (fun _ _ _ _ h => h) (by rfl) ?_; apply Exists.intro; refine ⟨fun v1 hv1 => ?_, ?_⟩; (· (go_simp; rfl)); simp only [Act.put, List.setIfInBounds_toArray, List.set_cons_zero, List.set_cons_succ]
        refine anyR_valG Later.pre 13 rfl (by kernel_rfl) (by kernel_rfl) (by kernel_rfl) (fun _ _ _ _ h => h) (by rfl) ?_; apply Exists.intro; refine ⟨fun v1 hv1 => ?_, ?_⟩; (· (go_simp; rfl)); simp only [Act.put, List.setIfInBounds_toArray, List.set_cons_zero, List.set_cons_succ]
        refine anyR_valG Later.pre 14 rfl (by kernel_rfl) (by kernel_rfl) (by kernel_rfl) (fun _ _ _ _ h => h) (by rfl) ?_; apply Exists.intro; refine ⟨fun v1 hv1 => ?_, ?_⟩; (· (go_simp; rfl)); simp only [Act.put, List.setIfInBounds_toArray, List.set_cons_zero, List.set_cons_succ]
        try rw [t2]
        refine anyR_val Later.pre 15 rfl (by kernel_rfl) (by kernel_rfl) (by kernel_rfl) (fun _ _ _ _ h => h) rfl ?_; apply Exists.intro; refine ⟨fun v1 hv1 => ?_, ?_⟩; (· (go_simp; rfl)); simp only [Act.put, List.setIfInBounds_toArray, List.set_cons_zero, List.set_cons_succ]
        clear e1 e2
        refine anyR_done (by kernel_rfl) (fun U9 hU9 => ?_)
        have lr2 := lr.trans (hU0.trans hU9)
        go_wp2_with fail
        go_roundw
        case rel => exact ⟨k + 1, by omega, by go_num, lr2⟩
        case measure => simp [intOf]; omega
      · have hnl : ¬ (k : Int) < (pts.length : Int) := by omega
        go_upto_region 12 with fail
        go_wp2_with fail
        refine (HL.out wr (L9.trans lr)).mono ?_
        rintro e w8 ⟨rfl, l8⟩
        go_wp2_with fail
        go_ret
        exact ⟨rfl, L9.trans (lr.trans l8)⟩
  · have h5' : (5000 : Int) < (zb.length : Int) := by omega
    have hb5 : (5000 : Int) ≤ (bcp : Int) := by omega
    have k1 := block_cell C1.out
    have f1 := block_frozen C1.out
    have CS := hide (heap_set1 C1.out 2 (.slice ba 5000 bcp))
    have hbt : But (fun b => b = gn) w2 (w2.setCell ⟨gn, 2, none⟩ (.slice ba 5000 bcp)) := putRow_but (E := fun b => b = gn) (n := gn) (W := w2) rfl [.slice ba 5000 bcp] 2 _ (But.refl _ _)
    have LS : Later w (w2.setCell ⟨gn, 2, none⟩ (.slice ba 5000 bcp)) := Below.trans L2 (hbt.below L2.size (fun k hk e => by omega))
    have HBS : Hid (Rd (w2.setCell ⟨gn, 2, none⟩ (.slice ba 5000 bcp)).heap.size (w2.setCell ⟨gn, 2, none⟩ (.slice ba 5000 bcp)) (.slice ba 5000 bcp) (zb.take 5000)) := (HBB.out _ LS).take 5000 (by omega)
    have HIS := hide (HI1.out _ (LA.out.setCell (p := ⟨gn, 2, none⟩) (Nat.le_refl gn) (.slice ba 5000 bcp)))
    go_upto_region 4 with fail
    clear k1 f1 hbt
    have hyc : Mt.By (zb.take 5000) := fun z hz => hy z (List.mem_of_mem_take hz)
    have htl : (zb.take 5000).length = 5000 := by rw [List.length_take]; omega
    have hzc : (zb.take 5000).length ≤ 5000 := by omega
    clear hy HBB HI HI1 LA C1
    generalize hW : w2.setCell ⟨gn, 2, none⟩ (.slice ba 5000 bcp) = w3 at *
    generalize zb.take 5000 = zc at *
    rw [← htl] at CS HBS ⊢
    clear htl hW
    have HPO := hide (fun W (l : Later w3 W) => ports14_any st _ _ hl zc h W (hT.later (LS.trans l)) (hM.later (LS.trans l)) (HIS.out.later l) (HBS.out.later l) hzc hh)
    have HRF := hide (fun W (l : Later w3 W) => ref_any st _ _ hl zc W (HIS.out.later l) (HBS.out.later l) hl100)
    have HRP := hide (fun W v (l : Later w3 W) (hv : RdM W.heap.size W v hl) => rports14_any st v _ hl zc h W hv (HBS.out.later l) hyc hzc hh)
    have HRNG : Hid (∀ y ∈ ptsB (adB h) (strOfNums zc), 1 ≤ y ∧ y ≤ 65535) := ptsB_rng _ _
    have hpl : (ptsB (adB h) (strOfNums zc)).length ≤ 5000 := by have := ptsB_len (adB h) (strOfNums zc); rw [strOfNums_size] at this; omega
    generalize ptsB (adB h) (strOfNums zc) = pts at *
    refine anyR_begin (R := Later) Later.pre Later.drew 9 rfl (by kernel_rfl) (fun V0 hV0 => ?_)
    have kF : ∀ u, Later V0 u → ∀ j, u.cell? ⟨gn, j, none⟩ = (#[.string st, .slice a2 hl.length c2, .slice ba zc.length bcp] : Array Value)[j]? := fun u hu => block_cell (later_keep (hV0.trans hu) CS.out)
    refine anyR_val Later.pre 0 rfl (by kernel_rfl) (by kernel_rfl) (by kernel_rfl) (fun _ _ _ _ h => h) rfl ?_; apply Exists.intro; refine ⟨fun v1 hv1 => ?_, ?_⟩; (· (go_simp; rfl)); simp only [Act.put, List.setIfInBounds_toArray, List.set_cons_zero, List.set_cons_succ]
    refine anyR_val Later.pre 1 rfl (by kernel_rfl) (by kernel_rfl) (by kernel_rfl) (fun _ _ _ _ h => h) rfl ?_; apply Exists.intro; refine ⟨fun v1 hv1 => ?_, ?_⟩; (· (go_simp; rfl)); simp only [Act.put, List.setIfInBounds_toArray, List.set_cons_zero, List.set_cons_succ]
    refine anyR_val Later.pre 3 rfl (by kernel_rfl) (by kernel_rfl) (by kernel_rfl) (fun _ _ _ _ h => h) rfl ?_; apply Exists.intro; refine ⟨fun v1 hv1 => ?_, ?_⟩; (· (go_simp; rfl)); simp only [Act.put, List.setIfInBounds_toArray, List.set_cons_zero, List.set_cons_succ]
    refine anyR_val Later.pre 5 rfl (by kernel_rfl) (by kernel_rfl) (by kernel_rfl) (fun _ _ _ _ h => h) rfl ?_; apply Exists.intro; refine ⟨fun v1 hv1 => ?_, ?_⟩; (· (go_simp; rfl)); simp only [Act.put, List.setIfInBounds_toArray, List.set_cons_zero, List.set_cons_succ]
    clear kF
    refine anyR_one 2 rfl (by kernel_rfl) rfl (fun V1 hV1 => ?_)
    refine wp_enter 14 #[.agg #[.string st, .slice a2 hl.length c2, .slice ba zc.length bcp], .int .u32 h] (by go_simp) ((HPO.out V1 (hV0.trans hV1)).mono ?_)
    rintro e V2 ⟨k2, v, rfl, hrow1⟩
    obtain ⟨pa, pc, rfl⟩ := owns_form hrow1
    refine ⟨k2, ?_⟩
    simp only [Act.put, List.setIfInBounds_toArray, List.set_cons_zero, List.set_cons_succ]
    refine anyR_one 4 rfl (by kernel_rfl) rfl (fun V3 hV3 => ?_)
    refine wp_enter 16 #[.agg #[.string st, .slice a2 hl.length c2, .slice ba zc.length bcp]] (by go_simp) ((HRF.out V3 (hV0.trans (hV1.trans (k2.trans hV3)))).mono ?_)
    rintro e V4 ⟨k4, vh, rfl, hrowh⟩
    have hIh := ownR_rd hrowh
    obtain ⟨va, vc, rfl⟩ := owns_form hrowh
    clear hrowh
    refine ⟨k4, ?_⟩
    simp only [Act.put, List.setIfInBounds_toArray, List.set_cons_zero, List.set_cons_succ]
    refine anyR_one 6 rfl (by kernel_rfl) rfl (fun V5 hV5 => ?_)
    refine wp_enter 15 #[.agg #[.string st, .slice va hl.length vc, .slice ba zc.length bcp], .int .u32 h] (by go_simp) ((HRP.out V5 _ (hV0.trans (hV1.trans (k2.trans (hV3.trans (k4.trans hV5))))) (hIh.later hV5)).mono ?_)
    rintro e V6 ⟨k6, v, rfl, hrow2⟩
    obtain ⟨qa, qc, rfl⟩ := owns_form hrow2
    refine ⟨k6, ?_⟩
    simp only [Act.put, List.setIfInBounds_toArray, List.set_cons_zero, List.set_cons_succ]
    refine anyR_val Later.pre 7 rfl (by kernel_rfl) (by kernel_rfl) (by kernel_rfl) (fun _ _ _ _ h => h) rfl ?_; apply Exists.intro; refine ⟨fun v1 hv1 => ?_, ?_⟩; (· (go_simp; rfl)); simp only [Act.put, List.setIfInBounds_toArray, List.set_cons_zero, List.set_cons_succ]
    refine anyR_val Later.pre 8 rfl (by kernel_rfl) (by kernel_rfl) (by kernel_rfl) (fun _ _ _ _ h => h) rfl ?_; apply Exists.intro; refine ⟨fun v1 hv1 => ?_, ?_⟩; (· (go_simp; rfl)); simp only [Act.put, List.setIfInBounds_toArray, List.set_cons_zero, List.set_cons_succ]
    refine anyR_done (by kernel_rfl) (fun V9 hV9 => ?_)
    have L9 : Later w V9 := LS.trans (hV0.trans (hV1.trans (k2.trans (hV3.trans (k4.trans (hV5.trans (k6.trans hV9)))))))
    have HA := hide (ownsS_ct hrow1 (CTs.of (hV3.trans (k4.trans (hV5.trans (k6.trans hV9))))))
    have HB9 := hide (ownsS_ct hrow2 (CTs.of hV9))
    clear hrow1 hrow2 HPO HRF HRP hIh
    have hln : ((pts.length : Int) != (pts.length : Int)) = false := by simp
    go_upto_region 8 with fail
    clear hln
    have hul : (u16v pts).length = pts.length := by unfold u16v; simp
    go_loopw [8] (fun iv wr => ∃ k : Nat, k ≤ pts.length ∧ iv = .int .i64 (k : Int) ∧ Later V9 wr) (fun iv _ => pts.length - (intOf iv).toNat)
    case atStart => exact ⟨0, by omega, rfl, Later.refl _⟩
    case round =>
      obtain ⟨k, hk, rfl, lr⟩ := hrel
      by_cases hlt : k < pts.length
      · have hlt' : (k : Int) < (pts.length : Int) := by omega
        obtain ⟨g1, hg1, hc1⟩ := own_cellG (ownsS_ct HA.out (CTs.of lr)) (by rw [hul]; omega)
        obtain ⟨g2, hg2, hc2⟩ := own_cellG (ownsS_ct HB9.out (CTs.of lr)) (by rw [hul]; omega)
        have d1 := hc1 k (by rw [hul]; exact hlt)
        have d2 := hc2 k (by rw [hul]; exact hlt)
        have hu : (u16v pts)[k]? = some (.int .u16 (pts[k]?.getD 0)) := by unfold u16v; rw [List.getElem?_map, List.getElem?_eq_getElem hlt]; rfl
        rw [hu] at d1 d2
        have hr := HRNG.out pts[k] (List.getElem_mem hlt)
        have hg : pts[k]?.getD 0 = pts[k] := by rw [List.getElem?_eq_getElem hlt]; rfl
        rw [← hg] at hr
        clear hc1 hc2 hu hg
        subst hg1 hg2
        generalize pts[k]?.getD 0 = y at *
        have t1 : (y != y) = false := by simp
        have t2 : (y == 0) = false := by rw [beq_eq_false_iff_ne]; omega
        go_upto_region 10 with fail
        refine anyR_begin (R := Later) Later.pre Later.drew 16 rfl (by kernel_rfl) (fun U0 hU0 => ?_)
        have e1 : ∀ u, Later U0 u → u.cell? ⟨g1, k, none⟩ = some (.int .u16 y) := fun u hu => (hU0.trans hu).cell d1
        have e2 : ∀ u, Later U0 u → u.cell? ⟨g2, k, none⟩ = some (.int .u16 y) := fun u hu => (hU0.trans hu).cell d2
        clear d1 d2
        refine anyR_val Later.pre 0 rfl (by kernel_rfl) (by kernel_rfl) (by kernel_rfl) (fun _ _ _ _ h => h) rfl ?_; apply Exists.intro; refine ⟨fun v1 hv1 => ?_, ?_⟩; (· (go_simp; rfl)); simp only [Act.put, List.setIfInBounds_toArray, List.set_cons_zero, List.set_cons_succ]
        refine anyR_val Later.pre 1 rfl (by kernel_rfl) (by kernel_rfl) (by kernel_rfl) (fun _ _ _ _ h => h) rfl ?_; apply Exists.intro; refine ⟨fun v1 hv1 => ?_, ?_⟩; (· (go_simp; rfl)); simp only [Act.put, List.setIfInBounds_toArray, List.set_cons_zero, List.set_cons_succ]
        refine anyR_val Later.pre 2 rfl (by kernel_rfl) (by kernel_rfl) (by kernel_rfl) (fun _ _ _ _ h => h) rfl ?_; apply Exists.intro; refine ⟨fun v1 hv1 => ?_, ?_⟩; (· (go_simp; rfl)); simp only [Act.put, List.setIfInBounds_toArray, List.set_cons_zero, List.set_cons_succ]
        refine anyR_val Later.pre 3 rfl (by kernel_rfl) (by kernel_rfl) (by kernel_rfl) (fun _ _ _ _ h => h) rfl ?_; apply Exists.intro; refine ⟨fun v1 hv1 => ?_, ?_⟩; (· (go_simp; rfl)); simp only [Act.put, List.setIfInBounds_toArray, List.set_cons_zero, List.set_cons_succ]
        refine anyR_val Later.pre 4 rfl (by kernel_rfl) (by kernel_rfl) (by kernel_rfl) (fun _ _ _ _ h => h) rfl ?_; apply Exists.intro; refine ⟨fun v1 hv1 => ?_, ?_⟩; (· (go_simp; rfl)); simp only [Act.put, List.setIfInBounds_toArray, List.set_cons_zero, List.set_cons_succ]
        refine anyR_val Later.pre 5 rfl (by kernel_rfl) (by kernel_rfl) (by kernel_rfl) (fun _ _ _ _ h => h) rfl ?_; apply Exists.intro; refine ⟨fun v1 hv1 => ?_, ?_⟩; (· (go_simp; rfl)); simp only [Act.put, List.setIfInBounds_toArray, List.set_cons_zero, List.set_cons_succ]
        refine anyR_val Later.pre 6 rfl (by kernel_rfl) (by kernel_rfl) (by kernel_rfl) (fun _ _ _ _ h => h) rfl ?_; apply Exists.intro; refine ⟨fun v1 hv1 => ?_, ?_⟩; (· (go_simp; rfl)); simp only [Act.put, List.setIfInBounds_toArray, List.set_cons_zero, List.set_cons_succ]
        refine anyR_val Later.pre 7 rfl (by kernel_rfl) (by kernel_rfl) (by kernel_rfl) (fun _ _ _ _ h => h) rfl ?_; apply Exists.intro; refine ⟨fun v1 hv1 => ?_, ?_⟩; (· (go_simp; rfl)); simp only [Act.put, List.setIfInBounds_toArray, List.set_cons_zero, List.set_cons_succ]
        refine anyR_val Later.pre 8 rfl (by kernel_rfl) (by kernel_rfl) (by kernel_rfl) (fun _ _ _ _ h => h) rfl ?_; apply Exists.intro; refine ⟨fun v1 hv1 => ?_, ?_⟩; (· (go_simp; rfl)); simp only [Act.put, List.setIfInBounds_toArray, List.set_cons_zero, List.set_cons_succ]
        try rw [t1]
        refine anyR_val Later.pre 9 rfl (by kernel_rfl) (by kernel_rfl) (by kernel_rfl) (fun _ _ _ _ h => h) rfl ?_; apply Exists.intro; refine ⟨fun v1 hv1 => ?_, ?_⟩; (· (go_simp; rfl)); simp only [Act.put, List.setIfInBounds_toArray, List.set_cons_zero, List.set_cons_succ]
        refine anyR_valG Later.pre 10 rfl (by kernel_rfl) (by kernel_rfl) (by kernel_rfl) (fun _ _ _ _ h => h) (by rfl) ?_; apply Exists.intro; refine ⟨fun v1 hv1 => ?_, ?_⟩; (· (go_simp; rfl)); simp only [Act.put, List.setIfInBounds_toArray, List.set_cons_zero, List.set_cons_succ]
        refine anyR_valG Later.pre 11 rfl (by kernel_rfl) (by kernel_rfl) (by kernel_rfl) (fun _ _ _ _ h => h) (by rfl) ?_; apply Exists.intro; refine ⟨fun v1 hv1 => ?_, ?_⟩; (· (go_simp; rfl)); simp only [Act.put, List.setIfInBounds_toArray, List.set_cons_zero, List.set_cons_succ]
        refine anyR_valG Later.pre 12 rfl (by kernel_rfl) (by kernel_rfl) (by kernel_rfl) (fun _ _ _ _ h => h) (by rfl) ?_; apply Exists.intro; refine ⟨fun v1 hv1 => ?_, ?_⟩; (· (go_simp; rfl)); simp only [Act.put, List.setIfInBounds_toArray, List.set_cons_zero, List.set_cons_succ]
        refine anyR_valG Later.pre 13 rfl (by kernel_rfl) (by kernel_rfl) (by kernel_rfl) (fun _ _ _ _ h => h) (by rfl) ?_; apply Exists.intro; refine ⟨fun v1 hv1 => ?_, ?_⟩; (· (go_simp; rfl)); simp only [Act.put, List.setIfInBounds_toArray, List.set_cons_zero, List.set_cons_succ]
        refine anyR_valG Later.pre 14 rfl (by kernel_rfl) (by kernel_rfl) (by kernel_rfl) (fun _ _ _ _ h => h) (by rfl) ?_; apply Exists.intro; refine ⟨fun v1 hv1 => ?_, ?_⟩; (· (go_simp; rfl)); simp only [Act.put, List.setIfInBounds_toArray, List.set_cons_zero, List.set_cons_succ]
        try rw [t2]
        refine anyR_val Later.pre 15 rfl (by kernel_rfl) (by kernel_rfl) (by kernel_rfl) (fun _ _ _ _ h => h) rfl ?_; apply Exists.intro; refine ⟨fun v1 hv1 => ?_, ?_⟩; (· (go_simp; rfl)); simp only [Act.put, List.setIfInBounds_toArray, List.set_cons_zero, List.set_cons_succ]
        clear e1 e2
        refine anyR_done (by kernel_rfl) (fun U9 hU9 => ?_)
        have lr2 := lr.trans (hU0.trans hU9)
        go_wp2_with fail
        go_roundw
        case rel => exact ⟨k + 1, by omega, by go_num, lr2⟩
        case measure => simp [intOf]; omega
      · have hnl : ¬ (k : Int) < (pts.length : Int) := by omega
        go_upto_region 12 with fail
        go_wp2_with fail
        refine (HL.out wr (L9.trans lr)).mono ?_
        rintro e w8 ⟨rfl, l8⟩
        go_wp2_with fail
        go_ret
        exact ⟨rfl, L9.trans (lr.trans l8)⟩
end Go.Proofs.YtehdgndbloaljaaDoor
