/- Package sip: what stands behind a mark, changed. -/
import Derived.Test.YtibjgaelaijgpaaGreatDoorIH
import Derived.Deep.Cut
namespace Go.Proofs.YtibjgaelaijgpaaGreatDoor
open Go.RowKit Go.Shelf
set_option maxRecDepth 100000
set_option linter.unusedVariables false
set_option linter.unusedSimpArgs false

/-- Where the first of the ends is; behind all, if there is none. -/
def endP (s t : ByteArray) : Nat := ((List.range t.size).find? fun j => enC s (bAt t j)).getD t.size
theorem endP_at {s t : ByteArray} {p : Nat} (hp : p < t.size) (h : enC s (bAt t p) = true) (hb : ∀ j, j < p → enC s (bAt t j) = false) : endP s t = p := by
  unfold endP
  have : (List.range t.size).find? (fun j => enC s (bAt t j)) = some p := by
    rw [List.find?_range_eq_some]
    exact ⟨by simpa using h, by simpa using hp, fun j hj => by simpa using hb j hj⟩
  rw [this]
  rfl
theorem endP_no {s t : ByteArray} (hb : ∀ j, j < t.size → enC s (bAt t j) = false) : endP s t = t.size := by
  unfold endP
  have : (List.range t.size).find? (fun j => enC s (bAt t j)) = none := by
    rw [List.find?_eq_none]
    intro j hj
    rw [hb j (by simpa using hj)]
    simp
  rw [this]
  rfl
theorem endP_le (s t : ByteArray) : endP s t ≤ t.size := by
  unfold endP
  cases h : (List.range t.size).find? (fun j => enC s (bAt t j)) with
  | none => simp
  | some p =>
    have := List.mem_of_find?_eq_some h
    simp at this
    simp
    omega
theorem enC_hi {s : ByteArray} {c : Int} (h : 128 ≤ c) : enC s c = false := by unfold enC; rw [decide_eq_false (by omega)]; rfl
theorem cut_size (s p : ByteArray) : (cutA s p).size ≤ s.size ∧ (cutZ s p).size ≤ s.size := by
  have hs : s.size = s.data.toList.length := by rw [Array.length_toList]; rfl
  have h1 : (cutA s p).size = (Lib.cut s.data.toList p.data.toList).1.length := by unfold cutA; simp [ByteArray.size]
  have h2 : (cutZ s p).size = (Lib.cut s.data.toList p.data.toList).2.1.length := by unfold cutZ; simp [ByteArray.size]
  rw [h1, h2, hs]
  unfold Lib.cut
  split
  · simp only [List.length_take, List.length_drop]
    omega
  · simp
theorem plB_size (c : Cg) (hc : c.wf) (t : ByteArray) : (plB c t).size ≤ t.size + 2000 := by
  obtain ⟨⟨_, h2⟩, _, hnp, _⟩ := hc
  unfold plB
  split
  · omega
  split
  · omega
  cases hp : prV (cutZ t cln) with
  | none => simp
  | some p =>
    have hr := prV_rng _ hp
    have hd : (decB (if p = c.port then c.np else p).toNat).size ≤ 5 := decB_size _ (by split <;> omega)
    simp only [ByteArray.size_append]
    have : cln.size = 1 := rfl
    omega
def wiB (c : Cg) (v mark ends : ByteArray) : ByteArray :=
  if cutF v mark = false then v else
  cutA v mark ++ mark ++ plB c ((cutZ v mark).extract 0 (endP ends (cutZ v mark))) ++ (cutZ v mark).extract (endP ends (cutZ v mark)) (cutZ v mark).size

theorem decode_top (s : ByteArray) (pos : Nat) : (Utf8.decode s pos).1 ≤ 1114111 := by
  have hb : ∀ k, (s.get! (pos + k)).toNat < 256 := fun k => (s.get! (pos + k)).toNat_lt
  have h0 := hb 0; have h1 := hb 1; have h2 := hb 2; have h3 := hb 3
  simp only [Utf8.decode]
  repeat' split
  all_goals simp_all [Utf8.runeError, Utf8.valid]
  all_goals omega
/-- The next rune, wherever the walk along the text lies. -/
theorem run_next_at {P : Program} {W : World} {g : Nat} {s : ByteArray} {pos : Nat} (ty : TypeId) (hg : W.heap[g]? = some (.stringIter s pos)) (h : pos < s.size) :
    (Instr.next (.pointer (some ⟨g, 0, none⟩)) true ty).run P W = .ok (.tuple #[.bool true, .int .i64 pos, .int .i32 (Utf8.decode s pos).1]) (W.putObj g (.stringIter s (pos + (Utf8.decode s pos).2))) := by
  simp only [Instr.next, getObj, setObj, Sem.run_bind, Sem.run, hg, Result.andThen, h, if_true, World.putObj]
  simp [goInt]
theorem run_next_fin {P : Program} {W : World} {g : Nat} {s : ByteArray} {pos : Nat} (ty : TypeId) (hg : W.heap[g]? = some (.stringIter s pos)) (h : ¬ pos < s.size) :
    (Instr.next (.pointer (some ⟨g, 0, none⟩)) true ty).run P W = .ok (.tuple #[.bool false]) W := by
  simp [Instr.next, getObj, Sem.run, hg, h]
theorem putObj_but (W : World) (g : Nat) (o : Obj) : But (fun b => b = g) W (W.putObj g o) := ⟨rfl, rfl, rfl, by simp [World.putObj], fun i hi he => World.putObj_heap_other he⟩

set_option maxHeartbeats 8000000 in
theorem within_any (c : Cg) (mv : Value) (v mark ends : ByteArray) (he : ends = ⟨#[59]⟩ ∨ ends = ⟨#[62, 59]⟩) (w : World) (hT : TabI w) (hM : TabM w) (hc : c.wf) (hs : v.size ≤ 100000) (hmk : mark.size ≤ 100) :
    Calls Tryz.prog 55 #[.agg #[.string c.host, .string c.is, .int .u16 c.port, .int .u16 c.np, mv], .string v, .string mark, .string ends] w fun e w' => e = .returned (.string (wiB c v mark ends)) ∧ Later w w' := by
  have l0 : Later w (w.alloc (.cells #[.string c.host, .string c.is, .int .u16 c.port, .int .u16 c.np, mv] 64)) := later_allocR _ _
  have C0 := hide (heap_alloc_new w (.cells #[.string c.host, .string c.is, .int .u16 c.port, .int .u16 c.np, mv] 64))
  have HW : Hid (wiB c v mark ends = if cutF v mark = false then v else cutA v mark ++ mark ++ plB c ((cutZ v mark).extract 0 (endP ends (cutZ v mark))) ++ (cutZ v mark).extract (endP ends (cutZ v mark)) (cutZ v mark).size) := rfl
  generalize wiB c v mark ends = r at *
  have HC := hide (fun W (h : TabM W) => cut_any v mark W h (by omega))
  obtain ⟨hz1, hz2⟩ := cut_size v mark
  generalize cutA v mark = ca at *
  generalize cutZ v mark = rest at *
  generalize cutF v mark = cf at *
  have hel := endP_le ends rest
  go_enter Tryz.func55, Tryz.ntmps55
  go_upto_region 1 with fail
  generalize w.alloc _ = w0 at *
  generalize w.heap.size = gc at *
  go_wp2_with fail
  refine (HC.out w0 (hM.later l0)).mono ?_
  rintro e w1 ⟨rfl, l1⟩
  have L1 := Later.trans l0 l1
  have C1 := hide (later_keep l1 C0.out)
  clear HC C0
  cases cf with
  | false =>
    go_wp2_with fail
    go_ret
    exact ⟨by rw [HW.out]; rfl, L1⟩
  | true =>
    have HW2 : Hid (r = ca ++ mark ++ plB c (rest.extract 0 (endP ends rest)) ++ rest.extract (endP ends rest) rest.size) := by
      have := HW.out
      simp only [Bool.true_eq_false, if_false] at this
      exact this
    clear HW
    go_upto_region 5 with fail
    go_wp2_with fail
    have hg0 := World.iter_heap w1 rest 0
    have li := iter_later w1 rest 0
    generalize w1.iter rest 0 = w2 at *
    generalize hgi : w1.heap.size = gi at *
    have hgc : gc < gi := by rw [← hgi]; exact (Array.getElem?_eq_some_iff.1 C1.out).1
    go_loopw [12] (fun ev wr => ∃ pos : Nat, pos ≤ rest.size ∧ ev = .int .i64 ((rest.size : Nat) : Int) ∧ But (fun b => b = gi) w2 wr ∧ Hid (wr.heap[gi]? = some (.stringIter rest pos)) ∧ Hid (∀ j, j < pos → enC ends (bAt rest j) = false)) (fun _ wr => rest.size - wr.iterPos gi)
    case atStart => exact ⟨0, by omega, rfl, But.refl _ _, hide hg0, fun j hj => by omega⟩
    case round =>
      obtain ⟨pos, hp, rfl, hbw, hgw, hal⟩ := hrel
      have CW := hide ((hbw.block gc (Nat.lt_of_lt_of_le (by rw [hgi]; exact hgc) li.size) (by omega)).trans (later_keep li C1.out))
      have LW : Later w wr := Below.trans (L1.trans li) (hbw.below (L1.trans li).size (fun k hk e => by have := L1.size; omega))
      by_cases hlt : pos < rest.size
      · have hnx := run_next_at (P := Tryz.prog) 0 hgw.out hlt
        obtain ⟨hd1, hd2, hd3, hd4, hd5⟩ := decode_skip rest pos hlt
        have hdl : (Utf8.decode rest pos).1 ≤ 1114111 := decode_top rest pos
        have hb := bAt_rng rest pos
        generalize hcc : Utf8.decode rest pos = dc at *
        obtain ⟨ch, kk⟩ := dc
        simp only at hnx hd1 hd2 hd3 hd5 hdl
        have HL : Hid (enC ends (ch : Int) = enC ends (bAt rest pos)) := by
          show _ = _
          by_cases h8 : bAt rest pos < 128
          · have := congrArg Prod.fst (hd4 h8)
            simp only at this
            rw [this]
            rfl
          · rw [enC_hi (by have := hd5 (by omega); omega), enC_hi (by omega)]
        have HS : Hid (enC ends (bAt rest pos) = false → ∀ j, j < pos + kk → enC ends (bAt rest j) = false) := fun h j hj => by
          rcases Nat.lt_trichotomy j pos with h1 | h1 | h1
          · exact hal.out j h1
          · subst h1; exact h
          · exact enC_hi (hd3 j h1 hj)
        have HAT : Hid (enC ends (bAt rest pos) = true → endP ends rest = pos) := fun h => endP_at hlt h (fun j hj => hal.out j hj)
        clear hd3 hd4 hd5 hcc hal
        have hbp := putObj_but wr gi (.stringIter rest (pos + kk))
        have hgp : (wr.putObj gi (.stringIter rest (pos + kk))).heap[gi]? = some (.stringIter rest (pos + kk)) := World.putObj_heap_same (Array.getElem?_eq_some_iff.1 hgw.out).1
        have HGP := hide hgp
        have LP : Later w (wr.putObj gi (.stringIter rest (pos + kk))) := Below.trans LW (hbp.below LW.size (fun k hk e => by have := L1.size; omega))
        have CP := hide ((hbp.block gc (Array.getElem?_eq_some_iff.1 CW.out).1 (by omega)).trans CW.out)
        clear hgp
        go_upto_region 7 with fail
        clear hnx
        generalize wr.putObj gi (.stringIter rest (pos + kk)) = wp at *
        go_wp2_with fail
        refine (containsRune_any ends he ch hdl wp).mono ?_
        rw [HL.out]
        rintro e w3 ⟨rfl, l3⟩
        have LQ := LP.trans l3
        have CE := hide (later_keep l3 CP.out)
        cases hen : enC ends (bAt rest pos) with
        | false =>
          have HNX := hide (HS.out hen)
          have HG3 := hide (later_keep l3 HGP.out)
          have hb3 : But (fun b => b = gi) w2 w3 := hbw.trans (hbp.trans (But.of l3))
          clear hen
          go_wp2_with fail
          go_roundw
          case rel => exact ⟨pos + kk, hd2, rfl, hb3, HG3, HNX.out⟩
          case measure =>
            have e1 := HG3.out
            have e2 := hgw.out
            simp only [World.iterPos, e1, e2]
            omega
        | true =>
          have HE := hide (HAT.out hen)
          clear hen
          have HW3 : Hid (r = ca ++ mark ++ plB c (rest.extract 0 pos) ++ rest.extract pos rest.size) := by
            have h1 := HW2.out
            rw [HE.out] at h1
            exact h1
          have hp1 := plB_size c hc (rest.extract 0 pos)
          have hp2 : (rest.extract 0 pos).size ≤ rest.size := by rw [ByteArray.size_extract]; omega
          have hp3 : (rest.extract pos rest.size).size ≤ rest.size := by rw [ByteArray.size_extract]; omega
          have HPL := hide (fun W (h1 : TabI W) (h2 : TabM W) => place_any c mv (rest.extract 0 pos) W h1 h2 hc (by omega))
          generalize plB c (rest.extract 0 pos) = pz at *
          go_upto_region 10 with fail
          refine anyR_begin (R := Later) Later.pre Later.drew 14 rfl (by kernel_rfl) (fun V0 hV0 => ?_)
          have qC : ∀ v, Later V0 v → ∀ j, v.cell? ⟨gc, j, none⟩ = #[Value.string c.host, .string c.is, .int .u16 c.port, .int .u16 c.np, mv][j]? := fun v hv => block_cell (later_keep (hV0.trans hv) CE.out)
          refine anyR_val Later.pre 0 rfl (by kernel_rfl) (by kernel_rfl) (by kernel_rfl) (fun _ _ _ _ h => h) rfl ?_; apply Exists.intro; refine ⟨fun v1 hv1 => ?_, ?_⟩; (· (go_simp; rfl)); simp only [Act.put, List.setIfInBounds_toArray, List.set_cons_zero, List.set_cons_succ]
          refine anyR_val Later.pre 1 rfl (by kernel_rfl) (by kernel_rfl) (by kernel_rfl) (fun _ _ _ _ h => h) rfl ?_; apply Exists.intro; refine ⟨fun v1 hv1 => ?_, ?_⟩; (· (go_simp; rfl)); simp only [Act.put, List.setIfInBounds_toArray, List.set_cons_zero, List.set_cons_succ]
          refine anyR_val Later.pre 2 rfl (by kernel_rfl) (by kernel_rfl) (by kernel_rfl) (fun _ _ _ _ h => h) rfl ⟨.string (ca ++ mark), fun v1 hv1 => (by go_simp; omega), ?_⟩; simp only [Act.put, List.setIfInBounds_toArray, List.set_cons_zero, List.set_cons_succ]
          refine anyR_val Later.pre 3 rfl (by kernel_rfl) (by kernel_rfl) (by kernel_rfl) (fun _ _ _ _ h => h) rfl ?_; apply Exists.intro; refine ⟨fun v1 hv1 => ?_, ?_⟩; (· (go_simp; rfl)); simp only [Act.put, List.setIfInBounds_toArray, List.set_cons_zero, List.set_cons_succ]
          refine anyR_val Later.pre 4 rfl (by kernel_rfl) (by kernel_rfl) (by kernel_rfl) (fun _ _ _ _ h => h) rfl ?_; apply Exists.intro; refine ⟨fun v1 hv1 => ?_, ?_⟩; (· (go_simp; rfl)); simp only [Act.put, List.setIfInBounds_toArray, List.set_cons_zero, List.set_cons_succ]
          refine anyR_val Later.pre 5 rfl (by kernel_rfl) (by kernel_rfl) (by kernel_rfl) (fun _ _ _ _ h => h) rfl ?_; apply Exists.intro; refine ⟨fun v1 hv1 => ?_, ?_⟩; (· (go_simp; rfl)); simp only [Act.put, List.setIfInBounds_toArray, List.set_cons_zero, List.set_cons_succ]
          refine anyR_val Later.pre 6 rfl (by kernel_rfl) (by kernel_rfl) (by kernel_rfl) (fun _ _ _ _ h => h) rfl ⟨.string (rest.extract 0 pos), fun v1 hv1 => (by first | (go_simp; done) | (go_simp; omega)), ?_⟩; simp only [Act.put, List.setIfInBounds_toArray, List.set_cons_zero, List.set_cons_succ]
          refine anyR_take Later.pre 7 (.string pz) rfl (by kernel_rfl) (by kernel_rfl) (by kernel_rfl) (fun _ _ _ h => h) rfl (fun v1 hv1 => goes_call 72 #[.agg #[.string c.host, .string c.is, .int .u16 c.port, .int .u16 c.np, mv], .string (rest.extract 0 pos)] (by go_simp) (HPL.out v1 (hT.later (LQ.trans (hV0.trans hv1))) (hM.later (LQ.trans (hV0.trans hv1))))) ?_
          simp only [Act.put, List.setIfInBounds_toArray, List.set_cons_zero, List.set_cons_succ]
          refine anyR_val Later.pre 8 rfl (by kernel_rfl) (by kernel_rfl) (by kernel_rfl) (fun _ _ _ _ h => h) rfl ⟨.string (ca ++ mark ++ pz), fun v1 hv1 => (by first | (go_simp; done) | (go_simp; omega)), ?_⟩; simp only [Act.put, List.setIfInBounds_toArray, List.set_cons_zero, List.set_cons_succ]
          refine anyR_val Later.pre 9 rfl (by kernel_rfl) (by kernel_rfl) (by kernel_rfl) (fun _ _ _ _ h => h) rfl ?_; apply Exists.intro; refine ⟨fun v1 hv1 => ?_, ?_⟩; (· (go_simp; rfl)); simp only [Act.put, List.setIfInBounds_toArray, List.set_cons_zero, List.set_cons_succ]
          refine anyR_val Later.pre 10 rfl (by kernel_rfl) (by kernel_rfl) (by kernel_rfl) (fun _ _ _ _ h => h) rfl ?_; apply Exists.intro; refine ⟨fun v1 hv1 => ?_, ?_⟩; (· (go_simp; rfl)); simp only [Act.put, List.setIfInBounds_toArray, List.set_cons_zero, List.set_cons_succ]
          refine anyR_val Later.pre 11 rfl (by kernel_rfl) (by kernel_rfl) (by kernel_rfl) (fun _ _ _ _ h => h) rfl ⟨.string (rest.extract pos rest.size), fun v1 hv1 => (by first | (go_simp; done) | (go_simp; omega)), ?_⟩; simp only [Act.put, List.setIfInBounds_toArray, List.set_cons_zero, List.set_cons_succ]
          refine anyR_val Later.pre 12 rfl (by kernel_rfl) (by kernel_rfl) (by kernel_rfl) (fun _ _ _ _ h => h) rfl ⟨.string (ca ++ mark ++ pz ++ rest.extract pos rest.size), fun v1 hv1 => (by first | (go_simp; done) | (go_simp; omega)), ?_⟩; simp only [Act.put, List.setIfInBounds_toArray, List.set_cons_zero, List.set_cons_succ]
          refine anyR_val Later.pre 13 rfl (by kernel_rfl) (by kernel_rfl) (by kernel_rfl) (fun _ _ _ _ h => h) rfl ?_; apply Exists.intro; refine ⟨fun v1 hv1 => ?_, ?_⟩; (· (go_simp; rfl)); simp only [Act.put, List.setIfInBounds_toArray, List.set_cons_zero, List.set_cons_succ]
          clear qC
          refine anyR_done (by kernel_rfl) (fun V9 hV9 => ?_)
          go_wp2_with fail
          go_ret
          exact ⟨by rw [HW3.out]; first | rfl | simp, LQ.trans (hV0.trans hV9)⟩
      · have hnx := run_next_fin (P := Tryz.prog) 0 hgw.out hlt
        have HE : Hid (endP ends rest = rest.size) := endP_no (fun j hj => hal.out j (by omega))
        have CE := CW
        have HW3 : Hid (r = ca ++ mark ++ plB c (rest.extract 0 rest.size) ++ rest.extract rest.size rest.size) := by
          have h1 := HW2.out
          rw [HE.out] at h1
          exact h1
        have hp1 := plB_size c hc (rest.extract 0 rest.size)
        have hp2 : (rest.extract 0 rest.size).size ≤ rest.size := by rw [ByteArray.size_extract]; omega
        have hp3 : (rest.extract rest.size rest.size).size ≤ rest.size := by rw [ByteArray.size_extract]; omega
        have HPL := hide (fun W (h1 : TabI W) (h2 : TabM W) => place_any c mv (rest.extract 0 rest.size) W h1 h2 hc (by omega))
        generalize plB c (rest.extract 0 rest.size) = pz at *
        go_upto_region 10 with fail
        refine anyR_begin (R := Later) Later.pre Later.drew 14 rfl (by kernel_rfl) (fun V0 hV0 => ?_)
        have qC : ∀ v, Later V0 v → ∀ j, v.cell? ⟨gc, j, none⟩ = #[Value.string c.host, .string c.is, .int .u16 c.port, .int .u16 c.np, mv][j]? := fun v hv => block_cell (later_keep (hV0.trans hv) CE.out)
        refine anyR_val Later.pre 0 rfl (by kernel_rfl) (by kernel_rfl) (by kernel_rfl) (fun _ _ _ _ h => h) rfl ?_; apply Exists.intro; refine ⟨fun v1 hv1 => ?_, ?_⟩; (· (go_simp; rfl)); simp only [Act.put, List.setIfInBounds_toArray, List.set_cons_zero, List.set_cons_succ]
        refine anyR_val Later.pre 1 rfl (by kernel_rfl) (by kernel_rfl) (by kernel_rfl) (fun _ _ _ _ h => h) rfl ?_; apply Exists.intro; refine ⟨fun v1 hv1 => ?_, ?_⟩; (· (go_simp; rfl)); simp only [Act.put, List.setIfInBounds_toArray, List.set_cons_zero, List.set_cons_succ]
        refine anyR_val Later.pre 2 rfl (by kernel_rfl) (by kernel_rfl) (by kernel_rfl) (fun _ _ _ _ h => h) rfl ⟨.string (ca ++ mark), fun v1 hv1 => (by go_simp; omega), ?_⟩; simp only [Act.put, List.setIfInBounds_toArray, List.set_cons_zero, List.set_cons_succ]
        refine anyR_val Later.pre 3 rfl (by kernel_rfl) (by kernel_rfl) (by kernel_rfl) (fun _ _ _ _ h => h) rfl ?_; apply Exists.intro; refine ⟨fun v1 hv1 => ?_, ?_⟩; (· (go_simp; rfl)); simp only [Act.put, List.setIfInBounds_toArray, List.set_cons_zero, List.set_cons_succ]
        refine anyR_val Later.pre 4 rfl (by kernel_rfl) (by kernel_rfl) (by kernel_rfl) (fun _ _ _ _ h => h) rfl ?_; apply Exists.intro; refine ⟨fun v1 hv1 => ?_, ?_⟩; (· (go_simp; rfl)); simp only [Act.put, List.setIfInBounds_toArray, List.set_cons_zero, List.set_cons_succ]
        refine anyR_val Later.pre 5 rfl (by kernel_rfl) (by kernel_rfl) (by kernel_rfl) (fun _ _ _ _ h => h) rfl ?_; apply Exists.intro; refine ⟨fun v1 hv1 => ?_, ?_⟩; (· (go_simp; rfl)); simp only [Act.put, List.setIfInBounds_toArray, List.set_cons_zero, List.set_cons_succ]
        refine anyR_val Later.pre 6 rfl (by kernel_rfl) (by kernel_rfl) (by kernel_rfl) (fun _ _ _ _ h => h) rfl ⟨.string (rest.extract 0 rest.size), fun v1 hv1 => (by first | (go_simp; done) | (go_simp; omega)), ?_⟩; simp only [Act.put, List.setIfInBounds_toArray, List.set_cons_zero, List.set_cons_succ]
        refine anyR_take Later.pre 7 (.string pz) rfl (by kernel_rfl) (by kernel_rfl) (by kernel_rfl) (fun _ _ _ h => h) rfl (fun v1 hv1 => goes_call 72 #[.agg #[.string c.host, .string c.is, .int .u16 c.port, .int .u16 c.np, mv], .string (rest.extract 0 rest.size)] (by go_simp) (HPL.out v1 (hT.later (LW.trans (hV0.trans hv1))) (hM.later (LW.trans (hV0.trans hv1))))) ?_
        simp only [Act.put, List.setIfInBounds_toArray, List.set_cons_zero, List.set_cons_succ]
        refine anyR_val Later.pre 8 rfl (by kernel_rfl) (by kernel_rfl) (by kernel_rfl) (fun _ _ _ _ h => h) rfl ⟨.string (ca ++ mark ++ pz), fun v1 hv1 => (by first | (go_simp; done) | (go_simp; omega)), ?_⟩; simp only [Act.put, List.setIfInBounds_toArray, List.set_cons_zero, List.set_cons_succ]
        refine anyR_val Later.pre 9 rfl (by kernel_rfl) (by kernel_rfl) (by kernel_rfl) (fun _ _ _ _ h => h) rfl ?_; apply Exists.intro; refine ⟨fun v1 hv1 => ?_, ?_⟩; (· (go_simp; rfl)); simp only [Act.put, List.setIfInBounds_toArray, List.set_cons_zero, List.set_cons_succ]
        refine anyR_val Later.pre 10 rfl (by kernel_rfl) (by kernel_rfl) (by kernel_rfl) (fun _ _ _ _ h => h) rfl ?_; apply Exists.intro; refine ⟨fun v1 hv1 => ?_, ?_⟩; (· (go_simp; rfl)); simp only [Act.put, List.setIfInBounds_toArray, List.set_cons_zero, List.set_cons_succ]
        refine anyR_val Later.pre 11 rfl (by kernel_rfl) (by kernel_rfl) (by kernel_rfl) (fun _ _ _ _ h => h) rfl ⟨.string (rest.extract rest.size rest.size), fun v1 hv1 => (by first | (go_simp; done) | (go_simp; omega)), ?_⟩; simp only [Act.put, List.setIfInBounds_toArray, List.set_cons_zero, List.set_cons_succ]
        refine anyR_val Later.pre 12 rfl (by kernel_rfl) (by kernel_rfl) (by kernel_rfl) (fun _ _ _ _ h => h) rfl ⟨.string (ca ++ mark ++ pz ++ rest.extract rest.size rest.size), fun v1 hv1 => (by first | (go_simp; done) | (go_simp; omega)), ?_⟩; simp only [Act.put, List.setIfInBounds_toArray, List.set_cons_zero, List.set_cons_succ]
        refine anyR_val Later.pre 13 rfl (by kernel_rfl) (by kernel_rfl) (by kernel_rfl) (fun _ _ _ _ h => h) rfl ?_; apply Exists.intro; refine ⟨fun v1 hv1 => ?_, ?_⟩; (· (go_simp; rfl)); simp only [Act.put, List.setIfInBounds_toArray, List.set_cons_zero, List.set_cons_succ]
        clear qC
        refine anyR_done (by kernel_rfl) (fun V9 hV9 => ?_)
        go_wp2_with fail
        go_ret
        exact ⟨by rw [HW3.out]; first | rfl | simp, LW.trans (hV0.trans hV9)⟩
end Go.Proofs.YtibjgaelaijgpaaGreatDoor
