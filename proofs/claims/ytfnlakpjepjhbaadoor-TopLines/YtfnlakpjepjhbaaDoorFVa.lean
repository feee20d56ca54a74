/- Package bytes: whether a line's end stands in at most eight bytes. -/
import Derived.Lib.IndexEntry
import Derived.Lib.Bytealg
import Derived.Test.YtfnlakpjepjhbaaDoorFV
import Derived.Test.YtfnlakpjepjhbaaDoorFB
import Derived.Test.YtfnlakpjepjhbaaDoorFM
import Derived.Test.YtfnlakpjepjhbaaDoorShFtp
namespace Go.Proofs.YtfnlakpjepjhbaaDoor
open Go.RowKit Go.Shelf
set_option maxRecDepth 100000
set_option linter.unusedVariables false
set_option linter.unusedSimpArgs false

theorem enc_size (c : Nat) (n : Nat) (h1 : 128 ≤ c) (h2 : c ≤ 1114111) (h3 : Utf8.valid (c : Int) = true) (h : (c < 2048 ∧ n = 2) ∨ (2048 ≤ c ∧ c < 65536 ∧ n = 3) ∨ (65536 ≤ c ∧ n = 4)) : (Utf8.encode (c : Int)).size = n := by
  unfold Utf8.encode
  simp only [h3, if_true, Int.toNat_natCast]
  rcases h with ⟨h, rfl⟩ | ⟨h, h', rfl⟩ | ⟨h, rfl⟩
  · rw [if_neg (by omega), if_pos (by omega)]; rfl
  · rw [if_neg (by omega), if_neg (by omega), if_pos (by omega)]; rfl
  · rw [if_neg (by omega), if_neg (by omega), if_neg (by omega)]; rfl
theorem dec_hi (s : ByteArray) (hs : 0 < s.size) (h0 : 128 ≤ (s.get! 0).toNat) : 1 ≤ (Utf8.decode s 0).2 ∧ (Utf8.decode s 0).2 ≤ s.size ∧ 128 ≤ (Utf8.decode s 0).1 ∧ (Utf8.decode s 0).1 ≤ 1114111 ∧ (∀ k, k < (Utf8.decode s 0).2 → 128 ≤ (s.get! k).toNat) ∧ ((Utf8.decode s 0).1 ≠ 65533 → 2 ≤ (Utf8.decode s 0).2 ∧ (Utf8.encode ((Utf8.decode s 0).1 : Int)).size = (Utf8.decode s 0).2) := by
  have hb : ∀ k, (s.get! k).toNat < 256 := fun k => (s.get! k).toNat_lt
  have b0 := hb 0; have b1 := hb 1; have b2 := hb 2; have b3 := hb 3
  have E : 1 ≤ (Utf8.runeError, 1).2 ∧ (Utf8.runeError, 1).2 ≤ s.size ∧ 128 ≤ (Utf8.runeError, 1).1 ∧ (Utf8.runeError, 1).1 ≤ 1114111 ∧ (∀ k, k < (Utf8.runeError, 1).2 → 128 ≤ (s.get! k).toNat) ∧ ((Utf8.runeError, 1).1 ≠ 65533 → 2 ≤ (Utf8.runeError, 1).2 ∧ (Utf8.encode ((Utf8.runeError, 1).1 : Int)).size = (Utf8.runeError, 1).2) := by
    refine ⟨Nat.le_refl _, hs, by decide, by decide, fun k hk => ?_, fun h => absurd rfl h⟩
    obtain rfl : k = 0 := by simp only at hk; omega
    exact h0
  unfold Utf8.decode
  simp only [Nat.zero_add]
  rw [if_neg (by omega)]
  split
  · rename_i h
    simp only [Bool.and_eq_true, beq_iff_eq, decide_eq_true_eq] at h
    split
    · rename_i hc
      refine ⟨by omega, by omega, by omega, by omega, fun k hk => ?_, fun _ => ⟨by omega, enc_size _ _ (by omega) (by omega) (by unfold Utf8.valid; simp; omega) (.inl ⟨by omega, rfl⟩)⟩⟩
      simp only at hk
      rcases (show k = 0 ∨ k = 1 by omega) with rfl | rfl <;> omega
    · exact E
  split
  · rename_i h
    simp only [Bool.and_eq_true, beq_iff_eq, decide_eq_true_eq] at h
    split
    · rename_i hc
      simp only [Bool.and_eq_true, decide_eq_true_eq, ge_iff_le] at hc
      refine ⟨by omega, by omega, by omega, by omega, fun k hk => ?_, fun _ => ⟨by omega, enc_size _ _ (by omega) (by omega) hc.2 (.inr (.inl ⟨by omega, by omega, rfl⟩))⟩⟩
      simp only at hk
      rcases (show k = 0 ∨ k = 1 ∨ k = 2 by omega) with rfl | rfl | rfl <;> omega
    · exact E
  split
  · rename_i h
    simp only [Bool.and_eq_true, beq_iff_eq, decide_eq_true_eq] at h
    split
    · rename_i hc
      simp only [Bool.and_eq_true, decide_eq_true_eq, ge_iff_le] at hc
      have hv := hc.2
      unfold Utf8.valid at hv
      simp at hv
      refine ⟨by omega, by omega, by omega, by omega, fun k hk => ?_, fun _ => ⟨by omega, enc_size _ _ (by omega) (by omega) hc.2 (.inr (.inr ⟨by omega, rfl⟩))⟩⟩
      simp only at hk
      rcases (show k = 0 ∨ k = 1 ∨ k = 2 ∨ k = 3 by omega) with rfl | rfl | rfl | rfl <;> omega
    · exact E
  exact E
theorem enc_ne (c : Nat) (h : 128 ≤ c) (h2 : c ≤ 1114111) : Utf8.encode (c : Int) ≠ ⟨#[13, 10]⟩ := by
  intro e
  have hs : (Utf8.encode (c : Int)).data = #[13, 10] := by rw [e]
  unfold Utf8.encode at hs
  simp only at hs
  generalize hc : (if Utf8.valid (c : Int) = true then (c : Int).toNat else Utf8.runeError) = d at hs
  have hd : 128 ≤ d := by rw [← hc]; split <;> simp [Utf8.runeError] <;> omega
  rw [if_neg (by omega)] at hs
  split at hs
  · have h3 := congrArg (fun a : Array UInt8 => (a[0]?.getD 0).toNat) hs
    simp at h3
    omega
  · split at hs <;> (have h3 := congrArg Array.size hs; simp at h3)

/-- What of Go's own tables the line's reading looks at: some number, and the two tables of runes. -/
def TabR (w : World) : Prop := (∃ m : Int, w.cell? ⟨0, 0, none⟩ = some (.int .i64 m)) ∧ Lib.Utf8Tabs (runeL_ren.g 2) (runeL_ren.g 3) w
theorem TabR.below {A B : World} (h : TabR A) (b : Below A.heap.size A B) : TabR B := by
  have k : ∀ (q : Addr) (v : Value), A.cell? q = some v → B.cell? q = some v := fun q v hv => by
    have hq : q.block < A.heap.size := by
      rcases Nat.lt_or_ge q.block A.heap.size with h | h
      · exact h
      · simp [World.cell?, Array.getElem?_eq_none h] at hv
    exact (b.cell hq).trans hv
  exact ⟨h.1.elim fun m hm => ⟨m, k _ _ hm⟩, fun c hc => k _ _ (h.2.1 c hc), fun i hi => ⟨k _ _ (h.2.2 i hi).1, k _ _ (h.2.2 i hi).2⟩⟩
theorem TabR.later {A B : World} (h : TabR A) (b : Later A B) : TabR B := h.below b
theorem rune_any (s : ByteArray) (b off cap : Nat) (w : World) (hT : TabR w) (hp : ∀ j, j < s.size → w.cell? ⟨b, off + j, none⟩ = some (.int .u8 (s.get! j).toNat)) (h0 : 0 < s.size) :
    Calls Tryd.prog 67 #[.slice (some ⟨b, off, none⟩) s.size cap] w fun e w' => e = .returned (.tuple #[.int .i32 (Utf8.decode s 0).1, .int .i64 (Utf8.decode s 0).2]) ∧ Below w.heap.size w w' := by
  have h := Any7.utf8_DecodeRune runeL s b off cap w hT.2 hp
  have e : Lib.decodeGo s = Utf8.decode s 0 := if_neg (by omega)
  rw [e] at h
  exact h

theorem any_more (zs : List Int) (k : Nat) (h : (zs.take k).any isCr = false) : ∀ n, k + n ≤ zs.length → (∀ j, j < n → 128 ≤ zs[k + j]?.getD 0) → (zs.take (k + n)).any isCr = false
  | 0, _, _ => h
  | n + 1, hl, hb => by
    have hlt : k + n < zs.length := by omega
    rw [← Nat.add_assoc, List.take_succ_eq_append_getElem hlt, List.any_append, any_more zs k h n (by omega) (fun j hj => hb j (by omega))]
    have := hb n (by omega)
    rw [List.getElem?_eq_getElem hlt] at this
    simp only [Option.getD_some] at this
    simp [isCr]
    omega
theorem index_room (b : List UInt8) (h : 2 < b.length) : Lib.index [13, 10] b = -1 := by
  refine Lib.index_none fun j _ => ?_
  cases ho : Lib.occAt [13, 10] b j with
  | false => rfl
  | true =>
    rcases Lib.occAt_room ho with h' | h'
    · simp at h'; omega
    · rw [h'] at h; simp at h
theorem index_enc (eb : ByteArray) (n : Nat) (h : eb.size = n) (h2 : 2 < n) : Lib.index (⟨#[13, 10]⟩ : ByteArray).data.toList eb.data.toList = -1 := index_room _ (by rw [Array.length_toList]; show 2 < eb.size; omega)
theorem index_run (eb : ByteArray) (n : Nat) (m : Int) (w : World) (hm : w.cell? ⟨0, 0, none⟩ = some (.int .i64 m)) (h : eb.size = n) (h2 : 2 < n) (hn : (n : Int) ≤ m) : (Extern.BytealgIndex.index #[.string ⟨#[13, 10]⟩, .string eb]).run Tryd.prog w = .ok (.int .i64 (-1)) w := by
  have h3 := Lib.run_indexString (P := Tryd.prog) ⟨#[13, 10]⟩ eb w 0 m (by kernel_rfl) hm (by omega) (by omega) (by decide)
  rw [index_enc eb n h h2] at h3
  exact h3
theorem ixcr_nat : ∀ n : Nat, n < 256 → decide (0 ≤ Lib.indexByte [13, 10] n.toUInt8) = isCr (n : Int) := by decide +kernel
theorem ixcr (c : Int) (h : 0 ≤ c ∧ c ≤ 255) : decide (0 ≤ Lib.indexByte [13, 10] c.toNat.toUInt8) = isCr c := by
  obtain ⟨n, rfl⟩ : ∃ n : Nat, c = (n : Int) := ⟨c.toNat, by omega⟩
  exact ixcr_nat n (by omega)

set_option maxHeartbeats 4000000 in
theorem indexCr_short (sv : Value) (zs : List Int) (w : World) (hT : TabR w) (hB : Mt.By zs) (hI : Rd w.heap.size w sv zs) (h8 : zs.length ≤ 8) (h1 : zs.length ≠ 1) :
    Calls Tryd.prog 47 #[sv, .string ⟨#[13, 10]⟩] w fun e w' => ∃ r : Int, e = .returned (.int .i64 r) ∧ decide (0 ≤ r) = crl zs ∧ Below w.heap.size w w' := by
  obtain ⟨av, cv, rfl, hlv, hmv⟩ := hI.slice
  have t1 : ((zs.length : Int) == 1) = false := by simp; omega
  have t8 : decide (8 < (zs.length : Int)) = false := by simp; omega
  have HT := hide hT
  clear hT
  go_enter Tryd.func47, Tryd.ntmps47
  go_upto_region 20 with fail
  clear t1
  go_wp2_with fail
  refine (useSet_any _ w).mono ?_
  rintro e w1 ⟨rfl, rfl⟩
  go_wp2_with fail
  clear t8
  go_loopw [12] (fun iv wr => ∃ k : Nat, k ≤ zs.length ∧ iv = .int .i64 (k : Int) ∧ (zs.take k).any isCr = false ∧ Later w1 wr) (fun iv _ => zs.length - (intOf iv).toNat)
  case atStart => exact ⟨0, by omega, rfl, rfl, Later.refl _⟩
  case round =>
    obtain ⟨k, hk, rfl, hno, l1⟩ := hrel
    by_cases hlt : k < zs.length
    · have hlt' : (k : Int) < zs.length := by omega
      obtain ⟨bb, off, cp, he, hl5, hl6, hl7, hcell⟩ := (hI.later l1).cells (by omega)
      obtain ⟨rfl, rfl⟩ : av = some ⟨bb, off, none⟩ ∧ cv = cp := by injection he with h1 h2 h3; exact ⟨h1, h3⟩
      clear he
      have hck := hcell k hlt
      have hzb := Mt.By.at hB k
      have HC := hide hcell
      clear hcell
      have HTk : Hid ((zs.take (k + 1)).any isCr = ((zs.take k).any isCr || isCr (zs[k]?.getD 0))) := by
        show _ = _
        rw [List.take_succ_eq_append_getElem hlt, List.any_append, List.getElem?_eq_getElem hlt]
        simp
      have HA : Hid (isCr (zs[k]?.getD 0) = true → crl zs = true) := fun h => by
        unfold crl
        rw [List.any_eq_true]
        refine ⟨zs[k]?.getD 0, ?_, h⟩
        rw [List.getElem?_eq_getElem hlt]
        exact List.getElem_mem hlt
      have HNO := hide hno
      clear hno
      by_cases hasc : zs[k]?.getD 0 < 128
      · generalize zs[k]?.getD 0 = c at *
        have HX : Hid (decide (0 ≤ Lib.indexByte [13, 10] c.toNat.toUInt8) = isCr c) := ixcr c hzb
        generalize hixe : Lib.indexByte [13, 10] c.toNat.toUInt8 = ix at *
        have HIX := hide hixe
        clear hixe
        go_wp2_with fail
        rw [run_callFunc_extern Tryd.func62 (by kernel_rfl) (by kernel_rfl) (by kernel_rfl) (e := Extern.BytealgIndexByte.indexByte) (by kernel_rfl), Lib.run_indexByteString, HIX.out]
        simp only [Result.andThen]
        rw [Oper.upon_value]
        by_cases hx : 0 ≤ ix
        · go_wp2_with fail
          go_ret
          exact ⟨k, rfl, by rw [HA.out (by rw [← HX.out]; simp [hx])]; simp, l1⟩
        · have HF : Hid (isCr c = false) := by show _ = _; rw [← HX.out]; simp; omega
          go_wp2_with fail
          go_roundw
          case rel => exact ⟨k + 1, hlt, by go_num, by rw [HTk.out, HNO.out, HF.out]; rfl, l1⟩
          case measure => simp [intOf]; omega
      · have hcv : ¬ cv = k := by omega
        have hs : (strOfNums (zs.drop k)).size = zs.length - k := by rw [strOfNums_size, List.length_drop]
        have hbd : Mt.By (zs.drop k) := fun z hz => hB z (List.mem_of_mem_drop hz)
        have hat : ∀ j, j < zs.length - k → (((strOfNums (zs.drop k)).get! j).toNat : Int) = zs[k + j]?.getD 0 := fun j hj => by
          have := strOf_at (zs.drop k) hbd j (by simp; omega)
          rw [List.getElem?_drop] at this
          exact this
        have HAT := hide hat
        have HRU := rune_any (strOfNums (zs.drop k)) bb (off + k) (cv - k) wr (HT.out.later l1) (fun j hj => by rw [hs] at hj; rw [Nat.add_assoc, HC.out (k + j) (by omega), ← hat j hj]) (by omega)
        have D := dec_hi (strOfNums (zs.drop k)) (by omega) (by have := hat 0 (by omega); simp only [Nat.add_zero] at this; omega)
        rw [hs] at HRU D
        generalize strOfNums (zs.drop k) = s at *
        clear hat hs hbd
        generalize Utf8.decode s 0 = dd at *
        obtain ⟨r, n⟩ := dd
        obtain ⟨d1, d2, d3, d4, d5, d6⟩ := D
        simp only at d1 d2 d3 d4 d5 d6 HRU
        have HM : Hid ((zs.take (k + n)).any isCr = false) := any_more zs k HNO.out n (by omega) (fun j hj => by rw [← HAT.out j (by omega)]; have := d5 j hj; omega)
        have HD6 := hide d6
        have HRU' := hide HRU
        clear d5 d6 HRU HAT HTk HA
        generalize zs[k]?.getD 0 = c at *
        go_wp2_with fail
        refine HRU'.out.mono ?_
        rintro e w2 ⟨rfl, b2⟩
        have l2 : Later w1 w2 := l1.trans b2
        clear HRU'
        have e13 : ((r : Int) == 13) = false := by simp; omega
        have e10 : ((r : Int) == 10) = false := by simp; omega
        obtain ⟨m, hm⟩ := (HT.out.later l2).1
        have HEN := hide (enc_ne r d3 d4)
        have hbq : (([13, 10] : List UInt8) == (Utf8.encode (r : Int)).toList) = false := by
          rw [beq_eq_false_iff_ne, ByteArray.toList_eq]
          intro h
          exact HEN.out (ByteArray.ext (Array.toList_inj.1 h.symm))
        have hcv2 : ∀ W : World, (convert 21 9 (.int .i32 (r : Int))).run Tryd.prog W = .ok (.string (Utf8.encode (r : Int))) W := fun W => by kernel_rfl
        generalize Utf8.encode (r : Int) = eb at *
        clear HEN
        by_cases hr : r = 65533
        · have er : ((r : Int) != 65533) = false := by simp [hr]
          clear hr
          go_wp2_with fail
          go_loopw [] (fun wx => ∃ pos : Nat, pos ≤ 2 ∧ wx = w2.iter ⟨#[13, 10]⟩ pos) (fun wx => 2 - wx.iterPos w2.heap.size)
          case atStart => exact ⟨0, by omega, rfl⟩
          case round =>
            obtain ⟨pos, hp, rfl⟩ := hrel
            have l3 : Later w1 (w2.iter ⟨#[13, 10]⟩ pos) := l2.trans (iter_later _ _ _)
            rcases (show pos = 0 ∨ pos = 1 ∨ pos = 2 by omega) with rfl | rfl | rfl
            · have hnx := run_next_any (P := Tryd.prog) w2 ⟨#[13, 10]⟩ 0 0 (by decide)
              rw [show Utf8.decode ⟨#[13, 10]⟩ 0 = (13, 1) from by decide] at hnx
              go_wp2_with fail
              go_roundw
              case rel => exact ⟨1, by omega, rfl⟩
              case measure => simp [World.iterPos_iter]
            · have hnx := run_next_any (P := Tryd.prog) w2 ⟨#[13, 10]⟩ 1 0 (by decide)
              rw [show Utf8.decode ⟨#[13, 10]⟩ 1 = (10, 1) from by decide] at hnx
              go_wp2_with fail
              go_roundw
              case rel => exact ⟨2, by omega, rfl⟩
              case measure => simp [World.iterPos_iter]
            · have hnx := run_next_end (P := Tryd.prog) w2 ⟨#[13, 10]⟩ 2 0 (by decide)
              go_wp2_with fail
              go_roundw
              case rel => exact ⟨k + n, by omega, by push_cast; rfl, HM.out, l3⟩
              case measure => simp [intOf]; omega
        · have er : ((r : Int) != 65533) = true := by simp; omega
          obtain ⟨h2n, hen0⟩ := HD6.out hr
          have hen := hide hen0
          clear hen0
          clear hr
          by_cases hn2 : n = 2
          · have en : ((2 : Int) == (n : Int)) = true := by simp; omega
            clear hn2
            go_wp2_with fail
            (go_roundw; (case rel => exact ⟨k + n, by omega, by push_cast; rfl, HM.out, by assumption⟩); (case measure => simp [intOf]; omega))
          · have en : ((2 : Int) == (n : Int)) = false := by simp; omega
            by_cases hmn : (n : Int) ≤ m
            · have HI := hide (index_run _ n m w2 hm hen.out (by omega) hmn)
              go_wp2_with fail
              rw [run_callFunc_extern Tryd.func68 (by kernel_rfl) (by kernel_rfl) (by kernel_rfl) (e := Extern.BytealgIndex.index) (by kernel_rfl), HI.out]
              simp only [Result.andThen]
              rw [Oper.upon_value]
              go_wp2_with fail
              (go_roundw; (case rel => exact ⟨k + n, by omega, by push_cast; rfl, HM.out, by assumption⟩); (case measure => simp [intOf]; omega))
            · go_wp2_with fail
              go_loopw [] (fun wx => ∃ pos : Nat, pos ≤ 2 ∧ wx = w2.iter ⟨#[13, 10]⟩ pos) (fun wx => 2 - wx.iterPos w2.heap.size)
              case atStart => exact ⟨0, by omega, rfl⟩
              case round =>
                obtain ⟨pos, hp, rfl⟩ := hrel
                have l3 : Later w1 (w2.iter ⟨#[13, 10]⟩ pos) := l2.trans (iter_later _ _ _)
                rcases (show pos = 0 ∨ pos = 1 ∨ pos = 2 by omega) with rfl | rfl | rfl
                · have hnx := run_next_any (P := Tryd.prog) w2 ⟨#[13, 10]⟩ 0 0 (by decide)
                  rw [show Utf8.decode ⟨#[13, 10]⟩ 0 = (13, 1) from by decide] at hnx
                  go_wp2_with fail
                  go_roundw
                  case rel => exact ⟨1, by omega, rfl⟩
                  case measure => simp [World.iterPos_iter]
                · have hnx := run_next_any (P := Tryd.prog) w2 ⟨#[13, 10]⟩ 1 0 (by decide)
                  rw [show Utf8.decode ⟨#[13, 10]⟩ 1 = (10, 1) from by decide] at hnx
                  go_wp2_with fail
                  go_roundw
                  case rel => exact ⟨2, by omega, rfl⟩
                  case measure => simp [World.iterPos_iter]
                · have hnx := run_next_end (P := Tryd.prog) w2 ⟨#[13, 10]⟩ 2 0 (by decide)
                  go_wp2_with fail
                  go_roundw
                  case rel => exact ⟨k + n, by omega, by push_cast; rfl, HM.out, l3⟩
                  case measure => simp [intOf]; omega
    · obtain rfl : k = zs.length := by omega
      rw [List.take_length] at hno
      go_wp2_with fail
      go_ret
      exact ⟨-1, rfl, by unfold crl; rw [hno]; rfl, l1⟩
end Go.Proofs.YtfnlakpjepjhbaaDoor
