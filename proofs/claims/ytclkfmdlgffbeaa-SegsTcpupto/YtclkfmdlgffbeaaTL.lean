/- The document's answer for a packet's segment. -/
import Derived.Test.YtclkfmdlgffbeaaTA
import Derived.Test.YtclkfmdlgffbeaaTK
import Derived.Test.YtclkfmdlgffbeaaWA
import Derived.Test.YtclkfmdlgffbeaaSR
namespace Go.Proofs.Ytclkfmdlgffbeaa
open Go.RowKit Go.Shelf
set_option maxRecDepth 100000
set_option linter.unusedVariables false
set_option linter.unusedSimpArgs false

theorem OwO.kept {base : Nat} {A B : World} {v : Value} {os : List Opt} (h : OwO base A v os) (hk : ∀ (k : Nat) (o : Obj), base ≤ k → A.heap[k]? = some o → B.heap[k]? = some o) : OwO base B v os := by
  obtain ⟨ss, h1, h2, h3⟩ := h
  refine ⟨ss, h1, ⟨h2.1, h2.2.imp id ?_⟩, fun j hj => ?_⟩
  · rintro ⟨g, cap, cur, e1, e2, e3, r⟩
    exact ⟨g, cap, cur, e1, e2, hk g _ e2 e3, r⟩
  · rcases h3 j hj with h | ⟨g, cp, cur, e1, e2, e3, e4, e5, e6, e7⟩
    · exact .inl h
    · exact .inr ⟨g, cp, cur, e1, e2, e3, e4, e5, hk g _ e2 e6, e7⟩

set_option maxHeartbeats 4000000 in
theorem rparseTcp_any (tos id ttl proto src dst : Int) (keep : Bool) (so sd : Value) (zs : List Int) (w : World) (hB : Mt.By zs) (hI : Rd w.heap.size w sd zs) (hl : 12 + zs.length ≤ 1099511627776) (hsr : 0 ≤ src ∧ src ≤ 4294967295) (hds : 0 ≤ dst ∧ dst ≤ 4294967295) :
    Calls Try.prog 8 #[.agg #[.int .u8 tos, .int .u16 id, .bool keep, .int .u8 ttl, .int .u8 proto, .int .u32 src, .int .u32 dst, so, sd]] w fun e w' => Below w.heap.size w w' ∧ ((pte proto src dst zs ≠ 0 ∧ e = .returned (.tuple #[.agg zsg.toArray, .int .i64 (pte proto src dst zs)])) ∨
      (pte proto src dst zs = 0 ∧ ∃ os aO cO ad cd, opts (hop zs) = some os ∧ e = .returned (.tuple #[.agg #[.int .u16 (wat zs 0), .int .u16 (wat zs 2), .int .u32 (wat4 zs 4), .int .u32 (wat4 zs 8), .int .u8 (zs[13]?.getD 0), .int .u16 (wat zs 14), .int .u16 (wat zs 18), .slice aO os.length cO, .slice ad (zs.length - (thd zs).toNat) cd], .int .i64 0]) ∧ OwO w.heap.size w' (.slice aO os.length cO) os ∧ Ow w.heap.size w' (.slice ad (zs.length - (thd zs).toNat) cd) (zs.drop (thd zs).toNat))) := by
  obtain ⟨ad, cd, rfl, hl1, hm1⟩ := hI.slice
  have hb0 : Below w.heap.size w ((w.alloc (.cells #[.int .u8 tos, .int .u16 id, .bool keep, .int .u8 ttl, .int .u8 proto, .int .u32 src, .int .u32 dst, so, .slice ad zs.length cd] 26)).alloc (.cells zsg.toArray 29)) := ((Below.refl _ _).alloc (Nat.le_refl _) _).alloc (by simp) _
  have p0 : ((w.alloc (.cells #[.int .u8 tos, .int .u16 id, .bool keep, .int .u8 ttl, .int .u8 proto, .int .u32 src, .int .u32 dst, so, .slice ad zs.length cd] 26)).alloc (.cells zsg.toArray 29)).heap[w.heap.size]? = some (.cells #[.int .u8 tos, .int .u16 id, .bool keep, .int .u8 ttl, .int .u8 proto, .int .u32 src, .int .u32 dst, so, .slice ad zs.length cd] 26) := (Below.heap_alloc _ _ _ (by simp)).trans (heap_alloc_new w _)
  have r0 : ((w.alloc (.cells #[.int .u8 tos, .int .u16 id, .bool keep, .int .u8 ttl, .int .u8 proto, .int .u32 src, .int .u32 dst, so, .slice ad zs.length cd] 26)).alloc (.cells zsg.toArray 29)).heap[w.heap.size + 1]? = some (.cells zsg.toArray 29 (0, 0)) := by have := heap_alloc_new (w.alloc (.cells #[.int .u8 tos, .int .u16 id, .bool keep, .int .u8 ttl, .int .u8 proto, .int .u32 src, .int .u32 dst, so, .slice ad zs.length cd] 26)) (.cells zsg.toArray 29); simpa using this
  have hs0 : ((w.alloc (.cells #[.int .u8 tos, .int .u16 id, .bool keep, .int .u8 ttl, .int .u8 proto, .int .u32 src, .int .u32 dst, so, .slice ad zs.length cd] 26)).alloc (.cells zsg.toArray 29)).heap.size = w.heap.size + 1 + 1 := by simp
  have P0 := hide p0
  have R0 := hide r0
  have HS := hide hs0
  clear p0 r0 hs0
  go_enter Try.func8, Try.ntmps8
  go_upto_region 1 with fail
  generalize (w.alloc (.cells #[.int .u8 tos, .int .u16 id, .bool keep, .int .u8 ttl, .int .u8 proto, .int .u32 src, .int .u32 dst, so, .slice ad zs.length cd] 26)).alloc (.cells zsg.toArray 29) = w1 at *
  have p1 := P0.out
  have r1 := R0.out
  have hw1 := hb0
  have hs1 : w.heap.size + 1 + 1 ≤ w1.heap.size := by have := HS.out; omega
  clear hb0 P0 R0 HS
  have K1 := block_cell p1
  by_cases c1 : proto = 6
  · have t1 : (proto != 6) = false := by simp [c1]
    have C1 := hide c1
    clear c1
    by_cases c2 : zs.length < 20
    · have t2 : (zs.length : Int) < 20 := by omega
      have HF : Hid (pte proto src dst zs = 3) := by show _ = _; unfold pte; rw [show ptc proto src dst zs = 3 from by unfold ptc; rw [if_neg (by simp [C1.out]), if_pos c2], if_pos (by decide)]
      have R1 := block_cell r1
      have F1 := block_frozen r1
      go_wp2_with fail
      generalize hV : ((((((((w1.setCell ⟨w.heap.size + 1, 0, none⟩ _).setCell ⟨w.heap.size + 1, 1, none⟩ _).setCell ⟨w.heap.size + 1, 2, none⟩ _).setCell ⟨w.heap.size + 1, 3, none⟩ _).setCell ⟨w.heap.size + 1, 4, none⟩ _).setCell ⟨w.heap.size + 1, 5, none⟩ _).setCell ⟨w.heap.size + 1, 6, none⟩ _).setCell ⟨w.heap.size + 1, 7, none⟩ _).setCell ⟨w.heap.size + 1, 8, none⟩ _ = V8
      have hV9 : V8 = putRow w1 (w.heap.size + 1) 0 zsg := hV.symm
      have hb8 : But (fun b => b = w.heap.size + 1) w1 V8 := by rw [hV9]; exact putRow_but (E := fun b => b = w.heap.size + 1) (n := w.heap.size + 1) rfl _ _ _ _ (But.refl _ _)
      have p8 := putRow_all zsg r1 rfl
      rw [← hV9] at p8
      clear hV hV9
      have P8 := block_cell p8
      have hw8 : Below w.heap.size w V8 := (hw1).trans (hb8.below (hw1).size (fun k h e => by omega))
      exact bodyPost_ret (v := .tuple #[.agg zsg.toArray, .int .i64 3]) (by simp [results, Try.results8, go_sem, P8]) rfl (⟨hw8, .inl ⟨by rw [HF.out]; decide, by rw [HF.out]⟩⟩)
    · have t2 : ¬ (zs.length : Int) < 20 := by omega
      obtain ⟨b, off, cap, e0, hlc, hmc, hbb, hcs⟩ := hI.cells (by omega)
      simp at e0
      obtain ⟨rfl, rfl⟩ := e0
      have d0 := (hw1.cell (p := ⟨b, off + 12, none⟩) hbb).trans (hcs 12 (by omega))
      have b0 := hB.at 12
      have HC13 := hide (hcs 13 (by omega))
      have i12 : (12 : Int) < zs.length := by omega
      clear hcs
      have HTH : Hid (thd zs = zs[12]?.getD 0 / 16 * 4) := rfl
      have HC2 := hide c2
      generalize hx : zs[12]?.getD 0 = x at d0 b0 HTH
      have HX := hide hx
      clear hx c2
      by_cases c3 : x / 16 * 4 < 20
      · have HF : Hid (pte proto src dst zs = 4) := by show _ = _; unfold pte; rw [show ptc proto src dst zs = 4 from by unfold ptc; rw [if_neg (by simp [C1.out]), if_neg HC2.out, if_pos (.inl (by rw [HTH.out]; exact c3))], if_pos (by decide)]
        have R1 := block_cell r1
        have F1 := block_frozen r1
        go_wp2_with fail
        generalize hV : ((((((((w1.setCell ⟨w.heap.size + 1, 0, none⟩ _).setCell ⟨w.heap.size + 1, 1, none⟩ _).setCell ⟨w.heap.size + 1, 2, none⟩ _).setCell ⟨w.heap.size + 1, 3, none⟩ _).setCell ⟨w.heap.size + 1, 4, none⟩ _).setCell ⟨w.heap.size + 1, 5, none⟩ _).setCell ⟨w.heap.size + 1, 6, none⟩ _).setCell ⟨w.heap.size + 1, 7, none⟩ _).setCell ⟨w.heap.size + 1, 8, none⟩ _ = V8
        have hV9 : V8 = putRow w1 (w.heap.size + 1) 0 zsg := hV.symm
        have hb8 : But (fun b => b = w.heap.size + 1) w1 V8 := by rw [hV9]; exact putRow_but (E := fun b => b = w.heap.size + 1) (n := w.heap.size + 1) rfl _ _ _ _ (But.refl _ _)
        have p8 := putRow_all zsg r1 rfl
        rw [← hV9] at p8
        clear hV hV9
        have P8 := block_cell p8
        have hw8 : Below w.heap.size w V8 := (hw1).trans (hb8.below (hw1).size (fun k h e => by omega))
        exact bodyPost_ret (v := .tuple #[.agg zsg.toArray, .int .i64 4]) (by simp [results, Try.results8, go_sem, P8]) rfl (⟨hw8, .inl ⟨by rw [HF.out]; decide, by rw [HF.out]⟩⟩)
      · by_cases c4 : x % 16 = 0
        · have t4 : (x % 16 != 0) = false := by simp [c4]
          by_cases c5 : (zs.length : Int) < x / 16 * 4
          · have HF : Hid (pte proto src dst zs = 3) := by show _ = _; unfold pte; rw [show ptc proto src dst zs = 3 from by unfold ptc; rw [if_neg (by simp [C1.out]), if_neg HC2.out, if_neg (by rw [HTH.out, HX.out]; omega), if_pos (by rw [HTH.out]; exact c5)], if_pos (by decide)]
            have C4 := hide c4
            clear c4
            have R1 := block_cell r1
            have F1 := block_frozen r1
            go_wp2_with fail
            generalize hV : ((((((((w1.setCell ⟨w.heap.size + 1, 0, none⟩ _).setCell ⟨w.heap.size + 1, 1, none⟩ _).setCell ⟨w.heap.size + 1, 2, none⟩ _).setCell ⟨w.heap.size + 1, 3, none⟩ _).setCell ⟨w.heap.size + 1, 4, none⟩ _).setCell ⟨w.heap.size + 1, 5, none⟩ _).setCell ⟨w.heap.size + 1, 6, none⟩ _).setCell ⟨w.heap.size + 1, 7, none⟩ _).setCell ⟨w.heap.size + 1, 8, none⟩ _ = V8
            have hV9 : V8 = putRow w1 (w.heap.size + 1) 0 zsg := hV.symm
            have hb8 : But (fun b => b = w.heap.size + 1) w1 V8 := by rw [hV9]; exact putRow_but (E := fun b => b = w.heap.size + 1) (n := w.heap.size + 1) rfl _ _ _ _ (But.refl _ _)
            have p8 := putRow_all zsg r1 rfl
            rw [← hV9] at p8
            clear hV hV9
            have P8 := block_cell p8
            have hw8 : Below w.heap.size w V8 := (hw1).trans (hb8.below (hw1).size (fun k h e => by omega))
            exact bodyPost_ret (v := .tuple #[.agg zsg.toArray, .int .i64 3]) (by simp [results, Try.results8, go_sem, P8]) rfl (⟨hw8, .inl ⟨by rw [HF.out]; decide, by rw [HF.out]⟩⟩)
          · have C4 := hide c4
            clear c4
            go_wp2_with fail
            rw [C1.out]
            refine (rsum3_any tos id ttl 6 src dst 6 keep so _ _ zs w1 hB ((hI.below hw1).mono hw1.size) hl (by omega) hsr hds).mono ?_
            rintro e w2 ⟨rfl, hb2⟩
            have r2 := later_keep hb2 r1
            have hw2 : Below w.heap.size w w2 := hw1.trans (hb2.mono hw1.size)
            have hs2 : w.heap.size + 1 + 1 ≤ w2.heap.size := by have := hb2.size; omega
            clear hb2 r1 p1 K1 d0 hw1
            by_cases c6 : Mt.cks (psd src dst 6 zs.length ++ zs) = 0
            · have t6 : (Mt.cks (psd src dst 6 zs.length ++ zs) != 0) = false := by simp [c6]
              have HPC : Hid (ptc proto src dst zs = 0) := by show _ = _; unfold ptc; rw [if_neg (by simp [C1.out]), if_neg HC2.out, if_neg (by rw [HTH.out, HX.out]; have := C4.out; omega), if_neg (by rw [HTH.out]; omega), if_neg (by simp [c6])]
              have HPT : Hid (pte proto src dst zs = if (opts (hop zs)).isNone then 4 else 0) := by show _ = _; unfold pte; rw [if_neg (by simp [HPC.out])]
              clear c6
              obtain ⟨tm, hh⟩ : ∃ tm : Nat, x / 16 * 4 = (tm : Int) := ⟨(x / 16 * 4).toNat, by omega⟩
              have HHOP : Hid (hop zs = (zs.drop 20).take (tm - 20)) := by show _ = _; unfold hop; rw [HTH.out, hh]; simp
              have HTO : Hid ((thd zs).toNat = tm) := by show _ = _; rw [HTH.out, hh]; simp
              have z7 : (tm : Int) ≤ 60 := by omega
              rw [hh] at c3 c5 ⊢
              have HH := hide hh
              clear hh
              have i20 : (20 : Int) ≤ tm := by omega
              have ihl : (tm : Int) ≤ zs.length := by omega
              have ilc : (zs.length : Int) ≤ cd := by omega
              have hs20 := ((hI.below hw2).cutAt 20 (by omega)).take (tm - 20) (by omega)
              obtain ⟨a20, hA20⟩ : ∃ a20, (if cd = 20 then some (⟨b, off, none⟩ : Addr) else some ⟨b, off + 20, none⟩) = a20 := ⟨_, rfl⟩
              rw [hA20] at hs20
              have HA20 := hide hA20
              have HS20 := hide hs20
              clear hs20 hA20
              go_wp2_with (refine wpList_valD 48 rfl rfl (.slice a20 (tm - 20) (cd - 20)) (by rw [← HA20.out]; go_simp; split <;> first | rfl | (intro _; omega)) ?_)
              have hBh : Mt.By ((zs.drop 20).take (tm - 20)) := (hB.drop 20).take _
              have hlh : ((zs.drop 20).take (tm - 20)).length = tm - 20 := by simp; omega
              refine (roptions_any _ ((zs.drop 20).take (tm - 20)) hBh (by omega) w2 (HS20.out.mono hw2.size)).mono ?_
              clear HS20 HA20
              rintro e w3 ⟨hb3, ⟨ho, rfl⟩ | ⟨os, vO, ho, rfl, hOO⟩⟩
              · have r3 := later_keep hb3 r2
                have hw3 := hw2.trans (hb3.mono hw2.size)
                have HF : Hid (pte proto src dst zs = 4) := by show _ = _; rw [HPT.out, HHOP.out, ho]; rfl
                clear ho
                have R1 := block_cell r3
                have F1 := block_frozen r3
                go_wp2_with fail
                generalize hV : ((((((((w3.setCell ⟨w.heap.size + 1, 0, none⟩ _).setCell ⟨w.heap.size + 1, 1, none⟩ _).setCell ⟨w.heap.size + 1, 2, none⟩ _).setCell ⟨w.heap.size + 1, 3, none⟩ _).setCell ⟨w.heap.size + 1, 4, none⟩ _).setCell ⟨w.heap.size + 1, 5, none⟩ _).setCell ⟨w.heap.size + 1, 6, none⟩ _).setCell ⟨w.heap.size + 1, 7, none⟩ _).setCell ⟨w.heap.size + 1, 8, none⟩ _ = V8
                have hV9 : V8 = putRow w3 (w.heap.size + 1) 0 zsg := hV.symm
                have hb8 : But (fun b => b = w.heap.size + 1) w3 V8 := by rw [hV9]; exact putRow_but (E := fun b => b = w.heap.size + 1) (n := w.heap.size + 1) rfl _ _ _ _ (But.refl _ _)
                have p8 := putRow_all zsg r3 rfl
                rw [← hV9] at p8
                clear hV hV9
                have P8 := block_cell p8
                have hw8 : Below w.heap.size w V8 := (hw3).trans (hb8.below (hw3).size (fun k h e => by omega))
                exact bodyPost_ret (v := .tuple #[.agg zsg.toArray, .int .i64 4]) (by simp [results, Try.results8, go_sem, P8]) rfl (⟨hw8, .inl ⟨by rw [HF.out]; decide, by rw [HF.out]⟩⟩)
              · have r3 := later_keep hb3 r2
                have hw3 := hw2.trans (hb3.mono hw2.size)
                have hs3 : w.heap.size + 1 + 1 ≤ w3.heap.size := by have := hb3.size; omega
                have HF : Hid (pte proto src dst zs = 0) := by show _ = _; rw [HPT.out, HHOP.out, ho]; rfl
                have HO : Hid (opts (hop zs) = some os) := by show _ = _; rw [HHOP.out]; exact ho
                obtain ⟨aO, cO, rfl, _, _⟩ := hOO.slice
                have hOO' := hOO.mono (base' := w.heap.size + 1 + 1) hs2
                clear ho hOO hb3 r2 hBh hlh
                go_upto_region 16 with fail
                have d13 := HC13.out
                generalize hx13 : zs[13]?.getD 0 = x13 at d13
                have HX13 := hide hx13
                clear hx13
                refine anyR_begin (R := KI w3.heap.size 29 9 (List.toArray [.int .u16 (wat zs 0), .int .u16 (wat zs 2), .int .u32 (wat4 zs 4), .int .u32 (wat4 zs 8), .int .u8 x13, .int .u16 (wat zs 14), .int .u16 (wat zs 18), .slice aO os.length cO, .slice none 0 0])) (KI.pre _ _ _ _) (fun w => KI.of (Later.drew w)) 19 rfl (by kernel_rfl) (fun W5 hW5 => ?_)
                have hbel : ∀ w1, KI w3.heap.size 29 9 (List.toArray [.int .u16 (wat zs 0), .int .u16 (wat zs 2), .int .u32 (wat4 zs 4), .int .u32 (wat4 zs 8), .int .u8 x13, .int .u16 (wat zs 14), .int .u16 (wat zs 18), .slice aO os.length cO, .slice none 0 0]) W5 w1 → Below w.heap.size w w1 := fun w1 h => hw3.trans (((hW5.trans h).1.below (Nat.le_refl _) (fun k hk e => by omega)).mono (by omega))
                have hr1 : ∀ w1, KI w3.heap.size 29 9 (List.toArray [.int .u16 (wat zs 0), .int .u16 (wat zs 2), .int .u32 (wat4 zs 4), .int .u32 (wat4 zs 8), .int .u8 x13, .int .u16 (wat zs 14), .int .u16 (wat zs 18), .slice aO os.length cO, .slice none 0 0]) W5 w1 → Rd w.heap.size w1 (.slice (some ⟨b, off, none⟩) zs.length cd) zs := fun w1 h => hI.below (hbel w1 h)
                have e13 : ∀ w1, KI w3.heap.size 29 9 (List.toArray [.int .u16 (wat zs 0), .int .u16 (wat zs 2), .int .u32 (wat4 zs 4), .int .u32 (wat4 zs 8), .int .u8 x13, .int .u16 (wat zs 14), .int .u16 (wat zs 18), .slice aO os.length cO, .slice none 0 0]) W5 w1 → w1.cell? ⟨b, off + 13, none⟩ = some (.int .u8 x13) := fun w1 h => ((hbel w1 h).cell (p := ⟨b, off + 13, none⟩) hbb).trans d13
                have i13 : (13 : Int) < zs.length := by omega
                clear d13
                refine anyR_val (KI.pre _ _ _ _) 0 rfl (by kernel_rfl) (by kernel_rfl) (by kernel_rfl) (fun _ _ _ _ h => h) rfl ?_; apply Exists.intro; refine ⟨fun w1 hw1 => ?_, ?_⟩; (· (go_simp; rfl)); simp only [Act.put, List.setIfInBounds_toArray, List.set_cons_zero, List.set_cons_succ]
                refine anyR_take (KI.pre _ _ _ _) 1 (.int .u16 (wat zs 0)) rfl (by kernel_rfl) (by kernel_rfl) (by kernel_rfl) (fun _ _ _ h => h) rfl (fun v1 hv1 => goes_call 27 #[.slice (some ⟨b, off, none⟩) zs.length cd, .int .i64 0] (by go_simp) ?_) ?_
                · exact (rget16_at _ zs hB 0 (by omega) (by omega) v1 (hr1 v1 hv1)).mono fun e w' ⟨he, n, hn⟩ => ⟨by rw [he, getAt2_lit zs 0 0 rfl (by omega)], KI.of (by rw [hn]; exact below_draw (Later.refl v1) n)⟩
                simp only [Act.put, List.setIfInBounds_toArray, List.set_cons_zero, List.set_cons_succ]
                refine anyR_val (KI.pre _ _ _ _) 2 rfl (by kernel_rfl) (by kernel_rfl) (by kernel_rfl) (fun _ _ _ _ h => h) rfl ?_; apply Exists.intro; refine ⟨fun w1 hw1 => ?_, ?_⟩; (· (go_simp; rfl)); simp only [Act.put, List.setIfInBounds_toArray, List.set_cons_zero, List.set_cons_succ]
                refine anyR_take (KI.pre _ _ _ _) 3 (.int .u16 (wat zs 2)) rfl (by kernel_rfl) (by kernel_rfl) (by kernel_rfl) (fun _ _ _ h => h) rfl (fun v1 hv1 => goes_call 27 #[.slice (some ⟨b, off, none⟩) zs.length cd, .int .i64 2] (by go_simp) ?_) ?_
                · exact (rget16_at _ zs hB 2 (by omega) (by omega) v1 (hr1 v1 hv1)).mono fun e w' ⟨he, n, hn⟩ => ⟨by rw [he, getAt2_lit zs 2 2 rfl (by omega)], KI.of (by rw [hn]; exact below_draw (Later.refl v1) n)⟩
                simp only [Act.put, List.setIfInBounds_toArray, List.set_cons_zero, List.set_cons_succ]
                refine anyR_val (KI.pre _ _ _ _) 4 rfl (by kernel_rfl) (by kernel_rfl) (by kernel_rfl) (fun _ _ _ _ h => h) rfl ?_; apply Exists.intro; refine ⟨fun w1 hw1 => ?_, ?_⟩; (· (go_simp; rfl)); simp only [Act.put, List.setIfInBounds_toArray, List.set_cons_zero, List.set_cons_succ]
                refine anyR_take (KI.pre _ _ _ _) 5 (.int .u32 (wat4 zs 4)) rfl (by kernel_rfl) (by kernel_rfl) (by kernel_rfl) (fun _ _ _ h => h) rfl (fun v1 hv1 => goes_call 28 #[.slice (some ⟨b, off, none⟩) zs.length cd, .int .i64 4] (by go_simp) ?_) ?_
                · exact (rget32_at _ zs hB 4 (by omega) (by omega) v1 (hr1 v1 hv1)).mono fun e w' ⟨he, n, hn⟩ => ⟨by rw [he, getAt4_lit zs 4 4 rfl (by omega)], KI.of (by rw [hn]; exact below_draw (Later.refl v1) n)⟩
                simp only [Act.put, List.setIfInBounds_toArray, List.set_cons_zero, List.set_cons_succ]
                refine anyR_val (KI.pre _ _ _ _) 6 rfl (by kernel_rfl) (by kernel_rfl) (by kernel_rfl) (fun _ _ _ _ h => h) rfl ?_; apply Exists.intro; refine ⟨fun w1 hw1 => ?_, ?_⟩; (· (go_simp; rfl)); simp only [Act.put, List.setIfInBounds_toArray, List.set_cons_zero, List.set_cons_succ]
                refine anyR_take (KI.pre _ _ _ _) 7 (.int .u32 (wat4 zs 8)) rfl (by kernel_rfl) (by kernel_rfl) (by kernel_rfl) (fun _ _ _ h => h) rfl (fun v1 hv1 => goes_call 28 #[.slice (some ⟨b, off, none⟩) zs.length cd, .int .i64 8] (by go_simp) ?_) ?_
                · exact (rget32_at _ zs hB 8 (by omega) (by omega) v1 (hr1 v1 hv1)).mono fun e w' ⟨he, n, hn⟩ => ⟨by rw [he, getAt4_lit zs 8 8 rfl (by omega)], KI.of (by rw [hn]; exact below_draw (Later.refl v1) n)⟩
                simp only [Act.put, List.setIfInBounds_toArray, List.set_cons_zero, List.set_cons_succ]
                refine anyR_val (KI.pre _ _ _ _) 8 rfl (by kernel_rfl) (by kernel_rfl) (by kernel_rfl) (fun _ _ _ _ h => h) rfl ?_; apply Exists.intro; refine ⟨fun w1 hw1 => ?_, ?_⟩; (· (go_simp; rfl)); simp only [Act.put, List.setIfInBounds_toArray, List.set_cons_zero, List.set_cons_succ]
                refine anyR_val (KI.pre _ _ _ _) 9 rfl (by kernel_rfl) (by kernel_rfl) (by kernel_rfl) (fun _ _ _ _ h => h) rfl ?_; apply Exists.intro; refine ⟨fun w1 hw1 => ?_, ?_⟩; (· (go_simp; rfl)); simp only [Act.put, List.setIfInBounds_toArray, List.set_cons_zero, List.set_cons_succ]
                refine anyR_val (KI.pre _ _ _ _) 10 rfl (by kernel_rfl) (by kernel_rfl) (by kernel_rfl) (fun _ _ _ _ h => h) rfl ?_; apply Exists.intro; refine ⟨fun w1 hw1 => ?_, ?_⟩; (· (go_simp; rfl)); simp only [Act.put, List.setIfInBounds_toArray, List.set_cons_zero, List.set_cons_succ]
                refine anyR_val (KI.pre _ _ _ _) 11 rfl (by kernel_rfl) (by kernel_rfl) (by kernel_rfl) (fun _ _ _ _ h => h) rfl ?_; apply Exists.intro; refine ⟨fun w1 hw1 => ?_, ?_⟩; (· (go_simp; rfl)); simp only [Act.put, List.setIfInBounds_toArray, List.set_cons_zero, List.set_cons_succ]
                refine anyR_take (KI.pre _ _ _ _) 12 (.int .u16 (wat zs 14)) rfl (by kernel_rfl) (by kernel_rfl) (by kernel_rfl) (fun _ _ _ h => h) rfl (fun v1 hv1 => goes_call 27 #[.slice (some ⟨b, off, none⟩) zs.length cd, .int .i64 14] (by go_simp) ?_) ?_
                · exact (rget16_at _ zs hB 14 (by omega) (by omega) v1 (hr1 v1 hv1)).mono fun e w' ⟨he, n, hn⟩ => ⟨by rw [he, getAt2_lit zs 14 14 rfl (by omega)], KI.of (by rw [hn]; exact below_draw (Later.refl v1) n)⟩
                simp only [Act.put, List.setIfInBounds_toArray, List.set_cons_zero, List.set_cons_succ]
                refine anyR_val (KI.pre _ _ _ _) 13 rfl (by kernel_rfl) (by kernel_rfl) (by kernel_rfl) (fun _ _ _ _ h => h) rfl ?_; apply Exists.intro; refine ⟨fun w1 hw1 => ?_, ?_⟩; (· (go_simp; rfl)); simp only [Act.put, List.setIfInBounds_toArray, List.set_cons_zero, List.set_cons_succ]
                refine anyR_take (KI.pre _ _ _ _) 14 (.int .u16 (wat zs 18)) rfl (by kernel_rfl) (by kernel_rfl) (by kernel_rfl) (fun _ _ _ h => h) rfl (fun v1 hv1 => goes_call 27 #[.slice (some ⟨b, off, none⟩) zs.length cd, .int .i64 18] (by go_simp) ?_) ?_
                · exact (rget16_at _ zs hB 18 (by omega) (by omega) v1 (hr1 v1 hv1)).mono fun e w' ⟨he, n, hn⟩ => ⟨by rw [he, getAt2_lit zs 18 18 rfl (by omega)], KI.of (by rw [hn]; exact below_draw (Later.refl v1) n)⟩
                simp only [Act.put, List.setIfInBounds_toArray, List.set_cons_zero, List.set_cons_succ]
                refine anyR_val (KI.pre _ _ _ _) 15 rfl (by kernel_rfl) (by kernel_rfl) (by kernel_rfl) (fun _ _ _ _ h => h) rfl ?_; apply Exists.intro; refine ⟨fun w1 hw1 => ?_, ?_⟩; (· (go_simp; rfl)); simp only [Act.put, List.setIfInBounds_toArray, List.set_cons_zero, List.set_cons_succ]
                refine anyR_val (KI.pre _ _ _ _) 16 rfl (by kernel_rfl) (by kernel_rfl) (by kernel_rfl) (fun _ _ _ _ h => h) rfl ?_; apply Exists.intro; refine ⟨fun w1 hw1 => ?_, ?_⟩; (· (go_simp; rfl)); simp only [Act.put, List.setIfInBounds_toArray, List.set_cons_zero, List.set_cons_succ]
                refine anyR_one 17 rfl (by kernel_rfl) rfl (fun W6 hW6 => ?_)
                have hs6 : w3.heap.size ≤ W6.heap.size := (hW5.trans hW6).1.size
                unfold Oper.wp
                go_simp
                refine ⟨KI.of ((Below.refl _ _).alloc (Nat.le_refl _) _), ?_⟩
                refine anyR_one 18 rfl (by kernel_rfl) rfl (fun W7 hW7 => ?_)
                have hwr : Wr W6.heap.size 9 29 W7 := hW7.2.1 _ ⟨_, heap_alloc_new W6 _, rfl⟩
                have hst := KI.store (n₁ := w3.heap.size) [.int .u16 (wat zs 0), .int .u16 (wat zs 2), .int .u32 (wat4 zs 4), .int .u32 (wat4 zs 8), .int .u8 x13, .int .u16 (wat zs 14), .int .u16 (wat zs 18), .slice aO os.length cO, .slice none 0 0] hs6 hwr rfl
                obtain ⟨cur, hcur, hsz⟩ := hwr
                have k7 := block_cell hcur
                have f7 := block_frozen hcur
                have HS := hide hst
                clear hst
                unfold Oper.wp
                go_simp
                generalize hV : ((((((((W7.setCell ⟨W6.heap.size, 0, none⟩ _).setCell ⟨W6.heap.size, 1, none⟩ _).setCell ⟨W6.heap.size, 2, none⟩ _).setCell ⟨W6.heap.size, 3, none⟩ _).setCell ⟨W6.heap.size, 4, none⟩ _).setCell ⟨W6.heap.size, 5, none⟩ _).setCell ⟨W6.heap.size, 6, none⟩ _).setCell ⟨W6.heap.size, 7, none⟩ _).setCell ⟨W6.heap.size, 8, none⟩ _ = V
                have hV9 : V = putRow W7 W6.heap.size 0 [.int .u16 (wat zs 0), .int .u16 (wat zs 2), .int .u32 (wat4 zs 4), .int .u32 (wat4 zs 8), .int .u8 x13, .int .u16 (wat zs 14), .int .u16 (wat zs 18), .slice aO os.length cO, .slice none 0 0] := hV.symm
                have hst := HS.out
                rw [← hV9] at hst
                clear hV hV9 HS k7 f7
                refine ⟨hst.1, anyR_done (by kernel_rfl) (fun W8 hW8 => ?_)⟩
                have p8 := hW8.2.2 _ hst.2
                have hAll := hW5.trans (((hW6.trans (KI.of ((Below.refl _ _).alloc (Nat.le_refl _) _))).trans hW7).trans (hst.1.trans hW8))
                have hwW8 : Below w.heap.size w W8 := hbel W8 (((hW6.trans (KI.of ((Below.refl _ _).alloc (Nat.le_refl _) _))).trans hW7).trans (hst.1.trans hW8))
                have hk8 : ∀ k o, w3.heap[k]? = some o → W8.heap[k]? = some o := fun k o h => (hAll.1.block k (Array.getElem?_eq_some_iff.1 h).1 (fun e => by have := (Array.getElem?_eq_some_iff.1 h).1; omega)).trans h
                generalize W6.heap.size = pb at *
                clear hbel hr1 e13 hst hW7 hW6 hcur hsz hW8 hAll hW5
                have hs8 := (Array.getElem?_eq_some_iff.1 p8).1
                have r8 := hk8 _ _ r3
                clear r3
                go_upto_region 17 with fail
                refine anyT_begin (R := But (fun b => b = pb)) 8 rfl (by kernel_rfl) ?_
                have hd : Later W8 W8.drew := Later.drew W8
                have md := later_keep hd p8
                have rd := later_keep hd r8
                have hkd : ∀ k o, w3.heap[k]? = some o → W8.drew.heap[k]? = some o := fun k o h => later_keep hd (hk8 k o h)
                have hwd : Below w.heap.size w W8.drew := hwW8.trans (hd.mono hwW8.size)
                clear hk8 p8 r8
                generalize W8.drew = Wd at *
                have hr : Rd w.heap.size Wd (.slice (some ⟨b, off, none⟩) zs.length cd) zs := hI.below hwd
                have hst8 : Rd w.heap.size Wd (.slice (if cd = tm then some (⟨b, off, none⟩ : Addr) else some ⟨b, off + tm, none⟩) (zs.length - tm) (cd - tm)) (zs.drop tm) := hr.cutAt tm (by omega)
                generalize hE8 : (if cd = tm then some (⟨b, off, none⟩ : Addr) else some ⟨b, off + tm, none⟩) = adh at *
                refine anyT_val (But.pre _) 0 rfl (by kernel_rfl) (by kernel_rfl) (by kernel_rfl) (fun _ _ _ _ h => h) rfl ?_; apply Exists.intro; refine ⟨fun v1 hv1 => ?_, ?_⟩; (· (go_simp; rfl)); simp only [Act.put, List.setIfInBounds_toArray, List.set_cons_zero, List.set_cons_succ]
                refine anyT_val (But.pre _) 2 rfl (by kernel_rfl) (by kernel_rfl) (by kernel_rfl) (fun _ _ _ _ h => h) rfl ?_; apply Exists.intro; refine ⟨fun v1 hv1 => ?_, ?_⟩; (· (go_simp; rfl)); simp only [Act.put, List.setIfInBounds_toArray, List.set_cons_zero, List.set_cons_succ]
                refine anyT_val (But.pre _) 3 rfl (by kernel_rfl) (by kernel_rfl) (by kernel_rfl) (fun _ _ _ _ h => h) rfl ?_; apply Exists.intro; refine ⟨fun v1 hv1 => ?_, ?_⟩; (· (go_simp; rfl)); simp only [Act.put, List.setIfInBounds_toArray, List.set_cons_zero, List.set_cons_succ]
                refine anyT_val (But.pre _) 4 rfl (by kernel_rfl) (by kernel_rfl) (by kernel_rfl) (fun _ _ _ _ h => h) rfl ⟨.slice adh (zs.length - tm) (cd - tm), fun v1 hv1 => by go_simp, ?_⟩
                simp only [Act.put, List.setIfInBounds_toArray, List.set_cons_zero, List.set_cons_succ]
                refine anyT_one 1 rfl (by kernel_rfl) rfl ?_
                have kd := block_cell md
                unfold Oper.wp
                go_simp
                refine ⟨But.refl _ _, ?_⟩
                refine anyT_one 5 rfl (by kernel_rfl) rfl ?_
                obtain ⟨i0, hi, hz0, hz1, hz2⟩ := info_parts info_u8
                have hsd : pb + 1 ≤ Wd.heap.size := (Array.getElem?_eq_some_iff.1 md).1
                obtain ⟨v3, W3, hrun3, hown3, hgr3⟩ := run_app (P := Try.prog) Wd 24 24 5 (pb + 1) i0 Try.underlying24 hi hz0 hz1 hz2 (.slice none 0 0) [] (World.ownsRow_nil _ _ _ _) w.heap.size _ (zs.drop tm) hst8 (by simp; omega) hsd
                have hl3 : Later Wd W3 := (Below.refl _ Wd).grown hgr3 (Nat.le_refl _) (fun _ e => by cases e)
                have hO3 := Ow.of_row hown3
                rw [List.nil_append] at hO3
                clear hown3
                obtain ⟨a3, c3, rfl, hq3, hm3⟩ := hO3.slice
                rw [List.length_drop] at hO3 hrun3
                refine wp_app (.tmp 73) (.tmp 76) 24 rfl _ _ rfl rfl _ W3 hrun3 ⟨But.of hl3, ?_⟩
                simp only [Act.put, List.setIfInBounds_toArray, List.set_cons_zero, List.set_cons_succ]
                refine anyT_val (But.pre _) 6 rfl (by kernel_rfl) (by kernel_rfl) (by kernel_rfl) (fun _ _ _ _ h => h) rfl ?_; apply Exists.intro; refine ⟨fun v1 hv1 => ?_, ?_⟩; (· (go_simp; rfl)); simp only [Act.put, List.setIfInBounds_toArray, List.set_cons_zero, List.set_cons_succ]
                have m3 := later_keep hl3 md
                have r3 := later_keep hl3 rd
                have hk3 : ∀ k o, w3.heap[k]? = some o → W3.heap[k]? = some o := fun k o h => later_keep hl3 (hkd k o h)
                have k3 := block_cell m3
                have f3 : ∀ j, W3.frozen? ⟨pb, j, none⟩ = false := block_frozen m3
                clear kd hkd
                refine anyT_one 7 rfl (by kernel_rfl) rfl ?_
                unfold Oper.wp
                go_simp
                refine ⟨(But.refl (fun b => b = pb) _).setCell (p := ⟨pb, 8, none⟩) rfl _, ?_⟩
                refine anyT_done (by kernel_rfl) ?_
                have m4 : (W3.setCell ⟨pb, 8, none⟩ (.slice a3 (zs.length - tm) c3)).heap[pb]? = some (.cells #[.int .u16 (wat zs 0), .int .u16 (wat zs 2), .int .u32 (wat4 zs 4), .int .u32 (wat4 zs 8), .int .u8 x13, .int .u16 (wat zs 14), .int .u16 (wat zs 18), .slice aO os.length cO, .slice a3 (zs.length - tm) c3] 29 (0, 0)) := heap_set1 m3 8 _
                have E4 : But (fun b => b = pb) W3 (W3.setCell ⟨pb, 8, none⟩ (.slice a3 (zs.length - tm) c3)) := (But.refl (fun b => b = pb) W3).setCell (p := ⟨pb, 8, none⟩) rfl _
                have hw33 := hwd.trans (hl3.mono hwd.size)
                have hs33 := hl3.size
                generalize W3.setCell ⟨pb, 8, none⟩ (.slice a3 (zs.length - tm) c3) = W4 at *
                have hw4 : Below w.heap.size w W4 := hw33.trans (E4.below hw33.size (fun k h e => by omega))
                have r4 := (E4.block (w.heap.size + 1) (by omega) (by omega)).trans r3
                have hk4 : ∀ k o, w3.heap[k]? = some o → W4.heap[k]? = some o := fun k o h => (E4.block k (by have := (Array.getElem?_eq_some_iff.1 (hk3 k o h)).1; omega) (fun e => by have := (Array.getElem?_eq_some_iff.1 h).1; omega)).trans (hk3 k o h)
                have hO4 := hO3.but E4 (fun b h e => by omega)
                have M4 := block_cell m4
                have R4 := block_cell r4
                have F4 := block_frozen r4
                have HK4 := hide hk4
                clear k3 f3 hk3 hk4
                go_wp2_with fail
                generalize hV : ((((((((W4.setCell ⟨w.heap.size + 1, 0, none⟩ _).setCell ⟨w.heap.size + 1, 1, none⟩ _).setCell ⟨w.heap.size + 1, 2, none⟩ _).setCell ⟨w.heap.size + 1, 3, none⟩ _).setCell ⟨w.heap.size + 1, 4, none⟩ _).setCell ⟨w.heap.size + 1, 5, none⟩ _).setCell ⟨w.heap.size + 1, 6, none⟩ _).setCell ⟨w.heap.size + 1, 7, none⟩ _).setCell ⟨w.heap.size + 1, 8, none⟩ _ = V8
                have hV9 : V8 = putRow W4 (w.heap.size + 1) 0 [.int .u16 (wat zs 0), .int .u16 (wat zs 2), .int .u32 (wat4 zs 4), .int .u32 (wat4 zs 8), .int .u8 x13, .int .u16 (wat zs 14), .int .u16 (wat zs 18), .slice aO os.length cO, .slice a3 (zs.length - tm) c3] := hV.symm
                have hb8 : But (fun b => b = w.heap.size + 1) W4 V8 := by rw [hV9]; exact putRow_but (E := fun b => b = w.heap.size + 1) (n := w.heap.size + 1) rfl _ _ _ _ (But.refl _ _)
                have p8 := putRow_all [.int .u16 (wat zs 0), .int .u16 (wat zs 2), .int .u32 (wat4 zs 4), .int .u32 (wat4 zs 8), .int .u8 x13, .int .u16 (wat zs 14), .int .u16 (wat zs 18), .slice aO os.length cO, .slice a3 (zs.length - tm) c3] r4 rfl
                rw [← hV9] at p8
                clear hV hV9
                have P8 := block_cell p8
                have hw8 : Below w.heap.size w V8 := (hw4).trans (hb8.below (hw4).size (fun k h e => by omega))
                exact bodyPost_ret (v := .tuple #[.agg #[.int .u16 (wat zs 0), .int .u16 (wat zs 2), .int .u32 (wat4 zs 4), .int .u32 (wat4 zs 8), .int .u8 x13, .int .u16 (wat zs 14), .int .u16 (wat zs 18), .slice aO os.length cO, .slice a3 (zs.length - tm) c3], .int .i64 0]) (by simp [results, Try.results8, go_sem, P8]) rfl (⟨hw8, .inr ⟨HF.out, os, aO, cO, a3, c3, HO.out, by rw [HTO.out, HX13.out], (hOO'.kept (fun k o hk h => (hb8.block k (by have := (Array.getElem?_eq_some_iff.1 (HK4.out k o h)).1; omega) (by omega)).trans (HK4.out k o h))).mono (by omega), by rw [HTO.out]; exact (hO4.but hb8 (fun b h e => by omega)).mono (by omega)⟩⟩)
            · have t6 : (Mt.cks (psd src dst 6 zs.length ++ zs) != 0) = true := by simp [c6]
              have HF : Hid (pte proto src dst zs = 5) := by show _ = _; unfold pte; rw [show ptc proto src dst zs = 5 from by unfold ptc; rw [if_neg (by simp [C1.out]), if_neg HC2.out, if_neg (by rw [HTH.out, HX.out]; have := C4.out; omega), if_neg (by rw [HTH.out]; omega), if_pos c6], if_pos (by decide)]
              clear c6
              have R1 := block_cell r2
              have F1 := block_frozen r2
              go_wp2_with fail
              generalize hV : ((((((((w2.setCell ⟨w.heap.size + 1, 0, none⟩ _).setCell ⟨w.heap.size + 1, 1, none⟩ _).setCell ⟨w.heap.size + 1, 2, none⟩ _).setCell ⟨w.heap.size + 1, 3, none⟩ _).setCell ⟨w.heap.size + 1, 4, none⟩ _).setCell ⟨w.heap.size + 1, 5, none⟩ _).setCell ⟨w.heap.size + 1, 6, none⟩ _).setCell ⟨w.heap.size + 1, 7, none⟩ _).setCell ⟨w.heap.size + 1, 8, none⟩ _ = V8
              have hV9 : V8 = putRow w2 (w.heap.size + 1) 0 zsg := hV.symm
              have hb8 : But (fun b => b = w.heap.size + 1) w2 V8 := by rw [hV9]; exact putRow_but (E := fun b => b = w.heap.size + 1) (n := w.heap.size + 1) rfl _ _ _ _ (But.refl _ _)
              have p8 := putRow_all zsg r2 rfl
              rw [← hV9] at p8
              clear hV hV9
              have P8 := block_cell p8
              have hw8 : Below w.heap.size w V8 := (hw2).trans (hb8.below (hw2).size (fun k h e => by omega))
              exact bodyPost_ret (v := .tuple #[.agg zsg.toArray, .int .i64 5]) (by simp [results, Try.results8, go_sem, P8]) rfl (⟨hw8, .inl ⟨by rw [HF.out]; decide, by rw [HF.out]⟩⟩)
        · have t4 : (x % 16 != 0) = true := by simp [c4]
          have HF : Hid (pte proto src dst zs = 4) := by show _ = _; unfold pte; rw [show ptc proto src dst zs = 4 from by unfold ptc; rw [if_neg (by simp [C1.out]), if_neg HC2.out, if_pos (.inr (by rw [HX.out]; exact c4))], if_pos (by decide)]
          clear c4
          have R1 := block_cell r1
          have F1 := block_frozen r1
          go_wp2_with fail
          generalize hV : ((((((((w1.setCell ⟨w.heap.size + 1, 0, none⟩ _).setCell ⟨w.heap.size + 1, 1, none⟩ _).setCell ⟨w.heap.size + 1, 2, none⟩ _).setCell ⟨w.heap.size + 1, 3, none⟩ _).setCell ⟨w.heap.size + 1, 4, none⟩ _).setCell ⟨w.heap.size + 1, 5, none⟩ _).setCell ⟨w.heap.size + 1, 6, none⟩ _).setCell ⟨w.heap.size + 1, 7, none⟩ _).setCell ⟨w.heap.size + 1, 8, none⟩ _ = V8
          have hV9 : V8 = putRow w1 (w.heap.size + 1) 0 zsg := hV.symm
          have hb8 : But (fun b => b = w.heap.size + 1) w1 V8 := by rw [hV9]; exact putRow_but (E := fun b => b = w.heap.size + 1) (n := w.heap.size + 1) rfl _ _ _ _ (But.refl _ _)
          have p8 := putRow_all zsg r1 rfl
          rw [← hV9] at p8
          clear hV hV9
          have P8 := block_cell p8
          have hw8 : Below w.heap.size w V8 := (hw1).trans (hb8.below (hw1).size (fun k h e => by omega))
          exact bodyPost_ret (v := .tuple #[.agg zsg.toArray, .int .i64 4]) (by simp [results, Try.results8, go_sem, P8]) rfl (⟨hw8, .inl ⟨by rw [HF.out]; decide, by rw [HF.out]⟩⟩)
  · have t1 : (proto != 6) = true := by simp [c1]
    have HF : Hid (pte proto src dst zs = 12) := by show _ = _; unfold pte; rw [show ptc proto src dst zs = 12 from by unfold ptc; rw [if_pos c1], if_pos (by decide)]
    clear c1
    have R1 := block_cell r1
    have F1 := block_frozen r1
    go_wp2_with fail
    generalize hV : ((((((((w1.setCell ⟨w.heap.size + 1, 0, none⟩ _).setCell ⟨w.heap.size + 1, 1, none⟩ _).setCell ⟨w.heap.size + 1, 2, none⟩ _).setCell ⟨w.heap.size + 1, 3, none⟩ _).setCell ⟨w.heap.size + 1, 4, none⟩ _).setCell ⟨w.heap.size + 1, 5, none⟩ _).setCell ⟨w.heap.size + 1, 6, none⟩ _).setCell ⟨w.heap.size + 1, 7, none⟩ _).setCell ⟨w.heap.size + 1, 8, none⟩ _ = V8
    have hV9 : V8 = putRow w1 (w.heap.size + 1) 0 zsg := hV.symm
    have hb8 : But (fun b => b = w.heap.size + 1) w1 V8 := by rw [hV9]; exact putRow_but (E := fun b => b = w.heap.size + 1) (n := w.heap.size + 1) rfl _ _ _ _ (But.refl _ _)
    have p8 := putRow_all zsg r1 rfl
    rw [← hV9] at p8
    clear hV hV9
    have P8 := block_cell p8
    have hw8 : Below w.heap.size w V8 := (hw1).trans (hb8.below (hw1).size (fun k h e => by omega))
    exact bodyPost_ret (v := .tuple #[.agg zsg.toArray, .int .i64 12]) (by simp [results, Try.results8, go_sem, P8]) rfl (⟨hw8, .inl ⟨by rw [HF.out]; decide, by rw [HF.out]⟩⟩)
end Go.Proofs.Ytclkfmdlgffbeaa
