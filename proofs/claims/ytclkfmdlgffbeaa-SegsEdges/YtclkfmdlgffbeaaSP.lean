/- Package segs: what a packet's segment is. -/
import Derived.Test.YtclkfmdlgffbeaaSO
namespace Go.Proofs.Ytclkfmdlgffbeaa
open Go.RowKit Go.Shelf
set_option maxRecDepth 100000
set_option linter.unusedVariables false
set_option linter.unusedSimpArgs false

/-- A segment's cells of zeros. -/
abbrev zsg : List Value := [.int .u16 0, .int .u16 0, .int .u32 0, .int .u32 0, .int .u8 0, .int .u16 0, .int .u16 0, .slice none 0 0, .slice none 0 0]
/-- The bytes of a header's options; what a packet's segment is refused with (0: nothing). -/
def hop (zs : List Int) : List Int := (zs.drop 20).take ((thd zs).toNat - 20)
def pte (proto src dst : Int) (zs : List Int) : Int := if ptc proto src dst zs ≠ 0 then ptc proto src dst zs else if (opts (hop zs)).isNone then 4 else 0
theorem ptc_zero {proto src dst : Int} {zs : List Int} (h : ptc proto src dst zs = 0) : proto = 6 ∧ 20 ≤ zs.length ∧ 20 ≤ thd zs ∧ thd zs ≤ zs.length ∧ zs[12]?.getD 0 % 16 = 0 ∧ Mt.cks (psd src dst 6 zs.length ++ zs) = 0 := by
  unfold ptc at h
  split at h
  · omega
  split at h
  · omega
  split at h
  · omega
  split at h
  · omega
  split at h
  · omega
  · omega
theorem thd_le {zs : List Int} (hB : Mt.By zs) : thd zs ≤ 60 := by have := hB.at 12; unfold thd; omega
theorem OwO.later {base : Nat} {A B : World} {v : Value} {os : List Opt} (h : OwO base A v os) (l : Later A B) : OwO base B v os := h.ck (CK.of l)

/-- An operation whose value is given. -/
theorem wpList_valD {P : Program} {ops : Array Oper} {rest : List Oper} {o : Oper} {a : Act} {Q : Exit → Act → World → Prop} {w : World} (k : Nat) (hd : o.dst = some k) (hg : o.guard = none) (v : Value) (h : (execOp a.eval o).run P w = .ok (.value v) w)
    (hk : wpList P ops Q rest (a.put o.dst v) w) : wpList P ops Q (o :: rest) a w := wpList_plain hg fun K hK => by unfold Oper.wp; rw [h]; exact hK _ _ hk

set_option maxHeartbeats 4000000 in
theorem parseTcp_any (tos id ttl proto src dst : Int) (keep : Bool) (so sd : Value) (zs : List Int) (w : World) (hB : Mt.By zs) (hI : Rd w.heap.size w sd zs) (hl : 12 + zs.length ≤ 140737488355328) (hsr : 0 ≤ src ∧ src ≤ 4294967295) (hds : 0 ≤ dst ∧ dst ≤ 4294967295) :
    Calls Try.prog 7 #[.agg #[.int .u8 tos, .int .u16 id, .bool keep, .int .u8 ttl, .int .u8 proto, .int .u32 src, .int .u32 dst, so, sd]] w fun e w' => Below w.heap.size w w' ∧ ((pte proto src dst zs ≠ 0 ∧ e = .returned (.tuple #[.agg zsg.toArray, .int .i64 (pte proto src dst zs)])) ∨
      (pte proto src dst zs = 0 ∧ ∃ os aO cO ad cd, opts (hop zs) = some os ∧ e = .returned (.tuple #[.agg #[.int .u16 (wat zs 0), .int .u16 (wat zs 2), .int .u32 (wat4 zs 4), .int .u32 (wat4 zs 8), .int .u8 (zs[13]?.getD 0), .int .u16 (wat zs 14), .int .u16 (wat zs 18), .slice aO os.length cO, .slice ad (zs.length - (thd zs).toNat) cd], .int .i64 0]) ∧ OwO w.heap.size w' (.slice aO os.length cO) os ∧ Ow w.heap.size w' (.slice ad (zs.length - (thd zs).toNat) cd) (zs.drop (thd zs).toNat))) := by
  obtain ⟨ad, cd, rfl, hl1, hm1⟩ := hI.slice
  have hb0 : Below w.heap.size w ((w.alloc (.cells #[.int .u8 tos, .int .u16 id, .bool keep, .int .u8 ttl, .int .u8 proto, .int .u32 src, .int .u32 dst, so, .slice ad zs.length cd] 26)).alloc (.cells zsg.toArray 29)) := ((Below.refl _ _).alloc (Nat.le_refl _) _).alloc (by simp) _
  have p0 : ((w.alloc (.cells #[.int .u8 tos, .int .u16 id, .bool keep, .int .u8 ttl, .int .u8 proto, .int .u32 src, .int .u32 dst, so, .slice ad zs.length cd] 26)).alloc (.cells zsg.toArray 29)).heap[w.heap.size]? = some (.cells #[.int .u8 tos, .int .u16 id, .bool keep, .int .u8 ttl, .int .u8 proto, .int .u32 src, .int .u32 dst, so, .slice ad zs.length cd] 26) := (Below.heap_alloc _ _ _ (by simp)).trans (heap_alloc_new w _)
  have r0 : ((w.alloc (.cells #[.int .u8 tos, .int .u16 id, .bool keep, .int .u8 ttl, .int .u8 proto, .int .u32 src, .int .u32 dst, so, .slice ad zs.length cd] 26)).alloc (.cells zsg.toArray 29)).heap[w.heap.size + 1]? = some (.cells zsg.toArray 29 (0, 0)) := by have := heap_alloc_new (w.alloc (.cells #[.int .u8 tos, .int .u16 id, .bool keep, .int .u8 ttl, .int .u8 proto, .int .u32 src, .int .u32 dst, so, .slice ad zs.length cd] 26)) (.cells zsg.toArray 29); simpa using this
  have hs0 : ((w.alloc (.cells #[.int .u8 tos, .int .u16 id, .bool keep, .int .u8 ttl, .int .u8 proto, .int .u32 src, .int .u32 dst, so, .slice ad zs.length cd] 26)).alloc (.cells zsg.toArray 29)).heap.size = w.heap.size + 1 + 1 := by simp
  have P0 := hide p0
  have R0 := hide r0
  have HS := hide hs0
  clear p0 r0 hs0
  go_enter Try.func7, Try.ntmps7
  go_wp2_with fail
  generalize (w.alloc (.cells #[.int .u8 tos, .int .u16 id, .bool keep, .int .u8 ttl, .int .u8 proto, .int .u32 src, .int .u32 dst, so, .slice ad zs.length cd] 26)).alloc (.cells zsg.toArray 29) = W0 at *
  refine (tcpHead_any tos id ttl proto src dst keep _ _ zs W0 hB ((hI.below hb0).mono hb0.size) hl hsr hds).mono ?_
  rintro e w1 ⟨hb1, ⟨hf, rfl⟩ | ⟨hf, rfl⟩⟩
  · have r1 := later_keep hb1 R0.out
    have hw1 := hb0.trans (hb1.mono hb0.size)
    have t1 : (ptc proto src dst zs != 0) = true := by simp [hf]
    have HF : Hid (pte proto src dst zs = ptc proto src dst zs) := by show _ = _; unfold pte; rw [if_pos hf]
    have HN := hide hf
    clear hf
    have R1 := block_cell r1
    have F1 := block_frozen r1
    go_wp2_with fail
    generalize hV : ((((((((w1.setCell ⟨w.heap.size + 1, 0, none⟩ _).setCell ⟨w.heap.size + 1, 1, none⟩ _).setCell ⟨w.heap.size + 1, 2, none⟩ _).setCell ⟨w.heap.size + 1, 3, none⟩ _).setCell ⟨w.heap.size + 1, 4, none⟩ _).setCell ⟨w.heap.size + 1, 5, none⟩ _).setCell ⟨w.heap.size + 1, 6, none⟩ _).setCell ⟨w.heap.size + 1, 7, none⟩ _).setCell ⟨w.heap.size + 1, 8, none⟩ _ = V8
    have hV9 : V8 = putRow w1 (w.heap.size + 1) 0 zsg := hV.symm
    have hb8 : But (fun b => b = w.heap.size + 1) w1 V8 := by rw [hV9]; exact putRow_but (E := fun b => b = w.heap.size + 1) (n := w.heap.size + 1) rfl _ _ _ _ (But.refl _ _)
    have p8 := putRow_all zsg r1 rfl
    rw [← hV9] at p8
    clear hV hV9
    have P8 := block_cell p8
    have hw8 : Below w.heap.size w V8 := (hw1).trans (hb8.below (hw1).size (fun k h e => by omega))
    exact bodyPost_ret (v := .tuple #[.agg zsg.toArray, .int .i64 (ptc proto src dst zs)]) (by simp [results, Try.results7, go_sem, P8]) rfl (⟨hw8, .inl ⟨by rw [HF.out]; exact HN.out, by rw [HF.out]⟩⟩)
  · have r1 := later_keep hb1 R0.out
    have p1 := later_keep hb1 P0.out
    have hw1 := hb0.trans (hb1.mono hb0.size)
    have hs1 : w.heap.size + 1 + 1 ≤ w1.heap.size := by have := hb1.size; have := HS.out; omega
    obtain ⟨z1, z2, z3, z4, z5, z6⟩ := ptc_zero hf
    have z7 := thd_le hB
    have HPT : Hid (pte proto src dst zs = if (opts (hop zs)).isNone then 4 else 0) := by show _ = _; unfold pte; rw [if_neg (by simp [hf])]
    have HPC := hide hf
    have HZ6 := hide z6
    clear hf z1 z5 z6 hb1 hb0 P0 R0 HS
    obtain ⟨tm, hh⟩ : ∃ tm : Nat, thd zs = (tm : Int) := ⟨(thd zs).toNat, by omega⟩
    have HHOP : Hid (hop zs = (zs.drop 20).take (tm - 20)) := by show _ = _; unfold hop; rw [hh]; simp
    have HTO : Hid ((thd zs).toNat = tm) := by show _ = _; rw [hh]; simp
    rw [hh] at z3 z4 z7 ⊢
    have HH := hide hh
    clear hh
    obtain ⟨b, off, cap, e0, hlc, hmc, hbb, hcs⟩ := hI.cells (by omega)
    have hcl := e0
    simp at hcl
    obtain ⟨rfl, rfl⟩ := hcl
    have d13 := hcs 13 (by omega)
    clear e0 hcs
    have K1 := block_cell p1
    have i20 : (20 : Int) ≤ tm := by omega
    have ihl : (tm : Int) ≤ zs.length := by omega
    have ilc : (zs.length : Int) ≤ cd := by omega
    have hs20 := ((hI.below hw1).cutAt 20 (by omega)).take (tm - 20) (by omega)
    obtain ⟨a20, hA20⟩ : ∃ a20, (if cd = 20 then some (⟨b, off, none⟩ : Addr) else some ⟨b, off + 20, none⟩) = a20 := ⟨_, rfl⟩
    rw [hA20] at hs20
    have HA20 := hide hA20
    have HS20 := hide hs20
    clear hs20 hA20
    go_wp2_with (refine wpList_valD 23 rfl rfl (.slice a20 (tm - 20) (cd - 20)) (by rw [← HA20.out]; go_simp; split <;> first | rfl | (intro _; omega)) ?_)
    have hBh : Mt.By ((zs.drop 20).take (tm - 20)) := (hB.drop 20).take _
    have hlh : ((zs.drop 20).take (tm - 20)).length = tm - 20 := by simp; omega
    refine (readOptions_any _ ((zs.drop 20).take (tm - 20)) hBh (by omega) w1 (HS20.out.mono hw1.size)).mono ?_
    clear HS20 HA20 K1
    rintro e w2 ⟨hb2, ⟨ho, rfl⟩ | ⟨os, vO, ho, rfl, hOO⟩⟩
    · have r2 := later_keep hb2 r1
      have hw2 := hw1.trans (hb2.mono hw1.size)
      have HF : Hid (pte proto src dst zs = 4) := by show _ = _; rw [HPT.out, HHOP.out, ho]; rfl
      clear ho
      have R1 := block_cell r2
      have F1 := block_frozen r2
      go_wp2_with fail
      generalize hV : ((((((((w2.setCell ⟨w.heap.size + 1, 0, none⟩ _).setCell ⟨w.heap.size + 1, 1, none⟩ _).setCell ⟨w.heap.size + 1, 2, none⟩ _).setCell ⟨w.heap.size + 1, 3, none⟩ _).setCell ⟨w.heap.size + 1, 4, none⟩ _).setCell ⟨w.heap.size + 1, 5, none⟩ _).setCell ⟨w.heap.size + 1, 6, none⟩ _).setCell ⟨w.heap.size + 1, 7, none⟩ _).setCell ⟨w.heap.size + 1, 8, none⟩ _ = V8
      have hV9 : V8 = putRow w2 (w.heap.size + 1) 0 zsg := hV.symm
      have hb8 : But (fun b => b = w.heap.size + 1) w2 V8 := by rw [hV9]; exact putRow_but (E := fun b => b = w.heap.size + 1) (n := w.heap.size + 1) rfl _ _ _ _ (But.refl _ _)
      have p8 := putRow_all zsg r2 rfl
      rw [← hV9] at p8
      clear hV hV9
      have P8 := block_cell p8
      have hw8 : Below w.heap.size w V8 := (hw2).trans (hb8.below (hw2).size (fun k h e => by omega))
      exact bodyPost_ret (v := .tuple #[.agg zsg.toArray, .int .i64 4]) (by simp [results, Try.results7, go_sem, P8]) rfl (⟨hw8, .inl ⟨by rw [HF.out]; decide, by rw [HF.out]⟩⟩)
    · have r2 := later_keep hb2 r1
      have hw2 := hw1.trans (hb2.mono hw1.size)
      have hs2' : w.heap.size + 1 + 1 ≤ w2.heap.size := by have := hb2.size; omega
      have HF : Hid (pte proto src dst zs = 0) := by show _ = _; rw [HPT.out, HHOP.out, ho]; rfl
      have HO : Hid (opts (hop zs) = some os) := by show _ = _; rw [HHOP.out]; exact ho
      obtain ⟨aO, cO, rfl, _, _⟩ := hOO.slice
      have hOO' := hOO.mono (base' := w.heap.size + 1 + 1) hs1
      clear ho hOO hb2 r1 p1 hw1 hBh hlh
      generalize hx13 : zs[13]?.getD 0 = x13 at d13
      have HX13 := hide hx13
      clear hx13
      go_wp2_with fail
      obtain ⟨Φ, HΦ⟩ : ∃ Φ : Array Value → World → Prop, Hid (Φ = (fun arr W => ∃ aO cO ad cd, arr = #[.int .u16 (wat zs 0), .int .u16 (wat zs 2), .int .u32 (wat4 zs 4), .int .u32 (wat4 zs 8), .int .u8 x13, .int .u16 (wat zs 14), .int .u16 (wat zs 18), .slice aO os.length cO, .slice ad (zs.length - tm) cd] ∧ OwO (w.heap.size + 1 + 1) W (.slice aO os.length cO) os ∧ Ow (w.heap.size + 1 + 1) W (.slice ad (zs.length - tm) cd) (zs.drop tm))) := ⟨_, rfl⟩
      have hΦ : Stays Φ := by
        rw [HΦ.out]
        rintro arr A B l ⟨aO, cO, ad, cd, h1, h2, h3⟩
        exact ⟨aO, cO, ad, cd, h1, h2.later l, h3.later l⟩
      refine anyR_begin (R := KR (w.heap.size + 1) 9 29 Φ) (Keep.pre _ _ _) (fun w => KR.of hΦ (Later.drew w)) 23 rfl (by kernel_rfl) (fun W1 hW1 => ?_)
      have hg1 : Wr (w.heap.size + 1) 9 29 W1 := hW1.2.1 ⟨_, r2, rfl⟩
      have hbut : ∀ v1, KR (w.heap.size + 1) 9 29 Φ W1 v1 → But (fun b => b = w.heap.size + 1) w2 v1 := fun v1 h => hW1.1.trans h.1
      have hbel : ∀ v1, KR (w.heap.size + 1) 9 29 Φ W1 v1 → Below w.heap.size w v1 := fun v1 h => hw2.trans ((hbut v1 h).below (by omega) (fun k h e => by omega))
      have q13 : ∀ v1, KR (w.heap.size + 1) 9 29 Φ W1 v1 → v1.cell? ⟨b, off + 13, none⟩ = some (.int .u8 x13) := fun v1 h => ((hbel v1 h).cell (p := ⟨b, off + 13, none⟩) hbb).trans d13
      have hr : ∀ v1, KR (w.heap.size + 1) 9 29 Φ W1 v1 → Rd w.heap.size v1 (.slice (some ⟨b, off, none⟩) zs.length cd) zs := fun v1 h => hI.below (hbel v1 h)
      have i13 : (13 : Int) < zs.length := by omega
      have hOO2 : ∀ v1, KR (w.heap.size + 1) 9 29 Φ W1 v1 → OwO (w.heap.size + 1 + 1) v1 (.slice aO os.length cO) os := fun v1 h => hOO'.but (hbut v1 h) (fun b h e => by omega)
      clear d13
      refine anyR_val (Keep.pre _ _ _) 0 rfl (by kernel_rfl) (by kernel_rfl) (by kernel_rfl) (fun _ _ _ _ h => h) rfl ?_; apply Exists.intro; refine ⟨fun w1 hw1 => ?_, ?_⟩; (· (go_simp; rfl)); simp only [Act.put, List.setIfInBounds_toArray, List.set_cons_zero, List.set_cons_succ]
      refine anyR_take (Keep.pre _ _ _) 1 (.int .u16 (wat zs 0)) rfl (by kernel_rfl) (by kernel_rfl) (by kernel_rfl) (fun _ _ _ h => h) rfl (fun v1 hv1 => goes_call 22 #[.slice (some ⟨b, off, none⟩) zs.length cd, .int .i64 0] (by go_simp) ?_) ?_
      · exact (get16_rd _ zs hB 0 (by omega) v1 (hr v1 hv1)).mono fun e w' ⟨he, q, hw⟩ => ⟨he, KR.of hΦ (by rw [hw]; exact below_draw (Later.refl v1) q)⟩
      simp only [Act.put, List.setIfInBounds_toArray, List.set_cons_zero, List.set_cons_succ]
      refine anyR_val (Keep.pre _ _ _) 2 rfl (by kernel_rfl) (by kernel_rfl) (by kernel_rfl) (fun _ _ _ _ h => h) rfl ?_; apply Exists.intro; refine ⟨fun w1 hw1 => ?_, ?_⟩; (· (go_simp; rfl)); simp only [Act.put, List.setIfInBounds_toArray, List.set_cons_zero, List.set_cons_succ]
      refine anyR_take (Keep.pre _ _ _) 3 (.int .u16 (wat zs 2)) rfl (by kernel_rfl) (by kernel_rfl) (by kernel_rfl) (fun _ _ _ h => h) rfl (fun v1 hv1 => goes_call 22 #[.slice (some ⟨b, off, none⟩) zs.length cd, .int .i64 2] (by go_simp) ?_) ?_
      · exact (get16_rd _ zs hB 2 (by omega) v1 (hr v1 hv1)).mono fun e w' ⟨he, q, hw⟩ => ⟨he, KR.of hΦ (by rw [hw]; exact below_draw (Later.refl v1) q)⟩
      simp only [Act.put, List.setIfInBounds_toArray, List.set_cons_zero, List.set_cons_succ]
      refine anyR_val (Keep.pre _ _ _) 4 rfl (by kernel_rfl) (by kernel_rfl) (by kernel_rfl) (fun _ _ _ _ h => h) rfl ?_; apply Exists.intro; refine ⟨fun w1 hw1 => ?_, ?_⟩; (· (go_simp; rfl)); simp only [Act.put, List.setIfInBounds_toArray, List.set_cons_zero, List.set_cons_succ]
      refine anyR_take (Keep.pre _ _ _) 5 (.int .u32 (wat4 zs 4)) rfl (by kernel_rfl) (by kernel_rfl) (by kernel_rfl) (fun _ _ _ h => h) rfl (fun v1 hv1 => goes_call 23 #[.slice (some ⟨b, off, none⟩) zs.length cd, .int .i64 4] (by go_simp) ?_) ?_
      · exact (get32_rd _ zs hB 4 (by omega) v1 (hr v1 hv1)).mono fun e w' ⟨he, q, hw⟩ => ⟨he, KR.of hΦ (by rw [hw]; exact below_draw (Later.refl v1) q)⟩
      simp only [Act.put, List.setIfInBounds_toArray, List.set_cons_zero, List.set_cons_succ]
      refine anyR_val (Keep.pre _ _ _) 6 rfl (by kernel_rfl) (by kernel_rfl) (by kernel_rfl) (fun _ _ _ _ h => h) rfl ?_; apply Exists.intro; refine ⟨fun w1 hw1 => ?_, ?_⟩; (· (go_simp; rfl)); simp only [Act.put, List.setIfInBounds_toArray, List.set_cons_zero, List.set_cons_succ]
      refine anyR_take (Keep.pre _ _ _) 7 (.int .u32 (wat4 zs 8)) rfl (by kernel_rfl) (by kernel_rfl) (by kernel_rfl) (fun _ _ _ h => h) rfl (fun v1 hv1 => goes_call 23 #[.slice (some ⟨b, off, none⟩) zs.length cd, .int .i64 8] (by go_simp) ?_) ?_
      · exact (get32_rd _ zs hB 8 (by omega) v1 (hr v1 hv1)).mono fun e w' ⟨he, q, hw⟩ => ⟨he, KR.of hΦ (by rw [hw]; exact below_draw (Later.refl v1) q)⟩
      simp only [Act.put, List.setIfInBounds_toArray, List.set_cons_zero, List.set_cons_succ]
      refine anyR_val (Keep.pre _ _ _) 8 rfl (by kernel_rfl) (by kernel_rfl) (by kernel_rfl) (fun _ _ _ _ h => h) rfl ?_; apply Exists.intro; refine ⟨fun w1 hw1 => ?_, ?_⟩; (· (go_simp; rfl)); simp only [Act.put, List.setIfInBounds_toArray, List.set_cons_zero, List.set_cons_succ]
      refine anyR_val (Keep.pre _ _ _) 9 rfl (by kernel_rfl) (by kernel_rfl) (by kernel_rfl) (fun _ _ _ _ h => h) rfl ?_; apply Exists.intro; refine ⟨fun w1 hw1 => ?_, ?_⟩; (· (go_simp; rfl)); simp only [Act.put, List.setIfInBounds_toArray, List.set_cons_zero, List.set_cons_succ]
      refine anyR_val (Keep.pre _ _ _) 10 rfl (by kernel_rfl) (by kernel_rfl) (by kernel_rfl) (fun _ _ _ _ h => h) rfl ?_; apply Exists.intro; refine ⟨fun w1 hw1 => ?_, ?_⟩; (· (go_simp; rfl)); simp only [Act.put, List.setIfInBounds_toArray, List.set_cons_zero, List.set_cons_succ]
      refine anyR_val (Keep.pre _ _ _) 11 rfl (by kernel_rfl) (by kernel_rfl) (by kernel_rfl) (fun _ _ _ _ h => h) rfl ?_; apply Exists.intro; refine ⟨fun w1 hw1 => ?_, ?_⟩; (· (go_simp; rfl)); simp only [Act.put, List.setIfInBounds_toArray, List.set_cons_zero, List.set_cons_succ]
      refine anyR_take (Keep.pre _ _ _) 12 (.int .u16 (wat zs 14)) rfl (by kernel_rfl) (by kernel_rfl) (by kernel_rfl) (fun _ _ _ h => h) rfl (fun v1 hv1 => goes_call 22 #[.slice (some ⟨b, off, none⟩) zs.length cd, .int .i64 14] (by go_simp) ?_) ?_
      · exact (get16_rd _ zs hB 14 (by omega) v1 (hr v1 hv1)).mono fun e w' ⟨he, q, hw⟩ => ⟨he, KR.of hΦ (by rw [hw]; exact below_draw (Later.refl v1) q)⟩
      simp only [Act.put, List.setIfInBounds_toArray, List.set_cons_zero, List.set_cons_succ]
      refine anyR_val (Keep.pre _ _ _) 13 rfl (by kernel_rfl) (by kernel_rfl) (by kernel_rfl) (fun _ _ _ _ h => h) rfl ?_; apply Exists.intro; refine ⟨fun w1 hw1 => ?_, ?_⟩; (· (go_simp; rfl)); simp only [Act.put, List.setIfInBounds_toArray, List.set_cons_zero, List.set_cons_succ]
      refine anyR_take (Keep.pre _ _ _) 14 (.int .u16 (wat zs 18)) rfl (by kernel_rfl) (by kernel_rfl) (by kernel_rfl) (fun _ _ _ h => h) rfl (fun v1 hv1 => goes_call 22 #[.slice (some ⟨b, off, none⟩) zs.length cd, .int .i64 18] (by go_simp) ?_) ?_
      · exact (get16_rd _ zs hB 18 (by omega) v1 (hr v1 hv1)).mono fun e w' ⟨he, q, hw⟩ => ⟨he, KR.of hΦ (by rw [hw]; exact below_draw (Later.refl v1) q)⟩
      simp only [Act.put, List.setIfInBounds_toArray, List.set_cons_zero, List.set_cons_succ]
      refine anyR_val (Keep.pre _ _ _) 15 rfl (by kernel_rfl) (by kernel_rfl) (by kernel_rfl) (fun _ _ _ _ h => h) rfl ?_; apply Exists.intro; refine ⟨fun w1 hw1 => ?_, ?_⟩; (· (go_simp; rfl)); simp only [Act.put, List.setIfInBounds_toArray, List.set_cons_zero, List.set_cons_succ]
      refine anyR_val (Keep.pre _ _ _) 16 rfl (by kernel_rfl) (by kernel_rfl) (by kernel_rfl) (fun _ _ _ _ h => h) rfl ?_; apply Exists.intro; refine ⟨fun w1 hw1 => ?_, ?_⟩; (· (go_simp; rfl)); simp only [Act.put, List.setIfInBounds_toArray, List.set_cons_zero, List.set_cons_succ]
      refine anyR_val (Keep.pre _ _ _) 17 rfl (by kernel_rfl) (by kernel_rfl) (by kernel_rfl) (fun _ _ _ _ h => h) rfl ?_; apply Exists.intro; refine ⟨fun w1 hw1 => ?_, ?_⟩; (· (go_simp; rfl)); simp only [Act.put, List.setIfInBounds_toArray, List.set_cons_zero, List.set_cons_succ]
      refine anyR_val (Keep.pre _ _ _) 18 rfl (by kernel_rfl) (by kernel_rfl) (by kernel_rfl) (fun _ _ _ _ h => h) rfl ?_; apply Exists.intro; refine ⟨fun w1 hw1 => ?_, ?_⟩; (· (go_simp; rfl)); simp only [Act.put, List.setIfInBounds_toArray, List.set_cons_zero, List.set_cons_succ]
      have hs8 : ∀ v1, KR (w.heap.size + 1) 9 29 Φ W1 v1 → Rd w.heap.size v1 (.slice (if cd = tm then some (⟨b, off, none⟩ : Addr) else some ⟨b, off + tm, none⟩) (zs.length - tm) (cd - tm)) (zs.drop tm) := fun v1 h => (hr v1 h).cutAt tm (by omega)
      generalize (if cd = tm then some (⟨b, off, none⟩ : Addr) else some ⟨b, off + tm, none⟩) = adh at *
      refine anyR_one 19 rfl (by kernel_rfl) rfl (fun W2 hW2 => ?_)
      refine wp_enter 24 #[.slice adh (zs.length - tm) (cd - tm)] (by go_simp) ?_
      refine (cloneb_any _ (zs.drop tm) W2 (by simp; omega) ((hs8 W2 hW2).mono (hbel W2 hW2).size)).mono ?_
      rw [List.length_drop]
      rintro e W5 ⟨a5, c5, rfl, hO5, hb5⟩
      have hW15 := hW2.trans (KR.of hΦ hb5)
      have hs2 : w.heap.size + 1 + 1 ≤ W2.heap.size := Nat.le_trans hs2' (hbut W2 hW2).size
      refine ⟨KR.of hΦ hb5, ?_⟩
      simp only [Act.put, List.setIfInBounds_toArray, List.set_cons_zero, List.set_cons_succ]
      refine anyR_val (Keep.pre _ _ _) 20 rfl (by kernel_rfl) (by kernel_rfl) (by kernel_rfl) (fun _ _ _ _ h => h) rfl ?_; apply Exists.intro; refine ⟨fun w1 hw1 => ?_, ?_⟩; (· (go_simp; rfl)); simp only [Act.put, List.setIfInBounds_toArray, List.set_cons_zero, List.set_cons_succ]
      refine anyR_one 21 rfl (by kernel_rfl) rfl (fun W6 hW6 => ?_)
      have hW16 := hW15.trans hW6
      have hg6 := hW16.2.1 hg1
      have hg6' := hg6
      obtain ⟨cur, hcur, hsz⟩ := hg6'
      have k6 : ∀ j, W6.cell? ⟨w.heap.size + 1, j, none⟩ = cur[j]? := block_cell hcur
      have f6 : ∀ j, W6.frozen? ⟨w.heap.size + 1, j, none⟩ = false := block_frozen hcur
      unfold Oper.wp
      go_simp
      generalize hV7 : ((((((((W6.setCell ⟨w.heap.size + 1, 0, none⟩ _).setCell ⟨w.heap.size + 1, 1, none⟩ _).setCell ⟨w.heap.size + 1, 2, none⟩ _).setCell ⟨w.heap.size + 1, 3, none⟩ _).setCell ⟨w.heap.size + 1, 4, none⟩ _).setCell ⟨w.heap.size + 1, 5, none⟩ _).setCell ⟨w.heap.size + 1, 6, none⟩ _).setCell ⟨w.heap.size + 1, 7, none⟩ _).setCell ⟨w.heap.size + 1, 8, none⟩ _ = V7
      have hV8 : V7 = putRow W6 (w.heap.size + 1) 0 [.int .u16 (wat zs 0), .int .u16 (wat zs 2), .int .u32 (wat4 zs 4), .int .u32 (wat4 zs 8), .int .u8 x13, .int .u16 (wat zs 14), .int .u16 (wat zs 18), .slice aO os.length cO, .slice a5 (zs.length - tm) c5] := hV7.symm
      have hSt := KR.store (Φ := Φ) [.int .u16 (wat zs 0), .int .u16 (wat zs 2), .int .u32 (wat4 zs 4), .int .u32 (wat4 zs 8), .int .u8 x13, .int .u16 (wat zs 14), .int .u16 (wat zs 18), .slice aO os.length cO, .slice a5 (zs.length - tm) c5] hg6 rfl (by rw [HΦ.out]; exact ⟨aO, cO, a5, c5, rfl, (((hOO2 W6 hW16)).but (putRow_rb (rb := w.heap.size + 1) _ _) (fun b h e => by omega)), ((hO5.but hW6.1 (fun b h e => by omega)).but (putRow_rb (rb := w.heap.size + 1) _ _) (fun b h e => by omega)).mono hs2⟩)
      rw [← hV8] at hSt
      clear hV7 hV8 k6 f6
      refine ⟨hSt.1, ?_⟩
      refine anyR_val (Keep.pre _ _ _) 22 rfl (by kernel_rfl) (by kernel_rfl) (by kernel_rfl) (fun _ _ _ _ h => h) rfl ?_; apply Exists.intro; refine ⟨fun w1 hw1 => ?_, ?_⟩; (· (go_simp; rfl)); simp only [Act.put, List.setIfInBounds_toArray, List.set_cons_zero, List.set_cons_succ]
      refine anyR_done (by kernel_rfl) (fun W8 hW8 => ?_)
      obtain ⟨arr, hh8, hP8⟩ := hW8.2.2 hSt.2
      have hw8 := hbel W8 ((hW16.trans hSt.1).trans hW8)
      clear hSt hr hs8 hbut q13 hOO2
      rw [HΦ.out] at hP8
      obtain ⟨aO8, cO8, ad8', cd8, rfl, hOO8, hO8⟩ := hP8
      have r8 := block_cell hh8
      go_wp2_with fail
      exact bodyPost_ret (v := .tuple #[.agg #[.int .u16 (wat zs 0), .int .u16 (wat zs 2), .int .u32 (wat4 zs 4), .int .u32 (wat4 zs 8), .int .u8 x13, .int .u16 (wat zs 14), .int .u16 (wat zs 18), .slice aO8 os.length cO8, .slice ad8' (zs.length - tm) cd8], .int .i64 0]) (by simp [results, Try.results7, go_sem, r8]) rfl ⟨hw8, .inr ⟨HF.out, os, aO8, cO8, ad8', cd8, HO.out, by rw [HTO.out, HX13.out], hOO8.mono (by omega), by rw [HTO.out]; exact hO8.mono (by omega)⟩⟩
end Go.Proofs.Ytclkfmdlgffbeaa
