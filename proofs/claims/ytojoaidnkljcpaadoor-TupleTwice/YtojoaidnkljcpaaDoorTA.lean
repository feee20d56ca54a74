/- Package segs: the document's answer for a packet's datagram. -/
import Derived.Test.YtojoaidnkljcpaaDoorSF
import Derived.Test.YtojoaidnkljcpaaDoorRx
namespace Go.Proofs.YtojoaidnkljcpaaDoor
open Go.RowKit Go.Shelf
set_option maxRecDepth 100000
set_option linter.unusedVariables false
set_option linter.unusedSimpArgs false

set_option maxHeartbeats 1000000 in
theorem rpseudo_row (s d p n : Int) (hs : 0 ≤ s ∧ s ≤ 4294967295) (hd : 0 ≤ d ∧ d ≤ 4294967295) (w : World) :
    Calls Tryd.prog 63 #[.int .u32 s, .int .u32 d, .int .u8 p, .int .i64 n] w fun e w' => ∃ v, e = .returned v ∧ w'.ownsRow w.heap.size 5 1 v (psd s d p n).length ((psd s d p n).map (Value.int .u8)) ∧ Below w.heap.size w w' := by
  obtain ⟨i0, hi, hz0, hz1, hz2⟩ := info_parts info_u8
  have hn0 : 0 ≤ n % 65536 ∧ n % 65536 ≤ 65535 := by omega
  go_enter Tryd.func63, Tryd.ntmps63
  go_wp2_with fail
  refine (four_any s hs _).mono ?_
  rintro e w1 ⟨rfl, rfl⟩
  have hR1 := Rd.new4 (s / 16777216) (s / 65536 % 256) (s / 256 % 256) (s % 256) 5 w
  have hb1 : Below w.heap.size w (w.alloc (.cells #[.int .u8 (s / 16777216), .int .u8 (s / 65536 % 256), .int .u8 (s / 256 % 256), .int .u8 (s % 256)] 5)) := (Below.refl _ w).alloc (Nat.le_refl _) _
  go_wp2_with (at_builtin; refine wpList_app _ rfl (.tmp 10) (.tmp 12) 24 rfl w.heap.size 5 i0 Tryd.underlying24 hi hz0 hz1 hz2 _ [] rfl (World.ownsRow_nil _ _ _ _) (w.heap.size + 1) _ [s / 16777216, s / 65536 % 256, s / 256 % 256, s % 256] rfl hR1 (by simp) (by simp) ?_; intro v2 w2 hown2 hg2; have hb2 := hb1.grown hg2 (by simp) (fun k e => by cases e); clear hg2 hb1 hR1)
  simp only [List.nil_append] at hown2
  generalize hl2 : [s / 16777216, s / 65536 % 256, s / 256 % 256, s % 256] = l2 at *
  have hn2 : l2.length = 4 := by rw [← hl2]; rfl
  have HL2 := hide hl2
  clear hl2
  refine (four_any d hd _).mono ?_
  rintro e w3 ⟨rfl, rfl⟩
  have hR3 := Rd.new4 (d / 16777216) (d / 65536 % 256) (d / 256 % 256) (d % 256) 5 w2
  have hb3 := hb2.alloc hb2.size (.cells #[.int .u8 (d / 16777216), .int .u8 (d / 65536 % 256), .int .u8 (d / 256 % 256), .int .u8 (d % 256)] 5)
  go_wp2_with (first
    | (at_builtin; refine wpList_app _ rfl (.tmp 14) (.tmp 16) 24 rfl w.heap.size 5 i0 Tryd.underlying24 hi hz0 hz1 hz2 _ l2 rfl (hown2.alloc _) (w2.heap.size + 1) _ [d / 16777216, d / 65536 % 256, d / 256 % 256, d % 256] rfl hR3 (by simp; omega) hb3.size ?_; intro v4 w4 hown4 hg4; have hb4 := below_app hb3 (hown2.alloc _) hg4 (Nat.le_refl _) hb3.size; clear hg4 hb3 hR3; have hR5 := Rd.new2 0 p 5 w4; have hb5 := hb4.alloc hb4.size (.cells #[.int .u8 0, .int .u8 p] 5))
    | (at_builtin; refine wpList_app _ rfl (.tmp 18) (.tmp 20) 24 rfl w.heap.size 5 i0 Tryd.underlying24 hi hz0 hz1 hz2 _ (l2 ++ [d / 16777216, d / 65536 % 256, d / 256 % 256, d % 256]) rfl (hown4.alloc _) (w4.heap.size + 1) _ [0, p] rfl hR5 (by simp; omega) hb5.size ?_; intro v6 w6 hown6 hg6; have hb6 := below_app hb5 (hown4.alloc _) hg6 (Nat.le_refl _) hb5.size; clear hg6 hb5 hR5))
  rw [IntKind.wrap_u16]
  have HM : Hid (n % 65536 / 256 = n / 256 % 256 ∧ n % 65536 % 256 = n % 256) := by show _ ∧ _; omega
  generalize n % 65536 = m at *
  refine (two_any m hn0 _).mono ?_
  rintro e w7 ⟨rfl, rfl⟩
  have hR7 := Rd.new2 (m / 256) (m % 256) 5 w6
  have hb7 := hb6.alloc hb6.size (.cells #[.int .u8 (m / 256), .int .u8 (m % 256)] 5)
  go_wp2_with (at_builtin; refine wpList_app _ rfl (.tmp 22) (.tmp 25) 24 rfl w.heap.size 5 i0 Tryd.underlying24 hi hz0 hz1 hz2 _ (l2 ++ [d / 16777216, d / 65536 % 256, d / 256 % 256, d % 256] ++ [0, p]) rfl (hown6.alloc _) (w6.heap.size + 1) _ [m / 256, m % 256] rfl hR7 (by simp; omega) hb7.size ?_; intro v8 w8 hown8 hg8; have hb8 := below_app hb7 (hown6.alloc _) hg8 (Nat.le_refl _) hb7.size; clear hg8 hb7 hR7)
  go_ret
  refine ⟨_, rfl, ?_, hb8⟩
  rw [← HL2.out, HM.out.1, HM.out.2] at hown8
  exact hown8


/-- An operation that leads to a given value and world. -/
theorem wpList_runD {P : Program} {ops : Array Oper} {rest : List Oper} {o : Oper} {a : Act} {Q : Exit → Act → World → Prop} {w : World} (k : Nat) (hd : o.dst = some k) (hg : o.guard = none) (v : Value) (w' : World) (h : (execOp a.eval o).run P w = .ok (.value v) w')
    (hk : wpList P ops Q rest (a.put o.dst v) w') : wpList P ops Q (o :: rest) a w := wpList_plain hg fun K hK => by unfold Oper.wp; rw [h]; exact hK _ _ hk

set_option maxHeartbeats 2000000 in
theorem rsum3_any (tos id ttl proto src dst pr : Int) (keep : Bool) (so sd sb : Value) (zs : List Int) (w : World) (hB : Mt.By zs) (hI : Rd w.heap.size w sb zs) (hl : 12 + zs.length ≤ 1099511627776) (hpr : 0 ≤ pr ∧ pr ≤ 255) (hsr : 0 ≤ src ∧ src ≤ 4294967295) (hds : 0 ≤ dst ∧ dst ≤ 4294967295) :
    Calls Tryd.prog 42 #[.agg #[.int .u8 tos, .int .u16 id, .bool keep, .int .u8 ttl, .int .u8 proto, .int .u32 src, .int .u32 dst, so, sd], .int .u8 pr, sb] w fun e w' => e = .returned (.int .u16 (Mt.cks (psd src dst pr zs.length ++ zs))) ∧ Below w.heap.size w w' := by
  obtain ⟨i0, hi, hz0, hz1, hz2⟩ := info_parts info_u8
  obtain ⟨ab, cb, rfl, hl1, hm1⟩ := hI.slice
  have hb0 : Below w.heap.size w (w.alloc (.cells #[.int .u8 tos, .int .u16 id, .bool keep, .int .u8 ttl, .int .u8 proto, .int .u32 src, .int .u32 dst, so, sd] 26)) := (Below.refl _ _).alloc (Nat.le_refl _) _
  have hBs := (By_psd src dst pr zs.length hsr hds hpr).append hB
  have hln : (psd src dst pr zs.length ++ zs).length = 12 + zs.length := by rw [List.length_append, psd_length]
  have HBS := hide hBs
  have HLN := hide hln
  clear hBs hln
  go_enter Tryd.func42, Tryd.ntmps42
  go_wp2_with fail
  generalize w.alloc (.cells #[.int .u8 tos, .int .u16 id, .bool keep, .int .u8 ttl, .int .u8 proto, .int .u32 src, .int .u32 dst, so, sd] 26) = W0 at *
  refine (rpseudo_row src dst pr zs.length hsr hds W0).mono ?_
  rintro e w2 ⟨v2, rfl, hO2, hb2⟩
  have hw2 := hb0.trans (hb2.mono hb0.size)
  obtain ⟨a2, c2, rfl, _, _⟩ := (Ow.of_row hO2).slice
  have hI2 := hI.below hw2
  go_wp2_with (at_builtin; refine wpList_app _ rfl (.tmp 14) (.tmp 15) 24 rfl W0.heap.size 5 i0 Tryd.underlying24 hi hz0 hz1 hz2 _ (psd src dst pr zs.length) rfl hO2 w.heap.size _ zs rfl hI2 (by rw [psd_length]; omega) hb2.size ?_; intro v3 w3 hO3 hg3; have hw3 := below_app hw2 hO2 hg3 hb0.size hw2.size; clear hg3)
  have hO3' := Ow.of_row hO3
  clear hO2 hO3
  refine (rsum_any _ _ HBS.out (by rw [HLN.out]; exact hl) w3 hO3'.rd).mono ?_
  rintro e w4 ⟨rfl, hb4⟩
  have hw4 := hw3.trans (hb4.mono hw3.size)
  go_wp2_with fail
  go_ret
  exact ⟨rfl, hw4⟩

set_option maxHeartbeats 4000000 in
theorem rparseUdp_any (tos id ttl proto src dst : Int) (keep : Bool) (so sd : Value) (zs : List Int) (w : World) (hB : Mt.By zs) (hI : Rd w.heap.size w sd zs) (hl : 12 + zs.length ≤ 140737488355328) (hsr : 0 ≤ src ∧ src ≤ 4294967295) (hds : 0 ≤ dst ∧ dst ≤ 4294967295) :
    Calls Tryd.prog 28 #[.agg #[.int .u8 tos, .int .u16 id, .bool keep, .int .u8 ttl, .int .u8 proto, .int .u32 src, .int .u32 dst, so, sd]] w fun e w' => Below w.heap.size w w' ∧ ((pue proto src dst zs ≠ 0 ∧ e = .returned (.tuple #[.agg zud.toArray, .int .i64 (pue proto src dst zs)])) ∨
      (pue proto src dst zs = 0 ∧ ∃ ad cd, e = .returned (.tuple #[.agg #[.int .u16 (wat zs 0), .int .u16 (wat zs 2), .bool (wat zs 6 == 0), .slice ad (zs.length - 8) cd], .int .i64 0]) ∧ Ow w.heap.size w' (.slice ad (zs.length - 8) cd) (zs.drop 8))) := by
  obtain ⟨ad, cd, rfl, hl1, hm1⟩ := hI.slice
  have hb0 : Below w.heap.size w ((w.alloc (.cells #[.int .u8 tos, .int .u16 id, .bool keep, .int .u8 ttl, .int .u8 proto, .int .u32 src, .int .u32 dst, so, .slice ad zs.length cd] 26)).alloc (.cells zud.toArray 45)) := ((Below.refl _ _).alloc (Nat.le_refl _) _).alloc (by simp) _
  have p0 : ((w.alloc (.cells #[.int .u8 tos, .int .u16 id, .bool keep, .int .u8 ttl, .int .u8 proto, .int .u32 src, .int .u32 dst, so, .slice ad zs.length cd] 26)).alloc (.cells zud.toArray 45)).heap[w.heap.size]? = some (.cells #[.int .u8 tos, .int .u16 id, .bool keep, .int .u8 ttl, .int .u8 proto, .int .u32 src, .int .u32 dst, so, .slice ad zs.length cd] 26) := (Below.heap_alloc _ _ _ (by simp)).trans (heap_alloc_new w _)
  have r0 : ((w.alloc (.cells #[.int .u8 tos, .int .u16 id, .bool keep, .int .u8 ttl, .int .u8 proto, .int .u32 src, .int .u32 dst, so, .slice ad zs.length cd] 26)).alloc (.cells zud.toArray 45)).heap[w.heap.size + 1]? = some (.cells zud.toArray 45 (0, 0)) := by have := heap_alloc_new (w.alloc (.cells #[.int .u8 tos, .int .u16 id, .bool keep, .int .u8 ttl, .int .u8 proto, .int .u32 src, .int .u32 dst, so, .slice ad zs.length cd] 26)) (.cells zud.toArray 45); simpa using this
  have hs0 : ((w.alloc (.cells #[.int .u8 tos, .int .u16 id, .bool keep, .int .u8 ttl, .int .u8 proto, .int .u32 src, .int .u32 dst, so, .slice ad zs.length cd] 26)).alloc (.cells zud.toArray 45)).heap.size = w.heap.size + 1 + 1 := by simp
  have P0 := hide p0
  have R0 := hide r0
  have HS := hide hs0
  clear p0 r0 hs0
  go_enter Tryd.func28, Tryd.ntmps28
  go_upto_region 1 with fail
  generalize (w.alloc (.cells #[.int .u8 tos, .int .u16 id, .bool keep, .int .u8 ttl, .int .u8 proto, .int .u32 src, .int .u32 dst, so, .slice ad zs.length cd] 26)).alloc (.cells zud.toArray 45) = w1 at *
  have p1 := P0.out
  have r1 := R0.out
  have hw1 := hb0
  have hs1 : w.heap.size + 1 + 1 ≤ w1.heap.size := by have := HS.out; omega
  clear hb0 P0 R0 HS
  have K1 := block_cell p1
  by_cases c1 : proto = 17
  · have t1 : (proto != 17) = false := by simp [c1]
    have C1 := hide c1
    by_cases c2 : zs.length < 8
    · have t2 : (zs.length : Int) < 8 := by omega
      have HF : Hid (pue proto src dst zs = 3) := by show _ = _; unfold pue; rw [if_neg (by simp [C1.out]), if_pos c2]
      clear c1
      have R1 := block_cell r1
      have F1 := block_frozen r1
      go_wp2_with fail
      generalize hV : (((w1.setCell ⟨w.heap.size + 1, 0, none⟩ _).setCell ⟨w.heap.size + 1, 1, none⟩ _).setCell ⟨w.heap.size + 1, 2, none⟩ _).setCell ⟨w.heap.size + 1, 3, none⟩ _ = V8
      have hV9 : V8 = putRow w1 (w.heap.size + 1) 0 zud := hV.symm
      have hb8 : But (fun b => b = w.heap.size + 1) w1 V8 := by rw [hV9]; exact putRow_but (E := fun b => b = w.heap.size + 1) (n := w.heap.size + 1) rfl _ _ _ _ (But.refl _ _)
      have p8 := putRow_all zud r1 rfl
      rw [← hV9] at p8
      clear hV hV9
      have P8 := block_cell p8
      have hw8 : Below w.heap.size w V8 := (hw1).trans (hb8.below (hw1).size (fun k h e => by omega))
      exact bodyPost_ret (v := .tuple #[.agg zud.toArray, .int .i64 3]) (by simp [results, Tryd.results28, go_sem, P8]) rfl (⟨hw8, .inl ⟨by rw [HF.out]; decide, by rw [HF.out]⟩⟩)
    · have t2 : ¬ (zs.length : Int) < 8 := by omega
      clear c1
      go_wp2_with fail
      refine (rget16_at _ zs hB 4 (by omega) (by omega) w1 (hI.below hw1)).mono ?_
      rw [getAt2_lit zs 4 4 rfl (by omega)]
      rintro e w2 ⟨rfl, n2, hn2⟩
      have hb2 : Later w1 w2 := by rw [hn2]; exact below_draw (Later.refl w1) n2
      clear hn2
      have p2 := later_keep hb2 p1
      have r2 := later_keep hb2 r1
      have hw2 : Below w.heap.size w w2 := hw1.trans (hb2.mono hw1.size)
      have hs2' : w.heap.size + 1 + 1 ≤ w2.heap.size := by have := hb2.size; omega
      clear hb2 p1 r1 hw1 hs1 K1
      have K2 := block_cell p2
      have b4 := wat_bd hB 4
      by_cases c3 : wat zs 4 = zs.length
      · have t3 : (wat zs 4 != (zs.length : Int)) = false := by simp [c3]
        have hsm : zs.length ≤ 65535 := by omega
        have C3 := hide c3
        clear c3
        go_wp2_with fail
        refine (rget16_at _ zs hB 6 (by omega) (by omega) w2 (hI.below hw2)).mono ?_
        rw [getAt2_lit zs 6 6 rfl (by omega)]
        rintro e w5 ⟨rfl, n5, hn5⟩
        have hb5 : Later w2 w5 := by rw [hn5]; exact below_draw (Later.refl w2) n5
        clear hn5
        have p5 := later_keep hb5 p2
        have r5 := later_keep hb5 r2
        have hw5 : Below w.heap.size w w5 := hw2.trans (hb5.mono hw2.size)
        have hs5 : w.heap.size + 1 + 1 ≤ w5.heap.size := by have := hb5.size; omega
        clear hb5 p2 r2 hw2 hs2' K2
        have K5 := block_cell p5
        generalize g6 : wat zs 6 = x6
        have G6 := hide g6
        clear g6
        by_cases c4 : x6 = 0
        · have t4 : (x6 == 0) = true := by simp [c4]
          have HF : Hid (pue proto src dst zs = 0) := by show _ = _; unfold pue; rw [if_neg (by simp [C1.out]), if_neg c2, if_neg (by simp [C3.out]), if_neg (by rw [G6.out]; simp [c4])]
          clear c4
          obtain ⟨b, off, cap, e0, hlc, hmc, hbb, hcs⟩ := hI.cells (by omega)
          have hcl := e0
          simp at hcl
          obtain ⟨rfl, rfl⟩ := hcl
          clear e0 hcs
          go_wp2_with fail
          refine (rget16_at _ zs hB 0 (by omega) (by omega) w5 (hI.below hw5)).mono ?_
          rw [getAt2_lit zs 0 0 rfl (by omega)]
          rintro e wa ⟨rfl, na, hna⟩
          have hba : Later w5 wa := by rw [hna]; exact below_draw (Later.refl w5) na
          clear hna
          have hwa := hw5.trans (hba.mono hw5.size)
          go_wp2_with fail
          refine (rget16_at _ zs hB 2 (by omega) (by omega) wa (hI.below hwa)).mono ?_
          rw [getAt2_lit zs 2 2 rfl (by omega)]
          rintro e wb ⟨rfl, nb, hnb⟩
          have hbb2 : Later wa wb := by rw [hnb]; exact below_draw (Later.refl wa) nb
          clear hnb
          have hwb := hwa.trans (hbb2.mono hwa.size)
          have rb := later_keep hbb2 (later_keep hba r5)
          have hsb : w.heap.size + 1 + 1 ≤ wb.heap.size := by have := hba.size; have := hbb2.size; omega
          clear hba hbb2
          go_upto_region 12 with fail
          generalize hV : wb.alloc _ = Wc
          have lc : Later wb Wc := by rw [← hV]; exact (Below.refl _ wb).alloc (Nat.le_refl _) _
          have mc : Wc.heap[wb.heap.size]? = some (.cells #[.int .u16 (wat zs 0), .int .u16 (wat zs 2), .bool true, .slice none 0 0] 45 (0, 0)) := by rw [← hV]; exact heap_alloc_new wb _
          clear hV
          have hwc := hwb.trans (lc.mono hwb.size)
          have rc := later_keep lc rb
          refine anyT_begin (R := But (fun b => b = wb.heap.size)) 7 rfl (by kernel_rfl) ?_
          have hd : Later Wc Wc.drew := Later.drew Wc
          have md := later_keep hd mc
          have rd := later_keep hd rc
          have hwd : Below w.heap.size w Wc.drew := hwc.trans (hd.mono hwc.size)
          generalize Wc.drew = Wd at *
          have hr : Rd w.heap.size Wd (.slice (some ⟨b, off, none⟩) zs.length cd) zs := hI.below hwd
          have hs8 : Rd w.heap.size Wd (.slice (if cd = 8 then some (⟨b, off, none⟩ : Addr) else some ⟨b, off + 8, none⟩) (zs.length - 8) (cd - 8)) (zs.drop 8) := hr.cutAt 8 (by omega)
          generalize hE8 : (if cd = 8 then some (⟨b, off, none⟩ : Addr) else some ⟨b, off + 8, none⟩) = ad8 at *
          have i8 : (8 : Int) ≤ zs.length := by omega
          have i8c : (zs.length : Int) ≤ cd := by omega
          have i8n : ¬ zs.length < 8 := by omega
          refine anyT_val (But.pre _) 0 rfl (by kernel_rfl) (by kernel_rfl) (by kernel_rfl) (fun _ _ _ _ h => h) rfl ?_; apply Exists.intro; refine ⟨fun v1 hv1 => ?_, ?_⟩; (· (go_simp; rfl)); simp only [Act.put, List.setIfInBounds_toArray, List.set_cons_zero, List.set_cons_succ]
          refine anyT_val (But.pre _) 2 rfl (by kernel_rfl) (by kernel_rfl) (by kernel_rfl) (fun _ _ _ _ h => h) rfl ?_; apply Exists.intro; refine ⟨fun v1 hv1 => ?_, ?_⟩; (· (go_simp; rfl)); simp only [Act.put, List.setIfInBounds_toArray, List.set_cons_zero, List.set_cons_succ]
          refine anyT_val (But.pre _) 3 rfl (by kernel_rfl) (by kernel_rfl) (by kernel_rfl) (fun _ _ _ _ h => h) rfl ⟨.slice ad8 (zs.length - 8) (cd - 8), fun v1 hv1 => by go_simp, ?_⟩
          simp only [Act.put, List.setIfInBounds_toArray, List.set_cons_zero, List.set_cons_succ]
          refine anyT_one 1 rfl (by kernel_rfl) rfl ?_
          have kd := block_cell md
          unfold Oper.wp
          go_simp
          refine ⟨But.refl _ _, ?_⟩
          refine anyT_one 4 rfl (by kernel_rfl) rfl ?_
          obtain ⟨i0, hi, hz0, hz1, hz2⟩ := info_parts info_u8
          have hsd : wb.heap.size + 1 ≤ Wd.heap.size := (Array.getElem?_eq_some_iff.1 md).1
          obtain ⟨v3, W3, hrun3, hown3, hgr3⟩ := run_app (P := Tryd.prog) Wd 24 24 5 (wb.heap.size + 1) i0 Tryd.underlying24 hi hz0 hz1 hz2 (.slice none 0 0) [] (World.ownsRow_nil _ _ _ _) w.heap.size _ (zs.drop 8) hs8 (by simp; omega) hsd
          have hl3 : Later Wd W3 := (Below.refl _ Wd).grown hgr3 (Nat.le_refl _) (fun _ e => by cases e)
          have hO3 := Ow.of_row hown3
          rw [List.nil_append] at hO3
          clear hown3
          obtain ⟨a3, c3, rfl, hq3, hm3⟩ := hO3.slice
          rw [List.length_drop] at hO3 hrun3
          refine wp_app (.tmp 43) (.tmp 45) 24 rfl _ _ rfl rfl _ W3 hrun3 ⟨But.of hl3, ?_⟩
          simp only [Act.put, List.setIfInBounds_toArray, List.set_cons_zero, List.set_cons_succ]
          refine anyT_val (But.pre _) 5 rfl (by kernel_rfl) (by kernel_rfl) (by kernel_rfl) (fun _ _ _ _ h => h) rfl ?_; apply Exists.intro; refine ⟨fun v1 hv1 => ?_, ?_⟩; (· (go_simp; rfl)); simp only [Act.put, List.setIfInBounds_toArray, List.set_cons_zero, List.set_cons_succ]
          have m3 := later_keep hl3 md
          have r3 := later_keep hl3 rd
          have k3 := block_cell m3
          have f3 : ∀ j, W3.frozen? ⟨wb.heap.size, j, none⟩ = false := block_frozen m3
          clear kd
          refine anyT_one 6 rfl (by kernel_rfl) rfl ?_
          unfold Oper.wp
          go_simp
          refine ⟨(But.refl (fun b => b = wb.heap.size) _).setCell (p := ⟨wb.heap.size, 3, none⟩) rfl _, ?_⟩
          refine anyT_done (by kernel_rfl) ?_
          have m4 : (W3.setCell ⟨wb.heap.size, 3, none⟩ (.slice a3 (zs.length - 8) c3)).heap[wb.heap.size]? = some (.cells #[.int .u16 (wat zs 0), .int .u16 (wat zs 2), .bool true, .slice a3 (zs.length - 8) c3] 45 (0, 0)) := heap_set1 m3 3 _
          have E4 : But (fun b => b = wb.heap.size) W3 (W3.setCell ⟨wb.heap.size, 3, none⟩ (.slice a3 (zs.length - 8) c3)) := (But.refl (fun b => b = wb.heap.size) W3).setCell (p := ⟨wb.heap.size, 3, none⟩) rfl _
          have hw3 := hwd.trans (hl3.mono hwd.size)
          have hs3 := hl3.size
          generalize W3.setCell ⟨wb.heap.size, 3, none⟩ (.slice a3 (zs.length - 8) c3) = W4 at *
          have hw4 : Below w.heap.size w W4 := hw3.trans (E4.below hw3.size (fun k h e => by omega))
          have r4 := (E4.block (w.heap.size + 1) (by omega) (by omega)).trans r3
          have hO4 := hO3.but E4 (fun b h e => by omega)
          have M4 := block_cell m4
          have R4 := block_cell r4
          have F4 := block_frozen r4
          clear k3 f3
          go_wp2_with fail
          generalize hV : (((W4.setCell ⟨w.heap.size + 1, 0, none⟩ _).setCell ⟨w.heap.size + 1, 1, none⟩ _).setCell ⟨w.heap.size + 1, 2, none⟩ _).setCell ⟨w.heap.size + 1, 3, none⟩ _ = V8
          have hV9 : V8 = putRow W4 (w.heap.size + 1) 0 [.int .u16 (wat zs 0), .int .u16 (wat zs 2), .bool true, .slice a3 (zs.length - 8) c3] := hV.symm
          have hb8 : But (fun b => b = w.heap.size + 1) W4 V8 := by rw [hV9]; exact putRow_but (E := fun b => b = w.heap.size + 1) (n := w.heap.size + 1) rfl _ _ _ _ (But.refl _ _)
          have p8 := putRow_all [.int .u16 (wat zs 0), .int .u16 (wat zs 2), .bool true, .slice a3 (zs.length - 8) c3] r4 rfl
          rw [← hV9] at p8
          clear hV hV9
          have P8 := block_cell p8
          have hw8 : Below w.heap.size w V8 := (hw4).trans (hb8.below (hw4).size (fun k h e => by omega))
          exact bodyPost_ret (v := .tuple #[.agg #[.int .u16 (wat zs 0), .int .u16 (wat zs 2), .bool true, .slice a3 (zs.length - 8) c3], .int .i64 0]) (by simp [results, Tryd.results28, go_sem, P8]) rfl (⟨hw8, .inr ⟨HF.out, a3, c3, by rw [G6.out, t4], (hO4.but hb8 (fun b h e => by omega)).mono (by omega)⟩⟩)
        · have t4 : (x6 == 0) = false := by simp [c4]
          have C4 := hide c4
          clear c4
          go_wp2_with fail
          rw [C1.out]
          refine (rsum3_any tos id ttl 17 src dst 17 keep so _ _ zs w5 hB ((hI.below hw5).mono hw5.size) (by omega) (by omega) hsr hds).mono ?_
          rintro e w6 ⟨rfl, hb6⟩
          have r6 := later_keep hb6 r5
          have hw6 : Below w.heap.size w w6 := hw5.trans (hb6.mono hw5.size)
          have hs6 : w.heap.size + 1 + 1 ≤ w6.heap.size := by have := hb6.size; omega
          clear hb6 r5 p5 K5
          by_cases c5 : Mt.cks (psd src dst 17 zs.length ++ zs) = 0
          · have t5 : (Mt.cks (psd src dst 17 zs.length ++ zs) != 0) = false := by simp [c5]
            have HF : Hid (pue proto src dst zs = 0) := by show _ = _; unfold pue; rw [if_neg (by simp [C1.out]), if_neg c2, if_neg (by simp [C3.out]), if_neg (by simp [c5])]
            clear c5
            obtain ⟨b, off, cap, e0, hlc, hmc, hbb, hcs⟩ := hI.cells (by omega)
            have hcl := e0
            simp at hcl
            obtain ⟨rfl, rfl⟩ := hcl
            clear e0 hcs
            go_wp2_with fail
            refine (rget16_at _ zs hB 0 (by omega) (by omega) w6 (hI.below hw6)).mono ?_
            rw [getAt2_lit zs 0 0 rfl (by omega)]
            rintro e wa ⟨rfl, na, hna⟩
            have hba : Later w6 wa := by rw [hna]; exact below_draw (Later.refl w6) na
            clear hna
            have hwa := hw6.trans (hba.mono hw6.size)
            go_wp2_with fail
            refine (rget16_at _ zs hB 2 (by omega) (by omega) wa (hI.below hwa)).mono ?_
            rw [getAt2_lit zs 2 2 rfl (by omega)]
            rintro e wb ⟨rfl, nb, hnb⟩
            have hbb2 : Later wa wb := by rw [hnb]; exact below_draw (Later.refl wa) nb
            clear hnb
            have hwb := hwa.trans (hbb2.mono hwa.size)
            have rb := later_keep hbb2 (later_keep hba r6)
            have hsb : w.heap.size + 1 + 1 ≤ wb.heap.size := by have := hba.size; have := hbb2.size; omega
            clear hba hbb2
            go_upto_region 12 with fail
            generalize hV : wb.alloc _ = Wc
            have lc : Later wb Wc := by rw [← hV]; exact (Below.refl _ wb).alloc (Nat.le_refl _) _
            have mc : Wc.heap[wb.heap.size]? = some (.cells #[.int .u16 (wat zs 0), .int .u16 (wat zs 2), .bool false, .slice none 0 0] 45 (0, 0)) := by rw [← hV]; exact heap_alloc_new wb _
            clear hV
            have hwc := hwb.trans (lc.mono hwb.size)
            have rc := later_keep lc rb
            refine anyT_begin (R := But (fun b => b = wb.heap.size)) 7 rfl (by kernel_rfl) ?_
            have hd : Later Wc Wc.drew := Later.drew Wc
            have md := later_keep hd mc
            have rd := later_keep hd rc
            have hwd : Below w.heap.size w Wc.drew := hwc.trans (hd.mono hwc.size)
            generalize Wc.drew = Wd at *
            have hr : Rd w.heap.size Wd (.slice (some ⟨b, off, none⟩) zs.length cd) zs := hI.below hwd
            have hs8 : Rd w.heap.size Wd (.slice (if cd = 8 then some (⟨b, off, none⟩ : Addr) else some ⟨b, off + 8, none⟩) (zs.length - 8) (cd - 8)) (zs.drop 8) := hr.cutAt 8 (by omega)
            generalize hE8 : (if cd = 8 then some (⟨b, off, none⟩ : Addr) else some ⟨b, off + 8, none⟩) = ad8 at *
            have i8 : (8 : Int) ≤ zs.length := by omega
            have i8c : (zs.length : Int) ≤ cd := by omega
            have i8n : ¬ zs.length < 8 := by omega
            refine anyT_val (But.pre _) 0 rfl (by kernel_rfl) (by kernel_rfl) (by kernel_rfl) (fun _ _ _ _ h => h) rfl ?_; apply Exists.intro; refine ⟨fun v1 hv1 => ?_, ?_⟩; (· (go_simp; rfl)); simp only [Act.put, List.setIfInBounds_toArray, List.set_cons_zero, List.set_cons_succ]
            refine anyT_val (But.pre _) 2 rfl (by kernel_rfl) (by kernel_rfl) (by kernel_rfl) (fun _ _ _ _ h => h) rfl ?_; apply Exists.intro; refine ⟨fun v1 hv1 => ?_, ?_⟩; (· (go_simp; rfl)); simp only [Act.put, List.setIfInBounds_toArray, List.set_cons_zero, List.set_cons_succ]
            refine anyT_val (But.pre _) 3 rfl (by kernel_rfl) (by kernel_rfl) (by kernel_rfl) (fun _ _ _ _ h => h) rfl ⟨.slice ad8 (zs.length - 8) (cd - 8), fun v1 hv1 => by go_simp, ?_⟩
            simp only [Act.put, List.setIfInBounds_toArray, List.set_cons_zero, List.set_cons_succ]
            refine anyT_one 1 rfl (by kernel_rfl) rfl ?_
            have kd := block_cell md
            unfold Oper.wp
            go_simp
            refine ⟨But.refl _ _, ?_⟩
            refine anyT_one 4 rfl (by kernel_rfl) rfl ?_
            obtain ⟨i0, hi, hz0, hz1, hz2⟩ := info_parts info_u8
            have hsd : wb.heap.size + 1 ≤ Wd.heap.size := (Array.getElem?_eq_some_iff.1 md).1
            obtain ⟨v3, W3, hrun3, hown3, hgr3⟩ := run_app (P := Tryd.prog) Wd 24 24 5 (wb.heap.size + 1) i0 Tryd.underlying24 hi hz0 hz1 hz2 (.slice none 0 0) [] (World.ownsRow_nil _ _ _ _) w.heap.size _ (zs.drop 8) hs8 (by simp; omega) hsd
            have hl3 : Later Wd W3 := (Below.refl _ Wd).grown hgr3 (Nat.le_refl _) (fun _ e => by cases e)
            have hO3 := Ow.of_row hown3
            rw [List.nil_append] at hO3
            clear hown3
            obtain ⟨a3, c3, rfl, hq3, hm3⟩ := hO3.slice
            rw [List.length_drop] at hO3 hrun3
            refine wp_app (.tmp 43) (.tmp 45) 24 rfl _ _ rfl rfl _ W3 hrun3 ⟨But.of hl3, ?_⟩
            simp only [Act.put, List.setIfInBounds_toArray, List.set_cons_zero, List.set_cons_succ]
            refine anyT_val (But.pre _) 5 rfl (by kernel_rfl) (by kernel_rfl) (by kernel_rfl) (fun _ _ _ _ h => h) rfl ?_; apply Exists.intro; refine ⟨fun v1 hv1 => ?_, ?_⟩; (· (go_simp; rfl)); simp only [Act.put, List.setIfInBounds_toArray, List.set_cons_zero, List.set_cons_succ]
            have m3 := later_keep hl3 md
            have r3 := later_keep hl3 rd
            have k3 := block_cell m3
            have f3 : ∀ j, W3.frozen? ⟨wb.heap.size, j, none⟩ = false := block_frozen m3
            clear kd
            refine anyT_one 6 rfl (by kernel_rfl) rfl ?_
            unfold Oper.wp
            go_simp
            refine ⟨(But.refl (fun b => b = wb.heap.size) _).setCell (p := ⟨wb.heap.size, 3, none⟩) rfl _, ?_⟩
            refine anyT_done (by kernel_rfl) ?_
            have m4 : (W3.setCell ⟨wb.heap.size, 3, none⟩ (.slice a3 (zs.length - 8) c3)).heap[wb.heap.size]? = some (.cells #[.int .u16 (wat zs 0), .int .u16 (wat zs 2), .bool false, .slice a3 (zs.length - 8) c3] 45 (0, 0)) := heap_set1 m3 3 _
            have E4 : But (fun b => b = wb.heap.size) W3 (W3.setCell ⟨wb.heap.size, 3, none⟩ (.slice a3 (zs.length - 8) c3)) := (But.refl (fun b => b = wb.heap.size) W3).setCell (p := ⟨wb.heap.size, 3, none⟩) rfl _
            have hw3 := hwd.trans (hl3.mono hwd.size)
            have hs3 := hl3.size
            generalize W3.setCell ⟨wb.heap.size, 3, none⟩ (.slice a3 (zs.length - 8) c3) = W4 at *
            have hw4 : Below w.heap.size w W4 := hw3.trans (E4.below hw3.size (fun k h e => by omega))
            have r4 := (E4.block (w.heap.size + 1) (by omega) (by omega)).trans r3
            have hO4 := hO3.but E4 (fun b h e => by omega)
            have M4 := block_cell m4
            have R4 := block_cell r4
            have F4 := block_frozen r4
            clear k3 f3
            go_wp2_with fail
            generalize hV : (((W4.setCell ⟨w.heap.size + 1, 0, none⟩ _).setCell ⟨w.heap.size + 1, 1, none⟩ _).setCell ⟨w.heap.size + 1, 2, none⟩ _).setCell ⟨w.heap.size + 1, 3, none⟩ _ = V8
            have hV9 : V8 = putRow W4 (w.heap.size + 1) 0 [.int .u16 (wat zs 0), .int .u16 (wat zs 2), .bool false, .slice a3 (zs.length - 8) c3] := hV.symm
            have hb8 : But (fun b => b = w.heap.size + 1) W4 V8 := by rw [hV9]; exact putRow_but (E := fun b => b = w.heap.size + 1) (n := w.heap.size + 1) rfl _ _ _ _ (But.refl _ _)
            have p8 := putRow_all [.int .u16 (wat zs 0), .int .u16 (wat zs 2), .bool false, .slice a3 (zs.length - 8) c3] r4 rfl
            rw [← hV9] at p8
            clear hV hV9
            have P8 := block_cell p8
            have hw8 : Below w.heap.size w V8 := (hw4).trans (hb8.below (hw4).size (fun k h e => by omega))
            exact bodyPost_ret (v := .tuple #[.agg #[.int .u16 (wat zs 0), .int .u16 (wat zs 2), .bool false, .slice a3 (zs.length - 8) c3], .int .i64 0]) (by simp [results, Tryd.results28, go_sem, P8]) rfl (⟨hw8, .inr ⟨HF.out, a3, c3, by rw [G6.out, t4], (hO4.but hb8 (fun b h e => by omega)).mono (by omega)⟩⟩)
          · have t5 : (Mt.cks (psd src dst 17 zs.length ++ zs) != 0) = true := by simp [c5]
            have HF : Hid (pue proto src dst zs = 5) := by show _ = _; unfold pue; rw [if_neg (by simp [C1.out]), if_neg c2, if_neg (by simp [C3.out]), if_pos ⟨by rw [G6.out]; exact C4.out, c5⟩]
            clear c5
            have R1 := block_cell r6
            have F1 := block_frozen r6
            go_wp2_with fail
            generalize hV : (((w6.setCell ⟨w.heap.size + 1, 0, none⟩ _).setCell ⟨w.heap.size + 1, 1, none⟩ _).setCell ⟨w.heap.size + 1, 2, none⟩ _).setCell ⟨w.heap.size + 1, 3, none⟩ _ = V8
            have hV9 : V8 = putRow w6 (w.heap.size + 1) 0 zud := hV.symm
            have hb8 : But (fun b => b = w.heap.size + 1) w6 V8 := by rw [hV9]; exact putRow_but (E := fun b => b = w.heap.size + 1) (n := w.heap.size + 1) rfl _ _ _ _ (But.refl _ _)
            have p8 := putRow_all zud r6 rfl
            rw [← hV9] at p8
            clear hV hV9
            have P8 := block_cell p8
            have hw8 : Below w.heap.size w V8 := (hw6).trans (hb8.below (hw6).size (fun k h e => by omega))
            exact bodyPost_ret (v := .tuple #[.agg zud.toArray, .int .i64 5]) (by simp [results, Tryd.results28, go_sem, P8]) rfl (⟨hw8, .inl ⟨by rw [HF.out]; decide, by rw [HF.out]⟩⟩)
      · have t3 : (wat zs 4 != (zs.length : Int)) = true := by simp [c3]
        have HF : Hid (pue proto src dst zs = 4) := by show _ = _; unfold pue; rw [if_neg (by simp [C1.out]), if_neg c2, if_pos c3]
        clear c3
        have R1 := block_cell r2
        have F1 := block_frozen r2
        go_wp2_with fail
        generalize hV : (((w2.setCell ⟨w.heap.size + 1, 0, none⟩ _).setCell ⟨w.heap.size + 1, 1, none⟩ _).setCell ⟨w.heap.size + 1, 2, none⟩ _).setCell ⟨w.heap.size + 1, 3, none⟩ _ = V8
        have hV9 : V8 = putRow w2 (w.heap.size + 1) 0 zud := hV.symm
        have hb8 : But (fun b => b = w.heap.size + 1) w2 V8 := by rw [hV9]; exact putRow_but (E := fun b => b = w.heap.size + 1) (n := w.heap.size + 1) rfl _ _ _ _ (But.refl _ _)
        have p8 := putRow_all zud r2 rfl
        rw [← hV9] at p8
        clear hV hV9
        have P8 := block_cell p8
        have hw8 : Below w.heap.size w V8 := (hw2).trans (hb8.below (hw2).size (fun k h e => by omega))
        exact bodyPost_ret (v := .tuple #[.agg zud.toArray, .int .i64 4]) (by simp [results, Tryd.results28, go_sem, P8]) rfl (⟨hw8, .inl ⟨by rw [HF.out]; decide, by rw [HF.out]⟩⟩)
  · have t1 : (proto != 17) = true := by simp [c1]
    have HF : Hid (pue proto src dst zs = 12) := by show _ = _; unfold pue; rw [if_pos c1]
    clear c1
    have R1 := block_cell r1
    have F1 := block_frozen r1
    go_wp2_with fail
    generalize hV : (((w1.setCell ⟨w.heap.size + 1, 0, none⟩ _).setCell ⟨w.heap.size + 1, 1, none⟩ _).setCell ⟨w.heap.size + 1, 2, none⟩ _).setCell ⟨w.heap.size + 1, 3, none⟩ _ = V8
    have hV9 : V8 = putRow w1 (w.heap.size + 1) 0 zud := hV.symm
    have hb8 : But (fun b => b = w.heap.size + 1) w1 V8 := by rw [hV9]; exact putRow_but (E := fun b => b = w.heap.size + 1) (n := w.heap.size + 1) rfl _ _ _ _ (But.refl _ _)
    have p8 := putRow_all zud r1 rfl
    rw [← hV9] at p8
    clear hV hV9
    have P8 := block_cell p8
    have hw8 : Below w.heap.size w V8 := (hw1).trans (hb8.below (hw1).size (fun k h e => by omega))
    exact bodyPost_ret (v := .tuple #[.agg zud.toArray, .int .i64 12]) (by simp [results, Tryd.results28, go_sem, P8]) rfl (⟨hw8, .inl ⟨by rw [HF.out]; decide, by rw [HF.out]⟩⟩)
end Go.Proofs.YtojoaidnkljcpaaDoor
