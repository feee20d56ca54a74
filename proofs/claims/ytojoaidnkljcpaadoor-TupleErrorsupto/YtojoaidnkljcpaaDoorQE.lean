/- The walk of TupleErrors. -/
import Derived.Test.YtojoaidnkljcpaaDoorQD
import Derived.Test.YtojoaidnkljcpaaDoorX1
import Derived.Test.YtojoaidnkljcpaaDoorVZ
namespace Go.Proofs.YtojoaidnkljcpaaDoor
open Go.RowKit Go.Shelf
set_option maxRecDepth 100000
set_option linter.unusedVariables false
set_option linter.unusedSimpArgs false

/-- Nothing turns but packets from block N on. -/
def KQ (N : Nat) (A B : World) : Prop := A.heap.size ≤ B.heap.size ∧ ∀ k o, A.heap[k]? = some o → (k < N ∨ ¬ ∃ c f, o = .cells c 26 f) → B.heap[k]? = some o
theorem KQ.refl (N : Nat) (A : World) : KQ N A A := ⟨Nat.le_refl _, fun _ _ h _ => h⟩
theorem KQ.pre (N : Nat) : Pre (KQ N) := ⟨KQ.refl N, fun _ _ _ h k => ⟨Nat.le_trans h.1 k.1, fun i o ho hi => k.2 i o (h.2 i o ho hi) hi⟩⟩
theorem KQ.of {N : Nat} {A B : World} (l : Later A B) : KQ N A B := ⟨l.size, fun k o ho _ => later_keep l ho⟩
theorem KQ.set {N g : Nat} {A B : World} {cur : Array Value} (hN : N ≤ g) (hg : A.heap[g]? = some (.cells cur 26 (0, 0))) (hb : But (fun b => b = g) A B) : KQ N A B := by
  refine ⟨hb.size, fun k o ho hk => ?_⟩
  by_cases e : k = g
  · subst e
    rcases hk with h | h
    · omega
    · rw [hg] at ho
      cases ho
      exact absurd ⟨_, _, rfl⟩ h
  · exact (hb.block k (Array.getElem?_eq_some_iff.1 ho).1 e).trans ho
theorem Ow.setP {base : Nat} {W V : World} {v : Value} {zs : List Int} {g : Nat} {cur : Array Value} (h : Ow base W v zs) (hg : W.heap[g]? = some (.cells cur 26 (0, 0))) (hb : But (fun b => b = g) W V) : Ow base V v zs := by
  rcases h with h | ⟨g', cap, c2, h1, h2, h3, h4, h5, h6, h7⟩
  · exact .inl h
  · refine .inr ⟨g', cap, c2, h1, h2, h3, h4, h5, ?_, h7⟩
    have hne : g' ≠ g := fun e => by subst e; rw [h6] at hg; simp at hg
    exact (hb.block g' (Array.getElem?_eq_some_iff.1 h6).1 hne).trans h6
def ty3 (r : Nat) : Int := if r = 0 then 3 else if r = 1 then 11 else 12
theorem ty3_at (r : Nat) (h : r < 3) : #[Value.int .u8 3, .int .u8 11, .int .u8 12][r]? = some (.int .u8 (ty3 r)) := by
  match r, h with
  | 0, _ => rfl
  | 1, _ => rfl
  | 2, _ => rfl

set_option maxHeartbeats 16000000 in
theorem walk_TupleErrors (w : World) (hT : Tb w) (tos id ttl proto src dst : Int) (keep : Bool) (so sd : Value) (zo zd : List Int) (hBo : Mt.By zo) (hBd : Mt.By zd) (hIo : Rd w.heap.size w so zo) (hId : Rd w.heap.size w sd zd) (hlo : zo.length ≤ 140737488355328) (hld : zd.length ≤ 140737488355328) (ht : 0 ≤ tos ∧ tos ≤ 255) (hid : 0 ≤ id ∧ id ≤ 65535) (htt : 0 ≤ ttl ∧ ttl ≤ 255) (hpr : 0 ≤ proto ∧ proto ≤ 255) (hsr : 0 ≤ src ∧ src ≤ 4294967295) (hds : 0 ≤ dst ∧ dst ≤ 4294967295) (tos2 id2 ttl2 proto2 src2 dst2 : Int) (keep2 : Bool) (so2 sd2 : Value) (zo2 zd2 : List Int) (hBo2 : Mt.By zo2) (hBd2 : Mt.By zd2) (hIo2 : Rd w.heap.size w so2 zo2) (hId2 : Rd w.heap.size w sd2 zd2) (hlo2 : zo2.length ≤ 140737488355328) (hld2 : zd2.length ≤ 140737488355328) (ht2 : 0 ≤ tos2 ∧ tos2 ≤ 255) (hid2 : 0 ≤ id2 ∧ id2 ≤ 65535) (htt2 : 0 ≤ ttl2 ∧ ttl2 ≤ 255) (hpr2 : 0 ≤ proto2 ∧ proto2 ≤ 255) (hsr2 : 0 ≤ src2 ∧ src2 ≤ 4294967295) (hds2 : 0 ≤ dst2 ∧ dst2 ≤ 4294967295) (n : Int) (hn : 0 ≤ n ∧ n ≤ 65535) (hsm : zd.length ≤ 1048576) (hsm2 : zd2.length ≤ 1048576) :
    Calls Tryd.prog 8 #[.agg #[.int .u8 tos, .int .u16 id, .bool keep, .int .u8 ttl, .int .u8 proto, .int .u32 src, .int .u32 dst, so, sd], .agg #[.int .u8 tos2, .int .u16 id2, .bool keep2, .int .u8 ttl2, .int .u8 proto2, .int .u32 src2, .int .u32 dst2, so2, sd2], .int .u16 n] w fun e w' => e = .returned (.bool true) ∧ Below w.heap.size w w' := by
  obtain ⟨ao, co, rfl, _, _⟩ := hIo.slice
  obtain ⟨ad, cd, rfl, _, _⟩ := hId.slice
  obtain ⟨ao2, co2, rfl, _, _⟩ := hIo2.slice
  obtain ⟨ad2, cd2, rfl, _, _⟩ := hId2.slice
  have hb0 : Below w.heap.size w ((w.alloc (.cells #[.int .u8 tos, .int .u16 id, .bool keep, .int .u8 ttl, .int .u8 proto, .int .u32 src, .int .u32 dst, .slice ao zo.length co, .slice ad zd.length cd] 26)).alloc (.cells #[.int .u8 tos2, .int .u16 id2, .bool keep2, .int .u8 ttl2, .int .u8 proto2, .int .u32 src2, .int .u32 dst2, .slice ao2 zo2.length co2, .slice ad2 zd2.length cd2] 26)) := ((Below.refl _ _).alloc (Nat.le_refl _) _).alloc (by simp) _
  have p0 : ((w.alloc (.cells #[.int .u8 tos, .int .u16 id, .bool keep, .int .u8 ttl, .int .u8 proto, .int .u32 src, .int .u32 dst, .slice ao zo.length co, .slice ad zd.length cd] 26)).alloc (.cells #[.int .u8 tos2, .int .u16 id2, .bool keep2, .int .u8 ttl2, .int .u8 proto2, .int .u32 src2, .int .u32 dst2, .slice ao2 zo2.length co2, .slice ad2 zd2.length cd2] 26)).heap[w.heap.size]? = some (.cells #[.int .u8 tos, .int .u16 id, .bool keep, .int .u8 ttl, .int .u8 proto, .int .u32 src, .int .u32 dst, .slice ao zo.length co, .slice ad zd.length cd] 26) := (Below.heap_alloc _ _ _ (by simp)).trans (heap_alloc_new w _)
  have o0 := heap_alloc_new (w.alloc (.cells #[.int .u8 tos, .int .u16 id, .bool keep, .int .u8 ttl, .int .u8 proto, .int .u32 src, .int .u32 dst, .slice ao zo.length co, .slice ad zd.length cd] 26)) (.cells #[.int .u8 tos2, .int .u16 id2, .bool keep2, .int .u8 ttl2, .int .u8 proto2, .int .u32 src2, .int .u32 dst2, .slice ao2 zo2.length co2, .slice ad2 zd2.length cd2] 26)
  rw [World.size_alloc] at o0
  have P0 := hide p0
  have O0 := hide o0
  clear p0 o0
  obtain ⟨x0, x1, x2, x3, x4, hx⟩ := otv_agg (ofe proto src dst zd) proto src dst (ofa proto zd) (ofb proto zd)
  have HX := hide hx
  clear hx
  go_enter Tryd.func8, Tryd.ntmps8
  go_wp2_with fail
  generalize ((w.alloc (.cells #[.int .u8 tos, .int .u16 id, .bool keep, .int .u8 ttl, .int .u8 proto, .int .u32 src, .int .u32 dst, .slice ao zo.length co, .slice ad zd.length cd] 26)).alloc (.cells #[.int .u8 tos2, .int .u16 id2, .bool keep2, .int .u8 ttl2, .int .u8 proto2, .int .u32 src2, .int .u32 dst2, .slice ao2 zo2.length co2, .slice ad2 zd2.length cd2] 26)) = W0 at *
  refine (rof_any tos id ttl proto src dst keep _ _ zd W0 hBd ((hId.below hb0).mono hb0.size) (by omega) hsr hds).mono ?_
  rw [HX.out]
  generalize hee : ofe proto src dst zd = ee at *
  have HEE := hide hee
  clear hee
  rintro e w1 ⟨hb1, rfl⟩
  have l1 : Later W0 w1 := hb1
  have l2 : Later w1 (w1.alloc (.cells #[.int .u8 x0, .int .u32 x1, .int .u32 x2, .int .u16 x3, .int .u16 x4] 28)) := (Below.refl _ _).alloc (Nat.le_refl _) _
  have s2 := heap_alloc_new w1 (.cells #[.int .u8 x0, .int .u32 x1, .int .u32 x2, .int .u16 x3, .int .u16 x4] 28)
  have l12 := l1.trans l2
  have p2 := later_keep l12 P0.out
  have o2 := later_keep l12 O0.out
  have hw2 := hb0.trans (l12.mono hb0.size)
  have kp := block_cell p2
  go_wp2_with fail
  generalize w1.alloc (.cells #[.int .u8 x0, .int .u32 x1, .int .u32 x2, .int .u16 x3, .int .u16 x4] 28) = W2 at *
  generalize w1.heap.size = gt at *
  clear kp
  by_cases hfl : flt zo.length zd.length = 0
  · obtain ⟨hf1, hf2, hf3⟩ := flt_fit hfl
    clear hfl
    refine (rbuild_yes tos id ttl proto src dst keep _ _ zo zd W2 hBo ((hIo.below hw2).mono hw2.size) ((hId.below hw2).mono hw2.size) hf1 hf2 hf3 ht hid htt hpr hsr hds).mono ?_
    rintro e WB ⟨vb, rfl, hDb, hbB⟩
    have lB : Later W2 WB := hbB
    have oB := later_keep lB o2
    have pB := later_keep lB p2
    have tB := later_keep lB s2
    have hwB := hw2.trans (lB.mono hw2.size)
    obtain ⟨ab, cb, rfl, hcb1, hcb2⟩ := hDb.slice
    have hlb : (hdr tos id keep ttl proto src dst zo (20 + zo.length + zd.length) ++ zd).length = 20 + zo.length + zd.length := by rw [List.length_append, hdr_len]
    rw [hlb] at hcb1 hDb ⊢
    have HLB := hide hlb
    clear hlb
    have ko := block_cell oB
    have kpp := block_cell pB
    by_cases he : ee = 0
    · by_cases h60 : 20 + zo.length + zd.length ≤ 60000
      · by_cases h40 : zo2.length ≤ 40
        · by_cases h4 : zo2.length % 4 = 0
          · subst he
            have h8 := ofe_8 HEE.out
            have t1 : ¬ (60000 : Int) < ((20 + zo.length + zd.length : Nat) : Int) := by omega
            have t2 : ¬ (40 : Int) < zo2.length := by omega
            have t3 : ((zo2.length : Int).tmod 4 != 0) = false := by rw [Int.tmod_eq_emod_of_nonneg (by omega)]; simp; omega
            have t4 : ((zo2.length : Int) % 4 != 0) = false := by simp; omega
            have hz0 := Int.emod_nonneg n (show (zd.length : Int) - 7 ≠ 0 by omega)
            have hz1 := Int.emod_lt_of_pos n (show 0 < (zd.length : Int) - 7 by omega)
            obtain ⟨m, hm⟩ : ∃ m : Nat, (m : Int) = 8 + n % ((zd.length : Int) - 7) := ⟨(8 + n % ((zd.length : Int) - 7)).toNat, by omega⟩
            have hm8 : 8 ≤ m := by omega
            have hmz : m ≤ zd.length := by omega
            obtain ⟨kp, hkp⟩ : ∃ kp : Nat, kp = 20 + zo.length + m := ⟨_, rfl⟩
            have hwr : wrap64 (20 + (zo.length : Int) + 8 + n % (20 + (zo.length : Int) + (zd.length : Int) - (20 + (zo.length : Int)) - 7)) = (kp : Int) := by
              rw [show (20 + (zo.length : Int) + (zd.length : Int) - (20 + (zo.length : Int)) - 7) = (zd.length : Int) - 7 from by omega]
              unfold wrap64
              omega
            go_upto_region 7 with fail
            rw [hwr]
            have hBh : Mt.By (h20 tos id keep ttl proto src dst zo.length (20 + zo.length + zd.length) 0 ++ zo) := (h20_by tos id keep ttl proto src dst zo.length (20 + zo.length + zd.length) 0 hf1 ht hid htt hpr hsr hds (by omega) (by omega)).append hBo
            have hBm : Mt.By (hdr tos id keep ttl proto src dst zo (20 + zo.length + zd.length) ++ zd.take m) := by
              rw [hdr_eq]
              exact ((h20_by tos id keep ttl proto src dst zo.length (20 + zo.length + zd.length) _ hf1 ht hid htt hpr hsr hds (by omega) (Mt.cks_bd _)).append hBo).append (hBd.take m)
            have hlh := hdr_len tos id keep ttl proto src dst zo (20 + zo.length + zd.length)
            have htk : (hdr tos id keep ttl proto src dst zo (20 + zo.length + zd.length) ++ zd).take kp = hdr tos id keep ttl proto src dst zo (20 + zo.length + zd.length) ++ zd.take m := by
              rw [List.take_append, hlh, List.take_of_length_le (by rw [hlh]; omega)]
              congr 2
              omega
            have hlm : (hdr tos id keep ttl proto src dst zo (20 + zo.length + zd.length) ++ zd.take m).length = kp := by rw [List.length_append, hlh, List.length_take]; omega
            obtain ⟨r, hr⟩ : ∃ r : Nat, n % 3 = (r : Int) := ⟨(n % 3).toNat, by omega⟩
            have hr3 : r < 3 := by omega
            have hrt : n.tmod 3 = (r : Int) := by rw [Int.tmod_eq_emod_of_nonneg hn.1]; exact hr
            have hr3' : (r : Int) < 3 := by omega
            have hmath := err_math tos id keep ttl proto src dst zo zd (ty3 r) (n % 256) src2 dst2 m hBo hBd hf1 hf2 hf3 hBh hBm HEE.out hm8 hmz (by unfold ty3; split; exact .inl rfl; split; exact .inr (.inl rfl); exact .inr (.inr rfl)) (by omega)
            have HRM : Hid (∀ W, Later WB W → Rd W.heap.size W (.slice ab kp cb) (hdr tos id keep ttl proto src dst zo (20 + zo.length + zd.length) ++ zd.take m)) := fun W l => by
              rw [← htk]
              exact ((hDb.ck (CK.of l)).rd).take kp (by omega)
            have HTY : Hid (0 ≤ ty3 r ∧ ty3 r ≤ 255) := by show _ ∧ _; unfold ty3; split; omega; split <;> omega
            have HTC := hide (ty3_at r hr3)
            have HBM := hide hBm
            have HBQ := hide (By_icm (ty3 r) (n % 256) 0 _ HTY.out (by omega) (by omega) hBm)
            have HM1 := hide hmath.1
            have HM2 := hide (hmath.2.1.trans HX.out)
            have HM3 := hide hmath.2.2
            have hl8 : (icm (ty3 r) (n % 256) 0 (hdr tos id keep ttl proto src dst zo (20 + zo.length + zd.length) ++ zd.take m)).length = 8 + kp := by rw [← hlm]; simp [icm, Mt.put2, icm0]; omega
            have hkcap : kp ≤ cb := by omega
            have hk60 : kp ≤ 60000 := by omega
            generalize hdr tos id keep ttl proto src dst zo (20 + zo.length + zd.length) ++ zd.take m = mz at *
            generalize ty3 r = ty at *
            have HLM : Hid (mz.length ≤ 60000) := by show _ ≤ _; omega
            have HLQ : Hid ((icm ty (n % 256) 0 mz).length ≤ 65535) := by show _ ≤ _; omega
            have HFL : Hid (flt zo2.length (8 + mz.length) = 0) := by show _ = _; unfold flt; rw [if_neg (by omega), if_neg (by omega)]
            clear hz0 hz1 hm hwr htk hmath hBh hlh hkp HLB hBm hl8 hlm hDb t1 t2 t3 t4 ko
            have hkc : (kp : Int) ≤ cb := by omega
            go_cut [13, 14] (fun q x wx => ∃ gp a7 c7 a8 c8, q = .pointer (some ⟨gp, 0, none⟩) ∧ x = .int .i64 0 ∧ wx.heap[gp]? = some (.cells #[.int .u8 tos2, .int .u16 id2, .bool keep2, .int .u8 ttl2, .int .u8 1, .int .u32 src2, .int .u32 dst2, .slice a7 zo2.length c7, .slice a8 (8 + mz.length) c8] 26 (0, 0)) ∧ Ow WB.heap.size wx (.slice a8 (8 + mz.length) c8) (icm ty (n % 256) 0 mz) ∧ Below WB.heap.size WB wx)
            case first =>
              refine anyT_begin (R := KQ WB.heap.size) 19 rfl (by kernel_rfl) ?_
              have ld : Later WB WB.drew := Later.drew WB
              have oWd := later_keep ld oB
              have hNd : WB.heap.size ≤ WB.drew.heap.size := ld.size
              have hoN := (Array.getElem?_eq_some_iff.1 oB).1
              generalize WB.drew = Wd at *
              have ha : ∀ v1, KQ WB.heap.size Wd v1 → ∀ i, v1.cell? ⟨w.heap.size + 1, i, none⟩ = #[Value.int .u8 tos2, .int .u16 id2, .bool keep2, .int .u8 ttl2, .int .u8 proto2, .int .u32 src2, .int .u32 dst2, .slice ao2 zo2.length co2, .slice ad2 zd2.length cd2][i]? := fun v1 h => block_cell (h.2 _ _ oWd (.inl hoN))
              refine anyT_val (KQ.pre _) 0 rfl (by kernel_rfl) (by kernel_rfl) (by kernel_rfl) (fun _ _ _ _ h => h) rfl ?_; apply Exists.intro; refine ⟨fun v1 hv1 => ?_, ?_⟩; (· (go_simp; rfl)); simp only [Act.put, List.setIfInBounds_toArray, List.set_cons_zero, List.set_cons_succ]
              clear ha
              refine anyT_val (KQ.pre _) 2 rfl (by kernel_rfl) (by kernel_rfl) (by kernel_rfl) (fun _ _ _ _ h => h) rfl ?_; apply Exists.intro; refine ⟨fun v1 hv1 => ?_, ?_⟩; (· (go_simp; rfl)); simp only [Act.put, List.setIfInBounds_toArray, List.set_cons_zero, List.set_cons_succ]
              refine anyT_val (KQ.pre _) 3 rfl (by kernel_rfl) (by kernel_rfl) (by kernel_rfl) (fun _ _ _ _ h => h) rfl ?_; apply Exists.intro; refine ⟨fun v1 hv1 => ?_, ?_⟩; (· (go_simp; rfl)); simp only [Act.put, List.setIfInBounds_toArray, List.set_cons_zero, List.set_cons_succ]
              refine anyT_val (KQ.pre _) 6 rfl (by kernel_rfl) (by kernel_rfl) (by kernel_rfl) (fun _ _ _ _ h => h) rfl ?_; apply Exists.intro; refine ⟨fun v1 hv1 => ?_, ?_⟩; (· (go_simp; rfl)); simp only [Act.put, List.setIfInBounds_toArray, List.set_cons_zero, List.set_cons_succ]
              refine anyT_val (KQ.pre _) 7 rfl (by kernel_rfl) (by kernel_rfl) (by kernel_rfl) (fun _ _ _ _ h => h) rfl ?_; apply Exists.intro; refine ⟨fun v1 hv1 => ?_, ?_⟩; (· (go_simp; rfl)); simp only [Act.put, List.setIfInBounds_toArray, List.set_cons_zero, List.set_cons_succ]
              refine anyT_val (KQ.pre _) 8 rfl (by kernel_rfl) (by kernel_rfl) (by kernel_rfl) (fun _ _ _ _ h => h) rfl ?_; apply Exists.intro; refine ⟨fun v1 hv1 => ?_, ?_⟩; (· (go_simp; rfl)); simp only [Act.put, List.setIfInBounds_toArray, List.set_cons_zero, List.set_cons_succ]
              refine anyT_val (KQ.pre _) 9 rfl (by kernel_rfl) (by kernel_rfl) (by kernel_rfl) (fun _ _ _ _ h => h) rfl ?_; apply Exists.intro; refine ⟨fun v1 hv1 => ?_, ?_⟩; (· (go_simp; rfl)); simp only [Act.put, List.setIfInBounds_toArray, List.set_cons_zero, List.set_cons_succ]
              refine anyT_val (KQ.pre _) 10 rfl (by kernel_rfl) (by kernel_rfl) (by kernel_rfl) (fun _ _ _ _ h => h) rfl ?_; apply Exists.intro; refine ⟨fun v1 hv1 => ?_, ?_⟩; (· (go_simp; rfl)); simp only [Act.put, List.setIfInBounds_toArray, List.set_cons_zero, List.set_cons_succ]
              refine anyT_two 1 16 rfl rfl (by kernel_rfl) rfl rfl ?_ ?_
              · unfold Oper.wp
                go_simp
                have k1 : Later Wd (Wd.alloc (.cells #[Value.int .u8 3, .int .u8 11, .int .u8 12] 5)) := (Below.refl _ _).alloc (Nat.le_refl _) _
                have b1 := heap_alloc_new Wd (.cells #[Value.int .u8 3, .int .u8 11, .int .u8 12] 5)
                refine ⟨KQ.of k1, ?_⟩
                generalize Wd.alloc (.cells #[Value.int .u8 3, .int .u8 11, .int .u8 12] 5) = W1 at *
                generalize Wd.heap.size = gb at *
                have lW1 : Later WB W1 := ld.trans k1
                have hc : ∀ v1, KQ WB.heap.size W1 v1 → v1.cell? ⟨gb, r, none⟩ = some (.int .u8 ty) := fun v1 h => (block_cell (h.2 _ _ b1 (.inr (by rintro ⟨c, f, e⟩; simp at e))) r).trans HTC.out
                refine anyT_val (KQ.pre _) 4 rfl (by kernel_rfl) (by kernel_rfl) (by kernel_rfl) (fun _ _ _ _ h => h) rfl ?_; apply Exists.intro; refine ⟨fun v1 hv1 => ?_, ?_⟩; (· (go_simp; rfl)); simp only [Act.put, List.setIfInBounds_toArray, List.set_cons_zero, List.set_cons_succ]
                refine anyT_val (KQ.pre _) 5 rfl (by kernel_rfl) (by kernel_rfl) (by kernel_rfl) (fun _ _ _ _ h => h) rfl ?_; apply Exists.intro; refine ⟨fun v1 hv1 => ?_, ?_⟩; (· (go_simp; rfl)); simp only [Act.put, List.setIfInBounds_toArray, List.set_cons_zero, List.set_cons_succ]
                clear hc
                refine anyT_val (KQ.pre _) 11 rfl (by kernel_rfl) (by kernel_rfl) (by kernel_rfl) (fun _ _ _ _ h => h) rfl ?_; apply Exists.intro; refine ⟨fun v1 hv1 => ?_, ?_⟩; (· (go_simp; rfl)); simp only [Act.put, List.setIfInBounds_toArray, List.set_cons_zero, List.set_cons_succ]
                refine anyT_two 12 16 rfl rfl (by kernel_rfl) rfl rfl ?_ ?_
                · skip
                  refine wp_enter 22 #[.agg #[.int .u8 tos2, .int .u16 id2, .bool keep2, .int .u8 ttl2, .int .u8 proto2, .int .u32 src2, .int .u32 dst2, .slice ao2 zo2.length co2, .slice ad2 zd2.length cd2], .agg #[.int .u8 ty, .int .u8 (n % 256), .int .u32 0, .slice ab kp cb]] (by go_simp; first | rfl | simp [IntKind.wrap, IntKind.bits, IntKind.signed]) ?_
                  refine (rbuildIcmp_any tos2 id2 ttl2 proto2 src2 dst2 ty (n % 256) 0 keep2 _ _ ad2 zd2.length cd2 zo2 mz W1 ((hIo2.below (hwB.trans (lW1.mono hwB.size))).mono (Nat.le_trans hwB.size lW1.size)) HBM.out (HRM.out W1 lW1) (by omega) (by have := HLM.out; omega) HTY.out (by omega) (by omega)).mono ?_
                  rw [HFL.out]
                  rintro e W2 ⟨hbW2, ⟨hxx, _⟩ | ⟨_, a7, c7, a8, c8, rfl, _, DW2⟩⟩
                  · exact absurd rfl hxx
                  have kW2 : Later W1 W2 := hbW2
                  refine ⟨KQ.of kW2, ?_⟩
                  simp only [Act.put, List.setIfInBounds_toArray, List.set_cons_zero, List.set_cons_succ]
                  refine anyT_val (KQ.pre _) 13 rfl (by kernel_rfl) (by kernel_rfl) (by kernel_rfl) (fun _ _ _ _ h => h) rfl ?_; apply Exists.intro; refine ⟨fun v1 hv1 => ?_, ?_⟩; (· (go_simp; rfl)); simp only [Act.put, List.setIfInBounds_toArray, List.set_cons_zero, List.set_cons_succ]
                  refine anyT_val (KQ.pre _) 14 rfl (by kernel_rfl) (by kernel_rfl) (by kernel_rfl) (fun _ _ _ _ h => h) rfl ?_; apply Exists.intro; refine ⟨fun v1 hv1 => ?_, ?_⟩; (· (go_simp; rfl)); simp only [Act.put, List.setIfInBounds_toArray, List.set_cons_zero, List.set_cons_succ]
                  refine anyT_val (KQ.pre _) 15 rfl (by kernel_rfl) (by kernel_rfl) (by kernel_rfl) (fun _ _ _ _ h => h) rfl ?_; apply Exists.intro; refine ⟨fun v1 hv1 => ?_, ?_⟩; (· (go_simp; rfl)); simp only [Act.put, List.setIfInBounds_toArray, List.set_cons_zero, List.set_cons_succ]
                  refine anyT_one 16 rfl (by kernel_rfl) rfl ?_
                  unfold Oper.wp
                  go_simp
                  have k6 : Later W2 (W2.alloc (.cells #[.int .u8 0, .int .u16 0, .bool false, .int .u8 0, .int .u8 0, .int .u32 0, .int .u32 0, .slice none 0 0, .slice none 0 0] 26)) := (Below.refl _ _).alloc (Nat.le_refl _) _
                  have g6 := heap_alloc_new W2 (.cells #[.int .u8 0, .int .u16 0, .bool false, .int .u8 0, .int .u8 0, .int .u32 0, .int .u32 0, .slice none 0 0, .slice none 0 0] 26)
                  have D6 := (DW2.ck (CK.of k6)).mono lW1.size
                  have b6 : Below WB.heap.size WB (W2.alloc (.cells #[.int .u8 0, .int .u16 0, .bool false, .int .u8 0, .int .u8 0, .int .u32 0, .int .u32 0, .slice none 0 0, .slice none 0 0] 26)) := lW1.trans (kW2.trans k6)
                  have hge : WB.heap.size ≤ W2.heap.size := Nat.le_trans lW1.size kW2.size
                  refine ⟨KQ.of k6, ?_⟩
                  generalize W2.alloc (.cells #[.int .u8 0, .int .u16 0, .bool false, .int .u8 0, .int .u8 0, .int .u32 0, .int .u32 0, .slice none 0 0, .slice none 0 0] 26) = W6 at *
                  generalize W2.heap.size = gp at *
                  have kg := block_cell g6
                  have fg := block_frozen g6
                  refine anyT_one 17 rfl (by kernel_rfl) rfl ?_
                  unfold Oper.wp
                  go_simp
                  generalize hV : ((((((((W6.setCell ⟨gp, 0, none⟩ _).setCell ⟨gp, 1, none⟩ _).setCell ⟨gp, 2, none⟩ _).setCell ⟨gp, 3, none⟩ _).setCell ⟨gp, 4, none⟩ _).setCell ⟨gp, 5, none⟩ _).setCell ⟨gp, 6, none⟩ _).setCell ⟨gp, 7, none⟩ _).setCell ⟨gp, 8, none⟩ _ = V
                  have hV8 : V = putRow W6 gp 0 [.int .u8 tos2, .int .u16 id2, .bool keep2, .int .u8 ttl2, .int .u8 1, .int .u32 src2, .int .u32 dst2, .slice a7 zo2.length c7, .slice a8 (8 + mz.length) c8] := hV.symm
                  have hbV : But (fun b => b = gp) W6 V := by rw [hV8]; exact putRow_but (E := fun b => b = gp) (n := gp) rfl _ _ _ _ (But.refl _ _)
                  have pV := putRow_all ([.int .u8 tos2, .int .u16 id2, .bool keep2, .int .u8 ttl2, .int .u8 1, .int .u32 src2, .int .u32 dst2, .slice a7 zo2.length c7, .slice a8 (8 + mz.length) c8] : List Value) g6 rfl
                  rw [← hV8] at pV
                  have DV := D6.setP g6 hbV
                  clear hV hV8 kg fg
                  refine ⟨KQ.set hge g6 hbV, ?_⟩
                  refine anyT_one 18 rfl (by kernel_rfl) rfl ?_
                  unfold Oper.wp
                  go_simp
                  refine ⟨KQ.refl _ _, ?_⟩
                  refine anyT_done (by kernel_rfl) ?_
                  have hbl : Below WB.heap.size WB V := b6.trans (hbV.below b6.size (fun k hk e => by omega))
                  go_wp2_with fail
                  go_meet
                  exact ⟨gp, a7, c7, a8, c8, rfl, rfl, pV, DV, hbl⟩
                · unfold Oper.wp
                  go_simp
                  have k5 : Later W1 (W1.alloc (.cells #[.int .u8 0, .int .u16 0, .bool false, .int .u8 0, .int .u8 0, .int .u32 0, .int .u32 0, .slice none 0 0, .slice none 0 0] 26)) := (Below.refl _ _).alloc (Nat.le_refl _) _
                  have g5 := heap_alloc_new W1 (.cells #[.int .u8 0, .int .u16 0, .bool false, .int .u8 0, .int .u8 0, .int .u32 0, .int .u32 0, .slice none 0 0, .slice none 0 0] 26)
                  have lW5 : Later WB (W1.alloc (.cells #[.int .u8 0, .int .u16 0, .bool false, .int .u8 0, .int .u8 0, .int .u32 0, .int .u32 0, .slice none 0 0, .slice none 0 0] 26)) := lW1.trans k5
                  have hge : WB.heap.size ≤ W1.heap.size := lW1.size
                  refine ⟨KQ.of k5, ?_⟩
                  generalize W1.alloc (.cells #[.int .u8 0, .int .u16 0, .bool false, .int .u8 0, .int .u8 0, .int .u32 0, .int .u32 0, .slice none 0 0, .slice none 0 0] 26) = W5 at *
                  generalize W1.heap.size = gp at *
                  refine anyT_one 12 rfl (by kernel_rfl) rfl ?_
                  refine wp_enter 22 #[.agg #[.int .u8 tos2, .int .u16 id2, .bool keep2, .int .u8 ttl2, .int .u8 proto2, .int .u32 src2, .int .u32 dst2, .slice ao2 zo2.length co2, .slice ad2 zd2.length cd2], .agg #[.int .u8 ty, .int .u8 (n % 256), .int .u32 0, .slice ab kp cb]] (by go_simp; first | rfl | simp [IntKind.wrap, IntKind.bits, IntKind.signed]) ?_
                  refine (rbuildIcmp_any tos2 id2 ttl2 proto2 src2 dst2 ty (n % 256) 0 keep2 _ _ ad2 zd2.length cd2 zo2 mz W5 ((hIo2.below (hwB.trans (lW5.mono hwB.size))).mono (Nat.le_trans hwB.size lW5.size)) HBM.out (HRM.out W5 lW5) (by omega) (by have := HLM.out; omega) HTY.out (by omega) (by omega)).mono ?_
                  rw [HFL.out]
                  rintro e W6 ⟨hbW6, ⟨hxx, _⟩ | ⟨_, a7, c7, a8, c8, rfl, _, DW6⟩⟩
                  · exact absurd rfl hxx
                  have kW6 : Later W5 W6 := hbW6
                  refine ⟨KQ.of kW6, ?_⟩
                  simp only [Act.put, List.setIfInBounds_toArray, List.set_cons_zero, List.set_cons_succ]
                  refine anyT_val (KQ.pre _) 13 rfl (by kernel_rfl) (by kernel_rfl) (by kernel_rfl) (fun _ _ _ _ h => h) rfl ?_; apply Exists.intro; refine ⟨fun v1 hv1 => ?_, ?_⟩; (· (go_simp; rfl)); simp only [Act.put, List.setIfInBounds_toArray, List.set_cons_zero, List.set_cons_succ]
                  refine anyT_val (KQ.pre _) 14 rfl (by kernel_rfl) (by kernel_rfl) (by kernel_rfl) (fun _ _ _ _ h => h) rfl ?_; apply Exists.intro; refine ⟨fun v1 hv1 => ?_, ?_⟩; (· (go_simp; rfl)); simp only [Act.put, List.setIfInBounds_toArray, List.set_cons_zero, List.set_cons_succ]
                  refine anyT_val (KQ.pre _) 15 rfl (by kernel_rfl) (by kernel_rfl) (by kernel_rfl) (fun _ _ _ _ h => h) rfl ?_; apply Exists.intro; refine ⟨fun v1 hv1 => ?_, ?_⟩; (· (go_simp; rfl)); simp only [Act.put, List.setIfInBounds_toArray, List.set_cons_zero, List.set_cons_succ]
                  have g6 := later_keep kW6 g5
                  have D6 := DW6.mono lW5.size
                  have b6 : Below WB.heap.size WB W6 := lW5.trans kW6
                  have kg := block_cell g6
                  have fg := block_frozen g6
                  refine anyT_one 17 rfl (by kernel_rfl) rfl ?_
                  unfold Oper.wp
                  go_simp
                  generalize hV : ((((((((W6.setCell ⟨gp, 0, none⟩ _).setCell ⟨gp, 1, none⟩ _).setCell ⟨gp, 2, none⟩ _).setCell ⟨gp, 3, none⟩ _).setCell ⟨gp, 4, none⟩ _).setCell ⟨gp, 5, none⟩ _).setCell ⟨gp, 6, none⟩ _).setCell ⟨gp, 7, none⟩ _).setCell ⟨gp, 8, none⟩ _ = V
                  have hV8 : V = putRow W6 gp 0 [.int .u8 tos2, .int .u16 id2, .bool keep2, .int .u8 ttl2, .int .u8 1, .int .u32 src2, .int .u32 dst2, .slice a7 zo2.length c7, .slice a8 (8 + mz.length) c8] := hV.symm
                  have hbV : But (fun b => b = gp) W6 V := by rw [hV8]; exact putRow_but (E := fun b => b = gp) (n := gp) rfl _ _ _ _ (But.refl _ _)
                  have pV := putRow_all ([.int .u8 tos2, .int .u16 id2, .bool keep2, .int .u8 ttl2, .int .u8 1, .int .u32 src2, .int .u32 dst2, .slice a7 zo2.length c7, .slice a8 (8 + mz.length) c8] : List Value) g6 rfl
                  rw [← hV8] at pV
                  have DV := D6.setP g6 hbV
                  clear hV hV8 kg fg
                  refine ⟨KQ.set hge g6 hbV, ?_⟩
                  refine anyT_one 18 rfl (by kernel_rfl) rfl ?_
                  unfold Oper.wp
                  go_simp
                  refine ⟨KQ.refl _ _, ?_⟩
                  refine anyT_done (by kernel_rfl) ?_
                  have hbl : Below WB.heap.size WB V := b6.trans (hbV.below b6.size (fun k hk e => by omega))
                  go_wp2_with fail
                  go_meet
                  exact ⟨gp, a7, c7, a8, c8, rfl, rfl, pV, DV, hbl⟩
              · unfold Oper.wp
                go_simp
                have k1 : Later Wd (Wd.alloc (.cells #[.int .u8 0, .int .u16 0, .bool false, .int .u8 0, .int .u8 0, .int .u32 0, .int .u32 0, .slice none 0 0, .slice none 0 0] 26)) := (Below.refl _ _).alloc (Nat.le_refl _) _
                have g1 := heap_alloc_new Wd (.cells #[.int .u8 0, .int .u16 0, .bool false, .int .u8 0, .int .u8 0, .int .u32 0, .int .u32 0, .slice none 0 0, .slice none 0 0] 26)
                refine ⟨KQ.of k1, ?_⟩
                have hge : WB.heap.size ≤ Wd.heap.size := hNd
                generalize Wd.alloc (.cells #[.int .u8 0, .int .u16 0, .bool false, .int .u8 0, .int .u8 0, .int .u32 0, .int .u32 0, .slice none 0 0, .slice none 0 0] 26) = W1 at *
                generalize Wd.heap.size = gp at *
                have lW1 : Later WB W1 := ld.trans k1
                refine anyT_one 1 rfl (by kernel_rfl) rfl ?_
                unfold Oper.wp
                go_simp
                have k5 : Later W1 (W1.alloc (.cells #[Value.int .u8 3, .int .u8 11, .int .u8 12] 5)) := (Below.refl _ _).alloc (Nat.le_refl _) _
                have b5 := heap_alloc_new W1 (.cells #[Value.int .u8 3, .int .u8 11, .int .u8 12] 5)
                have g5 := later_keep k5 g1
                refine ⟨KQ.of k5, ?_⟩
                have lW5 : Later WB (W1.alloc (.cells #[Value.int .u8 3, .int .u8 11, .int .u8 12] 5)) := lW1.trans k5
                generalize W1.alloc (.cells #[Value.int .u8 3, .int .u8 11, .int .u8 12] 5) = W5 at *
                generalize W1.heap.size = gb at *
                have hc : ∀ v1, KQ WB.heap.size W5 v1 → v1.cell? ⟨gb, r, none⟩ = some (.int .u8 ty) := fun v1 h => (block_cell (h.2 _ _ b5 (.inr (by rintro ⟨c, f, e⟩; simp at e))) r).trans HTC.out
                refine anyT_val (KQ.pre _) 4 rfl (by kernel_rfl) (by kernel_rfl) (by kernel_rfl) (fun _ _ _ _ h => h) rfl ?_; apply Exists.intro; refine ⟨fun v1 hv1 => ?_, ?_⟩; (· (go_simp; rfl)); simp only [Act.put, List.setIfInBounds_toArray, List.set_cons_zero, List.set_cons_succ]
                refine anyT_val (KQ.pre _) 5 rfl (by kernel_rfl) (by kernel_rfl) (by kernel_rfl) (fun _ _ _ _ h => h) rfl ?_; apply Exists.intro; refine ⟨fun v1 hv1 => ?_, ?_⟩; (· (go_simp; rfl)); simp only [Act.put, List.setIfInBounds_toArray, List.set_cons_zero, List.set_cons_succ]
                clear hc
                refine anyT_val (KQ.pre _) 11 rfl (by kernel_rfl) (by kernel_rfl) (by kernel_rfl) (fun _ _ _ _ h => h) rfl ?_; apply Exists.intro; refine ⟨fun v1 hv1 => ?_, ?_⟩; (· (go_simp; rfl)); simp only [Act.put, List.setIfInBounds_toArray, List.set_cons_zero, List.set_cons_succ]
                refine anyT_one 12 rfl (by kernel_rfl) rfl ?_
                refine wp_enter 22 #[.agg #[.int .u8 tos2, .int .u16 id2, .bool keep2, .int .u8 ttl2, .int .u8 proto2, .int .u32 src2, .int .u32 dst2, .slice ao2 zo2.length co2, .slice ad2 zd2.length cd2], .agg #[.int .u8 ty, .int .u8 (n % 256), .int .u32 0, .slice ab kp cb]] (by go_simp; first | rfl | simp [IntKind.wrap, IntKind.bits, IntKind.signed]) ?_
                refine (rbuildIcmp_any tos2 id2 ttl2 proto2 src2 dst2 ty (n % 256) 0 keep2 _ _ ad2 zd2.length cd2 zo2 mz W5 ((hIo2.below (hwB.trans (lW5.mono hwB.size))).mono (Nat.le_trans hwB.size lW5.size)) HBM.out (HRM.out W5 lW5) (by omega) (by have := HLM.out; omega) HTY.out (by omega) (by omega)).mono ?_
                rw [HFL.out]
                rintro e W6 ⟨hbW6, ⟨hxx, _⟩ | ⟨_, a7, c7, a8, c8, rfl, _, DW6⟩⟩
                · exact absurd rfl hxx
                have kW6 : Later W5 W6 := hbW6
                refine ⟨KQ.of kW6, ?_⟩
                simp only [Act.put, List.setIfInBounds_toArray, List.set_cons_zero, List.set_cons_succ]
                refine anyT_val (KQ.pre _) 13 rfl (by kernel_rfl) (by kernel_rfl) (by kernel_rfl) (fun _ _ _ _ h => h) rfl ?_; apply Exists.intro; refine ⟨fun v1 hv1 => ?_, ?_⟩; (· (go_simp; rfl)); simp only [Act.put, List.setIfInBounds_toArray, List.set_cons_zero, List.set_cons_succ]
                refine anyT_val (KQ.pre _) 14 rfl (by kernel_rfl) (by kernel_rfl) (by kernel_rfl) (fun _ _ _ _ h => h) rfl ?_; apply Exists.intro; refine ⟨fun v1 hv1 => ?_, ?_⟩; (· (go_simp; rfl)); simp only [Act.put, List.setIfInBounds_toArray, List.set_cons_zero, List.set_cons_succ]
                refine anyT_val (KQ.pre _) 15 rfl (by kernel_rfl) (by kernel_rfl) (by kernel_rfl) (fun _ _ _ _ h => h) rfl ?_; apply Exists.intro; refine ⟨fun v1 hv1 => ?_, ?_⟩; (· (go_simp; rfl)); simp only [Act.put, List.setIfInBounds_toArray, List.set_cons_zero, List.set_cons_succ]
                have g6 := later_keep kW6 g5
                have D6 := DW6.mono lW5.size
                have b6 : Below WB.heap.size WB W6 := lW5.trans kW6
                have kg := block_cell g6
                have fg := block_frozen g6
                refine anyT_one 17 rfl (by kernel_rfl) rfl ?_
                unfold Oper.wp
                go_simp
                generalize hV : ((((((((W6.setCell ⟨gp, 0, none⟩ _).setCell ⟨gp, 1, none⟩ _).setCell ⟨gp, 2, none⟩ _).setCell ⟨gp, 3, none⟩ _).setCell ⟨gp, 4, none⟩ _).setCell ⟨gp, 5, none⟩ _).setCell ⟨gp, 6, none⟩ _).setCell ⟨gp, 7, none⟩ _).setCell ⟨gp, 8, none⟩ _ = V
                have hV8 : V = putRow W6 gp 0 [.int .u8 tos2, .int .u16 id2, .bool keep2, .int .u8 ttl2, .int .u8 1, .int .u32 src2, .int .u32 dst2, .slice a7 zo2.length c7, .slice a8 (8 + mz.length) c8] := hV.symm
                have hbV : But (fun b => b = gp) W6 V := by rw [hV8]; exact putRow_but (E := fun b => b = gp) (n := gp) rfl _ _ _ _ (But.refl _ _)
                have pV := putRow_all ([.int .u8 tos2, .int .u16 id2, .bool keep2, .int .u8 ttl2, .int .u8 1, .int .u32 src2, .int .u32 dst2, .slice a7 zo2.length c7, .slice a8 (8 + mz.length) c8] : List Value) g6 rfl
                rw [← hV8] at pV
                have DV := D6.setP g6 hbV
                clear hV hV8 kg fg
                refine ⟨KQ.set hge g6 hbV, ?_⟩
                refine anyT_one 18 rfl (by kernel_rfl) rfl ?_
                unfold Oper.wp
                go_simp
                refine ⟨KQ.refl _ _, ?_⟩
                refine anyT_done (by kernel_rfl) ?_
                have hbl : Below WB.heap.size WB V := b6.trans (hbV.below b6.size (fun k hk e => by omega))
                go_wp2_with fail
                go_meet
                exact ⟨gp, a7, c7, a8, c8, rfl, rfl, pV, DV, hbl⟩
            case rest =>
              obtain ⟨gp, a7, c7, a8, c8, rfl, rfl, qc, Dc, hbc⟩ := hcut
              have lc : Later WB wc := hbc
              have hwc := hwB.trans (lc.mono hwB.size)
              have tc := later_keep lc tB
              have e0 : ((0 : Int) != 0) = false := by decide
              have kq := block_cell qc
              go_wp2_with fail
              clear kq e0
              refine (quoted_any tos2 id2 ttl2 1 src2 dst2 keep2 _ _ (icm ty (n % 256) 0 mz) wc (hT.below hwc hT.pos) HBQ.out Dc.rd (by have := HLQ.out; omega)).mono ?_
              rw [HM1.out, HM2.out]
              rintro e w5 ⟨hb5, rfl⟩
              have l5 : Later wc w5 := hb5
              have la5 : Later w5 (w5.alloc (.cells #[.int .u8 x0, .int .u32 x1, .int .u32 x2, .int .u16 x3, .int .u16 x4] 28)) := (Below.refl _ _).alloc (Nat.le_refl _) _
              have s5 := heap_alloc_new w5 (.cells #[.int .u8 x0, .int .u32 x1, .int .u32 x2, .int .u16 x3, .int .u16 x4] 28)
              have L5 := l5.trans la5
              have q5 := later_keep L5 qc
              have t5 := later_keep L5 tc
              have D5 := Dc.ck (CK.of L5)
              have hw5 := hwc.trans (L5.mono hwc.size)
              have kq := block_cell q5
              go_wp2_with fail
              clear kq
              generalize w5.alloc (.cells #[.int .u8 x0, .int .u32 x1, .int .u32 x2, .int .u16 x3, .int .u16 x4] 28) = W5 at *
              generalize w5.heap.size = gs at *
              refine (of_any tos2 id2 ttl2 1 src2 dst2 keep2 _ _ (icm ty (n % 256) 0 mz) W5 (hT.below hw5 hT.pos) HBQ.out D5.rd (by have := HLQ.out; omega) hsr2 hds2).mono ?_
              rw [HM3.out, otv_no (show (12 : Int) ≠ 0 by decide)]
              rintro e w6 ⟨hb6, rfl⟩
              have l6 : Later W5 w6 := hb6
              have la6 : Later w6 (w6.alloc (.cells #[.int .u8 0, .int .u32 0, .int .u32 0, .int .u16 0, .int .u16 0] 28)) := (Below.refl _ _).alloc (Nat.le_refl _) _
              have L6 := l6.trans la6
              have s6 := later_keep L6 s5
              have t6 := later_keep L6 t5
              have hw6 := hw5.trans (L6.mono hw5.size)
              go_wp2_with fail
              generalize w6.alloc (.cells #[.int .u8 0, .int .u32 0, .int .u32 0, .int .u16 0, .int .u16 0] 28) = W6 at *
              refine (live5_any W6).mono ?_
              rintro e w7 ⟨rfl, hb7⟩
              have l7 : Later W6 w7 := hb7
              have ks := block_cell (later_keep l7 s6)
              have kt := block_cell (later_keep l7 t6)
              have hw7 := hw6.trans (hb7.mono hw6.size)
              go_wp2_with fail
              go_ret
              exact ⟨by simp, hw7⟩
          · have t1 : ¬ (60000 : Int) < ((20 + zo.length + zd.length : Nat) : Int) := by omega
            have t2 : ¬ (40 : Int) < zo2.length := by omega
            have t3 : ((zo2.length : Int).tmod 4 != 0) = true := by rw [Int.tmod_eq_emod_of_nonneg (by omega)]; simp; omega
            have t4 : ((zo2.length : Int) % 4 != 0) = true := by simp; omega
            subst he
            go_wp2_with fail
            refine (live5_any _).mono ?_
            rintro e wl ⟨rfl, hbl⟩
            have hwl := hwB.trans (hbl.mono hwB.size)
            go_wp2_with fail
            go_ret
            exact ⟨rfl, hwl⟩
        · have t1 : ¬ (60000 : Int) < ((20 + zo.length + zd.length : Nat) : Int) := by omega
          have t2 : (40 : Int) < zo2.length := by omega
          subst he
          go_wp2_with fail
          refine (live5_any _).mono ?_
          rintro e wl ⟨rfl, hbl⟩
          have hwl := hwB.trans (hbl.mono hwB.size)
          go_wp2_with fail
          go_ret
          exact ⟨rfl, hwl⟩
      · have t1 : (60000 : Int) < ((20 + zo.length + zd.length : Nat) : Int) := by omega
        subst he
        go_wp2_with fail
        refine (live5_any _).mono ?_
        rintro e wl ⟨rfl, hbl⟩
        have hwl := hwB.trans (hbl.mono hwB.size)
        go_wp2_with fail
        go_ret
        exact ⟨rfl, hwl⟩
    · have hne : (ee != 0) = true := by simp [he]
      clear he
      go_wp2_with fail
      refine (live5_any _).mono ?_
      rintro e wl ⟨rfl, hbl⟩
      have hwl := hwB.trans (hbl.mono hwB.size)
      go_wp2_with fail
      go_ret
      exact ⟨rfl, hwl⟩
  · have hfn : (flt zo.length zd.length != 0) = true := by simp [hfl]
    refine (rbuild_no tos id ttl proto src dst keep _ _ zo.length _ zd.length _ W2 (by omega) (by omega) hfl).mono ?_
    generalize flt zo.length zd.length = ff at *
    rintro e WB ⟨rfl, hbB⟩
    have hwB := hw2.trans (Below.mono hbB hw2.size)
    clear hfl
    by_cases he : ee = 0
    · subst he
      go_wp2_with fail
      refine (live5_any _).mono ?_
      rintro e wl ⟨rfl, hbl⟩
      have hwl := hwB.trans (hbl.mono hwB.size)
      go_wp2_with fail
      go_ret
      exact ⟨rfl, hwl⟩
    · have hne : (ee != 0) = true := by simp [he]
      clear he
      go_wp2_with fail
      refine (live5_any _).mono ?_
      rintro e wl ⟨rfl, hbl⟩
      have hwl := hwB.trans (hbl.mono hwB.size)
      go_wp2_with fail
      go_ret
      exact ⟨rfl, hwl⟩
end Go.Proofs.YtojoaidnkljcpaaDoor
