/- Several texts in one. -/
import Derived.Test.YtaaanmjmgnpcgaaGT
import Derived.Test.YtaaanmjmgnpcgaaOpJ
import Derived.Test.YtaaanmjmgnpcgaaW8
/- The law's play: parts added to both streams. -/
namespace Go.Proofs.Ytaaanmjmgnpcgaa
open Go.RowKit Go.Shelf
set_option maxRecDepth 100000
set_option linter.unusedVariables false
set_option linter.unusedSimpArgs false

def zAp : Ap := ⟨0, 0, undef, []⟩
def toT (d : Ap) : Tx := ⟨d.s, d.wz, d.zs⟩
/-- The parts behind the first k of a list. -/
def plT (ds : List Ap) : Nat → List Tx
  | 0 => []
  | k + 1 => addT (plT ds k) (toT (ds[k]?.getD zAp))
theorem plT_len (ds : List Ap) : ∀ k, (plT ds k).length ≤ 8
  | 0 => by simp [plT]
  | k + 1 => addT_len _ _ (plT_len ds k)
theorem plT_next {ds : List Ap} {k : Nat} (h : k < ds.length) : plT ds (k + 1) = addT (plT ds k) (toT ds[k]) := by
  show addT (plT ds k) (toT (ds[k]?.getD zAp)) = _
  rw [List.getElem?_eq_getElem h]
  rfl
theorem DS.base {t : TypeId} {base base' : Nat} {W : World} {b : Nat} {v : Value} {l : List Dp} (h : DS t base W b v l) (hb : base' ≤ base) : DS t base' W b v l := by
  refine ⟨Nat.le_trans hb h.1, h.2.1, ?_⟩
  obtain ⟨h1, h2 | ⟨g, cap, cur, e, hg, r⟩⟩ := h.2.2
  · exact ⟨h1, .inl h2⟩
  · exact ⟨h1, .inr ⟨g, cap, cur, e, Nat.le_trans hb hg, r⟩⟩

set_option maxHeartbeats 8000000 in
theorem play11_any (sv : Value) (ds : List Ap) (w : World) (n₀ : Nat) (hn : n₀ ≤ w.heap.size) (hI : RdA n₀ w sv ds) :
    Calls Try.prog 9 #[sv] w fun e w' => Later w w' ∧ ∃ a b, e = .returned (.tuple #[.pointer (some ⟨a, 0, none⟩), .pointer (some ⟨b, 0, none⟩), .bool true]) ∧ PR w.heap.size w' a b (plT ds (min ds.length 30)) := by
  obtain ⟨aa, ca, rfl, ha1, ha2⟩ := hI.slice
  have HI := hide hI
  clear hI
  go_enter Try.func9, Try.ntmps9
  go_wp2_with fail
  refine (snew_any w).mono ?_
  rintro e w1 ⟨rfl, l1, hT1⟩
  have hs1 : w.heap.size ≤ w1.heap.size := l1.size
  go_wp2_with fail
  refine (rsnew_any w1).mono ?_
  rintro e w2 ⟨rfl, l2, hR2⟩
  have hPE : PR w.heap.size w2 w.heap.size w1.heap.size [] := ⟨_, _, _, _, hT1.later l2, hR2.base hs1, .nil, fun g h => by cases h⟩
  have L2 : Below w.heap.size w w2 := Later.trans l1 l2
  clear hT1 hR2 l1 l2
  generalize w1.heap.size = rb at *
  generalize hB : w.heap.size = b at *
  have HB := hide hB
  clear hB
  go_wp2_with fail
  go_loopw [7] (fun i wr => ∃ k : Nat, k ≤ ds.length ∧ k ≤ 30 ∧ i = .int .i64 (k : Int) ∧ PR b wr b rb (plT ds k) ∧ Below b w wr) (fun i _ => 30 - (intOf i).toNat)
  case atStart => exact ⟨0, by omega, by omega, rfl, hPE, L2⟩
  case round =>
    obtain ⟨k, hk1, hk2, rfl, hP, hbw⟩ := hrel
    have hsz := hbw.size
    by_cases hgo : k < ds.length ∧ k < 30
    · obtain ⟨g1, g2⟩ := hgo
      have g1' : (k : Int) < ds.length := by omega
      have g2' : (k : Int) < 30 := by omega
      have hRk := HI.out.below (hbw.mono hn)
      obtain ⟨bb, off, cp, e, _, _, hbb, hcs⟩ := hRk.cells (by omega)
      simp at e
      obtain ⟨rfl, rfl⟩ := e
      have d0 := hcs k g1 0 (by omega)
      have d1 := hcs k g1 1 (by omega)
      have d2 := hcs k g1 2 (by omega)
      obtain ⟨hxs, hxw, hxb, hxr⟩ := hRk.2 ds[k] (List.getElem_mem _)
      have HPN := hide (plT_next g1)
      have HLN := hide (plT_len ds k)
      clear hcs hRk
      generalize ds[k] = x at *
      simp only [apc, List.getElem?_cons_zero, List.getElem?_cons_succ, Nat.add_zero] at d0 d1 d2
      obtain ⟨at0, ct0, htv, _, _⟩ := hxr.slice
      rw [htv] at d2
      have HXR := hide (fun W (h : Below n₀ wr W) => (Rd.below h hxr))
      clear hxr
      obtain ⟨va, vb, lp, ld, h1, h2, hRT, h3⟩ := hP
      have hlp : lp.length ≤ 8 := by rw [hRT.rs.len, hRT.len]; exact HLN.out
      have hld : ld.length ≤ 8 := by rw [hRT.len]; exact HLN.out
      generalize hT : plT ds k = T at *
      have HT := hide hT
      clear hT
      have hnb : n₀ ≤ b := by have := HB.out; omega
      have hbr : b ≤ wr.heap.size := by have := HB.out; omega
      go_upto_region 5 with fail
      refine anyT_begin (R := But (Eb b wr.heap.size)) 35 rfl (by kernel_rfl) ?_
      have ld0 : Later wr wr.drew := Later.drew wr
      have c0 : ∀ v1, But (Eb b wr.heap.size) wr.drew v1 → v1.cell? ⟨bb, off + k * 3, none⟩ = some (.int .u32 x.s) := fun v1 hv => hv.cell (ld0.cell d0) (fun e => by have := e.1; simp at this; omega)
      have c1 : ∀ v1, But (Eb b wr.heap.size) wr.drew v1 → v1.cell? ⟨bb, off + k * 3 + 1, none⟩ = some (.int .i64 x.wz) := fun v1 hv => hv.cell (ld0.cell d1) (fun e => by have := e.1; simp at this; omega)
      have c2 : ∀ v1, But (Eb b wr.heap.size) wr.drew v1 → v1.cell? ⟨bb, off + k * 3 + 2, none⟩ = some (.slice at0 x.zs.length ct0) := fun v1 hv => hv.cell (ld0.cell d2) (fun e => by have := e.1; simp at this; omega)
      generalize wr.drew = Wd at *
      clear d0 d1 d2
      refine anyT_val (But.pre _) 0 rfl (by kernel_rfl) (by kernel_rfl) (by kernel_rfl) (fun _ _ _ _ h => h) rfl ?_; apply Exists.intro; refine ⟨fun v1 hv1 => ?_, ?_⟩; (· (go_simp; rfl)); simp only [Act.put, List.setIfInBounds_toArray, List.set_cons_zero, List.set_cons_succ]
      refine anyT_val (But.pre _) 1 rfl (by kernel_rfl) (by kernel_rfl) (by kernel_rfl) (fun _ _ _ _ h => h) rfl ?_; apply Exists.intro; refine ⟨fun v1 hv1 => ?_, ?_⟩; (· (go_simp; rfl)); simp only [Act.put, List.setIfInBounds_toArray, List.set_cons_zero, List.set_cons_succ]
      refine anyT_val (But.pre _) 2 rfl (by kernel_rfl) (by kernel_rfl) (by kernel_rfl) (fun _ _ _ _ h => h) rfl ?_; apply Exists.intro; refine ⟨fun v1 hv1 => ?_, ?_⟩; (· (go_simp; rfl)); simp only [Act.put, List.setIfInBounds_toArray, List.set_cons_zero, List.set_cons_succ]
      refine anyT_val (But.pre _) 3 rfl (by kernel_rfl) (by kernel_rfl) (by kernel_rfl) (fun _ _ _ _ h => h) rfl ?_; apply Exists.intro; refine ⟨fun v1 hv1 => ?_, ?_⟩; (· (go_simp; rfl)); simp only [Act.put, List.setIfInBounds_toArray, List.set_cons_zero, List.set_cons_succ]
      refine anyT_val (But.pre _) 4 rfl (by kernel_rfl) (by kernel_rfl) (by kernel_rfl) (fun _ _ _ _ h => h) rfl ?_; apply Exists.intro; refine ⟨fun v1 hv1 => ?_, ?_⟩; (· (go_simp; rfl)); simp only [Act.put, List.setIfInBounds_toArray, List.set_cons_zero, List.set_cons_succ]
      refine anyT_val (But.pre _) 5 rfl (by kernel_rfl) (by kernel_rfl) (by kernel_rfl) (fun _ _ _ _ h => h) rfl ?_; apply Exists.intro; refine ⟨fun v1 hv1 => ?_, ?_⟩; (· (go_simp; rfl)); simp only [Act.put, List.setIfInBounds_toArray, List.set_cons_zero, List.set_cons_succ]
      refine anyT_val (But.pre _) 6 rfl (by kernel_rfl) (by kernel_rfl) (by kernel_rfl) (fun _ _ _ _ h => h) rfl ?_; apply Exists.intro; refine ⟨fun v1 hv1 => ?_, ?_⟩; (· (go_simp; rfl)); simp only [Act.put, List.setIfInBounds_toArray, List.set_cons_zero, List.set_cons_succ]
      refine anyT_val (But.pre _) 7 rfl (by kernel_rfl) (by kernel_rfl) (by kernel_rfl) (fun _ _ _ _ h => h) rfl ?_; apply Exists.intro; refine ⟨fun v1 hv1 => ?_, ?_⟩; (· (go_simp; rfl)); simp only [Act.put, List.setIfInBounds_toArray, List.set_cons_zero, List.set_cons_succ]
      refine anyT_val (But.pre _) 8 rfl (by kernel_rfl) (by kernel_rfl) (by kernel_rfl) (fun _ _ _ _ h => h) rfl ?_; apply Exists.intro; refine ⟨fun v1 hv1 => ?_, ?_⟩; (· (go_simp; rfl)); simp only [Act.put, List.setIfInBounds_toArray, List.set_cons_zero, List.set_cons_succ]
      refine anyT_val (But.pre _) 9 rfl (by kernel_rfl) (by kernel_rfl) (by kernel_rfl) (fun _ _ _ _ h => h) rfl ?_; apply Exists.intro; refine ⟨fun v1 hv1 => ?_, ?_⟩; (· (go_simp; rfl)); simp only [Act.put, List.setIfInBounds_toArray, List.set_cons_zero, List.set_cons_succ]
      refine anyT_val (But.pre _) 10 rfl (by kernel_rfl) (by kernel_rfl) (by kernel_rfl) (fun _ _ _ _ h => h) rfl ?_; apply Exists.intro; refine ⟨fun v1 hv1 => ?_, ?_⟩; (· (go_simp; rfl)); simp only [Act.put, List.setIfInBounds_toArray, List.set_cons_zero, List.set_cons_succ]
      refine anyT_val (But.pre _) 11 rfl (by kernel_rfl) (by kernel_rfl) (by kernel_rfl) (fun _ _ _ _ h => h) rfl ?_; apply Exists.intro; refine ⟨fun v1 hv1 => ?_, ?_⟩; (· (go_simp; rfl)); simp only [Act.put, List.setIfInBounds_toArray, List.set_cons_zero, List.set_cons_succ]
      refine anyT_val (But.pre _) 12 rfl (by kernel_rfl) (by kernel_rfl) (by kernel_rfl) (fun _ _ _ _ h => h) rfl ?_; apply Exists.intro; refine ⟨fun v1 hv1 => ?_, ?_⟩; (· (go_simp; rfl)); simp only [Act.put, List.setIfInBounds_toArray, List.set_cons_zero, List.set_cons_succ]
      refine anyT_val (But.pre _) 13 rfl (by kernel_rfl) (by kernel_rfl) (by kernel_rfl) (fun _ _ _ _ h => h) rfl ?_; apply Exists.intro; refine ⟨fun v1 hv1 => ?_, ?_⟩; (· (go_simp; rfl)); simp only [Act.put, List.setIfInBounds_toArray, List.set_cons_zero, List.set_cons_succ]
      refine anyT_val (But.pre _) 14 rfl (by kernel_rfl) (by kernel_rfl) (by kernel_rfl) (fun _ _ _ _ h => h) rfl ?_; apply Exists.intro; refine ⟨fun v1 hv1 => ?_, ?_⟩; (· (go_simp; rfl)); simp only [Act.put, List.setIfInBounds_toArray, List.set_cons_zero, List.set_cons_succ]
      refine anyT_val (But.pre _) 15 rfl (by kernel_rfl) (by kernel_rfl) (by kernel_rfl) (fun _ _ _ _ h => h) rfl ?_; apply Exists.intro; refine ⟨fun v1 hv1 => ?_, ?_⟩; (· (go_simp; rfl)); simp only [Act.put, List.setIfInBounds_toArray, List.set_cons_zero, List.set_cons_succ]
      refine anyT_val (But.pre _) 17 rfl (by kernel_rfl) (by kernel_rfl) (by kernel_rfl) (fun _ _ _ _ h => h) rfl ?_; apply Exists.intro; refine ⟨fun v1 hv1 => ?_, ?_⟩; (· (go_simp; rfl)); simp only [Act.put, List.setIfInBounds_toArray, List.set_cons_zero, List.set_cons_succ]
      refine anyT_val (But.pre _) 18 rfl (by kernel_rfl) (by kernel_rfl) (by kernel_rfl) (fun _ _ _ _ h => h) rfl ?_; apply Exists.intro; refine ⟨fun v1 hv1 => ?_, ?_⟩; (· (go_simp; rfl)); simp only [Act.put, List.setIfInBounds_toArray, List.set_cons_zero, List.set_cons_succ]
      refine anyT_val (But.pre _) 19 rfl (by kernel_rfl) (by kernel_rfl) (by kernel_rfl) (fun _ _ _ _ h => h) rfl ?_; apply Exists.intro; refine ⟨fun v1 hv1 => ?_, ?_⟩; (· (go_simp; rfl)); simp only [Act.put, List.setIfInBounds_toArray, List.set_cons_zero, List.set_cons_succ]
      refine anyT_val (But.pre _) 20 rfl (by kernel_rfl) (by kernel_rfl) (by kernel_rfl) (fun _ _ _ _ h => h) rfl ?_; apply Exists.intro; refine ⟨fun v1 hv1 => ?_, ?_⟩; (· (go_simp; rfl)); simp only [Act.put, List.setIfInBounds_toArray, List.set_cons_zero, List.set_cons_succ]
      refine anyT_val (But.pre _) 21 rfl (by kernel_rfl) (by kernel_rfl) (by kernel_rfl) (fun _ _ _ _ h => h) rfl ?_; apply Exists.intro; refine ⟨fun v1 hv1 => ?_, ?_⟩; (· (go_simp; rfl)); simp only [Act.put, List.setIfInBounds_toArray, List.set_cons_zero, List.set_cons_succ]
      refine anyT_val (But.pre _) 22 rfl (by kernel_rfl) (by kernel_rfl) (by kernel_rfl) (fun _ _ _ _ h => h) rfl ?_; apply Exists.intro; refine ⟨fun v1 hv1 => ?_, ?_⟩; (· (go_simp; rfl)); simp only [Act.put, List.setIfInBounds_toArray, List.set_cons_zero, List.set_cons_succ]
      refine anyT_val (But.pre _) 23 rfl (by kernel_rfl) (by kernel_rfl) (by kernel_rfl) (fun _ _ _ _ h => h) rfl ?_; apply Exists.intro; refine ⟨fun v1 hv1 => ?_, ?_⟩; (· (go_simp; rfl)); simp only [Act.put, List.setIfInBounds_toArray, List.set_cons_zero, List.set_cons_succ]
      refine anyT_val (But.pre _) 24 rfl (by kernel_rfl) (by kernel_rfl) (by kernel_rfl) (fun _ _ _ _ h => h) rfl ?_; apply Exists.intro; refine ⟨fun v1 hv1 => ?_, ?_⟩; (· (go_simp; rfl)); simp only [Act.put, List.setIfInBounds_toArray, List.set_cons_zero, List.set_cons_succ]
      refine anyT_val (But.pre _) 25 rfl (by kernel_rfl) (by kernel_rfl) (by kernel_rfl) (fun _ _ _ _ h => h) rfl ?_; apply Exists.intro; refine ⟨fun v1 hv1 => ?_, ?_⟩; (· (go_simp; rfl)); simp only [Act.put, List.setIfInBounds_toArray, List.set_cons_zero, List.set_cons_succ]
      refine anyT_val (But.pre _) 26 rfl (by kernel_rfl) (by kernel_rfl) (by kernel_rfl) (fun _ _ _ _ h => h) rfl ?_; apply Exists.intro; refine ⟨fun v1 hv1 => ?_, ?_⟩; (· (go_simp; rfl)); simp only [Act.put, List.setIfInBounds_toArray, List.set_cons_zero, List.set_cons_succ]
      refine anyT_val (But.pre _) 27 rfl (by kernel_rfl) (by kernel_rfl) (by kernel_rfl) (fun _ _ _ _ h => h) rfl ?_; apply Exists.intro; refine ⟨fun v1 hv1 => ?_, ?_⟩; (· (go_simp; rfl)); simp only [Act.put, List.setIfInBounds_toArray, List.set_cons_zero, List.set_cons_succ]
      refine anyT_val (But.pre _) 28 rfl (by kernel_rfl) (by kernel_rfl) (by kernel_rfl) (fun _ _ _ _ h => h) rfl ?_; apply Exists.intro; refine ⟨fun v1 hv1 => ?_, ?_⟩; (· (go_simp; rfl)); simp only [Act.put, List.setIfInBounds_toArray, List.set_cons_zero, List.set_cons_succ]
      refine anyT_val (But.pre _) 29 rfl (by kernel_rfl) (by kernel_rfl) (by kernel_rfl) (fun _ _ _ _ h => h) rfl ?_; apply Exists.intro; refine ⟨fun v1 hv1 => ?_, ?_⟩; (· (go_simp; rfl)); simp only [Act.put, List.setIfInBounds_toArray, List.set_cons_zero, List.set_cons_succ]
      refine anyT_val (But.pre _) 30 rfl (by kernel_rfl) (by kernel_rfl) (by kernel_rfl) (fun _ _ _ _ h => h) rfl ?_; apply Exists.intro; refine ⟨fun v1 hv1 => ?_, ?_⟩; (· (go_simp; rfl)); simp only [Act.put, List.setIfInBounds_toArray, List.set_cons_zero, List.set_cons_succ]
      refine anyT_val (But.pre _) 31 rfl (by kernel_rfl) (by kernel_rfl) (by kernel_rfl) (fun _ _ _ _ h => h) rfl ?_; apply Exists.intro; refine ⟨fun v1 hv1 => ?_, ?_⟩; (· (go_simp; rfl)); simp only [Act.put, List.setIfInBounds_toArray, List.set_cons_zero, List.set_cons_succ]
      refine anyT_val (But.pre _) 32 rfl (by kernel_rfl) (by kernel_rfl) (by kernel_rfl) (fun _ _ _ _ h => h) rfl ?_; apply Exists.intro; refine ⟨fun v1 hv1 => ?_, ?_⟩; (· (go_simp; rfl)); simp only [Act.put, List.setIfInBounds_toArray, List.set_cons_zero, List.set_cons_succ]
      clear c0 c1 c2
      refine anyT_one 16 rfl (by kernel_rfl) rfl ?_
      refine wp_enter 13 #[.pointer (some ⟨b, 0, none⟩), .int .u32 x.s, .int .i64 x.wz, .slice at0 x.zs.length ct0] (by go_simp) ?_
      have hsd := ld0.size
      refine (sadd_any b b va lp x.s x.wz (.slice at0 x.zs.length ct0) x.zs Wd (h1.later ld0) (by omega) (by omega) hxs (by rw [← htv]; exact (HXR.out Wd (Below.mono ld0 (by omega))).mono (by omega))).mono ?_
      rintro e W1 ⟨rfl, q1⟩
      obtain ⟨l1', qq1⟩ := q1.but
      obtain ⟨hB1, b1⟩ := PR.one h1 h2 h3 ld0 qq1
      refine ⟨b1, ?_⟩
      simp only [Act.put, List.setIfInBounds_toArray, List.set_cons_zero, List.set_cons_succ]
      have hs1 := b1.size
      refine anyT_one 33 rfl (by kernel_rfl) rfl ?_
      refine wp_enter 25 #[.pointer (some ⟨rb, 0, none⟩), .int .u32 x.s, .int .i64 x.wz, .slice at0 x.zs.length ct0] (by go_simp) ?_
      have hbl1 : Below n₀ wr W1 := (Below.mono ld0 (by omega)).trans (b1.below (by omega) (fun g hg e => by have := e.1; omega))
      refine (rsadd_any b rb vb ld x.s x.wz (.slice at0 x.zs.length ct0) x.zs W1 hB1 (by omega) (by omega) (by rw [← htv]; exact (HXR.out W1 hbl1).mono (by omega))).mono ?_
      rintro e W2 ⟨rfl, q2⟩
      obtain ⟨l2', qq2⟩ := q2.but
      have b2 : But (Eb b wr.heap.size) W1 W2 := DSq.eb h2 qq2
      refine ⟨b2, ?_⟩
      simp only [Act.put, List.setIfInBounds_toArray, List.set_cons_zero, List.set_cons_succ]
      have HPA := hide (PR.add (t := toT x) h1 h2 hRT h3 ld0 q1 q2 hxs)
      have hre : adS lp x.s x.wz x.zs.length = adD ld x.s x.wz x.zs.length := hRT.rs.ad _ _ _
      rw [hre]
      clear hre
      generalize adD ld x.s x.wz x.zs.length = z at *
      refine anyT_val (But.pre _) 34 rfl (by kernel_rfl) (by kernel_rfl) (by kernel_rfl) (fun _ _ _ _ h => h) rfl ?_; apply Exists.intro; refine ⟨fun v1 hv1 => ?_, ?_⟩; (· (go_simp; rfl)); simp only [Act.put, List.setIfInBounds_toArray, List.set_cons_zero, List.set_cons_succ]
      refine anyT_done (by kernel_rfl) ?_
      have hbw2 : Below b w W2 := hbw.trans ((Below.mono ld0 (by omega)).trans ((b1.trans b2).below (by omega) (fun g hg e => by have := e.1; omega)))
      have HBW := hide hbw2
      clear hbw2
      go_wp2_with fail
      go_roundw
      case rel => exact ⟨k + 1, by omega, by omega, by simp, by rw [HPN.out]; exact HPA.out, HBW.out⟩
      case measure => simp [intOf]; omega
    · have hm : min ds.length 30 = k := by omega
      have HM := hide hm
      have HP := hide hP
      clear hm hP
      rcases (show ¬ k < ds.length ∨ (k < ds.length ∧ ¬ k < 30) by omega) with h | ⟨h, h'⟩
      · have g1' : ¬ (k : Int) < ds.length := by omega
        go_wp2_with fail
        refine bodyPost_ret (v := .tuple #[.pointer (some ⟨b, 0, none⟩), .pointer (some ⟨rb, 0, none⟩), .bool true]) (by simp [results, Try.results9, go_sem]) rfl ?_
        exact ⟨by show Below w.heap.size w _; rw [HB.out]; exact hbw, b, rb, rfl, by rw [HM.out, HB.out]; exact HP.out⟩
      · have g1' : (k : Int) < ds.length := by omega
        have g2' : ¬ (k : Int) < 30 := by omega
        go_wp2_with fail
        refine bodyPost_ret (v := .tuple #[.pointer (some ⟨b, 0, none⟩), .pointer (some ⟨rb, 0, none⟩), .bool true]) (by simp [results, Try.results9, go_sem]) rfl ?_
        exact ⟨by show Below w.heap.size w _; rw [HB.out]; exact hbw, b, rb, rfl, by rw [HM.out, HB.out]; exact HP.out⟩
end Go.Proofs.Ytaaanmjmgnpcgaa

/- The law's near and inside. -/
namespace Go.Proofs.Ytaaanmjmgnpcgaa
open Go.RowKit Go.Shelf
set_option maxRecDepth 100000
set_option linter.unusedVariables false
set_option linter.unusedSimpArgs false

/-- The document's stream alone holds these parts. -/
def DT (base : Nat) (W : World) (b : Nat) (T : List Tx) : Prop := ∃ v ld, DS 71 base W b v ld ∧ ld.map strp = T.map tdp
theorem DT.add {base : Nat} {W W1 : World} {b : Nat} {v : Value} {ld : List Dp} {T : List Tx} {t : Tx} (hs : ld.map strp = T.map tdp) (q : AdD base W W1 b v ld t.s t.wz t.zs) : DT base W1 b (addT T t) := by
  have e2 : adD ld t.s t.wz t.zs.length = adT T t.s t.wz t.zs.length := by unfold adT; rw [← hs, adD_strp]
  unfold AdD at q
  rw [e2] at q
  unfold addT
  rcases q with ⟨h0, v', h, _⟩ | ⟨h0, ta, tc, ⟨v', h, _⟩, _⟩
  · rw [if_neg h0]; exact ⟨v', ld, h, hs⟩
  · rw [if_pos h0]; exact ⟨v', _, h, by rw [List.map_append, List.map_append, hs]; rfl⟩
/-- What near tells. -/
def NrQ (w w' : World) (e : Ending) (P : Prop) : Prop := ∃ r : Bool, e = .returned (.bool r) ∧ Below w.heap.size w w' ∧ (r = true → P)
def InQ (w w' : World) (e : Ending) (P : Prop) : Prop := ∃ r : Bool, e = .returned (.bool r) ∧ Below w.heap.size w w' ∧ (r = false → P)
/-- The first part's start. -/
def hdT (T : List Tx) : Int := (T.head?.map Tx.s).getD 0
def NearP (T : List Tx) (n : Int) : Prop := T ≠ [] → (∀ t ∈ T, 0 ≤ ahd t.s (hdT T) ∧ ahd t.s (hdT T) ≤ 536870912) ∧ -1073741824 < ahd n (hdT T) ∧ ahd n (hdT T) < 1073741824
theorem hdT_snoc {T : List Tx} (t : Tx) (h : T.isEmpty = false) : hdT (T ++ [t]) = hdT T := by 
  cases T with
  | nil => cases h
  | cons a l => rfl
theorem addT_yes {T : List Tx} {t : Tx} (h : adT T t.s t.wz t.zs.length = 0) : addT T t = T ++ [t] := if_pos h
theorem addT_no {T : List Tx} {t : Tx} (h : ¬ adT T t.s t.wz t.zs.length = 0) : addT T t = T := if_neg h

set_option maxHeartbeats 8000000 in
theorem near_any (sv : Value) (ds : List Ap) (n : Int) (w : World) (n₀ : Nat) (hn : n₀ ≤ w.heap.size) (hI : RdA n₀ w sv ds) :
    Calls Try.prog 16 #[sv, .int .u32 n] w fun e w' => NrQ w w' e (NearP (plT ds (min ds.length 30)) n) := by
  obtain ⟨aa, ca, rfl, ha1, ha2⟩ := hI.slice
  have HI := hide hI
  clear hI
  go_enter Try.func16, Try.ntmps16
  go_wp2_with fail
  refine (rsnew_any w).mono ?_
  rintro e w1 ⟨rfl, l1, hT1⟩
  have hPE : DT w.heap.size w1 w.heap.size [] := ⟨_, _, hT1, rfl⟩
  have L1 : Below w.heap.size w w1 := l1
  clear hT1 l1
  generalize hB : w.heap.size = b at *
  have HB := hide hB
  clear hB
  go_wp2_with fail
  go_loopw [5, 6, 8] (fun fi bg i wr => ∃ k : Nat, k ≤ ds.length ∧ k ≤ 30 ∧ fi = .bool (plT ds k).isEmpty ∧ bg = .int .u32 (hdT (plT ds k)) ∧ i = .int .i64 (k : Int) ∧ DT b wr b (plT ds k) ∧ Below b w wr ∧ ∀ t ∈ plT ds k, 0 ≤ ahd t.s (hdT (plT ds k)) ∧ ahd t.s (hdT (plT ds k)) ≤ 536870912) (fun _ _ i _ => 30 - (intOf i).toNat)
  case atStart => exact ⟨0, by omega, by omega, rfl, rfl, rfl, hPE, L1, fun t ht => by simp [plT] at ht⟩
  case round =>
    obtain ⟨k, hk1, hk2, rfl, rfl, rfl, hP, hbw, hnr⟩ := hrel
    have hsz := hbw.size
    have HNR := hide hnr
    clear hnr
    by_cases hgo : k < ds.length ∧ k < 30
    · obtain ⟨g1, g2⟩ := hgo
      have g1' : (k : Int) < ds.length := by omega
      have g2' : (k : Int) < 30 := by omega
      have hRk := HI.out.below (hbw.mono hn)
      obtain ⟨bb, off, cp, e, _, _, hbb, hcs⟩ := hRk.cells (by omega)
      simp at e
      obtain ⟨rfl, rfl⟩ := e
      have d0 := hcs k g1 0 (by omega)
      have d1 := hcs k g1 1 (by omega)
      have d2 := hcs k g1 2 (by omega)
      obtain ⟨hxs, hxw, hxb, hxr⟩ := hRk.2 ds[k] (List.getElem_mem _)
      have HPN := hide (plT_next g1)
      have HLN := hide (plT_len ds k)
      clear hcs hRk
      generalize ds[k] = x at *
      simp only [apc, List.getElem?_cons_zero, List.getElem?_cons_succ, Nat.add_zero] at d0 d1 d2
      obtain ⟨at0, ct0, htv, _, _⟩ := hxr.slice
      rw [htv] at d2
      have HXR := hide (fun W (h : Below n₀ wr W) => (Rd.below h hxr))
      clear hxr
      obtain ⟨vb, ld, h2, hst⟩ := hP
      have hld : ld.length ≤ 8 := by have := congrArg List.length hst; simp at this; rw [this]; exact HLN.out
      have HST := hide hst
      clear hst
      have hnb : n₀ ≤ b := by have := HB.out; omega
      have hbr : b ≤ wr.heap.size := by have := HB.out; omega
      go_upto_region 7 with fail
      refine anyT_begin (R := But (Eb b wr.heap.size)) 18 rfl (by kernel_rfl) ?_
      have ld0 : Later wr wr.drew := Later.drew wr
      have c0 : ∀ v1, But (Eb b wr.heap.size) wr.drew v1 → v1.cell? ⟨bb, off + k * 3, none⟩ = some (.int .u32 x.s) := fun v1 hv => hv.cell (ld0.cell d0) (fun e => by have := e.1; simp at this; omega)
      have c1 : ∀ v1, But (Eb b wr.heap.size) wr.drew v1 → v1.cell? ⟨bb, off + k * 3 + 1, none⟩ = some (.int .i64 x.wz) := fun v1 hv => hv.cell (ld0.cell d1) (fun e => by have := e.1; simp at this; omega)
      have c2 : ∀ v1, But (Eb b wr.heap.size) wr.drew v1 → v1.cell? ⟨bb, off + k * 3 + 2, none⟩ = some (.slice at0 x.zs.length ct0) := fun v1 hv => hv.cell (ld0.cell d2) (fun e => by have := e.1; simp at this; omega)
      generalize wr.drew = Wd at *
      clear d0 d1 d2
      refine anyT_val (But.pre _) 0 rfl (by kernel_rfl) (by kernel_rfl) (by kernel_rfl) (fun _ _ _ _ h => h) rfl ?_; apply Exists.intro; refine ⟨fun v1 hv1 => ?_, ?_⟩; (· (go_simp; rfl)); simp only [Act.put, List.setIfInBounds_toArray, List.set_cons_zero, List.set_cons_succ]
      refine anyT_val (But.pre _) 1 rfl (by kernel_rfl) (by kernel_rfl) (by kernel_rfl) (fun _ _ _ _ h => h) rfl ?_; apply Exists.intro; refine ⟨fun v1 hv1 => ?_, ?_⟩; (· (go_simp; rfl)); simp only [Act.put, List.setIfInBounds_toArray, List.set_cons_zero, List.set_cons_succ]
      refine anyT_val (But.pre _) 2 rfl (by kernel_rfl) (by kernel_rfl) (by kernel_rfl) (fun _ _ _ _ h => h) rfl ?_; apply Exists.intro; refine ⟨fun v1 hv1 => ?_, ?_⟩; (· (go_simp; rfl)); simp only [Act.put, List.setIfInBounds_toArray, List.set_cons_zero, List.set_cons_succ]
      refine anyT_val (But.pre _) 3 rfl (by kernel_rfl) (by kernel_rfl) (by kernel_rfl) (fun _ _ _ _ h => h) rfl ?_; apply Exists.intro; refine ⟨fun v1 hv1 => ?_, ?_⟩; (· (go_simp; rfl)); simp only [Act.put, List.setIfInBounds_toArray, List.set_cons_zero, List.set_cons_succ]
      refine anyT_val (But.pre _) 4 rfl (by kernel_rfl) (by kernel_rfl) (by kernel_rfl) (fun _ _ _ _ h => h) rfl ?_; apply Exists.intro; refine ⟨fun v1 hv1 => ?_, ?_⟩; (· (go_simp; rfl)); simp only [Act.put, List.setIfInBounds_toArray, List.set_cons_zero, List.set_cons_succ]
      refine anyT_val (But.pre _) 5 rfl (by kernel_rfl) (by kernel_rfl) (by kernel_rfl) (fun _ _ _ _ h => h) rfl ?_; apply Exists.intro; refine ⟨fun v1 hv1 => ?_, ?_⟩; (· (go_simp; rfl)); simp only [Act.put, List.setIfInBounds_toArray, List.set_cons_zero, List.set_cons_succ]
      refine anyT_val (But.pre _) 6 rfl (by kernel_rfl) (by kernel_rfl) (by kernel_rfl) (fun _ _ _ _ h => h) rfl ?_; apply Exists.intro; refine ⟨fun v1 hv1 => ?_, ?_⟩; (· (go_simp; rfl)); simp only [Act.put, List.setIfInBounds_toArray, List.set_cons_zero, List.set_cons_succ]
      refine anyT_val (But.pre _) 7 rfl (by kernel_rfl) (by kernel_rfl) (by kernel_rfl) (fun _ _ _ _ h => h) rfl ?_; apply Exists.intro; refine ⟨fun v1 hv1 => ?_, ?_⟩; (· (go_simp; rfl)); simp only [Act.put, List.setIfInBounds_toArray, List.set_cons_zero, List.set_cons_succ]
      refine anyT_val (But.pre _) 8 rfl (by kernel_rfl) (by kernel_rfl) (by kernel_rfl) (fun _ _ _ _ h => h) rfl ?_; apply Exists.intro; refine ⟨fun v1 hv1 => ?_, ?_⟩; (· (go_simp; rfl)); simp only [Act.put, List.setIfInBounds_toArray, List.set_cons_zero, List.set_cons_succ]
      refine anyT_val (But.pre _) 9 rfl (by kernel_rfl) (by kernel_rfl) (by kernel_rfl) (fun _ _ _ _ h => h) rfl ?_; apply Exists.intro; refine ⟨fun v1 hv1 => ?_, ?_⟩; (· (go_simp; rfl)); simp only [Act.put, List.setIfInBounds_toArray, List.set_cons_zero, List.set_cons_succ]
      refine anyT_val (But.pre _) 10 rfl (by kernel_rfl) (by kernel_rfl) (by kernel_rfl) (fun _ _ _ _ h => h) rfl ?_; apply Exists.intro; refine ⟨fun v1 hv1 => ?_, ?_⟩; (· (go_simp; rfl)); simp only [Act.put, List.setIfInBounds_toArray, List.set_cons_zero, List.set_cons_succ]
      refine anyT_val (But.pre _) 11 rfl (by kernel_rfl) (by kernel_rfl) (by kernel_rfl) (fun _ _ _ _ h => h) rfl ?_; apply Exists.intro; refine ⟨fun v1 hv1 => ?_, ?_⟩; (· (go_simp; rfl)); simp only [Act.put, List.setIfInBounds_toArray, List.set_cons_zero, List.set_cons_succ]
      refine anyT_val (But.pre _) 12 rfl (by kernel_rfl) (by kernel_rfl) (by kernel_rfl) (fun _ _ _ _ h => h) rfl ?_; apply Exists.intro; refine ⟨fun v1 hv1 => ?_, ?_⟩; (· (go_simp; rfl)); simp only [Act.put, List.setIfInBounds_toArray, List.set_cons_zero, List.set_cons_succ]
      refine anyT_val (But.pre _) 13 rfl (by kernel_rfl) (by kernel_rfl) (by kernel_rfl) (fun _ _ _ _ h => h) rfl ?_; apply Exists.intro; refine ⟨fun v1 hv1 => ?_, ?_⟩; (· (go_simp; rfl)); simp only [Act.put, List.setIfInBounds_toArray, List.set_cons_zero, List.set_cons_succ]
      refine anyT_val (But.pre _) 14 rfl (by kernel_rfl) (by kernel_rfl) (by kernel_rfl) (fun _ _ _ _ h => h) rfl ?_; apply Exists.intro; refine ⟨fun v1 hv1 => ?_, ?_⟩; (· (go_simp; rfl)); simp only [Act.put, List.setIfInBounds_toArray, List.set_cons_zero, List.set_cons_succ]
      refine anyT_val (But.pre _) 15 rfl (by kernel_rfl) (by kernel_rfl) (by kernel_rfl) (fun _ _ _ _ h => h) rfl ?_; apply Exists.intro; refine ⟨fun v1 hv1 => ?_, ?_⟩; (· (go_simp; rfl)); simp only [Act.put, List.setIfInBounds_toArray, List.set_cons_zero, List.set_cons_succ]
      refine anyT_one 16 rfl (by kernel_rfl) rfl ?_
      refine wp_enter 25 #[.pointer (some ⟨b, 0, none⟩), .int .u32 x.s, .int .i64 x.wz, .slice at0 x.zs.length ct0] (by go_simp) ?_
      have hsd := ld0.size
      refine (rsadd_any b b vb ld x.s x.wz (.slice at0 x.zs.length ct0) x.zs Wd (h2.later ld0) (by omega) (by omega) (by rw [← htv]; exact (HXR.out Wd (Below.mono ld0 (by omega))).mono (by omega))).mono ?_
      rintro e W2 ⟨rfl, q2⟩
      obtain ⟨l2', qq2⟩ := q2.but
      have b2 : But (Eb b wr.heap.size) Wd W2 := DSq.eb h2 qq2
      refine ⟨b2, ?_⟩
      simp only [Act.put, List.setIfInBounds_toArray, List.set_cons_zero, List.set_cons_succ]
      have e0 := c0 W2 b2
      have e1 := c1 W2 b2
      clear c0 c1 c2
      have hd2 := DT.add (t := toT x) HST.out q2
      have HAZ := hide (show adD ld x.s x.wz x.zs.length = adT (plT ds k) (toT x).s (toT x).wz (toT x).zs.length by unfold adT; rw [← HST.out, adD_strp]; rfl)
      have HD2 := hide hd2
      clear hd2 q2 qq2
      have hbw2 : Below b w W2 := hbw.trans ((Below.mono ld0 (by omega)).trans (b2.below (by omega) (fun g hg e => by have := e.1; omega)))
      have HBW := hide hbw2
      clear hbw2
      generalize adD ld x.s x.wz x.zs.length = z at *
      by_cases hz : z = 0
      · have HAT := hide (addT_yes (HAZ.out.symm.trans hz))
        subst hz
        refine anyT_val (But.pre _) 17 rfl (by kernel_rfl) (by kernel_rfl) (by kernel_rfl) (fun _ _ _ _ h => h) rfl ?_; apply Exists.intro; refine ⟨fun v1 hv1 => ?_, ?_⟩; (· (go_simp; rfl)); simp only [Act.put, List.setIfInBounds_toArray, List.set_cons_zero, List.set_cons_succ]
        refine anyT_done (by kernel_rfl) ?_
        cases hem : (plT ds k).isEmpty with
        | true =>
          have HHD : Hid (hdT (plT ds k ++ [toT x]) = x.s) := by show _ = _; rw [List.isEmpty_iff.1 hem]; rfl
          have HNEW : Hid (∀ t ∈ plT ds k, 0 ≤ ahd t.s x.s ∧ ahd t.s x.s ≤ 536870912) := by show ∀ t ∈ _, _; rw [List.isEmpty_iff.1 hem]; intro t ht; cases ht
          have HAH := hide (fun W => rahead_any x.s x.s W)
          generalize hdd : ahd x.s x.s = dd at *
          have HDD : Hid (dd = ahd (toT x).s x.s) := hdd.symm
          clear hdd hem
          go_wp2_with fail
          refine (HAH.out W2).mono ?_
          rintro e w5 ⟨rfl, rfl⟩
          by_cases hd1 : dd < 0
          · go_wp2_with fail
            refine bodyPost_ret (v := .bool false) (by first | (simp [results, Try.results16, go_sem]; done) | (simp [results, Try.results16, go_sem]; omega)) rfl ?_
            exact ⟨false, rfl, by rw [HB.out]; exact HBW.out, fun h => by cases h⟩
          · by_cases hd3 : 536870912 < dd
            · go_wp2_with fail
              refine bodyPost_ret (v := .bool false) (by first | (simp [results, Try.results16, go_sem]; done) | (simp [results, Try.results16, go_sem]; omega)) rfl ?_
              exact ⟨false, rfl, by rw [HB.out]; exact HBW.out, fun h => by cases h⟩
            · go_wp2_with fail
              go_roundw
              case rel =>
                refine ⟨k + 1, by omega, by omega, ?_, ?_, by simp, ?_, HBW.out, ?_⟩
                · rw [HPN.out, HAT.out, snoc_ne]
                · rw [HPN.out, HAT.out, HHD.out]
                · rw [HPN.out]; exact HD2.out
                · rw [HPN.out, HAT.out, HHD.out]
                  intro t ht
                  rcases List.mem_append.1 ht with h | h
                  · exact HNEW.out t h
                  · obtain rfl : t = toT x := by simpa using h
                    rw [← HDD.out]
                    omega
              case measure => simp [intOf]; omega
        | false =>
          have HHD := hide (hdT_snoc (toT x) hem)
          have HNEW := hide HNR.out
          have HAH := hide (fun W => rahead_any x.s (hdT (plT ds k)) W)
          generalize hdd : ahd x.s (hdT (plT ds k)) = dd at *
          have HDD : Hid (dd = ahd (toT x).s (hdT (plT ds k))) := hdd.symm
          clear hdd hem
          generalize hdT (plT ds k) = hq at *
          go_wp2_with fail
          refine (HAH.out W2).mono ?_
          rintro e w5 ⟨rfl, rfl⟩
          by_cases hd1 : dd < 0
          · go_wp2_with fail
            refine bodyPost_ret (v := .bool false) (by first | (simp [results, Try.results16, go_sem]; done) | (simp [results, Try.results16, go_sem]; omega)) rfl ?_
            exact ⟨false, rfl, by rw [HB.out]; exact HBW.out, fun h => by cases h⟩
          · by_cases hd3 : 536870912 < dd
            · go_wp2_with fail
              refine bodyPost_ret (v := .bool false) (by first | (simp [results, Try.results16, go_sem]; done) | (simp [results, Try.results16, go_sem]; omega)) rfl ?_
              exact ⟨false, rfl, by rw [HB.out]; exact HBW.out, fun h => by cases h⟩
            · go_wp2_with fail
              go_roundw
              case rel =>
                refine ⟨k + 1, by omega, by omega, ?_, ?_, by simp, ?_, HBW.out, ?_⟩
                · rw [HPN.out, HAT.out, snoc_ne]
                · rw [HPN.out, HAT.out, HHD.out]
                · rw [HPN.out]; exact HD2.out
                · rw [HPN.out, HAT.out, HHD.out]
                  intro t ht
                  rcases List.mem_append.1 ht with h | h
                  · exact HNEW.out t h
                  · obtain rfl : t = toT x := by simpa using h
                    rw [← HDD.out]
                    omega
              case measure => simp [intOf]; omega
      · have HAT := hide (addT_no (fun h => hz (HAZ.out.trans h)))
        have hzb : (z == 0) = false := by simpa using hz
        refine anyT_val (But.pre _) 17 rfl (by kernel_rfl) (by kernel_rfl) (by kernel_rfl) (fun _ _ _ _ h => h) rfl ?_; apply Exists.intro; refine ⟨fun v1 hv1 => ?_, ?_⟩; (· (go_simp; rfl)); simp only [Act.put, List.setIfInBounds_toArray, List.set_cons_zero, List.set_cons_succ]
        refine anyT_done (by kernel_rfl) ?_
        generalize hq1 : hdT (plT ds k) = hq at *
        generalize hq2 : (plT ds k).isEmpty = he at *
        have HQ1 := hide hq1
        have HQ2 := hide hq2
        clear hq1 hq2
        go_wp2_with fail
        go_roundw
        case rel =>
          refine ⟨k + 1, by omega, by omega, ?_, ?_, by simp, ?_, HBW.out, ?_⟩
          · rw [HPN.out, HAT.out, HQ2.out]
          · rw [HPN.out, HAT.out, HQ1.out]
          · rw [HPN.out]; exact HD2.out
          · rw [HPN.out, HAT.out, HQ1.out]; exact HNR.out
        case measure => simp [intOf]; omega
    · have hm : min ds.length 30 = k := by omega
      have HM := hide hm
      clear hm
      have HAH := hide (fun W => rahead_any n (hdT (plT ds k)) W)
      have HNP : Hid (∀ dd, dd = ahd n (hdT (plT ds k)) → -1073741824 < dd → dd < 1073741824 → NearP (plT ds k) n) := fun dd h h1 h2 _ => ⟨HNR.out, by rw [← h]; exact ⟨h1, h2⟩⟩
      have HEM : Hid ((plT ds k).isEmpty = true → NearP (plT ds k) n) := fun h hne => absurd (List.isEmpty_iff.1 h) hne
      generalize hdd : ahd n (hdT (plT ds k)) = dd at *
      generalize hdT (plT ds k) = hq at *
      generalize hhe : (plT ds k).isEmpty = he at *
      have HHE := hide hhe
      clear hhe hdd
      have hor : ¬ k < ds.length ∨ (k < ds.length ∧ ¬ k < 30) := by omega
      rcases hor with h | ⟨h, h'⟩
      case' inl =>
        have g1' : ¬ (k : Int) < ds.length := by omega
      case' inr =>
        have g1' : (k : Int) < ds.length := by omega
        have g2' : ¬ (k : Int) < 30 := by omega
      all_goals
        go_wp2_with fail
        refine (HAH.out _).mono ?_
        rintro e w5 ⟨rfl, rfl⟩
        cases he with
        | true =>
          go_wp2_with fail
          refine bodyPost_ret (v := .bool true) (by first | (simp [results, Try.results16, go_sem]; done) | (simp [results, Try.results16, go_sem]; omega)) rfl ?_
          exact ⟨true, rfl, by rw [HB.out]; exact hbw, fun _ => by rw [HM.out]; exact HEM.out trivial⟩
        | false =>
          by_cases q1 : -1073741824 < dd
          · by_cases q2 : dd < 1073741824
            · go_wp2_with fail
              refine bodyPost_ret (v := .bool true) (by first | (simp [results, Try.results16, go_sem]; done) | (simp [results, Try.results16, go_sem]; omega)) rfl ?_
              exact ⟨true, rfl, by rw [HB.out]; exact hbw, fun _ => by rw [HM.out]; exact HNP.out dd rfl q1 q2⟩
            · go_wp2_with fail
              refine bodyPost_ret (v := .bool false) (by first | (simp [results, Try.results16, go_sem]; done) | (simp [results, Try.results16, go_sem]; omega)) rfl ?_
              exact ⟨false, rfl, by rw [HB.out]; exact hbw, fun h => by cases h⟩
          · go_wp2_with fail
            refine bodyPost_ret (v := .bool false) (by first | (simp [results, Try.results16, go_sem]; done) | (simp [results, Try.results16, go_sem]; omega)) rfl ?_
            exact ⟨false, rfl, by rw [HB.out]; exact hbw, fun h => by cases h⟩
end Go.Proofs.Ytaaanmjmgnpcgaa

/- The law's inside. -/
namespace Go.Proofs.Ytaaanmjmgnpcgaa
open Go.RowKit Go.Shelf
set_option maxRecDepth 100000
set_option linter.unusedVariables false
set_option linter.unusedSimpArgs false

def OutP (T : List Tx) (n : Int) : Prop := ∀ t ∈ T, ¬ (0 < ahd n t.s ∧ ahd n t.s < t.wz)

set_option maxHeartbeats 8000000 in
theorem inside_any (sv : Value) (ds : List Ap) (n : Int) (w : World) (n₀ : Nat) (hn : n₀ ≤ w.heap.size) (hI : RdA n₀ w sv ds) :
    Calls Try.prog 17 #[sv, .int .u32 n] w fun e w' => InQ w w' e (OutP (plT ds (min ds.length 30)) n) := by
  obtain ⟨aa, ca, rfl, ha1, ha2⟩ := hI.slice
  have HI := hide hI
  clear hI
  go_enter Try.func17, Try.ntmps17
  go_wp2_with fail
  refine (rsnew_any w).mono ?_
  rintro e w1 ⟨rfl, l1, hT1⟩
  have hPE : DT w.heap.size w1 w.heap.size [] := ⟨_, _, hT1, rfl⟩
  have L1 : Below w.heap.size w w1 := l1
  clear hT1 l1
  generalize hB : w.heap.size = b at *
  have HB := hide hB
  clear hB
  go_wp2_with fail
  go_loopw [6] (fun i wr => ∃ k : Nat, k ≤ ds.length ∧ k ≤ 30 ∧ i = .int .i64 (k : Int) ∧ DT b wr b (plT ds k) ∧ Below b w wr ∧ OutP (plT ds k) n) (fun i _ => 30 - (intOf i).toNat)
  case atStart => exact ⟨0, by omega, by omega, rfl, hPE, L1, fun t ht => by simp [plT] at ht⟩
  case round =>
    obtain ⟨k, hk1, hk2, rfl, hP, hbw, hnr⟩ := hrel
    have hsz := hbw.size
    have HNR := hide hnr
    clear hnr
    by_cases hgo : k < ds.length ∧ k < 30
    · obtain ⟨g1, g2⟩ := hgo
      have g1' : (k : Int) < ds.length := by omega
      have g2' : (k : Int) < 30 := by omega
      have hRk := HI.out.below (hbw.mono hn)
      obtain ⟨bb, off, cp, e, _, _, hbb, hcs⟩ := hRk.cells (by omega)
      simp at e
      obtain ⟨rfl, rfl⟩ := e
      have d0 := hcs k g1 0 (by omega)
      have d1 := hcs k g1 1 (by omega)
      have d2 := hcs k g1 2 (by omega)
      obtain ⟨hxs, hxw, hxb, hxr⟩ := hRk.2 ds[k] (List.getElem_mem _)
      have HPN := hide (plT_next g1)
      have HLN := hide (plT_len ds k)
      clear hcs hRk
      generalize ds[k] = x at *
      simp only [apc, List.getElem?_cons_zero, List.getElem?_cons_succ, Nat.add_zero] at d0 d1 d2
      obtain ⟨at0, ct0, htv, _, _⟩ := hxr.slice
      rw [htv] at d2
      have HXR := hide (fun W (h : Below n₀ wr W) => (Rd.below h hxr))
      clear hxr
      obtain ⟨vb, ld, h2, hst⟩ := hP
      have hld : ld.length ≤ 8 := by have := congrArg List.length hst; simp at this; rw [this]; exact HLN.out
      have HST := hide hst
      clear hst
      have hnb : n₀ ≤ b := by have := HB.out; omega
      have hbr : b ≤ wr.heap.size := by have := HB.out; omega
      go_upto_region 5 with fail
      refine anyT_begin (R := But (Eb b wr.heap.size)) 18 rfl (by kernel_rfl) ?_
      have ld0 : Later wr wr.drew := Later.drew wr
      have c0 : ∀ v1, But (Eb b wr.heap.size) wr.drew v1 → v1.cell? ⟨bb, off + k * 3, none⟩ = some (.int .u32 x.s) := fun v1 hv => hv.cell (ld0.cell d0) (fun e => by have := e.1; simp at this; omega)
      have c1 : ∀ v1, But (Eb b wr.heap.size) wr.drew v1 → v1.cell? ⟨bb, off + k * 3 + 1, none⟩ = some (.int .i64 x.wz) := fun v1 hv => hv.cell (ld0.cell d1) (fun e => by have := e.1; simp at this; omega)
      have c2 : ∀ v1, But (Eb b wr.heap.size) wr.drew v1 → v1.cell? ⟨bb, off + k * 3 + 2, none⟩ = some (.slice at0 x.zs.length ct0) := fun v1 hv => hv.cell (ld0.cell d2) (fun e => by have := e.1; simp at this; omega)
      generalize wr.drew = Wd at *
      clear d0 d1 d2
      refine anyT_val (But.pre _) 0 rfl (by kernel_rfl) (by kernel_rfl) (by kernel_rfl) (fun _ _ _ _ h => h) rfl ?_; apply Exists.intro; refine ⟨fun v1 hv1 => ?_, ?_⟩; (· (go_simp; rfl)); simp only [Act.put, List.setIfInBounds_toArray, List.set_cons_zero, List.set_cons_succ]
      refine anyT_val (But.pre _) 1 rfl (by kernel_rfl) (by kernel_rfl) (by kernel_rfl) (fun _ _ _ _ h => h) rfl ?_; apply Exists.intro; refine ⟨fun v1 hv1 => ?_, ?_⟩; (· (go_simp; rfl)); simp only [Act.put, List.setIfInBounds_toArray, List.set_cons_zero, List.set_cons_succ]
      refine anyT_val (But.pre _) 2 rfl (by kernel_rfl) (by kernel_rfl) (by kernel_rfl) (fun _ _ _ _ h => h) rfl ?_; apply Exists.intro; refine ⟨fun v1 hv1 => ?_, ?_⟩; (· (go_simp; rfl)); simp only [Act.put, List.setIfInBounds_toArray, List.set_cons_zero, List.set_cons_succ]
      refine anyT_val (But.pre _) 3 rfl (by kernel_rfl) (by kernel_rfl) (by kernel_rfl) (fun _ _ _ _ h => h) rfl ?_; apply Exists.intro; refine ⟨fun v1 hv1 => ?_, ?_⟩; (· (go_simp; rfl)); simp only [Act.put, List.setIfInBounds_toArray, List.set_cons_zero, List.set_cons_succ]
      refine anyT_val (But.pre _) 4 rfl (by kernel_rfl) (by kernel_rfl) (by kernel_rfl) (fun _ _ _ _ h => h) rfl ?_; apply Exists.intro; refine ⟨fun v1 hv1 => ?_, ?_⟩; (· (go_simp; rfl)); simp only [Act.put, List.setIfInBounds_toArray, List.set_cons_zero, List.set_cons_succ]
      refine anyT_val (But.pre _) 5 rfl (by kernel_rfl) (by kernel_rfl) (by kernel_rfl) (fun _ _ _ _ h => h) rfl ?_; apply Exists.intro; refine ⟨fun v1 hv1 => ?_, ?_⟩; (· (go_simp; rfl)); simp only [Act.put, List.setIfInBounds_toArray, List.set_cons_zero, List.set_cons_succ]
      refine anyT_val (But.pre _) 6 rfl (by kernel_rfl) (by kernel_rfl) (by kernel_rfl) (fun _ _ _ _ h => h) rfl ?_; apply Exists.intro; refine ⟨fun v1 hv1 => ?_, ?_⟩; (· (go_simp; rfl)); simp only [Act.put, List.setIfInBounds_toArray, List.set_cons_zero, List.set_cons_succ]
      refine anyT_val (But.pre _) 7 rfl (by kernel_rfl) (by kernel_rfl) (by kernel_rfl) (fun _ _ _ _ h => h) rfl ?_; apply Exists.intro; refine ⟨fun v1 hv1 => ?_, ?_⟩; (· (go_simp; rfl)); simp only [Act.put, List.setIfInBounds_toArray, List.set_cons_zero, List.set_cons_succ]
      refine anyT_val (But.pre _) 8 rfl (by kernel_rfl) (by kernel_rfl) (by kernel_rfl) (fun _ _ _ _ h => h) rfl ?_; apply Exists.intro; refine ⟨fun v1 hv1 => ?_, ?_⟩; (· (go_simp; rfl)); simp only [Act.put, List.setIfInBounds_toArray, List.set_cons_zero, List.set_cons_succ]
      refine anyT_val (But.pre _) 9 rfl (by kernel_rfl) (by kernel_rfl) (by kernel_rfl) (fun _ _ _ _ h => h) rfl ?_; apply Exists.intro; refine ⟨fun v1 hv1 => ?_, ?_⟩; (· (go_simp; rfl)); simp only [Act.put, List.setIfInBounds_toArray, List.set_cons_zero, List.set_cons_succ]
      refine anyT_val (But.pre _) 10 rfl (by kernel_rfl) (by kernel_rfl) (by kernel_rfl) (fun _ _ _ _ h => h) rfl ?_; apply Exists.intro; refine ⟨fun v1 hv1 => ?_, ?_⟩; (· (go_simp; rfl)); simp only [Act.put, List.setIfInBounds_toArray, List.set_cons_zero, List.set_cons_succ]
      refine anyT_val (But.pre _) 11 rfl (by kernel_rfl) (by kernel_rfl) (by kernel_rfl) (fun _ _ _ _ h => h) rfl ?_; apply Exists.intro; refine ⟨fun v1 hv1 => ?_, ?_⟩; (· (go_simp; rfl)); simp only [Act.put, List.setIfInBounds_toArray, List.set_cons_zero, List.set_cons_succ]
      refine anyT_val (But.pre _) 12 rfl (by kernel_rfl) (by kernel_rfl) (by kernel_rfl) (fun _ _ _ _ h => h) rfl ?_; apply Exists.intro; refine ⟨fun v1 hv1 => ?_, ?_⟩; (· (go_simp; rfl)); simp only [Act.put, List.setIfInBounds_toArray, List.set_cons_zero, List.set_cons_succ]
      refine anyT_val (But.pre _) 13 rfl (by kernel_rfl) (by kernel_rfl) (by kernel_rfl) (fun _ _ _ _ h => h) rfl ?_; apply Exists.intro; refine ⟨fun v1 hv1 => ?_, ?_⟩; (· (go_simp; rfl)); simp only [Act.put, List.setIfInBounds_toArray, List.set_cons_zero, List.set_cons_succ]
      refine anyT_val (But.pre _) 14 rfl (by kernel_rfl) (by kernel_rfl) (by kernel_rfl) (fun _ _ _ _ h => h) rfl ?_; apply Exists.intro; refine ⟨fun v1 hv1 => ?_, ?_⟩; (· (go_simp; rfl)); simp only [Act.put, List.setIfInBounds_toArray, List.set_cons_zero, List.set_cons_succ]
      refine anyT_val (But.pre _) 15 rfl (by kernel_rfl) (by kernel_rfl) (by kernel_rfl) (fun _ _ _ _ h => h) rfl ?_; apply Exists.intro; refine ⟨fun v1 hv1 => ?_, ?_⟩; (· (go_simp; rfl)); simp only [Act.put, List.setIfInBounds_toArray, List.set_cons_zero, List.set_cons_succ]
      refine anyT_one 16 rfl (by kernel_rfl) rfl ?_
      refine wp_enter 25 #[.pointer (some ⟨b, 0, none⟩), .int .u32 x.s, .int .i64 x.wz, .slice at0 x.zs.length ct0] (by go_simp) ?_
      have hsd := ld0.size
      refine (rsadd_any b b vb ld x.s x.wz (.slice at0 x.zs.length ct0) x.zs Wd (h2.later ld0) (by omega) (by omega) (by rw [← htv]; exact (HXR.out Wd (Below.mono ld0 (by omega))).mono (by omega))).mono ?_
      rintro e W2 ⟨rfl, q2⟩
      obtain ⟨l2', qq2⟩ := q2.but
      have b2 : But (Eb b wr.heap.size) Wd W2 := DSq.eb h2 qq2
      refine ⟨b2, ?_⟩
      simp only [Act.put, List.setIfInBounds_toArray, List.set_cons_zero, List.set_cons_succ]
      have e0 := c0 W2 b2
      have e1 := c1 W2 b2
      clear c0 c1 c2
      have hd2 := DT.add (t := toT x) HST.out q2
      have HAZ := hide (show adD ld x.s x.wz x.zs.length = adT (plT ds k) (toT x).s (toT x).wz (toT x).zs.length by unfold adT; rw [← HST.out, adD_strp]; rfl)
      have HD2 := hide hd2
      clear hd2 q2 qq2
      have hbw2 : Below b w W2 := hbw.trans ((Below.mono ld0 (by omega)).trans (b2.below (by omega) (fun g hg e => by have := e.1; omega)))
      have HBW := hide hbw2
      clear hbw2
      generalize adD ld x.s x.wz x.zs.length = z at *
      by_cases hz : z = 0
      · have HAT := hide (addT_yes (HAZ.out.symm.trans hz))
        subst hz
        refine anyT_val (But.pre _) 17 rfl (by kernel_rfl) (by kernel_rfl) (by kernel_rfl) (fun _ _ _ _ h => h) rfl ?_; apply Exists.intro; refine ⟨fun v1 hv1 => ?_, ?_⟩; (· (go_simp; rfl)); simp only [Act.put, List.setIfInBounds_toArray, List.set_cons_zero, List.set_cons_succ]
        refine anyT_done (by kernel_rfl) ?_
        have HAH := hide (fun W => rahead_any n x.s W)
        generalize hdd : ahd n x.s = dd at *
        have HDD : Hid (dd = ahd n (toT x).s) := hdd.symm
        clear hdd
        go_wp2_with fail
        refine (HAH.out W2).mono ?_
        rintro e w5 ⟨rfl, rfl⟩
        by_cases hd1 : 0 < dd
        · by_cases hd3 : dd < x.wz
          · go_wp2_with fail
            refine bodyPost_ret (v := .bool true) (by simp [results, Try.results17, go_sem]) rfl ?_
            exact ⟨true, rfl, by rw [HB.out]; exact HBW.out, fun h => by cases h⟩
          · go_wp2_with fail
            go_roundw
            case rel =>
              refine ⟨k + 1, by omega, by omega, by simp, by rw [HPN.out]; exact HD2.out, HBW.out, ?_⟩
              rw [HPN.out, HAT.out]
              intro t ht
              rcases List.mem_append.1 ht with h | h
              · exact HNR.out t h
              · obtain rfl : t = toT x := by simpa using h
                rw [← HDD.out]
                exact fun h => by have h2 : dd < x.wz := h.2; omega
            case measure => simp [intOf]; omega
        · go_wp2_with fail
          go_roundw
          case rel =>
            refine ⟨k + 1, by omega, by omega, by simp, by rw [HPN.out]; exact HD2.out, HBW.out, ?_⟩
            rw [HPN.out, HAT.out]
            intro t ht
            rcases List.mem_append.1 ht with h | h
            · exact HNR.out t h
            · obtain rfl : t = toT x := by simpa using h
              rw [← HDD.out]
              exact fun h => by have h2 := h.1; omega
          case measure => simp [intOf]; omega
      · have HAT := hide (addT_no (fun h => hz (HAZ.out.trans h)))
        have hzb : (z == 0) = false := by simpa using hz
        refine anyT_val (But.pre _) 17 rfl (by kernel_rfl) (by kernel_rfl) (by kernel_rfl) (fun _ _ _ _ h => h) rfl ?_; apply Exists.intro; refine ⟨fun v1 hv1 => ?_, ?_⟩; (· (go_simp; rfl)); simp only [Act.put, List.setIfInBounds_toArray, List.set_cons_zero, List.set_cons_succ]
        refine anyT_done (by kernel_rfl) ?_
        go_wp2_with fail
        go_roundw
        case rel =>
          refine ⟨k + 1, by omega, by omega, by simp, by rw [HPN.out]; exact HD2.out, HBW.out, ?_⟩
          rw [HPN.out, HAT.out]
          exact HNR.out
        case measure => simp [intOf]; omega
    · have hm : min ds.length 30 = k := by omega
      have HM := hide hm
      clear hm
      have hor : ¬ k < ds.length ∨ (k < ds.length ∧ ¬ k < 30) := by omega
      rcases hor with h | ⟨h, h'⟩
      case' inl =>
        have g1' : ¬ (k : Int) < ds.length := by omega
      case' inr =>
        have g1' : (k : Int) < ds.length := by omega
        have g2' : ¬ (k : Int) < 30 := by omega
      all_goals
        go_wp2_with fail
        refine bodyPost_ret (v := .bool false) (by simp [results, Try.results17, go_sem]) rfl ?_
        exact ⟨false, rfl, by rw [HB.out]; exact hbw, fun _ => by rw [HM.out]; exact HNR.out⟩
end Go.Proofs.Ytaaanmjmgnpcgaa

/- What numbers map to, by how far they are from the first part. -/
namespace Go.Proofs.Ytaaanmjmgnpcgaa
open Go.RowKit Go.Shelf
set_option maxRecDepth 100000
set_option linter.unusedVariables false
set_option linter.unusedSimpArgs false

theorem ahd_mod (x y : Int) : (x - y - ahd x y) % 4294967296 = 0 := by unfold ahd; split <;> omega
theorem ahd_lo (x y : Int) : -2147483648 ≤ ahd x y ∧ ahd x y < 2147483648 := by unfold ahd; split <;> omega
/-- Parts one behind the other, by how far they are from h: e where the last one ends, D all differences. -/
inductive Ch (h : Int) : List Tx → Int → Int → Prop
  | nil : Ch h [] 0 0
  | add {T : List Tx} {e D : Int} (c : Ch h T e D) (t : Tx) (o : Int) (hs : 0 ≤ t.s ∧ t.s ≤ 4294967295) (hm : (t.s - h - o) % 4294967296 = 0) (he : e ≤ o) (ho : 0 ≤ o ∧ o ≤ 536870912) (hw : 1 ≤ t.wz ∧ t.wz ≤ 128) (hn : 1 ≤ (t.zs.length : Int) ∧ (t.zs.length : Int) ≤ 128) : Ch h (T ++ [t]) (o + t.wz) (D + ((t.zs.length : Int) - t.wz))
theorem Ch.bnd {h : Int} {T : List Tx} {e D : Int} (c : Ch h T e D) : 0 ≤ e ∧ e ≤ 536871040 ∧ -(128 * (T.length : Int)) ≤ D ∧ D ≤ 128 * (T.length : Int) := by
  induction c with
  | nil => simp
  | add c t o hs hm he ho hw hn ih =>
    rw [List.length_append, List.length_singleton]
    rw [Int.natCast_add]
    omega
theorem Ch.dfz {h : Int} {T : List Tx} {e D : Int} (c : Ch h T e D) : dfz (T.map tdp) T.length = D % 4294967296 := by
  induction c with
  | nil => rfl
  | @add T e D c t o hs hm he ho hw hn ih =>
    have := dfz_snoc (T.map tdp) (tdp t)
    rw [List.length_append, List.length_map] at this
    rw [List.map_append, List.length_append]
    show Go.Proofs.Ytaaanmjmgnpcgaa.dfz (T.map tdp ++ [tdp t]) (T.length + 1) = _
    simp only [List.length_singleton] at this
    rw [this, ih]
    show (D % 4294967296 + ((t.zs.length : Int) - t.wz)) % 4294967296 = _
    omega
theorem Ch.fin {h : Int} {T : List Tx} {e D : Int} (c : Ch h T e D) (hne : T ≠ []) : (dend ((T.map tdp).getLast?.getD zDp) - h - e) % 4294967296 = 0 := by
  cases c with
  | nil => exact absurd rfl hne
  | add c t o hs hm he ho hw hn =>
    rw [List.map_append]
    show (dend ((List.map tdp _ ++ [tdp t]).getLast?.getD zDp) - h - _) % 4294967296 = 0
    rw [List.getLast?_concat]
    show ((t.s + t.wz) % 4294967296 - h - (o + t.wz)) % 4294967296 = 0
    omega
theorem mpT_snoc (T : List Tx) (t : Tx) (n : Int) : mpT (T ++ [t]) n = if bhd t.s n then mpT T n else if bhd ((t.s + t.wz) % 4294967296) n then (t.s + dfz (T.map tdp) T.length) % 4294967296 else (n + (dfz (T.map tdp) T.length + ((t.zs.length : Int) - t.wz)) % 4294967296) % 4294967296 := by
  unfold mpT
  have := dmp_snoc (T.map tdp) (tdp t) n
  rw [List.length_map] at this
  rw [List.map_append, List.length_append, List.length_singleton]
  exact this
theorem umT_snoc (T : List Tx) (t : Tx) (n : Int) : umT (T ++ [t]) n = if bhd ((t.s + dfz (T.map tdp) T.length) % 4294967296) n then umT T n else if bhd (((t.s + dfz (T.map tdp) T.length) % 4294967296 + (t.zs.length : Int)) % 4294967296) n then t.s else (n - (dfz (T.map tdp) T.length + ((t.zs.length : Int) - t.wz)) % 4294967296) % 4294967296 := by
  unfold umT
  have := dum_snoc (T.map tdp) (tdp t) n
  rw [List.length_map] at this
  rw [List.map_append, List.length_append, List.length_singleton]
  exact this
/-- Not strictly within a part. -/
def offP (h : Int) (T : List Tx) (x : Int) : Prop := ∀ t ∈ T, ∀ o, (t.s - h - o) % 4294967296 = 0 → 0 ≤ o ∧ o ≤ 536870912 → ¬ (0 < x - o ∧ x - o < t.wz)
theorem offP.pre {h : Int} {T : List Tx} {t : Tx} {x : Int} (p : offP h (T ++ [t]) x) : offP h T x := fun u hu => p u (List.mem_append_left _ hu)

/-- Where a number goes. -/
theorem Ch.two {h : Int} {T : List Tx} {e D : Int} (c : Ch h T e D) (hl : T.length ≤ 8) (x1 x2 : Int) (h1 : -1073741824 < x1 ∧ x1 < 1073741824) (h2 : -1073741824 < x2 ∧ x2 < 1073741824) (h12 : x1 ≤ x2) :
    ∃ y1 y2, mpT T ((h + x1) % 4294967296) = (h + y1) % 4294967296 ∧ mpT T ((h + x2) % 4294967296) = (h + y2) % 4294967296 ∧ (e ≤ x1 → y1 = x1 + D) ∧ (x1 < e → y1 < e + D) ∧ (e ≤ x2 → y2 = x2 + D) ∧ (x2 < e → y2 < e + D) ∧
      (-(128 * (T.length : Int)) ≤ y1 - x1 ∧ y1 - x1 ≤ 128 * (T.length : Int)) ∧ (-(128 * (T.length : Int)) ≤ y2 - x2 ∧ y2 - x2 ≤ 128 * (T.length : Int)) ∧ y1 ≤ y2 ∧ (x1 < x2 → offP h T x2 → y1 < y2) ∧ (offP h T x1 → umT T ((h + y1) % 4294967296) = (h + x1) % 4294967296) := by
  induction c with
  | nil => exact ⟨x1, x2, rfl, rfl, by omega, by omega, by omega, by omega, by simp, by simp, h12, fun h _ => h, fun _ => rfl⟩
  | @add T e D c t o hs hm he ho hw hn ih =>
    rw [List.length_append, List.length_singleton] at hl
    obtain ⟨y1, y2, m1, m2, a1, a2, a3, a4, b1, b2, hle, hlt, hum⟩ := ih (by omega)
    obtain ⟨q1, q2, q3, q4⟩ := c.bnd
    have hd := c.dfz
    have hT8 : (T.length : Int) ≤ 7 := by omega
    rw [mpT_snoc, mpT_snoc, hd]
    rw [show ((T ++ [t]).length : Int) = (T.length : Int) + 1 by simp]
    generalize (T.length : Int) = L at *
    -- where a number goes, one at a time
    have one : ∀ (x y : Int), -1073741824 < x → x < 1073741824 → mpT T ((h + x) % 4294967296) = (h + y) % 4294967296 → ∃ z, (if bhd t.s ((h + x) % 4294967296) then mpT T ((h + x) % 4294967296) else if bhd ((t.s + t.wz) % 4294967296) ((h + x) % 4294967296) then (t.s + D % 4294967296) % 4294967296 else ((h + x) % 4294967296 + (D % 4294967296 + ((t.zs.length : Int) - t.wz)) % 4294967296) % 4294967296) = (h + z) % 4294967296 ∧ (x < o → z = y) ∧ (o ≤ x → x < o + t.wz → z = o + D) ∧ (o + t.wz ≤ x → z = x + (D + ((t.zs.length : Int) - t.wz))) := by
      intro x y hx1 hx2 hm
      by_cases c1 : x < o
      · rw [bhd_t (o - x) (by omega) (by omega) (by omega)]
        exact ⟨y, by simpa using hm, fun _ => rfl, by omega, by omega⟩
      · rw [bhd_f (o - x) (by omega) (by omega) (by omega)]
        by_cases c2 : x < o + t.wz
        · rw [bhd_t (o + t.wz - x) (by omega) (by omega) (by omega)]
          refine ⟨o + D, ?_, by omega, fun _ _ => rfl, by omega⟩
          simp
          omega
        · rw [bhd_f (o + t.wz - x) (by omega) (by omega) (by omega)]
          refine ⟨x + (D + ((t.zs.length : Int) - t.wz)), ?_, by omega, by omega, fun _ => rfl⟩
          simp
          omega
    obtain ⟨z1, e1, p1, p2, p3⟩ := one x1 y1 h1.1 h1.2 m1
    obtain ⟨z2, e2, r1, r2, r3⟩ := one x2 y2 h2.1 h2.2 m2
    have hof : offP h (T ++ [t]) x2 → ¬ (0 < x2 - o ∧ x2 - o < t.wz) := fun p => p t (by simp) o hm ho
    have hof1 : offP h (T ++ [t]) x1 → ¬ (0 < x1 - o ∧ x1 - o < t.wz) := fun p => p t (by simp) o hm ho
    refine ⟨z1, z2, e1, e2, ?_, ?_, ?_, ?_, ?_, ?_, ?_, ?_, ?_⟩
    · intro k; exact p3 k
    · intro k
      by_cases c1 : x1 < o
      · have := p1 c1
        by_cases c2 : e ≤ x1
        · have := a1 c2; omega
        · have := a2 (by omega); omega
      · have := p2 (by omega) (by omega); omega
    · intro k; exact r3 k
    · intro k
      by_cases c1 : x2 < o
      · have := r1 c1
        by_cases c2 : e ≤ x2
        · have := a3 c2; omega
        · have := a4 (by omega); omega
      · have := r2 (by omega) (by omega); omega
    · by_cases c1 : x1 < o
      · have := p1 c1; omega
      · by_cases c2 : x1 < o + t.wz
        · have := p2 (by omega) c2; omega
        · have := p3 (by omega); omega
    · by_cases c1 : x2 < o
      · have := r1 c1; omega
      · by_cases c2 : x2 < o + t.wz
        · have := r2 (by omega) c2; omega
        · have := r3 (by omega); omega
    · by_cases c1 : x2 < o
      · have := r1 c1; have := p1 (by omega); omega
      · have k2 : o + D ≤ z2 := by
          by_cases c2 : x2 < o + t.wz
          · have := r2 (by omega) c2; omega
          · have := r3 (by omega); omega
        by_cases c3 : x1 < o
        · have k1 := p1 c3
          by_cases c4 : e ≤ x1
          · have := a1 c4; omega
          · have := a2 (by omega); omega
        · by_cases c4 : x1 < o + t.wz
          · have := p2 (by omega) c4; omega
          · have := p3 (by omega); have := r3 (by omega); omega
    · intro hx hp
      have hno := hof hp
      by_cases c1 : x2 < o
      · have := r1 c1; have := p1 (by omega); have := hlt hx hp.pre; omega
      · by_cases c3 : x1 < o
        · have k1 := p1 c3
          have k2 : o + D ≤ z2 := by
            by_cases c2 : x2 < o + t.wz
            · have := r2 (by omega) c2; omega
            · have := r3 (by omega); omega
          by_cases c4 : e ≤ x1
          · have := a1 c4; omega
          · have := a2 (by omega); omega
        · have k3 : o + t.wz ≤ x2 := by omega
          have := r3 k3
          by_cases c4 : x1 < o + t.wz
          · have := p2 (by omega) c4; omega
          · have := p3 (by omega); omega
    · intro hp
      have hno := hof1 hp
      rw [umT_snoc, hd]
      by_cases c3 : x1 < o
      · have k1 := p1 c3
        subst k1
        have k2 : z1 < o + D := by
          by_cases c4 : e ≤ x1
          · have := a1 c4; omega
          · have := a2 (by omega); omega
        rw [bhd_t (o + D - z1) (by omega) (by omega) (by omega)]
        simpa using hum hp.pre
      · by_cases c4 : x1 < o + t.wz
        · have k0 : x1 = o := by omega
          have k1 := p2 (by omega) c4
          subst k1
          rw [bhd_f 0 (by omega) (by omega) (by omega), bhd_t (t.zs.length : Int) (by omega) (by omega) (by omega)]
          simp
          omega
        · have k1 := p3 (by omega)
          rw [bhd_f (o + D - z1) (by omega) (by omega) (by omega), bhd_f (o + D + (t.zs.length : Int) - z1) (by omega) (by omega) (by omega)]
          simp
          omega

/-- Parts that were added one behind the other. -/
inductive CH : List Tx → Prop
  | nil : CH []
  | add {T : List Tx} (c : CH T) (t : Tx) (hs : 0 ≤ t.s ∧ t.s ≤ 4294967295) (ha : adT T t.s t.wz t.zs.length = 0) : CH (T ++ [t])
theorem plT_ch (ds : List Ap) (h : ∀ d ∈ ds, 0 ≤ d.s ∧ d.s ≤ 4294967295) : ∀ k, k ≤ ds.length → CH (plT ds k)
  | 0, _ => .nil
  | k + 1, hk => by
    rw [plT_next (by omega)]
    by_cases ha : adT (plT ds k) (toT ds[k]).s (toT ds[k]).wz (toT ds[k]).zs.length = 0
    · rw [addT_yes ha]; exact .add (plT_ch ds h k (by omega)) _ (h _ (List.getElem_mem _)) ha
    · rw [addT_no ha]; exact plT_ch ds h k (by omega)
theorem CH.ct {T : List Tx} (c : CH T) : (∀ t ∈ T, 0 ≤ ahd t.s (hdT T) ∧ ahd t.s (hdT T) ≤ 536870912) → ∃ e D, Ch (hdT T) T e D := by
  induction c with
  | nil => exact fun _ => ⟨0, 0, .nil⟩
  | @add T c t hs ha ih =>
    intro hn
    obtain ⟨k1, k2, k3, k4⟩ := adD_yes ha
    have w1 := okN_rng k1
    have w2 := okN_rng k2
    cases hT : T with
    | nil =>
      subst hT
      exact ⟨_, _, .add .nil t 0 hs (by show (t.s - t.s - 0) % 4294967296 = 0; simp) (by omega) (by omega) w1 w2⟩
    | cons a l =>
      have hne : T ≠ [] := by rw [hT]; simp
      have hem : T.isEmpty = false := by rw [hT]; rfl
      rw [← hT]
      rw [hdT_snoc t hem] at hn ⊢
      obtain ⟨e, D, c'⟩ := ih (fun u hu => hn u (List.mem_append_left _ hu))
      have hb := c'.bnd
      have ht := hn t (by simp)
      have hm := ahd_mod t.s (hdT T)
      have hf := c'.fin hne
      refine ⟨_, _, .add c' t (ahd t.s (hdT T)) hs hm ?_ ht w1 w2⟩
      unfold dps' at k3
      rw [List.isEmpty_map, hem] at k3
      have hq : ¬ ahd t.s (dend ((List.map tdp T).getLast?.getD zDp)) < 0 := by simpa using k3
      have := ahd_mod t.s (dend ((List.map tdp T).getLast?.getD zDp))
      have := ahd_lo t.s (dend ((List.map tdp T).getLast?.getD zDp))
      omega
theorem off_of {T : List Tx} {n x : Int} (hx : (n - hdT T - x) % 4294967296 = 0) (hr : -1073741824 < x ∧ x < 1073741824) (ho : ∀ t ∈ T, ¬ (0 < ahd n t.s ∧ ahd n t.s < t.wz)) : offP (hdT T) T x := fun t ht o hm hor hc => by
  have e : ahd n t.s = x - o := ahd_is (by omega) (by omega) (by omega)
  exact ho t ht (by rw [e]; exact hc)
end Go.Proofs.Ytaaanmjmgnpcgaa

/- The walks of SeqadjBack and SeqadjOrder. -/
namespace Go.Proofs.Ytaaanmjmgnpcgaa
open Go.RowKit Go.Shelf
set_option maxRecDepth 100000
set_option linter.unusedVariables false
set_option linter.unusedSimpArgs false

theorem back_math {T : List Tx} (c : CH T) (hl : T.length ≤ 8) {n : Int} (hn : 0 ≤ n ∧ n ≤ 4294967295) (hN : NearP T n) (hO : OutP T n) : (0 ≤ mpT T n ∧ mpT T n ≤ 4294967295) ∧ umT T (mpT T n) = n := by
  by_cases hT : T = []
  · subst hT
    exact ⟨hn, rfl⟩
  · obtain ⟨h1, h2, h3⟩ := hN hT
    obtain ⟨e, D, c'⟩ := c.ct h1
    have hm := ahd_mod n (hdT T)
    obtain ⟨y1, y2, m1, _, _, _, _, _, _, _, _, _, hu⟩ := c'.two hl (ahd n (hdT T)) (ahd n (hdT T)) ⟨h2, h3⟩ ⟨h2, h3⟩ (Int.le_refl _)
    have en : (hdT T + ahd n (hdT T)) % 4294967296 = n := by omega
    rw [en] at m1 hu
    have hu' := hu (off_of hm ⟨h2, h3⟩ hO)
    rw [m1]
    exact ⟨by omega, hu'⟩
theorem order_math {T : List Tx} (c : CH T) (hl : T.length ≤ 8) {n d : Int} (hn : 0 ≤ n ∧ n ≤ 4294967295) (hd : 0 ≤ d ∧ d ≤ 65535) (hN : NearP T n) (hM : NearP T ((n + d) % 4294967296)) : 0 ≤ ahd (mpT T ((n + d) % 4294967296)) (mpT T n) ∧ (0 < d → OutP T ((n + d) % 4294967296) → 0 < ahd (mpT T ((n + d) % 4294967296)) (mpT T n)) := by
  by_cases hT : T = []
  · subst hT
    have e : ahd (mpT [] ((n + d) % 4294967296)) (mpT [] n) = d := ahd_is (by show ((n + d) % 4294967296 - n - d) % 4294967296 = 0; omega) (by omega) (by omega)
    rw [e]
    exact ⟨hd.1, fun h _ => h⟩
  · obtain ⟨h1, h2, h3⟩ := hN hT
    obtain ⟨_, k2, k3⟩ := hM hT
    obtain ⟨e, D, c'⟩ := c.ct h1
    have hm := ahd_mod n (hdT T)
    have hm2 := ahd_mod ((n + d) % 4294967296) (hdT T)
    have hx : ahd ((n + d) % 4294967296) (hdT T) = ahd n (hdT T) + d := by omega
    obtain ⟨y1, y2, m1, m2, _, _, _, _, b1, b2, hle, hlt, _⟩ := c'.two hl (ahd n (hdT T)) (ahd ((n + d) % 4294967296) (hdT T)) ⟨h2, h3⟩ ⟨k2, k3⟩ (by omega)
    have en : (hdT T + ahd n (hdT T)) % 4294967296 = n := by omega
    have em : (hdT T + ahd ((n + d) % 4294967296) (hdT T)) % 4294967296 = (n + d) % 4294967296 := by omega
    rw [en] at m1
    rw [em] at m2
    rw [m1, m2]
    have hl8 : (T.length : Int) ≤ 8 := by omega
    have e : ahd ((hdT T + y2) % 4294967296) ((hdT T + y1) % 4294967296) = y2 - y1 := ahd_is (by omega) (by omega) (by omega)
    rw [e]
    refine ⟨by omega, fun hp ho => ?_⟩
    have := hlt (by omega) (off_of hm2 ⟨k2, k3⟩ ho)
    omega
theorem mpT_rng {T : List Tx} {n : Int} (hn : 0 ≤ n ∧ n ≤ 4294967295) (base : Nat) (W : World) {lp : List Pa} {ld : List Dp} (h : RT base W lp ld T) : 0 ≤ mpT T n ∧ mpT T n ≤ 4294967295 := by
  induction h with
  | nil => exact hn
  | add h t ta tc ta' tc' hs hw hl ho ho' ih =>
    rw [mpT_snoc]
    split
    · exact ih
    · split <;> omega
theorem PR.map {base : Nat} {W : World} {a b : Nat} {T : List Tx} (h : PR base W a b T) (hl : T.length ≤ 8) {n : Int} (hn : 0 ≤ n ∧ n ≤ 4294967295) : Calls Try.prog 19 #[.pointer (some ⟨a, 0, none⟩), .int .u32 n] W fun e w' => e = .returned (.int .u32 (mpT T n)) ∧ Later W w' := by
  obtain ⟨va, vb, lp, ld, h1, h2, h3, h4⟩ := h
  have := smap_any base a va lp n hn W h1 (by rw [h3.rs.len, h3.len]; omega)
  rw [h3.rs.map, h3.map] at this
  exact this
theorem PR.unm {base : Nat} {W : World} {a b : Nat} {T : List Tx} (h : PR base W a b T) (hl : T.length ≤ 8) {n : Int} (hn : 0 ≤ n ∧ n ≤ 4294967295) : Calls Try.prog 18 #[.pointer (some ⟨a, 0, none⟩), .int .u32 n] W fun e w' => e = .returned (.int .u32 (umT T n)) ∧ Later W w' := by
  obtain ⟨va, vb, lp, ld, h1, h2, h3, h4⟩ := h
  have := sunmap_any base a va lp n hn W h1 (by rw [h3.rs.len, h3.len]; omega)
  rw [h3.rs.unm, h3.unm] at this
  exact this

set_option maxHeartbeats 8000000 in
theorem walk_SeqadjBack (w : World) (sv : Value) (ds : List Ap) (hI : RdA w.heap.size w sv ds) (n : Int) (hn : 0 ≤ n ∧ n ≤ 4294967295) :
    Calls Try.prog 5 #[sv, .int .u32 n] w fun e w' => e = .returned (.bool true) ∧ Below w.heap.size w w' := by
  have HPL := hide (play11_any sv ds w w.heap.size (Nat.le_refl _) hI)
  have HNE := hide (fun W (h : Later w W) => near_any sv ds n W w.heap.size h.size (hI.below h))
  have HIN := hide (fun W (h : Later w W) => inside_any sv ds n W w.heap.size h.size (hI.below h))
  have HCH := hide (plT_ch ds (fun d hd => (hI.2 d hd).1) (min ds.length 30) (Nat.min_le_left _ _))
  have HLN := hide (plT_len ds (min ds.length 30))
  obtain ⟨aa, ca, rfl, ha1, ha2⟩ := hI.slice
  clear hI
  generalize plT ds (min ds.length 30) = T at *
  go_enter Try.func5, Try.ntmps5
  go_wp2_with fail
  refine HPL.out.mono ?_
  rintro e w1 ⟨l1, a, b, rfl, hP1⟩
  clear HPL
  go_wp2_with fail
  refine (live11_any w1).mono ?_
  rintro e w2 ⟨rfl, l2⟩
  have L2 : Later w w2 := l1.trans l2
  have hP2 := hP1.later l2
  clear hP1
  go_wp2_with fail
  refine (HNE.out w2 L2).mono ?_
  rintro e w3 ⟨r, rfl, l3, hr⟩
  have L3 : Later w w3 := L2.trans l3
  have hP3 := hP2.later l3
  clear hP2
  cases r with
  | false =>
    go_wp2_with fail
    go_ret
    exact ⟨rfl, L3⟩
  | true =>
    have HN := hide (hr rfl)
    clear hr
    go_wp2_with fail
    refine (HIN.out w3 L3).mono ?_
    rintro e w4 ⟨r, rfl, l4, hr⟩
    have L4 : Later w w4 := L3.trans l4
    have hP4 := hP3.later l4
    clear hP3
    cases r with
    | true =>
      go_wp2_with fail
      go_ret
      exact ⟨rfl, L4⟩
    | false =>
      obtain ⟨hrg, hbk⟩ := back_math HCH.out HLN.out hn HN.out (hr rfl)
      have HM := hide (hP4.map HLN.out hn)
      have HU := hide (fun W (h : Later w4 W) => (hP4.later h).unm HLN.out hrg)
      rw [hbk] at HU
      generalize mpT T n = q at *
      clear hr hbk hP4
      go_wp2_with fail
      refine HM.out.mono ?_
      rintro e w5 ⟨rfl, l5⟩
      have L5 : Later w w5 := L4.trans l5
      go_wp2_with fail
      refine (HU.out w5 l5).mono ?_
      rintro e w6 ⟨rfl, l6⟩
      have L6 : Later w w6 := L5.trans l6
      go_wp2_with fail
      go_ret
      exact ⟨by first | rfl | simp, L6⟩

set_option maxHeartbeats 8000000 in
theorem walk_SeqadjOrder (w : World) (sv : Value) (ds : List Ap) (hI : RdA w.heap.size w sv ds) (n : Int) (hn : 0 ≤ n ∧ n ≤ 4294967295) (d : Int) (hd : 0 ≤ d ∧ d ≤ 65535) :
    Calls Try.prog 6 #[sv, .int .u32 n, .int .u16 d] w fun e w' => e = .returned (.bool true) ∧ Below w.heap.size w w' := by
  have HPL := hide (play11_any sv ds w w.heap.size (Nat.le_refl _) hI)
  have HNE := hide (fun n W (h : Later w W) => near_any sv ds n W w.heap.size h.size (hI.below h))
  have HIN := hide (fun n W (h : Later w W) => inside_any sv ds n W w.heap.size h.size (hI.below h))
  have HCH := hide (plT_ch ds (fun d hd => (hI.2 d hd).1) (min ds.length 30) (Nat.min_le_left _ _))
  have HLN := hide (plT_len ds (min ds.length 30))
  obtain ⟨aa, ca, rfl, ha1, ha2⟩ := hI.slice
  clear hI
  generalize plT ds (min ds.length 30) = T at *
  go_enter Try.func6, Try.ntmps6
  go_wp2_with fail
  refine HPL.out.mono ?_
  rintro e w1 ⟨l1, a, b, rfl, hP1⟩
  clear HPL
  go_wp2_with fail
  refine (live11_any w1).mono ?_
  rintro e w2 ⟨rfl, l2⟩
  have L2 : Later w w2 := l1.trans l2
  have hP2 := hP1.later l2
  have hmr : 0 ≤ (n + d) % 4294967296 ∧ (n + d) % 4294967296 ≤ 4294967295 := by omega
  have HOM := hide (fun h1 h2 => order_math HCH.out HLN.out hn hd h1 h2)
  have HDM : Hid (0 < d ∨ d = 0) := by show _ ∨ _; omega
  generalize hmm : (n + d) % 4294967296 = m at *
  have HMM := hide hmm
  clear hP1 hd
  go_wp2_with fail
  refine (HNE.out n w2 L2).mono ?_
  rintro e w3 ⟨r, rfl, l3, hr⟩
  have L3 : Later w w3 := L2.trans l3
  have hP3 := hP2.later l3
  clear hP2
  cases r with
  | false =>
    go_wp2_with fail
    go_ret
    exact ⟨rfl, L3⟩
  | true =>
    have HN := hide (hr rfl)
    clear hr
    go_wp2_with fail
    refine (HNE.out m w3 L3).mono ?_
    rintro e w4 ⟨r, rfl, l4, hr⟩
    have L4 : Later w w4 := L3.trans l4
    have hP4 := hP3.later l4
    clear hP3
    cases r with
    | false =>
      go_wp2_with fail
      go_ret
      exact ⟨rfl, L4⟩
    | true =>
      obtain ⟨ho1, ho2⟩ := HOM.out HN.out (hr rfl)
      have HO2 := hide ho2
      have HM := hide (hP4.map HLN.out hmr)
      have HM2 := hide (fun W (h : Later w4 W) => (hP4.later h).map HLN.out hn)
      have HAH := hide (fun W => rahead_any (mpT T m) (mpT T n) W)
      clear hr hP4 ho2
      generalize hq : ahd (mpT T m) (mpT T n) = q at *
      clear hq
      generalize mpT T n = q1 at *
      generalize mpT T m = q2 at *
      go_wp2_with fail
      refine HM.out.mono ?_
      rintro e w5 ⟨rfl, l5⟩
      have L5 : Later w w5 := L4.trans l5
      go_wp2_with fail
      refine (HM2.out w5 l5).mono ?_
      rintro e w6 ⟨rfl, l6⟩
      have L6 : Later w w6 := L5.trans l6
      go_wp2_with fail
      refine (HAH.out w6).mono ?_
      rintro e w7 ⟨rfl, rfl⟩
      rcases HDM.out with hp | hp
      · go_wp2_with fail
        refine (HIN.out m w7 L6).mono ?_
        rintro e w8 ⟨r, rfl, l8, hr⟩
        have L8 : Later w w8 := L6.trans l8
        cases r with
        | true =>
          go_wp2_with fail
          go_ret
          exact ⟨by first | rfl | (simp; done) | (simp; omega), L8⟩
        | false =>
          have hlt := HO2.out hp (hr rfl)
          clear hr
          go_wp2_with fail
          go_ret
          exact ⟨by first | rfl | (simp; done) | (simp; omega), L8⟩
      · subst hp
        go_wp2_with fail
        go_ret
        exact ⟨by first | rfl | (simp; done) | (simp; omega), L6⟩
end Go.Proofs.Ytaaanmjmgnpcgaa

/- Find of both streams. -/
namespace Go.Proofs.Ytaaanmjmgnpcgaa
open Go.RowKit Go.Shelf
set_option maxRecDepth 100000
set_option linter.unusedVariables false
set_option linter.unusedSimpArgs false

theorem RT.at {base : Nat} {W : World} {lp : List Pa} {ld : List Dp} {T : List Tx} (h : RT base W lp ld T) : ∀ i (hi : i < T.length), ∃ p d, lp[i]? = some p ∧ ld[i]? = some d ∧ p.ws = T[i].s ∧ p.we = (T[i].s + T[i].wz) % 4294967296 ∧ p.tn = T[i].zs.length ∧ Ow base W (.slice p.ta p.tn p.tc) T[i].zs ∧ d.st = T[i].s ∧ d.wz = T[i].wz ∧ d.tn = T[i].zs.length ∧ Ow base W (.slice d.ta d.tn d.tc) T[i].zs ∧ (0 ≤ T[i].s ∧ T[i].s ≤ 4294967295) ∧ (1 ≤ T[i].wz ∧ T[i].wz ≤ 128) ∧ (1 ≤ (T[i].zs.length : Int) ∧ (T[i].zs.length : Int) ≤ 128) := by
  induction h with
  | nil => intro i hi; simp at hi
  | @add lp ld T h t ta tc ta' tc' hs hw hn ho ho' ih =>
    intro i hi
    have l1 : ld.length = T.length := h.len
    have l2 : lp.length = T.length := by rw [h.rs.len, h.len]
    by_cases hi' : i < T.length
    · obtain ⟨p, d, a1, a2, r⟩ := ih i hi'
      refine ⟨p, d, by rw [List.getElem?_append_left (by omega)]; exact a1, by rw [List.getElem?_append_left (by omega)]; exact a2, ?_⟩
      simp only [List.getElem_append_left hi']
      exact r
    · have e : i = T.length := by simp at hi; omega
      subst e
      refine ⟨_, _, by rw [List.getElem?_append_right (by omega), l2, Nat.sub_self]; rfl, by rw [List.getElem?_append_right (by omega), l1, Nat.sub_self]; rfl, ?_⟩
      simp only [List.getElem_concat_length]
      refine ⟨?_, ?_, ?_, ho, ?_, ?_, ?_, ho', hs, hw, hn⟩ <;> first | trivial | rfl
/-- The text of a part that is there. -/
def fdT (T : List Tx) (s wz : Int) : Option (List Int) := (T.find? (fun t => decide (t.s = s) && decide (t.wz = wz))).map Tx.zs
def FdQ (w w' : World) (e : Ending) (o : Option (List Int)) : Prop := Later w w' ∧ ∃ av cv, e = .returned (.tuple #[.slice av (o.getD []).length cv, .bool o.isSome]) ∧ Ow w.heap.size w' (.slice av (o.getD []).length cv) (o.getD [])
theorem fdT_drop {T : List Tx} {k : Nat} (h : k < T.length) (s wz : Int) : fdT (T.drop k) s wz = if (decide (T[k].s = s) && decide (T[k].wz = wz)) = true then some T[k].zs else fdT (T.drop (k + 1)) s wz := by
  unfold fdT
  rw [List.drop_eq_getElem_cons h, List.find?_cons]
  cases (decide (T[k].s = s) && decide (T[k].wz = wz)) <;> rfl
theorem fdT_end (T : List Tx) (s wz : Int) : fdT (T.drop T.length) s wz = none := by unfold fdT; rw [List.drop_length]; rfl

theorem slength_any (a b : Int) (w : World) : Calls Try.prog 34 #[.agg #[.int .u32 a, .int .u32 b]] w fun e w' => e = .returned (.int .i64 ((b - a) % 4294967296)) ∧ Later w w' := by
  have la : Later w (w.alloc (.cells #[.int .u32 a, .int .u32 b] 62)) := (Below.refl _ _).alloc (Nat.le_refl _) _
  have hn := heap_alloc_new w (.cells #[.int .u32 a, .int .u32 b] 62)
  go_enter Try.func34, Try.ntmps34
  go_upto_region 1 with fail
  generalize w.alloc _ = w0 at *
  have k0 := block_cell hn
  go_wp2_with fail
  go_ret
  exact ⟨by first | rfl | (simp; done) | (simp; omega), la⟩

/-- The program's stream alone. -/
def SP (base : Nat) (W : World) (a : Nat) (T : List Tx) : Prop := ∃ va lp ld, SL 57 base W a va lp ∧ RT base W lp ld T
theorem PR.sp {base : Nat} {W : World} {a b : Nat} {T : List Tx} (h : PR base W a b T) : SP base W a T := by
  obtain ⟨va, vb, lp, ld, h1, h2, h3, _⟩ := h
  exact ⟨va, lp, ld, h1, h3⟩
theorem SP.later {base : Nat} {A B : World} {a : Nat} {T : List Tx} (h : SP base A a T) (k : Later A B) : SP base B a T := by
  obtain ⟨va, lp, ld, h1, h3⟩ := h
  exact ⟨va, lp, ld, h1.later k, h3.keep (fun v zs ho => ho.later k)⟩
theorem SP.add {base : Nat} {w W W1 : World} {a : Nat} {va : Value} {lp : List Pa} {ld : List Dp} {T : List Tx} {t : Tx} (h1 : SL 57 base w a va lp) (hR : RT base w lp ld T) (lw : Later w W)
    (q1 : AdP base W W1 a va lp t.s t.wz t.zs) (hs : 0 ≤ t.s ∧ t.s ≤ 4294967295) : SP base W1 a (addT T t) ∧ adS lp t.s t.wz t.zs.length = adT T t.s t.wz t.zs.length := by
  have e1 : adS lp t.s t.wz t.zs.length = adT T t.s t.wz t.zs.length := by rw [hR.rs.ad, hR.ad]
  refine ⟨?_, e1⟩
  unfold AdP at q1
  rw [e1] at q1
  rcases q1 with ⟨h0, q⟩ | ⟨h0, ta, tc, q, o⟩
  · rw [addT_no h0]
    have hk := fun v zs ho => SLq.ow (h1.later lw) q v zs (Ow.later ho lw)
    obtain ⟨va', r1, _, _⟩ := q
    exact ⟨va', lp, ld, r1, hR.keep hk⟩
  · rw [addT_yes h0]
    have hk := fun v zs ho => SLq.ow (h1.later lw) q v zs (Ow.later ho lw)
    obtain ⟨va', r1, _, _⟩ := q
    obtain ⟨k1, k2, _, _⟩ := adD_yes h0
    exact ⟨va', _, _, r1, .add (hR.keep hk) t ta tc ta tc hs (okN_rng k1) (okN_rng k2) o o⟩

set_option maxHeartbeats 8000000 in
theorem sfind_any (base a : Nat) (T : List Tx) (s wz : Int) (w : World) (hP : SP base w a T) (hl : T.length ≤ 8) :
    Calls Try.prog 14 #[.pointer (some ⟨a, 0, none⟩), .int .u32 s, .int .i64 wz] w fun e w' => FdQ w w' e (fdT T s wz) := by
  obtain ⟨va, lp, ld, h1, hR⟩ := hP
  have hlp : lp.length = T.length := by rw [hR.rs.len, hR.len]
  have k0 := block_cell h1.2.1
  have HO := hide h1.2.2
  have HR := hide hR
  obtain ⟨av, cv, rfl, _, _⟩ := (ownP_rd h1.2.2).slice
  rw [hlp] at k0
  have HLP := hide hlp
  clear h1 hR hlp
  have HF0 : Hid (fdT (T.drop 0) s wz = fdT T s wz) := by show _ = _; rw [List.drop_zero]
  generalize hf : fdT T s wz = o at *
  clear hf
  go_enter Try.func14, Try.ntmps14
  go_wp2_with fail
  clear k0
  go_loopw [17] (fun i wr => ∃ k : Nat, k ≤ T.length ∧ i = .int .i64 (k : Int) ∧ Later w wr ∧ fdT (T.drop k) s wz = o) (fun i _ => T.length - (intOf i).toNat)
  case atStart => exact ⟨0, by omega, rfl, Later.refl _, HF0.out⟩
  case round =>
    obtain ⟨k, hk, rfl, lw, hfk⟩ := hrel
    by_cases hkT : k < T.length
    · have hkT' : (k : Int) < T.length := by omega
      obtain ⟨p, d, ep, _, e1, e2, e3, hot, _, _, _, _, r1, r2, r3⟩ := HR.out.at k hkT
      have hfk2 := hfk
      rw [fdT_drop hkT] at hfk2
      have HFK := hide hfk2
      have hklp : k < lp.length := by rw [HLP.out]; exact hkT
      obtain ⟨g, off, cp, e, _, _, hgn, hcs⟩ := (ownP_rd (ownP_later HO.out lw)).cells (by omega)
      rw [HLP.out] at e
      simp at e
      obtain ⟨rfl, rfl⟩ := e
      have hpk : lp[k] = p := by rw [List.getElem?_eq_getElem hklp] at ep; exact Option.some.inj ep
      have d0 := hcs k hklp 0 (by omega)
      have d1 := hcs k hklp 1 (by omega)
      have d2 := hcs k hklp 2 (by omega)
      have d3 := hcs k hklp 3 (by omega)
      have d4 := hcs k hklp 4 (by omega)
      rw [hpk] at d0 d1 d2 d3 d4
      simp only [pac, List.getElem?_cons_zero, List.getElem?_cons_succ, Nat.add_zero] at d0 d1 d2 d3 d4
      have HOT := hide (hot.later lw)
      generalize hts : T[k].s = ts at *
      generalize htw : T[k].wz = tw at *
      generalize htz : T[k].zs = tz at *
      have HE3 := hide e3
      rw [e1] at d0
      rw [e2] at d1
      have HLN := hide (slength_any ts ((ts + tw) % 4294967296))
      have hlz : ((ts + tw) % 4294967296 - ts) % 4294967296 = tw := by omega
      rw [hlz] at HLN
      clear hcs hpk ep e1 e2 e3 hfk hfk2 hts htw htz hot hlz hklp
      generalize hwe : (ts + tw) % 4294967296 = we at *
      clear hwe
      have la : Later wr (wr.alloc (.cells #[.int .u32 ts, .int .u32 we, .int .u32 p.is, .int .u32 p.ie, .slice p.ta p.tn p.tc] 65)) := (Below.refl _ _).alloc (Nat.le_refl _) _
      have hn1 := heap_alloc_new wr (.cells #[.int .u32 ts, .int .u32 we, .int .u32 p.is, .int .u32 p.ie, .slice p.ta p.tn p.tc] 65)
      go_upto_region 6 with fail
      generalize wr.alloc _ = w1 at *
      have l1 : Later w w1 := lw.trans la
      have K1 := block_cell hn1
      generalize wr.heap.size = pb at *
      clear d0 d1 d2 d3 d4
      by_cases hs1 : ts = s
      · have hb1 : (ts == s) = true := by simp [hs1]
        have X1 : Hid (decide (ts = s) = true) := decide_eq_true hs1
        clear hs1
        go_wp2_with fail
        refine (HLN.out w1).mono ?_
        rintro e w2 ⟨rfl, l2⟩
        have L2 := l1.trans l2
        have K2 := block_cell (later_keep l2 hn1)
        clear K1
        by_cases hs2 : tw = wz
        · have hb2 : (tw == wz) = true := by simp [hs2]
          have X2 : Hid (decide (tw = wz) = true) := decide_eq_true hs2
          clear hs2
          have HCL := hide (cloneb_any (.slice p.ta p.tn p.tc) tz w2 (by have := r3.2; omega) (by have := (HOT.out.later (la.trans l2)).rd; exact this))
          go_wp2_with fail
          refine HCL.out.mono ?_
          rintro e w3 ⟨xa, xc, rfl, hOw, hb3⟩
          have L3 : Later w w3 := L2.trans hb3
          clear K2
          go_wp2_with fail
          refine bodyPost_ret (v := .tuple #[.slice xa tz.length xc, .bool true]) (by simp [results, Try.results14, go_sem]) rfl ?_
          have ho : o = some tz := by rw [← HFK.out, X1.out, X2.out]; rfl
          rw [ho]
          exact ⟨L3, xa, xc, rfl, hOw.mono L2.size⟩
        · have hb2 : (tw == wz) = false := by simpa using hs2
          have X2 : Hid (decide (tw = wz) = false) := decide_eq_false hs2
          clear hs2
          go_wp2_with fail
          go_roundw
          case rel => exact ⟨k + 1, by omega, by simp, L2, by rw [← HFK.out, X1.out, X2.out]; rfl⟩
          case measure => simp [intOf]; omega
      · have hb1 : (ts == s) = false := by simpa using hs1
        have X1 : Hid (decide (ts = s) = false) := decide_eq_false hs1
        clear hs1
        go_wp2_with fail
        go_roundw
        case rel => exact ⟨k + 1, by omega, by simp, l1, by rw [← HFK.out, X1.out]; rfl⟩
        case measure => simp [intOf]; omega
    · have hkT' : ¬ (k : Int) < T.length := by omega
      have ek : k = T.length := by omega
      have HOE : Hid (o = none) := by show _ = _; rw [← hfk, ek]; exact fdT_end T s wz
      clear hfk ek
      go_wp2_with fail
      refine bodyPost_ret (v := .tuple #[.slice none 0 0, .bool false]) (by simp [results, Try.results14, go_sem]) rfl ?_
      rw [HOE.out]
      exact ⟨lw, none, 0, rfl, .inl ⟨rfl, rfl⟩⟩
end Go.Proofs.Ytaaanmjmgnpcgaa

/- Find of the document's stream; the law's same. -/
namespace Go.Proofs.Ytaaanmjmgnpcgaa
open Go.RowKit Go.Shelf
set_option maxRecDepth 100000
set_option linter.unusedVariables false
set_option linter.unusedSimpArgs false

set_option maxHeartbeats 8000000 in
theorem rsfind_any (base a b : Nat) (T : List Tx) (s wz : Int) (w : World) (hP : PR base w a b T) (hl : T.length ≤ 8) :
    Calls Try.prog 26 #[.pointer (some ⟨b, 0, none⟩), .int .u32 s, .int .i64 wz] w fun e w' => FdQ w w' e (fdT T s wz) := by
  obtain ⟨va, vb, lp, ld, h1, h2, hR, _⟩ := hP
  have hld : ld.length = T.length := hR.len
  have HB := hide h2.2.1
  have HO := hide h2.2.2
  have HR := hide hR
  obtain ⟨av, cv, rfl, _, _⟩ := (ownD_rd h2.2.2).slice
  rw [hld] at HB
  have HLD := hide hld
  clear h1 h2 hR hld
  have HF0 : Hid (fdT (T.drop 0) s wz = fdT T s wz) := by show _ = _; rw [List.drop_zero]
  generalize hf : fdT T s wz = o at *
  clear hf
  go_enter Try.func26, Try.ntmps26
  go_wp2_with fail
  go_loopw [8] (fun i wr => ∃ k : Nat, k ≤ T.length ∧ i = .int .i64 (k : Int) ∧ Later w wr ∧ fdT (T.drop k) s wz = o) (fun i _ => T.length - (intOf i).toNat)
  case atStart => exact ⟨0, by omega, rfl, Later.refl _, HF0.out⟩
  case round =>
    obtain ⟨k, hk, rfl, lw, hfk⟩ := hrel
    have kb := block_cell (later_keep lw HB.out)
    by_cases hkT : k < T.length
    · have hkT' : (k : Int) < T.length := by omega
      obtain ⟨p, d, _, ed, _, _, _, _, e1, e2, e3, hot, r1, r2, r3⟩ := HR.out.at k hkT
      have hfk2 := hfk
      rw [fdT_drop hkT] at hfk2
      have HFK := hide hfk2
      have hkld : k < ld.length := by rw [HLD.out]; exact hkT
      obtain ⟨g, off, cp, e, _, _, hgn, hcs⟩ := (ownD_rd (ownD_later HO.out lw)).cells (by omega)
      rw [HLD.out] at e
      simp at e
      obtain ⟨rfl, rfl⟩ := e
      have hpk : ld[k] = d := by rw [List.getElem?_eq_getElem hkld] at ed; exact Option.some.inj ed
      have d0 := hcs k hkld 0 (by omega)
      have d1 := hcs k hkld 1 (by omega)
      have d2 := hcs k hkld 2 (by omega)
      rw [hpk] at d0 d1 d2
      simp only [dpc, List.getElem?_cons_zero, List.getElem?_cons_succ, Nat.add_zero] at d0 d1 d2
      have HOT := hide (hot.later lw)
      generalize hts : T[k].s = ts at *
      generalize htw : T[k].wz = tw at *
      generalize htz : T[k].zs = tz at *
      rw [e1] at d0
      rw [e2] at d1
      rw [e3] at d2 HOT
      clear hcs hpk ed e1 e2 e3 hfk hfk2 hts htw htz hot hkld
      by_cases hs1 : ts = s
      · have hb1 : (ts == s) = true := by simp [hs1]
        have X1 : Hid (decide (ts = s) = true) := decide_eq_true hs1
        clear hs1
        by_cases hs2 : tw = wz
        · have hb2 : (tw == wz) = true := by simp [hs2]
          have X2 : Hid (decide (tw = wz) = true) := decide_eq_true hs2
          clear hs2
          go_upto_region 5 with fail
          obtain ⟨xa, xc, W1, hrun, hOw, lc, _⟩ := copyb wr 24 wr.heap.size (.slice d.ta tz.length d.tc) tz HOT.out.rd (Nat.le_refl _) (by omega)
          have la0 : Later wr (wr.alloc (.cells #[] 5)) := (Below.refl _ _).alloc (Nat.le_refl _) _
          have kb2 := block_cell (later_keep (lw.trans la0) HB.out)
          have f2 := la0.cell d2
          have HRUN := hide hrun
          have HOW := hide hOw
          clear hrun hOw d0 d1
          go_wp2_with (at_builtin; refine wpList_appv rfl (.tmp 44) (.tmp 52) 24 rfl _ _ rfl rfl _ W1 HRUN.out ?_)
          refine bodyPost_ret (v := .tuple #[.slice xa tz.length xc, .bool true]) (by simp [results, Try.results26, go_sem]) rfl ?_
          have ho : o = some tz := by rw [← HFK.out, X1.out, X2.out]; rfl
          rw [ho]
          exact ⟨lw.trans lc, xa, xc, rfl, HOW.out.mono lw.size⟩
        · have hb2 : (tw == wz) = false := by simpa using hs2
          have X2 : Hid (decide (tw = wz) = false) := decide_eq_false hs2
          clear hs2
          go_wp2_with fail
          go_roundw
          case rel => exact ⟨k + 1, by omega, by simp, lw, by rw [← HFK.out, X1.out, X2.out]; rfl⟩
          case measure => simp [intOf]; omega
      · have hb1 : (ts == s) = false := by simpa using hs1
        have X1 : Hid (decide (ts = s) = false) := decide_eq_false hs1
        clear hs1
        go_wp2_with fail
        go_roundw
        case rel => exact ⟨k + 1, by omega, by simp, lw, by rw [← HFK.out, X1.out]; rfl⟩
        case measure => simp [intOf]; omega
    · have hkT' : ¬ (k : Int) < T.length := by omega
      have ek : k = T.length := by omega
      have HOE : Hid (o = none) := by show _ = _; rw [← hfk, ek]; exact fdT_end T s wz
      clear hfk ek
      go_wp2_with fail
      refine bodyPost_ret (v := .tuple #[.slice none 0 0, .bool false]) (by simp [results, Try.results26, go_sem]) rfl ?_
      rw [HOE.out]
      exact ⟨lw, none, 0, rfl, .inl ⟨rfl, rfl⟩⟩
end Go.Proofs.Ytaaanmjmgnpcgaa

/- The law's same; the walk of SeqadjPlays. -/
namespace Go.Proofs.Ytaaanmjmgnpcgaa
open Go.RowKit Go.Shelf
set_option maxRecDepth 100000
set_option linter.unusedVariables false
set_option linter.unusedSimpArgs false

theorem PR.rmap {base : Nat} {W : World} {a b : Nat} {T : List Tx} (h : PR base W a b T) (hl : T.length ≤ 8) {n : Int} (hn : 0 ≤ n ∧ n ≤ 4294967295) : Calls Try.prog 27 #[.pointer (some ⟨b, 0, none⟩), .int .u32 n] W fun e w' => e = .returned (.int .u32 (mpT T n)) ∧ Later W w' := by
  obtain ⟨va, vb, lp, ld, h1, h2, h3, h4⟩ := h
  have := rsmap_any base b vb ld n W h2 hn (by rw [h3.len]; omega) h3.rs.tn
  rw [h3.map] at this
  exact this
theorem PR.runm {base : Nat} {W : World} {a b : Nat} {T : List Tx} (h : PR base W a b T) (hl : T.length ≤ 8) {n : Int} (hn : 0 ≤ n ∧ n ≤ 4294967295) : Calls Try.prog 28 #[.pointer (some ⟨b, 0, none⟩), .int .u32 n] W fun e w' => e = .returned (.int .u32 (umT T n)) ∧ Later W w' := by
  obtain ⟨va, vb, lp, ld, h1, h2, h3, h4⟩ := h
  have := rsunmap_any base b vb ld n W h2 hn (by rw [h3.len]; omega) h3.rs.tn
  rw [h3.unm] at this
  exact this
theorem PR.len {base : Nat} {W : World} {a b : Nat} {T : List Tx} (h : PR base W a b T) : Calls Try.prog 15 #[.pointer (some ⟨a, 0, none⟩)] W fun e w' => e = .returned (.int .i64 (T.length : Int)) ∧ w' = W := by
  obtain ⟨va, vb, lp, ld, h1, h2, h3, h4⟩ := h
  have := slen_any base a va lp W h1
  rw [h3.rs.len, h3.len] at this
  exact this
theorem PR.rlen {base : Nat} {W : World} {a b : Nat} {T : List Tx} (h : PR base W a b T) : Calls Try.prog 29 #[.pointer (some ⟨b, 0, none⟩)] W fun e w' => e = .returned (.int .i64 (T.length : Int)) ∧ w' = W := by
  obtain ⟨va, vb, lp, ld, h1, h2, h3, h4⟩ := h
  have := rslen_any base b vb ld W h2
  rw [h3.len] at this
  exact this

set_option maxHeartbeats 8000000 in
theorem same11_any (base a b : Nat) (T : List Tx) (s wz n : Int) (ta : Option Addr) (tn tc : Nat) (w : World) (hP : PR base w a b T) (hl : T.length ≤ 8) (hn : 0 ≤ n ∧ n ≤ 4294967295) :
    Calls Try.prog 11 #[.pointer (some ⟨a, 0, none⟩), .pointer (some ⟨b, 0, none⟩), .agg #[.int .u32 s, .int .i64 wz, .slice ta tn tc], .int .u32 n] w fun e w' => e = .returned (.bool true) ∧ Later w w' := by
  have lb0 : Later w (w.alloc (.cells #[.int .u32 s, .int .i64 wz, .slice ta tn tc] 26)) := (Below.refl _ _).alloc (Nat.le_refl _) _
  have c0 := heap_alloc_new w (.cells #[.int .u32 s, .int .i64 wz, .slice ta tn tc] 26)
  have HF := hide (fun W (h : Later w W) => sfind_any base a T s wz W (hP.later h).sp hl)
  have HG := hide (fun W (h : Later w W) => rsfind_any base a b T s wz W (hP.later h) hl)
  have HM := hide (fun W (h : Later w W) => (hP.later h).map hl hn)
  have HMR := hide (fun W (h : Later w W) => (hP.later h).rmap hl hn)
  have HU := hide (fun W (h : Later w W) => (hP.later h).unm hl hn)
  have HUR := hide (fun W (h : Later w W) => (hP.later h).runm hl hn)
  have HL := hide (fun W (h : Later w W) => (hP.later h).len)
  have HLR := hide (fun W (h : Later w W) => (hP.later h).rlen)
  clear hP
  generalize fdT T s wz = o at *
  generalize mpT T n = q1 at *
  generalize umT T n = q2 at *
  go_enter Try.func11, Try.ntmps11
  go_upto_region 1 with fail
  generalize w.alloc _ = w0 at *
  have k0 := block_cell c0
  generalize w.heap.size = pb at *
  go_wp2_with fail
  refine (HF.out w0 lb0).mono ?_
  rintro e w1 ⟨l1, av, cv, rfl, hO1⟩
  have L1 := lb0.trans l1
  have c1 := later_keep l1 c0
  have k1 := block_cell c1
  clear k0
  go_wp2_with fail
  refine (HG.out w1 L1).mono ?_
  rintro e w2 ⟨l2, au, cu, rfl, hO2⟩
  have L2 := L1.trans l2
  have hsa := conv_rd 24 9 5 Try.underlying24 Try.underlying5 Try.underlying9 (hO1.later l2).rd
  have hsb := conv_rd 24 9 5 Try.underlying24 Try.underlying5 Try.underlying9 hO2.rd
  clear k1 hO1 hO2
  go_wp2_with fail
  refine (HM.out w2 L2).mono ?_
  rintro e w3 ⟨rfl, l3⟩
  have L3 := L2.trans l3
  clear hsa hsb
  go_wp2_with fail
  refine (HMR.out w3 L3).mono ?_
  rintro e w4 ⟨rfl, l4⟩
  have L4 := L3.trans l4
  go_wp2_with fail
  refine (HU.out w4 L4).mono ?_
  rintro e w5 ⟨rfl, l5⟩
  have L5 := L4.trans l5
  go_wp2_with fail
  refine (HUR.out w5 L5).mono ?_
  rintro e w6 ⟨rfl, l6⟩
  have L6 := L5.trans l6
  go_wp2_with fail
  refine (HL.out w6 L6).mono ?_
  rintro e w7 ⟨rfl, rfl⟩
  go_wp2_with fail
  refine (HLR.out w7 L6).mono ?_
  rintro e w8 ⟨rfl, rfl⟩
  go_wp2_with fail
  go_ret
  exact ⟨by first | rfl | simp, L6⟩

set_option maxHeartbeats 8000000 in
theorem walk_SeqadjPlays (w : World) (sv : Value) (ds : List Ap) (hI : RdA w.heap.size w sv ds) (s wz : Int) (tv : Value) (zs : List Int) (hs : 0 ≤ s ∧ s ≤ 4294967295) (hw : -9223372036854775808 ≤ wz ∧ wz ≤ 9223372036854775807) (hB : Mt.By zs) (hI2 : Rd w.heap.size w tv zs) (n : Int) (hn : 0 ≤ n ∧ n ≤ 4294967295) :
    Calls Try.prog 3 #[sv, .agg #[.int .u32 s, .int .i64 wz, tv], .int .u32 n] w fun e w' => e = .returned (.bool true) ∧ Below w.heap.size w w' := by
  obtain ⟨at0, ct0, rfl, _, _⟩ := hI2.slice
  have lb0 : Later w (w.alloc (.cells #[.int .u32 s, .int .i64 wz, .slice at0 zs.length ct0] 26)) := (Below.refl _ _).alloc (Nat.le_refl _) _
  have c0 := heap_alloc_new w (.cells #[.int .u32 s, .int .i64 wz, .slice at0 zs.length ct0] 26)
  have HPL := hide (play11_any sv ds _ w.heap.size lb0.size (hI.below lb0))
  have HLN := hide (plT_len ds (min ds.length 30))
  obtain ⟨aa, ca, rfl, ha1, ha2⟩ := hI.slice
  clear hI hI2 hB hw hs
  generalize plT ds (min ds.length 30) = T at *
  go_enter Try.func3, Try.ntmps3
  go_upto_region 1 with fail
  generalize w.alloc _ = w0 at *
  go_wp2_with fail
  refine HPL.out.mono ?_
  rintro e w1 ⟨l1, a, b, rfl, hP1⟩
  have L1 := lb0.trans l1
  have c1 := later_keep l1 c0
  clear HPL c0
  go_wp2_with fail
  refine (live11_any w1).mono ?_
  rintro e w2 ⟨rfl, l2⟩
  have L2 := L1.trans l2
  have k2 := block_cell (later_keep l2 c1)
  have HS := hide (same11_any w0.heap.size a b T s wz n at0 zs.length ct0 w2 (hP1.later l2) HLN.out hn)
  clear hP1 c1
  go_wp2_with fail
  refine HS.out.mono ?_
  rintro e w3 ⟨rfl, l3⟩
  have L3 := L2.trans l3
  go_wp2_with fail
  go_ret
  exact ⟨by first | rfl | simp, L3⟩
end Go.Proofs.Ytaaanmjmgnpcgaa

/- The walk of SeqadjFinds. -/
namespace Go.Proofs.Ytaaanmjmgnpcgaa
open Go.RowKit Go.Shelf
set_option maxRecDepth 100000
set_option linter.unusedVariables false
set_option linter.unusedSimpArgs false

theorem plT_pre (ds : List Ap) (k : Nat) : ∀ m, ∃ R, plT ds (k + m) = plT ds k ++ R
  | 0 => ⟨[], by simp⟩
  | m + 1 => by
    obtain ⟨R, h⟩ := plT_pre ds k m
    show ∃ R, addT (plT ds (k + m)) _ = _
    unfold addT
    split
    · exact ⟨R ++ [_], by rw [h, List.append_assoc]⟩
    · exact ⟨R, h⟩
theorem fdT_pre {T R : List Tx} {s wz : Int} {z : List Int} (h : fdT T s wz = some z) : fdT (T ++ R) s wz = some z := by
  unfold fdT at h ⊢
  rw [List.find?_append]
  cases hq : T.find? (fun t => decide (t.s = s) && decide (t.wz = wz)) with
  | none => rw [hq] at h; cases h
  | some t => rw [hq] at h; exact h
theorem fdT_new (T : List Tx) (t : Tx) : (fdT (T ++ [t]) t.s t.wz).isSome = true := by
  unfold fdT
  rw [List.find?_append]
  cases hq : T.find? (fun u => decide (u.s = t.s) && decide (u.wz = t.wz)) with
  | none => simp
  | some u => rfl
theorem SP.len {base : Nat} {W : World} {a : Nat} {T : List Tx} (h : SP base W a T) : Calls Try.prog 15 #[.pointer (some ⟨a, 0, none⟩)] W fun e w' => e = .returned (.int .i64 (T.length : Int)) ∧ w' = W := by
  obtain ⟨va, lp, ld, h1, h3⟩ := h
  have := slen_any base a va lp W h1
  rw [h3.rs.len, h3.len] at this
  exact this

set_option maxHeartbeats 8000000 in
theorem walk_SeqadjFinds (w : World) (sv : Value) (ds : List Ap) (hI : RdA w.heap.size w sv ds) :
    Calls Try.prog 4 #[sv] w fun e w' => e = .returned (.bool true) ∧ Below w.heap.size w w' := by
  have HPL := hide (play11_any sv ds w w.heap.size (Nat.le_refl _) hI)
  have HI := hide hI
  obtain ⟨aa, ca, rfl, ha1, ha2⟩ := hI.slice
  clear hI
  go_enter Try.func4, Try.ntmps4
  go_wp2_with fail
  refine HPL.out.mono ?_
  rintro e w1 ⟨l1, a, b, rfl, hP1⟩
  clear HPL
  go_wp2_with fail
  refine (snew_any w1).mono ?_
  rintro e w2 ⟨rfl, l2, hT2⟩
  have HP := hide (fun W (h : Later w1 W) => hP1.later h)
  have hS2 : SP w1.heap.size w2 w1.heap.size [] := ⟨_, _, _, hT2, .nil⟩
  have HL1 := hide l1
  have hww : w.heap.size ≤ w1.heap.size := Below.size l1
  clear hP1 hT2 l1
  generalize hB : w1.heap.size = tb at *
  have HB := hide hB
  clear hB
  have l2' : Below tb w1 w2 := by rw [← HB.out]; exact l2
  clear l2
  go_wp2_with fail
  go_loopw [7] (fun iv wr => ∃ i : Nat, i ≤ ds.length ∧ i ≤ 30 ∧ iv = .int .i64 (i : Int) ∧ SP tb wr tb (plT ds i) ∧ Below tb w1 wr) (fun iv _ => 30 - (intOf iv).toNat)
  case atStart => exact ⟨0, by omega, by omega, rfl, hS2, l2'⟩
  case round =>
    obtain ⟨i, hk1, hk2, rfl, hS, hbw⟩ := hrel
    have hsz := hbw.size
    have LR : Later w1 wr := by show Below w1.heap.size w1 wr; rw [HB.out]; exact hbw
    have LW : Later w wr := HL1.out.trans LR
    by_cases hgo : i < ds.length ∧ i < 30
    · obtain ⟨g1, g2⟩ := hgo
      have g1' : (i : Int) < ds.length := by omega
      have g2' : (i : Int) < 30 := by omega
      have hRk := HI.out.below (Below.mono LW (Nat.le_refl _))
      obtain ⟨bb, off, cp, e, _, _, hbb, hcs⟩ := hRk.cells (by omega)
      simp at e
      obtain ⟨rfl, rfl⟩ := e
      have d0 := hcs i g1 0 (by omega)
      have d1 := hcs i g1 1 (by omega)
      have d2 := hcs i g1 2 (by omega)
      obtain ⟨hxs, hxw, hxb, hxr⟩ := hRk.2 ds[i] (List.getElem_mem _)
      have HPN := hide (plT_next g1)
      have HLN := hide (plT_len ds i)
      have HLN1 := hide (plT_len ds (i + 1))
      clear hcs hRk
      generalize hx : ds[i] = x at *
      have HX := hide hx
      clear hx
      simp only [apc, List.getElem?_cons_zero, List.getElem?_cons_succ, Nat.add_zero] at d0 d1 d2
      obtain ⟨at0, ct0, htv, _, _⟩ := hxr.slice
      rw [htv] at d2
      have HXR := hide (fun W (h : Below w.heap.size wr W) => (Rd.below h hxr))
      clear hxr
      obtain ⟨va, lp, ld, h1, hRT⟩ := hS
      have hlp : lp.length ≤ 8 := by rw [hRT.rs.len, hRT.len]; exact HLN.out
      have hbr : tb ≤ wr.heap.size := by have := HB.out; omega
      go_upto_region 6 with fail
      refine anyT_begin (R := But (Eb tb wr.heap.size)) 18 rfl (by kernel_rfl) ?_
      have ld0 : Later wr wr.drew := Later.drew wr
      have c0 : ∀ v1, But (Eb tb wr.heap.size) wr.drew v1 → v1.cell? ⟨bb, off + i * 3, none⟩ = some (.int .u32 x.s) := fun v1 hv => hv.cell (ld0.cell d0) (fun e => by have := e.1; simp at this; omega)
      have c1 : ∀ v1, But (Eb tb wr.heap.size) wr.drew v1 → v1.cell? ⟨bb, off + i * 3 + 1, none⟩ = some (.int .i64 x.wz) := fun v1 hv => hv.cell (ld0.cell d1) (fun e => by have := e.1; simp at this; omega)
      have c2 : ∀ v1, But (Eb tb wr.heap.size) wr.drew v1 → v1.cell? ⟨bb, off + i * 3 + 2, none⟩ = some (.slice at0 x.zs.length ct0) := fun v1 hv => hv.cell (ld0.cell d2) (fun e => by have := e.1; simp at this; omega)
      generalize wr.drew = Wd at *
      clear d0 d1 d2
      refine anyT_val (But.pre _) 0 rfl (by kernel_rfl) (by kernel_rfl) (by kernel_rfl) (fun _ _ _ _ h => h) rfl ?_; apply Exists.intro; refine ⟨fun v1 hv1 => ?_, ?_⟩; (· (go_simp; rfl)); simp only [Act.put, List.setIfInBounds_toArray, List.set_cons_zero, List.set_cons_succ]
      refine anyT_val (But.pre _) 1 rfl (by kernel_rfl) (by kernel_rfl) (by kernel_rfl) (fun _ _ _ _ h => h) rfl ?_; apply Exists.intro; refine ⟨fun v1 hv1 => ?_, ?_⟩; (· (go_simp; rfl)); simp only [Act.put, List.setIfInBounds_toArray, List.set_cons_zero, List.set_cons_succ]
      refine anyT_val (But.pre _) 2 rfl (by kernel_rfl) (by kernel_rfl) (by kernel_rfl) (fun _ _ _ _ h => h) rfl ?_; apply Exists.intro; refine ⟨fun v1 hv1 => ?_, ?_⟩; (· (go_simp; rfl)); simp only [Act.put, List.setIfInBounds_toArray, List.set_cons_zero, List.set_cons_succ]
      refine anyT_val (But.pre _) 3 rfl (by kernel_rfl) (by kernel_rfl) (by kernel_rfl) (fun _ _ _ _ h => h) rfl ?_; apply Exists.intro; refine ⟨fun v1 hv1 => ?_, ?_⟩; (· (go_simp; rfl)); simp only [Act.put, List.setIfInBounds_toArray, List.set_cons_zero, List.set_cons_succ]
      refine anyT_val (But.pre _) 4 rfl (by kernel_rfl) (by kernel_rfl) (by kernel_rfl) (fun _ _ _ _ h => h) rfl ?_; apply Exists.intro; refine ⟨fun v1 hv1 => ?_, ?_⟩; (· (go_simp; rfl)); simp only [Act.put, List.setIfInBounds_toArray, List.set_cons_zero, List.set_cons_succ]
      refine anyT_val (But.pre _) 5 rfl (by kernel_rfl) (by kernel_rfl) (by kernel_rfl) (fun _ _ _ _ h => h) rfl ?_; apply Exists.intro; refine ⟨fun v1 hv1 => ?_, ?_⟩; (· (go_simp; rfl)); simp only [Act.put, List.setIfInBounds_toArray, List.set_cons_zero, List.set_cons_succ]
      refine anyT_val (But.pre _) 6 rfl (by kernel_rfl) (by kernel_rfl) (by kernel_rfl) (fun _ _ _ _ h => h) rfl ?_; apply Exists.intro; refine ⟨fun v1 hv1 => ?_, ?_⟩; (· (go_simp; rfl)); simp only [Act.put, List.setIfInBounds_toArray, List.set_cons_zero, List.set_cons_succ]
      refine anyT_val (But.pre _) 7 rfl (by kernel_rfl) (by kernel_rfl) (by kernel_rfl) (fun _ _ _ _ h => h) rfl ?_; apply Exists.intro; refine ⟨fun v1 hv1 => ?_, ?_⟩; (· (go_simp; rfl)); simp only [Act.put, List.setIfInBounds_toArray, List.set_cons_zero, List.set_cons_succ]
      refine anyT_val (But.pre _) 8 rfl (by kernel_rfl) (by kernel_rfl) (by kernel_rfl) (fun _ _ _ _ h => h) rfl ?_; apply Exists.intro; refine ⟨fun v1 hv1 => ?_, ?_⟩; (· (go_simp; rfl)); simp only [Act.put, List.setIfInBounds_toArray, List.set_cons_zero, List.set_cons_succ]
      refine anyT_val (But.pre _) 9 rfl (by kernel_rfl) (by kernel_rfl) (by kernel_rfl) (fun _ _ _ _ h => h) rfl ?_; apply Exists.intro; refine ⟨fun v1 hv1 => ?_, ?_⟩; (· (go_simp; rfl)); simp only [Act.put, List.setIfInBounds_toArray, List.set_cons_zero, List.set_cons_succ]
      refine anyT_val (But.pre _) 10 rfl (by kernel_rfl) (by kernel_rfl) (by kernel_rfl) (fun _ _ _ _ h => h) rfl ?_; apply Exists.intro; refine ⟨fun v1 hv1 => ?_, ?_⟩; (· (go_simp; rfl)); simp only [Act.put, List.setIfInBounds_toArray, List.set_cons_zero, List.set_cons_succ]
      refine anyT_val (But.pre _) 11 rfl (by kernel_rfl) (by kernel_rfl) (by kernel_rfl) (fun _ _ _ _ h => h) rfl ?_; apply Exists.intro; refine ⟨fun v1 hv1 => ?_, ?_⟩; (· (go_simp; rfl)); simp only [Act.put, List.setIfInBounds_toArray, List.set_cons_zero, List.set_cons_succ]
      refine anyT_val (But.pre _) 12 rfl (by kernel_rfl) (by kernel_rfl) (by kernel_rfl) (fun _ _ _ _ h => h) rfl ?_; apply Exists.intro; refine ⟨fun v1 hv1 => ?_, ?_⟩; (· (go_simp; rfl)); simp only [Act.put, List.setIfInBounds_toArray, List.set_cons_zero, List.set_cons_succ]
      refine anyT_val (But.pre _) 13 rfl (by kernel_rfl) (by kernel_rfl) (by kernel_rfl) (fun _ _ _ _ h => h) rfl ?_; apply Exists.intro; refine ⟨fun v1 hv1 => ?_, ?_⟩; (· (go_simp; rfl)); simp only [Act.put, List.setIfInBounds_toArray, List.set_cons_zero, List.set_cons_succ]
      refine anyT_val (But.pre _) 14 rfl (by kernel_rfl) (by kernel_rfl) (by kernel_rfl) (fun _ _ _ _ h => h) rfl ?_; apply Exists.intro; refine ⟨fun v1 hv1 => ?_, ?_⟩; (· (go_simp; rfl)); simp only [Act.put, List.setIfInBounds_toArray, List.set_cons_zero, List.set_cons_succ]
      refine anyT_val (But.pre _) 15 rfl (by kernel_rfl) (by kernel_rfl) (by kernel_rfl) (fun _ _ _ _ h => h) rfl ?_; apply Exists.intro; refine ⟨fun v1 hv1 => ?_, ?_⟩; (· (go_simp; rfl)); simp only [Act.put, List.setIfInBounds_toArray, List.set_cons_zero, List.set_cons_succ]
      refine anyT_one 16 rfl (by kernel_rfl) rfl ?_
      refine wp_enter 13 #[.pointer (some ⟨tb, 0, none⟩), .int .u32 x.s, .int .i64 x.wz, .slice at0 x.zs.length ct0] (by go_simp) ?_
      have hsd := ld0.size
      refine (sadd_any tb tb va lp x.s x.wz (.slice at0 x.zs.length ct0) x.zs Wd (h1.later ld0) (by omega) (by omega) hxs (by rw [← htv]; exact (HXR.out Wd (Below.mono ld0 (by omega))).mono (by omega))).mono ?_
      rintro e W2 ⟨rfl, q2⟩
      obtain ⟨l2', qq2⟩ := q2.but
      have b2 : But (Eb tb wr.heap.size) Wd W2 := SLq.eb h1 qq2
      refine ⟨b2, ?_⟩
      simp only [Act.put, List.setIfInBounds_toArray, List.set_cons_zero, List.set_cons_succ]
      have e0 := c0 W2 b2
      have e1 := c1 W2 b2
      clear c0 c1 c2
      obtain ⟨hs2, hz2⟩ := SP.add (t := toT x) h1 hRT ld0 q2 hxs
      have HS2 := hide hs2
      have HAZ : Hid (adS lp x.s x.wz x.zs.length = adT (plT ds i) (toT x).s (toT x).wz (toT x).zs.length) := hz2
      clear hs2 q2 qq2 hz2
      have hbw2 : Below tb w1 W2 := hbw.trans ((Below.mono ld0 (by omega)).trans (b2.below (by omega) (fun g hg e => by have := e.1; omega)))
      have HBW := hide hbw2
      have hs2 := hbw2.size
      clear hbw2
      generalize adS lp x.s x.wz x.zs.length = z at *
      by_cases hz : z = 0
      · have HAT := hide (addT_yes (HAZ.out.symm.trans hz))
        subst hz
        refine anyT_val (But.pre _) 17 rfl (by kernel_rfl) (by kernel_rfl) (by kernel_rfl) (fun _ _ _ _ h => h) rfl ?_; apply Exists.intro; refine ⟨fun v1 hv1 => ?_, ?_⟩; (· (go_simp; rfl)); simp only [Act.put, List.setIfInBounds_toArray, List.set_cons_zero, List.set_cons_succ]
        refine anyT_done (by kernel_rfl) ?_
        have HSN : Hid (SP tb W2 tb (plT ds (i + 1))) := by show SP _ _ _ _; rw [HPN.out]; exact HS2.out
        have HFN : Hid ((fdT (plT ds (i + 1)) x.s x.wz).isSome = true) := by show _ = _; rw [HPN.out, HAT.out]; exact fdT_new _ (toT x)
        have HPRE : Hid (∀ s wz z, fdT (plT ds (i + 1)) s wz = some z → fdT (plT ds (min ds.length 30)) s wz = some z) := fun s wz z h => by
          obtain ⟨R, hR⟩ := plT_pre ds (i + 1) (min ds.length 30 - (i + 1))
          rw [show min ds.length 30 = i + 1 + (min ds.length 30 - (i + 1)) by omega, hR]
          exact fdT_pre h
        have LW2 : Later w1 W2 := by show Below w1.heap.size w1 W2; rw [HB.out]; exact HBW.out
        clear b2 ld0 h1 hRT hbw LR LW
        generalize hT1 : plT ds (i + 1) = T1 at *
        have HT1 := hide hT1
        clear hT1
        go_wp2_with fail
        go_loopw [8] (fun kv wq => ∃ k : Nat, k ≤ i + 1 ∧ kv = .int .i64 (k : Int) ∧ Later W2 wq) (fun kv _ => i + 1 - (intOf kv).toNat)
        case atStart => exact ⟨0, by omega, rfl, Later.refl _⟩
        case round =>
          rename World => wq
          obtain ⟨k, hk, rfl, lq⟩ := hrel
          by_cases hki : k < i + 1
          · have hki' : (k : Int) ≤ (i : Int) := by omega
            have hkd : k < ds.length := by omega
            have hkd' : (k : Int) < ds.length := by omega
            have LW : Later w wq := HL1.out.trans (LW2.trans lq)
            have hRk := HI.out.below (Below.mono LW (Nat.le_refl _))
            obtain ⟨bb', off', cp', e, _, _, hbb', hcs⟩ := hRk.cells (by omega)
            simp at e
            obtain ⟨⟨rfl, rfl⟩, rfl⟩ := e
            have f0 := hcs k hkd 0 (by omega)
            have f1 := hcs k hkd 1 (by omega)
            clear hcs hRk
            generalize ds[k] = y at *
            simp only [apc, List.getElem?_cons_zero, List.getElem?_cons_succ, Nat.add_zero] at f0 f1
            go_upto_region 10 with fail
            refine anyR_begin Later.pre Later.drew 17 rfl (by kernel_rfl) ?_
            intro Wd hWd
            have c0 : ∀ v1, Later Wd v1 → v1.cell? ⟨bb, off + k * 3, none⟩ = some (.int .u32 y.s) := fun v1 hv => (hWd.trans hv).cell f0
            have c1 : ∀ v1, Later Wd v1 → v1.cell? ⟨bb, off + k * 3 + 1, none⟩ = some (.int .i64 y.wz) := fun v1 hv => (hWd.trans hv).cell f1
            refine anyR_val Later.pre 0 rfl (by kernel_rfl) (by kernel_rfl) (by kernel_rfl) (fun _ _ _ _ h => h) rfl ?_; apply Exists.intro; refine ⟨fun v1 hv1 => ?_, ?_⟩; (· (go_simp; rfl)); simp only [Act.put, List.setIfInBounds_toArray, List.set_cons_zero, List.set_cons_succ]
            refine anyR_val Later.pre 1 rfl (by kernel_rfl) (by kernel_rfl) (by kernel_rfl) (fun _ _ _ _ h => h) rfl ?_; apply Exists.intro; refine ⟨fun v1 hv1 => ?_, ?_⟩; (· (go_simp; rfl)); simp only [Act.put, List.setIfInBounds_toArray, List.set_cons_zero, List.set_cons_succ]
            refine anyR_val Later.pre 2 rfl (by kernel_rfl) (by kernel_rfl) (by kernel_rfl) (fun _ _ _ _ h => h) rfl ?_; apply Exists.intro; refine ⟨fun v1 hv1 => ?_, ?_⟩; (· (go_simp; rfl)); simp only [Act.put, List.setIfInBounds_toArray, List.set_cons_zero, List.set_cons_succ]
            refine anyR_val Later.pre 3 rfl (by kernel_rfl) (by kernel_rfl) (by kernel_rfl) (fun _ _ _ _ h => h) rfl ?_; apply Exists.intro; refine ⟨fun v1 hv1 => ?_, ?_⟩; (· (go_simp; rfl)); simp only [Act.put, List.setIfInBounds_toArray, List.set_cons_zero, List.set_cons_succ]
            refine anyR_val Later.pre 4 rfl (by kernel_rfl) (by kernel_rfl) (by kernel_rfl) (fun _ _ _ _ h => h) rfl ?_; apply Exists.intro; refine ⟨fun v1 hv1 => ?_, ?_⟩; (· (go_simp; rfl)); simp only [Act.put, List.setIfInBounds_toArray, List.set_cons_zero, List.set_cons_succ]
            refine anyR_val Later.pre 5 rfl (by kernel_rfl) (by kernel_rfl) (by kernel_rfl) (fun _ _ _ _ h => h) rfl ?_; apply Exists.intro; refine ⟨fun v1 hv1 => ?_, ?_⟩; (· (go_simp; rfl)); simp only [Act.put, List.setIfInBounds_toArray, List.set_cons_zero, List.set_cons_succ]
            refine anyR_val Later.pre 6 rfl (by kernel_rfl) (by kernel_rfl) (by kernel_rfl) (fun _ _ _ _ h => h) rfl ?_; apply Exists.intro; refine ⟨fun v1 hv1 => ?_, ?_⟩; (· (go_simp; rfl)); simp only [Act.put, List.setIfInBounds_toArray, List.set_cons_zero, List.set_cons_succ]
            refine anyR_val Later.pre 7 rfl (by kernel_rfl) (by kernel_rfl) (by kernel_rfl) (fun _ _ _ _ h => h) rfl ?_; apply Exists.intro; refine ⟨fun v1 hv1 => ?_, ?_⟩; (· (go_simp; rfl)); simp only [Act.put, List.setIfInBounds_toArray, List.set_cons_zero, List.set_cons_succ]
            refine anyR_val Later.pre 8 rfl (by kernel_rfl) (by kernel_rfl) (by kernel_rfl) (fun _ _ _ _ h => h) rfl ?_; apply Exists.intro; refine ⟨fun v1 hv1 => ?_, ?_⟩; (· (go_simp; rfl)); simp only [Act.put, List.setIfInBounds_toArray, List.set_cons_zero, List.set_cons_succ]
            refine anyR_val Later.pre 9 rfl (by kernel_rfl) (by kernel_rfl) (by kernel_rfl) (fun _ _ _ _ h => h) rfl ?_; apply Exists.intro; refine ⟨fun v1 hv1 => ?_, ?_⟩; (· (go_simp; rfl)); simp only [Act.put, List.setIfInBounds_toArray, List.set_cons_zero, List.set_cons_succ]
            refine anyR_val Later.pre 10 rfl (by kernel_rfl) (by kernel_rfl) (by kernel_rfl) (fun _ _ _ _ h => h) rfl ?_; apply Exists.intro; refine ⟨fun v1 hv1 => ?_, ?_⟩; (· (go_simp; rfl)); simp only [Act.put, List.setIfInBounds_toArray, List.set_cons_zero, List.set_cons_succ]
            clear c0 c1
            refine anyR_one 11 rfl (by kernel_rfl) rfl (fun V1 hV1 => ?_)
            refine wp_enter 14 #[.pointer (some ⟨tb, 0, none⟩), .int .u32 y.s, .int .i64 y.wz] (by go_simp) ?_
            refine (sfind_any tb tb T1 y.s y.wz V1 (HSN.out.later (lq.trans (hWd.trans hV1))) HLN1.out).mono ?_
            rintro e V2 ⟨lV2, xa, xc, rfl, hO1⟩
            refine ⟨lV2, ?_⟩
            simp only [Act.put, List.setIfInBounds_toArray, List.set_cons_zero, List.set_cons_succ]
            refine anyR_val Later.pre 12 rfl (by kernel_rfl) (by kernel_rfl) (by kernel_rfl) (fun _ _ _ _ h => h) rfl ?_; apply Exists.intro; refine ⟨fun v1 hv1 => ?_, ?_⟩; (· (go_simp; rfl)); simp only [Act.put, List.setIfInBounds_toArray, List.set_cons_zero, List.set_cons_succ]
            refine anyR_val Later.pre 13 rfl (by kernel_rfl) (by kernel_rfl) (by kernel_rfl) (fun _ _ _ _ h => h) rfl ?_; apply Exists.intro; refine ⟨fun v1 hv1 => ?_, ?_⟩; (· (go_simp; rfl)); simp only [Act.put, List.setIfInBounds_toArray, List.set_cons_zero, List.set_cons_succ]
            refine anyR_val Later.pre 14 rfl (by kernel_rfl) (by kernel_rfl) (by kernel_rfl) (fun _ _ _ _ h => h) rfl ?_; apply Exists.intro; refine ⟨fun v1 hv1 => ?_, ?_⟩; (· (go_simp; rfl)); simp only [Act.put, List.setIfInBounds_toArray, List.set_cons_zero, List.set_cons_succ]
            refine anyR_val Later.pre 15 rfl (by kernel_rfl) (by kernel_rfl) (by kernel_rfl) (fun _ _ _ _ h => h) rfl ?_; apply Exists.intro; refine ⟨fun v1 hv1 => ?_, ?_⟩; (· (go_simp; rfl)); simp only [Act.put, List.setIfInBounds_toArray, List.set_cons_zero, List.set_cons_succ]
            refine anyR_val Later.pre 16 rfl (by kernel_rfl) (by kernel_rfl) (by kernel_rfl) (fun _ _ _ _ h => h) rfl ?_; apply Exists.intro; refine ⟨fun v1 hv1 => ?_, ?_⟩; (· (go_simp; rfl)); simp only [Act.put, List.setIfInBounds_toArray, List.set_cons_zero, List.set_cons_succ]
            refine anyR_done (by kernel_rfl) (fun VD hVD => ?_)
            have LA : Later wq VD := hWd.trans (hV1.trans (lV2.trans hVD))
            have HO1 := hide (hO1.later hVD)
            have F0 := LA.cell f0
            have F1 := LA.cell f1
            clear hO1 f0 f1
            generalize hWA : VD = Wa at *
            clear hWA
            have LAq : Later W2 Wa := lq.trans LA
            go_upto_region 11 with fail
            refine anyR_begin Later.pre Later.drew 17 rfl (by kernel_rfl) ?_
            intro We hWe
            have c0 : ∀ v1, Later We v1 → v1.cell? ⟨bb, off + k * 3, none⟩ = some (.int .u32 y.s) := fun v1 hv => (hWe.trans hv).cell F0
            have c1 : ∀ v1, Later We v1 → v1.cell? ⟨bb, off + k * 3 + 1, none⟩ = some (.int .i64 y.wz) := fun v1 hv => (hWe.trans hv).cell F1
            refine anyR_val Later.pre 0 rfl (by kernel_rfl) (by kernel_rfl) (by kernel_rfl) (fun _ _ _ _ h => h) rfl ?_; apply Exists.intro; refine ⟨fun v1 hv1 => ?_, ?_⟩; (· (go_simp; rfl)); simp only [Act.put, List.setIfInBounds_toArray, List.set_cons_zero, List.set_cons_succ]
            refine anyR_val Later.pre 1 rfl (by kernel_rfl) (by kernel_rfl) (by kernel_rfl) (fun _ _ _ _ h => h) rfl ?_; apply Exists.intro; refine ⟨fun v1 hv1 => ?_, ?_⟩; (· (go_simp; rfl)); simp only [Act.put, List.setIfInBounds_toArray, List.set_cons_zero, List.set_cons_succ]
            refine anyR_val Later.pre 2 rfl (by kernel_rfl) (by kernel_rfl) (by kernel_rfl) (fun _ _ _ _ h => h) rfl ?_; apply Exists.intro; refine ⟨fun v1 hv1 => ?_, ?_⟩; (· (go_simp; rfl)); simp only [Act.put, List.setIfInBounds_toArray, List.set_cons_zero, List.set_cons_succ]
            refine anyR_val Later.pre 3 rfl (by kernel_rfl) (by kernel_rfl) (by kernel_rfl) (fun _ _ _ _ h => h) rfl ?_; apply Exists.intro; refine ⟨fun v1 hv1 => ?_, ?_⟩; (· (go_simp; rfl)); simp only [Act.put, List.setIfInBounds_toArray, List.set_cons_zero, List.set_cons_succ]
            refine anyR_val Later.pre 4 rfl (by kernel_rfl) (by kernel_rfl) (by kernel_rfl) (fun _ _ _ _ h => h) rfl ?_; apply Exists.intro; refine ⟨fun v1 hv1 => ?_, ?_⟩; (· (go_simp; rfl)); simp only [Act.put, List.setIfInBounds_toArray, List.set_cons_zero, List.set_cons_succ]
            refine anyR_val Later.pre 5 rfl (by kernel_rfl) (by kernel_rfl) (by kernel_rfl) (fun _ _ _ _ h => h) rfl ?_; apply Exists.intro; refine ⟨fun v1 hv1 => ?_, ?_⟩; (· (go_simp; rfl)); simp only [Act.put, List.setIfInBounds_toArray, List.set_cons_zero, List.set_cons_succ]
            refine anyR_val Later.pre 6 rfl (by kernel_rfl) (by kernel_rfl) (by kernel_rfl) (fun _ _ _ _ h => h) rfl ?_; apply Exists.intro; refine ⟨fun v1 hv1 => ?_, ?_⟩; (· (go_simp; rfl)); simp only [Act.put, List.setIfInBounds_toArray, List.set_cons_zero, List.set_cons_succ]
            refine anyR_val Later.pre 7 rfl (by kernel_rfl) (by kernel_rfl) (by kernel_rfl) (fun _ _ _ _ h => h) rfl ?_; apply Exists.intro; refine ⟨fun v1 hv1 => ?_, ?_⟩; (· (go_simp; rfl)); simp only [Act.put, List.setIfInBounds_toArray, List.set_cons_zero, List.set_cons_succ]
            refine anyR_val Later.pre 8 rfl (by kernel_rfl) (by kernel_rfl) (by kernel_rfl) (fun _ _ _ _ h => h) rfl ?_; apply Exists.intro; refine ⟨fun v1 hv1 => ?_, ?_⟩; (· (go_simp; rfl)); simp only [Act.put, List.setIfInBounds_toArray, List.set_cons_zero, List.set_cons_succ]
            refine anyR_val Later.pre 9 rfl (by kernel_rfl) (by kernel_rfl) (by kernel_rfl) (fun _ _ _ _ h => h) rfl ?_; apply Exists.intro; refine ⟨fun v1 hv1 => ?_, ?_⟩; (· (go_simp; rfl)); simp only [Act.put, List.setIfInBounds_toArray, List.set_cons_zero, List.set_cons_succ]
            refine anyR_val Later.pre 10 rfl (by kernel_rfl) (by kernel_rfl) (by kernel_rfl) (fun _ _ _ _ h => h) rfl ?_; apply Exists.intro; refine ⟨fun v1 hv1 => ?_, ?_⟩; (· (go_simp; rfl)); simp only [Act.put, List.setIfInBounds_toArray, List.set_cons_zero, List.set_cons_succ]
            clear c0 c1
            refine anyR_one 11 rfl (by kernel_rfl) rfl (fun V3 hV3 => ?_)
            refine wp_enter 14 #[.pointer (some ⟨a, 0, none⟩), .int .u32 y.s, .int .i64 y.wz] (by go_simp) ?_
            refine (sfind_any w.heap.size a (plT ds (min ds.length 30)) y.s y.wz V3 (HP.out V3 (LW2.trans (LAq.trans (hWe.trans hV3)))).sp (plT_len _ _)).mono ?_
            rintro e V4 ⟨lV4, ya, yc, rfl, hO2⟩
            refine ⟨lV4, ?_⟩
            simp only [Act.put, List.setIfInBounds_toArray, List.set_cons_zero, List.set_cons_succ]
            refine anyR_val Later.pre 12 rfl (by kernel_rfl) (by kernel_rfl) (by kernel_rfl) (fun _ _ _ _ h => h) rfl ?_; apply Exists.intro; refine ⟨fun v1 hv1 => ?_, ?_⟩; (· (go_simp; rfl)); simp only [Act.put, List.setIfInBounds_toArray, List.set_cons_zero, List.set_cons_succ]
            refine anyR_val Later.pre 13 rfl (by kernel_rfl) (by kernel_rfl) (by kernel_rfl) (fun _ _ _ _ h => h) rfl ?_; apply Exists.intro; refine ⟨fun v1 hv1 => ?_, ?_⟩; (· (go_simp; rfl)); simp only [Act.put, List.setIfInBounds_toArray, List.set_cons_zero, List.set_cons_succ]
            refine anyR_val Later.pre 14 rfl (by kernel_rfl) (by kernel_rfl) (by kernel_rfl) (fun _ _ _ _ h => h) rfl ?_; apply Exists.intro; refine ⟨fun v1 hv1 => ?_, ?_⟩; (· (go_simp; rfl)); simp only [Act.put, List.setIfInBounds_toArray, List.set_cons_zero, List.set_cons_succ]
            refine anyR_val Later.pre 15 rfl (by kernel_rfl) (by kernel_rfl) (by kernel_rfl) (fun _ _ _ _ h => h) rfl ?_; apply Exists.intro; refine ⟨fun v1 hv1 => ?_, ?_⟩; (· (go_simp; rfl)); simp only [Act.put, List.setIfInBounds_toArray, List.set_cons_zero, List.set_cons_succ]
            refine anyR_val Later.pre 16 rfl (by kernel_rfl) (by kernel_rfl) (by kernel_rfl) (fun _ _ _ _ h => h) rfl ?_; apply Exists.intro; refine ⟨fun v1 hv1 => ?_, ?_⟩; (· (go_simp; rfl)); simp only [Act.put, List.setIfInBounds_toArray, List.set_cons_zero, List.set_cons_succ]
            refine anyR_done (by kernel_rfl) (fun VE hVE => ?_)
            have LB : Later Wa VE := hWe.trans (hV3.trans (lV4.trans hVE))
            have LBq : Later W2 VE := LAq.trans LB
            have HO2 := hide (hO2.later hVE)
            have HPR := hide (fun z => HPRE.out y.s y.wz z)
            clear hO2 F0 F1
            generalize fdT T1 y.s y.wz = o1 at *
            generalize fdT (plT ds (min ds.length 30)) y.s y.wz = o2 at *
            cases o1 with
            | none =>
              simp only [Option.isSome_none, Option.getD_none]
              go_wp2_with fail
              go_roundw
              case rel => exact ⟨k + 1, by omega, by simp, LBq⟩
              case measure => simp [intOf]; omega
            | some z =>
              obtain rfl : o2 = some z := HPR.out z rfl
              simp only [Option.isSome_some, Option.getD_some]
              have q1 := conv_rd 24 9 5 Try.underlying24 Try.underlying5 Try.underlying9 (HO1.out.later LB).rd
              have q2 := conv_rd 24 9 5 Try.underlying24 Try.underlying5 Try.underlying9 HO2.out.rd
              simp only [Option.getD_some] at q1 q2
              go_wp2_with fail
              go_roundw
              case rel => exact ⟨k + 1, by omega, by simp, LBq⟩
              case measure => simp [intOf]; omega
          · have hki' : ¬ (k : Int) ≤ (i : Int) := by omega
            have F0 := lq.cell e0
            have F1 := lq.cell e1
            clear e0 e1
            go_upto_region 14 with fail
            refine anyR_begin Later.pre Later.drew 17 rfl (by kernel_rfl) ?_
            intro Wd hWd
            have c0 : ∀ v1, Later Wd v1 → v1.cell? ⟨bb, off + i * 3, none⟩ = some (.int .u32 x.s) := fun v1 hv => (hWd.trans hv).cell F0
            have c1 : ∀ v1, Later Wd v1 → v1.cell? ⟨bb, off + i * 3 + 1, none⟩ = some (.int .i64 x.wz) := fun v1 hv => (hWd.trans hv).cell F1
            refine anyR_val Later.pre 0 rfl (by kernel_rfl) (by kernel_rfl) (by kernel_rfl) (fun _ _ _ _ h => h) rfl ?_; apply Exists.intro; refine ⟨fun v1 hv1 => ?_, ?_⟩; (· (go_simp; rfl)); simp only [Act.put, List.setIfInBounds_toArray, List.set_cons_zero, List.set_cons_succ]
            refine anyR_val Later.pre 1 rfl (by kernel_rfl) (by kernel_rfl) (by kernel_rfl) (fun _ _ _ _ h => h) rfl ?_; apply Exists.intro; refine ⟨fun v1 hv1 => ?_, ?_⟩; (· (go_simp; rfl)); simp only [Act.put, List.setIfInBounds_toArray, List.set_cons_zero, List.set_cons_succ]
            refine anyR_val Later.pre 2 rfl (by kernel_rfl) (by kernel_rfl) (by kernel_rfl) (fun _ _ _ _ h => h) rfl ?_; apply Exists.intro; refine ⟨fun v1 hv1 => ?_, ?_⟩; (· (go_simp; rfl)); simp only [Act.put, List.setIfInBounds_toArray, List.set_cons_zero, List.set_cons_succ]
            refine anyR_val Later.pre 3 rfl (by kernel_rfl) (by kernel_rfl) (by kernel_rfl) (fun _ _ _ _ h => h) rfl ?_; apply Exists.intro; refine ⟨fun v1 hv1 => ?_, ?_⟩; (· (go_simp; rfl)); simp only [Act.put, List.setIfInBounds_toArray, List.set_cons_zero, List.set_cons_succ]
            refine anyR_val Later.pre 4 rfl (by kernel_rfl) (by kernel_rfl) (by kernel_rfl) (fun _ _ _ _ h => h) rfl ?_; apply Exists.intro; refine ⟨fun v1 hv1 => ?_, ?_⟩; (· (go_simp; rfl)); simp only [Act.put, List.setIfInBounds_toArray, List.set_cons_zero, List.set_cons_succ]
            refine anyR_val Later.pre 5 rfl (by kernel_rfl) (by kernel_rfl) (by kernel_rfl) (fun _ _ _ _ h => h) rfl ?_; apply Exists.intro; refine ⟨fun v1 hv1 => ?_, ?_⟩; (· (go_simp; rfl)); simp only [Act.put, List.setIfInBounds_toArray, List.set_cons_zero, List.set_cons_succ]
            refine anyR_val Later.pre 6 rfl (by kernel_rfl) (by kernel_rfl) (by kernel_rfl) (fun _ _ _ _ h => h) rfl ?_; apply Exists.intro; refine ⟨fun v1 hv1 => ?_, ?_⟩; (· (go_simp; rfl)); simp only [Act.put, List.setIfInBounds_toArray, List.set_cons_zero, List.set_cons_succ]
            refine anyR_val Later.pre 7 rfl (by kernel_rfl) (by kernel_rfl) (by kernel_rfl) (fun _ _ _ _ h => h) rfl ?_; apply Exists.intro; refine ⟨fun v1 hv1 => ?_, ?_⟩; (· (go_simp; rfl)); simp only [Act.put, List.setIfInBounds_toArray, List.set_cons_zero, List.set_cons_succ]
            refine anyR_val Later.pre 8 rfl (by kernel_rfl) (by kernel_rfl) (by kernel_rfl) (fun _ _ _ _ h => h) rfl ?_; apply Exists.intro; refine ⟨fun v1 hv1 => ?_, ?_⟩; (· (go_simp; rfl)); simp only [Act.put, List.setIfInBounds_toArray, List.set_cons_zero, List.set_cons_succ]
            refine anyR_val Later.pre 9 rfl (by kernel_rfl) (by kernel_rfl) (by kernel_rfl) (fun _ _ _ _ h => h) rfl ?_; apply Exists.intro; refine ⟨fun v1 hv1 => ?_, ?_⟩; (· (go_simp; rfl)); simp only [Act.put, List.setIfInBounds_toArray, List.set_cons_zero, List.set_cons_succ]
            refine anyR_val Later.pre 10 rfl (by kernel_rfl) (by kernel_rfl) (by kernel_rfl) (fun _ _ _ _ h => h) rfl ?_; apply Exists.intro; refine ⟨fun v1 hv1 => ?_, ?_⟩; (· (go_simp; rfl)); simp only [Act.put, List.setIfInBounds_toArray, List.set_cons_zero, List.set_cons_succ]
            clear c0 c1
            refine anyR_one 11 rfl (by kernel_rfl) rfl (fun V1 hV1 => ?_)
            refine wp_enter 14 #[.pointer (some ⟨tb, 0, none⟩), .int .u32 x.s, .int .i64 x.wz] (by go_simp) ?_
            refine (sfind_any tb tb T1 x.s x.wz V1 (HSN.out.later (lq.trans (hWd.trans hV1))) HLN1.out).mono ?_
            rintro e V2 ⟨lV2, xa, xc, rfl, hO1⟩
            refine ⟨lV2, ?_⟩
            simp only [Act.put, List.setIfInBounds_toArray, List.set_cons_zero, List.set_cons_succ]
            refine anyR_val Later.pre 12 rfl (by kernel_rfl) (by kernel_rfl) (by kernel_rfl) (fun _ _ _ _ h => h) rfl ?_; apply Exists.intro; refine ⟨fun v1 hv1 => ?_, ?_⟩; (· (go_simp; rfl)); simp only [Act.put, List.setIfInBounds_toArray, List.set_cons_zero, List.set_cons_succ]
            refine anyR_val Later.pre 13 rfl (by kernel_rfl) (by kernel_rfl) (by kernel_rfl) (fun _ _ _ _ h => h) rfl ?_; apply Exists.intro; refine ⟨fun v1 hv1 => ?_, ?_⟩; (· (go_simp; rfl)); simp only [Act.put, List.setIfInBounds_toArray, List.set_cons_zero, List.set_cons_succ]
            refine anyR_val Later.pre 14 rfl (by kernel_rfl) (by kernel_rfl) (by kernel_rfl) (fun _ _ _ _ h => h) rfl ?_; apply Exists.intro; refine ⟨fun v1 hv1 => ?_, ?_⟩; (· (go_simp; rfl)); simp only [Act.put, List.setIfInBounds_toArray, List.set_cons_zero, List.set_cons_succ]
            refine anyR_val Later.pre 15 rfl (by kernel_rfl) (by kernel_rfl) (by kernel_rfl) (fun _ _ _ _ h => h) rfl ?_; apply Exists.intro; refine ⟨fun v1 hv1 => ?_, ?_⟩; (· (go_simp; rfl)); simp only [Act.put, List.setIfInBounds_toArray, List.set_cons_zero, List.set_cons_succ]
            refine anyR_val Later.pre 16 rfl (by kernel_rfl) (by kernel_rfl) (by kernel_rfl) (fun _ _ _ _ h => h) rfl ?_; apply Exists.intro; refine ⟨fun v1 hv1 => ?_, ?_⟩; (· (go_simp; rfl)); simp only [Act.put, List.setIfInBounds_toArray, List.set_cons_zero, List.set_cons_succ]
            refine anyR_done (by kernel_rfl) (fun VD hVD => ?_)
            have LA : Later W2 VD := lq.trans (hWd.trans (hV1.trans (lV2.trans hVD)))
            rw [HFN.out]
            have hbV : Below tb w1 VD := by rw [← HB.out]; exact LW2.trans LA
            have HBV := hide hbV
            have HSV := hide (HSN.out.later LA)
            clear hbV hO1
            go_wp2_with fail
            go_roundw
            case rel => exact ⟨i + 1, by omega, by omega, by simp, by rw [HT1.out]; exact HSV.out, HBV.out⟩
            case measure => simp [intOf]; omega
      · have HAT := hide (addT_no (fun h => hz (HAZ.out.trans h)))
        have hzb : (z == 0) = false := by simpa using hz
        refine anyT_val (But.pre _) 17 rfl (by kernel_rfl) (by kernel_rfl) (by kernel_rfl) (fun _ _ _ _ h => h) rfl ?_; apply Exists.intro; refine ⟨fun v1 hv1 => ?_, ?_⟩; (· (go_simp; rfl)); simp only [Act.put, List.setIfInBounds_toArray, List.set_cons_zero, List.set_cons_succ]
        refine anyT_done (by kernel_rfl) ?_
        go_wp2_with fail
        go_roundw
        case rel => exact ⟨i + 1, by omega, by omega, by simp, by rw [HPN.out]; exact HS2.out, HBW.out⟩
        case measure => simp [intOf]; omega
    · have hm : min ds.length 30 = i := by omega
      have HM := hide hm
      have HLN := hide (plT_len ds i)
      have HS := hide (fun W (h : Later wr W) => (hS.later h).len)
      have HPLn := hide (fun W (h : Later w1 W) => (HP.out W h).len)
      rw [hm] at HPLn
      clear hm hS
      have hl8 := HLN.out
      have hl8' : ((plT ds i).length : Int) ≤ 8 := by omega
      generalize (plT ds i).length = q at *
      have hor : ¬ i < ds.length ∨ (i < ds.length ∧ ¬ i < 30) := by omega
      rcases hor with h | ⟨h, h'⟩
      case' inl =>
        have g1' : ¬ (i : Int) < ds.length := by omega
      case' inr =>
        have g1' : (i : Int) < ds.length := by omega
        have g2' : ¬ (i : Int) < 30 := by omega
      all_goals
        go_wp2_with fail
        refine (live11_any _).mono ?_
        rintro e w5 ⟨rfl, l5⟩
        go_wp2_with fail
        refine (HPLn.out w5 (LR.trans l5)).mono ?_
        rintro e w6 ⟨rfl, rfl⟩
        go_wp2_with fail
        refine (HS.out w6 l5).mono ?_
        rintro e w7 ⟨rfl, rfl⟩
        go_wp2_with fail
        refine (HPLn.out w7 (LR.trans l5)).mono ?_
        rintro e w8 ⟨rfl, rfl⟩
        go_wp2_with fail
        refine bodyPost_ret (v := .bool true) (by first | (simp [results, Try.results4, go_sem]; done) | (simp [results, Try.results4, go_sem]; omega)) rfl ?_
        exact ⟨rfl, LW.trans l5⟩
end Go.Proofs.Ytaaanmjmgnpcgaa
