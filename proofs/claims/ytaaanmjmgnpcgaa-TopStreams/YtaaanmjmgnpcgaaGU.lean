/- The law's play: parts added to both streams. -/
import Derived.Test.YtaaanmjmgnpcgaaGT
import Derived.Test.YtaaanmjmgnpcgaaOpJ
namespace Go.Proofs.Ytaaanmjmgnpcgaa
open Go.RowKit Go.Shelf
set_option maxRecDepth 100000
set_option linter.unusedVariables false
set_option linter.unusedSimpArgs false

def zAp : Ap := ⟨0, 0, undef, []⟩
def toT (d : Ap) : Tx := ⟨d.s, d.wz, d.zs⟩
/-- The parts behind the first k of a list. -/
def plT (ds : List Ap) : Nat → List Tx
  | 0 => []
  | k + 1 => addT (plT ds k) (toT (ds[k]?.getD zAp))
theorem plT_len (ds : List Ap) : ∀ k, (plT ds k).length ≤ 8
  | 0 => by simp [plT]
  | k + 1 => addT_len _ _ (plT_len ds k)
theorem plT_next {ds : List Ap} {k : Nat} (h : k < ds.length) : plT ds (k + 1) = addT (plT ds k) (toT ds[k]) := by
  show addT (plT ds k) (toT (ds[k]?.getD zAp)) = _
  rw [List.getElem?_eq_getElem h]
  rfl
theorem DS.base {t : TypeId} {base base' : Nat} {W : World} {b : Nat} {v : Value} {l : List Dp} (h : DS t base W b v l) (hb : base' ≤ base) : DS t base' W b v l := by
  refine ⟨Nat.le_trans hb h.1, h.2.1, ?_⟩
  obtain ⟨h1, h2 | ⟨g, cap, cur, e, hg, r⟩⟩ := h.2.2
  · exact ⟨h1, .inl h2⟩
  · exact ⟨h1, .inr ⟨g, cap, cur, e, Nat.le_trans hb hg, r⟩⟩

set_option maxHeartbeats 8000000 in
theorem play11_any (sv : Value) (ds : List Ap) (w : World) (n₀ : Nat) (hn : n₀ ≤ w.heap.size) (hI : RdA n₀ w sv ds) :
    Calls Try.prog 9 #[sv] w fun e w' => Later w w' ∧ ∃ a b, e = .returned (.tuple #[.pointer (some ⟨a, 0, none⟩), .pointer (some ⟨b, 0, none⟩), .bool true]) ∧ PR w.heap.size w' a b (plT ds (min ds.length 30)) := by
  obtain ⟨aa, ca, rfl, ha1, ha2⟩ := hI.slice
  have HI := hide hI
  clear hI
  go_enter Try.func9, Try.ntmps9
  go_wp2_with fail
  refine (snew_any w).mono ?_
  rintro e w1 ⟨rfl, l1, hT1⟩
  have hs1 : w.heap.size ≤ w1.heap.size := l1.size
  go_wp2_with fail
  refine (rsnew_any w1).mono ?_
  rintro e w2 ⟨rfl, l2, hR2⟩
  have hPE : PR w.heap.size w2 w.heap.size w1.heap.size [] := ⟨_, _, _, _, hT1.later l2, hR2.base hs1, .nil, fun g h => by cases h⟩
  have L2 : Below w.heap.size w w2 := Later.trans l1 l2
  clear hT1 hR2 l1 l2
  generalize w1.heap.size = rb at *
  generalize hB : w.heap.size = b at *
  have HB := hide hB
  clear hB
  go_wp2_with fail
  go_loopw [7] (fun i wr => ∃ k : Nat, k ≤ ds.length ∧ k ≤ 30 ∧ i = .int .i64 (k : Int) ∧ PR b wr b rb (plT ds k) ∧ Below b w wr) (fun i _ => 30 - (intOf i).toNat)
  case atStart => exact ⟨0, by omega, by omega, rfl, hPE, L2⟩
  case round =>
    obtain ⟨k, hk1, hk2, rfl, hP, hbw⟩ := hrel
    have hsz := hbw.size
    by_cases hgo : k < ds.length ∧ k < 30
    · obtain ⟨g1, g2⟩ := hgo
      have g1' : (k : Int) < ds.length := by omega
      have g2' : (k : Int) < 30 := by omega
      have hRk := HI.out.below (hbw.mono hn)
      obtain ⟨bb, off, cp, e, _, _, hbb, hcs⟩ := hRk.cells (by omega)
      simp at e
      obtain ⟨rfl, rfl⟩ := e
      have d0 := hcs k g1 0 (by omega)
      have d1 := hcs k g1 1 (by omega)
      have d2 := hcs k g1 2 (by omega)
      obtain ⟨hxs, hxw, hxb, hxr⟩ := hRk.2 ds[k] (List.getElem_mem _)
      have HPN := hide (plT_next g1)
      have HLN := hide (plT_len ds k)
      clear hcs hRk
      generalize ds[k] = x at *
      simp only [apc, List.getElem?_cons_zero, List.getElem?_cons_succ, Nat.add_zero] at d0 d1 d2
      obtain ⟨at0, ct0, htv, _, _⟩ := hxr.slice
      rw [htv] at d2
      have HXR := hide (fun W (h : Below n₀ wr W) => (Rd.below h hxr))
      clear hxr
      obtain ⟨va, vb, lp, ld, h1, h2, hRT, h3⟩ := hP
      have hlp : lp.length ≤ 8 := by rw [hRT.rs.len, hRT.len]; exact HLN.out
      have hld : ld.length ≤ 8 := by rw [hRT.len]; exact HLN.out
      generalize hT : plT ds k = T at *
      have HT := hide hT
      clear hT
      have hnb : n₀ ≤ b := by have := HB.out; omega
      have hbr : b ≤ wr.heap.size := by have := HB.out; omega
      go_upto_region 5 with fail
      refine anyT_begin (R := But (Eb b wr.heap.size)) 35 rfl (by kernel_rfl) ?_
      have ld0 : Later wr wr.drew := Later.drew wr
      have c0 : ∀ v1, But (Eb b wr.heap.size) wr.drew v1 → v1.cell? ⟨bb, off + k * 3, none⟩ = some (.int .u32 x.s) := fun v1 hv => hv.cell (ld0.cell d0) (fun e => by have := e.1; simp at this; omega)
      have c1 : ∀ v1, But (Eb b wr.heap.size) wr.drew v1 → v1.cell? ⟨bb, off + k * 3 + 1, none⟩ = some (.int .i64 x.wz) := fun v1 hv => hv.cell (ld0.cell d1) (fun e => by have := e.1; simp at this; omega)
      have c2 : ∀ v1, But (Eb b wr.heap.size) wr.drew v1 → v1.cell? ⟨bb, off + k * 3 + 2, none⟩ = some (.slice at0 x.zs.length ct0) := fun v1 hv => hv.cell (ld0.cell d2) (fun e => by have := e.1; simp at this; omega)
      generalize wr.drew = Wd at *
      clear d0 d1 d2
      refine anyT_val (But.pre _) 0 rfl (by kernel_rfl) (by kernel_rfl) (by kernel_rfl) (fun _ _ _ _ h => h) rfl ?_; apply Exists.intro; refine ⟨fun v1 hv1 => ?_, ?_⟩; (· (go_simp; rfl)); simp only [Act.put, List.setIfInBounds_toArray, List.set_cons_zero, List.set_cons_succ]
      refine anyT_val (But.pre _) 1 rfl (by kernel_rfl) (by kernel_rfl) (by kernel_rfl) (fun _ _ _ _ h => h) rfl ?_; apply Exists.intro; refine ⟨fun v1 hv1 => ?_, ?_⟩; (· (go_simp; rfl)); simp only [Act.put, List.setIfInBounds_toArray, List.set_cons_zero, List.set_cons_succ]
      refine anyT_val (But.pre _) 2 rfl (by kernel_rfl) (by kernel_rfl) (by kernel_rfl) (fun _ _ _ _ h => h) rfl ?_; apply Exists.intro; refine ⟨fun v1 hv1 => ?_, ?_⟩; (· (go_simp; rfl)); simp only [Act.put, List.setIfInBounds_toArray, List.set_cons_zero, List.set_cons_succ]
      refine anyT_val (But.pre _) 3 rfl (by kernel_rfl) (by kernel_rfl) (by kernel_rfl) (fun _ _ _ _ h => h) rfl ?_; apply Exists.intro; refine ⟨fun v1 hv1 => ?_, ?_⟩; (· (go_simp; rfl)); simp only [Act.put, List.setIfInBounds_toArray, List.set_cons_zero, List.set_cons_succ]
      refine anyT_val (But.pre _) 4 rfl (by kernel_rfl) (by kernel_rfl) (by kernel_rfl) (fun _ _ _ _ h => h) rfl ?_; apply Exists.intro; refine ⟨fun v1 hv1 => ?_, ?_⟩; (· (go_simp; rfl)); simp only [Act.put, List.setIfInBounds_toArray, List.set_cons_zero, List.set_cons_succ]
      refine anyT_val (But.pre _) 5 rfl (by kernel_rfl) (by kernel_rfl) (by kernel_rfl) (fun _ _ _ _ h => h) rfl ?_; apply Exists.intro; refine ⟨fun v1 hv1 => ?_, ?_⟩; (· (go_simp; rfl)); simp only [Act.put, List.setIfInBounds_toArray, List.set_cons_zero, List.set_cons_succ]
      refine anyT_val (But.pre _) 6 rfl (by kernel_rfl) (by kernel_rfl) (by kernel_rfl) (fun _ _ _ _ h => h) rfl ?_; apply Exists.intro; refine ⟨fun v1 hv1 => ?_, ?_⟩; (· (go_simp; rfl)); simp only [Act.put, List.setIfInBounds_toArray, List.set_cons_zero, List.set_cons_succ]
      refine anyT_val (But.pre _) 7 rfl (by kernel_rfl) (by kernel_rfl) (by kernel_rfl) (fun _ _ _ _ h => h) rfl ?_; apply Exists.intro; refine ⟨fun v1 hv1 => ?_, ?_⟩; (· (go_simp; rfl)); simp only [Act.put, List.setIfInBounds_toArray, List.set_cons_zero, List.set_cons_succ]
      refine anyT_val (But.pre _) 8 rfl (by kernel_rfl) (by kernel_rfl) (by kernel_rfl) (fun _ _ _ _ h => h) rfl ?_; apply Exists.intro; refine ⟨fun v1 hv1 => ?_, ?_⟩; (· (go_simp; rfl)); simp only [Act.put, List.setIfInBounds_toArray, List.set_cons_zero, List.set_cons_succ]
      refine anyT_val (But.pre _) 9 rfl (by kernel_rfl) (by kernel_rfl) (by kernel_rfl) (fun _ _ _ _ h => h) rfl ?_; apply Exists.intro; refine ⟨fun v1 hv1 => ?_, ?_⟩; (· (go_simp; rfl)); simp only [Act.put, List.setIfInBounds_toArray, List.set_cons_zero, List.set_cons_succ]
      refine anyT_val (But.pre _) 10 rfl (by kernel_rfl) (by kernel_rfl) (by kernel_rfl) (fun _ _ _ _ h => h) rfl ?_; apply Exists.intro; refine ⟨fun v1 hv1 => ?_, ?_⟩; (· (go_simp; rfl)); simp only [Act.put, List.setIfInBounds_toArray, List.set_cons_zero, List.set_cons_succ]
      refine anyT_val (But.pre _) 11 rfl (by kernel_rfl) (by kernel_rfl) (by kernel_rfl) (fun _ _ _ _ h => h) rfl ?_; apply Exists.intro; refine ⟨fun v1 hv1 => ?_, ?_⟩; (· (go_simp; rfl)); simp only [Act.put, List.setIfInBounds_toArray, List.set_cons_zero, List.set_cons_succ]
      refine anyT_val (But.pre _) 12 rfl (by kernel_rfl) (by kernel_rfl) (by kernel_rfl) (fun _ _ _ _ h => h) rfl ?_; apply Exists.intro; refine ⟨fun v1 hv1 => ?_, ?_⟩; (· (go_simp; rfl)); simp only [Act.put, List.setIfInBounds_toArray, List.set_cons_zero, List.set_cons_succ]
      refine anyT_val (But.pre _) 13 rfl (by kernel_rfl) (by kernel_rfl) (by kernel_rfl) (fun _ _ _ _ h => h) rfl ?_; apply Exists.intro; refine ⟨fun v1 hv1 => ?_, ?_⟩; (· (go_simp; rfl)); simp only [Act.put, List.setIfInBounds_toArray, List.set_cons_zero, List.set_cons_succ]
      refine anyT_val (But.pre _) 14 rfl (by kernel_rfl) (by kernel_rfl) (by kernel_rfl) (fun _ _ _ _ h => h) rfl ?_; apply Exists.intro; refine ⟨fun v1 hv1 => ?_, ?_⟩; (· (go_simp; rfl)); simp only [Act.put, List.setIfInBounds_toArray, List.set_cons_zero, List.set_cons_succ]
      refine anyT_val (But.pre _) 15 rfl (by kernel_rfl) (by kernel_rfl) (by kernel_rfl) (fun _ _ _ _ h => h) rfl ?_; apply Exists.intro; refine ⟨fun v1 hv1 => ?_, ?_⟩; (· (go_simp; rfl)); simp only [Act.put, List.setIfInBounds_toArray, List.set_cons_zero, List.set_cons_succ]
      refine anyT_val (But.pre _) 17 rfl (by kernel_rfl) (by kernel_rfl) (by kernel_rfl) (fun _ _ _ _ h => h) rfl ?_; apply Exists.intro; refine ⟨fun v1 hv1 => ?_, ?_⟩; (· (go_simp; rfl)); simp only [Act.put, List.setIfInBounds_toArray, List.set_cons_zero, List.set_cons_succ]
      refine anyT_val (But.pre _) 18 rfl (by kernel_rfl) (by kernel_rfl) (by kernel_rfl) (fun _ _ _ _ h => h) rfl ?_; apply Exists.intro; refine ⟨fun v1 hv1 => ?_, ?_⟩; (· (go_simp; rfl)); simp only [Act.put, List.setIfInBounds_toArray, List.set_cons_zero, List.set_cons_succ]
      refine anyT_val (But.pre _) 19 rfl (by kernel_rfl) (by kernel_rfl) (by kernel_rfl) (fun _ _ _ _ h => h) rfl ?_; apply Exists.intro; refine ⟨fun v1 hv1 => ?_, ?_⟩; (· (go_simp; rfl)); simp only [Act.put, List.setIfInBounds_toArray, List.set_cons_zero, List.set_cons_succ]
      refine anyT_val (But.pre _) 20 rfl (by kernel_rfl) (by kernel_rfl) (by kernel_rfl) (fun _ _ _ _ h => h) rfl ?_; apply Exists.intro; refine ⟨fun v1 hv1 => ?_, ?_⟩; (· (go_simp; rfl)); simp only [Act.put, List.setIfInBounds_toArray, List.set_cons_zero, List.set_cons_succ]
      refine anyT_val (But.pre _) 21 rfl (by kernel_rfl) (by kernel_rfl) (by kernel_rfl) (fun _ _ _ _ h => h) rfl ?_; apply Exists.intro; refine ⟨fun v1 hv1 => ?_, ?_⟩; (· (go_simp; rfl)); simp only [Act.put, List.setIfInBounds_toArray, List.set_cons_zero, List.set_cons_succ]
      refine anyT_val (But.pre _) 22 rfl (by kernel_rfl) (by kernel_rfl) (by kernel_rfl) (fun _ _ _ _ h => h) rfl ?_; apply Exists.intro; refine ⟨fun v1 hv1 => ?_, ?_⟩; (· (go_simp; rfl)); simp only [Act.put, List.setIfInBounds_toArray, List.set_cons_zero, List.set_cons_succ]
      refine anyT_val (But.pre _) 23 rfl (by kernel_rfl) (by kernel_rfl) (by kernel_rfl) (fun _ _ _ _ h => h) rfl ?_; apply Exists.intro; refine ⟨fun v1 hv1 => ?_, ?_⟩; (· (go_simp; rfl)); simp only [Act.put, List.setIfInBounds_toArray, List.set_cons_zero, List.set_cons_succ]
      refine anyT_val (But.pre _) 24 rfl (by kernel_rfl) (by kernel_rfl) (by kernel_rfl) (fun _ _ _ _ h => h) rfl ?_; apply Exists.intro; refine ⟨fun v1 hv1 => ?_, ?_⟩; (· (go_simp; rfl)); simp only [Act.put, List.setIfInBounds_toArray, List.set_cons_zero, List.set_cons_succ]
      refine anyT_val (But.pre _) 25 rfl (by kernel_rfl) (by kernel_rfl) (by kernel_rfl) (fun _ _ _ _ h => h) rfl ?_; apply Exists.intro; refine ⟨fun v1 hv1 => ?_, ?_⟩; (· (go_simp; rfl)); simp only [Act.put, List.setIfInBounds_toArray, List.set_cons_zero, List.set_cons_succ]
      refine anyT_val (But.pre _) 26 rfl (by kernel_rfl) (by kernel_rfl) (by kernel_rfl) (fun _ _ _ _ h => h) rfl ?_; apply Exists.intro; refine ⟨fun v1 hv1 => ?_, ?_⟩; (· (go_simp; rfl)); simp only [Act.put, List.setIfInBounds_toArray, List.set_cons_zero, List.set_cons_succ]
      refine anyT_val (But.pre _) 27 rfl (by kernel_rfl) (by kernel_rfl) (by kernel_rfl) (fun _ _ _ _ h => h) rfl ?_; apply Exists.intro; refine ⟨fun v1 hv1 => ?_, ?_⟩; (· (go_simp; rfl)); simp only [Act.put, List.setIfInBounds_toArray, List.set_cons_zero, List.set_cons_succ]
      refine anyT_val (But.pre _) 28 rfl (by kernel_rfl) (by kernel_rfl) (by kernel_rfl) (fun _ _ _ _ h => h) rfl ?_; apply Exists.intro; refine ⟨fun v1 hv1 => ?_, ?_⟩; (· (go_simp; rfl)); simp only [Act.put, List.setIfInBounds_toArray, List.set_cons_zero, List.set_cons_succ]
      refine anyT_val (But.pre _) 29 rfl (by kernel_rfl) (by kernel_rfl) (by kernel_rfl) (fun _ _ _ _ h => h) rfl ?_; apply Exists.intro; refine ⟨fun v1 hv1 => ?_, ?_⟩; (· (go_simp; rfl)); simp only [Act.put, List.setIfInBounds_toArray, List.set_cons_zero, List.set_cons_succ]
      refine anyT_val (But.pre _) 30 rfl (by kernel_rfl) (by kernel_rfl) (by kernel_rfl) (fun _ _ _ _ h => h) rfl ?_; apply Exists.intro; refine ⟨fun v1 hv1 => ?_, ?_⟩; (· (go_simp; rfl)); simp only [Act.put, List.setIfInBounds_toArray, List.set_cons_zero, List.set_cons_succ]
      refine anyT_val (But.pre _) 31 rfl (by kernel_rfl) (by kernel_rfl) (by kernel_rfl) (fun _ _ _ _ h => h) rfl ?_; apply Exists.intro; refine ⟨fun v1 hv1 => ?_, ?_⟩; (· (go_simp; rfl)); simp only [Act.put, List.setIfInBounds_toArray, List.set_cons_zero, List.set_cons_succ]
      refine anyT_val (But.pre _) 32 rfl (by kernel_rfl) (by kernel_rfl) (by kernel_rfl) (fun _ _ _ _ h => h) rfl ?_; apply Exists.intro; refine ⟨fun v1 hv1 => ?_, ?_⟩; (· (go_simp; rfl)); simp only [Act.put, List.setIfInBounds_toArray, List.set_cons_zero, List.set_cons_succ]
      clear c0 c1 c2
      refine anyT_one 16 rfl (by kernel_rfl) rfl ?_
      refine wp_enter 13 #[.pointer (some ⟨b, 0, none⟩), .int .u32 x.s, .int .i64 x.wz, .slice at0 x.zs.length ct0] (by go_simp) ?_
      have hsd := ld0.size
      refine (sadd_any b b va lp x.s x.wz (.slice at0 x.zs.length ct0) x.zs Wd (h1.later ld0) (by omega) (by omega) hxs (by rw [← htv]; exact (HXR.out Wd (Below.mono ld0 (by omega))).mono (by omega))).mono ?_
      rintro e W1 ⟨rfl, q1⟩
      obtain ⟨l1', qq1⟩ := q1.but
      obtain ⟨hB1, b1⟩ := PR.one h1 h2 h3 ld0 qq1
      refine ⟨b1, ?_⟩
      simp only [Act.put, List.setIfInBounds_toArray, List.set_cons_zero, List.set_cons_succ]
      have hs1 := b1.size
      refine anyT_one 33 rfl (by kernel_rfl) rfl ?_
      refine wp_enter 25 #[.pointer (some ⟨rb, 0, none⟩), .int .u32 x.s, .int .i64 x.wz, .slice at0 x.zs.length ct0] (by go_simp) ?_
      have hbl1 : Below n₀ wr W1 := (Below.mono ld0 (by omega)).trans (b1.below (by omega) (fun g hg e => by have := e.1; omega))
      refine (rsadd_any b rb vb ld x.s x.wz (.slice at0 x.zs.length ct0) x.zs W1 hB1 (by omega) (by omega) (by rw [← htv]; exact (HXR.out W1 hbl1).mono (by omega))).mono ?_
      rintro e W2 ⟨rfl, q2⟩
      obtain ⟨l2', qq2⟩ := q2.but
      have b2 : But (Eb b wr.heap.size) W1 W2 := DSq.eb h2 qq2
      refine ⟨b2, ?_⟩
      simp only [Act.put, List.setIfInBounds_toArray, List.set_cons_zero, List.set_cons_succ]
      have HPA := hide (PR.add (t := toT x) h1 h2 hRT h3 ld0 q1 q2 hxs)
      have hre : adS lp x.s x.wz x.zs.length = adD ld x.s x.wz x.zs.length := hRT.rs.ad _ _ _
      rw [hre]
      clear hre
      generalize adD ld x.s x.wz x.zs.length = z at *
      refine anyT_val (But.pre _) 34 rfl (by kernel_rfl) (by kernel_rfl) (by kernel_rfl) (fun _ _ _ _ h => h) rfl ?_; apply Exists.intro; refine ⟨fun v1 hv1 => ?_, ?_⟩; (· (go_simp; rfl)); simp only [Act.put, List.setIfInBounds_toArray, List.set_cons_zero, List.set_cons_succ]
      refine anyT_done (by kernel_rfl) ?_
      have hbw2 : Below b w W2 := hbw.trans ((Below.mono ld0 (by omega)).trans ((b1.trans b2).below (by omega) (fun g hg e => by have := e.1; omega)))
      have HBW := hide hbw2
      clear hbw2
      go_wp2_with fail
      go_roundw
      case rel => exact ⟨k + 1, by omega, by omega, by simp, by rw [HPN.out]; exact HPA.out, HBW.out⟩
      case measure => simp [intOf]; omega
    · have hm : min ds.length 30 = k := by omega
      have HM := hide hm
      have HP := hide hP
      clear hm hP
      rcases (show ¬ k < ds.length ∨ (k < ds.length ∧ ¬ k < 30) by omega) with h | ⟨h, h'⟩
      · have g1' : ¬ (k : Int) < ds.length := by omega
        go_wp2_with fail
        refine bodyPost_ret (v := .tuple #[.pointer (some ⟨b, 0, none⟩), .pointer (some ⟨rb, 0, none⟩), .bool true]) (by simp [results, Try.results9, go_sem]) rfl ?_
        exact ⟨by show Below w.heap.size w _; rw [HB.out]; exact hbw, b, rb, rfl, by rw [HM.out, HB.out]; exact HP.out⟩
      · have g1' : (k : Int) < ds.length := by omega
        have g2' : ¬ (k : Int) < 30 := by omega
        go_wp2_with fail
        refine bodyPost_ret (v := .tuple #[.pointer (some ⟨b, 0, none⟩), .pointer (some ⟨rb, 0, none⟩), .bool true]) (by simp [results, Try.results9, go_sem]) rfl ?_
        exact ⟨by show Below w.heap.size w _; rw [HB.out]; exact hbw, b, rb, rfl, by rw [HM.out, HB.out]; exact HP.out⟩
end Go.Proofs.Ytaaanmjmgnpcgaa
