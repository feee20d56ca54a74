import Derived.Test.YtofknbfbmaefoaaGreatDoorX8
import Derived.Test.YtofknbfbmaefoaaGreatDoorX17
import Derived.Deep.DeepCutAuto
import Derived.MapKept
import Derived.Laws.IdiomRangeMap
import Derived.Maps.RangeRun
import Derived.Test.YtofknbfbmaefoaaGreatDoorProg
import Derived.Laws.Bits64b
import Derived.Laws.BitsAllLaws
import Derived.Lib.TrailingZeros
import Derived.Deep.CutBlock
namespace Go.Proofs.YtofknbfbmaefoaaGreatDoor
open Go.RowKit Go.Shelf
set_option maxRecDepth 100000
set_option linter.unusedVariables false
set_option linter.unusedSimpArgs false
def OcQ (e : Ending) : Prop := ∃ c : Int, (1 ≤ c ∧ c ≤ 7) ∧ e = .returned (.agg (oc c).toArray)
set_option maxRecDepth 100000 in
set_option maxHeartbeats 8000000 in
theorem handle_none (base g : Nat) (s : Gs) (side : Int) (sb : Value) (zs : List Int) (w : World) (h : GI base w g s) (hT : Tb w) (hS : Shut side s.ls) (hB : Mt.By zs) (hI : Rd w.heap.size w sb zs) (hl : zs.length ≤ 60000) :
  Calls Tryz.prog 25 #[.pointer (some ⟨g, 0, none⟩), .int .i64 side, sb] w fun e w' => OcQ e ∧ Later w w' := by
 have hmf : ∀ (fn : Fn) (first cap : Array Value) (w : World), (Instr.makeFunc fn first cap).run Tryz.prog w = .ok (.func fn first cap) w := fun _ _ _ _ => rfl
 obtain ⟨a, cap, rfl, hl1, hm1⟩ := hI.slice
 have l0 := later_allocG w (.cells (oc 0).toArray 40)
 have C0 := hide (heap_alloc_new w (.cells (oc 0).toArray 40))
 have HP := hide (parse_any _ zs _ hB (by omega) (hI.later l0))
 have HG := hide h
 go_enter_defers Tryz.func25, Tryz.ntmps25
 go_wp2_with fail
 change Calls _ _ _ (w.alloc (.cells (oc 0).toArray 40)) _
 generalize hw1 : w.alloc (.cells (oc 0).toArray 40) = w1 at *
 clear hw1
 refine HP.out.mono ?_
 rintro e w2 ⟨l2, ⟨h1, rfl⟩ | ⟨h1, so, sd, rfl, hOo, hOd⟩⟩
 ·have la := later_allocG w2 (.cells zc.toArray 56)
  have D0 := later_keep (Later.trans l2 la) C0.out
  have t1 : (rde false zs != 0) = true := by simp [h1]
  have L3 : Later w (w2.alloc (.cells zc.toArray 56)) := l0.trans (Later.trans l2 la)
  generalize rde false zs = e0 at *
  clear h1
  go_upto_region 3 with fail
  change Code.wp _ _ _ _ (w2.alloc (.cells zc.toArray 56))
  generalize w2.alloc (.cells zc.toArray 56) = w3 at *
  go_wp2_with fail
  refine (grefuse_yes 1 _).mono ?_
  rintro e w4 ⟨rfl, rfl⟩
  exact gdoor_refused _ w.heap.size w.heap.size 1 _ _ _ w3 D0 (Nat.le_refl _) rfl (fun w' hb' => ⟨⟨1, by decide, rfl⟩, Below.trans L3 hb'⟩)
 ·obtain ⟨oa, ocp, rfl, _, _⟩ := hOo.slice
  obtain ⟨da, dcp, rfl, _, _⟩ := hOd.slice
  have hBd : Mt.By ((zs.take (ral false zs).toNat).drop (hl4 zs).toNat) := (hB.take _).drop _
  have hld : ((zs.take (ral false zs).toNat).drop (hl4 zs).toNat).length ≤ 70000 := by rw [List.length_drop, List.length_take]; omega
  have b1 := wat4D hB 12
  have b2 := wat4D hB 16
  generalize (zs.take (ral false zs).toNat).drop (hl4 zs).toNat = zd at *
  generalize (zs.take (hl4 zs).toNat).drop 20 = zo at *
  unfold pkt
  generalize zs[1]?.getD 0 = tos at *
  generalize wat zs 4 = id at *
  generalize decide (16384 ≤ wat zs 6 % 32768) = keep at *
  generalize zs[8]?.getD 0 = ttl at *
  generalize zs[9]?.getD 0 = pr at *
  generalize wat4 zs 12 = src at *
  generalize wat4 zs 16 = dst at *
  have la := later_allocG w2 (.cells #[.int .u8 tos, .int .u16 id, .bool keep, .int .u8 ttl, .int .u8 pr, .int .u32 src, .int .u32 dst, .slice oa zo.length ocp, .slice da zd.length dcp] 56)
  have CP := hide (heap_alloc_new w2 (.cells #[.int .u8 tos, .int .u16 id, .bool keep, .int .u8 ttl, .int .u8 pr, .int .u32 src, .int .u32 dst, .slice oa zo.length ocp, .slice da zd.length dcp] 56))
  have D0 := later_keep (Later.trans l2 la) C0.out
  have L3 : Later w (w2.alloc (.cells #[.int .u8 tos, .int .u16 id, .bool keep, .int .u8 ttl, .int .u8 pr, .int .u32 src, .int .u32 dst, .slice oa zo.length ocp, .slice da zd.length dcp] 56)) := l0.trans (Later.trans l2 la)
  have HPK := hide (show PkI _ (.slice da zd.length dcp) zd src dst from ⟨hBd, hOd.rd.later la, hld, b1, b2⟩)
  have HD0 := hide D0
  clear D0
  go_upto_region 3 with fail
  change Code.wp _ _ _ _ (w2.alloc (.cells #[.int .u8 tos, .int .u16 id, .bool keep, .int .u8 ttl, .int .u8 pr, .int .u32 src, .int .u32 dst, .slice oa zo.length ocp, .slice da zd.length dcp] 56))
  generalize w2.alloc (.cells #[.int .u8 tos, .int .u16 id, .bool keep, .int .u8 ttl, .int .u8 pr, .int .u32 src, .int .u32 dst, .slice oa zo.length ocp, .slice da zd.length dcp] 56) = w3 at *
  generalize w2.heap.size = gp at *
  have kp := block_cell CP.out
  by_cases ht2 : ttl < 2
  ·go_wp2_with fail
   refine (grefuse_yes 1 _).mono ?_
   rintro e w4 ⟨rfl, rfl⟩
   exact gdoor_refused _ w.heap.size w.heap.size 1 _ _ _ w3 HD0.out (Nat.le_refl _) rfl (fun w' hb' => ⟨⟨1, by decide, rfl⟩, Below.trans L3 hb'⟩)
  ·go_wp2_with fail
   refine (grefuse_no 1 _).mono ?_
   rintro e w4 ⟨rfl, hw4⟩
   subst hw4
   go_wp2_with fail
   refine (changed_none base g s tos id ttl pr src dst keep _ _ side zd w3 (HG.out.later L3) (hT.later L3) hS HPK.out).mono ?_
   rintro e w9 ⟨⟨c, hc, rfl⟩, l9⟩
   exact gdoor_refused _ w.heap.size w.heap.size c _ _ _ w9 (later_keep l9 HD0.out) (Nat.le_refl _) rfl (fun w' hb' => ⟨⟨c, hc, rfl⟩, Below.trans (L3.trans l9) hb'⟩)
theorem giveExpected_none (p : Value) (a : Option Addr) (cap : Nat) (w : World) : Calls Tryz.prog 35 #[p, .slice a 0 cap] w fun e w' => e = .returned (.tuple #[]) ∧ w' = w := by
 go_enter Tryz.func35, Tryz.ntmps35
 go_upto_region 1 with fail
 go_loopw [8] (fun iv wr => iv = .int .i64 0 ∧ wr = w) (fun _ _ => 0)
 case atStart => exact ⟨rfl, rfl⟩
 case round =>
  obtain ⟨rfl, hw⟩ := hrel
  go_wp2_with fail
  go_end0
  exact ⟨rfl, rfl⟩
theorem ownG_but {W W' : World} {base : Nat} {e t : TypeId} {size : Nat} {v : Value} {n : Nat} {xs : List Value} (h : W.ownsRow base e size v n xs) {g : Nat} (hb : But (fun b => b = g) W W') {cur : Array Value} {f : Nat × Nat} (hg : W.heap[g]? = some (.cells cur t f)) (hne : e ≠ t) : W'.ownsRow base e size v n xs := by
 obtain ⟨h1, h2 | ⟨b, cap, cur', e', hb', hh, r⟩⟩ := h
 ·exact ⟨h1, .inl h2⟩
 ·refine ⟨h1, .inr ⟨b, cap, cur', e', hb', (hb.block b (bl9 hh) (fun eq => ?_)).trans hh, r⟩⟩
  have eq' : b = g := eq
  rw [eq', hg] at hh
  cases hh
  exact hne rfl
theorem TB.butG {base bt : Nat} {W W' : World} {lim cnt trn : Int} {ls : Nat → List Rw} (h : TB base W bt lim cnt trn ls) {g : Nat} (hb : But (fun b => b = g) W W') {t : TypeId} {cur : Array Value} {f : Nat × Nat} (hg : W.heap[g]? = some (.cells cur t f)) (h1 : t ≠ 142) (h2 : 177 ≠ t) : TB base W' bt lim cnt trn ls := by
 obtain ⟨vs, q1, q2, q3, q4, q5⟩ := h
 refine ⟨vs, q1, q2, (hb.block bt (bl9 q3) (fun eq => ?_)).trans q3, fun i hi => ownG_but (q4 i hi) hb hg h2, q5⟩
 have eq' : bt = g := eq
 rw [eq', hg] at q3
 cases q3
 exact h1 rfl
theorem cellsG_but {W W' : World} {g b : Nat} {o : Obj} (hb : But (fun b => b = g) W W') (h : W.heap[b]? = some o) {cur : Array Value} {t : TypeId} {f : Nat × Nat} (hg : W.heap[g]? = some (.cells cur t f)) (hne : o ≠ .cells cur t f) : W'.heap[b]? = some o :=
 (hb.block b (bl9 h) (fun eq => by
  have eq' : b = g := eq
  rw [eq', hg] at h
  cases h
  exact hne rfl)).trans h
theorem GI.now {base g : Nat} {W : World} {s : Gs} (h : GI base W g s) (n : Int) : GI base (W.setCell ⟨g, 2, none⟩ (.int .i64 n)) g { s with now := n } := by
 have hb : But (fun b => b = g) W (W.setCell ⟨g, 2, none⟩ (.int .i64 n)) := (But.refl (fun b => b = g) _).setCell (show _ = _ from rfl) _
 have hc := h.gc
 have h2 := heap_set1 h.gc 2 (.int .i64 n)
 refine ⟨h.bs, h2, ⟨h.rl.1, cellsG_but hb h.rl.2.1 hc (by intro e; injection e with e1 e2 e3; exact absurd e2 (by decide)), ownG_but h.rl.2.2 hb hc (by decide)⟩, h.tb.butG hb hc (by decide) (by decide), ⟨h.bl.1, cellsG_but hb h.bl.2.1 hc (by intro e; injection e with e1 e2 e3; exact absurd e2 (by decide)), ownG_but h.bl.2.2 hb hc (by decide)⟩, cellsG_but hb h.fl hc (by intro e; cases e), cellsG_but hb h.pl hc (by intro e; cases e)⟩
theorem GI.book {base g : Nat} {W W' : World} {s : Gs} (h : GI base W g s) (hb : But (fun b => b = s.gb) W W') {v : Value} (hl : BL 144 base W' s.gb v []) : GI base W' g { s with ve := v } := by
 have hc := h.bl.2.1
 exact ⟨h.bs, cellsG_but hb h.gc hc (by intro e; injection e with e1 e2 e3; exact absurd e2 (by decide)), ⟨h.rl.1, cellsG_but hb h.rl.2.1 hc (by intro e; injection e with e1 e2 e3; exact absurd e2 (by decide)), ownG_but h.rl.2.2 hb hc (by decide)⟩, h.tb.butG hb hc (by decide) (by decide), hl, cellsG_but hb h.fl hc (by intro e; cases e), cellsG_but hb h.pl hc (by intro e; cases e)⟩
theorem allR_nil : allR (fun _ => []) = [] := by unfold allR; rw [List.flatMap_eq_nil_iff]; intro _ _; rfl
theorem due_none (base bt : Nat) (now : Int) (w : World) (hT : TB base w bt 128 0 0 (fun _ => [])) :
  Calls Tryz.prog 32 #[.pointer (some ⟨bt, 0, none⟩), .int .i64 now] w fun e w' => (∃ g, e = .returned (.slice (some ⟨g, 0, none⟩) 0 0)) ∧ Later w w' := by
 refine (due_any base bt 128 0 0 now (fun _ => []) [] w hT (by rw [allR_nil]; exact sorts_one [] (by simp)) (by rw [allR_nil]; simp)).mono ?_
 rintro e w' ⟨l, g, rfl, _, _⟩
 exact ⟨⟨g, rfl⟩, l⟩
def GsK (base : Nat) (lo hi : Int) (s : Gs) : Prop := s.lo = lo ∧ s.hi = hi ∧ (0 ≤ s.now ∧ s.now ≤ 549755813888) ∧ s.gf ≠ s.gp ∧ base ≤ s.gf ∧ base ≤ s.gp
def SmG (s s' : Gs) : Prop := s'.gb = s.gb ∧ ∀ b lo hi, GsK b lo hi s → GsK b lo hi s'
def TkG (base : Nat) (w w' : World) (g : Nat) (s : Gs) : Prop := But (fun b => b = g ∨ b = s.gb) w w' ∧ ∃ s', s'.ls = s.ls ∧ SmG s s' ∧ GI base w' g s'
theorem TkG.below {base g : Nat} {w w' : World} {s : Gs} (h : TkG base w w' g s) (hg : GI base w g s) (hbs : base ≤ w.heap.size) : Below base w w' := h.1.below hbs (fun k hk e => by
 have h1 := hg.bs
 have h2 := hg.bl.1
 rcases e with e | e <;> omega)
set_option maxRecDepth 100000 in
set_option maxHeartbeats 8000000 in
theorem tick_none (base g : Nat) (s : Gs) (nw : Int) (w : World) (h : GI base w g s) (hbs : base ≤ w.heap.size) :
  Calls Tryz.prog 14 #[.pointer (some ⟨g, 0, none⟩), .int .i64 nw] w fun e w' => e = .returned (.tuple #[]) ∧ TkG base w w' g s := by
 have HG := hide h
 have hbg := h.bs
 go_enter Tryz.func14, Tryz.ntmps14
 have k0 := block_cell h.gc
 have f0 := block_frozen h.gc
 unfold gtc at k0
 go_upto_region 1 with fail
 go_cut [18] (fun _ wx => ∃ nv : Int, (0 ≤ s.now → 0 ≤ nv ∧ nv ≤ 549755813888) ∧ wx = w.setCell ⟨g, 2, none⟩ (.int .i64 nv))
 case first =>
  go_wp2_with fail
  all_goals
   go_meet
   case rel => exact ⟨_, fun _ => by omega, rfl⟩
 case rest =>
 clear k0 f0
 obtain ⟨nv, hnr, hnv⟩ := hcut
 obtain ⟨w1, hw1⟩ : ∃ w1, w1 = wc := ⟨_, rfl⟩
 subst hw1
 have h1 : GI base w1 g { s with now := nv } := by rw [hnv]; exact h.now nv
 have M1 : But (fun b => b = g ∨ b = s.gb) w w1 := by
  rw [hnv]
  exact (But.refl (fun b => b = g ∨ b = s.gb) w).setCell (p := ⟨g, 2, none⟩) (show _ ∨ _ from .inl rfl) (.int .i64 nv)
 have hls : ({ s with now := nv } : Gs).ls = s.ls := rfl
 have hgb : ({ s with now := nv } : Gs).gb = s.gb := rfl
 have hgk : ∀ b lo hi, GsK b lo hi s → GsK b lo hi ({ s with now := nv } : Gs) := fun b lo hi h => ⟨h.1, h.2.1, hnr h.2.2.1.1, h.2.2.2⟩
 have HGK0 := hide hgk
 clear hnr hgk
 generalize ({ s with now := nv } : Gs) = s1 at *
 have HLS := hide hls
 have HGB := hide hgb
 have HGK : Hid (SmG s s1) := ⟨hgb, HGK0.out⟩
 clear HGK0
 clear hnv hls hgb HG h
 go_upto_region 2 with fail
 refine anyT_begin (R := Later) 11 rfl (by kernel_rfl) ?_
 have ld : Later w1 w1.drew := Later.drew w1
 generalize w1.drew = w2 at *
 have h2 := h1.later ld
 have M2 : But (fun b => b = g ∨ b = s.gb) w w2 := M1.trans (But.of ld)
 have q1 : ∀ v, Later w2 v → ∀ j, v.cell? ⟨g, j, none⟩ = (gtc s1).toArray[j]? := fun v hv => block_cell (later_keep hv h2.gc)
 unfold gtc at q1
 have H2 := hide h2
 clear h1 h2 ld M1
 refine tV Later.pre 0 rfl rfl ⟨_, fun v h => by (go_simp; rfl), ?_⟩; simp only [Act.put, sA, sB, sC]
 refine tV Later.pre 1 rfl rfl ⟨_, fun v h => by (go_simp; rfl), ?_⟩; simp only [Act.put, sA, sB, sC]
 refine tV Later.pre 2 rfl rfl ⟨_, fun v h => by (go_simp; rfl), ?_⟩; simp only [Act.put, sA, sB, sC]
 refine tV Later.pre 3 rfl rfl ⟨_, fun v h => by (go_simp; rfl), ?_⟩; simp only [Act.put, sA, sB, sC]
 refine tV Later.pre 4 rfl rfl ⟨_, fun v h => by (go_simp; rfl), ?_⟩; simp only [Act.put, sA, sB, sC]
 refine tV Later.pre 5 rfl rfl ⟨_, fun v h => by (go_simp; rfl), ?_⟩; simp only [Act.put, sA, sB, sC]
 refine tV Later.pre 6 rfl rfl ⟨_, fun v h => by (go_simp; rfl), ?_⟩; simp only [Act.put, sA, sB, sC]
 refine tV Later.pre 7 rfl rfl ⟨_, fun v h => by (go_simp; rfl), ?_⟩; simp only [Act.put, sA, sB, sC]
 refine tV Later.pre 10 rfl rfl ⟨_, fun v h => by (go_simp; rfl), ?_⟩; simp only [Act.put, sA, sB, sC]
 clear q1
 refine anyT_one 8 rfl (by kernel_rfl) rfl ?_
 refine wp_enter 32 #[.pointer (some ⟨s1.gt, 0, none⟩), .int .i64 s1.now] (by go_simp) ?_
 refine (due_none base s1.gt s1.now w2 H2.out.tb).mono ?_
 rintro e w3 ⟨⟨gd, rfl⟩, l3⟩
 refine ⟨l3, ?_⟩
 simp only [Act.put, sA, sB, sC]
 refine tV Later.pre 9 rfl rfl ⟨_, fun v h => by (go_simp; rfl), ?_⟩; simp only [Act.put, sA, sB, sC]
 refine anyT_done (by kernel_rfl) ?_
 have h3 := H2.out.later l3
 have M3 : But (fun b => b = g ∨ b = s.gb) w w3 := M2.trans (But.of l3)
 have H3 := hide h3
 clear H2 h3 M2 l3
 go_upto_region 3 with fail
 go_loopw [31] (fun iv wr => iv = .int .i64 0 ∧ wr = w3) (fun _ _ => 0)
 case atStart => exact ⟨rfl, rfl⟩
 case round =>
  obtain ⟨rfl, hw⟩ := hrel
  subst hw
  go_upto_region 9 with fail
  refine anyT_begin (R := But (fun b => b = s1.gb)) 11 rfl (by kernel_rfl) ?_
  have ld : Later wr wr.drew := Later.drew wr
  generalize wr.drew = w4 at *
  have h4 := H3.out.later ld
  have M4 : But (fun b => b = g ∨ b = s.gb) w w4 := M3.trans (But.of ld)
  have q1 : ∀ v, But (fun b => b = s1.gb) w4 v → ∀ j, v.cell? ⟨g, j, none⟩ = (gtc s1).toArray[j]? := fun v hv => block_cell (cellsG_but hv h4.gc h4.bl.2.1 (by intro e; injection e with e1 e2 e3; exact absurd e2 (by decide)))
  unfold gtc at q1
  have H4 := hide h4
  clear H3 h4 M3 ld
  refine tV (But.pre (fun b => b = s1.gb)) 0 rfl rfl ⟨_, fun v h => by (go_simp; rfl), ?_⟩; simp only [Act.put, sA, sB, sC]
  refine tV (But.pre (fun b => b = s1.gb)) 1 rfl rfl ⟨_, fun v h => by (go_simp; rfl), ?_⟩; simp only [Act.put, sA, sB, sC]
  refine tV (But.pre (fun b => b = s1.gb)) 2 rfl rfl ⟨_, fun v h => by (go_simp; rfl), ?_⟩; simp only [Act.put, sA, sB, sC]
  refine tV (But.pre (fun b => b = s1.gb)) 3 rfl rfl ⟨_, fun v h => by (go_simp; rfl), ?_⟩; simp only [Act.put, sA, sB, sC]
  refine tV (But.pre (fun b => b = s1.gb)) 4 rfl rfl ⟨_, fun v h => by (go_simp; rfl), ?_⟩; simp only [Act.put, sA, sB, sC]
  refine tV (But.pre (fun b => b = s1.gb)) 5 rfl rfl ⟨_, fun v h => by (go_simp; rfl), ?_⟩; simp only [Act.put, sA, sB, sC]
  refine tV (But.pre (fun b => b = s1.gb)) 6 rfl rfl ⟨_, fun v h => by (go_simp; rfl), ?_⟩; simp only [Act.put, sA, sB, sC]
  refine tV (But.pre (fun b => b = s1.gb)) 7 rfl rfl ⟨_, fun v h => by (go_simp; rfl), ?_⟩; simp only [Act.put, sA, sB, sC]
  refine tV (But.pre (fun b => b = s1.gb)) 8 rfl rfl ⟨_, fun v h => by (go_simp; rfl), ?_⟩; simp only [Act.put, sA, sB, sC]
  clear q1
  refine anyT_one 9 rfl (by kernel_rfl) rfl ?_
  refine wp_enter 36 #[.pointer (some ⟨s1.gb, 0, none⟩), .int .i64 s1.now] (by go_simp) ?_
  refine (due12_any base s1.gb s1.ve [] s1.now w4 H4.out.bl (Nat.le_trans hbs M4.size) (by simp)).mono ?_
  rintro e w5 ⟨u, rfl, v5, hbl, hrow, hbut, _⟩
  obtain ⟨ua, uc, rfl⟩ : ∃ a c, u = .slice a 0 c := by
   obtain ⟨_, ⟨rfl, _⟩ | ⟨b, cap, cur, rfl, _⟩⟩ := hrow
   ·exact ⟨_, _, rfl⟩
   ·exact ⟨_, _, rfl⟩
  have h5 := H4.out.book hbut hbl
  have M5 : But (fun b => b = g ∨ b = s.gb) w w5 := M4.trans ⟨hbut.os, hbut.tape, hbut.output, hbut.size, fun i hi he => hbut.block i hi (fun e => he (.inr (by have e' : i = s1.gb := e; rw [e', HGB.out])))⟩
  have HB := hide hbut
  clear hbut hrow hbl
  refine ⟨HB.out, ?_⟩
  simp only [Act.put, sA, sB, sC]
  refine anyT_one 10 rfl (by kernel_rfl) rfl ?_
  refine wp_enter 35 #[.pointer (some ⟨g, 0, none⟩), .slice ua 0 uc] (by go_simp) ?_
  refine (giveExpected_none _ ua uc w5).mono ?_
  rintro e w6 ⟨rfl, hw6⟩
  subst hw6
  refine ⟨But.refl _ _, ?_⟩
  simp only [Act.put, sA, sB, sC]
  refine anyT_done (by kernel_rfl) ?_
  go_wp2_with fail
  go_end0
  exact ⟨rfl, M5, { s1 with ve := v5 }, HLS.out, HGK.out, h5⟩
set_option maxRecDepth 100000 in
set_option maxHeartbeats 8000000 in
theorem packet_none (base g : Nat) (s : Gs) (nw side : Int) (sb : Value) (zs : List Int) (w : World) (h : GI base w g s) (hbs : base ≤ w.heap.size) (hT : ∀ W, Below base w W → Tb W) (hS : Shut side s.ls) (hB : Mt.By zs) (hI : Rd base w sb zs) (hl : zs.length ≤ 60000) :
  Calls Tryz.prog 8 #[.pointer (some ⟨g, 0, none⟩), .int .i64 nw, .int .i64 side, sb] w fun e w' => OcQ e ∧ TkG base w w' g s := by
 obtain ⟨sa, sc, rfl, _, _⟩ := hI.slice
 have l0 := later_allocG w (.cells (oc 0).toArray 40)
 have C0 := hide (heap_alloc_new w (.cells (oc 0).toArray 40))
 have HS := hide hS
 have HT := hide hT
 have h1 := h.later l0
 have M1 : Below base w (w.alloc (.cells (oc 0).toArray 40)) := l0.mono hbs
 have hgl := (bl9 h.gc)
 have hsd : side = 0 ∨ side = 1 := by rcases hS with ⟨e, _⟩ | ⟨e, _⟩ <;> simp [e]
 clear hS hT
 have HG := hide h
 have H1 := hide h1
 clear h h1
 rcases hsd with rfl | rfl
 all_goals
  go_enter Tryz.func8, Tryz.ntmps8
  go_upto_region 3 with fail
  change Code.wp _ _ _ _ (w.alloc (.cells (oc 0).toArray 40))
  generalize w.alloc (.cells (oc 0).toArray 40) = w1 at *
  generalize hgx : w.heap.size = gx at C0 ⊢
  have hs1 : base ≤ w1.heap.size := Nat.le_trans hbs M1.size
  go_wp2_with fail
  refine (tick_none base g s nw w1 H1.out hs1).mono ?_
  rintro e w2 ⟨rfl, M2, s2, hl2, hg2, h2⟩
  have hgb := (bl9 HG.out.bl.2.1)
  have D0 := hide ((M2.block gx (bl9 C0.out) (fun e => by rcases e with e | e <;> omega)).trans C0.out)
  have M12 : But (fun b => b = g ∨ b = s.gb) w w2 := (But.of l0).trans M2
  have B12 : Below base w w2 := M12.below hbs (fun k hk e => by
   have h1 := HG.out.bs
   have h2 := HG.out.bl.1
   rcases e with e | e <;> omega)
  have hs2 : base ≤ w2.heap.size := Nat.le_trans hbs B12.size
  have HHN := hide (handle_none base g s2 _ (.slice sa zs.length sc) zs w2 h2 (HT.out w2 B12) (by rw [hl2]; exact HS.out) hB ((hI.below B12).mono hs2) hl)
  clear M2 C0 H1 M1 hs1
  go_wp2_with fail
  refine HHN.out.mono ?_
  rintro e w3 ⟨⟨c, hc, rfl⟩, l3⟩
  have E0 := later_keep l3 D0.out
  have h3 := h2.later l3
  have k0 := block_cell E0
  have f0 := block_frozen E0
  clear HHN
  go_wp2_with fail
  generalize hV : World.setCell _ ⟨gx, 2, none⟩ _ = V8
  have hV9 : V8 = putRow w3 gx 0 (oc c) := hV.symm
  have hb8 : But (fun b => b = gx) w3 V8 := by rw [hV9]; exact putRow_but (E := fun b => b = gx) (n := gx) rfl _ _ _ _ (But.refl _ _)
  have p8 := putRow_all (oc c) E0 rfl
  rw [← hV9] at p8
  clear hV hV9
  have P8 := block_cell p8
  have h8 : GI base V8 g s2 := ⟨h3.bs, cellsG_but hb8 h3.gc E0 (by intro e; injection e with e1 e2 e3; exact absurd e2 (by decide)), ⟨h3.rl.1, cellsG_but hb8 h3.rl.2.1 E0 (by intro e; injection e with e1 e2 e3; exact absurd e2 (by decide)), ownG_but h3.rl.2.2 hb8 E0 (by decide)⟩, h3.tb.butG hb8 E0 (by decide) (by decide), ⟨h3.bl.1, cellsG_but hb8 h3.bl.2.1 E0 (by intro e; injection e with e1 e2 e3; exact absurd e2 (by decide)), ownG_but h3.bl.2.2 hb8 E0 (by decide)⟩, cellsG_but hb8 h3.fl E0 (by intro e; cases e), cellsG_but hb8 h3.pl E0 (by intro e; cases e)⟩
  have M8 : But (fun b => b = g ∨ b = s.gb) w V8 := ⟨hb8.os.trans (l3.os.trans M12.os), hb8.tape.trans (l3.tape.trans M12.tape), hb8.output.trans (l3.output.trans M12.output), Nat.le_trans M12.size (Nat.le_trans l3.size hb8.size), fun i hi he => ((hb8.block i (Nat.lt_of_lt_of_le (Nat.lt_of_lt_of_le hi M12.size) l3.size) (fun e => by have e' : i = gx := e; omega)).trans (l3.block i (Nat.lt_of_lt_of_le hi M12.size))).trans (M12.block i hi he)⟩
  exact bodyPost_ret (v := .agg (oc c).toArray) (by simp [results, Tryz.results8, go_sem, P8]) rfl ⟨⟨c, hc, rfl⟩, M8, s2, hl2, hg2, h8⟩
theorem ownG_mono {W : World} {base base' : Nat} {e : TypeId} {size : Nat} {v : Value} {n : Nat} {xs : List Value} (h : W.ownsRow base e size v n xs) (hb : base' ≤ base) : W.ownsRow base' e size v n xs := by
 obtain ⟨h1, h2 | ⟨b, cap, cur, e', hb', r⟩⟩ := h
 ·exact ⟨h1, .inl h2⟩
 ·exact ⟨h1, .inr ⟨b, cap, cur, e', Nat.le_trans hb hb', r⟩⟩
theorem RL.monoG {t : TypeId} {base base' : Nat} {W : World} {b : Nat} {v : Value} {l : List Ru} (h : RL t base W b v l) (hb : base' ≤ base) : RL t base' W b v l := ⟨Nat.le_trans hb h.1, h.2.1, ownG_mono h.2.2 hb⟩
theorem BL.monoG {t : TypeId} {base base' : Nat} {W : World} {b : Nat} {v : Value} {l : List Ex} (h : BL t base W b v l) (hb : base' ≤ base) : BL t base' W b v l := ⟨Nat.le_trans hb h.1, h.2.1, ownG_mono h.2.2 hb⟩
theorem TB.monoG {base base' : Nat} {W : World} {b : Nat} {lim cnt trn : Int} {ls : Nat → List Rw} (h : TB base W b lim cnt trn ls) (hb : base' ≤ base) : TB base' W b lim cnt trn ls := by
 obtain ⟨vs, q1, q2, q3, q4, q5⟩ := h
 exact ⟨vs, q1, Nat.le_trans hb q2, q3, fun i hi => ownG_mono (q4 i hi) hb, q5⟩
def GnQ (w w' : World) (lo hi : Int) (e : Ending) : Prop := ∃ g s, e = .returned (.pointer (some ⟨g, 0, none⟩)) ∧ Later w w' ∧ GI w.heap.size w' g s ∧ s.ls = [] ∧ GsK w.heap.size lo hi s
set_option maxRecDepth 100000 in
set_option maxHeartbeats 4000000 in
theorem gnew_yes (lo hi : Int) (w : World) (h0 : lo ≠ 0) (h1 : lo ≤ hi) : Calls Tryz.prog 7 #[.int .u16 lo, .int .u16 hi] w fun e w' => GnQ w w' lo hi e := by
 have t0 : (lo == 0) = false := by rw [beq_eq_false_iff_ne]; exact h0
 have t1 : ¬ hi < lo := by omega
 have hmm := @run_makeMap Tryz.prog
 go_enter Tryz.func7, Tryz.ntmps7
 go_upto_region 3 with fail
 clear h0 h1 t0 t1
 go_wp2_with fail
 refine (new9_any w).mono ?_
 rintro e w1 ⟨rfl, l1, r1⟩
 have m2 := heap_alloc_new w1 (.map #[] 0)
 have l2 := later_allocG w1 (.map #[] 0)
 have r2 := r1.later l2
 have HR2 := hide r2
 have HM2 := hide m2
 clear r1 r2 m2
 go_wp2_with fail
 change Calls _ _ _ (w1.alloc (.map #[] 0)) _
 have hgf1 : w.heap.size ≤ w1.heap.size := l1.size
 have hgf2 : w1.heap.size < (w1.alloc (.map #[] 0)).heap.size := by rw [World.size_alloc]; omega
 generalize w1.alloc (.map #[] 0) = w2 at *
 generalize w1.heap.size = gf at *
 refine (new_yes 128 w2 (by decide) (by decide)).mono ?_
 rintro e w3 ⟨rfl, l3, r3⟩
 have HT3 := hide r3
 have l3' : Later w2 w3 := l3
 clear r3
 go_wp2_with fail
 refine (new12_any w3).mono ?_
 rintro e w4 ⟨rfl, l4, r4⟩
 have HB4 := hide r4
 clear r4
 have m5 := heap_alloc_new w4 (.map #[] 0)
 have l5 := later_allocG w4 (.map #[] 0)
 have HM5 := hide m5
 clear m5
 go_wp2_with fail
 have e1 : w2.heap.size ≤ w3.heap.size := l3'.size
 have e0 : w.heap.size ≤ w2.heap.size := Nat.le_trans l1.size l2.size
 have e2 : w3.heap.size ≤ w4.heap.size := l4.size
 generalize hw5 : w4.alloc (.map #[] 0) = w5 at *
 have hs5 : w5.heap.size = w4.heap.size + 1 := by rw [← hw5, World.size_alloc]
 generalize hg5 : w4.heap.size = gp at *
 have m6 := heap_alloc_new w5 (.cells #[.int .u16 lo, .int .u16 hi, .int .i64 0, .int .i64 0, .pointer (some ⟨w.heap.size, 0, none⟩), .map (some gf), .pointer (some ⟨w2.heap.size, 0, none⟩), .pointer (some ⟨w3.heap.size, 0, none⟩), .map (some gp)] 81)
 have l6 := later_allocG w5 (.cells #[.int .u16 lo, .int .u16 hi, .int .i64 0, .int .i64 0, .pointer (some ⟨w.heap.size, 0, none⟩), .map (some gf), .pointer (some ⟨w2.heap.size, 0, none⟩), .pointer (some ⟨w3.heap.size, 0, none⟩), .map (some gp)] 81)
 have k36 := l4.trans (Later.trans l5 l6)
 have k26 := l3'.trans k36
 rw [hs5] at m6
 go_ret
 refine ⟨gp + 1, ⟨lo, hi, 0, [], w.heap.size, gf, w2.heap.size, w3.heap.size, gp, .slice none 0 0, .slice none 0 0, 0, 0⟩, rfl, Later.trans l1 (Later.trans l2 k26), ?_, rfl, rfl, rfl, ⟨Int.le_refl _, by show (0 : Int) ≤ 549755813888; decide⟩, ?_⟩
 ·exact ⟨by show w.heap.size ≤ gp + 1; omega, m6, HR2.out.later k26, (HT3.out.laterD k36).monoG e0, (HB4.out.later (Later.trans l5 l6)).monoG (Nat.le_trans e0 e1), later_keep k26 HM2.out, later_keep l6 HM5.out⟩
 ·exact ⟨by show gf ≠ gp; omega, hgf1, by show w.heap.size ≤ gp; omega⟩
def RuE (W : World) (E : Nat → Prop) : Prop := ∀ b, E b → ∃ cur t f, W.heap[b]? = some (.cells cur t f) ∧ (t = 136 ∨ t = 35)
theorem RuE.keep {W W' : World} {E : Nat → Prop} (hE : RuE W E) (hb : But E W W') {b : Nat} {o : Obj} (h : W.heap[b]? = some o) (ho : ∀ cur t f, o = .cells cur t f → t ≠ 136 ∧ t ≠ 35) : W'.heap[b]? = some o :=
 (hb.block b (bl9 h) (fun e => by
  obtain ⟨cur, t, f, h1, h2⟩ := hE b e
  rw [h] at h1
  have := ho cur t f (Option.some.inj h1)
  rcases h2 with h2 | h2
  ·exact this.1 h2
  ·exact this.2 h2)).trans h
theorem RuE.own {W W' : World} {E : Nat → Prop} (hE : RuE W E) (hb : But E W W') {base : Nat} {e : TypeId} {size : Nat} {v : Value} {n : Nat} {xs : List Value} (h : W.ownsRow base e size v n xs) (h1 : e ≠ 136) (h2 : e ≠ 35) : W'.ownsRow base e size v n xs := by
 obtain ⟨q1, q2 | ⟨b, cap, cur', e', hb', hh, r⟩⟩ := h
 ·exact ⟨q1, .inl q2⟩
 ·exact ⟨q1, .inr ⟨b, cap, cur', e', hb', hE.keep hb hh (fun c t f e => by cases e; exact ⟨h1, h2⟩), r⟩⟩
theorem GI.rules {base g : Nat} {W W' : World} {s : Gs} (h : GI base W g s) {E : Nat → Prop} (hE : RuE W E) (hb : But E W W') {v : Value} {l : List Ru} (hl : RL 136 base W' s.gr v l) : GI base W' g { s with vr := v, ls := l } := by
 obtain ⟨vs, q1, q2, q3, q4, q5⟩ := h.tb
 exact ⟨h.bs, hE.keep hb h.gc (fun c t f e => by cases e; exact ⟨by decide, by decide⟩), hl, ⟨vs, q1, q2, hE.keep hb q3 (fun c t f e => by cases e; exact ⟨by decide, by decide⟩), fun i hi => hE.own hb (q4 i hi) (by decide) (by decide), q5⟩, ⟨h.bl.1, hE.keep hb h.bl.2.1 (fun c t f e => by cases e; exact ⟨by decide, by decide⟩), hE.own hb h.bl.2.2 (by decide) (by decide)⟩, hE.keep hb h.fl (fun c t f e => by cases e), hE.keep hb h.pl (fun c t f e => by cases e)⟩
theorem RL.ruE {base : Nat} {W : World} {b : Nat} {v : Value} {l : List Ru} (h : RL 136 base W b v l) : RuE W (fun g => g = b ∨ v.ownBlock = some g) := fun g hg => by
 rcases hg with rfl | hg
 ·exact ⟨_, _, _, h.2.1, .inl rfl⟩
 ·obtain ⟨_, ⟨rfl, _⟩ | ⟨g', cap, cur, rfl, _, hh, _⟩⟩ := h.2.2
  ·cases hg
  ·cases hg
   exact ⟨_, _, _, hh, .inr rfl⟩
def RuQ (base : Nat) (w w' : World) (g : Nat) (s : Gs) (l : List Ru) : Prop := Below base w w' ∧ ∃ s', s'.ls = l ∧ GI base w' g s' ∧ SmG s s'
set_option maxRecDepth 100000 in
set_option maxHeartbeats 4000000 in
theorem grule_any (base g : Nat) (s : Gs) (x : Ru) (w : World) (h : GI base w g s) (hx : wfR x) (hl : s.ls.length ≤ 32) (hbs : base ≤ w.heap.size) :
  Calls Tryz.prog 12 #[.pointer (some ⟨g, 0, none⟩), .agg (ruc x).toArray] w fun e w' => e = .returned (.int .i64 (adE s.ls x)) ∧ RuQ base w w' g s (adL s.ls x) := by
 have l0 := later_allocG w (.cells (ruc x).toArray 35)
 have C0 := hide (heap_alloc_new w (.cells (ruc x).toArray 35))
 have H1 := hide (h.later l0)
 have HAD := hide (fun W v (hr : RL 136 base W s.gr v s.ls) (hb : base ≤ W.heap.size) => add9_any base s.gr v s.ls x W hr hx hl hb)
 unfold ruc at *
 clear h hx hl
 go_enter Tryz.func12, Tryz.ntmps12
 go_upto_region 3 with fail
 generalize w.alloc _ = w1 at *
 generalize w.heap.size = gx at C0 ⊢
 refine wp_calmG ?_
 refine anyU_begin (R1 := Later) (R2 := fun _ _ => True) (D := [5]) 7 rfl (by kernel_rfl) ?_
 have ld : Later w1 w1.drew := Later.drew w1
 generalize w1.drew = Wd at *
 have H2 := hide (H1.out.later ld)
 have q0 : ∀ v, Later Wd v → ∀ j, v.cell? ⟨gx, j, none⟩ = _ := fun v hv => block_cell (later_keep (ld.trans hv) C0.out)
 have q1 : ∀ v, Later Wd v → ∀ j, v.cell? ⟨g, j, none⟩ = (gtc s).toArray[j]? := fun v hv => block_cell (later_keep hv H2.out.gc)
 unfold gtc at q1
 refine uV Later.pre 0 [1, 2, 3, 5, 6] rfl (by rfl) (by rfl) (by rfl) ⟨_, fun v h => by (go_simp; rfl), ?_⟩; simp only [Act.put, sA, sB, sC]
 refine uV Later.pre 1 [2, 3, 5, 6] rfl (by rfl) (by rfl) (by rfl) ⟨_, fun v h => by (go_simp; rfl), ?_⟩; simp only [Act.put, sA, sB, sC]
 refine uV Later.pre 2 [3, 5, 6] rfl (by rfl) (by rfl) (by rfl) ⟨_, fun v h => by (go_simp; rfl), ?_⟩; simp only [Act.put, sA, sB, sC]
 refine uV Later.pre 3 [5, 6] rfl (by rfl) (by rfl) (by rfl) ⟨_, fun v h => by (go_simp; rfl), ?_⟩; simp only [Act.put, sA, sB, sC]
 refine uV Later.pre 4 [5, 6] rfl (by rfl) (by rfl) (by rfl) ⟨_, fun v h => by (go_simp; rfl), ?_⟩; simp only [Act.put, sA, sB, sC]
 clear q0 q1
 have hbd : base ≤ Wd.heap.size := Nat.le_trans hbs (Later.trans l0 ld).size
 refine anyU_one 5 rfl (by kernel_rfl) (by rfl) ?_
 refine wp_enter 31 #[.pointer (some ⟨s.gr, 0, none⟩), .agg (ruc x).toArray] (by unfold ruc; go_simp) ?_
 refine (HAD.out Wd s.vr H2.out.rl hbd).mono ?_
 rintro e w3 ⟨rfl, v3, hr3, hb3, _⟩
 refine ⟨Rj_in (by rfl) trivial, ?_⟩
 simp only [Act.put, sA, sB, sC]
 refine anyU_one 6 rfl (by kernel_rfl) (by rfl) ?_
 refine wp_value (w' := w3) (.int .i64 (adE s.ls x)) (by go_simp) ?_
 refine ⟨Rj_out (by rfl) (Later.refl _), ?_⟩
 simp only [Act.put, sA, sB, sC]
 refine anyU_done (by kernel_rfl) ?_
 refine ⟨rfl, ?_⟩
 have h3 := H2.out.rules H2.out.rl.ruE hb3 hr3
 have B3 : Below base Wd w3 := hb3.below hbd (fun k hk e => by
  rcases e with e | e
  ·have := H2.out.rl.1; omega
  ·obtain ⟨_, ⟨e', _⟩ | ⟨g', cap, cur, e', hge, hh, _⟩⟩ := H2.out.rl.2.2
   ·rw [e'] at e; cases e
   ·rw [e'] at e
    have e2 : g' = k := by simpa [Value.ownBlock] using e
    omega)
 go_wp2_with fail
 go_ret
 exact ⟨rfl, ((Later.trans l0 ld).mono hbs).trans B3, _, rfl, h3, rfl, fun _ _ _ h => h⟩
def mqR : Ru := ⟨1, 0, 167772160, 8, 16909060, 0, 0, 0⟩
theorem mq_wf : wfR mqR := by unfold wfR mqR; simp
theorem mq_ok : adE [] mqR = 0 := by decide +kernel
theorem mq_list : adL [] mqR = [mqR] := by rw [adL_yes mq_ok]; rfl
theorem next_empty {w : World} {r bm since c0 clock : Nat} (ty : TypeId) (hr : w.heap[r]? = some (.mapIter (some bm) since #[] c0)) (hb : w.heap[bm]? = some (.map #[] clock)) (hsc : since ≤ c0) :
  (Instr.next (.pointer (some ⟨r, 0, none⟩)) false ty).run Tryz.prog w = .ok (.tuple #[.bool false]) w := by
 rcases Go.run_next_at (P := Tryz.prog) w ty r bm since c0 #[] #[] clock hr hb (fun x hx => by simp at hx) hsc with ⟨_, h⟩ | ⟨e, he, _⟩
 ·exact h
 ·simp [leftOf] at he
def encK (x : Int) : Array Value := #[.int .i64 x]
set_option maxRecDepth 100000 in
set_option maxHeartbeats 4000000 in
theorem keys1_in (n : Nat) (hn : 1 ≤ n) (l B gf cf : Nat) (W : World) (hB : W.cell? ⟨B, 0, none⟩ = some (.map (some gf))) (hm : W.heap[gf]? = some (.map #[] cf)) :
  CallsIn Fence.wide n Tryz.prog 114 #[.func (.yield l) #[] #[], .pointer (some ⟨B, 0, none⟩)] W fun e W' => (∃ v, e = .returned v) ∧ Later W W' := by
 have la := later_allocG W (.mapIter (some gf) cf #[] cf)
 have hrg := run_range_map (P := Tryz.prog) W 74 _ _ gf #[] cf Tryz.underlying74 hm
 have hnx := fun ty => next_empty ty (heap_alloc_new W (.mapIter (some gf) cf #[] cf)) (later_keep la hm) (Nat.le_refl cf)
 refine callsIn_of_wp Tryz.func114 rfl trivial ?_ rfl
 simp only [Tryz.ntmps114, List.size_toArray, List.length_cons, List.length_nil, Nat.reduceAdd, Nat.reduceSub, Array.replicate_succ, Array.replicate_zero, List.push_toArray, List.append_toArray, List.nil_append, List.cons_append]
 have HNX := hide hnx
 have LA := hide la
 clear hnx hm
 gi_wp2
 clear hrg hB
 generalize W.alloc (.mapIter (some gf) cf #[] cf) = W1 at *
 gi_loopw [3] (fun _ wx => wx = W1) (fun _ _ => 0)
 case atStart => rfl
 case round =>
  subst hrel
  have hnx := HNX.out
  gi_wp2
  go_end0
  exact ⟨⟨_, rfl⟩, LA.out⟩
theorem keys_gen (n : Nat) (hn : 1 ≤ n) (B gf cf : Nat) (w : World) (hB : w.heap[B]? = some (.cells #[.map (some gf)] 74 (0, 0))) (hm : w.heap[gf]? = some (.map #[] cf)) :
  GenX Fence.wide n Tryz.prog 114 #[.pointer (some ⟨B, 0, none⟩)] encK (Below w.heap.size) (fun _ _ _ => False) (fun xs => xs = []) (fun _ => False) w := fun l J Jx W hW hJ hY h0 => by
 refine (keys1_in n hn l B gf cf W (block_cell (later_keep hW hB) 0) (later_keep hW hm)).mono ?_
 rintro e W' ⟨hv, la⟩
 exact ⟨hv, .inl ⟨[], rfl, hJ _ _ _ h0 la⟩⟩
theorem keys_any (gf : Nat) (w : World) : Calls Tryz.prog 60 #[.map (some gf)] w fun e w' => e = .returned (.func (.func 114) #[] #[.pointer (some ⟨w.heap.size, 0, none⟩)]) ∧ w' = w.alloc (.cells #[.map (some gf)] 74) := by
 have hmf : ∀ (fn : Fn) (first cap : Array Value) (w : World), (Instr.makeFunc fn first cap).run Tryz.prog w = .ok (.func fn first cap) w := fun _ _ _ _ => rfl
 go_enter Tryz.func60, Tryz.ntmps60
 go_wp2_with fail
 go_ret
 exact ⟨rfl, rfl⟩
set_option maxRecDepth 100000 in
set_option maxHeartbeats 8000000 in
theorem appendSeq_none (B gf cf : Nat) (w : World) (hB : w.heap[B]? = some (.cells #[.map (some gf)] 74 (0, 0))) (hm : w.heap[gf]? = some (.map #[] cf)) :
  Calls Tryz.prog 157 #[.slice none 0 0, .func (.func 114) #[] #[.pointer (some ⟨B, 0, none⟩)]] w fun e w' => e = .returned (.slice none 0 0) ∧ Later w w' := by
 have l0 := later_allocG w (.cells #[.slice none 0 0] 152)
 have C0 := hide (heap_alloc_new w (.cells #[.slice none 0 0] 152))
 have HB1 := hide (later_keep l0 hB)
 have HM1 := hide (later_keep l0 hm)
 refine (callsIn_wide (n := 5)).1 ?_
 refine callsIn_of_wp_marks Tryz.func157 rfl trivial ?_ rfl
 simp only [Tryz.ntmps157, List.size_toArray, List.length_cons, List.length_nil, Nat.reduceAdd, Nat.reduceSub, Array.replicate_succ, Array.replicate_zero, List.push_toArray, List.append_toArray, List.nil_append, List.cons_append]
 gi_wp2
 generalize w.alloc (.cells #[.slice none 0 0] 152) = w1 at *
 have hs0 := l0.size
 refine wpIn_rangeX (w := w1) rfl (by omega) (gf := 114) (lb := #[.pointer (some ⟨B, 0, none⟩)]) rfl trivial (enters_of Tryz.func114 (by kernel_rfl) rfl)
  (keys_gen 4 (by omega) B gf cf w1 HB1.out HM1.out)
  (fun h k => h.trans k) (fun W l o o' hl ho hc hw => belowK_b (w := w1) (Nat.le_refl _) W l o o' hl ho hc hw) (fun hA hL => hL.mono hA) (fun _ _ _ _ h _ => h) (fun _ _ _ _ _ _ _ _ _ h => h) (fun _ => rfl)
  (fun pre W => Below w1.heap.size w1 W) (fun pre W => False)
  (ownFrom_below (Nat.le_refl _) (Nat.le_refl _))
  (fun s A B h l => h.trans (l.mono h.size))
  (fun s A B row hs hg hr => hs)
  (Below.refl _ _)
  (fun x a' W => False)
  (fun x a' W l o o' hl ho hc h => h) ?assign ?body ?done ?stop
 case assign =>
  rintro l pre x W K hsz _ hX hK
  exact hX.elim
 case body =>
  rintro l pre x a' W _ hX _
  exact hX.elim
 case done =>
  rintro D xs W hD rfl hbW hK
  have K1 := block_cell (later_keep hbW C0.out)
  gi_wp2
  refine ⟨by simp, .inl ⟨_, _, rfl, run_takeDeferred hK, ?_⟩⟩
  exact ⟨.slice none 0 0, by simp [results, Tryz.results157, go_sem], rfl, Later.trans l0 (Below.trans hbW (belowK_b (w := w1) (Nat.le_refl _) W D _ _ hD hK rfl rfl))⟩
 case stop =>
  rintro D pre W hD _ h
  exact h.elim
theorem collect_none (B gf cf : Nat) (w : World) (hB : w.heap[B]? = some (.cells #[.map (some gf)] 74 (0, 0))) (hm : w.heap[gf]? = some (.map #[] cf)) :
  Calls Tryz.prog 112 #[.func (.func 114) #[] #[.pointer (some ⟨B, 0, none⟩)]] w fun e w' => e = .returned (.slice none 0 0) ∧ Later w w' := by
 have HA := hide (appendSeq_none B gf cf w hB hm)
 go_enter Tryz.func112, Tryz.ntmps112
 go_wp2_with fail
 refine HA.out.mono ?_
 rintro e w1 ⟨rfl, l1⟩
 go_wp2_with fail
 go_ret
 exact ⟨rfl, l1⟩
theorem insertO_none (sv : Value) (w : World) : Calls Tryz.prog 203 #[sv, .int .i64 0, .int .i64 0] w fun e w' => (∃ v, e = .returned v) ∧ w' = w := by
 go_enter Tryz.func203, Tryz.ntmps203
 go_wp2_with fail
 go_loopw [6] (fun i wr => i = .int .i64 1 ∧ wr = w) (fun _ _ => 0)
 case atStart => exact ⟨rfl, rfl⟩
 case round =>
  obtain ⟨rfl, rfl⟩ := hrel
  go_wp2_with fail
  go_end0
  exact ⟨⟨_, rfl⟩, rfl⟩
set_option maxHeartbeats 2000000 in
theorem pdqO_none (sv : Value) (lm : Int) (w : World) : Calls Tryz.prog 158 #[sv, .int .i64 0, .int .i64 0, .int .i64 lm] w fun e w' => (∃ v, e = .returned v) ∧ w' = w := by
 go_enter Tryz.func158, Tryz.ntmps158
 go_wp2_with fail
 go_loopw [1, 2] (fun a b wr => a = .int .i64 0 ∧ b = .int .i64 0 ∧ wr = w) (fun _ _ _ => 0)
 case atStart => exact ⟨rfl, rfl, rfl⟩
 case round =>
  obtain ⟨rfl, rfl, rfl⟩ := hrel
  go_wp2_with fail
  refine (insertO_none sv wr).mono ?_
  rintro e w1 ⟨⟨v, rfl⟩, rfl⟩
  go_wp2_with fail
  refine bodyPost_ret (results_none rfl _ _ _) rfl ?_
  exact ⟨⟨_, rfl⟩, rfl⟩
theorem sortO_none (w : World) : Calls Tryz.prog 113 #[.slice none 0 0] w fun e w' => (∃ v, e = .returned v) ∧ w' = w := by
 go_enter Tryz.func113, Tryz.ntmps113
 go_wp2_with fail
 refine (len_few 0 w (by omega)).mono ?_
 rintro e w1 ⟨⟨v, rfl⟩, rfl⟩
 go_wp2_with fail
 refine (pdqO_none (.slice none 0 0) v w1).mono ?_
 rintro e w2 ⟨⟨v2, rfl⟩, rfl⟩
 go_wp2_with fail
 go_end0
 exact ⟨⟨_, rfl⟩, rfl⟩
theorem sorted_none (B gf cf : Nat) (w : World) (hB : w.heap[B]? = some (.cells #[.map (some gf)] 74 (0, 0))) (hm : w.heap[gf]? = some (.map #[] cf)) :
  Calls Tryz.prog 59 #[.func (.func 114) #[] #[.pointer (some ⟨B, 0, none⟩)]] w fun e w' => e = .returned (.slice none 0 0) ∧ Later w w' := by
 have HA := hide (collect_none B gf cf w hB hm)
 go_enter Tryz.func59, Tryz.ntmps59
 go_wp2_with fail
 refine HA.out.mono ?_
 rintro e w1 ⟨rfl, l1⟩
 go_wp2_with fail
 refine (sortO_none w1).mono ?_
 rintro e w2 ⟨⟨v, rfl⟩, rfl⟩
 go_wp2_with fail
 go_ret
 exact ⟨rfl, l1⟩
set_option maxRecDepth 100000 in
set_option maxHeartbeats 4000000 in
theorem byId_none (base g : Nat) (s : Gs) (w : World) (h : GI base w g s) : Calls Tryz.prog 26 #[.pointer (some ⟨g, 0, none⟩)] w fun e w' => e = .returned (.slice none 0 0) ∧ Later w w' := by
 have k0 := block_cell h.gc
 unfold gtc at k0
 have la := later_allocG w (.cells #[.map (some s.gf)] 74)
 have HS := hide (sorted_none w.heap.size s.gf s.cf _ (heap_alloc_new w (.cells #[.map (some s.gf)] 74)) (later_keep la h.fl))
 go_enter Tryz.func26, Tryz.ntmps26
 go_wp2_with fail
 refine (keys_any s.gf w).mono ?_
 rintro e w1 ⟨rfl, rfl⟩
 go_wp2_with fail
 refine HS.out.mono ?_
 rintro e w2 ⟨rfl, l2⟩
 clear k0
 go_upto_region 3 with fail
 go_loopw [3, 13] (fun ov iv wr => ov = .slice none 0 0 ∧ iv = .int .i64 0 ∧ wr = w2) (fun _ _ _ => 0)
 case atStart => exact ⟨rfl, rfl, rfl⟩
 case round =>
  obtain ⟨rfl, rfl, rfl⟩ := hrel
  go_wp2_with fail
  go_ret
  exact ⟨rfl, la.trans l2⟩
set_option maxRecDepth 100000 in
set_option maxHeartbeats 4000000 in
theorem flows_none (base g : Nat) (s : Gs) (w : World) (h : GI base w g s) : Calls Tryz.prog 9 #[.pointer (some ⟨g, 0, none⟩)] w fun e w' => e = .returned (.slice none 0 0) ∧ Later w w' := by
 have HB := hide (byId_none base g s w h)
 go_enter Tryz.func9, Tryz.ntmps9
 go_wp2_with fail
 refine HB.out.mono ?_
 rintro e w2 ⟨rfl, l2⟩
 go_upto_region 5 with fail
 go_loopw [3, 11] (fun ov iv wr => ov = .slice none 0 0 ∧ iv = .int .i64 0 ∧ wr = w2) (fun _ _ _ => 0)
 case atStart => exact ⟨rfl, rfl, rfl⟩
 case round =>
  obtain ⟨rfl, rfl, rfl⟩ := hrel
  go_wp2_with fail
  go_ret
  exact ⟨rfl, l2⟩
theorem expects_none (base g : Nat) (s : Gs) (w : World) (h : GI base w g s) : Calls Tryz.prog 10 #[.pointer (some ⟨g, 0, none⟩)] w fun e w' => (∃ a c, e = .returned (.slice a 0 c)) ∧ Later w w' := by
 have k0 := block_cell h.gc
 unfold gtc at k0
 have HB := hide (list12_any base s.gb s.ve [] w h.bl (by simp))
 go_enter Tryz.func10, Tryz.ntmps10
 go_wp2_with fail
 refine HB.out.mono ?_
 rintro e w2 ⟨l2, u, rfl, hrow⟩
 obtain ⟨ua, uc, rfl⟩ : ∃ a c, u = .slice a 0 c := by
  obtain ⟨_, ⟨rfl, _⟩ | ⟨b, cap, cur, rfl, _⟩⟩ := hrow
  ·exact ⟨_, _, rfl⟩
  ·exact ⟨_, _, rfl⟩
 go_wp2_with fail
 go_ret
 exact ⟨⟨_, _, rfl⟩, l2⟩
theorem ck_src (e : Bool) (p a : Int) (w : World) : (Instr.checkKey e 10000 187 (.agg #[.int .u8 p, .int .u32 a])).run Tryz.prog w = .ok () w := by kernel_rfl
theorem zero_pool (w : World) : (zeroValue 246).run Tryz.prog w = .ok (.pointer none) w := by kernel_rfl
theorem look_src {w : World} {b c : Nat} (hb : w.heap[b]? = some (.map #[] c)) (p a : Int) : (Instr.lookup 79 (.map (some b)) (.agg #[.int .u8 p, .int .u32 a]) false).run Tryz.prog w = .ok (.pointer none) w := by
 have hf : (Instr.findKey 187 (.agg #[.int .u8 p, .int .u32 a]) []).run Tryz.prog w = .ok none w := MapKept.run_findKey Tryz.underlying187 rfl
 simp [Instr.lookup, run_underlying Tryz.underlying79, MapKept.run_getObj_map hb, ck_src, hf, zero_pool, Result.andThen]
end Go.Proofs.YtofknbfbmaefoaaGreatDoor
namespace Go.Proofs.YtofknbfbmaefoaaGreatDoor.Pm
set_option maxRecDepth 100000
def pcn (n x : Nat) : Nat := (List.range n).countP (fun i => x.testBit i)
theorem tb (a b j : Nat) (h : b < 256) : (a * 256 + b).testBit j = if j < 8 then b.testBit j else a.testBit (j - 8) := by
 have := Nat.testBit_two_pow_mul_add a (b := b) (i := 8) (by simpa using h) j
 rw [show (2 : Nat) ^ 8 = 256 from rfl] at this
 rw [Nat.mul_comm a 256]
 exact this
def M (v : Nat) : Nat → Nat
 | 0 => 0
 | n + 1 => M v n * 256 + v
def f1 (n x : Nat) : Nat := (x / 2 &&& M 85 n) + (x &&& M 85 n)
def f2 (n x : Nat) : Nat := (x / 4 &&& M 51 n) + (x &&& M 51 n)
def f3 (n x : Nat) : Nat := (x / 16 + x) &&& M 15 n
def h1 (b : Nat) : Nat := (b / 2 &&& 85) + (b &&& 85)
def h2 (b : Nat) : Nat := (b / 4 &&& 51) + (b &&& 51)
def F (n x : Nat) : Nat := f3 n (f2 n (f1 n x))
end Go.Proofs.YtofknbfbmaefoaaGreatDoor.Pm
namespace Go.Proofs.YtofknbfbmaefoaaGreatDoor
open Go.RowKit Go.Shelf
set_option maxRecDepth 100000
set_option linter.unusedVariables false
set_option linter.unusedSimpArgs false
theorem pow_lt64 (n : Nat) : 2 ^ (n % 64) < 18446744073709551616 := by
 have : 2 ^ (n % 64) < 2 ^ 64 := Nat.pow_lt_pow_right (by omega) (Nat.mod_lt _ (by omega))
 simpa using this
theorem wrapN (x : Nat) (h : x < 18446744073709551616) : IntKind.u64.wrap (x : Int) = (x : Int) := by rw [IntKind.wrap_u64]; omega
set_option maxHeartbeats 1000000 in
theorem bit_any (n : Nat) (w : World) (hn : n < 65536) : Calls Tryz.prog 222 #[.int .u16 (n : Int)] w fun e w' => e = .returned (.int .u64 ((2 ^ (n % 64) : Nat) : Int)) ∧ w' = w := by
 have hp := wrapN (2 ^ (n % 64)) (pow_lt64 n)
 have HP := hide hp
 clear hp
 go_enter Tryz.func222, Tryz.ntmps222
 go_wp2_with fail
 go_ret
 refine ⟨?_, rfl⟩
 rw [← HP.out]
 simp
theorem s1 (x : Nat) (hx : x < 18446744073709551616) : IntKind.u64.wrap (bits BinOp.and IntKind.u64 ((x : Int) / 2) 6148914691236517205 + bits BinOp.and IntKind.u64 (x : Int) 6148914691236517205) = ((Pm.f1 8 x : Nat) : Int) ∧ Pm.f1 8 x ≤ 12297829382473034410 := by
 have e1 := bits_and_u64_nat (x / 2) 6148914691236517205 (by omega) (by omega)
 have e2 := bits_and_u64_nat x 6148914691236517205 hx (by omega)
 have h1 : x / 2 &&& 6148914691236517205 ≤ 6148914691236517205 := Nat.and_le_right
 have h2 : x &&& 6148914691236517205 ≤ 6148914691236517205 := Nat.and_le_right
 have e : Pm.f1 8 x = (x / 2 &&& 6148914691236517205) + (x &&& 6148914691236517205) := rfl
 rw [e, show (x : Int) / 2 = ((x / 2 : Nat) : Int) from by omega, show (6148914691236517205 : Int) = ((6148914691236517205 : Nat) : Int) from rfl, e1, e2, ← Int.natCast_add]
 exact ⟨wrapN _ (by omega), by omega⟩
theorem s2 (x : Nat) (hx : x < 18446744073709551616) : IntKind.u64.wrap (bits BinOp.and IntKind.u64 ((x : Int) / 4) 3689348814741910323 + bits BinOp.and IntKind.u64 (x : Int) 3689348814741910323) = ((Pm.f2 8 x : Nat) : Int) ∧ Pm.f2 8 x ≤ 7378697629483820646 := by
 have e1 := bits_and_u64_nat (x / 4) 3689348814741910323 (by omega) (by omega)
 have e2 := bits_and_u64_nat x 3689348814741910323 hx (by omega)
 have h1 : x / 4 &&& 3689348814741910323 ≤ 3689348814741910323 := Nat.and_le_right
 have h2 : x &&& 3689348814741910323 ≤ 3689348814741910323 := Nat.and_le_right
 have e : Pm.f2 8 x = (x / 4 &&& 3689348814741910323) + (x &&& 3689348814741910323) := rfl
 rw [e, show (x : Int) / 4 = ((x / 4 : Nat) : Int) from by omega, show (3689348814741910323 : Int) = ((3689348814741910323 : Nat) : Int) from rfl, e1, e2, ← Int.natCast_add]
 exact ⟨wrapN _ (by omega), by omega⟩
theorem s3 (x : Nat) (hx : x ≤ 7378697629483820646) : bits BinOp.and IntKind.u64 (IntKind.u64.wrap ((x : Int) / 16 + (x : Int))) 1085102592571150095 = ((Pm.f3 8 x : Nat) : Int) := by
 have e : Pm.f3 8 x = (x / 16 + x) &&& 1085102592571150095 := rfl
 rw [e, show (x : Int) / 16 + (x : Int) = ((x / 16 + x : Nat) : Int) from by omega, wrapN _ (by omega)]
 exact bits_and_u64_nat (x / 16 + x) 1085102592571150095 (by omega) (by omega)
theorem s4 (x d : Nat) (h : x + x / d < 18446744073709551616) : IntKind.u64.wrap ((x : Int) + (x : Int) / (d : Int)) = ((x + x / d : Nat) : Int) := by
 rw [show (x : Int) + (x : Int) / (d : Int) = ((x + x / d : Nat) : Int) from by simp]
 exact wrapN _ h
def pcl (low high : Int) (ws : Nat → Nat) : List Value := .int .u16 low :: .int .u16 high :: (List.range 1024).map (fun i => .int .u64 (ws i : Int))
def PB (base : Nat) (W : World) (b : Nat) (low high : Int) (ws : Nat → Nat) : Prop := base ≤ b ∧ (∀ i, ws i < 18446744073709551616) ∧ W.heap[b]? = some (.cells (pcl low high ws).toArray 291 (0, 0))
theorem PB.later {base : Nat} {A B : World} {b : Nat} {low high : Int} {ws : Nat → Nat} (h : PB base A b low high ws) (l : Later A B) : PB base B b low high ws := ⟨h.1, h.2.1, later_keep l h.2.2⟩
theorem PB.lt {base : Nat} {W : World} {b : Nat} {low high : Int} {ws : Nat → Nat} (h : PB base W b low high ws) : b < W.heap.size := (bl9 h.2.2)
theorem PB.word {base : Nat} {W : World} {b : Nat} {low high : Int} {ws : Nat → Nat} (h : PB base W b low high ws) (i : Nat) (hi : i < 1024) : W.cell? ⟨b, 2 + i, none⟩ = some (.int .u64 (ws i : Int)) := by
 rw [block_cell h.2.2, List.getElem?_toArray]
 unfold pcl
 rw [show 2 + i = i + 1 + 1 from by omega, List.getElem?_cons_succ, List.getElem?_cons_succ, List.getElem?_map, List.getElem?_range hi]
 rfl
theorem PB.low {base : Nat} {W : World} {b : Nat} {low high : Int} {ws : Nat → Nat} (h : PB base W b low high ws) : W.cell? ⟨b, 0, none⟩ = some (.int .u16 low) := by
 rw [block_cell h.2.2]; rfl
theorem PB.high {base : Nat} {W : World} {b : Nat} {low high : Int} {ws : Nat → Nat} (h : PB base W b low high ws) : W.cell? ⟨b, 1, none⟩ = some (.int .u16 high) := by
 rw [block_cell h.2.2]; rfl
def upd (ws : Nat → Nat) (i x : Nat) : Nat → Nat := fun j => if j = i then x else ws j
theorem pcl_set (low high : Int) (ws : Nat → Nat) (i x : Nat) (hi : i < 1024) : (pcl low high ws).toArray.setIfInBounds (2 + i) (.int .u64 (x : Int)) = (pcl low high (upd ws i x)).toArray := by
 rw [List.setIfInBounds_toArray]
 congr 1
 unfold pcl
 rw [show 2 + i = i + 1 + 1 from by omega, List.set_cons_succ, List.set_cons_succ]
 congr 2
 apply List.ext_getElem?
 intro j
 rw [List.getElem?_set, List.getElem?_map, List.getElem?_map]
 unfold upd
 by_cases hj : i = j
 ·subst hj
  rw [if_pos rfl, List.getElem?_range hi]
  simp [hi]
 ·rw [if_neg hj]
  by_cases hl : j < 1024
  ·rw [List.getElem?_range hl]
   simp [Ne.symm hj]
  ·rw [List.getElem?_eq_none (by simp; omega)]
   rfl
def fr (ws : Nat → Nat) (n : Nat) : Bool := (ws (n / 64)).testBit (n % 64)
theorem and_pow (x i : Nat) : (x &&& 2 ^ i ≠ 0) ↔ x.testBit i = true := by
 constructor
 ·intro h
  cases hb : x.testBit i with
  | true => rfl
  | false =>
   refine absurd (Nat.eq_of_testBit_eq fun j => ?_) h
   rw [Nat.testBit_and, Nat.testBit_two_pow, Nat.zero_testBit]
   by_cases hj : i = j
   ·subst hj
    rw [hb]
    rfl
   ·simp [hj]
 ·intro h e
  have := congrArg (fun y => Nat.testBit y i) e
  simp [Nat.testBit_and, Nat.testBit_two_pow, h] at this
theorem wrap16 (n : Nat) (hn : n < 65536) : IntKind.u16.wrap ((n : Int) / 64) = ((n / 64 : Nat) : Int) := by
 have : IntKind.u16.wrap ((n : Int) / 64) = ((n : Int) / 64) % 65536 := by simp [IntKind.wrap, IntKind.signed, IntKind.bits]
 rw [this]
 omega
set_option maxHeartbeats 2000000 in
theorem has_any (base b : Nat) (low high : Int) (ws : Nat → Nat) (n : Nat) (w : World) (hT : PB base w b low high ws) (hn : n < 65536) :
  Calls Tryz.prog 221 #[.pointer (some ⟨b, 2, none⟩), .int .u16 (n : Int)] w fun e w' => e = .returned (.bool (fr ws n)) ∧ Later w w' := by
 have HW := hide (wrap16 n hn)
 have hq2 : n / 64 < 1024 := by omega
 have hq3 : ((n / 64 : Nat) : Int) < 1024 := by omega
 have hlt := pow_lt64 n
 have hwl := hT.2.1 (n / 64)
 have HAN := hide (bits_and_u64_nat (ws (n / 64)) (2 ^ (n % 64)) hwl hlt)
 have HFR : Hid (fr ws n = decide (¬ ((ws (n / 64) &&& 2 ^ (n % 64) : Nat) : Int) = 0)) := by
  show _ = _
  rw [Bool.eq_iff_iff, decide_eq_true_iff]
  unfold fr
  rw [← and_pow]
  omega
 have HB := hide (fun W => bit_any n W hn)
 have HQ := hide (fun v1 (h : Later w v1) => (hT.later h).word (n / 64) hq2)
 clear hlt hwl hq2
 generalize n / 64 = i at *
 generalize 2 ^ (n % 64) = c at *
 have hi0 : (0 : Int) ≤ (i : Int) := by omega
 have hi1 : (i : Int) < 1024 := by omega
 clear hq3
 go_enter Tryz.func221, Tryz.ntmps221
 go_upto_region 1 with fail
 refine anyR_begin (R := Later) Later.pre Later.drew 12 rfl (by kernel_rfl) (fun V1 hV1 => ?_)
 have q1 : ∀ v1, Later V1 v1 → v1.cell? ⟨b, 2 + i, none⟩ = some (.int .u64 (ws i : Int)) := fun v1 h => HQ.out v1 (hV1.trans h)
 refine rV Later.pre 0 rfl rfl ⟨_, fun v h => by (go_simp; rfl), ?_⟩; simp only [Act.put, sA, sB, sC]
 refine rV Later.pre 1 rfl rfl ⟨_, fun v h => by (go_simp; rfl), ?_⟩; simp only [Act.put, sA, sB, sC]
 refine rV Later.pre 2 rfl rfl ⟨_, fun v h => by (go_simp; rfl), ?_⟩; simp only [Act.put, sA, sB, sC]
 rw [HW.out]
 refine rV Later.pre 3 rfl rfl ⟨_, fun v h => by (go_simp; rfl), ?_⟩; simp only [Act.put, sA, sB, sC]
 refine rV Later.pre 4 rfl rfl ⟨_, fun v h => by (go_simp; rfl), ?_⟩; simp only [Act.put, sA, sB, sC]
 refine rV Later.pre 5 rfl rfl ⟨_, fun v h => by (go_simp; rfl), ?_⟩; simp only [Act.put, sA, sB, sC]
 refine rV Later.pre 6 rfl rfl ⟨_, fun v h => by (go_simp; rfl), ?_⟩; simp only [Act.put, sA, sB, sC]
 refine rV Later.pre 7 rfl rfl ⟨_, fun v h => by (go_simp; rfl), ?_⟩; simp only [Act.put, sA, sB, sC]
 clear q1
 refine anyR_take Later.pre 8 (.int .u64 (c : Int)) rfl (by kernel_rfl) (by kernel_rfl) (by kernel_rfl) (fun _ _ _ h => h) rfl (fun w1 hw1 => goes_call 222 #[.int .u16 (n : Int)] (by go_simp) ((HB.out w1).mono fun e w2 h => ⟨h.1, by rw [h.2]; exact Later.refl _⟩)) ?_
 simp only [Act.put, sA, sB, sC]
 refine rV Later.pre 9 rfl rfl ⟨_, fun v h => by (go_simp; rfl), ?_⟩; simp only [Act.put, sA, sB, sC]
 rw [HAN.out]
 generalize ws i &&& c = z at *
 refine rV Later.pre 10 rfl rfl ⟨_, fun v h => by (go_simp; rfl), ?_⟩; simp only [Act.put, sA, sB, sC]
 refine rV Later.pre 11 rfl rfl ⟨_, fun v h => by (go_simp; rfl), ?_⟩; simp only [Act.put, sA, sB, sC]
 refine anyR_done (by kernel_rfl) (fun V2 hV2 => ?_)
 have L2 := hV1.trans hV2
 go_wp2_with fail
 go_ret
 refine ⟨?_, L2⟩
 rw [HFR.out]
 by_cases hz : z = 0 <;> simp [hz]
theorem add_lt {x c : Nat} (hx : x < 18446744073709551616) (hc : c < 18446744073709551616) : x ||| c < 18446744073709551616 := by
 have := Nat.or_lt_two_pow (n := 64) (x := x) (y := c) (by omega) (by omega)
 simpa using this
theorem remove_lt {x c : Nat} (hx : x < 18446744073709551616) (hc : c < 18446744073709551616) : x &&& (18446744073709551615 - c) < 18446744073709551616 := Nat.lt_of_le_of_lt Nat.and_le_left hx
set_option maxHeartbeats 2000000 in
theorem add_any (base b : Nat) (low high : Int) (ws : Nat → Nat) (n : Nat) (w : World) (hT : PB base w b low high ws) (hn : n < 65536) :
  Calls Tryz.prog 182 #[.pointer (some ⟨b, 2, none⟩), .int .u16 (n : Int)] w fun e w' => (∃ v, e = .returned v) ∧ PB base w' b low high (upd ws (n / 64) (ws (n / 64) ||| 2 ^ (n % 64))) ∧ But (fun g => g = b) w w' := by
 have HW := hide (wrap16 n hn)
 have hq2 : n / 64 < 1024 := by omega
 have hq3 : ((n / 64 : Nat) : Int) < 1024 := by omega
 have hlt := pow_lt64 n
 have hwl := hT.2.1 (n / 64)
 have HAN := hide (bits_or_u64_nat (ws (n / 64)) (2 ^ (n % 64)) hwl hlt)
 have HLT : Hid (ws (n / 64) ||| 2 ^ (n % 64) < 18446744073709551616) := add_lt hwl hlt
 have HB := hide (fun W => bit_any n W hn)
 have HQ := hide (fun v1 (h : PB base v1 b low high ws) => h.word (n / 64) hq2)
 have HST := hide (fun x : Nat => pcl_set low high ws (n / 64) x hq2)
 clear hlt hwl hq2
 generalize n / 64 = i at *
 generalize 2 ^ (n % 64) = c at *
 have hi0 : (0 : Int) ≤ (i : Int) := by omega
 have hi1 : (i : Int) < 1024 := by omega
 clear hq3
 go_enter Tryz.func182, Tryz.ntmps182
 refine anyU_begin (R1 := Later) (R2 := But (fun g => g = b)) (D := [13]) 14 rfl (by kernel_rfl) ?_
 have ld : Later w w.drew := Later.drew w
 have hTd := hT.later ld
 generalize w.drew = Wd at *
 have q1 : ∀ v1, Later Wd v1 → v1.cell? ⟨b, 2 + i, none⟩ = some (.int .u64 (ws i : Int)) := fun v1 h => HQ.out v1 (hTd.later h)
 refine uP Later.refl (But.refl _) 0 rfl (by rfl) ⟨_, fun v => by (go_simp; rfl), ?_⟩; simp only [Act.put, sA, sB, sC]
 refine uP Later.refl (But.refl _) 1 rfl (by rfl) ⟨_, fun v => by (go_simp; rfl), ?_⟩; simp only [Act.put, sA, sB, sC]
 refine uP Later.refl (But.refl _) 2 rfl (by rfl) ⟨_, fun v => by (go_simp; rfl), ?_⟩; simp only [Act.put, sA, sB, sC]
 rw [HW.out]
 refine uP Later.refl (But.refl _) 3 rfl (by rfl) ⟨_, fun v => by (go_simp; rfl), ?_⟩; simp only [Act.put, sA, sB, sC]
 refine uP Later.refl (But.refl _) 4 rfl (by rfl) ⟨_, fun v => by (go_simp; rfl), ?_⟩; simp only [Act.put, sA, sB, sC]
 refine uP Later.refl (But.refl _) 5 rfl (by rfl) ⟨_, fun v => by (go_simp; rfl), ?_⟩; simp only [Act.put, sA, sB, sC]
 refine anyU_val Later.pre 6 [9, 13] rfl (by rfl) (by rfl) (by kernel_rfl) (by kernel_rfl) (by kernel_rfl) (by kernel_rfl) (by kernel_rfl) (fun _ _ _ _ h => h) (by rfl) ⟨_, fun v h => by (go_simp; rfl), ?_⟩; simp only [Act.put, sA, sB, sC]
 refine uP Later.refl (But.refl _) 7 rfl (by rfl) ⟨_, fun v => by (go_simp; rfl), ?_⟩; simp only [Act.put, sA, sB, sC]
 refine uP Later.refl (But.refl _) 10 rfl (by rfl) ⟨_, fun v => by (go_simp; rfl), ?_⟩; simp only [Act.put, sA, sB, sC]
 refine uP Later.refl (But.refl _) 11 rfl (by rfl) ⟨_, fun v => by (go_simp; rfl), ?_⟩; simp only [Act.put, sA, sB, sC]
 clear q1
 refine anyU_one 8 rfl (by kernel_rfl) (by rfl) ?_
 refine wp_enter 222 #[.int .u16 (n : Int)] (by go_simp) ?_
 refine (HB.out Wd).mono ?_
 rintro e W1 ⟨rfl, rfl⟩
 refine ⟨Rj_out (by rfl) (Later.refl _), ?_⟩
 simp only [Act.put, sA, sB, sC]
 refine uP Later.refl (But.refl _) 9 rfl (by rfl) ⟨_, fun v => by (go_simp; rfl), ?_⟩; simp only [Act.put, sA, sB, sC]
 rw [HAN.out]
 refine uP Later.refl (But.refl _) 12 rfl (by rfl) ⟨_, fun v => by (go_simp; rfl), ?_⟩; simp only [Act.put, sA, sB, sC]
 have hfin : PB base (W1.setCell ⟨b, 2 + i, none⟩ (.int .u64 ((ws i ||| c : Nat) : Int))) b low high (upd ws i (ws i ||| c)) := by
  refine ⟨hTd.1, fun j => ?_, ?_⟩
  ·unfold upd
   split
   ·exact HLT.out
   ·exact hTd.2.1 j
  ·rw [← HST.out]
   exact heap_set1 hTd.2.2 (2 + i) _
 have hbS : But (fun g => g = b) W1 (W1.setCell ⟨b, 2 + i, none⟩ (.int .u64 ((ws i ||| c : Nat) : Int))) := (But.refl (fun g => g = b) _).setCell (p := ⟨b, 2 + i, none⟩) rfl _
 have F1 := block_frozen hTd.2.2
 have k1 := HQ.out W1 hTd
 have HF := hide hfin
 have HBS := hide hbS
 clear hfin hbS
 generalize hzz : ws i ||| c = z at *
 refine anyU_one 13 rfl (by kernel_rfl) (by rfl) ?_
 unfold Oper.wp
 go_simp
 refine ⟨Rj_in (by rfl) HBS.out, ?_⟩
 refine anyU_done (by kernel_rfl) ?_
 generalize hV : World.setCell _ _ _ = V at *
 go_end0
 exact ⟨⟨_, rfl⟩, HF.out, (But.of ld).trans HBS.out⟩
set_option maxHeartbeats 2000000 in
theorem remove_any (base b : Nat) (low high : Int) (ws : Nat → Nat) (n : Nat) (w : World) (hT : PB base w b low high ws) (hn : n < 65536) :
  Calls Tryz.prog 278 #[.pointer (some ⟨b, 2, none⟩), .int .u16 (n : Int)] w fun e w' => (∃ v, e = .returned v) ∧ PB base w' b low high (upd ws (n / 64) (ws (n / 64) &&& (18446744073709551615 - 2 ^ (n % 64)))) ∧ But (fun g => g = b) w w' := by
 have HW := hide (wrap16 n hn)
 have hq2 : n / 64 < 1024 := by omega
 have hq3 : ((n / 64 : Nat) : Int) < 1024 := by omega
 have hlt := pow_lt64 n
 have hwl := hT.2.1 (n / 64)
 have HAN := hide (u64_andNot_nat (ws (n / 64)) (2 ^ (n % 64)) hwl hlt)
 have HLT : Hid (ws (n / 64) &&& (18446744073709551615 - 2 ^ (n % 64)) < 18446744073709551616) := remove_lt hwl hlt
 have HB := hide (fun W => bit_any n W hn)
 have HQ := hide (fun v1 (h : PB base v1 b low high ws) => h.word (n / 64) hq2)
 have HST := hide (fun x : Nat => pcl_set low high ws (n / 64) x hq2)
 clear hlt hwl hq2
 generalize n / 64 = i at *
 generalize 2 ^ (n % 64) = c at *
 have hi0 : (0 : Int) ≤ (i : Int) := by omega
 have hi1 : (i : Int) < 1024 := by omega
 clear hq3
 go_enter Tryz.func278, Tryz.ntmps278
 refine anyU_begin (R1 := Later) (R2 := But (fun g => g = b)) (D := [13]) 14 rfl (by kernel_rfl) ?_
 have ld : Later w w.drew := Later.drew w
 have hTd := hT.later ld
 generalize w.drew = Wd at *
 have q1 : ∀ v1, Later Wd v1 → v1.cell? ⟨b, 2 + i, none⟩ = some (.int .u64 (ws i : Int)) := fun v1 h => HQ.out v1 (hTd.later h)
 refine uP Later.refl (But.refl _) 0 rfl (by rfl) ⟨_, fun v => by (go_simp; rfl), ?_⟩; simp only [Act.put, sA, sB, sC]
 refine uP Later.refl (But.refl _) 1 rfl (by rfl) ⟨_, fun v => by (go_simp; rfl), ?_⟩; simp only [Act.put, sA, sB, sC]
 refine uP Later.refl (But.refl _) 2 rfl (by rfl) ⟨_, fun v => by (go_simp; rfl), ?_⟩; simp only [Act.put, sA, sB, sC]
 rw [HW.out]
 refine uP Later.refl (But.refl _) 3 rfl (by rfl) ⟨_, fun v => by (go_simp; rfl), ?_⟩; simp only [Act.put, sA, sB, sC]
 refine uP Later.refl (But.refl _) 4 rfl (by rfl) ⟨_, fun v => by (go_simp; rfl), ?_⟩; simp only [Act.put, sA, sB, sC]
 refine uP Later.refl (But.refl _) 5 rfl (by rfl) ⟨_, fun v => by (go_simp; rfl), ?_⟩; simp only [Act.put, sA, sB, sC]
 refine anyU_val Later.pre 6 [9, 13] rfl (by rfl) (by rfl) (by kernel_rfl) (by kernel_rfl) (by kernel_rfl) (by kernel_rfl) (by kernel_rfl) (fun _ _ _ _ h => h) (by rfl) ⟨_, fun v h => by (go_simp; rfl), ?_⟩; simp only [Act.put, sA, sB, sC]
 refine uP Later.refl (But.refl _) 7 rfl (by rfl) ⟨_, fun v => by (go_simp; rfl), ?_⟩; simp only [Act.put, sA, sB, sC]
 refine uP Later.refl (But.refl _) 10 rfl (by rfl) ⟨_, fun v => by (go_simp; rfl), ?_⟩; simp only [Act.put, sA, sB, sC]
 refine uP Later.refl (But.refl _) 11 rfl (by rfl) ⟨_, fun v => by (go_simp; rfl), ?_⟩; simp only [Act.put, sA, sB, sC]
 clear q1
 refine anyU_one 8 rfl (by kernel_rfl) (by rfl) ?_
 refine wp_enter 222 #[.int .u16 (n : Int)] (by go_simp) ?_
 refine (HB.out Wd).mono ?_
 rintro e W1 ⟨rfl, rfl⟩
 refine ⟨Rj_out (by rfl) (Later.refl _), ?_⟩
 simp only [Act.put, sA, sB, sC]
 refine uP Later.refl (But.refl _) 9 rfl (by rfl) ⟨_, fun v => by (go_simp; rfl), ?_⟩; simp only [Act.put, sA, sB, sC]
 rw [HAN.out]
 refine uP Later.refl (But.refl _) 12 rfl (by rfl) ⟨_, fun v => by (go_simp; rfl), ?_⟩; simp only [Act.put, sA, sB, sC]
 have hfin : PB base (W1.setCell ⟨b, 2 + i, none⟩ (.int .u64 ((ws i &&& (18446744073709551615 - c) : Nat) : Int))) b low high (upd ws i (ws i &&& (18446744073709551615 - c))) := by
  refine ⟨hTd.1, fun j => ?_, ?_⟩
  ·unfold upd
   split
   ·exact HLT.out
   ·exact hTd.2.1 j
  ·rw [← HST.out]
   exact heap_set1 hTd.2.2 (2 + i) _
 have hbS : But (fun g => g = b) W1 (W1.setCell ⟨b, 2 + i, none⟩ (.int .u64 ((ws i &&& (18446744073709551615 - c) : Nat) : Int))) := (But.refl (fun g => g = b) _).setCell (p := ⟨b, 2 + i, none⟩) rfl _
 have F1 := block_frozen hTd.2.2
 have k1 := HQ.out W1 hTd
 have HF := hide hfin
 have HBS := hide hbS
 clear hfin hbS
 generalize hzz : ws i &&& (18446744073709551615 - c) = z at *
 refine anyU_one 13 rfl (by kernel_rfl) (by rfl) ?_
 unfold Oper.wp
 go_simp
 refine ⟨Rj_in (by rfl) HBS.out, ?_⟩
 refine anyU_done (by kernel_rfl) ?_
 generalize hV : World.setCell _ _ _ = V at *
 go_end0
 exact ⟨⟨_, rfl⟩, HF.out, (But.of ld).trans HBS.out⟩
theorem div_mod_eq {m n : Nat} (h1 : m / 64 = n / 64) (h2 : m % 64 = n % 64) : m = n := by omega
theorem fr_add (ws : Nat → Nat) (n m : Nat) : fr (upd ws (n / 64) (ws (n / 64) ||| 2 ^ (n % 64))) m = (fr ws m || decide (m = n)) := by
 unfold fr upd
 by_cases h : m / 64 = n / 64
 ·rw [if_pos h, Nat.testBit_or, Nat.testBit_two_pow, h]
  congr 1
  rw [decide_eq_decide]
  constructor
  ·intro e; exact div_mod_eq h e.symm
  ·intro e; rw [e]
 ·rw [if_neg h]
  have : ¬ m = n := fun e => h (by rw [e])
  simp [this]
end Go.Proofs.YtofknbfbmaefoaaGreatDoor
