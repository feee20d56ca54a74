/- Several texts in one. -/
import Derived.Test.YtajcfhcdincngaaGreatDoorX2
/- Package gate: a packet of Udp that belongs to a flow. -/
namespace Go.Proofs.YtajcfhcdincngaaGreatDoor
open Go.RowKit Go.Shelf
set_option maxRecDepth 100000
set_option linter.unusedVariables false
set_option linter.unusedSimpArgs false

theorem KG.pre (base : Nat) : Pre (KG base) := ⟨fun a => KG.refl base a, fun a b c h k => h.trans k⟩
/-- On which side a packet of a flow that began inside comes. -/
def Comes (side : Int) (bk : Bool) : Prop := (side = 1 ∧ bk = true) ∨ (side = 0 ∧ bk = false)

set_option maxRecDepth 100000 in
set_option maxHeartbeats 4000000 in
theorem comes_yes (g : Nat) (tos id ttl src dst : Int) (keep : Bool) (so sd : Value) (side : Int) (bk : Bool) (f : Fl) (w : World) (hF : w.heap[f.blk]? = some (.cells (flc f).toArray 122 (0, 0))) (hs : f.side = 0) (hb : Comes side bk) :
  Calls Tryz.prog 127 #[.agg #[.pointer (some ⟨g, 0, none⟩), .int .u8 tos, .int .u16 id, .bool keep, .int .u8 ttl, .int .u8 17, .int .u32 src, .int .u32 dst, so, sd, .int .i64 side], .pointer (some ⟨f.blk, 0, none⟩), .bool bk] w fun e w' => e = .returned (.bool true) ∧ Later w w' := by
 have l0 := later_allocG w (.cells #[.pointer (some ⟨g, 0, none⟩), .int .u8 tos, .int .u16 id, .bool keep, .int .u8 ttl, .int .u8 17, .int .u32 src, .int .u32 dst, so, sd, .int .i64 side] 146)
 have C0 := hide (heap_alloc_new w (.cells #[.pointer (some ⟨g, 0, none⟩), .int .u8 tos, .int .u16 id, .bool keep, .int .u8 ttl, .int .u8 17, .int .u32 src, .int .u32 dst, so, sd, .int .i64 side] 146))
 have HF := hide (later_keep l0 hF)
 have HS := hide hs
 clear hF hs
 rcases hb with ⟨rfl, rfl⟩ | ⟨rfl, rfl⟩
 all_goals
  go_enter Tryz.func127, Tryz.ntmps127
  go_upto_region 1 with fail
  generalize w.alloc _ = w1 at *
  generalize w.heap.size = gx at *
  refine anyR_begin (R := Later) Later.pre Later.drew 11 rfl (by kernel_rfl) (fun V0 hV0 => ?_)
  have q0 : ∀ v, Later V0 v → ∀ j, v.cell? ⟨gx, j, none⟩ = _ := fun v hv => block_cell (later_keep (hV0.trans hv) C0.out)
  have q1 : ∀ v, Later V0 v → ∀ j, v.cell? ⟨f.blk, j, none⟩ = (flc f).toArray[j]? := fun v hv => block_cell (later_keep (hV0.trans hv) HF.out)
  unfold flc at q1
  rw [HS.out] at q1
  refine rV Later.pre 0 rfl rfl ?_; apply Exists.intro; refine ⟨fun v1 hv1 => ?_, ?_⟩; (· (go_simp; rfl)); simp only [Act.put, sA, sB, sC]
  refine rV Later.pre 1 rfl rfl ?_; apply Exists.intro; refine ⟨fun v1 hv1 => ?_, ?_⟩; (· (go_simp; rfl)); simp only [Act.put, sA, sB, sC]
  refine rV Later.pre 2 rfl rfl ?_; apply Exists.intro; refine ⟨fun v1 hv1 => ?_, ?_⟩; (· (go_simp; rfl)); simp only [Act.put, sA, sB, sC]
  refine rV Later.pre 3 rfl rfl ?_; apply Exists.intro; refine ⟨fun v1 hv1 => ?_, ?_⟩; (· (go_simp; rfl)); simp only [Act.put, sA, sB, sC]
  refine rV Later.pre 4 rfl rfl ?_; apply Exists.intro; refine ⟨fun v1 hv1 => ?_, ?_⟩; (· (go_simp; rfl)); simp only [Act.put, sA, sB, sC]
  refine rV Later.pre 5 rfl rfl ?_; apply Exists.intro; refine ⟨fun v1 hv1 => ?_, ?_⟩; (· (go_simp; rfl)); simp only [Act.put, sA, sB, sC]
  refine rV Later.pre 6 rfl rfl ?_; apply Exists.intro; refine ⟨fun v1 hv1 => ?_, ?_⟩; (· (go_simp; rfl)); simp only [Act.put, sA, sB, sC]
  refine rV Later.pre 7 rfl rfl ?_; apply Exists.intro; refine ⟨fun v1 hv1 => ?_, ?_⟩; (· (go_simp; rfl)); simp only [Act.put, sA, sB, sC]
  refine rV Later.pre 8 rfl rfl ?_; apply Exists.intro; refine ⟨fun v1 hv1 => ?_, ?_⟩; (· (go_simp; rfl)); simp only [Act.put, sA, sB, sC]
  refine rV Later.pre 9 rfl rfl ?_; apply Exists.intro; refine ⟨fun v1 hv1 => ?_, ?_⟩; (· (go_simp; rfl)); simp only [Act.put, sA, sB, sC]
  refine rV Later.pre 10 rfl rfl ?_; apply Exists.intro; refine ⟨fun v1 hv1 => ?_, ?_⟩; (· (go_simp; rfl)); simp only [Act.put, sA, sB, sC]
  refine anyR_done (by kernel_rfl) (fun V9 hV9 => ?_)
  go_wp2_with fail
  go_ret
  exact ⟨rfl, l0.trans (hV0.trans hV9)⟩

set_option maxRecDepth 100000 in
set_option maxHeartbeats 4000000 in
theorem next_udp (g : Nat) (tos id ttl src dst : Int) (keep : Bool) (so sd : Value) (side : Int) (bk : Bool) (f : Fl) (w : World) (hF : w.heap[f.blk]? = some (.cells (flc f).toArray 122 (0, 0))) :
  Calls Tryz.prog 131 #[.agg #[.pointer (some ⟨g, 0, none⟩), .int .u8 tos, .int .u16 id, .bool keep, .int .u8 ttl, .int .u8 17, .int .u32 src, .int .u32 dst, so, sd, .int .i64 side], .pointer (some ⟨f.blk, 0, none⟩), .bool bk] w fun e w' => e = .returned (.int .i64 (ot f.st bk)) ∧ Later w w' := by
 have l0 := later_allocG w (.cells #[.pointer (some ⟨g, 0, none⟩), .int .u8 tos, .int .u16 id, .bool keep, .int .u8 ttl, .int .u8 17, .int .u32 src, .int .u32 dst, so, sd, .int .i64 side] 146)
 have C0 := hide (heap_alloc_new w (.cells #[.pointer (some ⟨g, 0, none⟩), .int .u8 tos, .int .u16 id, .bool keep, .int .u8 ttl, .int .u8 17, .int .u32 src, .int .u32 dst, so, sd, .int .i64 side] 146))
 have HF := hide (later_keep l0 hF)
 clear hF
 go_enter Tryz.func131, Tryz.ntmps131
 go_upto_region 1 with fail
 generalize w.alloc _ = w1 at *
 generalize w.heap.size = gx at *
 have k0 := block_cell C0.out
 have k1 := block_cell HF.out
 unfold flc at k1
 go_wp2_with fail
 refine (other_any f.st bk w1).mono ?_
 rintro e w2 ⟨rfl, rfl⟩
 go_wp2_with fail
 go_ret
 exact ⟨rfl, l0⟩

set_option maxRecDepth 100000 in
set_option maxHeartbeats 4000000 in
theorem owner_back (base g : Nat) (s : Gf) (f : Fl) (bk : Bool) (tos id ttl src dst : Int) (keep : Bool) (so sd : Value) (side : Int) (p x d a b : Int) (k : Nat) (r : Rw) (w : World) (h : GF base w g s) (hf : f ∈ s.fs) (hu : IdU s) (huq : ∀ x ∈ s.fs, x.blk = f.blk → x = f) (hk : kx p x d a b s.rw = some k) (hr : (s.rw (bki p x d a b))[k]? = some r) (hid : r.id = f.id) (hs : 0 ≤ x ∧ x ≤ 4294967295) (hd : 0 ≤ d ∧ d ≤ 4294967295) (ha : 0 ≤ a ∧ a ≤ 65535) (hb : 0 ≤ b ∧ b ≤ 65535)
  (hbk : bk = true ↔ ¬ (p = f.o.pr ∧ x = f.o.src ∧ d = f.o.dst ∧ kyp p a = kyp f.o.pr f.o.sp ∧ b = f.o.dp)) (hsd : f.side = 0) (hcm : Comes side bk) (hbs : base ≤ w.heap.size) (hBo : TuB f.o) (hBr : TuB f.r) (htr : 0 ≤ s.trn ∧ s.trn ≤ 999999) (hnw : 0 ≤ s.now ∧ s.now ≤ 549755813888) :
  Calls Tryz.prog 98 #[.agg #[.pointer (some ⟨g, 0, none⟩), .int .u8 tos, .int .u16 id, .bool keep, .int .u8 ttl, .int .u8 17, .int .u32 src, .int .u32 dst, so, sd, .int .i64 side], .agg #[.int .u8 p, .int .u32 x, .int .u32 d, .int .u16 a, .int .u16 b]] w fun e w' => e = .returned (.tuple #[.pointer (some ⟨f.blk, 0, none⟩), .bool bk]) ∧ KG base w w' ∧ GF base w' g (bcS s f (ot f.st bk)) := by
 obtain ⟨l0, c0, c1⟩ := alloc2 w (.cells #[.pointer (some ⟨g, 0, none⟩), .int .u8 tos, .int .u16 id, .bool keep, .int .u8 ttl, .int .u8 17, .int .u32 src, .int .u32 dst, so, sd, .int .i64 side] 146) (.cells #[.int .u8 p, .int .u32 x, .int .u32 d, .int .u16 a, .int .u16 b] 47)
 have C0 := hide c0
 have C1 := hide c1
 have HL := hide (lookUpF_yes base g s f bk p x d a b k r _ (h.later l0) hf hu hk hr hid hs hd ha hb hbk)
 have HB := hide (fun W (l : Later w W) => become_any base g s f (ot f.st bk) W (h.later l) hf huq (Nat.le_trans hbs l.size) hBo hBr htr hnw)
 have HF := hide (fun W (l : Later w W) => later_keep l (h.fb f hf).2)
 have HSD := hide hsd
 have HCM := hide hcm
 clear c0 c1 h hf hu huq hk hr hid hs hd ha hb hbk hsd hcm hBo hBr htr hnw
 go_enter Tryz.func98, Tryz.ntmps98
 go_upto_region 1 with fail
 generalize (w.alloc (.cells #[.pointer (some ⟨g, 0, none⟩), .int .u8 tos, .int .u16 id, .bool keep, .int .u8 ttl, .int .u8 17, .int .u32 src, .int .u32 dst, so, sd, .int .i64 side] 146)).alloc (.cells #[.int .u8 p, .int .u32 x, .int .u32 d, .int .u16 a, .int .u16 b] 47) = w1 at *
 generalize hgx : w.heap.size = gx at C0 C1 ⊢
 have k0 := block_cell C0.out
 have k1 := block_cell C1.out
 go_wp2_with fail
 refine HL.out.mono ?_
 rintro e w2 ⟨rfl, l2⟩
 clear k0 k1 HL
 have L2 : Later w w2 := l0.trans l2
 have k0 := block_cell (later_keep l2 C0.out)
 go_wp2_with fail
 refine (comes_yes g tos id ttl src dst keep so sd side bk f w2 (HF.out w2 L2) HSD.out HCM.out).mono ?_
 rintro e w3 ⟨rfl, l3⟩
 clear k0
 have L3 : Later w w3 := L2.trans l3
 go_wp2_with fail
 refine (grefuse_no 3 _).mono ?_
 rintro e w4 ⟨rfl, hw4⟩
 subst hw4
 go_upto_region 5 with fail
 refine anyT_begin (R := KG base) 8 rfl (by kernel_rfl) ?_
 have ld : Later w3 w3.drew := Later.drew w3
 generalize w3.drew = wd at *
 have D0 := hide (later_keep (l2.trans (l3.trans ld)) C0.out)
 have q0 : ∀ v, KG base wd v → ∀ j, v.cell? ⟨gx, j, none⟩ = _ := fun v hv => block_cell (hv.cells D0.out (by decide))
 refine tV (KG.pre base) 0 rfl rfl ?_; apply Exists.intro; refine ⟨fun v1 hv1 => ?_, ?_⟩; (· (go_simp; rfl)); simp only [Act.put, sA, sB, sC]
 refine tV (KG.pre base) 1 rfl rfl ?_; apply Exists.intro; refine ⟨fun v1 hv1 => ?_, ?_⟩; (· (go_simp; rfl)); simp only [Act.put, sA, sB, sC]
 refine tV (KG.pre base) 2 rfl rfl ?_; apply Exists.intro; refine ⟨fun v1 hv1 => ?_, ?_⟩; (· (go_simp; rfl)); simp only [Act.put, sA, sB, sC]
 refine tV (KG.pre base) 3 rfl rfl ?_; apply Exists.intro; refine ⟨fun v1 hv1 => ?_, ?_⟩; (· (go_simp; rfl)); simp only [Act.put, sA, sB, sC]
 refine tV (KG.pre base) 4 rfl rfl ?_; apply Exists.intro; refine ⟨fun v1 hv1 => ?_, ?_⟩; (· (go_simp; rfl)); simp only [Act.put, sA, sB, sC]
 refine tV (KG.pre base) 5 rfl rfl ?_; apply Exists.intro; refine ⟨fun v1 hv1 => ?_, ?_⟩; (· (go_simp; rfl)); simp only [Act.put, sA, sB, sC]
 clear q0
 refine anyT_one 6 rfl (by kernel_rfl) rfl ?_
 refine wp_enter 131 #[.agg #[.pointer (some ⟨g, 0, none⟩), .int .u8 tos, .int .u16 id, .bool keep, .int .u8 ttl, .int .u8 17, .int .u32 src, .int .u32 dst, so, sd, .int .i64 side], .pointer (some ⟨f.blk, 0, none⟩), .bool bk] (by go_simp) ?_
 refine (next_udp g tos id ttl src dst keep so sd side bk f wd (HF.out wd (L3.trans ld))).mono ?_
 rintro e w5 ⟨rfl, l5⟩
 refine ⟨KG.of_later l5, ?_⟩
 simp only [Act.put, sA, sB, sC]
 refine anyT_one 7 rfl (by kernel_rfl) rfl ?_
 refine wp_enter 130 #[.pointer (some ⟨g, 0, none⟩), .pointer (some ⟨f.blk, 0, none⟩), .int .i64 (ot f.st bk)] (by go_simp) ?_
 refine (HB.out w5 (L3.trans (ld.trans l5))).mono ?_
 rintro e w6 ⟨rfl, k6, hG⟩
 refine ⟨k6, ?_⟩
 simp only [Act.put, sA, sB, sC]
 refine anyT_done (by kernel_rfl) ?_
 go_wp2_with fail
 exact bodyPost_ret (v := .tuple #[.pointer (some ⟨f.blk, 0, none⟩), .bool bk]) (by simp [results, Tryz.results98, go_sem]) rfl ⟨rfl, (KG.of_later (L3.trans (ld.trans l5))).trans k6, hG⟩
end Go.Proofs.YtajcfhcdincngaaGreatDoor

/- Package gate: a packet of Udp whose flow begins, changed. -/
namespace Go.Proofs.YtajcfhcdincngaaGreatDoor
open Go.RowKit Go.Shelf
set_option maxRecDepth 100000
set_option linter.unusedVariables false
set_option linter.unusedSimpArgs false

theorem Ow.kg {base n0 : Nat} {W W' : World} {v : Value} {zs : List Int} (h : Ow n0 W v zs) (k : KG base W W') : Ow n0 W' v zs := by
 rcases h with h | ⟨g, cap, cur, q1, q2, q3, q4, q5, q6, q7⟩
 ·exact .inl h
 ·exact .inr ⟨g, cap, cur, q1, q2, q3, q4, q5, k.cells q6 (by decide), q7⟩
theorem KG.own {base k : Nat} {a b c : World} (h : KG base a b) (hb : But (fun q => q = k) b c) (hk : a.heap.size ≤ k) : KG base a c := ⟨hb.os.trans h.os, hb.tape.trans h.tape, hb.output.trans h.output, Nat.le_trans h.size hb.size, fun i o h1 h2 => by
 have hi := (bl9 h1)
 exact (hb.block i (Nat.lt_of_lt_of_le hi h.size) (fun e => by have e' : i = k := e; omega)).trans (h.block i o h1 h2)⟩
theorem other_no (f : Fl) (w : World) (h : w.heap[f.blk]? = some (.cells (flc f).toArray 122 (0, 0))) :
  Calls Tryz.prog 100 #[.pointer (some ⟨f.blk, 0, none⟩), .bool false] w fun e w' => e = .returned (.agg #[.int .u8 f.r.pr, .int .u32 f.r.src, .int .u32 f.r.dst, .int .u16 f.r.sp, .int .u16 f.r.dp]) ∧ Later w w' := by
 have la := later_allocG w (.cells #[.int .u8 0, .int .u32 0, .int .u32 0, .int .u16 0, .int .u16 0] 47)
 have C0 := hide (heap_alloc_new w (.cells #[.int .u8 0, .int .u32 0, .int .u32 0, .int .u16 0, .int .u16 0] 47))
 have C1 := hide (later_keep la h)
 clear h
 go_enter Tryz.func100, Tryz.ntmps100
 go_upto_region 3 with fail
 generalize w.alloc _ = w1 at *
 generalize hgx : w.heap.size = gx at C0 ⊢
 have k0 := block_cell C0.out
 have f0 := block_frozen C0.out
 have k1 := block_cell C1.out
 unfold flc at k1
 go_wp2_with fail
 generalize hV : (((((w1.setCell ⟨gx, 0, none⟩ _).setCell ⟨gx, 1, none⟩ _).setCell ⟨gx, 2, none⟩ _).setCell ⟨gx, 3, none⟩ _).setCell ⟨gx, 4, none⟩ _) = V8
 have hV9 : V8 = putRow w1 gx 0 [.int .u8 f.r.pr, .int .u32 f.r.src, .int .u32 f.r.dst, .int .u16 f.r.sp, .int .u16 f.r.dp] := hV.symm
 have hb8 : But (fun b => b = gx) w1 V8 := by rw [hV9]; exact putRow_but (E := fun b => b = gx) (n := gx) rfl _ _ _ _ (But.refl _ _)
 have p8 := putRow_all [.int .u8 f.r.pr, .int .u32 f.r.src, .int .u32 f.r.dst, .int .u16 f.r.sp, .int .u16 f.r.dp] C0.out rfl
 rw [← hV9] at p8
 clear hV hV9
 have P8 := block_cell p8
 exact bodyPost_ret (v := .agg #[.int .u8 f.r.pr, .int .u32 f.r.src, .int .u32 f.r.dst, .int .u16 f.r.sp, .int .u16 f.r.dp]) (by simp [results, Tryz.results100, go_sem, P8]) rfl ⟨rfl, Below.trans la (hb8.below la.size (fun k hk e => by have e' : k = gx := e; omega))⟩
theorem nohelp_any (x : Array Value) (w : World) (tos id ttl pr src dst : Int) (keep : Bool) (ao ad : Option Addr) (lo co ld cd : Nat) :
  Calls Tryz.prog 474 #[.agg #[], .agg x, .agg #[.int .u8 tos, .int .u16 id, .bool keep, .int .u8 ttl, .int .u8 pr, .int .u32 src, .int .u32 dst, .slice ao lo co, .slice ad ld cd]] w fun e w' => e = .returned (.agg #[.int .u8 tos, .int .u16 id, .bool keep, .int .u8 ttl, .int .u8 pr, .int .u32 src, .int .u32 dst, .slice ao lo co, .slice ad ld cd]) ∧ Later w w' := by
 have la := later_allocG w (.cells #[] 370)
 have lb := later_allocG (w.alloc (.cells #[] 370)) (.cells x 208)
 have lc := later_allocG ((w.alloc (.cells #[] 370)).alloc (.cells x 208)) (.cells #[.int .u8 tos, .int .u16 id, .bool keep, .int .u8 ttl, .int .u8 pr, .int .u32 src, .int .u32 dst, .slice ao lo co, .slice ad ld cd] 31)
 have c0 := heap_alloc_new ((w.alloc (.cells #[] 370)).alloc (.cells x 208)) (.cells #[.int .u8 tos, .int .u16 id, .bool keep, .int .u8 ttl, .int .u8 pr, .int .u32 src, .int .u32 dst, .slice ao lo co, .slice ad ld cd] 31)
 have hsz : ((w.alloc (.cells #[] 370)).alloc (.cells x 208)).heap.size = w.heap.size + 1 + 1 := by simp
 rw [hsz] at c0
 have L2 := la.trans (lb.trans lc)
 have ld' := later_allocG (((w.alloc (.cells #[] 370)).alloc (.cells x 208)).alloc (.cells #[.int .u8 tos, .int .u16 id, .bool keep, .int .u8 ttl, .int .u8 pr, .int .u32 src, .int .u32 dst, .slice ao lo co, .slice ad ld cd] 31)) (.cells #[.int .u8 0, .int .u16 0, .bool false, .int .u8 0, .int .u8 0, .int .u32 0, .int .u32 0, .slice none 0 0, .slice none 0 0] 31)
 have c1 := heap_alloc_new (((w.alloc (.cells #[] 370)).alloc (.cells x 208)).alloc (.cells #[.int .u8 tos, .int .u16 id, .bool keep, .int .u8 ttl, .int .u8 pr, .int .u32 src, .int .u32 dst, .slice ao lo co, .slice ad ld cd] 31)) (.cells #[.int .u8 0, .int .u16 0, .bool false, .int .u8 0, .int .u8 0, .int .u32 0, .int .u32 0, .slice none 0 0, .slice none 0 0] 31)
 have hsz2 : (((w.alloc (.cells #[] 370)).alloc (.cells x 208)).alloc (.cells #[.int .u8 tos, .int .u16 id, .bool keep, .int .u8 ttl, .int .u8 pr, .int .u32 src, .int .u32 dst, .slice ao lo co, .slice ad ld cd] 31)).heap.size = w.heap.size + 1 + 1 + 1 := by simp
 rw [hsz2] at c1
 have C0 := hide (later_keep ld' c0)
 have C1 := hide c1
 have LL := hide (L2.trans ld')
 clear la lb lc ld' c0 c1 hsz hsz2 L2
 go_enter Tryz.func474, Tryz.ntmps474
 go_upto_region 1 with fail
 generalize hw1 : World.alloc _ _ = w1 at *
 clear hw1
 generalize hgx : w.heap.size = g0 at C0 C1 ⊢
 have k0 := block_cell C0.out
 have k1 := block_cell C1.out
 have f1 := block_frozen C1.out
 go_wp2_with fail
 generalize hV : (((((((((w1.setCell ⟨_, 0, none⟩ _).setCell ⟨_, 1, none⟩ _).setCell ⟨_, 2, none⟩ _).setCell ⟨_, 3, none⟩ _).setCell ⟨_, 4, none⟩ _).setCell ⟨_, 5, none⟩ _).setCell ⟨_, 6, none⟩ _).setCell ⟨_, 7, none⟩ _).setCell ⟨_, 8, none⟩ _) = V8
 have hV9 : V8 = putRow w1 (g0 + 1 + 1 + 1) 0 [.int .u8 tos, .int .u16 id, .bool keep, .int .u8 ttl, .int .u8 pr, .int .u32 src, .int .u32 dst, .slice ao lo co, .slice ad ld cd] := hV.symm
 have hb8 : But (fun b => b = g0 + 1 + 1 + 1) w1 V8 := by rw [hV9]; exact putRow_but (E := fun b => b = g0 + 1 + 1 + 1) (n := g0 + 1 + 1 + 1) rfl _ _ _ _ (But.refl _ _)
 have p8 := putRow_all [.int .u8 tos, .int .u16 id, .bool keep, .int .u8 ttl, .int .u8 pr, .int .u32 src, .int .u32 dst, .slice ao lo co, .slice ad ld cd] C1.out rfl
 rw [← hV9] at p8
 clear hV hV9
 have P8 := block_cell p8
 exact bodyPost_ret (v := .agg #[.int .u8 tos, .int .u16 id, .bool keep, .int .u8 ttl, .int .u8 pr, .int .u32 src, .int .u32 dst, .slice ao lo co, .slice ad ld cd]) (by simp [results, Tryz.results474, go_sem, P8]) rfl ⟨rfl, Below.trans LL.out (hb8.below LL.out.size (fun k hk e => by have e' : k = g0 + 1 + 1 + 1 := e; omega))⟩
theorem meth_noh (k : Nat) (W : World) : Sem.run Tryz.prog (Go.method (k + 1) 370 (.agg #[]) "lychgate/gate.change") W = .ok (474, .agg #[]) W := by kernel_rfl
def ChQ (base : Nat) (w w' : World) (g : Nat) (s : Gf) (tos id ttl src dst : Int) (keep : Bool) (zo zd : List Int) (a : Nat) (b : Int) (mr : Ru) (e : Ending) : Prop := ∃ (f : Fl) (pb : Nat) (ao : Option Addr) (co : Nat) (ad : Option Addr) (cd : Nat), w.heap.size ≤ f.blk ∧ e = .returned (.agg #[.int .u8 tos, .int .u16 id, .bool keep, .int .u8 ttl, .int .u8 17, .int .u32 mr.tt, .int .u32 dst, .slice ao zo.length co, .slice ad zd.length cd]) ∧ KG base w w' ∧ (f.id = s.bg ∧ f.o = ⟨17, src, dst, (a : Int), b⟩ ∧ f.r = ⟨17, dst, mr.tt, b, (tkn s.lo s.hi a : Int)⟩ ∧ f.side = 0 ∧ f.ms = -1 ∧ f.hp = noh) ∧ GF base w' g (bcS (opS (withP s 17 mr.tt pb (wsR (wsOf (nums s.lo s.hi)) (tkn s.lo s.hi a))) f) f 8) ∧ Ow w.heap.size w' (.slice ao zo.length co) zo ∧ Ow w.heap.size w' (.slice ad zd.length cd) (rwD 17 mr.tt dst (tkn s.lo s.hi a : Int) b zd)

set_option maxRecDepth 100000 in
set_option maxHeartbeats 8000000 in
theorem changed_yes (base g : Nat) (s : Gf) (tos id ttl src dst : Int) (keep : Bool) (so sd : Value) (zo zd : List Int) (a : Nat) (b : Int) (mr : Ru) (n0 : Nat) (w : World) (h : GF base w g s) (hR : Rdy s src dst a b mr) (he : ofe 17 src dst zd = 0) (hea : ofa 17 zd = (a : Int)) (heb : ofb 17 zd = b) (hfl : flt zo.length zd.length = 0) (hBo : Mt.By zo) (hBd : Mt.By zd) (hOo : Ow n0 w so zo) (hOd : Ow n0 w sd zd) (hlo : zo.length ≤ 60000) (hld : zd.length ≤ 70000) (ht : 0 ≤ tos ∧ tos ≤ 255) (hid : 0 ≤ id ∧ id ≤ 65535) (htl : 0 ≤ ttl ∧ ttl ≤ 255) (hbs : base ≤ w.heap.size) (hz : ∀ W, KG base w W → Tb W ∧ Dz W) (hgz : 1 ≤ w.heap.size) :
  Calls Tryz.prog 62 #[.agg #[.pointer (some ⟨g, 0, none⟩), .int .u8 tos, .int .u16 id, .bool keep, .int .u8 ttl, .int .u8 17, .int .u32 src, .int .u32 dst, so, sd, .int .i64 0]] w fun e w' => ChQ base w w' g s tos id ttl src dst keep zo zd a b mr e := by
 obtain ⟨l0, c0, c1⟩ := alloc2 w (.cells #[.pointer (some ⟨g, 0, none⟩), .int .u8 tos, .int .u16 id, .bool keep, .int .u8 ttl, .int .u8 17, .int .u32 src, .int .u32 dst, so, sd, .int .i64 0] 146) (.cells #[.int .u8 0, .int .u16 0, .bool false, .int .u8 0, .int .u8 0, .int .u32 0, .int .u32 0, .slice none 0 0, .slice none 0 0] 31)
 have C0 := hide c0
 have C1 := hide c1
 clear c0 c1
 have HQ := hide (fun W (l : Later w W) => of_any tos id ttl 17 src dst keep so sd zd W (hz W (KG.of_later l)).1 hBd ((hOd.kg (KG.of_later (base := base) l)).rd) (by omega) hR.hx hR.hd)
 rw [he, hea, heb] at HQ
 have hv : otv 0 17 src dst (a : Int) b = .agg #[.int .u8 17, .int .u32 src, .int .u32 dst, .int .u16 (a : Int), .int .u16 b] := by unfold otv; rw [if_pos rfl]
 rw [hv] at HQ
 obtain ⟨n, hn⟩ : ∃ n, n = tkn s.lo s.hi a := ⟨_, rfl⟩
 have hnr := tkn_rng (wish := a) hR.h2
 have h3 := hR.h3
 have HOW := hide (fun W (k : KG base w W) (hh : GF base W g s) => owner_yes base g s tos id ttl 17 src dst keep so sd src dst a b mr W hh hR (Nat.le_trans hbs k.size) (fun V k2 => (hz V (k.trans k2)).2) (Nat.le_trans hgz k.size))
 have HRW := hide (fun W (k : KG base w W) => rewrite_any tos id ttl 17 src dst keep so sd zo zd 17 mr.tt dst (n : Int) b W (hz W k).1 hBo hBd ((hOo.kg k).rd) ((hOd.kg k).rd) (by omega) (by omega) ht hid htl (by decide) hR.hx hR.hd hR.tt hR.hd ⟨by omega, by omega⟩ hR.hb)
 have hrw : rwe 17 17 src dst zo.length zd = 0 := by unfold rwe; simp [he, hfl]
 rw [hrw] at HRW
 obtain ⟨sox, soc, rfl, _, _⟩ := hOo.slice
 obtain ⟨sdx, sdc, rfl, _, _⟩ := hOd.slice
 have HG := hide (h.later l0)
 have HN := hide hn
 clear hv h hR he hea heb hfl hBo hBd hOo hOd hz hgz hrw hn hnr h3
 go_enter Tryz.func62, Tryz.ntmps62
 go_upto_region 1 with fail
 generalize (w.alloc (.cells _ 146)).alloc (.cells _ 31) = w1 at *
 generalize hgx : w.heap.size = gx at C0 C1 ⊢
 have k0 := block_cell C0.out
 go_wp2_with fail
 refine (HQ.out w1 l0).mono ?_
 rintro e w2 ⟨l2, rfl⟩
 have l2' : Later w1 w2 := l2
 clear k0 HQ l2
 go_upto_region 2 with fail
 have la := later_allocG w2 (.cells #[.int .u8 17, .int .u32 src, .int .u32 dst, .int .u16 (a : Int), .int .u16 b] 47)
 have C3 := hide (heap_alloc_new w2 (.cells #[.int .u8 17, .int .u32 src, .int .u32 dst, .int .u16 (a : Int), .int .u16 b] 47))
 have D0 := hide (later_keep (l2'.trans la) C0.out)
 have D1 := hide (later_keep (l2'.trans la) C1.out)
 have H3 := hide (HG.out.later (l2'.trans la))
 have L3 : Later w (w2.alloc (.cells #[.int .u8 17, .int .u32 src, .int .u32 dst, .int .u16 (a : Int), .int .u16 b] 47)) := l0.trans (l2'.trans la)
 change Code.wp _ _ _ _ (w2.alloc (.cells #[.int .u8 17, .int .u32 src, .int .u32 dst, .int .u16 (a : Int), .int .u16 b] 47))
 generalize w2.alloc (.cells #[.int .u8 17, .int .u32 src, .int .u32 dst, .int .u16 (a : Int), .int .u16 b] 47) = w3 at *
 generalize hg3 : w2.heap.size = g3 at *
 have hg3x : gx + 1 < g3 := by rw [← hg3]; exact Nat.lt_of_lt_of_le (bl9 C1.out) l2'.size
 clear C0 C1 HG l2' la hg3
 have k0 := block_cell D0.out
 have k3 := block_cell C3.out
 go_wp2_with fail
 refine (grefuse_no 1 _).mono ?_
 rintro e w4 ⟨rfl, hw4⟩
 subst hw4
 go_wp2_with fail
 refine (HOW.out w3 (KG.of_later L3) H3.out).mono ?_
 rintro e w4 ⟨f, pb, hfb, rfl, kg4, hid', ho, hr, hsd, hms, hhp, hG4⟩
 clear k0 k3 HOW H3
 have K4 : Hid (KG base w w4) := (KG.of_later L3).trans kg4
 have E0 := hide (kg4.cells D0.out (by decide))
 have E1 := hide (kg4.cells D1.out (by decide))
 have E3 := hide (kg4.cells C3.out (by decide))
 have hfx : g3 < f.blk := Nat.lt_of_lt_of_le (bl9 C3.out) hfb
 have G4 := hide hG4
 obtain ⟨TL, hF⟩ : ∃ TL, w4.heap[f.blk]? = some (.cells (flc (f.at 8 TL)).toArray 122 (0, 0)) := ⟨_, (hG4.fb (f.at 8 _) (mem_withF (f := f) (by show f ∈ _ ++ [f]; simp) rfl)).2⟩
 have hr2 : (f.at 8 TL).r = ⟨17, dst, mr.tt, b, (n : Int)⟩ := by
  show f.r = _
  rw [hr, HN.out]
  rfl
 have HOT := hide (other_no (f.at 8 TL) w4 hF)
 rw [hr2] at HOT
 have HFF := hide hF
 clear hG4 hF hr2 kg4
 go_wp2_with fail
 refine HOT.out.mono ?_
 rintro e w5 ⟨rfl, l5⟩
 go_wp2_with fail
 refine (reverse_any 17 dst mr.tt b (n : Int) w5).mono ?_
 rintro e w6 ⟨rfl, l6⟩
 have l6' : Later w5 w6 := l6
 clear l6 HOT
 have la := later_allocG w6 (.cells #[.int .u8 17, .int .u32 mr.tt, .int .u32 dst, .int .u16 (n : Int), .int .u16 b] 47)
 have CI := hide (heap_alloc_new w6 (.cells #[.int .u8 17, .int .u32 mr.tt, .int .u32 dst, .int .u16 (n : Int), .int .u16 b] 47))
 have LA := hide la
 clear la
 go_upto_region 7 with fail
 generalize w6.alloc _ = w7 at *
 generalize hg7 : w6.heap.size = g7 at *
 have L47 : Later w4 w7 := l5.trans (l6'.trans LA.out)
 have hg7x : g3 < g7 := by
  have q1 := (bl9 E3.out)
  have q2 := l5.size
  have q3 := l6'.size
  omega
 have J0 := hide (later_keep L47 E0.out)
 have J1 := hide (later_keep L47 E1.out)
 have J3 := hide (later_keep L47 E3.out)
 have JF := hide (later_keep L47 HFF.out)
 have K7 : Hid (KG base w w7) := K4.out.trans (KG.of_later L47)
 have G7 := hide (G4.out.later L47)
 clear E0 E1 E3 HFF K4 G4 l5 l6' LA hg7 L47
 have k0 := block_cell J0.out
 have kI := block_cell CI.out
 go_wp2_with fail
 refine (HRW.out w7 K7.out).mono ?_
 rintro e w8 ⟨l8, ⟨h0, _⟩ | ⟨_, ao, co, ad, cd, rfl, ho8, hd8⟩⟩
 ·exact absurd rfl h0
 have l8' : Later w7 w8 := l8
 clear k0 kI l8 HRW
 have la := later_allocG w8 (.cells #[.int .u8 tos, .int .u16 id, .bool keep, .int .u8 ttl, .int .u8 17, .int .u32 mr.tt, .int .u32 dst, .slice ao zo.length co, .slice ad zd.length cd] 31)
 have CP := hide (heap_alloc_new w8 (.cells #[.int .u8 tos, .int .u16 id, .bool keep, .int .u8 ttl, .int .u8 17, .int .u32 mr.tt, .int .u32 dst, .slice ao zo.length co, .slice ad zd.length cd] 31))
 have LA := hide la
 have hs78 : w7.heap.size ≤ w8.heap.size := l8'.size
 clear la
 go_upto_region 8 with fail
 generalize w8.alloc _ = w9 at *
 generalize hg9 : w8.heap.size = g9 at *
 have L79 : Later w7 w9 := l8'.trans LA.out
 have hg9x : g7 < g9 := by
  have q1 := (bl9 CI.out)
  omega
 have N0 := hide (later_keep L79 J0.out)
 have N1 := hide (later_keep L79 J1.out)
 have N3 := hide (later_keep L79 J3.out)
 have NF := hide (later_keep L79 JF.out)
 have NI := hide (later_keep L79 CI.out)
 have K9 : Hid (KG base w w9) := K7.out.trans (KG.of_later L79)
 have G9 := hide (G7.out.later L79)
 have O9 := hide ((ho8.mono K7.out.size).kg (KG.of_later (base := base) LA.out))
 have Q9 := hide ((hd8.mono K7.out.size).kg (KG.of_later (base := base) LA.out))
 clear J0 J1 J3 JF CI K7 G7 l8' LA hg9 L79 ho8 hd8 hs78
 refine anyT_begin (R := But (fun q => q = gx + 1)) 13 rfl (by kernel_rfl) ?_
 have ld : Later w9 w9.drew := Later.drew w9
 generalize w9.drew = wd at *
 have hnb : ∀ (k : Nat) (cur : Array Value) (t : TypeId) (fz : Nat × Nat), k ≠ gx + 1 → w9.heap[k]? = some (.cells cur t fz) → ∀ v, But (fun q => q = gx + 1) wd v → v.heap[k]? = some (.cells cur t fz) := fun k cur t fz hk hh v hv => (hv.block k (Array.getElem?_eq_some_iff.1 (later_keep ld hh)).1 (fun e => hk e)).trans (later_keep ld hh)
 have k0 : ∀ v, But (fun q => q = gx + 1) wd v → ∀ j, v.cell? ⟨gx, j, none⟩ = _ := fun v hv => block_cell (hnb gx _ _ _ (by omega) N0.out v hv)
 have k3 : ∀ v, But (fun q => q = gx + 1) wd v → ∀ j, v.cell? ⟨g3, j, none⟩ = _ := fun v hv => block_cell (hnb g3 _ _ _ (by omega) N3.out v hv)
 have k7 : ∀ v, But (fun q => q = gx + 1) wd v → ∀ j, v.cell? ⟨g7, j, none⟩ = _ := fun v hv => block_cell (hnb g7 _ _ _ (by omega) NI.out v hv)
 have k9 : ∀ v, But (fun q => q = gx + 1) wd v → ∀ j, v.cell? ⟨g9, j, none⟩ = _ := fun v hv => block_cell (hnb g9 _ _ _ (by omega) CP.out v hv)
 have kF : ∀ v, But (fun q => q = gx + 1) wd v → ∀ j, v.cell? ⟨f.blk, j, none⟩ = (flc (f.at 8 TL)).toArray[j]? := fun v hv => block_cell (hnb f.blk _ _ _ (by omega) NF.out v hv)
 unfold flc Fl.at at kF
 rw [hhp] at kF
 unfold noh at kF
 refine tV (But.pre (fun q => q = gx + 1)) 0 rfl rfl ?_; apply Exists.intro; refine ⟨fun v1 hv1 => ?_, ?_⟩; (· (go_simp; rfl)); simp only [Act.put, sA, sB, sC]
 refine tV (But.pre (fun q => q = gx + 1)) 1 rfl rfl ?_; apply Exists.intro; refine ⟨fun v1 hv1 => ?_, ?_⟩; (· (go_simp; rfl)); simp only [Act.put, sA, sB, sC]
 refine tV (But.pre (fun q => q = gx + 1)) 2 rfl rfl ?_; apply Exists.intro; refine ⟨fun v1 hv1 => ?_, ?_⟩; (· (go_simp; rfl)); simp only [Act.put, sA, sB, sC]
 refine tV (But.pre (fun q => q = gx + 1)) 3 rfl rfl ?_; apply Exists.intro; refine ⟨fun v1 hv1 => ?_, ?_⟩; (· (go_simp; rfl)); simp only [Act.put, sA, sB, sC]
 refine tV (But.pre (fun q => q = gx + 1)) 4 rfl rfl ?_; apply Exists.intro; refine ⟨fun v1 hv1 => ?_, ?_⟩; (· (go_simp; rfl)); simp only [Act.put, sA, sB, sC]
 refine tV (But.pre (fun q => q = gx + 1)) 5 rfl rfl ?_; apply Exists.intro; refine ⟨fun v1 hv1 => ?_, ?_⟩; (· (go_simp; rfl)); simp only [Act.put, sA, sB, sC]
 refine tV (But.pre (fun q => q = gx + 1)) 6 rfl rfl ?_; apply Exists.intro; refine ⟨fun v1 hv1 => ?_, ?_⟩; (· (go_simp; rfl)); simp only [Act.put, sA, sB, sC]
 refine tV (But.pre (fun q => q = gx + 1)) 7 rfl rfl ?_; apply Exists.intro; refine ⟨fun v1 hv1 => ?_, ?_⟩; (· (go_simp; rfl)); simp only [Act.put, sA, sB, sC]
 refine tV (But.pre (fun q => q = gx + 1)) 8 rfl rfl ?_; apply Exists.intro; refine ⟨fun v1 hv1 => ?_, ?_⟩; (· (go_simp; rfl)); simp only [Act.put, sA, sB, sC]
 refine tV (But.pre (fun q => q = gx + 1)) 9 rfl rfl ?_; apply Exists.intro; refine ⟨fun v1 hv1 => ?_, ?_⟩; (· (go_simp; rfl)); simp only [Act.put, sA, sB, sC]
 refine tV (But.pre (fun q => q = gx + 1)) 10 rfl rfl ?_; apply Exists.intro; refine ⟨fun v1 hv1 => ?_, ?_⟩; (· (go_simp; rfl)); simp only [Act.put, sA, sB, sC]
 clear k0 k3 k7 k9 kF
 refine anyT_one 11 rfl (by kernel_rfl) rfl ?_
 refine wp_enter 474 #[.agg #[], .agg #[.pointer (some ⟨g, 0, none⟩), .int .u8 tos, .int .u16 id, .bool keep, .int .u8 ttl, .int .u8 17, .int .u32 src, .int .u32 dst, .slice sox zo.length soc, .slice sdx zd.length sdc, .int .i64 0, .pointer (some ⟨f.blk, 0, none⟩), .bool false, .int .u8 17, .int .u32 src, .int .u32 dst, .int .u16 (a : Int), .int .u16 b, .int .u8 17, .int .u32 mr.tt, .int .u32 dst, .int .u16 (n : Int), .int .u16 b], .agg #[.int .u8 tos, .int .u16 id, .bool keep, .int .u8 ttl, .int .u8 17, .int .u32 mr.tt, .int .u32 dst, .slice ao zo.length co, .slice ad zd.length cd]] (by have hmt := meth_noh; go_simp) ?_
 refine (nohelp_any _ wd tos id ttl 17 mr.tt dst keep ao ad zo.length co zd.length cd).mono ?_
 rintro e w10 ⟨rfl, l10⟩
 refine ⟨But.of l10, ?_⟩
 simp only [Act.put, sA, sB, sC]
 have N1d := hide (later_keep (ld.trans l10) N1.out)
 have kk := block_cell N1d.out
 have ff := block_frozen N1d.out
 refine anyT_one 12 rfl (by kernel_rfl) rfl ?_
 unfold Oper.wp
 go_simp
 generalize hV : (((((((((w10.setCell ⟨_, 0, none⟩ _).setCell ⟨_, 1, none⟩ _).setCell ⟨_, 2, none⟩ _).setCell ⟨_, 3, none⟩ _).setCell ⟨_, 4, none⟩ _).setCell ⟨_, 5, none⟩ _).setCell ⟨_, 6, none⟩ _).setCell ⟨_, 7, none⟩ _).setCell ⟨_, 8, none⟩ _) = V8
 have hV9 : V8 = putRow w10 (gx + 1) 0 [.int .u8 tos, .int .u16 id, .bool keep, .int .u8 ttl, .int .u8 17, .int .u32 mr.tt, .int .u32 dst, .slice ao zo.length co, .slice ad zd.length cd] := hV.symm
 have hb8 : But (fun b => b = gx + 1) w10 V8 := by rw [hV9]; exact putRow_but (E := fun b => b = gx + 1) (n := gx + 1) rfl _ _ _ _ (But.refl _ _)
 have p8 := putRow_all [.int .u8 tos, .int .u16 id, .bool keep, .int .u8 ttl, .int .u8 17, .int .u32 mr.tt, .int .u32 dst, .slice ao zo.length co, .slice ad zd.length cd] N1d.out rfl
 rw [← hV9] at p8
 clear hV hV9 kk ff
 have HB8 := hide hb8
 have HP8 := hide p8
 clear hb8 p8
 refine ⟨HB8.out, ?_⟩
 refine anyT_done (by kernel_rfl) ?_
 have K10 : KG base w w10 := K9.out.trans (KG.of_later (ld.trans l10))
 have k8 : KG base w V8 := K10.own HB8.out (by omega)
 have o8 := ((O9.out.kg (KG.of_later (base := base) (ld.trans l10))).aside N1d.out (by decide) HB8.out)
 have q8 := ((Q9.out.kg (KG.of_later (base := base) (ld.trans l10))).aside N1d.out (by decide) HB8.out)
 have P8 := block_cell HP8.out
 go_wp2_with fail
 exact bodyPost_ret (v := .agg #[.int .u8 tos, .int .u16 id, .bool keep, .int .u8 ttl, .int .u8 17, .int .u32 mr.tt, .int .u32 dst, .slice ao zo.length co, .slice ad zd.length cd]) (by simp [results, Tryz.results62, go_sem, P8]) rfl ⟨f, pb, ao, co, ad, cd, Nat.le_trans L3.size hfb, rfl, k8, ⟨hid', ho, by rw [hr]; rfl, hsd, hms, hhp⟩, ((G9.out.later (ld.trans l10)).other (TE.one N1d.out) HB8.out (by decide)), o8, by rw [← HN.out]; exact q8⟩
end Go.Proofs.YtajcfhcdincngaaGreatDoor

/- Package gate: a packet of Udp that belongs to a flow, changed. -/
namespace Go.Proofs.YtajcfhcdincngaaGreatDoor
open Go.RowKit Go.Shelf
set_option maxRecDepth 100000
set_option linter.unusedVariables false
set_option linter.unusedSimpArgs false

/-- The tuple by which its packets go on. -/
def oth (f : Fl) (bk : Bool) : Tu := if bk then f.o else f.r
theorem other_bk (f : Fl) (w : World) (h : w.heap[f.blk]? = some (.cells (flc f).toArray 122 (0, 0))) :
  Calls Tryz.prog 100 #[.pointer (some ⟨f.blk, 0, none⟩), .bool true] w fun e w' => e = .returned (.agg #[.int .u8 f.o.pr, .int .u32 f.o.src, .int .u32 f.o.dst, .int .u16 f.o.sp, .int .u16 f.o.dp]) ∧ Later w w' := by
 have la := later_allocG w (.cells #[.int .u8 0, .int .u32 0, .int .u32 0, .int .u16 0, .int .u16 0] 47)
 have C0 := hide (heap_alloc_new w (.cells #[.int .u8 0, .int .u32 0, .int .u32 0, .int .u16 0, .int .u16 0] 47))
 have C1 := hide (later_keep la h)
 clear h
 go_enter Tryz.func100, Tryz.ntmps100
 go_upto_region 2 with fail
 generalize w.alloc _ = w1 at *
 generalize hgx : w.heap.size = gx at C0 ⊢
 have k0 := block_cell C0.out
 have f0 := block_frozen C0.out
 have k1 := block_cell C1.out
 unfold flc at k1
 go_wp2_with fail
 generalize hV : (((((w1.setCell ⟨gx, 0, none⟩ _).setCell ⟨gx, 1, none⟩ _).setCell ⟨gx, 2, none⟩ _).setCell ⟨gx, 3, none⟩ _).setCell ⟨gx, 4, none⟩ _) = V8
 have hV9 : V8 = putRow w1 gx 0 [.int .u8 f.o.pr, .int .u32 f.o.src, .int .u32 f.o.dst, .int .u16 f.o.sp, .int .u16 f.o.dp] := hV.symm
 have hb8 : But (fun b => b = gx) w1 V8 := by rw [hV9]; exact putRow_but (E := fun b => b = gx) (n := gx) rfl _ _ _ _ (But.refl _ _)
 have p8 := putRow_all [.int .u8 f.o.pr, .int .u32 f.o.src, .int .u32 f.o.dst, .int .u16 f.o.sp, .int .u16 f.o.dp] C0.out rfl
 rw [← hV9] at p8
 clear hV hV9
 have P8 := block_cell p8
 exact bodyPost_ret (v := .agg #[.int .u8 f.o.pr, .int .u32 f.o.src, .int .u32 f.o.dst, .int .u16 f.o.sp, .int .u16 f.o.dp]) (by simp [results, Tryz.results100, go_sem, P8]) rfl ⟨rfl, Below.trans la (hb8.below la.size (fun k hk e => by have e' : k = gx := e; omega))⟩
theorem other_any2 (f : Fl) (bk : Bool) (w : World) (h : w.heap[f.blk]? = some (.cells (flc f).toArray 122 (0, 0))) :
  Calls Tryz.prog 100 #[.pointer (some ⟨f.blk, 0, none⟩), .bool bk] w fun e w' => e = .returned (.agg #[.int .u8 (oth f bk).pr, .int .u32 (oth f bk).src, .int .u32 (oth f bk).dst, .int .u16 (oth f bk).sp, .int .u16 (oth f bk).dp]) ∧ Later w w' := by
 cases bk with
 | true => exact other_bk f w h
 | false => exact other_no f w h
/-- What a packet of a flow must be. -/
structure Bel (s : Gf) (f : Fl) (bk : Bool) (side src dst a b : Int) : Prop where
 hf : f ∈ s.fs
 hu : IdU s
 huq : ∀ x ∈ s.fs, x.blk = f.blk → x = f
 kx : ∃ (k : Nat) (r : Rw), kx 17 src dst a b s.rw = some k ∧ (s.rw (bki 17 src dst a b))[k]? = some r ∧ r.id = f.id
 hx : 0 ≤ src ∧ src ≤ 4294967295
 hd : 0 ≤ dst ∧ dst ≤ 4294967295
 ha : 0 ≤ a ∧ a ≤ 65535
 hb : 0 ≤ b ∧ b ≤ 65535
 bq : bk = true ↔ ¬ ((17 : Int) = f.o.pr ∧ src = f.o.src ∧ dst = f.o.dst ∧ kyp 17 a = kyp f.o.pr f.o.sp ∧ b = f.o.dp)
 sd : f.side = 0
 cm : Comes side bk
 hBo : TuB f.o
 hBr : TuB f.r
 po : f.o.pr = 17
 pr : f.r.pr = 17
 hp : f.hp = noh
 tr : 0 ≤ s.trn ∧ s.trn ≤ 999999
 nw : 0 ≤ s.now ∧ s.now ≤ 549755813888
theorem Bel.q {s : Gf} {f : Fl} {bk : Bool} {side src dst a b : Int} (h : Bel s f bk side src dst a b) : TuB (oth f bk) ∧ (oth f bk).pr = 17 := by
 unfold oth
 split
 ·exact ⟨h.hBo, h.po⟩
 ·exact ⟨h.hBr, h.pr⟩
def CbQ (base : Nat) (w w' : World) (g : Nat) (s : Gf) (f : Fl) (bk : Bool) (tos id ttl : Int) (keep : Bool) (zo zd : List Int) (q : Tu) (e : Ending) : Prop := ∃ (ao : Option Addr) (co : Nat) (ad : Option Addr) (cd : Nat), e = .returned (.agg #[.int .u8 tos, .int .u16 id, .bool keep, .int .u8 ttl, .int .u8 17, .int .u32 q.dst, .int .u32 q.src, .slice ao zo.length co, .slice ad zd.length cd]) ∧ KG base w w' ∧ GF base w' g (bcS s f (ot f.st bk)) ∧ Ow w.heap.size w' (.slice ao zo.length co) zo ∧ Ow w.heap.size w' (.slice ad zd.length cd) (rwD 17 q.dst q.src q.dp q.sp zd)

set_option maxRecDepth 100000 in
set_option maxHeartbeats 8000000 in
theorem changed_back (base g : Nat) (s : Gf) (f : Fl) (bk : Bool) (tos id ttl src dst : Int) (keep : Bool) (so sd : Value) (side : Int) (zo zd : List Int) (a b : Int) (n0 : Nat) (w : World) (h : GF base w g s) (hR : Bel s f bk side src dst a b) (he : ofe 17 src dst zd = 0) (hea : ofa 17 zd = a) (heb : ofb 17 zd = b) (hfl : flt zo.length zd.length = 0) (hBo : Mt.By zo) (hBd : Mt.By zd) (hOo : Ow n0 w so zo) (hOd : Ow n0 w sd zd) (hlo : zo.length ≤ 60000) (hld : zd.length ≤ 70000) (ht : 0 ≤ tos ∧ tos ≤ 255) (hid : 0 ≤ id ∧ id ≤ 65535) (htl : 0 ≤ ttl ∧ ttl ≤ 255) (hbs : base ≤ w.heap.size) (hz : ∀ W, KG base w W → Tb W) :
  Calls Tryz.prog 62 #[.agg #[.pointer (some ⟨g, 0, none⟩), .int .u8 tos, .int .u16 id, .bool keep, .int .u8 ttl, .int .u8 17, .int .u32 src, .int .u32 dst, so, sd, .int .i64 side]] w fun e w' => CbQ base w w' g s f bk tos id ttl keep zo zd (oth f bk) e := by
 obtain ⟨l0, c0, c1⟩ := alloc2 w (.cells #[.pointer (some ⟨g, 0, none⟩), .int .u8 tos, .int .u16 id, .bool keep, .int .u8 ttl, .int .u8 17, .int .u32 src, .int .u32 dst, so, sd, .int .i64 side] 146) (.cells #[.int .u8 0, .int .u16 0, .bool false, .int .u8 0, .int .u8 0, .int .u32 0, .int .u32 0, .slice none 0 0, .slice none 0 0] 31)
 have C0 := hide c0
 have C1 := hide c1
 clear c0 c1
 have HQ := hide (fun W (l : Later w W) => of_any tos id ttl 17 src dst keep so sd zd W (hz W (KG.of_later l)) hBd ((hOd.kg (KG.of_later (base := base) l)).rd) (by omega) hR.hx hR.hd)
 rw [he, hea, heb] at HQ
 have hv : otv 0 17 src dst a b = .agg #[.int .u8 17, .int .u32 src, .int .u32 dst, .int .u16 a, .int .u16 b] := by unfold otv; rw [if_pos rfl]
 rw [hv] at HQ
 obtain ⟨kk, rr, hk1, hk2, hk3⟩ := hR.kx
 have HOW := hide (fun W (k : KG base w W) (hh : GF base W g s) => owner_back base g s f bk tos id ttl src dst keep so sd side 17 src dst a b kk rr W hh hR.hf hR.hu hR.huq hk1 hk2 hk3 hR.hx hR.hd hR.ha hR.hb hR.bq hR.sd hR.cm (Nat.le_trans hbs k.size) hR.hBo hR.hBr hR.tr hR.nw)
 have hq := hR.q
 have HRW := hide (fun W (k : KG base w W) => rewrite_any tos id ttl 17 src dst keep so sd zo zd 17 (oth f bk).dst (oth f bk).src (oth f bk).dp (oth f bk).sp W (hz W k) hBo hBd ((hOo.kg k).rd) ((hOd.kg k).rd) (by omega) (by omega) ht hid htl (by decide) hR.hx hR.hd hq.1.2.1 hq.1.1 hq.1.2.2.2 hq.1.2.2.1)
 have HQP := hide hq.2
 have HMF := hide (show f ∈ s.fs from hR.hf)
 have HHP := hide hR.hp
 have hrw : rwe 17 17 src dst zo.length zd = 0 := by unfold rwe; simp [he, hfl]
 rw [hrw] at HRW
 obtain ⟨sox, soc, rfl, _, _⟩ := hOo.slice
 obtain ⟨sdx, sdc, rfl, _, _⟩ := hOd.slice
 have HG := hide (h.later l0)
 have HFX := hide ((Array.getElem?_eq_some_iff.1 (h.fb f hR.hf).2).1)
 clear hv h hR he hea heb hfl hBo hBd hOo hOd hz hrw hq hk1 hk2 hk3
 go_enter Tryz.func62, Tryz.ntmps62
 go_upto_region 1 with fail
 generalize (w.alloc (.cells _ 146)).alloc (.cells _ 31) = w1 at *
 generalize hgx : w.heap.size = gx at C0 C1 ⊢
 have k0 := block_cell C0.out
 go_wp2_with fail
 refine (HQ.out w1 l0).mono ?_
 rintro e w2 ⟨l2, rfl⟩
 have l2' : Later w1 w2 := l2
 clear k0 HQ l2
 go_upto_region 2 with fail
 have la := later_allocG w2 (.cells #[.int .u8 17, .int .u32 src, .int .u32 dst, .int .u16 a, .int .u16 b] 47)
 have C3 := hide (heap_alloc_new w2 (.cells #[.int .u8 17, .int .u32 src, .int .u32 dst, .int .u16 a, .int .u16 b] 47))
 have D0 := hide (later_keep (l2'.trans la) C0.out)
 have D1 := hide (later_keep (l2'.trans la) C1.out)
 have H3 := hide (HG.out.later (l2'.trans la))
 have L3 : Later w (w2.alloc (.cells #[.int .u8 17, .int .u32 src, .int .u32 dst, .int .u16 a, .int .u16 b] 47)) := l0.trans (l2'.trans la)
 change Code.wp _ _ _ _ (w2.alloc (.cells #[.int .u8 17, .int .u32 src, .int .u32 dst, .int .u16 a, .int .u16 b] 47))
 generalize w2.alloc (.cells #[.int .u8 17, .int .u32 src, .int .u32 dst, .int .u16 a, .int .u16 b] 47) = w3 at *
 generalize hg3 : w2.heap.size = g3 at *
 have hg3x : gx + 1 < g3 := by rw [← hg3]; exact Nat.lt_of_lt_of_le (bl9 C1.out) l2'.size
 clear C0 C1 HG l2' la hg3
 have k0 := block_cell D0.out
 have k3 := block_cell C3.out
 go_wp2_with fail
 refine (grefuse_no 1 _).mono ?_
 rintro e w4 ⟨rfl, hw4⟩
 subst hw4
 go_wp2_with fail
 refine (HOW.out w3 (KG.of_later L3) H3.out).mono ?_
 rintro e w4 ⟨rfl, kg4, hG4⟩
 clear k0 k3 HOW H3
 have K4 : Hid (KG base w w4) := (KG.of_later L3).trans kg4
 have E0 := hide (kg4.cells D0.out (by decide))
 have E1 := hide (kg4.cells D1.out (by decide))
 have E3 := hide (kg4.cells C3.out (by decide))
 have hfx : f.blk < gx := by rw [← hgx]; exact HFX.out
 have G4 := hide hG4
 obtain ⟨ST, TL, hF⟩ : ∃ ST TL, w4.heap[f.blk]? = some (.cells (flc (f.at ST TL)).toArray 122 (0, 0)) := ⟨_, _, (hG4.fb (f.at (ot f.st bk) _) (mem_withF (f := f) HMF.out rfl)).2⟩
 have HOT := hide (other_any2 (f.at ST TL) bk w4 hF)
 have hqe : oth (f.at ST TL) bk = oth f bk := by unfold oth Fl.at; cases bk <;> rfl
 rw [hqe, HQP.out] at HOT
 have HFF := hide hF
 clear hG4 hF hqe kg4
 generalize hq : oth f bk = q at *
 have HQ := hide hq
 clear hq
 go_wp2_with fail
 refine HOT.out.mono ?_
 rintro e w5 ⟨rfl, l5⟩
 go_wp2_with fail
 refine (reverse_any 17 q.src q.dst q.sp q.dp w5).mono ?_
 rintro e w6 ⟨rfl, l6⟩
 have l6' : Later w5 w6 := l6
 clear l6 HOT
 have la := later_allocG w6 (.cells #[.int .u8 17, .int .u32 q.dst, .int .u32 q.src, .int .u16 q.dp, .int .u16 q.sp] 47)
 have CI := hide (heap_alloc_new w6 (.cells #[.int .u8 17, .int .u32 q.dst, .int .u32 q.src, .int .u16 q.dp, .int .u16 q.sp] 47))
 have LA := hide la
 clear la
 go_upto_region 7 with fail
 generalize w6.alloc _ = w7 at *
 generalize hg7 : w6.heap.size = g7 at *
 have L47 : Later w4 w7 := l5.trans (l6'.trans LA.out)
 have hg7x : g3 < g7 := by
  have q1 := (bl9 E3.out)
  have q2 := l5.size
  have q3 := l6'.size
  omega
 have J0 := hide (later_keep L47 E0.out)
 have J1 := hide (later_keep L47 E1.out)
 have J3 := hide (later_keep L47 E3.out)
 have JF := hide (later_keep L47 HFF.out)
 have K7 : Hid (KG base w w7) := K4.out.trans (KG.of_later L47)
 have G7 := hide (G4.out.later L47)
 clear E0 E1 E3 HFF K4 G4 l5 l6' LA hg7 L47
 have k0 := block_cell J0.out
 have kI := block_cell CI.out
 go_wp2_with fail
 refine (HRW.out w7 K7.out).mono ?_
 rintro e w8 ⟨l8, ⟨h0, _⟩ | ⟨_, ao, co, ad, cd, rfl, ho8, hd8⟩⟩
 ·exact absurd rfl h0
 have l8' : Later w7 w8 := l8
 clear k0 kI l8 HRW
 have la := later_allocG w8 (.cells #[.int .u8 tos, .int .u16 id, .bool keep, .int .u8 ttl, .int .u8 17, .int .u32 q.dst, .int .u32 q.src, .slice ao zo.length co, .slice ad zd.length cd] 31)
 have CP := hide (heap_alloc_new w8 (.cells #[.int .u8 tos, .int .u16 id, .bool keep, .int .u8 ttl, .int .u8 17, .int .u32 q.dst, .int .u32 q.src, .slice ao zo.length co, .slice ad zd.length cd] 31))
 have LA := hide la
 have hs78 : w7.heap.size ≤ w8.heap.size := l8'.size
 clear la
 go_upto_region 8 with fail
 generalize w8.alloc _ = w9 at *
 generalize hg9 : w8.heap.size = g9 at *
 have L79 : Later w7 w9 := l8'.trans LA.out
 have hg9x : g7 < g9 := by
  have q1 := (bl9 CI.out)
  omega
 have N0 := hide (later_keep L79 J0.out)
 have N1 := hide (later_keep L79 J1.out)
 have N3 := hide (later_keep L79 J3.out)
 have NF := hide (later_keep L79 JF.out)
 have NI := hide (later_keep L79 CI.out)
 have K9 : Hid (KG base w w9) := K7.out.trans (KG.of_later L79)
 have G9 := hide (G7.out.later L79)
 have O9 := hide ((ho8.mono K7.out.size).kg (KG.of_later (base := base) LA.out))
 have Q9 := hide ((hd8.mono K7.out.size).kg (KG.of_later (base := base) LA.out))
 clear J0 J1 J3 JF CI K7 G7 l8' LA hg9 L79 ho8 hd8 hs78
 refine anyT_begin (R := But (fun q => q = gx + 1)) 13 rfl (by kernel_rfl) ?_
 have ld : Later w9 w9.drew := Later.drew w9
 generalize w9.drew = wd at *
 have hnb : ∀ (k : Nat) (cur : Array Value) (t : TypeId) (fz : Nat × Nat), k ≠ gx + 1 → w9.heap[k]? = some (.cells cur t fz) → ∀ v, But (fun q => q = gx + 1) wd v → v.heap[k]? = some (.cells cur t fz) := fun k cur t fz hk hh v hv => (hv.block k (Array.getElem?_eq_some_iff.1 (later_keep ld hh)).1 (fun e => hk e)).trans (later_keep ld hh)
 have k0 : ∀ v, But (fun q => q = gx + 1) wd v → ∀ j, v.cell? ⟨gx, j, none⟩ = _ := fun v hv => block_cell (hnb gx _ _ _ (by omega) N0.out v hv)
 have k3 : ∀ v, But (fun q => q = gx + 1) wd v → ∀ j, v.cell? ⟨g3, j, none⟩ = _ := fun v hv => block_cell (hnb g3 _ _ _ (by omega) N3.out v hv)
 have k7 : ∀ v, But (fun q => q = gx + 1) wd v → ∀ j, v.cell? ⟨g7, j, none⟩ = _ := fun v hv => block_cell (hnb g7 _ _ _ (by omega) NI.out v hv)
 have k9 : ∀ v, But (fun q => q = gx + 1) wd v → ∀ j, v.cell? ⟨g9, j, none⟩ = _ := fun v hv => block_cell (hnb g9 _ _ _ (by omega) CP.out v hv)
 have kF : ∀ v, But (fun q => q = gx + 1) wd v → ∀ j, v.cell? ⟨f.blk, j, none⟩ = (flc (f.at ST TL)).toArray[j]? := fun v hv => block_cell (hnb f.blk _ _ _ (by omega) NF.out v hv)
 unfold flc Fl.at at kF
 rw [HHP.out] at kF
 unfold noh at kF
 refine tV (But.pre (fun q => q = gx + 1)) 0 rfl rfl ?_; apply Exists.intro; refine ⟨fun v1 hv1 => ?_, ?_⟩; (· (go_simp; rfl)); simp only [Act.put, sA, sB, sC]
 refine tV (But.pre (fun q => q = gx + 1)) 1 rfl rfl ?_; apply Exists.intro; refine ⟨fun v1 hv1 => ?_, ?_⟩; (· (go_simp; rfl)); simp only [Act.put, sA, sB, sC]
 refine tV (But.pre (fun q => q = gx + 1)) 2 rfl rfl ?_; apply Exists.intro; refine ⟨fun v1 hv1 => ?_, ?_⟩; (· (go_simp; rfl)); simp only [Act.put, sA, sB, sC]
 refine tV (But.pre (fun q => q = gx + 1)) 3 rfl rfl ?_; apply Exists.intro; refine ⟨fun v1 hv1 => ?_, ?_⟩; (· (go_simp; rfl)); simp only [Act.put, sA, sB, sC]
 refine tV (But.pre (fun q => q = gx + 1)) 4 rfl rfl ?_; apply Exists.intro; refine ⟨fun v1 hv1 => ?_, ?_⟩; (· (go_simp; rfl)); simp only [Act.put, sA, sB, sC]
 refine tV (But.pre (fun q => q = gx + 1)) 5 rfl rfl ?_; apply Exists.intro; refine ⟨fun v1 hv1 => ?_, ?_⟩; (· (go_simp; rfl)); simp only [Act.put, sA, sB, sC]
 refine tV (But.pre (fun q => q = gx + 1)) 6 rfl rfl ?_; apply Exists.intro; refine ⟨fun v1 hv1 => ?_, ?_⟩; (· (go_simp; rfl)); simp only [Act.put, sA, sB, sC]
 refine tV (But.pre (fun q => q = gx + 1)) 7 rfl rfl ?_; apply Exists.intro; refine ⟨fun v1 hv1 => ?_, ?_⟩; (· (go_simp; rfl)); simp only [Act.put, sA, sB, sC]
 refine tV (But.pre (fun q => q = gx + 1)) 8 rfl rfl ?_; apply Exists.intro; refine ⟨fun v1 hv1 => ?_, ?_⟩; (· (go_simp; rfl)); simp only [Act.put, sA, sB, sC]
 refine tV (But.pre (fun q => q = gx + 1)) 9 rfl rfl ?_; apply Exists.intro; refine ⟨fun v1 hv1 => ?_, ?_⟩; (· (go_simp; rfl)); simp only [Act.put, sA, sB, sC]
 refine tV (But.pre (fun q => q = gx + 1)) 10 rfl rfl ?_; apply Exists.intro; refine ⟨fun v1 hv1 => ?_, ?_⟩; (· (go_simp; rfl)); simp only [Act.put, sA, sB, sC]
 clear k0 k3 k7 k9 kF
 refine anyT_one 11 rfl (by kernel_rfl) rfl ?_
 refine wp_enter 474 #[.agg #[], .agg #[.pointer (some ⟨g, 0, none⟩), .int .u8 tos, .int .u16 id, .bool keep, .int .u8 ttl, .int .u8 17, .int .u32 src, .int .u32 dst, .slice sox zo.length soc, .slice sdx zd.length sdc, .int .i64 side, .pointer (some ⟨f.blk, 0, none⟩), .bool bk, .int .u8 17, .int .u32 src, .int .u32 dst, .int .u16 a, .int .u16 b, .int .u8 17, .int .u32 q.dst, .int .u32 q.src, .int .u16 q.dp, .int .u16 q.sp], .agg #[.int .u8 tos, .int .u16 id, .bool keep, .int .u8 ttl, .int .u8 17, .int .u32 q.dst, .int .u32 q.src, .slice ao zo.length co, .slice ad zd.length cd]] (by have hmt := meth_noh; go_simp) ?_
 refine (nohelp_any _ wd tos id ttl 17 q.dst q.src keep ao ad zo.length co zd.length cd).mono ?_
 rintro e w10 ⟨rfl, l10⟩
 refine ⟨But.of l10, ?_⟩
 simp only [Act.put, sA, sB, sC]
 have N1d := hide (later_keep (ld.trans l10) N1.out)
 have kk := block_cell N1d.out
 have ff := block_frozen N1d.out
 refine anyT_one 12 rfl (by kernel_rfl) rfl ?_
 unfold Oper.wp
 go_simp
 generalize hV : (((((((((w10.setCell ⟨_, 0, none⟩ _).setCell ⟨_, 1, none⟩ _).setCell ⟨_, 2, none⟩ _).setCell ⟨_, 3, none⟩ _).setCell ⟨_, 4, none⟩ _).setCell ⟨_, 5, none⟩ _).setCell ⟨_, 6, none⟩ _).setCell ⟨_, 7, none⟩ _).setCell ⟨_, 8, none⟩ _) = V8
 have hV9 : V8 = putRow w10 (gx + 1) 0 [.int .u8 tos, .int .u16 id, .bool keep, .int .u8 ttl, .int .u8 17, .int .u32 q.dst, .int .u32 q.src, .slice ao zo.length co, .slice ad zd.length cd] := hV.symm
 have hb8 : But (fun b => b = gx + 1) w10 V8 := by rw [hV9]; exact putRow_but (E := fun b => b = gx + 1) (n := gx + 1) rfl _ _ _ _ (But.refl _ _)
 have p8 := putRow_all [.int .u8 tos, .int .u16 id, .bool keep, .int .u8 ttl, .int .u8 17, .int .u32 q.dst, .int .u32 q.src, .slice ao zo.length co, .slice ad zd.length cd] N1d.out rfl
 rw [← hV9] at p8
 clear hV hV9 kk ff
 have HB8 := hide hb8
 have HP8 := hide p8
 clear hb8 p8
 refine ⟨HB8.out, ?_⟩
 refine anyT_done (by kernel_rfl) ?_
 have K10 : KG base w w10 := K9.out.trans (KG.of_later (ld.trans l10))
 have k8 : KG base w V8 := K10.own HB8.out (by omega)
 have o8 := ((O9.out.kg (KG.of_later (base := base) (ld.trans l10))).aside N1d.out (by decide) HB8.out)
 have q8 := ((Q9.out.kg (KG.of_later (base := base) (ld.trans l10))).aside N1d.out (by decide) HB8.out)
 have P8 := block_cell HP8.out
 go_wp2_with fail
 exact bodyPost_ret (v := .agg #[.int .u8 tos, .int .u16 id, .bool keep, .int .u8 ttl, .int .u8 17, .int .u32 q.dst, .int .u32 q.src, .slice ao zo.length co, .slice ad zd.length cd]) (by simp [results, Tryz.results62, go_sem, P8]) rfl (by
  show CbQ base w V8 g s f bk tos id ttl keep zo zd (oth f bk) _
  rw [HQ.out]
  exact ⟨ao, co, ad, cd, rfl, k8, ((G9.out.later (ld.trans l10)).other (TE.one N1d.out) HB8.out (by decide)), o8, q8⟩)
end Go.Proofs.YtajcfhcdincngaaGreatDoor

/- The rows that a flow has in the table. -/
namespace Go.Proofs.YtajcfhcdincngaaGreatDoor
open Go.RowKit Go.Shelf
set_option maxRecDepth 100000
set_option linter.unusedVariables false
set_option linter.unusedSimpArgs false

/-- Two rows, each in its place. -/
def twI (i j : Nat) (x y : Rw) : Nat → List Rw := fun n => (if n = i then [x] else []) ++ (if n = j then [y] else [])
theorem twI_add (i j : Nat) (x y : Rw) : addL (addL (fun _ => []) i x) j y = twI i j x y := by
 funext n
 unfold addL twI
 by_cases h1 : n = j
 ·subst h1
  by_cases h2 : n = i
  ·subst h2; simp
  ·simp [h2]
 ·by_cases h2 : n = i
  ·subst h2; simp [h1]
  ·simp [h1, h2]
theorem twI_mv1 (i j : Nat) (x y : Rw) (tl tn : Int) : mvL (twI i j x y) i 0 tl tn = twI i j { x with till := tl, turn := tn } y := by
 funext n
 unfold mvL twI
 by_cases h : n = i
 ·subst h; simp
 ·simp [h]
theorem twI_mv2 (i j : Nat) (x y : Rw) (tl tn : Int) : mvL (twI i j x y) j (if j = i then 1 else 0) tl tn = twI i j x { y with till := tl, turn := tn } := by
 funext n
 unfold mvL twI
 by_cases h1 : n = j
 ·subst h1
  by_cases h2 : n = i
  ·subst h2; simp
  ·simp [h2]
 ·simp [h1]
theorem twI_len (i j : Nat) (x y : Rw) (n : Nat) : (twI i j x y n).length ≤ 2 := by
 unfold twI
 rw [List.length_append]
 split <;> split <;> simp
theorem twI_mem (i j : Nat) (x y : Rw) (n : Nat) (z : Rw) (h : z ∈ twI i j x y n) : z = x ∨ z = y := by
 unfold twI at h
 rcases List.mem_append.1 h with h | h
 ·split at h
  ·exact .inl (List.mem_singleton.1 h)
  ·cases h
 ·split at h
  ·exact .inr (List.mem_singleton.1 h)
  ·cases h
theorem twI_k1 (p s d a b : Int) (i j : Nat) (x y : Rw) (hb : bki p s d a b = i) (hx : isK p s d (kyp p a) b x = true) : kx p s d a b (twI i j x y) = some 0 ∧ (twI i j x y i)[0]? = some x := by
 unfold kx kix
 rw [hb]
 unfold twI
 rw [if_pos rfl]
 exact ⟨by rw [List.cons_append, List.findIdx?_cons, hx]; rfl, rfl⟩
theorem twI_k2 (p s d a b : Int) (i j : Nat) (x y : Rw) (hb : bki p s d a b = j) (hx : isK p s d (kyp p a) b x = false) (hy : isK p s d (kyp p a) b y = true) : kx p s d a b (twI i j x y) = some (if j = i then 1 else 0) ∧ (twI i j x y j)[if j = i then 1 else 0]? = some y := by
 unfold kx kix
 rw [hb]
 unfold twI
 by_cases h : j = i
 ·subst h
  simp [List.findIdx?_cons, hx, hy]
 ·simp [h, List.findIdx?_cons, hy]
theorem addL_no (p s d a b : Int) (i : Nat) (x : Rw) (hx : isK p s d (kyp p a) b x = false) : kx p s d a b (addL (fun _ => []) i x) = none := by
 unfold kx kix
 rw [List.findIdx?_eq_none_iff]
 intro z hz
 unfold addL at hz
 split at hz
 ·have : z = x := by simpa using hz
  rw [this]; exact hx
 ·cases hz
/-- A tuple's row. -/
def roT (t : Tu) (id tl tn : Int) : Rw := ⟨t.pr, t.src, t.dst, kyp t.pr t.sp, t.dp, id, tl, tn⟩
/-- Two tuples are alike for the table. -/
def tuA (t u : Tu) : Prop := t.pr = u.pr ∧ t.src = u.src ∧ t.dst = u.dst ∧ kyp t.pr t.sp = kyp u.pr u.sp ∧ t.dp = u.dp
theorem isK_yes (t : Tu) (id tl tn : Int) : isK t.pr t.src t.dst (kyp t.pr t.sp) t.dp (roT t id tl tn) = true := by
 unfold isK roT
 simp
theorem isK_not (t u : Tu) (id tl tn : Int) (h : ¬ tuA u t) : isK t.pr t.src t.dst (kyp t.pr t.sp) t.dp (roT u id tl tn) = false := by
 cases hb : isK t.pr t.src t.dst (kyp t.pr t.sp) t.dp (roT u id tl tn) with
 | false => rfl
 | true =>
  unfold isK roT at hb
  simp only [Bool.and_eq_true, beq_iff_eq] at hb
  exact absurd hb h
/-- The rows of a flow: both of its tuples, with its number and its time. -/
def twR (o r : Tu) (id tl t1 t2 : Int) : Nat → List Rw := twI (bkT o) (bkT r) (roT o id tl t1) (roT r id tl t2)
theorem ptT_yes (t : Tu) (id tl : Int) (c tn : Int) (ls : Nat → List Rw) (hm : mayb tl = true) (hc : c < 128) (hk : kx t.pr t.src t.dst t.sp t.dp ls = none) : ptT t id tl (c, tn, ls) = (c + 1, tn + 1, addL ls (bkT t) (roT t id tl (tn + 1))) := by
 have hp : pute 128 c ls t.pr t.src t.dst t.sp t.dp tl = 0 := by
  unfold pute
  rw [if_neg (by rw [hm]; simp), hk, if_neg (by simp), if_neg (by omega)]
 unfold ptT
 rw [if_pos hp]
 rfl
theorem mvT_yes (t : Tu) (tl tn : Int) (ls : Nat → List Rw) (k : Nat) (hm : mayb tl = true) (hk : kxT t ls = some k) : mvT t tl (tn, ls) = (tn + 1, mvL ls (bkT t) k tl (tn + 1)) := by
 unfold mvT
 rw [if_neg (show ¬ mayb tl = false by rw [hm]; simp), hk]
theorem twR_put (o r : Tu) (id tl : Int) (hm : mayb tl = true) (hne : ¬ tuA o r) : ptT r id tl (ptT o id tl (0, 0, fun _ => [])) = (0 + 1 + 1, 0 + 1 + 1, twR o r id tl (0 + 1) (0 + 1 + 1)) := by
 have e1 := ptT_yes o id tl 0 0 (fun _ => []) hm (by omega) (by unfold kx kix; simp)
 have e2 := ptT_yes r id tl (0 + 1) (0 + 1) (addL (fun _ => []) (bkT o) (roT o id tl (0 + 1))) hm (by omega) (addL_no _ _ _ _ _ _ _ (isK_not r o id tl (0 + 1) hne))
 rw [e1, e2, twI_add]
 rfl
theorem twR_ko (o r : Tu) (id tl t1 t2 : Int) : kxT o (twR o r id tl t1 t2) = some 0 ∧ (twR o r id tl t1 t2 (bkT o))[0]? = some (roT o id tl t1) := twI_k1 o.pr o.src o.dst o.sp o.dp (bkT o) (bkT r) _ _ rfl (isK_yes o id tl t1)
theorem twR_kr (o r : Tu) (id tl t1 t2 : Int) (hne : ¬ tuA o r) : kxT r (twR o r id tl t1 t2) = some (if bkT r = bkT o then 1 else 0) ∧ (twR o r id tl t1 t2 (bkT r))[if bkT r = bkT o then 1 else 0]? = some (roT r id tl t2) := twI_k2 r.pr r.src r.dst r.sp r.dp (bkT o) (bkT r) _ _ rfl (isK_not r o id tl t1 hne) (isK_yes r id tl t2)
theorem twR_mv (o r : Tu) (id tl tl2 t1 t2 trn : Int) (hm : mayb tl2 = true) (hne : ¬ tuA o r) : mvT r tl2 (mvT o tl2 (trn, twR o r id tl t1 t2)) = (trn + 1 + 1, twR o r id tl2 (trn + 1) (trn + 1 + 1)) := by
 have e1 := mvT_yes o tl2 trn (twR o r id tl t1 t2) 0 hm (twR_ko o r id tl t1 t2).1
 have q1 : mvL (twR o r id tl t1 t2) (bkT o) 0 tl2 (trn + 1) = twI (bkT o) (bkT r) (roT o id tl2 (trn + 1)) (roT r id tl t2) := twI_mv1 _ _ _ _ _ _
 have k2 : kxT r (twI (bkT o) (bkT r) (roT o id tl2 (trn + 1)) (roT r id tl t2)) = some (if bkT r = bkT o then 1 else 0) := (twI_k2 r.pr r.src r.dst r.sp r.dp (bkT o) (bkT r) _ _ rfl (isK_not r o id tl2 (trn + 1) hne) (isK_yes r id tl t2)).1
 have e2 := mvT_yes r tl2 (trn + 1) (twI (bkT o) (bkT r) (roT o id tl2 (trn + 1)) (roT r id tl t2)) _ hm k2
 have q2 : mvL (twI (bkT o) (bkT r) (roT o id tl2 (trn + 1)) (roT r id tl t2)) (bkT r) (if bkT r = bkT o then 1 else 0) tl2 (trn + 1 + 1) = twR o r id tl2 (trn + 1) (trn + 1 + 1) := twI_mv2 _ _ _ _ _ _
 rw [e1, q1, e2, q2]
theorem twR_due (o r : Tu) (id tl t1 t2 now : Int) (h : now < tl) : duR now (allR (twR o r id tl t1 t2)) = [] := by
 unfold duR
 rw [List.filter_eq_nil_iff]
 intro x hx
 unfold allR at hx
 obtain ⟨j, _, hj⟩ := List.mem_flatMap.1 hx
 have ht : x.till = tl := by
  rcases twI_mem _ _ _ _ _ _ hj with e | e <;> rw [e] <;> rfl
 simp
 omega
theorem twR_len (o r : Tu) (id tl t1 t2 : Int) (j : Nat) : (twR o r id tl t1 t2 j).length ≤ 2 := twI_len _ _ _ _ _
theorem all_few (ls : Nat → List Rw) (h : ∀ j, (ls j).length ≤ 2) : (allR ls).length ≤ 512 := by
 unfold allR
 have q : ∀ (l : List Nat), (l.flatMap ls).length ≤ 2 * l.length := fun l => by
  induction l with
  | nil => simp
  | cons x l ih => rw [List.flatMap_cons, List.length_append, List.length_cons]; have := h x; omega
 have := q (List.range 256)
 rw [List.length_range] at this
 exact this
theorem twR_all (o r : Tu) (id tl t1 t2 : Int) : (allR (twR o r id tl t1 t2)).length ≤ 512 := all_few _ (twR_len o r id tl t1 t2)
end Go.Proofs.YtajcfhcdincngaaGreatDoor

/- Package gate: time goes on at a gateway of which nothing is due. -/
namespace Go.Proofs.YtajcfhcdincngaaGreatDoor
open Go.RowKit Go.Shelf
set_option maxRecDepth 100000
set_option linter.unusedVariables false
set_option linter.unusedSimpArgs false

/-- Its time is another one. -/
theorem GF.now {base g : Nat} {W : World} {s : Gf} (h : GF base W g s) (n : Int) : GF base (W.setCell ⟨g, 2, none⟩ (.int .i64 n)) g { s with now := n } := by
 have hb : But (fun b => b = g) W (W.setCell ⟨g, 2, none⟩ (.int .i64 n)) := (But.refl (fun b => b = g) _).setCell (show _ = _ from rfl) _
 have hE := TE.one h.gc
 exact ⟨h.bs, heap_set1 h.gc 2 (.int .i64 n), ⟨h.rl.1, hE.keep hb h.rl.2.1 (isT_no (by decide) _ _), hE.own hb h.rl.2.2 (isT_no (by decide))⟩, hE.table hb h.tb (isT_no (by decide)) (isT_no (by decide)), ⟨h.bl.1, hE.keep hb h.bl.2.1 (isT_no (by decide) _ _), hE.own hb h.bl.2.2 (isT_no (by decide))⟩, hE.keep hb h.fl (isT_map _ _), hE.keep hb h.pl (isT_map _ _), h.ne, h.bf, h.fm, h.pm, fun f hf => ⟨(h.fb f hf).1, hE.keep hb (h.fb f hf).2 (isT_no (by decide) _ _)⟩, fun p hp => ⟨(h.pb p hp).1, (h.pb p hp).2.1, hE.keep hb (h.pb p hp).2.2 (isT_no (by decide) _ _)⟩⟩
/-- Its book is another one. -/
theorem GF.book {base g : Nat} {W W' : World} {s : Gf} (h : GF base W g s) (hb : But (fun b => b = s.gb) W W') {v : Value} {l : List Ex} (hl : BL 165 base W' s.gb v l) : GF base W' g { s with ve := v, ex := l } := by
 have hE := TE.one h.bl.2.1
 exact ⟨h.bs, hE.keep hb h.gc (isT_no (by decide) _ _), ⟨h.rl.1, hE.keep hb h.rl.2.1 (isT_no (by decide) _ _), hE.own hb h.rl.2.2 (isT_no (by decide))⟩, hE.table hb h.tb (isT_no (by decide)) (isT_no (by decide)), hl, hE.keep hb h.fl (isT_map _ _), hE.keep hb h.pl (isT_map _ _), h.ne, h.bf, h.fm, h.pm, fun f hf => ⟨(h.fb f hf).1, hE.keep hb (h.fb f hf).2 (isT_no (by decide) _ _)⟩, fun p hp => ⟨(h.pb p hp).1, (h.pb p hp).2.1, hE.keep hb (h.pb p hp).2.2 (isT_no (by decide) _ _)⟩⟩
theorem dueF_none (base bt : Nat) (cnt trn now : Int) (ls : Nat → List Rw) (w : World) (hT : TB base w bt 128 cnt trn ls) (hd : duR now (allR ls) = []) (hal : (allR ls).length ≤ 5000) :
  Calls Tryz.prog 41 #[.pointer (some ⟨bt, 0, none⟩), .int .i64 now] w fun e w' => (∃ g, e = .returned (.slice (some ⟨g, 0, none⟩) 0 0)) ∧ Later w w' := by
 refine (due_any base bt 128 cnt trn now ls [] w hT (by rw [hd]; exact sorts_one [] (by simp)) hal).mono ?_
 rintro e w' ⟨l, g, rfl, _, _⟩
 exact ⟨⟨g, rfl⟩, l⟩
/-- The gateway, some time later. -/
def ltr (s : Gf) (n : Int) (v : Value) : Gf := { s with now := n, ve := v }
def TqG (base : Nat) (w w' : World) (g : Nat) (s : Gf) (nw : Int) : Prop := But (fun b => b = g ∨ b = s.gb) w w' ∧ ∃ n v, (0 ≤ n ∧ n ≤ 549755813888) ∧ (n ≤ nw ∨ n ≤ s.now) ∧ s.now ≤ n ∧ GF base w' g (ltr s n v)
theorem TqG.kg {base g : Nat} {w w' : World} {s : Gf} (h : But (fun b => b = g ∨ b = s.gb) w w') (hg : GF base w g s) : KG base w w' := KG.of_but h (fun k e => by
 rcases e with e | e
 ·rw [e]
  refine ⟨hg.bs, fun ob ho => ?_⟩
  rw [hg.gc] at ho
  cases ho
  show gTs.contains _ = true
  decide
 ·rw [e]
  refine ⟨hg.bl.1, fun ob ho => ?_⟩
  rw [hg.bl.2.1] at ho
  cases ho
  show gTs.contains _ = true
  decide)

set_option maxRecDepth 100000 in
set_option maxHeartbeats 8000000 in
theorem tick_quiet (base g : Nat) (s : Gf) (nw : Int) (w : World) (h : GF base w g s) (hbs : base ≤ w.heap.size) (hnw : 0 ≤ s.now ∧ s.now ≤ 549755813888) (hex : s.ex = []) (hdu : ∀ n, n ≤ nw ∨ n ≤ s.now → duR n (allR s.rw) = []) (hal : (allR s.rw).length ≤ 5000) :
  Calls Tryz.prog 18 #[.pointer (some ⟨g, 0, none⟩), .int .i64 nw] w fun e w' => e = .returned (.tuple #[]) ∧ TqG base w w' g s nw := by
 have HDU := hide hdu
 have HEX := hide hex
 have HAL := hide hal
 clear hdu hex hal
 have HG := hide h
 have hbg := h.bs
 go_enter Tryz.func18, Tryz.ntmps18
 have k0 := block_cell h.gc
 have f0 := block_frozen h.gc
 unfold gfc at k0
 go_upto_region 1 with fail
 go_cut [18] (fun _ wx => ∃ nv : Int, ((0 ≤ nv ∧ nv ≤ 549755813888) ∧ (nv ≤ nw ∨ nv ≤ s.now) ∧ s.now ≤ nv) ∧ wx = w.setCell ⟨g, 2, none⟩ (.int .i64 nv))
 case first =>
  go_wp2_with fail
  all_goals
   go_meet
   case rel => exact ⟨_, by omega, rfl⟩
 case rest =>
 clear k0 f0
 obtain ⟨nv, hnr, hnv⟩ := hcut
 obtain ⟨w1, hw1⟩ : ∃ w1, w1 = wc := ⟨_, rfl⟩
 subst hw1
 have h1 : GF base w1 g { s with now := nv } := by rw [hnv]; exact h.now nv
 have M1 : But (fun b => b = g ∨ b = s.gb) w w1 := by
  rw [hnv]
  exact (But.refl (fun b => b = g ∨ b = s.gb) w).setCell (p := ⟨g, 2, none⟩) (show _ ∨ _ from .inl rfl) (.int .i64 nv)
 obtain ⟨s1, hs1⟩ : ∃ s1 : Gf, s1 = { s with now := nv } := ⟨_, rfl⟩
 have e1 : s1.gb = s.gb := by rw [hs1]
 have e2 : s1.ex = [] := by rw [hs1]; exact HEX.out
 have e3 : duR s1.now (allR s1.rw) = [] := by rw [hs1]; exact HDU.out nv hnr.2.1
 have e4 : (allR s1.rw).length ≤ 5000 := by rw [hs1]; exact HAL.out
 have e5 : ∀ v, { s1 with ve := v, ex := [] } = ltr s nv v := fun v => by rw [hs1]; unfold ltr; rw [← HEX.out]
 rw [← hs1] at h1
 have HGB := hide e1
 have HE2 := hide e2
 have HE3 := hide e3
 have HE4 := hide e4
 have HE5 := hide e5
 have HNR := hide hnr
 clear hs1 e1 e2 e3 e4 e5 hnv hnr HDU HEX HAL HG h hnw
 go_upto_region 2 with fail
 refine anyT_begin (R := Later) 11 rfl (by kernel_rfl) ?_
 have ld : Later w1 w1.drew := Later.drew w1
 generalize w1.drew = w2 at *
 have h2 := h1.later ld
 have M2 : But (fun b => b = g ∨ b = s.gb) w w2 := M1.trans (But.of ld)
 have q1 : ∀ v, Later w2 v → ∀ j, v.cell? ⟨g, j, none⟩ = (gfc s1).toArray[j]? := fun v hv => block_cell (later_keep hv h2.gc)
 unfold gfc at q1
 have H2 := hide h2
 clear h1 h2 ld M1
 refine tV Later.pre 0 rfl rfl ?_; apply Exists.intro; refine ⟨fun v1 hv1 => ?_, ?_⟩; (· (go_simp; rfl)); simp only [Act.put, sA, sB, sC]
 refine tV Later.pre 1 rfl rfl ?_; apply Exists.intro; refine ⟨fun v1 hv1 => ?_, ?_⟩; (· (go_simp; rfl)); simp only [Act.put, sA, sB, sC]
 refine tV Later.pre 2 rfl rfl ?_; apply Exists.intro; refine ⟨fun v1 hv1 => ?_, ?_⟩; (· (go_simp; rfl)); simp only [Act.put, sA, sB, sC]
 refine tV Later.pre 3 rfl rfl ?_; apply Exists.intro; refine ⟨fun v1 hv1 => ?_, ?_⟩; (· (go_simp; rfl)); simp only [Act.put, sA, sB, sC]
 refine tV Later.pre 4 rfl rfl ?_; apply Exists.intro; refine ⟨fun v1 hv1 => ?_, ?_⟩; (· (go_simp; rfl)); simp only [Act.put, sA, sB, sC]
 refine tV Later.pre 5 rfl rfl ?_; apply Exists.intro; refine ⟨fun v1 hv1 => ?_, ?_⟩; (· (go_simp; rfl)); simp only [Act.put, sA, sB, sC]
 refine tV Later.pre 6 rfl rfl ?_; apply Exists.intro; refine ⟨fun v1 hv1 => ?_, ?_⟩; (· (go_simp; rfl)); simp only [Act.put, sA, sB, sC]
 refine tV Later.pre 7 rfl rfl ?_; apply Exists.intro; refine ⟨fun v1 hv1 => ?_, ?_⟩; (· (go_simp; rfl)); simp only [Act.put, sA, sB, sC]
 refine tV Later.pre 10 rfl rfl ?_; apply Exists.intro; refine ⟨fun v1 hv1 => ?_, ?_⟩; (· (go_simp; rfl)); simp only [Act.put, sA, sB, sC]
 clear q1
 refine anyT_one 8 rfl (by kernel_rfl) rfl ?_
 refine wp_enter 41 #[.pointer (some ⟨s1.gt, 0, none⟩), .int .i64 s1.now] (by go_simp) ?_
 refine (dueF_none base s1.gt s1.cnt s1.trn s1.now s1.rw w2 H2.out.tb HE3.out HE4.out).mono ?_
 rintro e w3 ⟨⟨gd, rfl⟩, l3⟩
 refine ⟨l3, ?_⟩
 simp only [Act.put, sA, sB, sC]
 refine tV Later.pre 9 rfl rfl ?_; apply Exists.intro; refine ⟨fun v1 hv1 => ?_, ?_⟩; (· (go_simp; rfl)); simp only [Act.put, sA, sB, sC]
 refine anyT_done (by kernel_rfl) ?_
 have h3 := H2.out.later l3
 have M3 : But (fun b => b = g ∨ b = s.gb) w w3 := M2.trans (But.of l3)
 have H3 := hide h3
 clear H2 h3 M2 l3
 go_upto_region 3 with fail
 go_loopw [31] (fun iv wr => iv = .int .i64 0 ∧ wr = w3) (fun _ _ => 0)
 case atStart => exact ⟨rfl, rfl⟩
 case round =>
  obtain ⟨rfl, hw⟩ := hrel
  subst hw
  go_upto_region 9 with fail
  refine anyT_begin (R := But (fun b => b = s1.gb)) 11 rfl (by kernel_rfl) ?_
  have ld : Later wr wr.drew := Later.drew wr
  generalize wr.drew = w4 at *
  have h4 := H3.out.later ld
  have M4 : But (fun b => b = g ∨ b = s.gb) w w4 := M3.trans (But.of ld)
  have q1 : ∀ v, But (fun b => b = s1.gb) w4 v → ∀ j, v.cell? ⟨g, j, none⟩ = (gfc s1).toArray[j]? := fun v hv => block_cell (cellsG_but hv h4.gc h4.bl.2.1 (by intro e; injection e with e1 e2 e3; exact absurd e2 (by decide)))
  unfold gfc at q1
  have H4 := hide h4
  clear H3 h4 M3 ld
  refine tV (But.pre (fun b => b = s1.gb)) 0 rfl rfl ?_; apply Exists.intro; refine ⟨fun v1 hv1 => ?_, ?_⟩; (· (go_simp; rfl)); simp only [Act.put, sA, sB, sC]
  refine tV (But.pre (fun b => b = s1.gb)) 1 rfl rfl ?_; apply Exists.intro; refine ⟨fun v1 hv1 => ?_, ?_⟩; (· (go_simp; rfl)); simp only [Act.put, sA, sB, sC]
  refine tV (But.pre (fun b => b = s1.gb)) 2 rfl rfl ?_; apply Exists.intro; refine ⟨fun v1 hv1 => ?_, ?_⟩; (· (go_simp; rfl)); simp only [Act.put, sA, sB, sC]
  refine tV (But.pre (fun b => b = s1.gb)) 3 rfl rfl ?_; apply Exists.intro; refine ⟨fun v1 hv1 => ?_, ?_⟩; (· (go_simp; rfl)); simp only [Act.put, sA, sB, sC]
  refine tV (But.pre (fun b => b = s1.gb)) 4 rfl rfl ?_; apply Exists.intro; refine ⟨fun v1 hv1 => ?_, ?_⟩; (· (go_simp; rfl)); simp only [Act.put, sA, sB, sC]
  refine tV (But.pre (fun b => b = s1.gb)) 5 rfl rfl ?_; apply Exists.intro; refine ⟨fun v1 hv1 => ?_, ?_⟩; (· (go_simp; rfl)); simp only [Act.put, sA, sB, sC]
  refine tV (But.pre (fun b => b = s1.gb)) 6 rfl rfl ?_; apply Exists.intro; refine ⟨fun v1 hv1 => ?_, ?_⟩; (· (go_simp; rfl)); simp only [Act.put, sA, sB, sC]
  refine tV (But.pre (fun b => b = s1.gb)) 7 rfl rfl ?_; apply Exists.intro; refine ⟨fun v1 hv1 => ?_, ?_⟩; (· (go_simp; rfl)); simp only [Act.put, sA, sB, sC]
  refine tV (But.pre (fun b => b = s1.gb)) 8 rfl rfl ?_; apply Exists.intro; refine ⟨fun v1 hv1 => ?_, ?_⟩; (· (go_simp; rfl)); simp only [Act.put, sA, sB, sC]
  clear q1
  refine anyT_one 9 rfl (by kernel_rfl) rfl ?_
  refine wp_enter 45 #[.pointer (some ⟨s1.gb, 0, none⟩), .int .i64 s1.now] (by go_simp) ?_
  refine (due12_any base s1.gb s1.ve [] s1.now w4 (by have q := H4.out.bl; rw [HE2.out] at q; exact q) (Nat.le_trans hbs M4.size) (by simp)).mono ?_
  rintro e w5 ⟨u, rfl, v5, hbl, hrow, hbut, _⟩
  obtain ⟨ua, uc, rfl⟩ : ∃ a c, u = .slice a 0 c := by
   obtain ⟨_, ⟨rfl, _⟩ | ⟨b, cap, cur, rfl, _⟩⟩ := hrow
   ·exact ⟨_, _, rfl⟩
   ·exact ⟨_, _, rfl⟩
  have h5 := H4.out.book hbut hbl
  have M5 : But (fun b => b = g ∨ b = s.gb) w w5 := M4.trans ⟨hbut.os, hbut.tape, hbut.output, hbut.size, fun i hi he => hbut.block i hi (fun e => he (.inr (by have e' : i = s1.gb := e; rw [e', HGB.out])))⟩
  have HB := hide hbut
  clear hbut hrow hbl
  refine ⟨HB.out, ?_⟩
  simp only [Act.put, sA, sB, sC]
  refine anyT_one 10 rfl (by kernel_rfl) rfl ?_
  refine wp_enter 44 #[.pointer (some ⟨g, 0, none⟩), .slice ua 0 uc] (by go_simp) ?_
  refine (giveExpected_none _ ua uc w5).mono ?_
  rintro e w6 ⟨rfl, hw6⟩
  subst hw6
  refine ⟨But.refl _ _, ?_⟩
  simp only [Act.put, sA, sB, sC]
  refine anyT_done (by kernel_rfl) ?_
  go_wp2_with fail
  go_end0
  exact ⟨rfl, M5, _, v5, HNR.out.1, HNR.out.2.1, HNR.out.2.2, by rw [← HE5.out]; exact h5⟩

end Go.Proofs.YtajcfhcdincngaaGreatDoor

/- Package gate: a packet of Udp whose flow begins is passed. -/
namespace Go.Proofs.YtajcfhcdincngaaGreatDoor
open Go.RowKit Go.Shelf
set_option maxRecDepth 100000
set_option linter.unusedVariables false
set_option linter.unusedSimpArgs false

theorem opp_in (w : World) : Calls Tryz.prog 63 #[.int .i64 0] w fun e w' => e = .returned (.int .i64 1) ∧ w' = w := by
 go_enter Tryz.func63, Tryz.ntmps63
 go_wp2_with fail
 go_ret
 exact ⟨rfl, rfl⟩
/-- What is kept of a gateway when a flow has begun. -/
def Bgn (s : Gf) (src dst : Int) (a : Nat) (b : Int) (mr : Ru) (f : Fl) : Prop := f.id = s.bg ∧ f.o = ⟨17, src, dst, (a : Int), b⟩ ∧ f.r = ⟨17, dst, mr.tt, b, (tkn s.lo s.hi a : Int)⟩ ∧ f.side = 0 ∧ f.ms = -1 ∧ f.hp = noh
def bgS (s : Gf) (a : Nat) (mr : Ru) (pb : Nat) (f : Fl) : Gf := bcS (opS (withP s 17 mr.tt pb (wsR (wsOf (nums s.lo s.hi)) (tkn s.lo s.hi a))) f) f 8
/-- The bytes of a packet that is passed. -/
def psB (s : Gf) (tos id ttl dst : Int) (keep : Bool) (zo zd : List Int) (a : Nat) (b : Int) (mr : Ru) : List Int := hdr tos id keep (ttl - 1) 17 mr.tt dst zo (20 + zo.length + zd.length) ++ rwD 17 mr.tt dst (tkn s.lo s.hi a : Int) b zd
def HdQ (base : Nat) (w w' : World) (g : Nat) (s : Gf) (zs : List Int) (a : Nat) (b : Int) (mr : Ru) (e : Ending) : Prop := ∃ (f : Fl) (pb : Nat) (v : Value), w.heap.size ≤ f.blk ∧ e = .returned (.agg #[.int .i64 0, .int .i64 1, v]) ∧ KG base w w' ∧ Bgn s (wat4 zs 12) (wat4 zs 16) a b mr f ∧ GF base w' g (bgS s a mr pb f) ∧ Ow w.heap.size w' v (psB s (zs[1]?.getD 0) (wat zs 4) (zs[8]?.getD 0) (wat4 zs 16) (decide (16384 ≤ wat zs 6 % 32768)) ((zs.take (hl4 zs).toNat).drop 20) ((zs.take (ral false zs).toNat).drop (hl4 zs).toNat) a b mr)

set_option maxRecDepth 100000 in
set_option maxHeartbeats 8000000 in
theorem handle_yes (base g : Nat) (s : Gf) (sb : Value) (zs : List Int) (a : Nat) (b : Int) (mr : Ru) (w : World) (h : GF base w g s) (hB : Mt.By zs) (hI : Rd w.heap.size w sb zs) (hl : zs.length ≤ 60000)
  (hp : rde false zs = 0) (hpr : zs[9]?.getD 0 = 17) (htt : (2 : Int) ≤ zs[8]?.getD 0) (hR : Rdy s (wat4 zs 12) (wat4 zs 16) a b mr) (he : ofe 17 (wat4 zs 12) (wat4 zs 16) ((zs.take (ral false zs).toNat).drop (hl4 zs).toNat) = 0) (hea : ofa 17 ((zs.take (ral false zs).toNat).drop (hl4 zs).toNat) = (a : Int)) (heb : ofb 17 ((zs.take (ral false zs).toNat).drop (hl4 zs).toNat) = b) (hlo : ((zs.take (hl4 zs).toNat).drop 20).length ≤ 40) (hlm : ((zs.take (hl4 zs).toNat).drop 20).length % 4 = 0) (hall : 20 + ((zs.take (hl4 zs).toNat).drop 20).length + ((zs.take (ral false zs).toNat).drop (hl4 zs).toNat).length ≤ 65535)
  (hbs : base ≤ w.heap.size) (hz : ∀ W, KG base w W → Tb W ∧ Dz W) (hgz : 1 ≤ w.heap.size) :
  Calls Tryz.prog 29 #[.pointer (some ⟨g, 0, none⟩), .int .i64 0, sb] w fun e w' => HdQ base w w' g s zs a b mr e := by
 unfold HdQ
 have hmf : ∀ (fn : Fn) (first cap : Array Value) (w : World), (Instr.makeFunc fn first cap).run Tryz.prog w = .ok (.func fn first cap) w := fun _ _ _ _ => rfl
 obtain ⟨ia, icap, rfl, hl1, hm1⟩ := hI.slice
 have l0 := later_allocG w (.cells (oc 0).toArray 43)
 have C0 := hide (heap_alloc_new w (.cells (oc 0).toArray 43))
 have HP := hide (parse_any _ zs _ hB (by omega) (hI.later l0))
 have HG := hide h
 have bt := hB.at 1
 have bl := hB.at 8
 have bi : 0 ≤ wat zs 4 ∧ wat zs 4 ≤ 65535 := wat_bd hB 4
 have hBd : Mt.By ((zs.take (ral false zs).toNat).drop (hl4 zs).toNat) := (hB.take _).drop _
 have hBo : Mt.By ((zs.take (hl4 zs).toNat).drop 20) := (hB.take _).drop _
 clear h hI
 go_enter_defers Tryz.func29, Tryz.ntmps29
 go_wp2_with fail
 change Calls _ _ _ (w.alloc (.cells (oc 0).toArray 43)) _
 generalize hw1 : w.alloc (.cells (oc 0).toArray 43) = w1 at *
 clear hw1
 refine HP.out.mono ?_
 rintro e w2 ⟨l2, ⟨h1, rfl⟩ | ⟨h1, so, sd, rfl, hOo, hOd⟩⟩
 ·exact absurd hp h1
 clear h1 HP hp
 have l2' : Later w1 w2 := l2
 obtain ⟨oa, ocp, rfl, _, _⟩ := hOo.slice
 obtain ⟨da, dcp, rfl, _, _⟩ := hOd.slice
 have hld : ((zs.take (ral false zs).toNat).drop (hl4 zs).toNat).length ≤ 65535 := by omega
 generalize hzd : ((zs.take (ral false zs).toNat).drop (hl4 zs).toNat) = zd at *
 generalize hzo : ((zs.take (hl4 zs).toNat).drop 20) = zo at *
 unfold pkt
 rw [hpr]
 generalize htos : zs[1]?.getD 0 = tos at *
 generalize hidd : wat zs 4 = id at *
 generalize hkp : decide (16384 ≤ wat zs 6 % 32768) = keep at *
 generalize httl : zs[8]?.getD 0 = ttl at *
 clear hpr
 generalize hsrc : wat4 zs 12 = src at *
 generalize hdst : wat4 zs 16 = dst at *
 have EQS := hide (show (((zs[1]?.getD 0 = tos ∧ wat zs 4 = id) ∧ decide (16384 ≤ wat zs 6 % 32768) = keep) ∧ zs[8]?.getD 0 = ttl) ∧ (wat4 zs 12 = src ∧ wat4 zs 16 = dst) ∧ ((zs.take (ral false zs).toNat).drop (hl4 zs).toNat) = zd ∧ ((zs.take (hl4 zs).toNat).drop 20) = zo from ⟨⟨⟨⟨htos, hidd⟩, hkp⟩, httl⟩, ⟨hsrc, hdst⟩, hzd, hzo⟩)
 clear htos hidd hkp httl hsrc hdst hzd hzo
 have la := later_allocG w2 (.cells #[.int .u8 tos, .int .u16 id, .bool keep, .int .u8 ttl, .int .u8 17, .int .u32 src, .int .u32 dst, .slice oa zo.length ocp, .slice da zd.length dcp] 31)
 have CP := hide (heap_alloc_new w2 (.cells #[.int .u8 tos, .int .u16 id, .bool keep, .int .u8 ttl, .int .u8 17, .int .u32 src, .int .u32 dst, .slice oa zo.length ocp, .slice da zd.length dcp] 31))
 have D0 := hide (later_keep (l2'.trans la) C0.out)
 have L3 : Later w (w2.alloc (.cells #[.int .u8 tos, .int .u16 id, .bool keep, .int .u8 ttl, .int .u8 17, .int .u32 src, .int .u32 dst, .slice oa zo.length ocp, .slice da zd.length dcp] 31)) := l0.trans (l2'.trans la)
 have O3 := hide (hOo.kg (KG.of_later (base := base) la))
 have Q3 := hide (hOd.kg (KG.of_later (base := base) la))
 have hgp : w1.heap.size ≤ w2.heap.size := l2'.size
 have hg1 := (bl9 C0.out)
 clear hOo hOd la l2 l2'
 go_upto_region 3 with fail
 change Code.wp _ _ _ _ (w2.alloc (.cells #[.int .u8 tos, .int .u16 id, .bool keep, .int .u8 ttl, .int .u8 17, .int .u32 src, .int .u32 dst, .slice oa zo.length ocp, .slice da zd.length dcp] 31))
 generalize w2.alloc (.cells #[.int .u8 tos, .int .u16 id, .bool keep, .int .u8 ttl, .int .u8 17, .int .u32 src, .int .u32 dst, .slice oa zo.length ocp, .slice da zd.length dcp] 31) = w3 at *
 generalize w2.heap.size = gp at *
 have H3 := hide (HG.out.later L3)
 have hfl : flt zo.length zd.length = 0 := by unfold flt; rw [if_neg (by omega), if_neg (by omega)]
 have HCH := hide (changed_yes base g s tos id ttl src dst keep (.slice oa zo.length ocp) (.slice da zd.length dcp) zo zd a b mr w1.heap.size w3 H3.out hR he hea heb hfl hBo hBd O3.out Q3.out (by omega) (by omega) bt bi bl (Nat.le_trans hbs L3.size) (fun W k => hz W ((KG.of_later L3).trans k)) (Nat.le_trans hgz L3.size))
 have btt := hR.tt
 have bdd := hR.hd
 clear H3 he hea heb hfl hz hgz O3 Q3 HG hR C0
 have kp := block_cell CP.out
 have ht2 : ¬ ttl < 2 := by omega
 go_wp2_with fail
 refine (grefuse_no 1 _).mono ?_
 rintro e w4 ⟨rfl, hw4⟩
 subst hw4
 go_wp2_with fail
 refine HCH.out.mono ?_
 rintro e w4 ⟨f, pb, ao, co, ad, cd, hfb, rfl, k4, hbn, hG4, o4, q4⟩
 clear kp HCH
 have K4 : KG base w w4 := (KG.of_later L3).trans k4
 have E0 := hide (k4.cells D0.out (by decide))
 have EP := hide (k4.cells CP.out (by decide))
 have G4 := hide hG4
 have o4' := hide (o4.mono L3.size)
 have q4' := hide (q4.mono L3.size)
 have HBN := hide hbn
 clear D0 CP hG4 o4 q4 k4 hbn
 have kp := block_cell EP.out
 have fp := block_frozen EP.out
 go_upto_region 5 with fail
 generalize hV : (((((((((w4.setCell ⟨_, 0, none⟩ _).setCell ⟨_, 1, none⟩ _).setCell ⟨_, 2, none⟩ _).setCell ⟨_, 3, none⟩ _).setCell ⟨_, 4, none⟩ _).setCell ⟨_, 5, none⟩ _).setCell ⟨_, 6, none⟩ _).setCell ⟨_, 7, none⟩ _).setCell ⟨_, 8, none⟩ _) = w5
 have hV9 : w5 = putRow w4 gp 0 [.int .u8 tos, .int .u16 id, .bool keep, .int .u8 ttl, .int .u8 17, .int .u32 mr.tt, .int .u32 dst, .slice ao zo.length co, .slice ad zd.length cd] := hV.symm
 have hb5 : But (fun b => b = gp) w4 w5 := by rw [hV9]; exact putRow_but (E := fun b => b = gp) (n := gp) rfl _ _ _ _ (But.refl _ _)
 have p5 := putRow_all [.int .u8 tos, .int .u16 id, .bool keep, .int .u8 ttl, .int .u8 17, .int .u32 mr.tt, .int .u32 dst, .slice ao zo.length co, .slice ad zd.length cd] EP.out rfl
 rw [← hV9] at p5
 clear hV hV9 kp fp
 have G5 := hide (G4.out.other (TE.one EP.out) hb5 (by decide))
 have O5 := hide (o4'.out.aside EP.out (by decide) hb5)
 have Q5 := hide (q4'.out.aside EP.out (by decide) hb5)
 have K5 : Hid (KG base w w5) := K4.own hb5 (by omega)
 have F0 := hide ((hb5.block w.heap.size (bl9 E0.out) (fun e => by have e' : w.heap.size = gp := e; omega)).trans E0.out)
 have FP := hide p5
 clear G4 o4' q4' K4 E0 EP hb5 p5
 have kp := block_cell FP.out
 have fp := block_frozen FP.out
 have P6 := hide (heap_set1 FP.out 3 (.int .u8 (ttl - 1)))
 have hb6 : But (fun b => b = gp) w5 (w5.setCell ⟨gp, 3, none⟩ (.int .u8 (ttl - 1))) := (But.refl (fun b => b = gp) w5).setCell (p := ⟨gp, 3, none⟩) (show _ = _ from rfl) _
 have HB6 := hide hb6
 clear hb6
 go_upto_region 6 with fail
 have hQ6 : (w5.setCell ⟨gp, 3, none⟩ (.int .u8 (ttl - 1))).heap[gp]? = some (.cells #[.int .u8 tos, .int .u16 id, .bool keep, .int .u8 (ttl - 1), .int .u8 17, .int .u32 mr.tt, .int .u32 dst, .slice ao zo.length co, .slice ad zd.length cd] 31 (0, 0)) := P6.out
 have G6 := hide (G5.out.other (TE.one FP.out) HB6.out (by decide))
 have o6 := O5.out.aside FP.out (by decide) HB6.out
 have q6 := Q5.out.aside FP.out (by decide) HB6.out
 have O6 := hide o6
 have Q6 := hide q6
 have K6 := hide (K5.out.own HB6.out (by omega))
 have F6 := hide ((HB6.out.block w.heap.size (bl9 F0.out) (fun e => by have e' : w.heap.size = gp := e; omega)).trans F0.out)
 have FQ6 := hide hQ6
 have hrl : (rwD 17 mr.tt dst (tkn s.lo s.hi a : Int) b zd).length = zd.length := by
  obtain ⟨_, _, e, _, _⟩ := q6.slice
  injection e with e1 e2 e3
  exact e2.symm
 have HRL := hide hrl
 clear o6 q6 hQ6 hrl kp fp G5 O5 Q5 K5 F0 FP P6 HB6
 generalize w5.setCell ⟨gp, 3, none⟩ (.int .u8 (ttl - 1)) = w6 at *
 have HBU := hide (build_yes tos id (ttl - 1) 17 mr.tt dst keep (.slice ao zo.length co) (.slice ad zd.length cd) zo (rwD 17 mr.tt dst (tkn s.lo s.hi a : Int) b zd) w6 hBo O6.out.rd Q6.out.rd hlo hlm (by rw [HRL.out]; exact hall) bt bi (by omega) (by decide) btt bdd)
 rw [HRL.out] at HBU
 have k6 := block_cell FQ6.out
 clear hall hlm hlo
 go_wp2_with fail
 refine HBU.out.mono ?_
 rintro e w7 ⟨v, rfl, hO7, l7⟩
 have l7' : Later w6 w7 := l7
 obtain ⟨va, vc, rfl, _, _⟩ := hO7.slice
 have F7 := hide (later_keep l7' F6.out)
 have G7 := hide (G6.out.later l7')
 have K7 := hide (K6.out.trans (KG.of_later l7'))
 have O7 := hide (hO7.mono K6.out.size)
 clear k6 HBU l7 l7' hO7 F6 G6 K6 O6 Q6 FQ6
 generalize hob : hdr tos id keep (ttl - 1) 17 mr.tt dst zo (20 + zo.length + zd.length) ++ rwD 17 mr.tt dst (tkn s.lo s.hi a : Int) b zd = ob at *
 have HOB := hide hob
 clear hob
 go_wp2_with fail
 refine (opp_in w7).mono ?_
 rintro e w8 ⟨rfl, hw8⟩
 subst hw8
 have k0 := block_cell F7.out
 have f0 := block_frozen F7.out
 unfold oc at k0
 go_wp2_with fail
 generalize hV : (((w8.setCell ⟨_, 0, none⟩ _).setCell ⟨_, 1, none⟩ _).setCell ⟨_, 2, none⟩ _) = V8
 have hV9 : V8 = putRow w8 w.heap.size 0 [.int .i64 0, .int .i64 1, .slice va ob.length vc] := hV.symm
 have hb8 : But (fun b => b = w.heap.size) w8 V8 := by rw [hV9]; exact putRow_but (E := fun b => b = w.heap.size) (n := w.heap.size) rfl _ _ _ _ (But.refl _ _)
 have p8 := putRow_all [.int .i64 0, .int .i64 1, .slice va ob.length vc] F7.out rfl
 rw [← hV9] at p8
 clear hV hV9 k0 f0
 have h8 := G7.out.other (TE.one F7.out) hb8 (by decide)
 have o8 := O7.out.aside F7.out (by decide) hb8
 have k8 := K7.out.own hb8 (Nat.le_refl _)
 exact gdoor_idle _ w.heap.size _ _ _ V8 p8 rfl ⟨f, pb, .slice va ob.length vc, Nat.le_trans L3.size hfb, rfl, k8, by obtain ⟨⟨⟨⟨q1, q2⟩, q3⟩, q4⟩, ⟨q5, q6⟩, q7, q8⟩ := EQS.out; unfold Bgn; rw [q5, q6]; exact HBN.out, h8, by obtain ⟨⟨⟨⟨q1, q2⟩, q3⟩, q4⟩, ⟨q5, q6⟩, q7, q8⟩ := EQS.out; unfold psB; rw [q1, q2, q3, q4, q6, q7, q8, HOB.out]; exact o8⟩
end Go.Proofs.YtajcfhcdincngaaGreatDoor

/- Package gate: the first datagram from inside is passed. -/
namespace Go.Proofs.YtajcfhcdincngaaGreatDoor
open Go.RowKit Go.Shelf
set_option maxRecDepth 100000
set_option linter.unusedVariables false
set_option linter.unusedSimpArgs false

/-- A gateway without flows, as one with flows. -/
def gfS (lo hi : Nat) (s : Gs) : Gf := { lo := lo, hi := hi, now := s.now, bg := 0, ls := s.ls, gr := s.gr, gf := s.gf, gt := s.gt, gb := s.gb, gp := s.gp, vr := s.vr, ve := s.ve, ex := [], cnt := 0, trn := 0, rw := fun _ => [], fs := [], ps := [], fe := #[], pe := #[], cf := s.cf, cp := s.cp }
theorem GI.toF {base g : Nat} {W : World} {s : Gs} {lo hi : Nat} (h : GI base W g s) (hk : GsK base (lo : Int) (hi : Int) s) : GF base W g (gfS lo hi s) := by
 obtain ⟨e1, e2, e3, e4, e5, e6⟩ := hk
 refine ⟨h.bs, ?_, h.rl, h.tb, h.bl, h.fl, h.pl, e4, ⟨e5, e6⟩, rfl, rfl, (fun f hf => by cases hf), (fun p hp => by cases hp)⟩
 have q := h.gc
 unfold gtc at q
 rw [e1, e2] at q
 exact q
/-- What a rule and ports must be, for the first flow. -/
structure Rdx (lo hi : Nat) (ls : List Ru) (x d : Int) (a : Nat) (b : Int) (mr : Ru) : Prop where
 ok : okL ls
 fd : ls.find? (mqB x) = some mr
 hx : 0 ≤ x ∧ x ≤ 4294967295
 hd : 0 ≤ d ∧ d ≤ 4294967295
 ha : a ≤ 65535
 hb : 0 ≤ b ∧ b ≤ 65535
 tt : 0 ≤ mr.tt ∧ mr.tt ≤ 4294967295
 h1 : 1 ≤ lo
 h2 : lo ≤ hi
 h3 : hi < 65536
 s1 : (b == 5060) = false
 s2 : ((a : Int) == 5060) = false
 ne : ¬ (x = d ∧ d = mr.tt)
theorem kx_nil (p s d a b : Int) : kx p s d a b (fun _ => []) = none := by
 unfold kx kix
 simp
theorem Rdx.rdy {lo hi : Nat} {base : Nat} {s : Gs} {x d : Int} {a : Nat} {b : Int} {mr : Ru} (h : Rdx lo hi s.ls x d a b mr) (hk : GsK base (lo : Int) (hi : Int) s) : Rdy (gfS lo hi s) x d a b mr := by
 obtain ⟨e1, e2, e3, e4, e5, e6⟩ := hk
 exact ⟨rfl, h.ok, h.fd, h.hx, h.hd, h.ha, h.hb, h.tt, h.h1, h.h2, h.h3, h.s1, h.s2, kx_nil _ _ _ _ _, fun n => kx_nil _ _ _ _ _, by show (0 : Nat) < 64; decide, h.ne, by show (0 : Int) ≤ 0 ∧ (0 : Int) ≤ 900000; decide, e3, by show (0 : Int) ≤ 0 ∧ (0 : Int) ≤ 1000000; decide, (fun y hy => by cases hy), by show (0 : Int) ≤ 0 ∧ (0 : Int) ≤ 1000; decide, fun i => by show (0 : Nat) ≤ 4000; decide⟩
theorem TkG.kg {base g : Nat} {w w' : World} {s : Gs} (h : But (fun b => b = g ∨ b = s.gb) w w') (hg : GI base w g s) : KG base w w' := KG.of_but h (fun k e => by
 rcases e with e | e
 ·rw [e]
  refine ⟨hg.bs, fun ob ho => ?_⟩
  rw [hg.gc] at ho
  cases ho
  show gTs.contains _ = true
  decide
 ·rw [e]
  refine ⟨hg.bl.1, fun ob ho => ?_⟩
  rw [hg.bl.2.1] at ho
  cases ho
  show gTs.contains _ = true
  decide)
/-- The packet is passed, its flow has begun. -/
def PkQ (base : Nat) (w w' : World) (g : Nat) (lo hi : Nat) (ls : List Ru) (zs : List Int) (a : Nat) (b : Int) (mr : Ru) (e : Ending) : Prop := ∃ (s : Gs) (f : Fl) (pb : Nat) (v : Value), s.ls = ls ∧ GsK base (lo : Int) (hi : Int) s ∧ w.heap.size ≤ f.blk ∧ e = .returned (.agg #[.int .i64 0, .int .i64 1, v]) ∧ KG base w w' ∧ Bgn (gfS lo hi s) (wat4 zs 12) (wat4 zs 16) a b mr f ∧ GF base w' g (bgS (gfS lo hi s) a mr pb f) ∧ Ow w.heap.size w' v (psB (gfS lo hi s) (zs[1]?.getD 0) (wat zs 4) (zs[8]?.getD 0) (wat4 zs 16) (decide (16384 ≤ wat zs 6 % 32768)) ((zs.take (hl4 zs).toNat).drop 20) ((zs.take (ral false zs).toNat).drop (hl4 zs).toNat) a b mr)

set_option maxRecDepth 100000 in
set_option maxHeartbeats 8000000 in
theorem packet_yes (base g n0 : Nat) (s : Gs) (lo hi : Nat) (nw : Int) (sb : Value) (zs : List Int) (a : Nat) (b : Int) (mr : Ru) (w : World) (h : GI base w g s) (hk : GsK base (lo : Int) (hi : Int) s) (hbs : base ≤ w.heap.size) (hB : Mt.By zs) (hI : Ow n0 w sb zs) (hl : zs.length ≤ 60000)
  (hp : rde false zs = 0) (hpr : zs[9]?.getD 0 = 17) (htt : (2 : Int) ≤ zs[8]?.getD 0) (hR : Rdx lo hi s.ls (wat4 zs 12) (wat4 zs 16) a b mr) (he : ofe 17 (wat4 zs 12) (wat4 zs 16) ((zs.take (ral false zs).toNat).drop (hl4 zs).toNat) = 0) (hea : ofa 17 ((zs.take (ral false zs).toNat).drop (hl4 zs).toNat) = (a : Int)) (heb : ofb 17 ((zs.take (ral false zs).toNat).drop (hl4 zs).toNat) = b) (hlo : ((zs.take (hl4 zs).toNat).drop 20).length ≤ 40) (hlm : ((zs.take (hl4 zs).toNat).drop 20).length % 4 = 0) (hall : 20 + ((zs.take (hl4 zs).toNat).drop 20).length + ((zs.take (ral false zs).toNat).drop (hl4 zs).toNat).length ≤ 65535)
  (hz : ∀ W, KG base w W → Tb W ∧ Dz W) (hgz : 1 ≤ w.heap.size) :
  Calls Tryz.prog 11 #[.pointer (some ⟨g, 0, none⟩), .int .i64 nw, .int .i64 0, sb] w fun e w' => PkQ base w w' g lo hi s.ls zs a b mr e := by
 obtain ⟨sa, sc, rfl, _, _⟩ := hI.slice
 have l0 := later_allocG w (.cells (oc 0).toArray 43)
 have C0 := hide (heap_alloc_new w (.cells (oc 0).toArray 43))
 have h1 := h.later l0
 have HH := hide (fun (W : World) (s2 : Gs) (k : KG base w W) (e : s2.ls = s.ls) (hk2 : GsK base (lo : Int) (hi : Int) s2) (hg : GI base W g s2) => handle_yes base g (gfS lo hi s2) (.slice sa zs.length sc) zs a b mr W (hg.toF hk2) hB ((hI.kg k).rd) hl hp hpr htt (Rdx.rdy (by rw [e]; exact hR) hk2) he hea heb hlo hlm hall (Nat.le_trans hbs k.size) (fun V k2 => hz V (k.trans k2)) (Nat.le_trans hgz k.size))
 have HG := hide h
 have H1 := hide h1
 have HK := hide hk
 clear h h1 hk hB hI hl hp hpr htt hR he hea heb hlo hlm hall hz hgz
 go_enter Tryz.func11, Tryz.ntmps11
 go_upto_region 3 with fail
 change Code.wp _ _ _ _ (w.alloc (.cells (oc 0).toArray 43))
 generalize w.alloc (.cells (oc 0).toArray 43) = w1 at *
 generalize hgx : w.heap.size = gx at C0 ⊢
 have hs1 : base ≤ w1.heap.size := Nat.le_trans hbs l0.size
 go_wp2_with fail
 refine (tick_none base g s nw w1 H1.out hs1).mono ?_
 rintro e w2 ⟨rfl, M2, s2, hl2, hg2, h2⟩
 have K2 : KG base w w2 := (KG.of_later l0).trans (TkG.kg M2 H1.out)
 have hk2 := hg2.2 _ _ _ HK.out
 have D0 := hide ((TkG.kg M2 H1.out).cells C0.out (by decide))
 have HHN := hide (HH.out w2 s2 K2 hl2 hk2 h2)
 have HK2 := hide hk2
 have hgw : gx < w2.heap.size := (bl9 D0.out)
 clear M2 C0 H1 hs1 HH h2 hk2
 go_wp2_with fail
 refine HHN.out.mono ?_
 rintro e w3 ⟨f, pb, v, hfb, rfl, k3, hbn, hG3, hO3⟩
 have E0 := hide (k3.cells D0.out (by decide))
 have G3 := hide hG3
 have O3 := hide (hO3.mono K2.size)
 have K3 : Hid (KG base w w3) := K2.trans k3
 have hfb2 : w.heap.size ≤ f.blk := Nat.le_trans K2.size hfb
 obtain ⟨va, vc, eqv, _, _⟩ := hO3.slice
 obtain ⟨ln, rfl⟩ : ∃ ln, v = .slice va ln vc := ⟨_, eqv⟩
 clear eqv
 have k0 := block_cell E0.out
 have f0 := block_frozen E0.out
 clear HHN hG3 hO3 D0 k3
 go_wp2_with fail
 generalize hV : (((w3.setCell ⟨gx, 0, none⟩ _).setCell ⟨gx, 1, none⟩ _).setCell ⟨gx, 2, none⟩ _) = V8
 have hV9 : V8 = putRow w3 gx 0 [.int .i64 0, .int .i64 1, .slice va ln vc] := hV.symm
 have hb8 : But (fun b => b = gx) w3 V8 := by rw [hV9]; exact putRow_but (E := fun b => b = gx) (n := gx) rfl _ _ _ _ (But.refl _ _)
 have p8 := putRow_all [.int .i64 0, .int .i64 1, .slice va ln vc] E0.out rfl
 rw [← hV9] at p8
 clear hV hV9 k0 f0
 have P8 := block_cell p8
 have h8 := G3.out.other (TE.one E0.out) hb8 (by decide)
 have o8 := O3.out.aside E0.out (by decide) hb8
 have k8 := K3.out.own hb8 (by omega)
 exact bodyPost_ret (v := .agg #[.int .i64 0, .int .i64 1, .slice va ln vc]) (by simp [results, Tryz.results11, go_sem, P8]) rfl ⟨s2, f, pb, .slice va ln vc, hl2, HK2.out, by omega, rfl, k8, hbn, h8, o8⟩
end Go.Proofs.YtajcfhcdincngaaGreatDoor

/- Package gate: a datagram that belongs to a flow is passed. -/
namespace Go.Proofs.YtajcfhcdincngaaGreatDoor
open Go.RowKit Go.Shelf
set_option maxRecDepth 100000
set_option linter.unusedVariables false
set_option linter.unusedSimpArgs false

/-- The other side. -/
def oppo (side : Int) : Int := if side = 0 then 1 else 0
theorem opp_any (side : Int) (hs : side = 0 ∨ side = 1) (w : World) : Calls Tryz.prog 63 #[.int .i64 side] w fun e w' => e = .returned (.int .i64 (oppo side)) ∧ w' = w := by
 rcases hs with rfl | rfl
 all_goals
  go_enter Tryz.func63, Tryz.ntmps63
  go_wp2_with fail
  go_ret
  exact ⟨rfl, rfl⟩
/-- The bytes of a packet that goes on by a tuple. -/
def goB (tos id ttl : Int) (keep : Bool) (zo zd : List Int) (q : Tu) : List Int := hdr tos id keep (ttl - 1) 17 q.dst q.src zo (20 + zo.length + zd.length) ++ rwD 17 q.dst q.src q.dp q.sp zd
def HbQ (base : Nat) (w w' : World) (g : Nat) (s : Gf) (f : Fl) (bk : Bool) (side : Int) (zs : List Int) (e : Ending) : Prop := ∃ v : Value, e = .returned (.agg #[.int .i64 0, .int .i64 (oppo side), v]) ∧ KG base w w' ∧ GF base w' g (bcS s f (ot f.st bk)) ∧ Ow w.heap.size w' v (goB (zs[1]?.getD 0) (wat zs 4) (zs[8]?.getD 0) (decide (16384 ≤ wat zs 6 % 32768)) ((zs.take (hl4 zs).toNat).drop 20) ((zs.take (ral false zs).toNat).drop (hl4 zs).toNat) (oth f bk))

set_option maxRecDepth 100000 in
set_option maxHeartbeats 8000000 in
theorem handle_back (base g : Nat) (s : Gf) (f : Fl) (bk : Bool) (side : Int) (sb : Value) (zs : List Int) (a b : Int) (w : World) (h : GF base w g s) (hB : Mt.By zs) (hI : Rd w.heap.size w sb zs) (hl : zs.length ≤ 60000)
  (hp : rde false zs = 0) (hpr : zs[9]?.getD 0 = 17) (htt : (2 : Int) ≤ zs[8]?.getD 0) (hR : Bel s f bk side (wat4 zs 12) (wat4 zs 16) a b) (he : ofe 17 (wat4 zs 12) (wat4 zs 16) ((zs.take (ral false zs).toNat).drop (hl4 zs).toNat) = 0) (hea : ofa 17 ((zs.take (ral false zs).toNat).drop (hl4 zs).toNat) = a) (heb : ofb 17 ((zs.take (ral false zs).toNat).drop (hl4 zs).toNat) = b) (hlo : ((zs.take (hl4 zs).toNat).drop 20).length ≤ 40) (hlm : ((zs.take (hl4 zs).toNat).drop 20).length % 4 = 0) (hall : 20 + ((zs.take (hl4 zs).toNat).drop 20).length + ((zs.take (ral false zs).toNat).drop (hl4 zs).toNat).length ≤ 65535)
  (hbs : base ≤ w.heap.size) (hz : ∀ W, KG base w W → Tb W) :
  Calls Tryz.prog 29 #[.pointer (some ⟨g, 0, none⟩), .int .i64 side, sb] w fun e w' => HbQ base w w' g s f bk side zs e := by
 unfold HbQ
 have hmf : ∀ (fn : Fn) (first cap : Array Value) (w : World), (Instr.makeFunc fn first cap).run Tryz.prog w = .ok (.func fn first cap) w := fun _ _ _ _ => rfl
 obtain ⟨ia, icap, rfl, hl1, hm1⟩ := hI.slice
 have l0 := later_allocG w (.cells (oc 0).toArray 43)
 have C0 := hide (heap_alloc_new w (.cells (oc 0).toArray 43))
 have HP := hide (parse_any _ zs _ hB (by omega) (hI.later l0))
 have HG := hide h
 have bt := hB.at 1
 have bl := hB.at 8
 have bi : 0 ≤ wat zs 4 ∧ wat zs 4 ≤ 65535 := wat_bd hB 4
 have hBd : Mt.By ((zs.take (ral false zs).toNat).drop (hl4 zs).toNat) := (hB.take _).drop _
 have hBo : Mt.By ((zs.take (hl4 zs).toNat).drop 20) := (hB.take _).drop _
 clear h hI
 go_enter_defers Tryz.func29, Tryz.ntmps29
 go_wp2_with fail
 change Calls _ _ _ (w.alloc (.cells (oc 0).toArray 43)) _
 generalize hw1 : w.alloc (.cells (oc 0).toArray 43) = w1 at *
 clear hw1
 refine HP.out.mono ?_
 rintro e w2 ⟨l2, ⟨h1, rfl⟩ | ⟨h1, so, sd, rfl, hOo, hOd⟩⟩
 ·exact absurd hp h1
 clear h1 HP hp
 have l2' : Later w1 w2 := l2
 obtain ⟨oa, ocp, rfl, _, _⟩ := hOo.slice
 obtain ⟨da, dcp, rfl, _, _⟩ := hOd.slice
 have hld : ((zs.take (ral false zs).toNat).drop (hl4 zs).toNat).length ≤ 65535 := by omega
 generalize hzd : ((zs.take (ral false zs).toNat).drop (hl4 zs).toNat) = zd at *
 generalize hzo : ((zs.take (hl4 zs).toNat).drop 20) = zo at *
 unfold pkt
 rw [hpr]
 generalize htos : zs[1]?.getD 0 = tos at *
 generalize hidd : wat zs 4 = id at *
 generalize hkp : decide (16384 ≤ wat zs 6 % 32768) = keep at *
 generalize httl : zs[8]?.getD 0 = ttl at *
 clear hpr
 generalize hsrc : wat4 zs 12 = src at *
 generalize hdst : wat4 zs 16 = dst at *
 have EQS := hide (show (((zs[1]?.getD 0 = tos ∧ wat zs 4 = id) ∧ decide (16384 ≤ wat zs 6 % 32768) = keep) ∧ zs[8]?.getD 0 = ttl) ∧ (wat4 zs 12 = src ∧ wat4 zs 16 = dst) ∧ ((zs.take (ral false zs).toNat).drop (hl4 zs).toNat) = zd ∧ ((zs.take (hl4 zs).toNat).drop 20) = zo from ⟨⟨⟨⟨htos, hidd⟩, hkp⟩, httl⟩, ⟨hsrc, hdst⟩, hzd, hzo⟩)
 clear htos hidd hkp httl hsrc hdst hzd hzo
 have la := later_allocG w2 (.cells #[.int .u8 tos, .int .u16 id, .bool keep, .int .u8 ttl, .int .u8 17, .int .u32 src, .int .u32 dst, .slice oa zo.length ocp, .slice da zd.length dcp] 31)
 have CP := hide (heap_alloc_new w2 (.cells #[.int .u8 tos, .int .u16 id, .bool keep, .int .u8 ttl, .int .u8 17, .int .u32 src, .int .u32 dst, .slice oa zo.length ocp, .slice da zd.length dcp] 31))
 have D0 := hide (later_keep (l2'.trans la) C0.out)
 have L3 : Later w (w2.alloc (.cells #[.int .u8 tos, .int .u16 id, .bool keep, .int .u8 ttl, .int .u8 17, .int .u32 src, .int .u32 dst, .slice oa zo.length ocp, .slice da zd.length dcp] 31)) := l0.trans (l2'.trans la)
 have O3 := hide (hOo.kg (KG.of_later (base := base) la))
 have Q3 := hide (hOd.kg (KG.of_later (base := base) la))
 have hgp : w1.heap.size ≤ w2.heap.size := l2'.size
 have hg1 := (bl9 C0.out)
 clear hOo hOd la l2 l2'
 go_upto_region 3 with fail
 change Code.wp _ _ _ _ (w2.alloc (.cells #[.int .u8 tos, .int .u16 id, .bool keep, .int .u8 ttl, .int .u8 17, .int .u32 src, .int .u32 dst, .slice oa zo.length ocp, .slice da zd.length dcp] 31))
 generalize w2.alloc (.cells #[.int .u8 tos, .int .u16 id, .bool keep, .int .u8 ttl, .int .u8 17, .int .u32 src, .int .u32 dst, .slice oa zo.length ocp, .slice da zd.length dcp] 31) = w3 at *
 generalize w2.heap.size = gp at *
 have H3 := hide (HG.out.later L3)
 have hfl : flt zo.length zd.length = 0 := by unfold flt; rw [if_neg (by omega), if_neg (by omega)]
 have HCH := hide (changed_back base g s f bk tos id ttl src dst keep (.slice oa zo.length ocp) (.slice da zd.length dcp) side zo zd a b w1.heap.size w3 H3.out hR he hea heb hfl hBo hBd O3.out Q3.out (by omega) (by omega) bt bi bl (Nat.le_trans hbs L3.size) (fun W k => hz W ((KG.of_later L3).trans k)))
 have btt := hR.q.1.2.1
 have bdd := hR.q.1.1
 have HSD := hide (show side = 0 ∨ side = 1 by rcases hR.cm with ⟨e, _⟩ | ⟨e, _⟩ <;> simp [e])
 generalize hq : oth f bk = q at *
 have HQ := hide hq
 clear hq
 clear H3 he hea heb hfl hz O3 Q3 HG hR C0
 have kp := block_cell CP.out
 have ht2 : ¬ ttl < 2 := by omega
 go_wp2_with fail
 refine (grefuse_no 1 _).mono ?_
 rintro e w4 ⟨rfl, hw4⟩
 subst hw4
 go_wp2_with fail
 refine HCH.out.mono ?_
 rintro e w4 ⟨ao, co, ad, cd, rfl, k4, hG4, o4, q4⟩
 clear kp HCH
 have K4 : KG base w w4 := (KG.of_later L3).trans k4
 have E0 := hide (k4.cells D0.out (by decide))
 have EP := hide (k4.cells CP.out (by decide))
 have G4 := hide hG4
 have o4' := hide (o4.mono L3.size)
 have q4' := hide (q4.mono L3.size)
 clear D0 CP hG4 o4 q4 k4
 have kp := block_cell EP.out
 have fp := block_frozen EP.out
 go_upto_region 5 with fail
 generalize hV : (((((((((w4.setCell ⟨_, 0, none⟩ _).setCell ⟨_, 1, none⟩ _).setCell ⟨_, 2, none⟩ _).setCell ⟨_, 3, none⟩ _).setCell ⟨_, 4, none⟩ _).setCell ⟨_, 5, none⟩ _).setCell ⟨_, 6, none⟩ _).setCell ⟨_, 7, none⟩ _).setCell ⟨_, 8, none⟩ _) = w5
 have hV9 : w5 = putRow w4 gp 0 [.int .u8 tos, .int .u16 id, .bool keep, .int .u8 ttl, .int .u8 17, .int .u32 q.dst, .int .u32 q.src, .slice ao zo.length co, .slice ad zd.length cd] := hV.symm
 have hb5 : But (fun b => b = gp) w4 w5 := by rw [hV9]; exact putRow_but (E := fun b => b = gp) (n := gp) rfl _ _ _ _ (But.refl _ _)
 have p5 := putRow_all [.int .u8 tos, .int .u16 id, .bool keep, .int .u8 ttl, .int .u8 17, .int .u32 q.dst, .int .u32 q.src, .slice ao zo.length co, .slice ad zd.length cd] EP.out rfl
 rw [← hV9] at p5
 clear hV hV9 kp fp
 have G5 := hide (G4.out.other (TE.one EP.out) hb5 (by decide))
 have O5 := hide (o4'.out.aside EP.out (by decide) hb5)
 have Q5 := hide (q4'.out.aside EP.out (by decide) hb5)
 have K5 : Hid (KG base w w5) := K4.own hb5 (by omega)
 have F0 := hide ((hb5.block w.heap.size (bl9 E0.out) (fun e => by have e' : w.heap.size = gp := e; omega)).trans E0.out)
 have FP := hide p5
 clear G4 o4' q4' K4 E0 EP hb5 p5
 have kp := block_cell FP.out
 have fp := block_frozen FP.out
 have P6 := hide (heap_set1 FP.out 3 (.int .u8 (ttl - 1)))
 have hb6 : But (fun b => b = gp) w5 (w5.setCell ⟨gp, 3, none⟩ (.int .u8 (ttl - 1))) := (But.refl (fun b => b = gp) w5).setCell (p := ⟨gp, 3, none⟩) (show _ = _ from rfl) _
 have HB6 := hide hb6
 clear hb6
 go_upto_region 6 with fail
 have hQ6 : (w5.setCell ⟨gp, 3, none⟩ (.int .u8 (ttl - 1))).heap[gp]? = some (.cells #[.int .u8 tos, .int .u16 id, .bool keep, .int .u8 (ttl - 1), .int .u8 17, .int .u32 q.dst, .int .u32 q.src, .slice ao zo.length co, .slice ad zd.length cd] 31 (0, 0)) := P6.out
 have G6 := hide (G5.out.other (TE.one FP.out) HB6.out (by decide))
 have o6 := O5.out.aside FP.out (by decide) HB6.out
 have q6 := Q5.out.aside FP.out (by decide) HB6.out
 have O6 := hide o6
 have Q6 := hide q6
 have K6 := hide (K5.out.own HB6.out (by omega))
 have F6 := hide ((HB6.out.block w.heap.size (bl9 F0.out) (fun e => by have e' : w.heap.size = gp := e; omega)).trans F0.out)
 have FQ6 := hide hQ6
 have hrl : (rwD 17 q.dst q.src q.dp q.sp zd).length = zd.length := by
  obtain ⟨_, _, e, _, _⟩ := q6.slice
  injection e with e1 e2 e3
  exact e2.symm
 have HRL := hide hrl
 clear o6 q6 hQ6 hrl kp fp G5 O5 Q5 K5 F0 FP P6 HB6
 generalize w5.setCell ⟨gp, 3, none⟩ (.int .u8 (ttl - 1)) = w6 at *
 have HBU := hide (build_yes tos id (ttl - 1) 17 q.dst q.src keep (.slice ao zo.length co) (.slice ad zd.length cd) zo (rwD 17 q.dst q.src q.dp q.sp zd) w6 hBo O6.out.rd Q6.out.rd hlo hlm (by rw [HRL.out]; exact hall) bt bi (by omega) (by decide) btt bdd)
 rw [HRL.out] at HBU
 have k6 := block_cell FQ6.out
 clear hall hlm hlo
 go_wp2_with fail
 refine HBU.out.mono ?_
 rintro e w7 ⟨v, rfl, hO7, l7⟩
 have l7' : Later w6 w7 := l7
 obtain ⟨va, vc, rfl, _, _⟩ := hO7.slice
 have F7 := hide (later_keep l7' F6.out)
 have G7 := hide (G6.out.later l7')
 have K7 := hide (K6.out.trans (KG.of_later l7'))
 have O7 := hide (hO7.mono K6.out.size)
 clear k6 HBU l7 l7' hO7 F6 G6 K6 O6 Q6 FQ6
 generalize hob : hdr tos id keep (ttl - 1) 17 q.dst q.src zo (20 + zo.length + zd.length) ++ rwD 17 q.dst q.src q.dp q.sp zd = ob at *
 have HOB := hide hob
 clear hob
 go_wp2_with fail
 refine (opp_any side HSD.out w7).mono ?_
 rintro e w8 ⟨rfl, hw8⟩
 subst hw8
 have k0 := block_cell F7.out
 have f0 := block_frozen F7.out
 unfold oc at k0
 go_wp2_with fail
 generalize hV : (((w8.setCell ⟨_, 0, none⟩ _).setCell ⟨_, 1, none⟩ _).setCell ⟨_, 2, none⟩ _) = V8
 have hV9 : V8 = putRow w8 w.heap.size 0 [.int .i64 0, .int .i64 (oppo side), .slice va ob.length vc] := hV.symm
 have hb8 : But (fun b => b = w.heap.size) w8 V8 := by rw [hV9]; exact putRow_but (E := fun b => b = w.heap.size) (n := w.heap.size) rfl _ _ _ _ (But.refl _ _)
 have p8 := putRow_all [.int .i64 0, .int .i64 (oppo side), .slice va ob.length vc] F7.out rfl
 rw [← hV9] at p8
 clear hV hV9 k0 f0
 have h8 := G7.out.other (TE.one F7.out) hb8 (by decide)
 have o8 := O7.out.aside F7.out (by decide) hb8
 have k8 := K7.out.own hb8 (Nat.le_refl _)
 exact gdoor_idle _ w.heap.size _ _ _ V8 p8 rfl ⟨.slice va ob.length vc, rfl, k8, h8, by obtain ⟨⟨⟨⟨q1, q2⟩, q3⟩, q4⟩, ⟨q5, q6⟩, q7, q8⟩ := EQS.out; unfold goB; rw [q1, q2, q3, q4, q7, q8, HQ.out, HOB.out]; exact o8⟩

theorem Bel.ltr {s : Gf} {f : Fl} {bk : Bool} {side src dst a b : Int} (h : Bel s f bk side src dst a b) {n : Int} (v : Value) (hn : 0 ≤ n ∧ n ≤ 549755813888) : Bel (ltr s n v) f bk side src dst a b := ⟨h.hf, h.hu, h.huq, h.kx, h.hx, h.hd, h.ha, h.hb, h.bq, h.sd, h.cm, h.hBo, h.hBr, h.po, h.pr, h.hp, h.tr, hn⟩
def PbQ (base : Nat) (w w' : World) (g : Nat) (s : Gf) (f : Fl) (bk : Bool) (side nw : Int) (zs : List Int) (e : Ending) : Prop := ∃ (n : Int) (v2 v : Value), (0 ≤ n ∧ n ≤ 549755813888) ∧ (n ≤ nw ∨ n ≤ s.now) ∧ s.now ≤ n ∧ e = .returned (.agg #[.int .i64 0, .int .i64 (oppo side), v]) ∧ KG base w w' ∧ GF base w' g (bcS (ltr s n v2) f (ot f.st bk)) ∧ Ow w.heap.size w' v (goB (zs[1]?.getD 0) (wat zs 4) (zs[8]?.getD 0) (decide (16384 ≤ wat zs 6 % 32768)) ((zs.take (hl4 zs).toNat).drop 20) ((zs.take (ral false zs).toNat).drop (hl4 zs).toNat) (oth f bk))

set_option maxRecDepth 100000 in
set_option maxHeartbeats 8000000 in
theorem packet_back (base g n0 : Nat) (s : Gf) (f : Fl) (bk : Bool) (side nw : Int) (sb : Value) (zs : List Int) (a b : Int) (w : World) (h : GF base w g s) (hbs : base ≤ w.heap.size) (hB : Mt.By zs) (hI : Ow n0 w sb zs) (hl : zs.length ≤ 60000)
  (hp : rde false zs = 0) (hpr : zs[9]?.getD 0 = 17) (htt : (2 : Int) ≤ zs[8]?.getD 0) (hR : Bel s f bk side (wat4 zs 12) (wat4 zs 16) a b) (he : ofe 17 (wat4 zs 12) (wat4 zs 16) ((zs.take (ral false zs).toNat).drop (hl4 zs).toNat) = 0) (hea : ofa 17 ((zs.take (ral false zs).toNat).drop (hl4 zs).toNat) = a) (heb : ofb 17 ((zs.take (ral false zs).toNat).drop (hl4 zs).toNat) = b) (hlo : ((zs.take (hl4 zs).toNat).drop 20).length ≤ 40) (hlm : ((zs.take (hl4 zs).toNat).drop 20).length % 4 = 0) (hall : 20 + ((zs.take (hl4 zs).toNat).drop 20).length + ((zs.take (ral false zs).toNat).drop (hl4 zs).toNat).length ≤ 65535)
  (hex : s.ex = []) (hdu : ∀ n, n ≤ nw ∨ n ≤ s.now → duR n (allR s.rw) = []) (hal : (allR s.rw).length ≤ 5000) (hz : ∀ W, KG base w W → Tb W) :
  Calls Tryz.prog 11 #[.pointer (some ⟨g, 0, none⟩), .int .i64 nw, .int .i64 side, sb] w fun e w' => PbQ base w w' g s f bk side nw zs e := by
 obtain ⟨sa, sc, rfl, _, _⟩ := hI.slice
 have l0 := later_allocG w (.cells (oc 0).toArray 43)
 have C0 := hide (heap_alloc_new w (.cells (oc 0).toArray 43))
 have h1 := h.later l0
 have HH := hide (fun (W : World) (n : Int) (v : Value) (k : KG base w W) (hn : 0 ≤ n ∧ n ≤ 549755813888) (hg : GF base W g (ltr s n v)) => handle_back base g (ltr s n v) f bk side (.slice sa zs.length sc) zs a b W hg hB ((hI.kg k).rd) hl hp hpr htt (hR.ltr v hn) he hea heb hlo hlm hall (Nat.le_trans hbs k.size) (fun V k2 => hz V (k.trans k2)))
 have HG := hide h
 have H1 := hide h1
 have HTK := hide (fun W (hg : GF base W g s) (hb : base ≤ W.heap.size) => tick_quiet base g s nw W hg hb hR.nw hex hdu hal)
 have hcm := hR.cm
 clear h h1 hB hI hl hp hpr htt hR he hea heb hlo hlm hall hz hex hdu hal
 rcases hcm with ⟨rfl, rfl⟩ | ⟨rfl, rfl⟩
 ·go_enter Tryz.func11, Tryz.ntmps11
  go_upto_region 3 with fail
  change Code.wp _ _ _ _ (w.alloc (.cells (oc 0).toArray 43))
  generalize w.alloc (.cells (oc 0).toArray 43) = w1 at *
  generalize hgx : w.heap.size = gx at C0 ⊢
  have hs1 : base ≤ w1.heap.size := Nat.le_trans hbs l0.size
  go_wp2_with fail
  refine (HTK.out w1 H1.out hs1).mono ?_
  rintro e w2 ⟨rfl, M2, n, v2, hn, hnw, hns, h2⟩
  have K2 : KG base w w2 := (KG.of_later l0).trans (TqG.kg M2 H1.out)
  have D0 := hide ((TqG.kg M2 H1.out).cells C0.out (by decide))
  have HHN := hide (HH.out w2 n v2 K2 hn h2)
  have hgw : gx < w2.heap.size := (bl9 D0.out)
  clear M2 C0 H1 hs1 HH h2 HTK
  go_wp2_with fail
  refine HHN.out.mono ?_
  rintro e w3 ⟨v, rfl, k3, hG3, hO3⟩
  have E0 := hide (k3.cells D0.out (by decide))
  have G3 := hide hG3
  have O3 := hide (hO3.mono K2.size)
  have K3 : Hid (KG base w w3) := K2.trans k3
  obtain ⟨va, vc, eqv, _, _⟩ := hO3.slice
  obtain ⟨ln, rfl⟩ : ∃ ln, v = .slice va ln vc := ⟨_, eqv⟩
  clear eqv
  have k0 := block_cell E0.out
  have f0 := block_frozen E0.out
  clear HHN hG3 hO3 D0 k3
  go_wp2_with fail
  generalize hV : (((w3.setCell ⟨gx, 0, none⟩ _).setCell ⟨gx, 1, none⟩ _).setCell ⟨gx, 2, none⟩ _) = V8
  have hV9 : V8 = putRow w3 gx 0 [.int .i64 0, .int .i64 (oppo 1), .slice va ln vc] := hV.symm
  have hb8 : But (fun b => b = gx) w3 V8 := by rw [hV9]; exact putRow_but (E := fun b => b = gx) (n := gx) rfl _ _ _ _ (But.refl _ _)
  have p8 := putRow_all [.int .i64 0, .int .i64 (oppo 1), .slice va ln vc] E0.out rfl
  rw [← hV9] at p8
  clear hV hV9 k0 f0
  have P8 := block_cell p8
  have h8 := G3.out.other (TE.one E0.out) hb8 (by decide)
  have o8 := O3.out.aside E0.out (by decide) hb8
  have k8 := K3.out.own hb8 (by omega)
  exact bodyPost_ret (v := .agg #[.int .i64 0, .int .i64 (oppo 1), .slice va ln vc]) (by simp [results, Tryz.results11, go_sem, P8]) rfl ⟨n, v2, .slice va ln vc, hn, hnw, hns, rfl, k8, h8, o8⟩
 ·go_enter Tryz.func11, Tryz.ntmps11
  go_upto_region 3 with fail
  change Code.wp _ _ _ _ (w.alloc (.cells (oc 0).toArray 43))
  generalize w.alloc (.cells (oc 0).toArray 43) = w1 at *
  generalize hgx : w.heap.size = gx at C0 ⊢
  have hs1 : base ≤ w1.heap.size := Nat.le_trans hbs l0.size
  go_wp2_with fail
  refine (HTK.out w1 H1.out hs1).mono ?_
  rintro e w2 ⟨rfl, M2, n, v2, hn, hnw, hns, h2⟩
  have K2 : KG base w w2 := (KG.of_later l0).trans (TqG.kg M2 H1.out)
  have D0 := hide ((TqG.kg M2 H1.out).cells C0.out (by decide))
  have HHN := hide (HH.out w2 n v2 K2 hn h2)
  have hgw : gx < w2.heap.size := (bl9 D0.out)
  clear M2 C0 H1 hs1 HH h2 HTK
  go_wp2_with fail
  refine HHN.out.mono ?_
  rintro e w3 ⟨v, rfl, k3, hG3, hO3⟩
  have E0 := hide (k3.cells D0.out (by decide))
  have G3 := hide hG3
  have O3 := hide (hO3.mono K2.size)
  have K3 : Hid (KG base w w3) := K2.trans k3
  obtain ⟨va, vc, eqv, _, _⟩ := hO3.slice
  obtain ⟨ln, rfl⟩ : ∃ ln, v = .slice va ln vc := ⟨_, eqv⟩
  clear eqv
  have k0 := block_cell E0.out
  have f0 := block_frozen E0.out
  clear HHN hG3 hO3 D0 k3
  go_wp2_with fail
  generalize hV : (((w3.setCell ⟨gx, 0, none⟩ _).setCell ⟨gx, 1, none⟩ _).setCell ⟨gx, 2, none⟩ _) = V8
  have hV9 : V8 = putRow w3 gx 0 [.int .i64 0, .int .i64 (oppo 0), .slice va ln vc] := hV.symm
  have hb8 : But (fun b => b = gx) w3 V8 := by rw [hV9]; exact putRow_but (E := fun b => b = gx) (n := gx) rfl _ _ _ _ (But.refl _ _)
  have p8 := putRow_all [.int .i64 0, .int .i64 (oppo 0), .slice va ln vc] E0.out rfl
  rw [← hV9] at p8
  clear hV hV9 k0 f0
  have P8 := block_cell p8
  have h8 := G3.out.other (TE.one E0.out) hb8 (by decide)
  have o8 := O3.out.aside E0.out (by decide) hb8
  have k8 := K3.out.own hb8 (by omega)
  exact bodyPost_ret (v := .agg #[.int .i64 0, .int .i64 (oppo 0), .slice va ln vc]) (by simp [results, Tryz.results11, go_sem, P8]) rfl ⟨n, v2, .slice va ln vc, hn, hnw, hns, rfl, k8, h8, o8⟩
end Go.Proofs.YtajcfhcdincngaaGreatDoor

/- Package gate: what a gateway holds when its first flow has begun. -/
namespace Go.Proofs.YtajcfhcdincngaaGreatDoor
open Go.RowKit Go.Shelf
set_option maxRecDepth 100000
set_option linter.unusedVariables false
set_option linter.unusedSimpArgs false

theorem bg_facts {lo hi : Nat} {s : Gs} {x d : Int} {a : Nat} {b : Int} {mr : Ru} {f : Fl} (pb : Nat) (hb : Bgn (gfS lo hi s) x d a b mr f) (hne : ¬ tuA f.o f.r) (hnw : 0 ≤ s.now ∧ s.now ≤ 549755813888) :
  (bgS (gfS lo hi s) a mr pb f).fs = [f.at 8 (s.now + 30)] ∧ (bgS (gfS lo hi s) a mr pb f).rw = twR f.o f.r 0 (s.now + 30) (0 + 1 + 1 + 1) (0 + 1 + 1 + 1 + 1) ∧ (bgS (gfS lo hi s) a mr pb f).trn = 0 + 1 + 1 + 1 + 1 ∧ (bgS (gfS lo hi s) a mr pb f).now = s.now ∧ (bgS (gfS lo hi s) a mr pb f).ex = [] ∧ ∀ e ∈ (bgS (gfS lo hi s) a mr pb f).fe.toList, e.born < (bgS (gfS lo hi s) a mr pb f).cf := by
 obtain ⟨h1, h2, h3, h4, h5, h6⟩ := hb
 have hid : f.id = 0 := h1
 have hpr : f.o.pr = 17 := by rw [h2]
 have htm : tm f.o.pr 8 = 30 := by rw [hpr]; decide
 have hm0 : mayb s.now = true := by unfold mayb; rw [decide_eq_true_eq]; omega
 have hm1 : mayb (s.now + 30) = true := by unfold mayb; rw [decide_eq_true_eq]; omega
 have hop : ∀ (q : Gf), q.cnt = 0 → q.trn = 0 → q.rw = (fun _ => []) → q.now = s.now → opM q f = (0 + 1 + 1, 0 + 1 + 1, twR f.o f.r 0 s.now (0 + 1) (0 + 1 + 1)) := fun q e1 e2 e3 e4 => by
  unfold opM
  rw [e1, e2, e3, e4, hid]
  exact twR_put f.o f.r 0 s.now hm0 hne
 have hq := hop (withP (gfS lo hi s) 17 mr.tt pb (wsR (wsOf (nums (gfS lo hi s).lo (gfS lo hi s).hi)) (tkn (gfS lo hi s).lo (gfS lo hi s).hi a))) rfl rfl rfl rfl
 have hbc : bcM (opS (withP (gfS lo hi s) 17 mr.tt pb (wsR (wsOf (nums (gfS lo hi s).lo (gfS lo hi s).hi)) (tkn (gfS lo hi s).lo (gfS lo hi s).hi a))) f) f (s.now + 30) = (0 + 1 + 1 + 1 + 1, twR f.o f.r 0 (s.now + 30) (0 + 1 + 1 + 1) (0 + 1 + 1 + 1 + 1)) := by
  unfold bcM opS
  simp only [hq]
  exact twR_mv f.o f.r 0 s.now (s.now + 30) (0 + 1) (0 + 1 + 1) (0 + 1 + 1) hm1 hne
 have hnow : (opS (withP (gfS lo hi s) 17 mr.tt pb (wsR (wsOf (nums (gfS lo hi s).lo (gfS lo hi s).hi)) (tkn (gfS lo hi s).lo (gfS lo hi s).hi a))) f).now = s.now := rfl
 refine ⟨?_, ?_, ?_, rfl, rfl, ?_⟩
 ·show (([] ++ [f] : List Fl).map fun (x : Fl) => if x.blk = f.blk then f.at 8 (s.now + tm f.o.pr 8) else x) = _
  rw [htm]
  simp
 ·show (bcM _ f (_ + tm f.o.pr 8)).2 = _
  rw [htm, hnow, hbc]
 ·show (bcM _ f (_ + tm f.o.pr 8)).1 = _
  rw [htm, hnow, hbc]
 ·intro e he
  have he' : e ∈ ((#[] : Array MapEntry).push ⟨.int .i64 f.id, .pointer (some ⟨f.blk, 0, none⟩), s.cf⟩).toList := he
  have e1 : e = ⟨.int .i64 f.id, .pointer (some ⟨f.blk, 0, none⟩), s.cf⟩ := by simpa using he'
  show e.born < s.cf + 1
  rw [e1]
  exact Nat.lt_succ_self _
end Go.Proofs.YtajcfhcdincngaaGreatDoor
