import Derived.Test.YtofknbfbmaefoaaGreatDoorX4
import Derived.Test.YtofknbfbmaefoaaGreatDoorX5
import Derived.Test.YtofknbfbmaefoaaGreatDoorX19
import Derived.Test.YtofknbfbmaefoaaGreatDoorX10
namespace Go.Proofs.YtofknbfbmaefoaaGreatDoor
set_option maxHeartbeats 8000000
open Go.RowKit Go.Shelf
set_option maxRecDepth 100000
set_option linter.unusedVariables false
set_option linter.unusedSimpArgs false
theorem KG.pre (base : Nat) : Pre (KG base) := ⟨fun a => KG.refl base a, fun a b c h k => h.trans k⟩
def Comes (side : Int) (bk : Bool) : Prop := (side = 1 ∧ bk = true) ∨ (side = 0 ∧ bk = false)
theorem comes_yes (g : Nat) (tos id ttl src dst : Int) (keep : Bool) (so sd : Value) (side : Int) (bk : Bool) (f : Fl) (w : World) (hF : w.heap[f.blk]? = some (.cells (flc f).toArray 93 (0, 0))) (hs : f.side = 0) (hb : Comes side bk) :
  Calls Tryz.prog 151 #[.agg #[.pointer (some ⟨g, 0, none⟩), .int .u8 tos, .int .u16 id, .bool keep, .int .u8 ttl, .int .u8 17, .int .u32 src, .int .u32 dst, so, sd, .int .i64 side], .pointer (some ⟨f.blk, 0, none⟩), .bool bk] w fun e w' => e = .returned (.bool true) ∧ Later w w' := by
 have l0 := later_allocG w (.cells #[.pointer (some ⟨g, 0, none⟩), .int .u8 tos, .int .u16 id, .bool keep, .int .u8 ttl, .int .u8 17, .int .u32 src, .int .u32 dst, so, sd, .int .i64 side] 149)
 have C0 := hide (heap_alloc_new w (.cells #[.pointer (some ⟨g, 0, none⟩), .int .u8 tos, .int .u16 id, .bool keep, .int .u8 ttl, .int .u8 17, .int .u32 src, .int .u32 dst, so, sd, .int .i64 side] 149))
 have HF := hide (later_keep l0 hF)
 have HS := hide hs
 clear hF hs
 rcases hb with ⟨rfl, rfl⟩ | ⟨rfl, rfl⟩
 all_goals
  go_enter Tryz.func151, Tryz.ntmps151
  go_upto_region 1 with fail
  generalize w.alloc _ = w1 at *
  generalize w.heap.size = gx at *
  refine anyR_begin (R := Later) Later.pre Later.drew 11 rfl (by kernel_rfl) (fun V0 hV0 => ?_)
  have q0 : ∀ v, Later V0 v → ∀ j, v.cell? ⟨gx, j, none⟩ = _ := fun v hv => block_cell (later_keep (hV0.trans hv) C0.out)
  have q1 : ∀ v, Later V0 v → ∀ j, v.cell? ⟨f.blk, j, none⟩ = (flc f).toArray[j]? := fun v hv => block_cell (later_keep (hV0.trans hv) HF.out)
  unfold flc at q1
  rw [HS.out] at q1
  refine rV Later.pre 0 rfl rfl ⟨_, fun v h => by (go_simp; rfl), ?_⟩; simp only [Act.put, sA, sB, sC]
  refine rV Later.pre 1 rfl rfl ⟨_, fun v h => by (go_simp; rfl), ?_⟩; simp only [Act.put, sA, sB, sC]
  refine rV Later.pre 2 rfl rfl ⟨_, fun v h => by (go_simp; rfl), ?_⟩; simp only [Act.put, sA, sB, sC]
  refine rV Later.pre 3 rfl rfl ⟨_, fun v h => by (go_simp; rfl), ?_⟩; simp only [Act.put, sA, sB, sC]
  refine rV Later.pre 4 rfl rfl ⟨_, fun v h => by (go_simp; rfl), ?_⟩; simp only [Act.put, sA, sB, sC]
  refine rV Later.pre 5 rfl rfl ⟨_, fun v h => by (go_simp; rfl), ?_⟩; simp only [Act.put, sA, sB, sC]
  refine rV Later.pre 6 rfl rfl ⟨_, fun v h => by (go_simp; rfl), ?_⟩; simp only [Act.put, sA, sB, sC]
  refine rV Later.pre 7 rfl rfl ⟨_, fun v h => by (go_simp; rfl), ?_⟩; simp only [Act.put, sA, sB, sC]
  refine rV Later.pre 8 rfl rfl ⟨_, fun v h => by (go_simp; rfl), ?_⟩; simp only [Act.put, sA, sB, sC]
  refine rV Later.pre 9 rfl rfl ⟨_, fun v h => by (go_simp; rfl), ?_⟩; simp only [Act.put, sA, sB, sC]
  refine rV Later.pre 10 rfl rfl ⟨_, fun v h => by (go_simp; rfl), ?_⟩; simp only [Act.put, sA, sB, sC]
  refine anyR_done (by kernel_rfl) (fun V9 hV9 => ?_)
  go_wp2_with fail
  go_ret
  exact ⟨rfl, l0.trans (hV0.trans hV9)⟩
theorem next_udp (g : Nat) (tos id ttl src dst : Int) (keep : Bool) (so sd : Value) (side : Int) (bk : Bool) (f : Fl) (w : World) (hF : w.heap[f.blk]? = some (.cells (flc f).toArray 93 (0, 0))) :
  Calls Tryz.prog 155 #[.agg #[.pointer (some ⟨g, 0, none⟩), .int .u8 tos, .int .u16 id, .bool keep, .int .u8 ttl, .int .u8 17, .int .u32 src, .int .u32 dst, so, sd, .int .i64 side], .pointer (some ⟨f.blk, 0, none⟩), .bool bk] w fun e w' => e = .returned (.int .i64 (ot f.st bk)) ∧ Later w w' := by
 have l0 := later_allocG w (.cells #[.pointer (some ⟨g, 0, none⟩), .int .u8 tos, .int .u16 id, .bool keep, .int .u8 ttl, .int .u8 17, .int .u32 src, .int .u32 dst, so, sd, .int .i64 side] 149)
 have C0 := hide (heap_alloc_new w (.cells #[.pointer (some ⟨g, 0, none⟩), .int .u8 tos, .int .u16 id, .bool keep, .int .u8 ttl, .int .u8 17, .int .u32 src, .int .u32 dst, so, sd, .int .i64 side] 149))
 have HF := hide (later_keep l0 hF)
 clear hF
 go_enter Tryz.func155, Tryz.ntmps155
 go_upto_region 1 with fail
 generalize w.alloc _ = w1 at *
 generalize w.heap.size = gx at *
 have k0 := block_cell C0.out
 have k1 := block_cell HF.out
 unfold flc at k1
 go_wp2_with fail
 refine (other_any f.st bk w1).mono ?_
 rintro e w2 ⟨rfl, rfl⟩
 go_wp2_with fail
 go_ret
 exact ⟨rfl, l0⟩
theorem owner_back (base g : Nat) (s : Gf) (f : Fl) (bk : Bool) (tos id ttl src dst : Int) (keep : Bool) (so sd : Value) (side : Int) (p x d a b : Int) (k : Nat) (r : Rw) (w : World) (h : GF base w g s) (hf : f ∈ s.fs) (hu : IdU s) (huq : ∀ x ∈ s.fs, x.blk = f.blk → x = f) (hk : kx p x d a b s.rw = some k) (hr : (s.rw (bki p x d a b))[k]? = some r) (hid : r.id = f.id) (hs : 0 ≤ x ∧ x ≤ 4294967295) (hd : 0 ≤ d ∧ d ≤ 4294967295) (ha : 0 ≤ a ∧ a ≤ 65535) (hb : 0 ≤ b ∧ b ≤ 65535)
  (hbk : bk = true ↔ ¬ (p = f.o.pr ∧ x = f.o.src ∧ d = f.o.dst ∧ kyp p a = kyp f.o.pr f.o.sp ∧ b = f.o.dp)) (hsd : f.side = 0) (hcm : Comes side bk) (hbs : base ≤ w.heap.size) (hBo : TuB f.o) (hBr : TuB f.r) (htr : 0 ≤ s.trn ∧ s.trn ≤ 999999) (hnw : 0 ≤ s.now ∧ s.now ≤ 549755813888) :
  Calls Tryz.prog 108 #[.agg #[.pointer (some ⟨g, 0, none⟩), .int .u8 tos, .int .u16 id, .bool keep, .int .u8 ttl, .int .u8 17, .int .u32 src, .int .u32 dst, so, sd, .int .i64 side], .agg #[.int .u8 p, .int .u32 x, .int .u32 d, .int .u16 a, .int .u16 b]] w fun e w' => e = .returned (.tuple #[.pointer (some ⟨f.blk, 0, none⟩), .bool bk]) ∧ KG base w w' ∧ GF base w' g (bcS s f (ot f.st bk)) := by
 obtain ⟨l0, c0, c1⟩ := alloc2 w (.cells #[.pointer (some ⟨g, 0, none⟩), .int .u8 tos, .int .u16 id, .bool keep, .int .u8 ttl, .int .u8 17, .int .u32 src, .int .u32 dst, so, sd, .int .i64 side] 149) (.cells #[.int .u8 p, .int .u32 x, .int .u32 d, .int .u16 a, .int .u16 b] 68)
 have C0 := hide c0
 have C1 := hide c1
 have HL := hide (lookUpF_yes base g s f bk p x d a b k r _ (h.later l0) hf hu hk hr hid hs hd ha hb hbk)
 have HB := hide (fun W (l : Later w W) => become_any base g s f (ot f.st bk) W (h.later l) hf huq (Nat.le_trans hbs l.size) hBo hBr htr hnw)
 have HF := hide (fun W (l : Later w W) => later_keep l (h.fb f hf).2)
 have HSD := hide hsd
 have HCM := hide hcm
 clear c0 c1 h hf hu huq hk hr hid hs hd ha hb hbk hsd hcm hBo hBr htr hnw
 go_enter Tryz.func108, Tryz.ntmps108
 go_upto_region 1 with fail
 generalize (w.alloc (.cells #[.pointer (some ⟨g, 0, none⟩), .int .u8 tos, .int .u16 id, .bool keep, .int .u8 ttl, .int .u8 17, .int .u32 src, .int .u32 dst, so, sd, .int .i64 side] 149)).alloc (.cells #[.int .u8 p, .int .u32 x, .int .u32 d, .int .u16 a, .int .u16 b] 68) = w1 at *
 generalize hgx : w.heap.size = gx at C0 C1 ⊢
 have k0 := block_cell C0.out
 have k1 := block_cell C1.out
 go_wp2_with fail
 refine HL.out.mono ?_
 rintro e w2 ⟨rfl, l2⟩
 clear k0 k1 HL
 have L2 : Later w w2 := l0.trans l2
 have k0 := block_cell (later_keep l2 C0.out)
 go_wp2_with fail
 refine (comes_yes g tos id ttl src dst keep so sd side bk f w2 (HF.out w2 L2) HSD.out HCM.out).mono ?_
 rintro e w3 ⟨rfl, l3⟩
 clear k0
 have L3 : Later w w3 := L2.trans l3
 go_wp2_with fail
 refine (grefuse_no 3 _).mono ?_
 rintro e w4 ⟨rfl, hw4⟩
 subst hw4
 go_upto_region 5 with fail
 refine anyT_begin (R := KG base) 8 rfl (by kernel_rfl) ?_
 have ld : Later w3 w3.drew := Later.drew w3
 generalize w3.drew = wd at *
 have D0 := hide (later_keep (l2.trans (l3.trans ld)) C0.out)
 have q0 : ∀ v, KG base wd v → ∀ j, v.cell? ⟨gx, j, none⟩ = _ := fun v hv => block_cell (hv.cells D0.out (by decide))
 refine tV (KG.pre base) 0 rfl rfl ⟨_, fun v h => by (go_simp; rfl), ?_⟩; simp only [Act.put, sA, sB, sC]
 refine tV (KG.pre base) 1 rfl rfl ⟨_, fun v h => by (go_simp; rfl), ?_⟩; simp only [Act.put, sA, sB, sC]
 refine tV (KG.pre base) 2 rfl rfl ⟨_, fun v h => by (go_simp; rfl), ?_⟩; simp only [Act.put, sA, sB, sC]
 refine tV (KG.pre base) 3 rfl rfl ⟨_, fun v h => by (go_simp; rfl), ?_⟩; simp only [Act.put, sA, sB, sC]
 refine tV (KG.pre base) 4 rfl rfl ⟨_, fun v h => by (go_simp; rfl), ?_⟩; simp only [Act.put, sA, sB, sC]
 refine tV (KG.pre base) 5 rfl rfl ⟨_, fun v h => by (go_simp; rfl), ?_⟩; simp only [Act.put, sA, sB, sC]
 clear q0
 refine anyT_one 6 rfl (by kernel_rfl) rfl ?_
 refine wp_enter 155 #[.agg #[.pointer (some ⟨g, 0, none⟩), .int .u8 tos, .int .u16 id, .bool keep, .int .u8 ttl, .int .u8 17, .int .u32 src, .int .u32 dst, so, sd, .int .i64 side], .pointer (some ⟨f.blk, 0, none⟩), .bool bk] (by go_simp) ?_
 refine (next_udp g tos id ttl src dst keep so sd side bk f wd (HF.out wd (L3.trans ld))).mono ?_
 rintro e w5 ⟨rfl, l5⟩
 refine ⟨KG.of_later l5, ?_⟩
 simp only [Act.put, sA, sB, sC]
 refine anyT_one 7 rfl (by kernel_rfl) rfl ?_
 refine wp_enter 154 #[.pointer (some ⟨g, 0, none⟩), .pointer (some ⟨f.blk, 0, none⟩), .int .i64 (ot f.st bk)] (by go_simp) ?_
 refine (HB.out w5 (L3.trans (ld.trans l5))).mono ?_
 rintro e w6 ⟨rfl, k6, hG⟩
 refine ⟨k6, ?_⟩
 simp only [Act.put, sA, sB, sC]
 refine anyT_done (by kernel_rfl) ?_
 go_wp2_with fail
 exact bodyPost_ret (v := .tuple #[.pointer (some ⟨f.blk, 0, none⟩), .bool bk]) (by simp [results, Tryz.results108, go_sem]) rfl ⟨rfl, (KG.of_later (L3.trans (ld.trans l5))).trans k6, hG⟩
def oth (f : Fl) (bk : Bool) : Tu := if bk then f.o else f.r
theorem other_bk (f : Fl) (w : World) (h : w.heap[f.blk]? = some (.cells (flc f).toArray 93 (0, 0))) :
  Calls Tryz.prog 110 #[.pointer (some ⟨f.blk, 0, none⟩), .bool true] w fun e w' => e = .returned (.agg #[.int .u8 f.o.pr, .int .u32 f.o.src, .int .u32 f.o.dst, .int .u16 f.o.sp, .int .u16 f.o.dp]) ∧ Later w w' := by
 have la := later_allocG w (.cells #[.int .u8 0, .int .u32 0, .int .u32 0, .int .u16 0, .int .u16 0] 68)
 have C0 := hide (heap_alloc_new w (.cells #[.int .u8 0, .int .u32 0, .int .u32 0, .int .u16 0, .int .u16 0] 68))
 have C1 := hide (later_keep la h)
 clear h
 go_enter Tryz.func110, Tryz.ntmps110
 go_upto_region 2 with fail
 generalize w.alloc _ = w1 at *
 generalize hgx : w.heap.size = gx at C0 ⊢
 have k0 := block_cell C0.out
 have f0 := block_frozen C0.out
 have k1 := block_cell C1.out
 unfold flc at k1
 go_wp2_with fail
 generalize hV : World.setCell _ ⟨gx, 4, none⟩ _ = V8
 have hV9 : V8 = putRow w1 gx 0 [.int .u8 f.o.pr, .int .u32 f.o.src, .int .u32 f.o.dst, .int .u16 f.o.sp, .int .u16 f.o.dp] := hV.symm
 have hb8 : But (fun b => b = gx) w1 V8 := by rw [hV9]; exact putRow_but (E := fun b => b = gx) (n := gx) rfl _ _ _ _ (But.refl _ _)
 have p8 := putRow_all [.int .u8 f.o.pr, .int .u32 f.o.src, .int .u32 f.o.dst, .int .u16 f.o.sp, .int .u16 f.o.dp] C0.out rfl
 rw [← hV9] at p8
 clear hV hV9
 have P8 := block_cell p8
 exact bodyPost_ret (v := .agg #[.int .u8 f.o.pr, .int .u32 f.o.src, .int .u32 f.o.dst, .int .u16 f.o.sp, .int .u16 f.o.dp]) (by simp [results, Tryz.results110, go_sem, P8]) rfl ⟨rfl, Below.trans la (hb8.below la.size (fun k hk e => by have e' : k = gx := e; omega))⟩
theorem other_any2 (f : Fl) (bk : Bool) (w : World) (h : w.heap[f.blk]? = some (.cells (flc f).toArray 93 (0, 0))) :
  Calls Tryz.prog 110 #[.pointer (some ⟨f.blk, 0, none⟩), .bool bk] w fun e w' => e = .returned (.agg #[.int .u8 (oth f bk).pr, .int .u32 (oth f bk).src, .int .u32 (oth f bk).dst, .int .u16 (oth f bk).sp, .int .u16 (oth f bk).dp]) ∧ Later w w' := by
 cases bk with
 | true => exact other_bk f w h
 | false => exact other_no f w h
structure Bel (s : Gf) (f : Fl) (bk : Bool) (side src dst a b : Int) : Prop where
 hf : f ∈ s.fs
 hu : IdU s
 huq : ∀ x ∈ s.fs, x.blk = f.blk → x = f
 kx : ∃ (k : Nat) (r : Rw), kx 17 src dst a b s.rw = some k ∧ (s.rw (bki 17 src dst a b))[k]? = some r ∧ r.id = f.id
 hx : 0 ≤ src ∧ src ≤ 4294967295
 hd : 0 ≤ dst ∧ dst ≤ 4294967295
 ha : 0 ≤ a ∧ a ≤ 65535
 hb : 0 ≤ b ∧ b ≤ 65535
 bq : bk = true ↔ ¬ ((17 : Int) = f.o.pr ∧ src = f.o.src ∧ dst = f.o.dst ∧ kyp 17 a = kyp f.o.pr f.o.sp ∧ b = f.o.dp)
 sd : f.side = 0
 cm : Comes side bk
 hBo : TuB f.o
 hBr : TuB f.r
 po : f.o.pr = 17
 pr : f.r.pr = 17
 hp : f.hp = noh
 tr : 0 ≤ s.trn ∧ s.trn ≤ 999999
 nw : 0 ≤ s.now ∧ s.now ≤ 549755813888
theorem Bel.q {s : Gf} {f : Fl} {bk : Bool} {side src dst a b : Int} (h : Bel s f bk side src dst a b) : TuB (oth f bk) ∧ (oth f bk).pr = 17 := by
 unfold oth
 split
 ·exact ⟨h.hBo, h.po⟩
 ·exact ⟨h.hBr, h.pr⟩
def CbQ (base : Nat) (w w' : World) (g : Nat) (s : Gf) (f : Fl) (bk : Bool) (tos id ttl : Int) (keep : Bool) (zo zd : List Int) (q : Tu) (e : Ending) : Prop := ∃ (ao : Option Addr) (co : Nat) (ad : Option Addr) (cd : Nat), e = .returned (.agg #[.int .u8 tos, .int .u16 id, .bool keep, .int .u8 ttl, .int .u8 17, .int .u32 q.dst, .int .u32 q.src, .slice ao zo.length co, .slice ad zd.length cd]) ∧ KG base w w' ∧ GF base w' g (bcS s f (ot f.st bk)) ∧ Ow w.heap.size w' (.slice ao zo.length co) zo ∧ Ow w.heap.size w' (.slice ad zd.length cd) (rwD 17 q.dst q.src q.dp q.sp zd)
theorem changed_back (base g : Nat) (s : Gf) (f : Fl) (bk : Bool) (tos id ttl src dst : Int) (keep : Bool) (so sd : Value) (side : Int) (zo zd : List Int) (a b : Int) (n0 : Nat) (w : World) (h : GF base w g s) (hR : Bel s f bk side src dst a b) (he : ofe 17 src dst zd = 0) (hea : ofa 17 zd = a) (heb : ofb 17 zd = b) (hfl : flt zo.length zd.length = 0) (hBo : Mt.By zo) (hBd : Mt.By zd) (hOo : Ow n0 w so zo) (hOd : Ow n0 w sd zd) (hlo : zo.length ≤ 60000) (hld : zd.length ≤ 70000) (ht : 0 ≤ tos ∧ tos ≤ 255) (hid : 0 ≤ id ∧ id ≤ 65535) (htl : 0 ≤ ttl ∧ ttl ≤ 255) (hbs : base ≤ w.heap.size) (hz : ∀ W, KG base w W → Tb W) :
  Calls Tryz.prog 57 #[.agg #[.pointer (some ⟨g, 0, none⟩), .int .u8 tos, .int .u16 id, .bool keep, .int .u8 ttl, .int .u8 17, .int .u32 src, .int .u32 dst, so, sd, .int .i64 side]] w fun e w' => CbQ base w w' g s f bk tos id ttl keep zo zd (oth f bk) e := by
 obtain ⟨l0, c0, c1⟩ := alloc2 w (.cells #[.pointer (some ⟨g, 0, none⟩), .int .u8 tos, .int .u16 id, .bool keep, .int .u8 ttl, .int .u8 17, .int .u32 src, .int .u32 dst, so, sd, .int .i64 side] 149) (.cells #[.int .u8 0, .int .u16 0, .bool false, .int .u8 0, .int .u8 0, .int .u32 0, .int .u32 0, .slice none 0 0, .slice none 0 0] 56)
 have C0 := hide c0
 have C1 := hide c1
 clear c0 c1
 have HQ := hide (fun W (l : Later w W) => of_any tos id ttl 17 src dst keep so sd zd W (hz W (KG.of_later l)) hBd ((hOd.kg (KG.of_later (base := base) l)).rd) (by omega) hR.hx hR.hd)
 rw [he, hea, heb] at HQ
 have hv : otv 0 17 src dst a b = .agg #[.int .u8 17, .int .u32 src, .int .u32 dst, .int .u16 a, .int .u16 b] := by unfold otv; rw [if_pos rfl]
 rw [hv] at HQ
 obtain ⟨kk, rr, hk1, hk2, hk3⟩ := hR.kx
 have HOW := hide (fun W (k : KG base w W) (hh : GF base W g s) => owner_back base g s f bk tos id ttl src dst keep so sd side 17 src dst a b kk rr W hh hR.hf hR.hu hR.huq hk1 hk2 hk3 hR.hx hR.hd hR.ha hR.hb hR.bq hR.sd hR.cm (Nat.le_trans hbs k.size) hR.hBo hR.hBr hR.tr hR.nw)
 have hq := hR.q
 have HRW := hide (fun W (k : KG base w W) => rewrite_any tos id ttl 17 src dst keep so sd zo zd 17 (oth f bk).dst (oth f bk).src (oth f bk).dp (oth f bk).sp W (hz W k) hBo hBd ((hOo.kg k).rd) ((hOd.kg k).rd) (by omega) (by omega) ht hid htl (by decide) hR.hx hR.hd hq.1.2.1 hq.1.1 hq.1.2.2.2 hq.1.2.2.1)
 have HQP := hide hq.2
 have HMF := hide (show f ∈ s.fs from hR.hf)
 have HHP := hide hR.hp
 have hrw : rwe 17 17 src dst zo.length zd = 0 := by unfold rwe; simp [he, hfl]
 rw [hrw] at HRW
 obtain ⟨sox, soc, rfl, _, _⟩ := hOo.slice
 obtain ⟨sdx, sdc, rfl, _, _⟩ := hOd.slice
 have HG := hide (h.later l0)
 have HFX := hide ((Array.getElem?_eq_some_iff.1 (h.fb f hR.hf).2).1)
 clear hv h hR he hea heb hfl hBo hBd hOo hOd hz hrw hq hk1 hk2 hk3
 go_enter Tryz.func57, Tryz.ntmps57
 go_upto_region 1 with fail
 generalize (w.alloc (.cells _ 149)).alloc (.cells _ 56) = w1 at *
 generalize hgx : w.heap.size = gx at C0 C1 ⊢
 have k0 := block_cell C0.out
 go_wp2_with fail
 refine (HQ.out w1 l0).mono ?_
 rintro e w2 ⟨l2, rfl⟩
 have l2' : Later w1 w2 := l2
 clear k0 HQ l2
 go_upto_region 2 with fail
 have la := later_allocG w2 (.cells #[.int .u8 17, .int .u32 src, .int .u32 dst, .int .u16 a, .int .u16 b] 68)
 have C3 := hide (heap_alloc_new w2 (.cells #[.int .u8 17, .int .u32 src, .int .u32 dst, .int .u16 a, .int .u16 b] 68))
 have D0 := hide (later_keep (l2'.trans la) C0.out)
 have D1 := hide (later_keep (l2'.trans la) C1.out)
 have H3 := hide (HG.out.later (l2'.trans la))
 have L3 : Later w (w2.alloc (.cells #[.int .u8 17, .int .u32 src, .int .u32 dst, .int .u16 a, .int .u16 b] 68)) := l0.trans (l2'.trans la)
 change Code.wp _ _ _ _ (w2.alloc (.cells #[.int .u8 17, .int .u32 src, .int .u32 dst, .int .u16 a, .int .u16 b] 68))
 generalize w2.alloc (.cells #[.int .u8 17, .int .u32 src, .int .u32 dst, .int .u16 a, .int .u16 b] 68) = w3 at *
 generalize hg3 : w2.heap.size = g3 at *
 have hg3x : gx + 1 < g3 := by rw [← hg3]; exact Nat.lt_of_lt_of_le (bl9 C1.out) l2'.size
 clear C0 C1 HG l2' la hg3
 have k0 := block_cell D0.out
 have k3 := block_cell C3.out
 go_wp2_with fail
 refine (grefuse_no 1 _).mono ?_
 rintro e w4 ⟨rfl, hw4⟩
 subst hw4
 go_wp2_with fail
 refine (HOW.out w3 (KG.of_later L3) H3.out).mono ?_
 rintro e w4 ⟨rfl, kg4, hG4⟩
 clear k0 k3 HOW H3
 have K4 : Hid (KG base w w4) := (KG.of_later L3).trans kg4
 have E0 := hide (kg4.cells D0.out (by decide))
 have E1 := hide (kg4.cells D1.out (by decide))
 have E3 := hide (kg4.cells C3.out (by decide))
 have hfx : f.blk < gx := by rw [← hgx]; exact HFX.out
 have G4 := hide hG4
 obtain ⟨ST, TL, hF⟩ : ∃ ST TL, w4.heap[f.blk]? = some (.cells (flc (f.at ST TL)).toArray 93 (0, 0)) := ⟨_, _, (hG4.fb (f.at (ot f.st bk) _) (mem_withF (f := f) HMF.out rfl)).2⟩
 have HOT := hide (other_any2 (f.at ST TL) bk w4 hF)
 have hqe : oth (f.at ST TL) bk = oth f bk := by unfold oth Fl.at; cases bk <;> rfl
 rw [hqe, HQP.out] at HOT
 have HFF := hide hF
 clear hG4 hF hqe kg4
 generalize hq : oth f bk = q at *
 have HQ := hide hq
 clear hq
 go_wp2_with fail
 refine HOT.out.mono ?_
 rintro e w5 ⟨rfl, l5⟩
 go_wp2_with fail
 refine (reverse_any 17 q.src q.dst q.sp q.dp w5).mono ?_
 rintro e w6 ⟨rfl, l6⟩
 have l6' : Later w5 w6 := l6
 clear l6 HOT
 have la := later_allocG w6 (.cells #[.int .u8 17, .int .u32 q.dst, .int .u32 q.src, .int .u16 q.dp, .int .u16 q.sp] 68)
 have CI := hide (heap_alloc_new w6 (.cells #[.int .u8 17, .int .u32 q.dst, .int .u32 q.src, .int .u16 q.dp, .int .u16 q.sp] 68))
 have LA := hide la
 clear la
 go_upto_region 7 with fail
 generalize w6.alloc _ = w7 at *
 generalize hg7 : w6.heap.size = g7 at *
 have L47 : Later w4 w7 := l5.trans (l6'.trans LA.out)
 have hg7x : g3 < g7 := by
  have q1 := (bl9 E3.out)
  have q2 := l5.size
  have q3 := l6'.size
  omega
 have J0 := hide (later_keep L47 E0.out)
 have J1 := hide (later_keep L47 E1.out)
 have J3 := hide (later_keep L47 E3.out)
 have JF := hide (later_keep L47 HFF.out)
 have K7 : Hid (KG base w w7) := K4.out.trans (KG.of_later L47)
 have G7 := hide (G4.out.later L47)
 clear E0 E1 E3 HFF K4 G4 l5 l6' LA hg7 L47
 have k0 := block_cell J0.out
 have kI := block_cell CI.out
 go_wp2_with fail
 refine (HRW.out w7 K7.out).mono ?_
 rintro e w8 ⟨l8, ⟨h0, _⟩ | ⟨_, ao, co, ad, cd, rfl, ho8, hd8⟩⟩
 ·exact absurd rfl h0
 have l8' : Later w7 w8 := l8
 clear k0 kI l8 HRW
 have la := later_allocG w8 (.cells #[.int .u8 tos, .int .u16 id, .bool keep, .int .u8 ttl, .int .u8 17, .int .u32 q.dst, .int .u32 q.src, .slice ao zo.length co, .slice ad zd.length cd] 56)
 have CP := hide (heap_alloc_new w8 (.cells #[.int .u8 tos, .int .u16 id, .bool keep, .int .u8 ttl, .int .u8 17, .int .u32 q.dst, .int .u32 q.src, .slice ao zo.length co, .slice ad zd.length cd] 56))
 have LA := hide la
 have hs78 : w7.heap.size ≤ w8.heap.size := l8'.size
 clear la
 go_upto_region 8 with fail
 generalize w8.alloc _ = w9 at *
 generalize hg9 : w8.heap.size = g9 at *
 have L79 : Later w7 w9 := l8'.trans LA.out
 have hg9x : g7 < g9 := by
  have q1 := (bl9 CI.out)
  omega
 have N0 := hide (later_keep L79 J0.out)
 have N1 := hide (later_keep L79 J1.out)
 have N3 := hide (later_keep L79 J3.out)
 have NF := hide (later_keep L79 JF.out)
 have NI := hide (later_keep L79 CI.out)
 have K9 : Hid (KG base w w9) := K7.out.trans (KG.of_later L79)
 have G9 := hide (G7.out.later L79)
 have O9 := hide ((ho8.mono K7.out.size).kg (KG.of_later (base := base) LA.out))
 have Q9 := hide ((hd8.mono K7.out.size).kg (KG.of_later (base := base) LA.out))
 clear J0 J1 J3 JF CI K7 G7 l8' LA hg9 L79 ho8 hd8 hs78
 refine anyT_begin (R := But (fun q => q = gx + 1)) 13 rfl (by kernel_rfl) ?_
 have ld : Later w9 w9.drew := Later.drew w9
 generalize w9.drew = wd at *
 have hnb : ∀ (k : Nat) (cur : Array Value) (t : TypeId) (fz : Nat × Nat), k ≠ gx + 1 → w9.heap[k]? = some (.cells cur t fz) → ∀ v, But (fun q => q = gx + 1) wd v → v.heap[k]? = some (.cells cur t fz) := fun k cur t fz hk hh v hv => (hv.block k (Array.getElem?_eq_some_iff.1 (later_keep ld hh)).1 (fun e => hk e)).trans (later_keep ld hh)
 have k0 : ∀ v, But (fun q => q = gx + 1) wd v → ∀ j, v.cell? ⟨gx, j, none⟩ = _ := fun v hv => block_cell (hnb gx _ _ _ (by omega) N0.out v hv)
 have k3 : ∀ v, But (fun q => q = gx + 1) wd v → ∀ j, v.cell? ⟨g3, j, none⟩ = _ := fun v hv => block_cell (hnb g3 _ _ _ (by omega) N3.out v hv)
 have k7 : ∀ v, But (fun q => q = gx + 1) wd v → ∀ j, v.cell? ⟨g7, j, none⟩ = _ := fun v hv => block_cell (hnb g7 _ _ _ (by omega) NI.out v hv)
 have k9 : ∀ v, But (fun q => q = gx + 1) wd v → ∀ j, v.cell? ⟨g9, j, none⟩ = _ := fun v hv => block_cell (hnb g9 _ _ _ (by omega) CP.out v hv)
 have kF : ∀ v, But (fun q => q = gx + 1) wd v → ∀ j, v.cell? ⟨f.blk, j, none⟩ = (flc (f.at ST TL)).toArray[j]? := fun v hv => block_cell (hnb f.blk _ _ _ (by omega) NF.out v hv)
 unfold flc Fl.at at kF
 rw [HHP.out] at kF
 unfold noh at kF
 refine tV (But.pre (fun q => q = gx + 1)) 0 rfl rfl ⟨_, fun v h => by (go_simp; rfl), ?_⟩; simp only [Act.put, sA, sB, sC]
 refine tV (But.pre (fun q => q = gx + 1)) 1 rfl rfl ⟨_, fun v h => by (go_simp; rfl), ?_⟩; simp only [Act.put, sA, sB, sC]
 refine tV (But.pre (fun q => q = gx + 1)) 2 rfl rfl ⟨_, fun v h => by (go_simp; rfl), ?_⟩; simp only [Act.put, sA, sB, sC]
 refine tV (But.pre (fun q => q = gx + 1)) 3 rfl rfl ⟨_, fun v h => by (go_simp; rfl), ?_⟩; simp only [Act.put, sA, sB, sC]
 refine tV (But.pre (fun q => q = gx + 1)) 4 rfl rfl ⟨_, fun v h => by (go_simp; rfl), ?_⟩; simp only [Act.put, sA, sB, sC]
 refine tV (But.pre (fun q => q = gx + 1)) 5 rfl rfl ⟨_, fun v h => by (go_simp; rfl), ?_⟩; simp only [Act.put, sA, sB, sC]
 refine tV (But.pre (fun q => q = gx + 1)) 6 rfl rfl ⟨_, fun v h => by (go_simp; rfl), ?_⟩; simp only [Act.put, sA, sB, sC]
 refine tV (But.pre (fun q => q = gx + 1)) 7 rfl rfl ⟨_, fun v h => by (go_simp; rfl), ?_⟩; simp only [Act.put, sA, sB, sC]
 refine tV (But.pre (fun q => q = gx + 1)) 8 rfl rfl ⟨_, fun v h => by (go_simp; rfl), ?_⟩; simp only [Act.put, sA, sB, sC]
 refine tV (But.pre (fun q => q = gx + 1)) 9 rfl rfl ⟨_, fun v h => by (go_simp; rfl), ?_⟩; simp only [Act.put, sA, sB, sC]
 refine tV (But.pre (fun q => q = gx + 1)) 10 rfl rfl ⟨_, fun v h => by (go_simp; rfl), ?_⟩; simp only [Act.put, sA, sB, sC]
 clear k0 k3 k7 k9 kF
 refine anyT_one 11 rfl (by kernel_rfl) rfl ?_
 refine wp_enter 503 #[.agg #[], .agg #[.pointer (some ⟨g, 0, none⟩), .int .u8 tos, .int .u16 id, .bool keep, .int .u8 ttl, .int .u8 17, .int .u32 src, .int .u32 dst, .slice sox zo.length soc, .slice sdx zd.length sdc, .int .i64 side, .pointer (some ⟨f.blk, 0, none⟩), .bool bk, .int .u8 17, .int .u32 src, .int .u32 dst, .int .u16 a, .int .u16 b, .int .u8 17, .int .u32 q.dst, .int .u32 q.src, .int .u16 q.dp, .int .u16 q.sp], .agg #[.int .u8 tos, .int .u16 id, .bool keep, .int .u8 ttl, .int .u8 17, .int .u32 q.dst, .int .u32 q.src, .slice ao zo.length co, .slice ad zd.length cd]] (by have hmt := meth_noh; go_simp) ?_
 refine (nohelp_any _ wd tos id ttl 17 q.dst q.src keep ao ad zo.length co zd.length cd).mono ?_
 rintro e w10 ⟨rfl, l10⟩
 refine ⟨But.of l10, ?_⟩
 simp only [Act.put, sA, sB, sC]
 have N1d := hide (later_keep (ld.trans l10) N1.out)
 have kk := block_cell N1d.out
 have ff := block_frozen N1d.out
 refine anyT_one 12 rfl (by kernel_rfl) rfl ?_
 unfold Oper.wp
 go_simp
 generalize hV : World.setCell _ ⟨_, 8, none⟩ _ = V8
 have hV9 : V8 = putRow w10 (gx + 1) 0 [.int .u8 tos, .int .u16 id, .bool keep, .int .u8 ttl, .int .u8 17, .int .u32 q.dst, .int .u32 q.src, .slice ao zo.length co, .slice ad zd.length cd] := hV.symm
 have hb8 : But (fun b => b = gx + 1) w10 V8 := by rw [hV9]; exact putRow_but (E := fun b => b = gx + 1) (n := gx + 1) rfl _ _ _ _ (But.refl _ _)
 have p8 := putRow_all [.int .u8 tos, .int .u16 id, .bool keep, .int .u8 ttl, .int .u8 17, .int .u32 q.dst, .int .u32 q.src, .slice ao zo.length co, .slice ad zd.length cd] N1d.out rfl
 rw [← hV9] at p8
 clear hV hV9 kk ff
 have HB8 := hide hb8
 have HP8 := hide p8
 clear hb8 p8
 refine ⟨HB8.out, ?_⟩
 refine anyT_done (by kernel_rfl) ?_
 have K10 : KG base w w10 := K9.out.trans (KG.of_later (ld.trans l10))
 have k8 : KG base w V8 := K10.own HB8.out (by omega)
 have o8 := ((O9.out.kg (KG.of_later (base := base) (ld.trans l10))).aside N1d.out (by decide) HB8.out)
 have q8 := ((Q9.out.kg (KG.of_later (base := base) (ld.trans l10))).aside N1d.out (by decide) HB8.out)
 have P8 := block_cell HP8.out
 go_wp2_with fail
 exact bodyPost_ret (v := .agg #[.int .u8 tos, .int .u16 id, .bool keep, .int .u8 ttl, .int .u8 17, .int .u32 q.dst, .int .u32 q.src, .slice ao zo.length co, .slice ad zd.length cd]) (by simp [results, Tryz.results57, go_sem, P8]) rfl (by
  show CbQ base w V8 g s f bk tos id ttl keep zo zd (oth f bk) _
  rw [HQ.out]
  exact ⟨ao, co, ad, cd, rfl, k8, ((G9.out.later (ld.trans l10)).other (TE.one N1d.out) HB8.out (by decide)), o8, q8⟩)
def roT (t : Tu) (id tl tn : Int) : Rw := ⟨t.pr, t.src, t.dst, kyp t.pr t.sp, t.dp, id, tl, tn⟩
def tuA (t u : Tu) : Prop := t.pr = u.pr ∧ t.src = u.src ∧ t.dst = u.dst ∧ kyp t.pr t.sp = kyp u.pr u.sp ∧ t.dp = u.dp
theorem ptT_yes (t : Tu) (id tl : Int) (c tn : Int) (ls : Nat → List Rw) (hm : mayb tl = true) (hc : c < 128) (hk : kx t.pr t.src t.dst t.sp t.dp ls = none) : ptT t id tl (c, tn, ls) = (c + 1, tn + 1, addL ls (bkT t) (roT t id tl (tn + 1))) := by
 have hp : pute 128 c ls t.pr t.src t.dst t.sp t.dp tl = 0 := by
  unfold pute
  rw [if_neg (by rw [hm]; simp), hk, if_neg (by simp), if_neg (by omega)]
 unfold ptT
 rw [if_pos hp]
 rfl
theorem mvT_yes (t : Tu) (tl tn : Int) (ls : Nat → List Rw) (k : Nat) (hm : mayb tl = true) (hk : kxT t ls = some k) : mvT t tl (tn, ls) = (tn + 1, mvL ls (bkT t) k tl (tn + 1)) := by
 unfold mvT
 rw [if_neg (show ¬ mayb tl = false by rw [hm]; simp), hk]
theorem GF.now {base g : Nat} {W : World} {s : Gf} (h : GF base W g s) (n : Int) : GF base (W.setCell ⟨g, 2, none⟩ (.int .i64 n)) g { s with now := n } := by
 have hb : But (fun b => b = g) W (W.setCell ⟨g, 2, none⟩ (.int .i64 n)) := (But.refl (fun b => b = g) _).setCell (show _ = _ from rfl) _
 have hE := TE.one h.gc
 exact ⟨h.bs, heap_set1 h.gc 2 (.int .i64 n), ⟨h.rl.1, hE.keep hb h.rl.2.1 (isT_no (by decide) _ _), hE.own hb h.rl.2.2 (isT_no (by decide))⟩, hE.table hb h.tb (isT_no (by decide)) (isT_no (by decide)), ⟨h.bl.1, hE.keep hb h.bl.2.1 (isT_no (by decide) _ _), hE.own hb h.bl.2.2 (isT_no (by decide))⟩, hE.keep hb h.fl (isT_map _ _), hE.keep hb h.pl (isT_map _ _), h.ne, h.bf, h.fm, h.pm, fun f hf => ⟨(h.fb f hf).1, hE.keep hb (h.fb f hf).2 (isT_no (by decide) _ _)⟩, fun p hp => ⟨(h.pb p hp).1, (h.pb p hp).2.1, hE.keep hb (h.pb p hp).2.2 (isT_no (by decide) _ _)⟩⟩
theorem GF.book {base g : Nat} {W W' : World} {s : Gf} (h : GF base W g s) (hb : But (fun b => b = s.gb) W W') {v : Value} {l : List Ex} (hl : BL 144 base W' s.gb v l) : GF base W' g { s with ve := v, ex := l } := by
 have hE := TE.one h.bl.2.1
 exact ⟨h.bs, hE.keep hb h.gc (isT_no (by decide) _ _), ⟨h.rl.1, hE.keep hb h.rl.2.1 (isT_no (by decide) _ _), hE.own hb h.rl.2.2 (isT_no (by decide))⟩, hE.table hb h.tb (isT_no (by decide)) (isT_no (by decide)), hl, hE.keep hb h.fl (isT_map _ _), hE.keep hb h.pl (isT_map _ _), h.ne, h.bf, h.fm, h.pm, fun f hf => ⟨(h.fb f hf).1, hE.keep hb (h.fb f hf).2 (isT_no (by decide) _ _)⟩, fun p hp => ⟨(h.pb p hp).1, (h.pb p hp).2.1, hE.keep hb (h.pb p hp).2.2 (isT_no (by decide) _ _)⟩⟩
theorem dueF_none (base bt : Nat) (cnt trn now : Int) (ls : Nat → List Rw) (w : World) (hT : TB base w bt 128 cnt trn ls) (hd : duR now (allR ls) = []) (hal : (allR ls).length ≤ 5000) :
  Calls Tryz.prog 32 #[.pointer (some ⟨bt, 0, none⟩), .int .i64 now] w fun e w' => (∃ g, e = .returned (.slice (some ⟨g, 0, none⟩) 0 0)) ∧ Later w w' := by
 refine (due_any base bt 128 cnt trn now ls [] w hT (by rw [hd]; exact sorts_one [] (by simp)) hal).mono ?_
 rintro e w' ⟨l, g, rfl, _, _⟩
 exact ⟨⟨g, rfl⟩, l⟩
def ltr (s : Gf) (n : Int) (v : Value) : Gf := { s with now := n, ve := v }
def TqG (base : Nat) (w w' : World) (g : Nat) (s : Gf) (nw : Int) : Prop := But (fun b => b = g ∨ b = s.gb) w w' ∧ ∃ n v, (0 ≤ n ∧ n ≤ 549755813888) ∧ (n ≤ nw ∨ n ≤ s.now) ∧ s.now ≤ n ∧ GF base w' g (ltr s n v)
theorem TqG.kg {base g : Nat} {w w' : World} {s : Gf} (h : But (fun b => b = g ∨ b = s.gb) w w') (hg : GF base w g s) : KG base w w' := KG.of_but h (fun k e => by
 rcases e with e | e
 ·rw [e]
  refine ⟨hg.bs, fun ob ho => ?_⟩
  rw [hg.gc] at ho
  cases ho
  show gTs.contains _ = true
  decide
 ·rw [e]
  refine ⟨hg.bl.1, fun ob ho => ?_⟩
  rw [hg.bl.2.1] at ho
  cases ho
  show gTs.contains _ = true
  decide)
theorem tick_quiet (base g : Nat) (s : Gf) (nw : Int) (w : World) (h : GF base w g s) (hbs : base ≤ w.heap.size) (hnw : 0 ≤ s.now ∧ s.now ≤ 549755813888) (hex : s.ex = []) (hdu : ∀ n, n ≤ nw ∨ n ≤ s.now → duR n (allR s.rw) = []) (hal : (allR s.rw).length ≤ 5000) :
  Calls Tryz.prog 14 #[.pointer (some ⟨g, 0, none⟩), .int .i64 nw] w fun e w' => e = .returned (.tuple #[]) ∧ TqG base w w' g s nw := by
 have HDU := hide hdu
 have HEX := hide hex
 have HAL := hide hal
 clear hdu hex hal
 have HG := hide h
 have hbg := h.bs
 go_enter Tryz.func14, Tryz.ntmps14
 have k0 := block_cell h.gc
 have f0 := block_frozen h.gc
 unfold gfc at k0
 go_upto_region 1 with fail
 go_cut [18] (fun _ wx => ∃ nv : Int, ((0 ≤ nv ∧ nv ≤ 549755813888) ∧ (nv ≤ nw ∨ nv ≤ s.now) ∧ s.now ≤ nv) ∧ wx = w.setCell ⟨g, 2, none⟩ (.int .i64 nv))
 case first =>
  go_wp2_with fail
  all_goals
   go_meet
   case rel => exact ⟨_, by omega, rfl⟩
 case rest =>
 clear k0 f0
 obtain ⟨nv, hnr, hnv⟩ := hcut
 obtain ⟨w1, hw1⟩ : ∃ w1, w1 = wc := ⟨_, rfl⟩
 subst hw1
 have h1 : GF base w1 g { s with now := nv } := by rw [hnv]; exact h.now nv
 have M1 : But (fun b => b = g ∨ b = s.gb) w w1 := by
  rw [hnv]
  exact (But.refl (fun b => b = g ∨ b = s.gb) w).setCell (p := ⟨g, 2, none⟩) (show _ ∨ _ from .inl rfl) (.int .i64 nv)
 obtain ⟨s1, hs1⟩ : ∃ s1 : Gf, s1 = { s with now := nv } := ⟨_, rfl⟩
 have e1 : s1.gb = s.gb := by rw [hs1]
 have e2 : s1.ex = [] := by rw [hs1]; exact HEX.out
 have e3 : duR s1.now (allR s1.rw) = [] := by rw [hs1]; exact HDU.out nv hnr.2.1
 have e4 : (allR s1.rw).length ≤ 5000 := by rw [hs1]; exact HAL.out
 have e5 : ∀ v, { s1 with ve := v, ex := [] } = ltr s nv v := fun v => by rw [hs1]; unfold ltr; rw [← HEX.out]
 rw [← hs1] at h1
 have HGB := hide e1
 have HE2 := hide e2
 have HE3 := hide e3
 have HE4 := hide e4
 have HE5 := hide e5
 have HNR := hide hnr
 clear hs1 e1 e2 e3 e4 e5 hnv hnr HDU HEX HAL HG h hnw
 go_upto_region 2 with fail
 refine anyT_begin (R := Later) 11 rfl (by kernel_rfl) ?_
 have ld : Later w1 w1.drew := Later.drew w1
 generalize w1.drew = w2 at *
 have h2 := h1.later ld
 have M2 : But (fun b => b = g ∨ b = s.gb) w w2 := M1.trans (But.of ld)
 have q1 : ∀ v, Later w2 v → ∀ j, v.cell? ⟨g, j, none⟩ = (gfc s1).toArray[j]? := fun v hv => block_cell (later_keep hv h2.gc)
 unfold gfc at q1
 have H2 := hide h2
 clear h1 h2 ld M1
 refine tV Later.pre 0 rfl rfl ⟨_, fun v h => by (go_simp; rfl), ?_⟩; simp only [Act.put, sA, sB, sC]
 refine tV Later.pre 1 rfl rfl ⟨_, fun v h => by (go_simp; rfl), ?_⟩; simp only [Act.put, sA, sB, sC]
 refine tV Later.pre 2 rfl rfl ⟨_, fun v h => by (go_simp; rfl), ?_⟩; simp only [Act.put, sA, sB, sC]
 refine tV Later.pre 3 rfl rfl ⟨_, fun v h => by (go_simp; rfl), ?_⟩; simp only [Act.put, sA, sB, sC]
 refine tV Later.pre 4 rfl rfl ⟨_, fun v h => by (go_simp; rfl), ?_⟩; simp only [Act.put, sA, sB, sC]
 refine tV Later.pre 5 rfl rfl ⟨_, fun v h => by (go_simp; rfl), ?_⟩; simp only [Act.put, sA, sB, sC]
 refine tV Later.pre 6 rfl rfl ⟨_, fun v h => by (go_simp; rfl), ?_⟩; simp only [Act.put, sA, sB, sC]
 refine tV Later.pre 7 rfl rfl ⟨_, fun v h => by (go_simp; rfl), ?_⟩; simp only [Act.put, sA, sB, sC]
 refine tV Later.pre 10 rfl rfl ⟨_, fun v h => by (go_simp; rfl), ?_⟩; simp only [Act.put, sA, sB, sC]
 clear q1
 refine anyT_one 8 rfl (by kernel_rfl) rfl ?_
 refine wp_enter 32 #[.pointer (some ⟨s1.gt, 0, none⟩), .int .i64 s1.now] (by go_simp) ?_
 refine (dueF_none base s1.gt s1.cnt s1.trn s1.now s1.rw w2 H2.out.tb HE3.out HE4.out).mono ?_
 rintro e w3 ⟨⟨gd, rfl⟩, l3⟩
 refine ⟨l3, ?_⟩
 simp only [Act.put, sA, sB, sC]
 refine tV Later.pre 9 rfl rfl ⟨_, fun v h => by (go_simp; rfl), ?_⟩; simp only [Act.put, sA, sB, sC]
 refine anyT_done (by kernel_rfl) ?_
 have h3 := H2.out.later l3
 have M3 : But (fun b => b = g ∨ b = s.gb) w w3 := M2.trans (But.of l3)
 have H3 := hide h3
 clear H2 h3 M2 l3
 go_upto_region 3 with fail
 go_loopw [31] (fun iv wr => iv = .int .i64 0 ∧ wr = w3) (fun _ _ => 0)
 case atStart => exact ⟨rfl, rfl⟩
 case round =>
  obtain ⟨rfl, hw⟩ := hrel
  subst hw
  go_upto_region 9 with fail
  refine anyT_begin (R := But (fun b => b = s1.gb)) 11 rfl (by kernel_rfl) ?_
  have ld : Later wr wr.drew := Later.drew wr
  generalize wr.drew = w4 at *
  have h4 := H3.out.later ld
  have M4 : But (fun b => b = g ∨ b = s.gb) w w4 := M3.trans (But.of ld)
  have q1 : ∀ v, But (fun b => b = s1.gb) w4 v → ∀ j, v.cell? ⟨g, j, none⟩ = (gfc s1).toArray[j]? := fun v hv => block_cell (cellsG_but hv h4.gc h4.bl.2.1 (by intro e; injection e with e1 e2 e3; exact absurd e2 (by decide)))
  unfold gfc at q1
  have H4 := hide h4
  clear H3 h4 M3 ld
  refine tV (But.pre (fun b => b = s1.gb)) 0 rfl rfl ⟨_, fun v h => by (go_simp; rfl), ?_⟩; simp only [Act.put, sA, sB, sC]
  refine tV (But.pre (fun b => b = s1.gb)) 1 rfl rfl ⟨_, fun v h => by (go_simp; rfl), ?_⟩; simp only [Act.put, sA, sB, sC]
  refine tV (But.pre (fun b => b = s1.gb)) 2 rfl rfl ⟨_, fun v h => by (go_simp; rfl), ?_⟩; simp only [Act.put, sA, sB, sC]
  refine tV (But.pre (fun b => b = s1.gb)) 3 rfl rfl ⟨_, fun v h => by (go_simp; rfl), ?_⟩; simp only [Act.put, sA, sB, sC]
  refine tV (But.pre (fun b => b = s1.gb)) 4 rfl rfl ⟨_, fun v h => by (go_simp; rfl), ?_⟩; simp only [Act.put, sA, sB, sC]
  refine tV (But.pre (fun b => b = s1.gb)) 5 rfl rfl ⟨_, fun v h => by (go_simp; rfl), ?_⟩; simp only [Act.put, sA, sB, sC]
  refine tV (But.pre (fun b => b = s1.gb)) 6 rfl rfl ⟨_, fun v h => by (go_simp; rfl), ?_⟩; simp only [Act.put, sA, sB, sC]
  refine tV (But.pre (fun b => b = s1.gb)) 7 rfl rfl ⟨_, fun v h => by (go_simp; rfl), ?_⟩; simp only [Act.put, sA, sB, sC]
  refine tV (But.pre (fun b => b = s1.gb)) 8 rfl rfl ⟨_, fun v h => by (go_simp; rfl), ?_⟩; simp only [Act.put, sA, sB, sC]
  clear q1
  refine anyT_one 9 rfl (by kernel_rfl) rfl ?_
  refine wp_enter 36 #[.pointer (some ⟨s1.gb, 0, none⟩), .int .i64 s1.now] (by go_simp) ?_
  refine (due12_any base s1.gb s1.ve [] s1.now w4 (by have q := H4.out.bl; rw [HE2.out] at q; exact q) (Nat.le_trans hbs M4.size) (by simp)).mono ?_
  rintro e w5 ⟨u, rfl, v5, hbl, hrow, hbut, _⟩
  obtain ⟨ua, uc, rfl⟩ : ∃ a c, u = .slice a 0 c := by
   obtain ⟨_, ⟨rfl, _⟩ | ⟨b, cap, cur, rfl, _⟩⟩ := hrow
   ·exact ⟨_, _, rfl⟩
   ·exact ⟨_, _, rfl⟩
  have h5 := H4.out.book hbut hbl
  have M5 : But (fun b => b = g ∨ b = s.gb) w w5 := M4.trans ⟨hbut.os, hbut.tape, hbut.output, hbut.size, fun i hi he => hbut.block i hi (fun e => he (.inr (by have e' : i = s1.gb := e; rw [e', HGB.out])))⟩
  have HB := hide hbut
  clear hbut hrow hbl
  refine ⟨HB.out, ?_⟩
  simp only [Act.put, sA, sB, sC]
  refine anyT_one 10 rfl (by kernel_rfl) rfl ?_
  refine wp_enter 35 #[.pointer (some ⟨g, 0, none⟩), .slice ua 0 uc] (by go_simp) ?_
  refine (giveExpected_none _ ua uc w5).mono ?_
  rintro e w6 ⟨rfl, hw6⟩
  subst hw6
  refine ⟨But.refl _ _, ?_⟩
  simp only [Act.put, sA, sB, sC]
  refine anyT_done (by kernel_rfl) ?_
  go_wp2_with fail
  go_end0
  exact ⟨rfl, M5, _, v5, HNR.out.1, HNR.out.2.1, HNR.out.2.2, by rw [← HE5.out]; exact h5⟩
def gfS (lo hi : Nat) (s : Gs) : Gf := { lo := lo, hi := hi, now := s.now, bg := 0, ls := s.ls, gr := s.gr, gf := s.gf, gt := s.gt, gb := s.gb, gp := s.gp, vr := s.vr, ve := s.ve, ex := [], cnt := 0, trn := 0, rw := fun _ => [], fs := [], ps := [], fe := #[], pe := #[], cf := s.cf, cp := s.cp }
theorem GI.toF {base g : Nat} {W : World} {s : Gs} {lo hi : Nat} (h : GI base W g s) (hk : GsK base (lo : Int) (hi : Int) s) : GF base W g (gfS lo hi s) := by
 obtain ⟨e1, e2, e3, e4, e5, e6⟩ := hk
 refine ⟨h.bs, ?_, h.rl, h.tb, h.bl, h.fl, h.pl, e4, ⟨e5, e6⟩, rfl, rfl, (fun f hf => by cases hf), (fun p hp => by cases hp)⟩
 have q := h.gc
 unfold gtc at q
 rw [e1, e2] at q
 exact q
structure Rdx (lo hi : Nat) (ls : List Ru) (x d : Int) (a : Nat) (b : Int) (mr : Ru) : Prop where
 ok : okL ls
 fd : ls.find? (mqB x) = some mr
 hx : 0 ≤ x ∧ x ≤ 4294967295
 hd : 0 ≤ d ∧ d ≤ 4294967295
 ha : a ≤ 65535
 hb : 0 ≤ b ∧ b ≤ 65535
 tt : 0 ≤ mr.tt ∧ mr.tt ≤ 4294967295
 h1 : 1 ≤ lo
 h2 : lo ≤ hi
 h3 : hi < 65536
 s1 : (b == 5060) = false
 s2 : ((a : Int) == 5060) = false
 ne : ¬ (x = d ∧ d = mr.tt)
theorem TkG.kg {base g : Nat} {w w' : World} {s : Gs} (h : But (fun b => b = g ∨ b = s.gb) w w') (hg : GI base w g s) : KG base w w' := KG.of_but h (fun k e => by
 rcases e with e | e
 ·rw [e]
  refine ⟨hg.bs, fun ob ho => ?_⟩
  rw [hg.gc] at ho
  cases ho
  show gTs.contains _ = true
  decide
 ·rw [e]
  refine ⟨hg.bl.1, fun ob ho => ?_⟩
  rw [hg.bl.2.1] at ho
  cases ho
  show gTs.contains _ = true
  decide)
def oppo (side : Int) : Int := if side = 0 then 1 else 0
theorem opp_any (side : Int) (hs : side = 0 ∨ side = 1) (w : World) : Calls Tryz.prog 58 #[.int .i64 side] w fun e w' => e = .returned (.int .i64 (oppo side)) ∧ w' = w := by
 rcases hs with rfl | rfl
 all_goals
  go_enter Tryz.func58, Tryz.ntmps58
  go_wp2_with fail
  go_ret
  exact ⟨rfl, rfl⟩
def goB (tos id ttl : Int) (keep : Bool) (zo zd : List Int) (q : Tu) : List Int := hdr tos id keep (ttl - 1) 17 q.dst q.src zo (20 + zo.length + zd.length) ++ rwD 17 q.dst q.src q.dp q.sp zd
def HbQ (base : Nat) (w w' : World) (g : Nat) (s : Gf) (f : Fl) (bk : Bool) (side : Int) (zs : List Int) (e : Ending) : Prop := ∃ v : Value, e = .returned (.agg #[.int .i64 0, .int .i64 (oppo side), v]) ∧ KG base w w' ∧ GF base w' g (bcS s f (ot f.st bk)) ∧ Ow w.heap.size w' v (goB (zs[1]?.getD 0) (wat zs 4) (zs[8]?.getD 0) (decide (16384 ≤ wat zs 6 % 32768)) ((zs.take (hl4 zs).toNat).drop 20) ((zs.take (ral false zs).toNat).drop (hl4 zs).toNat) (oth f bk))
theorem handle_back (base g : Nat) (s : Gf) (f : Fl) (bk : Bool) (side : Int) (sb : Value) (zs : List Int) (a b : Int) (w : World) (h : GF base w g s) (hB : Mt.By zs) (hI : Rd w.heap.size w sb zs) (hl : zs.length ≤ 60000)
  (hp : rde false zs = 0) (hpr : zs[9]?.getD 0 = 17) (htt : (2 : Int) ≤ zs[8]?.getD 0) (hR : Bel s f bk side (wat4 zs 12) (wat4 zs 16) a b) (he : ofe 17 (wat4 zs 12) (wat4 zs 16) ((zs.take (ral false zs).toNat).drop (hl4 zs).toNat) = 0) (hea : ofa 17 ((zs.take (ral false zs).toNat).drop (hl4 zs).toNat) = a) (heb : ofb 17 ((zs.take (ral false zs).toNat).drop (hl4 zs).toNat) = b) (hlo : ((zs.take (hl4 zs).toNat).drop 20).length ≤ 40) (hlm : ((zs.take (hl4 zs).toNat).drop 20).length % 4 = 0) (hall : 20 + ((zs.take (hl4 zs).toNat).drop 20).length + ((zs.take (ral false zs).toNat).drop (hl4 zs).toNat).length ≤ 65535)
  (hbs : base ≤ w.heap.size) (hz : ∀ W, KG base w W → Tb W) :
  Calls Tryz.prog 25 #[.pointer (some ⟨g, 0, none⟩), .int .i64 side, sb] w fun e w' => HbQ base w w' g s f bk side zs e := by
 unfold HbQ
 have hmf : ∀ (fn : Fn) (first cap : Array Value) (w : World), (Instr.makeFunc fn first cap).run Tryz.prog w = .ok (.func fn first cap) w := fun _ _ _ _ => rfl
 obtain ⟨ia, icap, rfl, hl1, hm1⟩ := hI.slice
 have l0 := later_allocG w (.cells (oc 0).toArray 40)
 have C0 := hide (heap_alloc_new w (.cells (oc 0).toArray 40))
 have HP := hide (parse_any _ zs _ hB (by omega) (hI.later l0))
 have HG := hide h
 have bt := hB.at 1
 have bl := hB.at 8
 have bi : 0 ≤ wat zs 4 ∧ wat zs 4 ≤ 65535 := wat_bd hB 4
 have hBd : Mt.By ((zs.take (ral false zs).toNat).drop (hl4 zs).toNat) := (hB.take _).drop _
 have hBo : Mt.By ((zs.take (hl4 zs).toNat).drop 20) := (hB.take _).drop _
 clear h hI
 go_enter_defers Tryz.func25, Tryz.ntmps25
 go_wp2_with fail
 change Calls _ _ _ (w.alloc (.cells (oc 0).toArray 40)) _
 generalize hw1 : w.alloc (.cells (oc 0).toArray 40) = w1 at *
 clear hw1
 refine HP.out.mono ?_
 rintro e w2 ⟨l2, ⟨h1, rfl⟩ | ⟨h1, so, sd, rfl, hOo, hOd⟩⟩
 ·exact absurd hp h1
 clear h1 HP hp
 have l2' : Later w1 w2 := l2
 obtain ⟨oa, ocp, rfl, _, _⟩ := hOo.slice
 obtain ⟨da, dcp, rfl, _, _⟩ := hOd.slice
 have hld : ((zs.take (ral false zs).toNat).drop (hl4 zs).toNat).length ≤ 65535 := by omega
 generalize hzd : ((zs.take (ral false zs).toNat).drop (hl4 zs).toNat) = zd at *
 generalize hzo : ((zs.take (hl4 zs).toNat).drop 20) = zo at *
 unfold pkt
 rw [hpr]
 generalize htos : zs[1]?.getD 0 = tos at *
 generalize hidd : wat zs 4 = id at *
 generalize hkp : decide (16384 ≤ wat zs 6 % 32768) = keep at *
 generalize httl : zs[8]?.getD 0 = ttl at *
 clear hpr
 generalize hsrc : wat4 zs 12 = src at *
 generalize hdst : wat4 zs 16 = dst at *
 have EQS := hide (show (((zs[1]?.getD 0 = tos ∧ wat zs 4 = id) ∧ decide (16384 ≤ wat zs 6 % 32768) = keep) ∧ zs[8]?.getD 0 = ttl) ∧ (wat4 zs 12 = src ∧ wat4 zs 16 = dst) ∧ ((zs.take (ral false zs).toNat).drop (hl4 zs).toNat) = zd ∧ ((zs.take (hl4 zs).toNat).drop 20) = zo from ⟨⟨⟨⟨htos, hidd⟩, hkp⟩, httl⟩, ⟨hsrc, hdst⟩, hzd, hzo⟩)
 clear htos hidd hkp httl hsrc hdst hzd hzo
 have la := later_allocG w2 (.cells #[.int .u8 tos, .int .u16 id, .bool keep, .int .u8 ttl, .int .u8 17, .int .u32 src, .int .u32 dst, .slice oa zo.length ocp, .slice da zd.length dcp] 56)
 have CP := hide (heap_alloc_new w2 (.cells #[.int .u8 tos, .int .u16 id, .bool keep, .int .u8 ttl, .int .u8 17, .int .u32 src, .int .u32 dst, .slice oa zo.length ocp, .slice da zd.length dcp] 56))
 have D0 := hide (later_keep (l2'.trans la) C0.out)
 have L3 : Later w (w2.alloc (.cells #[.int .u8 tos, .int .u16 id, .bool keep, .int .u8 ttl, .int .u8 17, .int .u32 src, .int .u32 dst, .slice oa zo.length ocp, .slice da zd.length dcp] 56)) := l0.trans (l2'.trans la)
 have O3 := hide (hOo.kg (KG.of_later (base := base) la))
 have Q3 := hide (hOd.kg (KG.of_later (base := base) la))
 have hgp : w1.heap.size ≤ w2.heap.size := l2'.size
 have hg1 := (bl9 C0.out)
 clear hOo hOd la l2 l2'
 go_upto_region 3 with fail
 change Code.wp _ _ _ _ (w2.alloc (.cells #[.int .u8 tos, .int .u16 id, .bool keep, .int .u8 ttl, .int .u8 17, .int .u32 src, .int .u32 dst, .slice oa zo.length ocp, .slice da zd.length dcp] 56))
 generalize w2.alloc (.cells #[.int .u8 tos, .int .u16 id, .bool keep, .int .u8 ttl, .int .u8 17, .int .u32 src, .int .u32 dst, .slice oa zo.length ocp, .slice da zd.length dcp] 56) = w3 at *
 generalize w2.heap.size = gp at *
 have H3 := hide (HG.out.later L3)
 have hfl : flt zo.length zd.length = 0 := by unfold flt; rw [if_neg (by omega), if_neg (by omega)]
 have HCH := hide (changed_back base g s f bk tos id ttl src dst keep (.slice oa zo.length ocp) (.slice da zd.length dcp) side zo zd a b w1.heap.size w3 H3.out hR he hea heb hfl hBo hBd O3.out Q3.out (by omega) (by omega) bt bi bl (Nat.le_trans hbs L3.size) (fun W k => hz W ((KG.of_later L3).trans k)))
 have btt := hR.q.1.2.1
 have bdd := hR.q.1.1
 have HSD := hide (show side = 0 ∨ side = 1 by rcases hR.cm with ⟨e, _⟩ | ⟨e, _⟩ <;> simp [e])
 generalize hq : oth f bk = q at *
 have HQ := hide hq
 clear hq
 clear H3 he hea heb hfl hz O3 Q3 HG hR C0
 have kp := block_cell CP.out
 have ht2 : ¬ ttl < 2 := by omega
 go_wp2_with fail
 refine (grefuse_no 1 _).mono ?_
 rintro e w4 ⟨rfl, hw4⟩
 subst hw4
 go_wp2_with fail
 refine HCH.out.mono ?_
 rintro e w4 ⟨ao, co, ad, cd, rfl, k4, hG4, o4, q4⟩
 clear kp HCH
 have K4 : KG base w w4 := (KG.of_later L3).trans k4
 have E0 := hide (k4.cells D0.out (by decide))
 have EP := hide (k4.cells CP.out (by decide))
 have G4 := hide hG4
 have o4' := hide (o4.mono L3.size)
 have q4' := hide (q4.mono L3.size)
 clear D0 CP hG4 o4 q4 k4
 have kp := block_cell EP.out
 have fp := block_frozen EP.out
 go_upto_region 5 with fail
 generalize hV : World.setCell _ ⟨_, 8, none⟩ _ = w5
 have hV9 : w5 = putRow w4 gp 0 [.int .u8 tos, .int .u16 id, .bool keep, .int .u8 ttl, .int .u8 17, .int .u32 q.dst, .int .u32 q.src, .slice ao zo.length co, .slice ad zd.length cd] := hV.symm
 have hb5 : But (fun b => b = gp) w4 w5 := by rw [hV9]; exact putRow_but (E := fun b => b = gp) (n := gp) rfl _ _ _ _ (But.refl _ _)
 have p5 := putRow_all [.int .u8 tos, .int .u16 id, .bool keep, .int .u8 ttl, .int .u8 17, .int .u32 q.dst, .int .u32 q.src, .slice ao zo.length co, .slice ad zd.length cd] EP.out rfl
 rw [← hV9] at p5
 clear hV hV9 kp fp
 have G5 := hide (G4.out.other (TE.one EP.out) hb5 (by decide))
 have O5 := hide (o4'.out.aside EP.out (by decide) hb5)
 have Q5 := hide (q4'.out.aside EP.out (by decide) hb5)
 have K5 : Hid (KG base w w5) := K4.own hb5 (by omega)
 have F0 := hide ((hb5.block w.heap.size (bl9 E0.out) (fun e => by have e' : w.heap.size = gp := e; omega)).trans E0.out)
 have FP := hide p5
 clear G4 o4' q4' K4 E0 EP hb5 p5
 have kp := block_cell FP.out
 have fp := block_frozen FP.out
 have P6 := hide (heap_set1 FP.out 3 (.int .u8 (ttl - 1)))
 have hb6 : But (fun b => b = gp) w5 (w5.setCell ⟨gp, 3, none⟩ (.int .u8 (ttl - 1))) := (But.refl (fun b => b = gp) w5).setCell (p := ⟨gp, 3, none⟩) (show _ = _ from rfl) _
 have HB6 := hide hb6
 clear hb6
 go_upto_region 6 with fail
 have hQ6 : (w5.setCell ⟨gp, 3, none⟩ (.int .u8 (ttl - 1))).heap[gp]? = some (.cells #[.int .u8 tos, .int .u16 id, .bool keep, .int .u8 (ttl - 1), .int .u8 17, .int .u32 q.dst, .int .u32 q.src, .slice ao zo.length co, .slice ad zd.length cd] 56 (0, 0)) := P6.out
 have G6 := hide (G5.out.other (TE.one FP.out) HB6.out (by decide))
 have o6 := O5.out.aside FP.out (by decide) HB6.out
 have q6 := Q5.out.aside FP.out (by decide) HB6.out
 have O6 := hide o6
 have Q6 := hide q6
 have K6 := hide (K5.out.own HB6.out (by omega))
 have F6 := hide ((HB6.out.block w.heap.size (bl9 F0.out) (fun e => by have e' : w.heap.size = gp := e; omega)).trans F0.out)
 have FQ6 := hide hQ6
 have hrl : (rwD 17 q.dst q.src q.dp q.sp zd).length = zd.length := by
  obtain ⟨_, _, e, _, _⟩ := q6.slice
  injection e with e1 e2 e3
  exact e2.symm
 have HRL := hide hrl
 clear o6 q6 hQ6 hrl kp fp G5 O5 Q5 K5 F0 FP P6 HB6
 generalize w5.setCell ⟨gp, 3, none⟩ (.int .u8 (ttl - 1)) = w6 at *
 have HBU := hide (build_yes tos id (ttl - 1) 17 q.dst q.src keep (.slice ao zo.length co) (.slice ad zd.length cd) zo (rwD 17 q.dst q.src q.dp q.sp zd) w6 hBo O6.out.rd Q6.out.rd hlo hlm (by rw [HRL.out]; exact hall) bt bi (by omega) (by decide) btt bdd)
 rw [HRL.out] at HBU
 have k6 := block_cell FQ6.out
 clear hall hlm hlo
 go_wp2_with fail
 refine HBU.out.mono ?_
 rintro e w7 ⟨v, rfl, hO7, l7⟩
 have l7' : Later w6 w7 := l7
 obtain ⟨va, vc, rfl, _, _⟩ := hO7.slice
 have F7 := hide (later_keep l7' F6.out)
 have G7 := hide (G6.out.later l7')
 have K7 := hide (K6.out.trans (KG.of_later l7'))
 have O7 := hide (hO7.mono K6.out.size)
 clear k6 HBU l7 l7' hO7 F6 G6 K6 O6 Q6 FQ6
 generalize hob : hdr tos id keep (ttl - 1) 17 q.dst q.src zo (20 + zo.length + zd.length) ++ rwD 17 q.dst q.src q.dp q.sp zd = ob at *
 have HOB := hide hob
 clear hob
 go_wp2_with fail
 refine (opp_any side HSD.out w7).mono ?_
 rintro e w8 ⟨rfl, hw8⟩
 subst hw8
 have k0 := block_cell F7.out
 have f0 := block_frozen F7.out
 unfold oc at k0
 go_wp2_with fail
 generalize hV : World.setCell _ ⟨_, 2, none⟩ _ = V8
 have hV9 : V8 = putRow w8 w.heap.size 0 [.int .i64 0, .int .i64 (oppo side), .slice va ob.length vc] := hV.symm
 have hb8 : But (fun b => b = w.heap.size) w8 V8 := by rw [hV9]; exact putRow_but (E := fun b => b = w.heap.size) (n := w.heap.size) rfl _ _ _ _ (But.refl _ _)
 have p8 := putRow_all [.int .i64 0, .int .i64 (oppo side), .slice va ob.length vc] F7.out rfl
 rw [← hV9] at p8
 clear hV hV9 k0 f0
 have h8 := G7.out.other (TE.one F7.out) hb8 (by decide)
 have o8 := O7.out.aside F7.out (by decide) hb8
 have k8 := K7.out.own hb8 (Nat.le_refl _)
 exact gdoor_idle _ w.heap.size _ _ _ V8 p8 rfl ⟨.slice va ob.length vc, rfl, k8, h8, by obtain ⟨⟨⟨⟨q1, q2⟩, q3⟩, q4⟩, ⟨q5, q6⟩, q7, q8⟩ := EQS.out; unfold goB; rw [q1, q2, q3, q4, q7, q8, HQ.out, HOB.out]; exact o8⟩
theorem Bel.ltr {s : Gf} {f : Fl} {bk : Bool} {side src dst a b : Int} (h : Bel s f bk side src dst a b) {n : Int} (v : Value) (hn : 0 ≤ n ∧ n ≤ 549755813888) : Bel (ltr s n v) f bk side src dst a b := ⟨h.hf, h.hu, h.huq, h.kx, h.hx, h.hd, h.ha, h.hb, h.bq, h.sd, h.cm, h.hBo, h.hBr, h.po, h.pr, h.hp, h.tr, hn⟩
def GenO {α : Type} (F : Fence) (n : Nat) (P : Program) (g : Nat) (lb : Array Value) (encs : α → Array Value) (Kp : World → World → Prop) (X : List α → α → World → Prop) (S Sp : List α → Prop) (w : World) : Prop :=
 ∀ (l : Nat) (J Jx : List α → World → Prop) (W : World), Below w.heap.size w W → (∀ s A B, J s A → Later A B → J s B) → OwnFrom W.heap.size J → OwnFrom W.heap.size Jx →
  (∀ pre x V, J pre V → X pre x V → YieldAt F (n - 1) P l (encs x) V fun e V' => (e = .returned (.bool true) ∧ J (pre ++ [x]) V' ∧ Kp V V' ∧ KeepsFrom W.heap.size V V') ∨ (e = .returned (.bool false) ∧ Jx (pre ++ [x]) V' ∧ KeepsFrom W.heap.size V V')) →
  J [] W → CallsIn F n P g (#[.func (.yield l) #[] #[]] ++ lb) W fun e W' => (∃ v, e = .returned v) ∧ ((∃ xs, S xs ∧ J xs W') ∨ ∃ pre, Sp pre ∧ Jx pre W')
theorem wpIn_rangeO {F : Fence} {n : Nat} {P : Program} {α : Type} {g : Operand} {ps : Array Tmp} {assign body : Code} {Q : Exit → Act → World → Prop} {a : Act} {w : World}
  (hro : F.round = none) (h1 : 1 ≤ n) {gf : Nat} {lb : Array Value} (hg : a.eval g = .func (.func gf) #[] lb) (hFg : F.fn gf) (eg : ∀ args w, (callFunc gf args).run P w = .ok (.enter gf args) w)
  {encs : α → Array Value} {Kp : World → World → Prop} {X : List α → α → World → Prop} {S Sp : List α → Prop} (hseq : GenO F (n - 1) P gf lb encs Kp X S Sp w)
  (hKt : ∀ {A B C : World}, Kp A B → Kp B C → Kp A C) (hKb : ∀ (W : World) (l : Nat) (o o' : Obj), w.heap.size ≤ l → W.heap[l]? = some o → o.isCells = false → o.isWalk = false → Kp W (W.putObj l o'))
  (hKl : ∀ {A B : World}, w.heap.size ≤ A.heap.size → Later A B → Kp A B) (hXl : ∀ pre x A B, X pre x A → Later A B → X pre x B)
  (hXb : ∀ pre x (W : World) (l : Nat) (o o' : Obj), w.heap.size ≤ l → W.heap[l]? = some o → o.isCells = false → X pre x W → X pre x (W.putObj l o')) (hps : ∀ x, (encs x).size = ps.size)
  (I Ix : List α → World → Prop) (hI : OwnFrom w.heap.size I) (hIl : ∀ s A B, I s A → Later A B → I s B) (hIx : OwnFrom w.heap.size Ix) (h0 : I [] w)
  (A : α → Act → World → Prop) (hA : ∀ x a' (W : World) (l : Nat) (o o' : Obj), w.heap.size ≤ l → W.heap[l]? = some o → o.isCells = false → A x a' W → A x a' (W.putObj l o'))
  (hassign : ∀ (l : Nat) (pre : List α) (x : α) (W : World) (K : Act → World → Prop), w.heap.size ≤ W.heap.size → I pre W → X pre x W → (∀ a' W', Later W W' → A x a' W' → K a' W') →
   assign.wpIn (F.inRound l) (n - 1 - 1) P (Exit.then K (fun _ _ _ => False)) { tmps := (ps.zip (encs x)).foldl (fun t (p, v) => t.setIfInBounds p v) a.tmps, defers := [] } W)
  (hbody : ∀ (l : Nat) (pre : List α) (x : α) (a' : Act) (W : World), I pre W → X pre x W → A x a' W → body.wpIn (F.inRound l) (n - 1 - 1) P (postX w.heap.size Kp I Ix (pre ++ [x]) W) a' W)
  (hdone : ∀ (D : Nat) (xs : List α) (W : World), w.heap.size ≤ D → S xs → I xs W → W.heap[D]? = some (.deferred (some [])) → Q .normal { a with defers := { target := .collected D, args := #[] } :: a.defers } W)
  (hstop : ∀ (D : Nat) (pre : List α) (W : World), w.heap.size ≤ D → Sp pre → Ix pre W → W.heap[D]? = some (.deferred (some [])) → Code.ret.wpIn F n P Q { a with defers := { target := .collected D, args := #[] } :: a.defers } W) :
  (Code.rangeFunc g ps assign body).wpIn F n P Q a w := by
 refine wpIn_rangeFunc fun fn hfn => ?_
 rw [hro]
 obtain ⟨rec, hrec⟩ : ∃ rec : LoopState → Option Code → Loop, rec = fun st pe => { state := st, pending := pe, fn, tmps := a.tmps, params := ps, assign, body, defers := w.heap.size } := ⟨_, rfl⟩
 obtain ⟨V, hV⟩ : ∃ V, (w.alloc (.deferred (some []))).alloc (.loop (rec .ready none)) = V := ⟨_, rfl⟩
 have hl : V.heap[w.heap.size + 1]? = some (.loop (rec .ready none)) := by
  have := World.alloc_heap_new (w.alloc (.deferred (some []))) (.loop (rec .ready none))
  rw [World.size_alloc] at this
  rw [← hV]
  exact this
 have hk : V.heap[w.heap.size]? = some (.deferred (some [])) := by
  rw [← hV]
  exact (Below.heap_alloc _ _ _ (by simp)).trans (World.alloc_heap_new w _)
 have hi : I [] V := by rw [← hV]; exact hI.alloc _ (hI.alloc _ h0)
 have hb : Below w.heap.size w V := by rw [← hV]; exact ((Below.refl _ w).alloc (Nat.le_refl _) _).alloc (by simp) _
 have hVs : V.heap.size = w.heap.size + 1 + 1 := by rw [← hV]; simp
 refine ⟨w.heap.size + 1, [{ target := .collected w.heap.size, args := #[] }], V, { target := .fn (.func gf) lb, args := #[.func (.yield (w.heap.size + 1)) #[] #[]] }, V, gf, #[.func (.yield (w.heap.size + 1)) #[] #[]] ++ lb, V, ?_, ?_, ?_, ?_, fun _ => h1, ?_⟩
 ·rw [← hV, hrec]; exact run_enterLoop_outer _ _ _ _ _
 ·simp only [resolve, hg]
  simp [go_sem]
 ·intro f' hf'; simp [Target.leads] at hf'; subst hf'; exact hFg
 ·simp [invoke, go_sem, eg]
 refine (hseq (w.heap.size + 1) (fun pre W => I pre W ∧ W.heap[w.heap.size + 1]? = some (.loop (rec .ready none)) ∧ W.heap[w.heap.size]? = some (.deferred (some [])))
  (fun pre W => Ix pre W ∧ W.heap[w.heap.size + 1]? = some (.loop (rec .done (some .ret))) ∧ W.heap[w.heap.size]? = some (.deferred (some []))) V hb
  (fun s A B hs h => ⟨hIl s A B hs.1 h, later_keep h hs.2.1, later_keep h hs.2.2⟩)
  (fun s A B row hs hg hr => ⟨hI s A B row hs.1 hg (fun r e => ⟨by have := (hr r e).1; omega, (hr r e).2⟩), (hg.block _ (bl9 hs.2.1) (fun e => by have := (hr _ e.symm).1; omega)).trans hs.2.1, (hg.block _ (bl9 hs.2.2) (fun e => by have := (hr _ e.symm).1; omega)).trans hs.2.2⟩)
  (fun s A B row hs hg hr => ⟨hIx s A B row hs.1 hg (fun r e => ⟨by have := (hr r e).1; omega, (hr r e).2⟩), (hg.block _ (bl9 hs.2.1) (fun e => by have := (hr _ e.symm).1; omega)).trans hs.2.1, (hg.block _ (bl9 hs.2.2) (fun e => by have := (hr _ e.symm).1; omega)).trans hs.2.2⟩)
  ?_ ⟨hi, hl, hk⟩).mono ?_
 ·rintro pre x W ⟨ji, jl, jk⟩ hx
  have hlt : w.heap.size + 1 < W.heap.size := (bl9 jl)
  have hy := run_yield (P := P) (args := encs x) jl (by rw [hrec]; exact hps x)
  rw [hrec] at hy
  refine ⟨fn, _, assign, body, hy, roundIn_of_wpIn hfn (hassign _ pre x W _ (by omega) ji hx fun a' W' hL hAx => ?_)⟩
  have pL : Kp W W' := hKl (by omega) hL
  have kf1 : KeepsFrom V.heap.size W W' := ⟨Below.size hL, fun i o hi ho hc => later_keep hL ho⟩
  replace ji := hIl _ _ _ ji hL
  replace jl := later_keep hL jl
  replace jk := later_keep hL jk
  replace hx := hXl _ _ _ _ hx hL
  replace hlt : w.heap.size + 1 < W'.heap.size := (bl9 jl)
  refine ⟨_, run_beginRound jl (by rw [hrec]), ?_⟩
  obtain ⟨U, hU⟩ : ∃ U, W'.putObj (w.heap.size + 1) (.loop { rec .ready none with state := .busy }) = U := ⟨_, rfl⟩
  have l2 : U.heap[w.heap.size + 1]? = some (.loop { rec .ready none with state := .busy }) := by rw [← hU]; exact World.putObj_heap_same hlt
  have k2 : U.heap[w.heap.size]? = some (.deferred (some [])) := by rw [← hU]; exact (World.putObj_heap_other (by omega)).trans jk
  have kf2 : KeepsFrom V.heap.size W U := ⟨Nat.le_trans kf1.size (by rw [← hU]; exact (grownBy_putObj' W' _ _).size), fun i o hi ho hc => by rw [← hU]; exact (World.putObj_heap_other (by omega)).trans (kf1.same i o hi ho hc)⟩
  have p2 : Kp W U := by rw [← hU]; exact hKt pL (hKb _ _ _ _ (by omega) jl rfl rfl)
  have a2 : A x a' U := by rw [← hU]; exact hA _ _ _ _ _ _ (by omega) jl rfl hAx
  have i2 : I pre U := by rw [← hU]; exact hI.putObj _ ji (by omega) jl rfl
  have x2 : X pre x U := by rw [← hU]; exact hXb _ _ _ _ _ _ (by omega) jl rfl hx
  rw [hU]
  refine wpIn_mono (hbody _ pre x a' U i2 x2 a2) ?_
  have fin : ∀ (jump : Option Code) (Z : World), KeepsFrom w.heap.size U Z →
    (Instr.endRound (w.heap.size + 1) jump).run P Z = .ok (.bool jump.isNone) (Z.putObj (w.heap.size + 1) (.loop (rec (if jump.isNone then .ready else .done) jump))) ∧ Z.heap[w.heap.size + 1]? = some (.loop { rec .ready none with state := .busy }) ∧
    (Z.putObj (w.heap.size + 1) (.loop (rec (if jump.isNone then .ready else .done) jump))).heap[w.heap.size + 1]? = some (.loop (rec (if jump.isNone then .ready else .done) jump)) ∧
    (Z.putObj (w.heap.size + 1) (.loop (rec (if jump.isNone then .ready else .done) jump))).heap[w.heap.size]? = some (.deferred (some [])) := fun jump Z hZ => by
   have l3 := hZ.same _ _ (by omega) l2 rfl
   have r3 := run_endRound (P := P) jump l3
   rw [hrec] at r3 ⊢
   exact ⟨r3, by rw [hrec] at l3; exact l3, World.putObj_heap_same (bl9 l3), (World.putObj_heap_other (by omega)).trans (hZ.same _ _ (Nat.le_refl _) k2 rfl)⟩
  have kfin : ∀ (o' : Obj) (Z : World), KeepsFrom w.heap.size U Z → KeepsFrom V.heap.size W (Z.putObj (w.heap.size + 1) o') := fun o' Z hZ => ⟨Nat.le_trans kf2.size (Nat.le_trans hZ.size (grownBy_putObj' Z _ _).size), fun i o hi ho hc => (World.putObj_heap_other (by omega)).trans (hZ.same i o (by omega) (kf2.same i o hi ho hc) hc)⟩
  rintro e a3 Z hp
  cases e with
  | normal =>
   obtain ⟨hZ, hp3, hi3⟩ := hp
   obtain ⟨hr, l3, l4, k4⟩ := fin none Z hZ
   exact ⟨_, _, hr, .inl ⟨rfl, ⟨hI.putObj _ hi3 (by omega) l3 rfl, l4, k4⟩, hKt (hKt p2 hp3) (hKb _ _ _ _ (by omega) l3 rfl rfl), kfin _ Z hZ⟩⟩
  | ret =>
   obtain ⟨hZ, hi3⟩ := hp
   obtain ⟨hr, l3, l4, k4⟩ := fin (some .ret) Z hZ
   exact ⟨_, _, hr, .inr ⟨rfl, ⟨hIx.putObj _ hi3 (by omega) l3 rfl, l4, k4⟩, kfin _ Z hZ⟩⟩
  | exit id => exact hp.elim
  | goto t => exact hp.elim
  | panic ch => exact hp.elim
  | outgrown => exact hp.elim
 ·rintro e W2 ⟨⟨v, rfl⟩, (⟨xs, hS, ji, jl, jk⟩ | ⟨pre, hSp, ji, jl, jk⟩)⟩
  ·exact ⟨none, _, by have := run_endLoop (P := P) jl (by rw [hrec]; simp); rw [hrec] at this; exact this, hdone _ xs _ (Nat.le_refl _) hS (hI.putObj _ ji (by omega) jl rfl) ((World.putObj_heap_other (by omega)).trans jk)⟩
  ·exact ⟨some .ret, _, by have := run_endLoop (P := P) jl (by rw [hrec]; simp); rw [hrec] at this; exact this, hstop _ pre _ (Nat.le_refl _) hSp (hIx.putObj _ ji (by omega) jl rfl) ((World.putObj_heap_other (by omega)).trans jk)⟩
open Go.RowKit Go.Shelf Go.ChangeMaps
attribute [local go_sem] Oper.semAt_some
structure EsI (es : Array MapEntry) (cf : Nat) : Prop where
 ki : ∀ e ∈ es.toList, ∃ z : Int, e.key = .int .i64 z
 bn : ∀ e ∈ es.toList, e.born < cf
 nd : (es.toList.map (·.born)).Nodup
theorem setBlock_put (W : World) (r : Nat) (o : Obj) : setBlock W r o = W.putObj r o := rfl
def XkM (es : Array MapEntry) (pre : List Int) (x : Int) (W : World) : Prop := pre.length < es.size ∧ (∀ y ∈ pre, ∃ e ∈ es.toList, e.key = .int .i64 y) ∧ ∃ e ∈ es.toList, e.key = .int .i64 x
def YkM (es : Array MapEntry) (xs : List Int) : Prop := xs.length ≤ es.size ∧ ∀ y ∈ xs, ∃ e ∈ es.toList, e.key = .int .i64 y
theorem keysM_in (n : Nat) (hn : 1 ≤ n) (l B gf cf n₀ : Nat) (es : Array MapEntry) (hes : EsI es cf) (J Jx : List Int → World → Prop) (W : World) (hJ : ∀ s A B, J s A → Later A B → J s B) (hJo : OwnFrom W.heap.size J)
  (hY : ∀ pre x V, J pre V → XkM es pre x V → YieldAt Fence.wide (n - 1) Tryz.prog l (encK x) V fun e V' => (e = .returned (.bool true) ∧ J (pre ++ [x]) V' ∧ KWk n₀ V V') ∨ (e = .returned (.bool false) ∧ Jx (pre ++ [x]) V'))
  (hB : W.cell? ⟨B, 0, none⟩ = some (.map (some gf))) (hm : W.heap[gf]? = some (.map es cf)) (hg0 : gf < n₀) (h0 : J [] W) :
  CallsIn Fence.wide n Tryz.prog 114 #[.func (.yield l) #[] #[], .pointer (some ⟨B, 0, none⟩)] W fun e W' => (∃ v, e = .returned v) ∧ ((∃ xs, YkM es xs ∧ J xs W') ∨ ∃ pre, True ∧ Jx pre W') := by
 have la := later_allocG W (.mapIter (some gf) cf #[] cf)
 have hrg := run_range_map (P := Tryz.prog) W 74 _ _ gf es cf Tryz.underlying74 hm
 have hit := heap_alloc_new W (.mapIter (some gf) cf #[] cf)
 have hm1 := later_keep la hm
 have HREL : Hid (∃ (seen : Array Nat) (pre : List Int), J pre (W.alloc (.mapIter (some gf) cf #[] cf)) ∧ (W.alloc (.mapIter (some gf) cf #[] cf)).heap[W.heap.size]? = some (.mapIter (some gf) cf seen cf) ∧ (W.alloc (.mapIter (some gf) cf #[] cf)).heap[gf]? = some (.map es cf) ∧ pre.length + (leftOf es seen).size ≤ es.size ∧ (∀ y ∈ pre, ∃ e ∈ es.toList, e.key = .int .i64 y)) :=
  ⟨#[], [], hJ _ _ _ h0 la, hit, hm1, by unfold leftOf; simp only [List.length_nil, Nat.zero_add]; exact Array.size_filter_le, by simp⟩
 have HY := hide hY
 have HJ := hide hJ
 have HJO := hide hJo
 clear hJo
 have HES := hide hes
 clear hm hm1 hit la hY hJ h0 hes
 refine callsIn_of_wp Tryz.func114 rfl trivial ?_ rfl
 simp only [Tryz.ntmps114, List.size_toArray, List.length_cons, List.length_nil, Nat.reduceAdd, Nat.reduceSub, Array.replicate_succ, Array.replicate_zero, List.push_toArray, List.append_toArray, List.nil_append, List.cons_append]
 gi_wp2
 clear hrg hB
 generalize hr : W.heap.size = r at *
 generalize W.alloc (.mapIter (some gf) cf #[] cf) = W1 at *
 gi_loopw [3] (fun _ wx => ∃ (seen : Array Nat) (pre : List Int), J pre wx ∧ wx.heap[r]? = some (.mapIter (some gf) cf seen cf) ∧ wx.heap[gf]? = some (.map es cf) ∧ pre.length + (leftOf es seen).size ≤ es.size ∧ (∀ y ∈ pre, ∃ e ∈ es.toList, e.key = .int .i64 y)) (fun _ wx => match wx.heap[r]? with | some (.mapIter _ _ seen _) => (leftOf es seen).size | _ => 0)
 case atStart => exact HREL.out
 case round =>
  obtain ⟨seen, pre, hj, hi, hm, hc, hk⟩ := hrel
  clear HREL
  rename World => wx
  rcases Go.run_next_at (P := Tryz.prog) wx 0 r gf cf cf seen es cf hi hm (fun x hx => HES.out.bn x hx) (Nat.le_refl _) with ⟨h0, hnd⟩ | ⟨e, he, w1, hw1, hnx⟩
  ·have HK := hide (show YkM es pre from ⟨by omega, hk⟩)
   clear hc hk h0
   gi_wp2
   go_end0
   exact ⟨⟨_, rfl⟩, .inl ⟨_, HK.out, hj⟩⟩
  ·obtain ⟨hem, hns⟩ := mem_left he
   have hsh := left_shrinks es seen e he
   obtain ⟨z, hz⟩ := HES.out.ki e hem
   have lw : Later wx w1 := by
    rcases hw1 with q | q
    ·rw [q]; exact Later.refl _
    ·rw [q]; exact Later.drew _
   have hi1 := later_keep lw hi
   have hm1 := later_keep lw hm
   have hiv : (setBlock w1 r (.mapIter (some gf) cf (seen.push e.born) cf)).heap[r]? = some (.mapIter (some gf) cf (seen.push e.born) cf) := setBlock_at hi1
   have hgr : gf ≠ r := fun q => by rw [q, hi] at hm; cases hm
   have hmv : (setBlock w1 r (.mapIter (some gf) cf (seen.push e.born) cf)).heap[gf]? = some (.map es cf) := by
    show (w1.heap.setIfInBounds r _)[gf]? = _
    rw [Array.getElem?_setIfInBounds_ne (Ne.symm hgr)]
    exact hm1
   have hen := Go.run_entry_at (P := Tryz.prog) (setBlock w1 r (.mapIter (some gf) cf (seen.push e.born) cf)) r gf cf seen es cf e hiv hmv hem HES.out.nd
   rw [hz] at hnx hen
   have HXP := hide (show XkM es pre z (setBlock w1 r (.mapIter (some gf) cf (seen.push e.born) cf)) from ⟨by omega, hk, e, hem, hz⟩)
   have HNK := hide (show ∀ y ∈ pre ++ [z], ∃ e ∈ es.toList, e.key = .int .i64 y from fun y hy => by
    rcases List.mem_append.1 hy with hy | hy
    ·exact hk y hy
    ·rw [List.mem_singleton.1 hy]; exact ⟨e, hem, hz⟩)
   have HC := hide (show (pre ++ [z]).length + (leftOf es (seen.push e.born)).size ≤ es.size by rw [List.length_append]; simp only [List.length_cons, List.length_nil]; omega)
   have HSH := hide hsh
   have HI := hide hi
   have HIV := hide hiv
   have HMV := hide hmv
   have HJV := hide (show J pre (setBlock w1 r (.mapIter (some gf) cf (seen.push e.born) cf)) from by rw [setBlock_put]; exact HJO.out.putObj _ (HJ.out _ _ _ hj lw) (Nat.le_refl _) hi1 rfl)
   clear hc hk hsh hiv hmv hi1 hm1 hem hns he hz hw1 lw hgr hj hm hi
   generalize setBlock w1 r (.mapIter (some gf) cf (seen.push e.born) cf) = V at *
   generalize seen.push e.born = seen2 at *
   obtain ⟨fn, tmps, assign, body, hy, hR⟩ := HY.out pre z V HJV.out HXP.out
   dsimp only [encK] at hy
   gi_wp2
   refine hR.mono ?_
   rintro e W3 (⟨rfl, hJ3, hk3⟩ | ⟨rfl, hJx3⟩)
   ·have hi3 := hk3.2 r _ HIV.out rfl
    have hm3 := (hk3.1.block gf hg0).trans HMV.out
    have hix := HI.out
    have hsx := HSH.out
    gi_wp2
    go_roundw
    case rel => exact ⟨seen2, pre ++ [z], hJ3, hi3, hm3, HC.out, HNK.out⟩
    case measure => simp [hi3, hix]; exact hsx
   ·gi_wp2
    refine bodyPost_ret (results_none rfl _ _ _) rfl ?_
    exact ⟨⟨_, rfl⟩, .inr ⟨_, trivial, hJx3⟩⟩
theorem keysM_gen (n : Nat) (hn : 1 ≤ n) (B gf cf n₀ : Nat) (es : Array MapEntry) (hes : EsI es cf) (w : World) (hB : w.heap[B]? = some (.cells #[.map (some gf)] 74 (0, 0))) (hm : w.heap[gf]? = some (.map es cf)) (hg : gf < n₀) :
  GenO Fence.wide n Tryz.prog 114 #[.pointer (some ⟨B, 0, none⟩)] encK (KWk n₀) (XkM es) (YkM es) (fun _ => True) w := fun l J Jx W hW hJ hJo _ hY h0 =>
 keysM_in n hn l B gf cf n₀ es hes J Jx W hJ hJo (fun pre x V h1 h2 => (hY pre x V h1 h2).mono (fun e V' h => h.imp (fun h => ⟨h.1, h.2.1, h.2.2.1⟩) (fun h => ⟨h.1, h.2.1⟩))) (block_cell (later_keep hW hB) 0) (later_keep hW hm) hg h0
attribute [local go_sem] Oper.semAt_some
def GaM (B n₀ : Nat) (pre : List Int) (W : World) : Prop := ∃ v, W.heap[B]? = some (.cells #[v] 152 (0, 0)) ∧ W.ownsRow n₀ 3 1 v pre.length (pre.map (Value.int .i64))
theorem GaM.ct {B n₀ : Nat} {pre : List Int} {U V : World} (h : GaM B n₀ pre U) (c : CT U V) : GaM B n₀ pre V := by
 obtain ⟨v, h1, h2⟩ := h
 exact ⟨v, c.2 _ _ h1 rfl, owns_ctG h2 c⟩
theorem appendSeq_M (B gf cf : Nat) (es : Array MapEntry) (hes : EsI es cf) (hsz : es.size ≤ 1000) (w : World) (hB : w.heap[B]? = some (.cells #[.map (some gf)] 74 (0, 0))) (hm : w.heap[gf]? = some (.map es cf)) :
  Calls Tryz.prog 157 #[.slice none 0 0, .func (.func 114) #[] #[.pointer (some ⟨B, 0, none⟩)]] w fun e w' => Later w w' ∧ ∃ v xs, e = .returned v ∧ YkM es xs ∧ w'.ownsRow w.heap.size 3 1 v xs.length (xs.map (Value.int .i64)) := by
 have l0 := later_allocG w (.cells #[.slice none 0 0] 152)
 have C0 := hide (heap_alloc_new w (.cells #[.slice none 0 0] 152))
 have HB1 := hide (later_keep l0 hB)
 have HM1 := hide (later_keep l0 hm)
 have hgl := (bl9 hm)
 have HSZ := hide hsz
 clear hsz
 refine (callsIn_wide (n := 5)).1 ?_
 refine callsIn_of_wp_marks Tryz.func157 rfl trivial ?_ rfl
 simp only [Tryz.ntmps157, List.size_toArray, List.length_cons, List.length_nil, Nat.reduceAdd, Nat.reduceSub, Array.replicate_succ, Array.replicate_zero, List.push_toArray, List.append_toArray, List.nil_append, List.cons_append]
 gi_wp2
 have hs1 : (w.alloc (.cells #[.slice none 0 0] 152)).heap.size = w.heap.size + 1 := by simp
 generalize w.alloc (.cells #[.slice none 0 0] 152) = w1 at *
 have hs0 := l0.size
 refine wpIn_rangeO (w := w1) rfl (by omega) (gf := 114) (lb := #[.pointer (some ⟨B, 0, none⟩)]) rfl trivial (enters_of Tryz.func114 (by kernel_rfl) rfl)
  (keysM_gen 4 (by omega) B gf cf w.heap.size es hes w1 HB1.out HM1.out hgl)
  (fun h k => h.trans k) (fun W l o o' hl ho hc hw => KWk.put (by omega) ho hc hw) (fun hA hL => KWk.of hL (by omega)) (fun _ _ _ _ h _ => h) (fun _ _ _ _ _ _ _ _ _ h => h) (fun _ => rfl)
  (fun pre W => GaM w.heap.size (w.heap.size + 1) pre W ∧ Below w.heap.size w W) (fun pre W => False)
  (OwnFrom.and (fun s A B row hs hg hr => hs.ct (CT.row hg (fun r e => (hr r e).2))) (ownFrom_below (Nat.le_refl _) (by omega)))
  (fun s A B h l => ⟨h.1.ct (CT.of l), h.2.trans (l.mono h.2.size)⟩)
  (fun s A B row hs hg hr => hs)
  ⟨⟨.slice none 0 0, C0.out, World.ownsRow_nil _ _ _ _⟩, l0⟩
  (fun x a' W => a' = { tmps := #[.slice none 0 0, .func (.func 114) #[] #[.pointer (some ⟨B, 0, none⟩)], .pointer (some ⟨w.heap.size, 0, none⟩), undef, .slice none 0 0, .int .i64 x, .func (.func 114) #[] #[.pointer (some ⟨B, 0, none⟩)], .int .i64 x, undef, undef, undef, undef, undef], defers := [] })
  (fun x a' W l o o' hl ho hc h => h) ?assign ?body ?done ?stop
 case assign =>
  rintro l pre x W K hsz _ hX hK
  dsimp only [encK]
  gi_wp2
  exact hK _ _ (Later.refl _) rfl
 case body =>
  rintro l pre x a' W ⟨⟨v, h1, hOw⟩, hbW⟩ ⟨hpl, hpk, _⟩ rfl
  have hpl2 : pre.length ≤ 1000 := by have := HSZ.out; omega
  have K0 := block_cell h1
  have F0 := block_frozen h1
  have hol := (bl9 h1)
  obtain ⟨i0, hi, hz0, hz1, hz2⟩ := info_parts info_i64
  have HNW := hide (newG W 3 [Value.int .i64 x])
  have H1 := hide h1
  have hbs := hbW.size
  have HOW := hide (hOw.alloc (.cells [Value.int .i64 x].toArray 3))
  have hvb : ∀ q, v.ownBlock = some q → w.heap.size + 1 ≤ q := fun q hq => (hOw.lt q hq).1
  have hvc : ∀ q, v.ownBlock = some q → ∃ cur t f, W.heap[q]? = some (.cells cur t f) := fun q hq => by
   rcases hOw.2 with ⟨e, _⟩ | ⟨g, cap, cur, e, _, hh, _⟩
   ·rw [e] at hq; cases hq
   ·rw [e] at hq; cases hq; exact ⟨_, _, _, hh⟩
  have HVB := hide hvb
  have HVC := hide hvc
  have HPL := hide hpl2
  clear hOw h1 hpl hpk hvb hvc hpl2
  gi_wp2_with (gi_at_builtin; refine wpListIn_append_own _ rfl (.tmp 8) (.tmp 10) 152 rfl (w.heap.size + 1) 3 i0 (.int .i64 0) 1 8 Tryz.underlying152 hi hz0 hz1 hz2 rfl (by decide) v pre.length (pre.map (Value.int .i64)) rfl HOW.out ⟨W.heap.size, 0, none⟩ 1 1 [Value.int .i64 x] rfl rfl HNW.out (by intro u hu; simp at hu; subst hu; rfl) (by have := HPL.out; simp only [maxLen]; omega) (by have := HPL.out; omega) (by simp; omega) ?_; intro v2 W2 hrow2 hg2 hnn; obtain ⟨g2, cp2, rfl⟩ := ownsRow_succ hrow2; have hob2 := (hg2.block w.heap.size (by simp; omega) (fun e => by have := HVB.out _ e.symm; omega)).trans ((Below.heap_alloc W _ w.heap.size hol).trans H1.out); have Kv2 := block_cell hob2; have Fv2 := block_frozen hob2)
  have hkeep : ∀ i o, W.heap[i]? = some o → i ≠ w.heap.size → v.ownBlock ≠ some i → (W2.setCell ⟨w.heap.size, 0, none⟩ (.slice (some ⟨g2, 0, none⟩) (pre.length + 1) cp2)).heap[i]? = some o := fun i o hi h2 h3 =>
   hsetG ((hg2.block i (by have := (bl9 hi); simp; omega) (fun e => h3 e.symm)).trans ((Below.heap_alloc W _ i (bl9 hi)).trans hi)) h2
  have hsz2 : W.heap.size + 1 ≤ W2.heap.size := by have := hg2.size; simpa using this
  have hnc : ∀ i o, W.heap[i]? = some o → o.isCells = false → i ≠ w.heap.size ∧ v.ownBlock ≠ some i := fun i o hi hc => by
   refine ⟨fun e => ?_, fun e => ?_⟩
   ·rw [e, H1.out] at hi
    cases hi
    cases hc
   ·obtain ⟨cur, t, f, hh⟩ := HVC.out i e
    rw [hh] at hi
    cases hi
    cases hc
  have hbn2 : Below w.heap.size W (W2.setCell ⟨w.heap.size, 0, none⟩ (.slice (some ⟨g2, 0, none⟩) (pre.length + 1) cp2)) := ⟨hg2.os, hg2.tape, hg2.output, by simp; omega, fun i hi => by
   cases hh : W.heap[i]? with
   | none => have := Array.getElem?_eq_none_iff.1 hh; omega
   | some o => exact hkeep i o hh (by omega) (fun e => by have := HVB.out i e; omega)⟩
  refine ⟨⟨hbn2.size, fun i o hi ho hc => hkeep i o ho (hnc i o ho hc).1 (hnc i o ho hc).2⟩, ⟨hbn2, fun i o ho hw => hkeep i o ho (hnc i o ho (walk_cells hw)).1 (hnc i o ho (walk_cells hw)).2⟩, ⟨_, heap_set1 hob2 0 _, ?_⟩, hbW.trans hbn2⟩
  rw [List.length_append, List.map_append]
  refine ⟨hrow2.1, hrow2.2.imp id ?_⟩
  rintro ⟨g, cp, cur, e1, e2, e3, r⟩
  exact ⟨g, cp, cur, e1, e2, hsetG e3 (by omega), r⟩
 case done =>
  rintro D xs W hD hxs ⟨⟨v, h1, hOw⟩, hbW⟩ hK
  have K1 := block_cell h1
  gi_wp2
  refine ⟨by simp, .inl ⟨_, _, rfl, run_takeDeferred hK, ?_⟩⟩
  exact ⟨v, by simp [results, Tryz.results157, go_sem], hbW.trans (belowK_b (w := w) (Nat.le_refl _) W D _ _ (by omega) hK rfl rfl), v, xs, rfl, hxs, ownG_mono (owns_ctG hOw (CT.put hK rfl)) (by omega)⟩
 case stop =>
  rintro D pre W hD _ h
  exact h.elim
theorem collect_M (B gf cf : Nat) (es : Array MapEntry) (hes : EsI es cf) (hsz : es.size ≤ 1000) (w : World) (hB : w.heap[B]? = some (.cells #[.map (some gf)] 74 (0, 0))) (hm : w.heap[gf]? = some (.map es cf)) :
  Calls Tryz.prog 112 #[.func (.func 114) #[] #[.pointer (some ⟨B, 0, none⟩)]] w fun e w' => Later w w' ∧ ∃ v xs, e = .returned v ∧ YkM es xs ∧ w'.ownsRow w.heap.size 3 1 v xs.length (xs.map (Value.int .i64)) := by
 have HA := hide (appendSeq_M B gf cf es hes hsz w hB hm)
 go_enter Tryz.func112, Tryz.ntmps112
 go_wp2_with fail
 refine HA.out.mono ?_
 rintro e w1 ⟨l1, v, xs, rfl, hx, hv⟩
 go_wp2_with fail
 go_ret
 exact ⟨l1, _, xs, rfl, hx, hv⟩
theorem nanI (x : Int) (w : World) : Calls Tryz.prog 174 #[.int .i64 x] w fun e w' => e = .returned (.bool false) ∧ w' = w := by
 go_enter Tryz.func174, Tryz.ntmps174
 go_wp2_with fail
 go_ret
 exact ⟨rfl, rfl⟩
theorem lessI (x y : Int) (w : World) : Calls Tryz.prog 209 #[.int .i64 x, .int .i64 y] w fun e w' => (∃ b, e = .returned (.bool b)) ∧ w' = w := by
 go_enter Tryz.func209, Tryz.ntmps209
 go_wp2_with fail
 refine (nanI x _).mono ?_
 rintro e w1 ⟨rfl, rfl⟩
 go_wp2_with fail
 go_ret
 exact ⟨⟨_, rfl⟩, rfl⟩
end Go.Proofs.YtofknbfbmaefoaaGreatDoor
