import Derived.Test.YtofknbfbmaefoaaGreatDoorX3
import Derived.Test.YtofknbfbmaefoaaGreatDoorX2
import Derived.Lib.ConvBytes
import Derived.Test.YtofknbfbmaefoaaGreatDoorX9
namespace Go.Proofs.YtofknbfbmaefoaaGreatDoor
set_option maxHeartbeats 8000000
open Go.RowKit Go.Shelf
set_option maxRecDepth 100000
set_option linter.unusedVariables false
set_option linter.unusedSimpArgs false
theorem conv_x (w : World) : ∃ g c w1, (convert 9 31 (.string ⟨#[120]⟩)).run Tryz.prog w = .ok (.slice (some ⟨g, 0, none⟩) 1 c) w1 ∧ Rd w1.heap.size w1 (.slice (some ⟨g, 0, none⟩) 1 c) [120] ∧ Later w w1 := by
 have hc := grownCap_le_maxLen w 1 0 5 (by unfold maxLen; omega)
 have hg := grownCap_ge w 1 0 5
 unfold maxLen at hc
 refine ⟨w.heap.size, grownCap w 1 0 5, Lib.bytesWorld w 5 ⟨#[120]⟩, Lib.run_convert_string_bytes w 9 31 5 ⟨#[120]⟩ Tryz.underlying9 Tryz.underlying31 Tryz.underlying5, .inr ⟨w.heap.size, 0, _, rfl, by simp, hg, hc, by rw [Lib.bytesWorld_size]; omega, fun j hj => ?_⟩, ?_⟩
 ·have hj0 : j = 0 := by simp at hj; omega
  subst hj0
  rw [Nat.zero_add, Lib.bytesWorld_cell w 5 ⟨#[120]⟩ 0 (by decide)]
  rfl
 ·exact ⟨rfl, rfl, rfl, by rw [Lib.bytesWorld_size]; omega, fun i hi => Lib.bytesWorld_at_old w 5 ⟨#[120]⟩ i hi⟩
def dgD : List Int := udp 5 53 false 167772162 134744072 [120]
def dgZ16 : List Int := hdr 0 0 false 64 17 167772162 134744072 [] (20 + 0 + 9) ++ dgD
theorem udp16_any (w : World) :
  Calls Tryz.prog 28 #[.int .u32 167772162, .int .u32 134744072, .int .u16 5, .int .u16 53, .string ⟨#[120]⟩] w fun e w' => Later w w' ∧ ∃ v, e = .returned v ∧ Ow w.heap.size w' v dgZ16 := by
 obtain ⟨gc, cc, w1, hcv, hI, l1⟩ := conv_x w
 have HU := hide (rbuildUdp_any 0 0 64 0 167772162 134744072 5 53 false false (.slice none 0 0) (.slice (some ⟨gc, 0, none⟩) 1 cc) none 0 0 [] [120] w1 (.inl ⟨_, _, rfl, rfl, by omega, fun _ => rfl⟩) (by intro z hz; simp at hz; omega) hI (by simp) (by simp) (by omega) (by omega) (by omega) (by omega))
 clear hI
 go_enter Tryz.func28, Tryz.ntmps28
 go_wp2_with fail
 refine HU.out.mono ?_
 rintro e w2 ⟨l2, ⟨h1, _⟩ | ⟨_, a7, c7, a8, c8, rfl, hO, hD⟩⟩
 ·exact absurd (by decide) h1
 have l2' : Later w1 w2 := l2
 have la := later_allocG w2 (.cells #[.int .u8 0, .int .u16 0, .bool false, .int .u8 64, .int .u8 17, .int .u32 167772162, .int .u32 134744072, .slice a7 0 c7, .slice a8 9 c8] 56)
 have C3 := hide (heap_alloc_new w2 (.cells #[.int .u8 0, .int .u16 0, .bool false, .int .u8 64, .int .u8 17, .int .u32 167772162, .int .u32 134744072, .slice a7 0 c7, .slice a8 9 c8] 56))
 have L3 : Later w (w2.alloc (.cells #[.int .u8 0, .int .u16 0, .bool false, .int .u8 64, .int .u8 17, .int .u32 167772162, .int .u32 134744072, .slice a7 0 c7, .slice a8 9 c8] 56)) := l1.trans (Later.trans l2' la)
 have O3 := hide (hO.later la)
 have D3 := hide (hD.later la)
 clear HU l2 l2' la hO hD hcv
 go_upto_region 2 with fail
 change Code.wp _ _ _ _ (w2.alloc (.cells #[.int .u8 0, .int .u16 0, .bool false, .int .u8 64, .int .u8 17, .int .u32 167772162, .int .u32 134744072, .slice a7 0 c7, .slice a8 9 c8] 56))
 generalize w2.alloc (.cells #[.int .u8 0, .int .u16 0, .bool false, .int .u8 64, .int .u8 17, .int .u32 167772162, .int .u32 134744072, .slice a7 0 c7, .slice a8 9 c8] 56) = w3 at *
 have k3 := block_cell C3.out
 have HB := hide (rbuild_yes 0 0 64 17 167772162 134744072 false (.slice a7 0 c7) (.slice a8 9 c8) [] dgD w3 (by intro z hz; cases hz) O3.out.rd D3.out.rd (by decide) (by decide) (by decide +kernel) (by omega) (by omega) (by omega) (by omega) (by omega) (by omega))
 have hlen : dgD.length = 9 := by decide +kernel
 rw [hlen] at HB
 clear hlen
 go_wp2_with fail
 refine HB.out.mono ?_
 rintro e w4 ⟨v, rfl, hO4, l4⟩
 go_wp2_with fail
 go_ret
 exact ⟨L3.trans l4, v, rfl, hO4.mono L3.size⟩
theorem KG.pre (base : Nat) : Pre (KG base) := ⟨fun a => KG.refl base a, fun a b c h k => h.trans k⟩
def Comes (side : Int) (bk : Bool) : Prop := (side = 1 ∧ bk = true) ∨ (side = 0 ∧ bk = false)
def oth (f : Fl) (bk : Bool) : Tu := if bk then f.o else f.r
structure Bel (s : Gf) (f : Fl) (bk : Bool) (side src dst a b : Int) : Prop where
 hf : f ∈ s.fs
 hu : IdU s
 huq : ∀ x ∈ s.fs, x.blk = f.blk → x = f
 kx : ∃ (k : Nat) (r : Rw), kx 17 src dst a b s.rw = some k ∧ (s.rw (bki 17 src dst a b))[k]? = some r ∧ r.id = f.id
 hx : 0 ≤ src ∧ src ≤ 4294967295
 hd : 0 ≤ dst ∧ dst ≤ 4294967295
 ha : 0 ≤ a ∧ a ≤ 65535
 hb : 0 ≤ b ∧ b ≤ 65535
 bq : bk = true ↔ ¬ ((17 : Int) = f.o.pr ∧ src = f.o.src ∧ dst = f.o.dst ∧ kyp 17 a = kyp f.o.pr f.o.sp ∧ b = f.o.dp)
 sd : f.side = 0
 cm : Comes side bk
 hBo : TuB f.o
 hBr : TuB f.r
 po : f.o.pr = 17
 pr : f.r.pr = 17
 hp : f.hp = noh
 tr : 0 ≤ s.trn ∧ s.trn ≤ 999999
 nw : 0 ≤ s.now ∧ s.now ≤ 549755813888
theorem Bel.q {s : Gf} {f : Fl} {bk : Bool} {side src dst a b : Int} (h : Bel s f bk side src dst a b) : TuB (oth f bk) ∧ (oth f bk).pr = 17 := by
 unfold oth
 split
 ·exact ⟨h.hBo, h.po⟩
 ·exact ⟨h.hBr, h.pr⟩
def twI (i j : Nat) (x y : Rw) : Nat → List Rw := fun n => (if n = i then [x] else []) ++ (if n = j then [y] else [])
theorem twI_add (i j : Nat) (x y : Rw) : addL (addL (fun _ => []) i x) j y = twI i j x y := by
 funext n
 unfold addL twI
 by_cases h1 : n = j
 ·subst h1
  by_cases h2 : n = i
  ·subst h2; simp
  ·simp [h2]
 ·by_cases h2 : n = i
  ·subst h2; simp [h1]
  ·simp [h1, h2]
theorem twI_mv1 (i j : Nat) (x y : Rw) (tl tn : Int) : mvL (twI i j x y) i 0 tl tn = twI i j { x with till := tl, turn := tn } y := by
 funext n
 unfold mvL twI
 by_cases h : n = i
 ·subst h; simp
 ·simp [h]
theorem twI_mv2 (i j : Nat) (x y : Rw) (tl tn : Int) : mvL (twI i j x y) j (if j = i then 1 else 0) tl tn = twI i j x { y with till := tl, turn := tn } := by
 funext n
 unfold mvL twI
 by_cases h1 : n = j
 ·subst h1
  by_cases h2 : n = i
  ·subst h2; simp
  ·simp [h2]
 ·simp [h1]
theorem twI_k1 (p s d a b : Int) (i j : Nat) (x y : Rw) (hb : bki p s d a b = i) (hx : isK p s d (kyp p a) b x = true) : kx p s d a b (twI i j x y) = some 0 ∧ (twI i j x y i)[0]? = some x := by
 unfold kx kix
 rw [hb]
 unfold twI
 rw [if_pos rfl]
 exact ⟨by rw [List.cons_append, List.findIdx?_cons, hx]; rfl, rfl⟩
theorem twI_k2 (p s d a b : Int) (i j : Nat) (x y : Rw) (hb : bki p s d a b = j) (hx : isK p s d (kyp p a) b x = false) (hy : isK p s d (kyp p a) b y = true) : kx p s d a b (twI i j x y) = some (if j = i then 1 else 0) ∧ (twI i j x y j)[if j = i then 1 else 0]? = some y := by
 unfold kx kix
 rw [hb]
 unfold twI
 by_cases h : j = i
 ·subst h
  simp [List.findIdx?_cons, hx, hy]
 ·simp [h, List.findIdx?_cons, hy]
theorem addL_no (p s d a b : Int) (i : Nat) (x : Rw) (hx : isK p s d (kyp p a) b x = false) : kx p s d a b (addL (fun _ => []) i x) = none := by
 unfold kx kix
 rw [List.findIdx?_eq_none_iff]
 intro z hz
 unfold addL at hz
 split at hz
 ·have : z = x := by simpa using hz
  rw [this]; exact hx
 ·cases hz
def roT (t : Tu) (id tl tn : Int) : Rw := ⟨t.pr, t.src, t.dst, kyp t.pr t.sp, t.dp, id, tl, tn⟩
def tuA (t u : Tu) : Prop := t.pr = u.pr ∧ t.src = u.src ∧ t.dst = u.dst ∧ kyp t.pr t.sp = kyp u.pr u.sp ∧ t.dp = u.dp
theorem isK_yes (t : Tu) (id tl tn : Int) : isK t.pr t.src t.dst (kyp t.pr t.sp) t.dp (roT t id tl tn) = true := by
 unfold isK roT
 simp
theorem isK_not (t u : Tu) (id tl tn : Int) (h : ¬ tuA u t) : isK t.pr t.src t.dst (kyp t.pr t.sp) t.dp (roT u id tl tn) = false := by
 cases hb : isK t.pr t.src t.dst (kyp t.pr t.sp) t.dp (roT u id tl tn) with
 | false => rfl
 | true =>
  unfold isK roT at hb
  simp only [Bool.and_eq_true, beq_iff_eq] at hb
  exact absurd hb h
def twR (o r : Tu) (id tl t1 t2 : Int) : Nat → List Rw := twI (bkT o) (bkT r) (roT o id tl t1) (roT r id tl t2)
theorem ptT_yes (t : Tu) (id tl : Int) (c tn : Int) (ls : Nat → List Rw) (hm : mayb tl = true) (hc : c < 128) (hk : kx t.pr t.src t.dst t.sp t.dp ls = none) : ptT t id tl (c, tn, ls) = (c + 1, tn + 1, addL ls (bkT t) (roT t id tl (tn + 1))) := by
 have hp : pute 128 c ls t.pr t.src t.dst t.sp t.dp tl = 0 := by
  unfold pute
  rw [if_neg (by rw [hm]; simp), hk, if_neg (by simp), if_neg (by omega)]
 unfold ptT
 rw [if_pos hp]
 rfl
theorem mvT_yes (t : Tu) (tl tn : Int) (ls : Nat → List Rw) (k : Nat) (hm : mayb tl = true) (hk : kxT t ls = some k) : mvT t tl (tn, ls) = (tn + 1, mvL ls (bkT t) k tl (tn + 1)) := by
 unfold mvT
 rw [if_neg (show ¬ mayb tl = false by rw [hm]; simp), hk]
theorem twR_put (o r : Tu) (id tl : Int) (hm : mayb tl = true) (hne : ¬ tuA o r) : ptT r id tl (ptT o id tl (0, 0, fun _ => [])) = (0 + 1 + 1, 0 + 1 + 1, twR o r id tl (0 + 1) (0 + 1 + 1)) := by
 have e1 := ptT_yes o id tl 0 0 (fun _ => []) hm (by omega) (by unfold kx kix; simp)
 have e2 := ptT_yes r id tl (0 + 1) (0 + 1) (addL (fun _ => []) (bkT o) (roT o id tl (0 + 1))) hm (by omega) (addL_no _ _ _ _ _ _ _ (isK_not r o id tl (0 + 1) hne))
 rw [e1, e2, twI_add]
 rfl
theorem twR_ko (o r : Tu) (id tl t1 t2 : Int) : kxT o (twR o r id tl t1 t2) = some 0 ∧ (twR o r id tl t1 t2 (bkT o))[0]? = some (roT o id tl t1) := twI_k1 o.pr o.src o.dst o.sp o.dp (bkT o) (bkT r) _ _ rfl (isK_yes o id tl t1)
theorem twR_mv (o r : Tu) (id tl tl2 t1 t2 trn : Int) (hm : mayb tl2 = true) (hne : ¬ tuA o r) : mvT r tl2 (mvT o tl2 (trn, twR o r id tl t1 t2)) = (trn + 1 + 1, twR o r id tl2 (trn + 1) (trn + 1 + 1)) := by
 have e1 := mvT_yes o tl2 trn (twR o r id tl t1 t2) 0 hm (twR_ko o r id tl t1 t2).1
 have q1 : mvL (twR o r id tl t1 t2) (bkT o) 0 tl2 (trn + 1) = twI (bkT o) (bkT r) (roT o id tl2 (trn + 1)) (roT r id tl t2) := twI_mv1 _ _ _ _ _ _
 have k2 : kxT r (twI (bkT o) (bkT r) (roT o id tl2 (trn + 1)) (roT r id tl t2)) = some (if bkT r = bkT o then 1 else 0) := (twI_k2 r.pr r.src r.dst r.sp r.dp (bkT o) (bkT r) _ _ rfl (isK_not r o id tl2 (trn + 1) hne) (isK_yes r id tl t2)).1
 have e2 := mvT_yes r tl2 (trn + 1) (twI (bkT o) (bkT r) (roT o id tl2 (trn + 1)) (roT r id tl t2)) _ hm k2
 have q2 : mvL (twI (bkT o) (bkT r) (roT o id tl2 (trn + 1)) (roT r id tl t2)) (bkT r) (if bkT r = bkT o then 1 else 0) tl2 (trn + 1 + 1) = twR o r id tl2 (trn + 1) (trn + 1 + 1) := twI_mv2 _ _ _ _ _ _
 rw [e1, q1, e2, q2]
theorem GF.now {base g : Nat} {W : World} {s : Gf} (h : GF base W g s) (n : Int) : GF base (W.setCell ⟨g, 2, none⟩ (.int .i64 n)) g { s with now := n } := by
 have hb : But (fun b => b = g) W (W.setCell ⟨g, 2, none⟩ (.int .i64 n)) := (But.refl (fun b => b = g) _).setCell (show _ = _ from rfl) _
 have hE := TE.one h.gc
 exact ⟨h.bs, heap_set1 h.gc 2 (.int .i64 n), ⟨h.rl.1, hE.keep hb h.rl.2.1 (isT_no (by decide) _ _), hE.own hb h.rl.2.2 (isT_no (by decide))⟩, hE.table hb h.tb (isT_no (by decide)) (isT_no (by decide)), ⟨h.bl.1, hE.keep hb h.bl.2.1 (isT_no (by decide) _ _), hE.own hb h.bl.2.2 (isT_no (by decide))⟩, hE.keep hb h.fl (isT_map _ _), hE.keep hb h.pl (isT_map _ _), h.ne, h.bf, h.fm, h.pm, fun f hf => ⟨(h.fb f hf).1, hE.keep hb (h.fb f hf).2 (isT_no (by decide) _ _)⟩, fun p hp => ⟨(h.pb p hp).1, (h.pb p hp).2.1, hE.keep hb (h.pb p hp).2.2 (isT_no (by decide) _ _)⟩⟩
theorem GF.book {base g : Nat} {W W' : World} {s : Gf} (h : GF base W g s) (hb : But (fun b => b = s.gb) W W') {v : Value} {l : List Ex} (hl : BL 144 base W' s.gb v l) : GF base W' g { s with ve := v, ex := l } := by
 have hE := TE.one h.bl.2.1
 exact ⟨h.bs, hE.keep hb h.gc (isT_no (by decide) _ _), ⟨h.rl.1, hE.keep hb h.rl.2.1 (isT_no (by decide) _ _), hE.own hb h.rl.2.2 (isT_no (by decide))⟩, hE.table hb h.tb (isT_no (by decide)) (isT_no (by decide)), hl, hE.keep hb h.fl (isT_map _ _), hE.keep hb h.pl (isT_map _ _), h.ne, h.bf, h.fm, h.pm, fun f hf => ⟨(h.fb f hf).1, hE.keep hb (h.fb f hf).2 (isT_no (by decide) _ _)⟩, fun p hp => ⟨(h.pb p hp).1, (h.pb p hp).2.1, hE.keep hb (h.pb p hp).2.2 (isT_no (by decide) _ _)⟩⟩
def ltr (s : Gf) (n : Int) (v : Value) : Gf := { s with now := n, ve := v }
def TqG (base : Nat) (w w' : World) (g : Nat) (s : Gf) (nw : Int) : Prop := But (fun b => b = g ∨ b = s.gb) w w' ∧ ∃ n v, (0 ≤ n ∧ n ≤ 549755813888) ∧ (n ≤ nw ∨ n ≤ s.now) ∧ s.now ≤ n ∧ GF base w' g (ltr s n v)
theorem TqG.kg {base g : Nat} {w w' : World} {s : Gf} (h : But (fun b => b = g ∨ b = s.gb) w w') (hg : GF base w g s) : KG base w w' := KG.of_but h (fun k e => by
 rcases e with e | e
 ·rw [e]
  refine ⟨hg.bs, fun ob ho => ?_⟩
  rw [hg.gc] at ho
  cases ho
  show gTs.contains _ = true
  decide
 ·rw [e]
  refine ⟨hg.bl.1, fun ob ho => ?_⟩
  rw [hg.bl.2.1] at ho
  cases ho
  show gTs.contains _ = true
  decide)
theorem Bel.ltr {s : Gf} {f : Fl} {bk : Bool} {side src dst a b : Int} (h : Bel s f bk side src dst a b) {n : Int} (v : Value) (hn : 0 ≤ n ∧ n ≤ 549755813888) : Bel (ltr s n v) f bk side src dst a b := ⟨h.hf, h.hu, h.huq, h.kx, h.hx, h.hd, h.ha, h.hb, h.bq, h.sd, h.cm, h.hBo, h.hBr, h.po, h.pr, h.hp, h.tr, hn⟩
theorem bg_facts {lo hi : Nat} {s : Gs} {x d : Int} {a : Nat} {b : Int} {mr : Ru} {f : Fl} (pb : Nat) (hb : Bgn (gfS lo hi s) x d a b mr f) (hne : ¬ tuA f.o f.r) (hnw : 0 ≤ s.now ∧ s.now ≤ 549755813888) :
  (bgS (gfS lo hi s) a mr pb f).fs = [f.at 8 (s.now + 30)] ∧ (bgS (gfS lo hi s) a mr pb f).rw = twR f.o f.r 0 (s.now + 30) (0 + 1 + 1 + 1) (0 + 1 + 1 + 1 + 1) ∧ (bgS (gfS lo hi s) a mr pb f).trn = 0 + 1 + 1 + 1 + 1 ∧ (bgS (gfS lo hi s) a mr pb f).now = s.now ∧ (bgS (gfS lo hi s) a mr pb f).ex = [] ∧ ∀ e ∈ (bgS (gfS lo hi s) a mr pb f).fe.toList, e.born < (bgS (gfS lo hi s) a mr pb f).cf := by
 obtain ⟨h1, h2, h3, h4, h5, h6⟩ := hb
 have hid : f.id = 0 := h1
 have hpr : f.o.pr = 17 := by rw [h2]
 have htm : tm f.o.pr 8 = 30 := by rw [hpr]; decide
 have hm0 : mayb s.now = true := by unfold mayb; rw [decide_eq_true_eq]; omega
 have hm1 : mayb (s.now + 30) = true := by unfold mayb; rw [decide_eq_true_eq]; omega
 have hop : ∀ (q : Gf), q.cnt = 0 → q.trn = 0 → q.rw = (fun _ => []) → q.now = s.now → opM q f = (0 + 1 + 1, 0 + 1 + 1, twR f.o f.r 0 s.now (0 + 1) (0 + 1 + 1)) := fun q e1 e2 e3 e4 => by
  unfold opM
  rw [e1, e2, e3, e4, hid]
  exact twR_put f.o f.r 0 s.now hm0 hne
 have hq := hop (withP (gfS lo hi s) 17 mr.tt pb (wsR (wsOf (nums (gfS lo hi s).lo (gfS lo hi s).hi)) (tkn (gfS lo hi s).lo (gfS lo hi s).hi a))) rfl rfl rfl rfl
 have hbc : bcM (opS (withP (gfS lo hi s) 17 mr.tt pb (wsR (wsOf (nums (gfS lo hi s).lo (gfS lo hi s).hi)) (tkn (gfS lo hi s).lo (gfS lo hi s).hi a))) f) f (s.now + 30) = (0 + 1 + 1 + 1 + 1, twR f.o f.r 0 (s.now + 30) (0 + 1 + 1 + 1) (0 + 1 + 1 + 1 + 1)) := by
  unfold bcM opS
  simp only [hq]
  exact twR_mv f.o f.r 0 s.now (s.now + 30) (0 + 1) (0 + 1 + 1) (0 + 1 + 1) hm1 hne
 have hnow : (opS (withP (gfS lo hi s) 17 mr.tt pb (wsR (wsOf (nums (gfS lo hi s).lo (gfS lo hi s).hi)) (tkn (gfS lo hi s).lo (gfS lo hi s).hi a))) f).now = s.now := rfl
 refine ⟨?_, ?_, ?_, rfl, rfl, ?_⟩
 ·show (([] ++ [f] : List Fl).map fun (x : Fl) => if x.blk = f.blk then f.at 8 (s.now + tm f.o.pr 8) else x) = _
  rw [htm]
  simp
 ·show (bcM _ f (_ + tm f.o.pr 8)).2 = _
  rw [htm, hnow, hbc]
 ·show (bcM _ f (_ + tm f.o.pr 8)).1 = _
  rw [htm, hnow, hbc]
 ·intro e he
  have he' : e ∈ ((#[] : Array MapEntry).push ⟨.int .i64 f.id, .pointer (some ⟨f.blk, 0, none⟩), s.cf⟩).toList := he
  have e1 : e = ⟨.int .i64 f.id, .pointer (some ⟨f.blk, 0, none⟩), s.cf⟩ := by simpa using he'
  show e.born < s.cf + 1
  rw [e1]
  exact Nat.lt_succ_self _
def ouD : List Int := rwD 17 16909060 134744072 1000 53 dgD
def ouZ : List Int := hdr 0 0 false 63 17 16909060 134744072 [] (20 + 0 + 9) ++ ouD
theorem dz_by : Mt.By dgZ16 := by unfold Mt.By; decide +kernel
theorem dz_len : dgZ16.length = 29 := by decide +kernel
theorem dz_rd : rde false dgZ16 = 0 := by decide +kernel
theorem dz_9 : dgZ16[9]?.getD 0 = 17 := by decide +kernel
theorem dz_8 : dgZ16[8]?.getD 0 = 64 := by decide +kernel
theorem dz_1 : dgZ16[1]?.getD 0 = 0 := by decide +kernel
theorem dz_w4 : wat dgZ16 4 = 0 := by decide +kernel
theorem dz_w6 : decide (16384 ≤ wat dgZ16 6 % 32768) = false := by decide +kernel
theorem dz_src : wat4 dgZ16 12 = 167772162 := by decide +kernel
theorem dz_dst : wat4 dgZ16 16 = 134744072 := by decide +kernel
theorem dz_zo : ((dgZ16.take (hl4 dgZ16).toNat).drop 20) = [] := by decide +kernel
theorem dz_zd : ((dgZ16.take (ral false dgZ16).toNat).drop (hl4 dgZ16).toNat) = dgD := by decide +kernel
theorem dz_of : ofe 17 167772162 134744072 dgD = 0 ∧ ofa 17 dgD = 5 ∧ ofb 17 dgD = 53 := by decide +kernel
theorem dz_dl : dgD.length = 9 := by decide +kernel
theorem oz_by : Mt.By ouZ := by unfold Mt.By; decide +kernel
theorem oz_len : ouZ.length = 29 := by decide +kernel
theorem oz_rd : rde false ouZ = 0 := by decide +kernel
theorem oz_9 : ouZ[9]?.getD 0 = 17 := by decide +kernel
theorem oz_8 : ouZ[8]?.getD 0 = 63 := by decide +kernel
theorem oz_1 : ouZ[1]?.getD 0 = 0 := by decide +kernel
theorem oz_w4 : wat ouZ 4 = 0 := by decide +kernel
theorem oz_w6 : decide (16384 ≤ wat ouZ 6 % 32768) = false := by decide +kernel
theorem oz_src : wat4 ouZ 12 = 16909060 := by decide +kernel
theorem oz_dst : wat4 ouZ 16 = 134744072 := by decide +kernel
theorem oz_zd : ((ouZ.take (ral false ouZ).toNat).drop (hl4 ouZ).toNat) = ouD := by decide +kernel
theorem od_by : Mt.By ouD := by unfold Mt.By; decide +kernel
theorem od_len : ouD.length = 9 := by decide +kernel
theorem oz_of : ofe 17 16909060 134744072 ouD = 0 ∧ ofa 17 ouD = 1000 ∧ ofb 17 ouD = 53 := by decide +kernel
theorem tk_9 : tkn 1000 1009 5 = 1000 := by decide
theorem ps_ou (s : Gs) : psB (gfS 1000 1009 s) (dgZ16[1]?.getD 0) (wat dgZ16 4) (dgZ16[8]?.getD 0) (wat4 dgZ16 16) (decide (16384 ≤ wat dgZ16 6 % 32768)) ((dgZ16.take (hl4 dgZ16).toNat).drop 20) ((dgZ16.take (ral false dgZ16).toNat).drop (hl4 dgZ16).toNat) 5 53 mqR = ouZ := by
 unfold psB
 rw [dz_1, dz_w4, dz_8, dz_dst, dz_w6, dz_zo, dz_zd, dz_dl]
 show hdr 0 0 false (64 - 1) 17 16909060 134744072 [] _ ++ rwD 17 16909060 134744072 ((tkn 1000 1009 5 : Nat) : Int) 53 dgD = _
 rw [tk_9]
 rfl
theorem mq_fd16 : [mqR].find? (mqB 167772162) = some mqR := by decide +kernel
theorem mq_okL : okL [mqR] := ⟨by simp, fun r hr => by have e := List.mem_singleton.1 hr; rw [e]; exact ⟨mq_wf, by decide +kernel⟩⟩
theorem live16_any (w : World) (hT : Tb w) (hz : Dz w) : Calls Tryz.prog 11 #[] w fun e w' => e = .returned (.bool true) ∧ Later w w' := by
 have HT := hide (fun W (k : Later w W) => (⟨hT.later k, hz.later k⟩ : Tb W ∧ Dz W))
 have HZP := hide hz.pos
 clear hT hz
 go_enter Tryz.func11, Tryz.ntmps11
 go_wp2_with fail
 refine (gnew_yes 1000 1009 w (by decide) (by decide)).mono ?_
 rintro e w1 ⟨g, s, rfl, l1, h1, hls, hgk⟩
 have HR := hide (grule_any w.heap.size g s mqR w1 h1 mq_wf (by rw [hls]; simp) l1.size)
 rw [hls, mq_ok, mq_list] at HR
 go_wp2_with fail
 refine HR.out.mono ?_
 rintro e w2 ⟨rfl, b2, s2, hl2, h2, hsm⟩
 have B2 : Later w w2 := Below.trans l1 b2
 have H2 := hide h2
 have HL2 := hide hl2
 have HK2 := hide (hsm.2 _ _ _ hgk)
 clear HR h1 hls hgk hl2 h2 hsm b2 l1
 go_wp2_with fail
 refine (udp16_any w2).mono ?_
 rintro e w3 ⟨l3, v, rfl, hO3⟩
 have B3 : Later w w3 := Below.trans B2 (l3.mono B2.size)
 have hbs : w.heap.size ≤ w3.heap.size := B3.size
 have HP := hide (packet_yes w.heap.size g w2.heap.size s2 1000 1009 1 v dgZ16 5 53 mqR w3 (H2.out.later l3) HK2.out hbs dz_by hO3 (by rw [dz_len]; decide) dz_rd dz_9 (by rw [dz_8]; decide)
  (by rw [dz_src, dz_dst, HL2.out]; exact ⟨mq_okL, mq_fd16, by decide, by decide, by decide, by decide, by decide, by decide, by decide, by decide, by decide, by decide, by decide⟩)
  (by rw [dz_src, dz_dst, dz_zd]; exact dz_of.1) (by rw [dz_zd]; exact dz_of.2.1) (by rw [dz_zd]; exact dz_of.2.2) (by rw [dz_zo]; decide) (by rw [dz_zo]; decide) (by rw [dz_zo, dz_zd, dz_dl]; decide)
  (fun W k => HT.out W (Below.trans B3 (k.below hbs))) (by have := HZP.out; omega))
 clear hO3 l3
 go_wp2_with fail
 refine HP.out.mono ?_
 rintro e w4 ⟨s4, f, pb, ov, hl4', hk4, hfb, rfl, k4, hbn, hG4, hO4⟩
 rw [dz_src, dz_dst] at hbn
 have hnow := hk4.2.2.1
 have hne : ¬ tuA f.o f.r := by
  rw [hbn.2.1, hbn.2.2.1]
  rintro ⟨_, h2, _⟩
  have h2' : (167772162 : Int) = 134744072 := h2
  exact absurd h2' (by decide)
 obtain ⟨b1, _, _, _, _, b6⟩ := bg_facts pb hbn hne hnow
 rw [ps_ou] at hO4
 have B4 : Later w w4 := Below.trans B3 (k4.below hbs)
 obtain ⟨ova, ovc, rfl, _, _⟩ := hO4.slice
 have la := later_allocG w4 (.cells #[.int .i64 0, .int .i64 1, .slice ova ouZ.length ovc] 40)
 have X5 := hide (heap_alloc_new w4 (.cells #[.int .i64 0, .int .i64 1, .slice ova ouZ.length ovc] 40))
 have G5 := hide (hG4.later la)
 have O5 := hide (hO4.later la)
 have B5 : Later w (w4.alloc (.cells #[.int .i64 0, .int .i64 1, .slice ova ouZ.length ovc] 40)) := B4.trans la
 have HB1 := hide b1
 have HB6 := hide b6
 clear la hG4 hO4 hbn hne hnow b1 b6 B4 k4 HP hl4' hk4
 go_upto_region 4 with fail
 change Code.wp _ _ _ _ (w4.alloc (.cells #[.int .i64 0, .int .i64 1, .slice ova ouZ.length ovc] 40))
 generalize w4.alloc (.cells #[.int .i64 0, .int .i64 1, .slice ova ouZ.length ovc] 40) = w5 at *
 have k5 := block_cell X5.out
 have HP := hide (rparse_any (.slice ova ouZ.length ovc) ouZ w5 oz_by (by rw [oz_len]; decide) O5.out.rd)
 go_wp2_with fail
 refine HP.out.mono ?_
 rintro e w6 ⟨l6, ⟨hx, _⟩ | ⟨_, so, sd, rfl, hOo, hOd⟩⟩
 ·exact absurd oz_rd hx
 have l6' : Later w5 w6 := l6
 rw [oz_zd] at hOd
 unfold pkt
 rw [oz_1, oz_w4, oz_w6, oz_8, oz_9, oz_src, oz_dst]
 obtain ⟨qa, qc, qe, _, _⟩ := hOo.slice
 obtain ⟨ql, rfl⟩ : ∃ ql, so = .slice qa ql qc := ⟨_, qe⟩
 obtain ⟨da, dc, de, _, _⟩ := hOd.slice
 obtain ⟨dl, rfl⟩ : ∃ dl, sd = .slice da dl dc := ⟨_, de⟩
 clear k5 HP qe de hOo l6
 have la := later_allocG w6 (.cells #[.int .u8 0, .int .u16 0, .bool false, .int .u8 63, .int .u8 17, .int .u32 16909060, .int .u32 134744072, .slice qa ql qc, .slice da dl dc] 56)
 have X7 := hide (heap_alloc_new w6 (.cells #[.int .u8 0, .int .u16 0, .bool false, .int .u8 63, .int .u8 17, .int .u32 16909060, .int .u32 134744072, .slice qa ql qc, .slice da dl dc] 56))
 have D7 := hide (hOd.later la)
 have L57 := hide (l6'.trans la)
 clear la hOd l6'
 go_upto_region 5 with fail
 change Code.wp _ _ _ _ (w6.alloc (.cells #[.int .u8 0, .int .u16 0, .bool false, .int .u8 63, .int .u8 17, .int .u32 16909060, .int .u32 134744072, .slice qa ql qc, .slice da dl dc] 56))
 generalize w6.alloc (.cells #[.int .u8 0, .int .u16 0, .bool false, .int .u8 63, .int .u8 17, .int .u32 16909060, .int .u32 134744072, .slice qa ql qc, .slice da dl dc] 56) = w7 at *
 have k7 := block_cell X7.out
 have HP := hide (rof_udp 0 0 63 16909060 134744072 false (.slice qa ql qc) (.slice da dl dc) ouD w7 od_by D7.out.rd (by rw [od_len]; decide) (by decide) (by decide))
 rw [oz_of.1, oz_of.2.1, oz_of.2.2, show otv 0 17 16909060 134744072 1000 53 = .agg #[.int .u8 17, .int .u32 16909060, .int .u32 134744072, .int .u16 1000, .int .u16 53] from by unfold otv; rw [if_pos rfl]] at HP
 go_wp2_with fail
 refine HP.out.mono ?_
 rintro e w8 ⟨l8, rfl⟩
 have l8' : Later w7 w8 := l8
 clear k7 HP l8
 have la := later_allocG w8 (.cells #[.int .u8 17, .int .u32 16909060, .int .u32 134744072, .int .u16 1000, .int .u16 53] 68)
 have X9 := hide (heap_alloc_new w8 (.cells #[.int .u8 17, .int .u32 16909060, .int .u32 134744072, .int .u16 1000, .int .u16 53] 68))
 have L79 : Later w7 (w8.alloc (.cells #[.int .u8 17, .int .u32 16909060, .int .u32 134744072, .int .u16 1000, .int .u16 53] 68)) := l8'.trans la
 clear la l8'
 go_upto_region 6 with fail
 change Code.wp _ _ _ _ (w8.alloc (.cells #[.int .u8 17, .int .u32 16909060, .int .u32 134744072, .int .u16 1000, .int .u16 53] 68))
 generalize w8.alloc (.cells #[.int .u8 17, .int .u32 16909060, .int .u32 134744072, .int .u16 1000, .int .u16 53] 68) = w9 at *
 have L59 : Later w5 w9 := Later.trans L57.out L79
 have B9 : Later w w9 := B5.trans L59
 have ko := block_cell (later_keep L59 X5.out)
 have kp := block_cell (later_keep L79 X7.out)
 have kt := block_cell X9.out
 have HF := hide (flows_one w.heap.size g _ _ w9 (G5.out.later L59) HB1.out HB6.out)
 clear X5 G5 O5 X7 D7 X9 L57
 go_wp2_with fail
 refine HF.out.mono ?_
 rintro e w10 ⟨l10, fa, fc, rfl⟩
 go_wp2_with fail
 go_ret
 exact ⟨rfl, B9.trans l10⟩
end Go.Proofs.YtofknbfbmaefoaaGreatDoor
