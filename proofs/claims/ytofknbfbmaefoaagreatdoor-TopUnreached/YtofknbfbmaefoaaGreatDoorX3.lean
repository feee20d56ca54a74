import Derived.Test.YtofknbfbmaefoaaGreatDoorX4
import Derived.Test.YtofknbfbmaefoaaGreatDoorX10
import Derived.Test.YtofknbfbmaefoaaGreatDoorX7
import Derived.Test.YtofknbfbmaefoaaGreatDoorX6
namespace Go.Proofs.YtofknbfbmaefoaaGreatDoor
open Go.RowKit Go.Shelf
set_option maxRecDepth 100000
set_option linter.unusedVariables false
set_option linter.unusedSimpArgs false
def oth (f : Fl) (bk : Bool) : Tu := if bk then f.o else f.r
theorem other_bk (f : Fl) (w : World) (h : w.heap[f.blk]? = some (.cells (flc f).toArray 93 (0, 0))) :
  Calls Tryz.prog 110 #[.pointer (some ⟨f.blk, 0, none⟩), .bool true] w fun e w' => e = .returned (.agg #[.int .u8 f.o.pr, .int .u32 f.o.src, .int .u32 f.o.dst, .int .u16 f.o.sp, .int .u16 f.o.dp]) ∧ Later w w' := by
 have la := later_allocG w (.cells #[.int .u8 0, .int .u32 0, .int .u32 0, .int .u16 0, .int .u16 0] 68)
 have C0 := hide (heap_alloc_new w (.cells #[.int .u8 0, .int .u32 0, .int .u32 0, .int .u16 0, .int .u16 0] 68))
 have C1 := hide (later_keep la h)
 clear h
 go_enter Tryz.func110, Tryz.ntmps110
 go_upto_region 2 with fail
 generalize w.alloc _ = w1 at *
 generalize hgx : w.heap.size = gx at C0 ⊢
 have k0 := block_cell C0.out
 have f0 := block_frozen C0.out
 have k1 := block_cell C1.out
 unfold flc at k1
 go_wp2_with fail
 generalize hV : (((((w1.setCell ⟨gx, 0, none⟩ _).setCell ⟨gx, 1, none⟩ _).setCell ⟨gx, 2, none⟩ _).setCell ⟨gx, 3, none⟩ _).setCell ⟨gx, 4, none⟩ _) = V8
 have hV9 : V8 = putRow w1 gx 0 [.int .u8 f.o.pr, .int .u32 f.o.src, .int .u32 f.o.dst, .int .u16 f.o.sp, .int .u16 f.o.dp] := hV.symm
 have hb8 : But (fun b => b = gx) w1 V8 := by rw [hV9]; exact putRow_but (E := fun b => b = gx) (n := gx) rfl _ _ _ _ (But.refl _ _)
 have p8 := putRow_all [.int .u8 f.o.pr, .int .u32 f.o.src, .int .u32 f.o.dst, .int .u16 f.o.sp, .int .u16 f.o.dp] C0.out rfl
 rw [← hV9] at p8
 clear hV hV9
 have P8 := block_cell p8
 exact bodyPost_ret (v := .agg #[.int .u8 f.o.pr, .int .u32 f.o.src, .int .u32 f.o.dst, .int .u16 f.o.sp, .int .u16 f.o.dp]) (by simp [results, Tryz.results110, go_sem, P8]) rfl ⟨rfl, Below.trans la (hb8.below la.size (fun k hk e => by have e' : k = gx := e; omega))⟩
structure Bel (s : Gf) (f : Fl) (bk : Bool) (side src dst a b : Int) : Prop where
 hf : f ∈ s.fs
 hu : IdU s
 huq : ∀ x ∈ s.fs, x.blk = f.blk → x = f
 kx : ∃ (k : Nat) (r : Rw), kx 17 src dst a b s.rw = some k ∧ (s.rw (bki 17 src dst a b))[k]? = some r ∧ r.id = f.id
 hx : 0 ≤ src ∧ src ≤ 4294967295
 hd : 0 ≤ dst ∧ dst ≤ 4294967295
 ha : 0 ≤ a ∧ a ≤ 65535
 hb : 0 ≤ b ∧ b ≤ 65535
 bq : bk = true ↔ ¬ ((17 : Int) = f.o.pr ∧ src = f.o.src ∧ dst = f.o.dst ∧ kyp 17 a = kyp f.o.pr f.o.sp ∧ b = f.o.dp)
 sd : f.side = 0
 cm : Comes side bk
 hBo : TuB f.o
 hBr : TuB f.r
 po : f.o.pr = 17
 pr : f.r.pr = 17
 hp : f.hp = noh
 tr : 0 ≤ s.trn ∧ s.trn ≤ 999999
 nw : 0 ≤ s.now ∧ s.now ≤ 549755813888
theorem Bel.q {s : Gf} {f : Fl} {bk : Bool} {side src dst a b : Int} (h : Bel s f bk side src dst a b) : TuB (oth f bk) ∧ (oth f bk).pr = 17 := by
 unfold oth
 split
 ·exact ⟨h.hBo, h.po⟩
 ·exact ⟨h.hBr, h.pr⟩
def twI (i j : Nat) (x y : Rw) : Nat → List Rw := fun n => (if n = i then [x] else []) ++ (if n = j then [y] else [])
theorem twI_add (i j : Nat) (x y : Rw) : addL (addL (fun _ => []) i x) j y = twI i j x y := by
 funext n
 unfold addL twI
 by_cases h1 : n = j
 ·subst h1
  by_cases h2 : n = i
  ·subst h2; simp
  ·simp [h2]
 ·by_cases h2 : n = i
  ·subst h2; simp [h1]
  ·simp [h1, h2]
theorem twI_mv1 (i j : Nat) (x y : Rw) (tl tn : Int) : mvL (twI i j x y) i 0 tl tn = twI i j { x with till := tl, turn := tn } y := by
 funext n
 unfold mvL twI
 by_cases h : n = i
 ·subst h; simp
 ·simp [h]
theorem twI_mv2 (i j : Nat) (x y : Rw) (tl tn : Int) : mvL (twI i j x y) j (if j = i then 1 else 0) tl tn = twI i j x { y with till := tl, turn := tn } := by
 funext n
 unfold mvL twI
 by_cases h1 : n = j
 ·subst h1
  by_cases h2 : n = i
  ·subst h2; simp
  ·simp [h2]
 ·simp [h1]
theorem twI_len (i j : Nat) (x y : Rw) (n : Nat) : (twI i j x y n).length ≤ 2 := by
 unfold twI
 rw [List.length_append]
 split <;> split <;> simp
theorem twI_mem (i j : Nat) (x y : Rw) (n : Nat) (z : Rw) (h : z ∈ twI i j x y n) : z = x ∨ z = y := by
 unfold twI at h
 rcases List.mem_append.1 h with h | h
 ·split at h
  ·exact .inl (List.mem_singleton.1 h)
  ·cases h
 ·split at h
  ·exact .inr (List.mem_singleton.1 h)
  ·cases h
theorem twI_k1 (p s d a b : Int) (i j : Nat) (x y : Rw) (hb : bki p s d a b = i) (hx : isK p s d (kyp p a) b x = true) : kx p s d a b (twI i j x y) = some 0 ∧ (twI i j x y i)[0]? = some x := by
 unfold kx kix
 rw [hb]
 unfold twI
 rw [if_pos rfl]
 exact ⟨by rw [List.cons_append, List.findIdx?_cons, hx]; rfl, rfl⟩
theorem twI_k2 (p s d a b : Int) (i j : Nat) (x y : Rw) (hb : bki p s d a b = j) (hx : isK p s d (kyp p a) b x = false) (hy : isK p s d (kyp p a) b y = true) : kx p s d a b (twI i j x y) = some (if j = i then 1 else 0) ∧ (twI i j x y j)[if j = i then 1 else 0]? = some y := by
 unfold kx kix
 rw [hb]
 unfold twI
 by_cases h : j = i
 ·subst h
  simp [List.findIdx?_cons, hx, hy]
 ·simp [h, List.findIdx?_cons, hy]
theorem addL_no (p s d a b : Int) (i : Nat) (x : Rw) (hx : isK p s d (kyp p a) b x = false) : kx p s d a b (addL (fun _ => []) i x) = none := by
 unfold kx kix
 rw [List.findIdx?_eq_none_iff]
 intro z hz
 unfold addL at hz
 split at hz
 ·have : z = x := by simpa using hz
  rw [this]; exact hx
 ·cases hz
def roT (t : Tu) (id tl tn : Int) : Rw := ⟨t.pr, t.src, t.dst, kyp t.pr t.sp, t.dp, id, tl, tn⟩
def tuA (t u : Tu) : Prop := t.pr = u.pr ∧ t.src = u.src ∧ t.dst = u.dst ∧ kyp t.pr t.sp = kyp u.pr u.sp ∧ t.dp = u.dp
theorem isK_yes (t : Tu) (id tl tn : Int) : isK t.pr t.src t.dst (kyp t.pr t.sp) t.dp (roT t id tl tn) = true := by
 unfold isK roT
 simp
theorem isK_not (t u : Tu) (id tl tn : Int) (h : ¬ tuA u t) : isK t.pr t.src t.dst (kyp t.pr t.sp) t.dp (roT u id tl tn) = false := by
 cases hb : isK t.pr t.src t.dst (kyp t.pr t.sp) t.dp (roT u id tl tn) with
 | false => rfl
 | true =>
  unfold isK roT at hb
  simp only [Bool.and_eq_true, beq_iff_eq] at hb
  exact absurd hb h
def twR (o r : Tu) (id tl t1 t2 : Int) : Nat → List Rw := twI (bkT o) (bkT r) (roT o id tl t1) (roT r id tl t2)
theorem ptT_yes (t : Tu) (id tl : Int) (c tn : Int) (ls : Nat → List Rw) (hm : mayb tl = true) (hc : c < 128) (hk : kx t.pr t.src t.dst t.sp t.dp ls = none) : ptT t id tl (c, tn, ls) = (c + 1, tn + 1, addL ls (bkT t) (roT t id tl (tn + 1))) := by
 have hp : pute 128 c ls t.pr t.src t.dst t.sp t.dp tl = 0 := by
  unfold pute
  rw [if_neg (by rw [hm]; simp), hk, if_neg (by simp), if_neg (by omega)]
 unfold ptT
 rw [if_pos hp]
 rfl
theorem mvT_yes (t : Tu) (tl tn : Int) (ls : Nat → List Rw) (k : Nat) (hm : mayb tl = true) (hk : kxT t ls = some k) : mvT t tl (tn, ls) = (tn + 1, mvL ls (bkT t) k tl (tn + 1)) := by
 unfold mvT
 rw [if_neg (show ¬ mayb tl = false by rw [hm]; simp), hk]
theorem twR_put (o r : Tu) (id tl : Int) (hm : mayb tl = true) (hne : ¬ tuA o r) : ptT r id tl (ptT o id tl (0, 0, fun _ => [])) = (0 + 1 + 1, 0 + 1 + 1, twR o r id tl (0 + 1) (0 + 1 + 1)) := by
 have e1 := ptT_yes o id tl 0 0 (fun _ => []) hm (by omega) (by unfold kx kix; simp)
 have e2 := ptT_yes r id tl (0 + 1) (0 + 1) (addL (fun _ => []) (bkT o) (roT o id tl (0 + 1))) hm (by omega) (addL_no _ _ _ _ _ _ _ (isK_not r o id tl (0 + 1) hne))
 rw [e1, e2, twI_add]
 rfl
theorem twR_ko (o r : Tu) (id tl t1 t2 : Int) : kxT o (twR o r id tl t1 t2) = some 0 ∧ (twR o r id tl t1 t2 (bkT o))[0]? = some (roT o id tl t1) := twI_k1 o.pr o.src o.dst o.sp o.dp (bkT o) (bkT r) _ _ rfl (isK_yes o id tl t1)
theorem twR_kr (o r : Tu) (id tl t1 t2 : Int) (hne : ¬ tuA o r) : kxT r (twR o r id tl t1 t2) = some (if bkT r = bkT o then 1 else 0) ∧ (twR o r id tl t1 t2 (bkT r))[if bkT r = bkT o then 1 else 0]? = some (roT r id tl t2) := twI_k2 r.pr r.src r.dst r.sp r.dp (bkT o) (bkT r) _ _ rfl (isK_not r o id tl t1 hne) (isK_yes r id tl t2)
theorem twR_mv (o r : Tu) (id tl tl2 t1 t2 trn : Int) (hm : mayb tl2 = true) (hne : ¬ tuA o r) : mvT r tl2 (mvT o tl2 (trn, twR o r id tl t1 t2)) = (trn + 1 + 1, twR o r id tl2 (trn + 1) (trn + 1 + 1)) := by
 have e1 := mvT_yes o tl2 trn (twR o r id tl t1 t2) 0 hm (twR_ko o r id tl t1 t2).1
 have q1 : mvL (twR o r id tl t1 t2) (bkT o) 0 tl2 (trn + 1) = twI (bkT o) (bkT r) (roT o id tl2 (trn + 1)) (roT r id tl t2) := twI_mv1 _ _ _ _ _ _
 have k2 : kxT r (twI (bkT o) (bkT r) (roT o id tl2 (trn + 1)) (roT r id tl t2)) = some (if bkT r = bkT o then 1 else 0) := (twI_k2 r.pr r.src r.dst r.sp r.dp (bkT o) (bkT r) _ _ rfl (isK_not r o id tl2 (trn + 1) hne) (isK_yes r id tl t2)).1
 have e2 := mvT_yes r tl2 (trn + 1) (twI (bkT o) (bkT r) (roT o id tl2 (trn + 1)) (roT r id tl t2)) _ hm k2
 have q2 : mvL (twI (bkT o) (bkT r) (roT o id tl2 (trn + 1)) (roT r id tl t2)) (bkT r) (if bkT r = bkT o then 1 else 0) tl2 (trn + 1 + 1) = twR o r id tl2 (trn + 1) (trn + 1 + 1) := twI_mv2 _ _ _ _ _ _
 rw [e1, q1, e2, q2]
theorem twR_due (o r : Tu) (id tl t1 t2 now : Int) (h : now < tl) : duR now (allR (twR o r id tl t1 t2)) = [] := by
 unfold duR
 rw [List.filter_eq_nil_iff]
 intro x hx
 unfold allR at hx
 obtain ⟨j, _, hj⟩ := List.mem_flatMap.1 hx
 have ht : x.till = tl := by
  rcases twI_mem _ _ _ _ _ _ hj with e | e <;> rw [e] <;> rfl
 simp
 omega
theorem twR_len (o r : Tu) (id tl t1 t2 : Int) (j : Nat) : (twR o r id tl t1 t2 j).length ≤ 2 := twI_len _ _ _ _ _
theorem all_few (ls : Nat → List Rw) (h : ∀ j, (ls j).length ≤ 2) : (allR ls).length ≤ 512 := by
 unfold allR
 have q : ∀ (l : List Nat), (l.flatMap ls).length ≤ 2 * l.length := fun l => by
  induction l with
  | nil => simp
  | cons x l ih => rw [List.flatMap_cons, List.length_append, List.length_cons]; have := h x; omega
 have := q (List.range 256)
 rw [List.length_range] at this
 exact this
theorem twR_all (o r : Tu) (id tl t1 t2 : Int) : (allR (twR o r id tl t1 t2)).length ≤ 512 := all_few _ (twR_len o r id tl t1 t2)
theorem GF.now {base g : Nat} {W : World} {s : Gf} (h : GF base W g s) (n : Int) : GF base (W.setCell ⟨g, 2, none⟩ (.int .i64 n)) g { s with now := n } := by
 have hb : But (fun b => b = g) W (W.setCell ⟨g, 2, none⟩ (.int .i64 n)) := (But.refl (fun b => b = g) _).setCell (show _ = _ from rfl) _
 have hE := TE.one h.gc
 exact ⟨h.bs, heap_set1 h.gc 2 (.int .i64 n), ⟨h.rl.1, hE.keep hb h.rl.2.1 (isT_no (by decide) _ _), hE.own hb h.rl.2.2 (isT_no (by decide))⟩, hE.table hb h.tb (isT_no (by decide)) (isT_no (by decide)), ⟨h.bl.1, hE.keep hb h.bl.2.1 (isT_no (by decide) _ _), hE.own hb h.bl.2.2 (isT_no (by decide))⟩, hE.keep hb h.fl (isT_map _ _), hE.keep hb h.pl (isT_map _ _), h.ne, h.bf, h.fm, h.pm, fun f hf => ⟨(h.fb f hf).1, hE.keep hb (h.fb f hf).2 (isT_no (by decide) _ _)⟩, fun p hp => ⟨(h.pb p hp).1, (h.pb p hp).2.1, hE.keep hb (h.pb p hp).2.2 (isT_no (by decide) _ _)⟩⟩
theorem GF.book {base g : Nat} {W W' : World} {s : Gf} (h : GF base W g s) (hb : But (fun b => b = s.gb) W W') {v : Value} {l : List Ex} (hl : BL 144 base W' s.gb v l) : GF base W' g { s with ve := v, ex := l } := by
 have hE := TE.one h.bl.2.1
 exact ⟨h.bs, hE.keep hb h.gc (isT_no (by decide) _ _), ⟨h.rl.1, hE.keep hb h.rl.2.1 (isT_no (by decide) _ _), hE.own hb h.rl.2.2 (isT_no (by decide))⟩, hE.table hb h.tb (isT_no (by decide)) (isT_no (by decide)), hl, hE.keep hb h.fl (isT_map _ _), hE.keep hb h.pl (isT_map _ _), h.ne, h.bf, h.fm, h.pm, fun f hf => ⟨(h.fb f hf).1, hE.keep hb (h.fb f hf).2 (isT_no (by decide) _ _)⟩, fun p hp => ⟨(h.pb p hp).1, (h.pb p hp).2.1, hE.keep hb (h.pb p hp).2.2 (isT_no (by decide) _ _)⟩⟩
theorem dueF_none (base bt : Nat) (cnt trn now : Int) (ls : Nat → List Rw) (w : World) (hT : TB base w bt 128 cnt trn ls) (hd : duR now (allR ls) = []) (hal : (allR ls).length ≤ 5000) :
  Calls Tryz.prog 32 #[.pointer (some ⟨bt, 0, none⟩), .int .i64 now] w fun e w' => (∃ g, e = .returned (.slice (some ⟨g, 0, none⟩) 0 0)) ∧ Later w w' := by
 refine (due_any base bt 128 cnt trn now ls [] w hT (by rw [hd]; exact sorts_one [] (by simp)) hal).mono ?_
 rintro e w' ⟨l, g, rfl, _, _⟩
 exact ⟨⟨g, rfl⟩, l⟩
def ltr (s : Gf) (n : Int) (v : Value) : Gf := { s with now := n, ve := v }
def TqG (base : Nat) (w w' : World) (g : Nat) (s : Gf) (nw : Int) : Prop := But (fun b => b = g ∨ b = s.gb) w w' ∧ ∃ n v, (0 ≤ n ∧ n ≤ 549755813888) ∧ (n ≤ nw ∨ n ≤ s.now) ∧ s.now ≤ n ∧ GF base w' g (ltr s n v)
theorem TqG.kg {base g : Nat} {w w' : World} {s : Gf} (h : But (fun b => b = g ∨ b = s.gb) w w') (hg : GF base w g s) : KG base w w' := KG.of_but h (fun k e => by
 rcases e with e | e
 ·rw [e]
  refine ⟨hg.bs, fun ob ho => ?_⟩
  rw [hg.gc] at ho
  cases ho
  show gTs.contains _ = true
  decide
 ·rw [e]
  refine ⟨hg.bl.1, fun ob ho => ?_⟩
  rw [hg.bl.2.1] at ho
  cases ho
  show gTs.contains _ = true
  decide)
set_option maxRecDepth 100000 in
set_option maxHeartbeats 8000000 in
theorem tick_quiet (base g : Nat) (s : Gf) (nw : Int) (w : World) (h : GF base w g s) (hbs : base ≤ w.heap.size) (hnw : 0 ≤ s.now ∧ s.now ≤ 549755813888) (hex : s.ex = []) (hdu : ∀ n, n ≤ nw ∨ n ≤ s.now → duR n (allR s.rw) = []) (hal : (allR s.rw).length ≤ 5000) :
  Calls Tryz.prog 14 #[.pointer (some ⟨g, 0, none⟩), .int .i64 nw] w fun e w' => e = .returned (.tuple #[]) ∧ TqG base w w' g s nw := by
 have HDU := hide hdu
 have HEX := hide hex
 have HAL := hide hal
 clear hdu hex hal
 have HG := hide h
 have hbg := h.bs
 go_enter Tryz.func14, Tryz.ntmps14
 have k0 := block_cell h.gc
 have f0 := block_frozen h.gc
 unfold gfc at k0
 go_upto_region 1 with fail
 go_cut [18] (fun _ wx => ∃ nv : Int, ((0 ≤ nv ∧ nv ≤ 549755813888) ∧ (nv ≤ nw ∨ nv ≤ s.now) ∧ s.now ≤ nv) ∧ wx = w.setCell ⟨g, 2, none⟩ (.int .i64 nv))
 case first =>
  go_wp2_with fail
  all_goals
   go_meet
   case rel => exact ⟨_, by omega, rfl⟩
 case rest =>
 clear k0 f0
 obtain ⟨nv, hnr, hnv⟩ := hcut
 obtain ⟨w1, hw1⟩ : ∃ w1, w1 = wc := ⟨_, rfl⟩
 subst hw1
 have h1 : GF base w1 g { s with now := nv } := by rw [hnv]; exact h.now nv
 have M1 : But (fun b => b = g ∨ b = s.gb) w w1 := by
  rw [hnv]
  exact (But.refl (fun b => b = g ∨ b = s.gb) w).setCell (p := ⟨g, 2, none⟩) (show _ ∨ _ from .inl rfl) (.int .i64 nv)
 obtain ⟨s1, hs1⟩ : ∃ s1 : Gf, s1 = { s with now := nv } := ⟨_, rfl⟩
 have e1 : s1.gb = s.gb := by rw [hs1]
 have e2 : s1.ex = [] := by rw [hs1]; exact HEX.out
 have e3 : duR s1.now (allR s1.rw) = [] := by rw [hs1]; exact HDU.out nv hnr.2.1
 have e4 : (allR s1.rw).length ≤ 5000 := by rw [hs1]; exact HAL.out
 have e5 : ∀ v, { s1 with ve := v, ex := [] } = ltr s nv v := fun v => by rw [hs1]; unfold ltr; rw [← HEX.out]
 rw [← hs1] at h1
 have HGB := hide e1
 have HE2 := hide e2
 have HE3 := hide e3
 have HE4 := hide e4
 have HE5 := hide e5
 have HNR := hide hnr
 clear hs1 e1 e2 e3 e4 e5 hnv hnr HDU HEX HAL HG h hnw
 go_upto_region 2 with fail
 refine anyT_begin (R := Later) 11 rfl (by kernel_rfl) ?_
 have ld : Later w1 w1.drew := Later.drew w1
 generalize w1.drew = w2 at *
 have h2 := h1.later ld
 have M2 : But (fun b => b = g ∨ b = s.gb) w w2 := M1.trans (But.of ld)
 have q1 : ∀ v, Later w2 v → ∀ j, v.cell? ⟨g, j, none⟩ = (gfc s1).toArray[j]? := fun v hv => block_cell (later_keep hv h2.gc)
 unfold gfc at q1
 have H2 := hide h2
 clear h1 h2 ld M1
 refine tV Later.pre 0 rfl rfl ?_; apply Exists.intro; refine ⟨fun v1 hv1 => ?_, ?_⟩; (· (go_simp; rfl)); simp only [Act.put, sA, sB, sC]
 refine tV Later.pre 1 rfl rfl ?_; apply Exists.intro; refine ⟨fun v1 hv1 => ?_, ?_⟩; (· (go_simp; rfl)); simp only [Act.put, sA, sB, sC]
 refine tV Later.pre 2 rfl rfl ?_; apply Exists.intro; refine ⟨fun v1 hv1 => ?_, ?_⟩; (· (go_simp; rfl)); simp only [Act.put, sA, sB, sC]
 refine tV Later.pre 3 rfl rfl ?_; apply Exists.intro; refine ⟨fun v1 hv1 => ?_, ?_⟩; (· (go_simp; rfl)); simp only [Act.put, sA, sB, sC]
 refine tV Later.pre 4 rfl rfl ?_; apply Exists.intro; refine ⟨fun v1 hv1 => ?_, ?_⟩; (· (go_simp; rfl)); simp only [Act.put, sA, sB, sC]
 refine tV Later.pre 5 rfl rfl ?_; apply Exists.intro; refine ⟨fun v1 hv1 => ?_, ?_⟩; (· (go_simp; rfl)); simp only [Act.put, sA, sB, sC]
 refine tV Later.pre 6 rfl rfl ?_; apply Exists.intro; refine ⟨fun v1 hv1 => ?_, ?_⟩; (· (go_simp; rfl)); simp only [Act.put, sA, sB, sC]
 refine tV Later.pre 7 rfl rfl ?_; apply Exists.intro; refine ⟨fun v1 hv1 => ?_, ?_⟩; (· (go_simp; rfl)); simp only [Act.put, sA, sB, sC]
 refine tV Later.pre 10 rfl rfl ?_; apply Exists.intro; refine ⟨fun v1 hv1 => ?_, ?_⟩; (· (go_simp; rfl)); simp only [Act.put, sA, sB, sC]
 clear q1
 refine anyT_one 8 rfl (by kernel_rfl) rfl ?_
 refine wp_enter 32 #[.pointer (some ⟨s1.gt, 0, none⟩), .int .i64 s1.now] (by go_simp) ?_
 refine (dueF_none base s1.gt s1.cnt s1.trn s1.now s1.rw w2 H2.out.tb HE3.out HE4.out).mono ?_
 rintro e w3 ⟨⟨gd, rfl⟩, l3⟩
 refine ⟨l3, ?_⟩
 simp only [Act.put, sA, sB, sC]
 refine tV Later.pre 9 rfl rfl ?_; apply Exists.intro; refine ⟨fun v1 hv1 => ?_, ?_⟩; (· (go_simp; rfl)); simp only [Act.put, sA, sB, sC]
 refine anyT_done (by kernel_rfl) ?_
 have h3 := H2.out.later l3
 have M3 : But (fun b => b = g ∨ b = s.gb) w w3 := M2.trans (But.of l3)
 have H3 := hide h3
 clear H2 h3 M2 l3
 go_upto_region 3 with fail
 go_loopw [31] (fun iv wr => iv = .int .i64 0 ∧ wr = w3) (fun _ _ => 0)
 case atStart => exact ⟨rfl, rfl⟩
 case round =>
  obtain ⟨rfl, hw⟩ := hrel
  subst hw
  go_upto_region 9 with fail
  refine anyT_begin (R := But (fun b => b = s1.gb)) 11 rfl (by kernel_rfl) ?_
  have ld : Later wr wr.drew := Later.drew wr
  generalize wr.drew = w4 at *
  have h4 := H3.out.later ld
  have M4 : But (fun b => b = g ∨ b = s.gb) w w4 := M3.trans (But.of ld)
  have q1 : ∀ v, But (fun b => b = s1.gb) w4 v → ∀ j, v.cell? ⟨g, j, none⟩ = (gfc s1).toArray[j]? := fun v hv => block_cell (cellsG_but hv h4.gc h4.bl.2.1 (by intro e; injection e with e1 e2 e3; exact absurd e2 (by decide)))
  unfold gfc at q1
  have H4 := hide h4
  clear H3 h4 M3 ld
  refine tV (But.pre (fun b => b = s1.gb)) 0 rfl rfl ?_; apply Exists.intro; refine ⟨fun v1 hv1 => ?_, ?_⟩; (· (go_simp; rfl)); simp only [Act.put, sA, sB, sC]
  refine tV (But.pre (fun b => b = s1.gb)) 1 rfl rfl ?_; apply Exists.intro; refine ⟨fun v1 hv1 => ?_, ?_⟩; (· (go_simp; rfl)); simp only [Act.put, sA, sB, sC]
  refine tV (But.pre (fun b => b = s1.gb)) 2 rfl rfl ?_; apply Exists.intro; refine ⟨fun v1 hv1 => ?_, ?_⟩; (· (go_simp; rfl)); simp only [Act.put, sA, sB, sC]
  refine tV (But.pre (fun b => b = s1.gb)) 3 rfl rfl ?_; apply Exists.intro; refine ⟨fun v1 hv1 => ?_, ?_⟩; (· (go_simp; rfl)); simp only [Act.put, sA, sB, sC]
  refine tV (But.pre (fun b => b = s1.gb)) 4 rfl rfl ?_; apply Exists.intro; refine ⟨fun v1 hv1 => ?_, ?_⟩; (· (go_simp; rfl)); simp only [Act.put, sA, sB, sC]
  refine tV (But.pre (fun b => b = s1.gb)) 5 rfl rfl ?_; apply Exists.intro; refine ⟨fun v1 hv1 => ?_, ?_⟩; (· (go_simp; rfl)); simp only [Act.put, sA, sB, sC]
  refine tV (But.pre (fun b => b = s1.gb)) 6 rfl rfl ?_; apply Exists.intro; refine ⟨fun v1 hv1 => ?_, ?_⟩; (· (go_simp; rfl)); simp only [Act.put, sA, sB, sC]
  refine tV (But.pre (fun b => b = s1.gb)) 7 rfl rfl ?_; apply Exists.intro; refine ⟨fun v1 hv1 => ?_, ?_⟩; (· (go_simp; rfl)); simp only [Act.put, sA, sB, sC]
  refine tV (But.pre (fun b => b = s1.gb)) 8 rfl rfl ?_; apply Exists.intro; refine ⟨fun v1 hv1 => ?_, ?_⟩; (· (go_simp; rfl)); simp only [Act.put, sA, sB, sC]
  clear q1
  refine anyT_one 9 rfl (by kernel_rfl) rfl ?_
  refine wp_enter 36 #[.pointer (some ⟨s1.gb, 0, none⟩), .int .i64 s1.now] (by go_simp) ?_
  refine (due12_any base s1.gb s1.ve [] s1.now w4 (by have q := H4.out.bl; rw [HE2.out] at q; exact q) (Nat.le_trans hbs M4.size) (by simp)).mono ?_
  rintro e w5 ⟨u, rfl, v5, hbl, hrow, hbut, _⟩
  obtain ⟨ua, uc, rfl⟩ : ∃ a c, u = .slice a 0 c := by
   obtain ⟨_, ⟨rfl, _⟩ | ⟨b, cap, cur, rfl, _⟩⟩ := hrow
   ·exact ⟨_, _, rfl⟩
   ·exact ⟨_, _, rfl⟩
  have h5 := H4.out.book hbut hbl
  have M5 : But (fun b => b = g ∨ b = s.gb) w w5 := M4.trans ⟨hbut.os, hbut.tape, hbut.output, hbut.size, fun i hi he => hbut.block i hi (fun e => he (.inr (by have e' : i = s1.gb := e; rw [e', HGB.out])))⟩
  have HB := hide hbut
  clear hbut hrow hbl
  refine ⟨HB.out, ?_⟩
  simp only [Act.put, sA, sB, sC]
  refine anyT_one 10 rfl (by kernel_rfl) rfl ?_
  refine wp_enter 35 #[.pointer (some ⟨g, 0, none⟩), .slice ua 0 uc] (by go_simp) ?_
  refine (giveExpected_none _ ua uc w5).mono ?_
  rintro e w6 ⟨rfl, hw6⟩
  subst hw6
  refine ⟨But.refl _ _, ?_⟩
  simp only [Act.put, sA, sB, sC]
  refine anyT_done (by kernel_rfl) ?_
  go_wp2_with fail
  go_end0
  exact ⟨rfl, M5, _, v5, HNR.out.1, HNR.out.2.1, HNR.out.2.2, by rw [← HE5.out]; exact h5⟩
theorem opp_in (w : World) : Calls Tryz.prog 58 #[.int .i64 0] w fun e w' => e = .returned (.int .i64 1) ∧ w' = w := by
 go_enter Tryz.func58, Tryz.ntmps58
 go_wp2_with fail
 go_ret
 exact ⟨rfl, rfl⟩
def Bgn (s : Gf) (src dst : Int) (a : Nat) (b : Int) (mr : Ru) (f : Fl) : Prop := f.id = s.bg ∧ f.o = ⟨17, src, dst, (a : Int), b⟩ ∧ f.r = ⟨17, dst, mr.tt, b, (tkn s.lo s.hi a : Int)⟩ ∧ f.side = 0 ∧ f.ms = -1 ∧ f.hp = noh
def bgS (s : Gf) (a : Nat) (mr : Ru) (pb : Nat) (f : Fl) : Gf := bcS (opS (withP s 17 mr.tt pb (wsR (wsOf (nums s.lo s.hi)) (tkn s.lo s.hi a))) f) f 8
def psB (s : Gf) (tos id ttl dst : Int) (keep : Bool) (zo zd : List Int) (a : Nat) (b : Int) (mr : Ru) : List Int := hdr tos id keep (ttl - 1) 17 mr.tt dst zo (20 + zo.length + zd.length) ++ rwD 17 mr.tt dst (tkn s.lo s.hi a : Int) b zd
def HdQ (base : Nat) (w w' : World) (g : Nat) (s : Gf) (zs : List Int) (a : Nat) (b : Int) (mr : Ru) (e : Ending) : Prop := ∃ (f : Fl) (pb : Nat) (v : Value), w.heap.size ≤ f.blk ∧ e = .returned (.agg #[.int .i64 0, .int .i64 1, v]) ∧ KG base w w' ∧ Bgn s (wat4 zs 12) (wat4 zs 16) a b mr f ∧ GF base w' g (bgS s a mr pb f) ∧ Ow w.heap.size w' v (psB s (zs[1]?.getD 0) (wat zs 4) (zs[8]?.getD 0) (wat4 zs 16) (decide (16384 ≤ wat zs 6 % 32768)) ((zs.take (hl4 zs).toNat).drop 20) ((zs.take (ral false zs).toNat).drop (hl4 zs).toNat) a b mr)
set_option maxRecDepth 100000 in
set_option maxHeartbeats 8000000 in
theorem handle_yes (base g : Nat) (s : Gf) (sb : Value) (zs : List Int) (a : Nat) (b : Int) (mr : Ru) (w : World) (h : GF base w g s) (hB : Mt.By zs) (hI : Rd w.heap.size w sb zs) (hl : zs.length ≤ 60000)
  (hp : rde false zs = 0) (hpr : zs[9]?.getD 0 = 17) (htt : (2 : Int) ≤ zs[8]?.getD 0) (hR : Rdy s (wat4 zs 12) (wat4 zs 16) a b mr) (he : ofe 17 (wat4 zs 12) (wat4 zs 16) ((zs.take (ral false zs).toNat).drop (hl4 zs).toNat) = 0) (hea : ofa 17 ((zs.take (ral false zs).toNat).drop (hl4 zs).toNat) = (a : Int)) (heb : ofb 17 ((zs.take (ral false zs).toNat).drop (hl4 zs).toNat) = b) (hlo : ((zs.take (hl4 zs).toNat).drop 20).length ≤ 40) (hlm : ((zs.take (hl4 zs).toNat).drop 20).length % 4 = 0) (hall : 20 + ((zs.take (hl4 zs).toNat).drop 20).length + ((zs.take (ral false zs).toNat).drop (hl4 zs).toNat).length ≤ 65535)
  (hbs : base ≤ w.heap.size) (hz : ∀ W, KG base w W → Tb W ∧ Dz W) (hgz : 1 ≤ w.heap.size) :
  Calls Tryz.prog 25 #[.pointer (some ⟨g, 0, none⟩), .int .i64 0, sb] w fun e w' => HdQ base w w' g s zs a b mr e := by
 unfold HdQ
 have hmf : ∀ (fn : Fn) (first cap : Array Value) (w : World), (Instr.makeFunc fn first cap).run Tryz.prog w = .ok (.func fn first cap) w := fun _ _ _ _ => rfl
 obtain ⟨ia, icap, rfl, hl1, hm1⟩ := hI.slice
 have l0 := later_allocG w (.cells (oc 0).toArray 40)
 have C0 := hide (heap_alloc_new w (.cells (oc 0).toArray 40))
 have HP := hide (parse_any _ zs _ hB (by omega) (hI.later l0))
 have HG := hide h
 have bt := hB.at 1
 have bl := hB.at 8
 have bi : 0 ≤ wat zs 4 ∧ wat zs 4 ≤ 65535 := wat_bd hB 4
 have hBd : Mt.By ((zs.take (ral false zs).toNat).drop (hl4 zs).toNat) := (hB.take _).drop _
 have hBo : Mt.By ((zs.take (hl4 zs).toNat).drop 20) := (hB.take _).drop _
 clear h hI
 go_enter_defers Tryz.func25, Tryz.ntmps25
 go_wp2_with fail
 change Calls _ _ _ (w.alloc (.cells (oc 0).toArray 40)) _
 generalize hw1 : w.alloc (.cells (oc 0).toArray 40) = w1 at *
 clear hw1
 refine HP.out.mono ?_
 rintro e w2 ⟨l2, ⟨h1, rfl⟩ | ⟨h1, so, sd, rfl, hOo, hOd⟩⟩
 ·exact absurd hp h1
 clear h1 HP hp
 have l2' : Later w1 w2 := l2
 obtain ⟨oa, ocp, rfl, _, _⟩ := hOo.slice
 obtain ⟨da, dcp, rfl, _, _⟩ := hOd.slice
 have hld : ((zs.take (ral false zs).toNat).drop (hl4 zs).toNat).length ≤ 65535 := by omega
 generalize hzd : ((zs.take (ral false zs).toNat).drop (hl4 zs).toNat) = zd at *
 generalize hzo : ((zs.take (hl4 zs).toNat).drop 20) = zo at *
 unfold pkt
 rw [hpr]
 generalize htos : zs[1]?.getD 0 = tos at *
 generalize hidd : wat zs 4 = id at *
 generalize hkp : decide (16384 ≤ wat zs 6 % 32768) = keep at *
 generalize httl : zs[8]?.getD 0 = ttl at *
 clear hpr
 generalize hsrc : wat4 zs 12 = src at *
 generalize hdst : wat4 zs 16 = dst at *
 have EQS := hide (show (((zs[1]?.getD 0 = tos ∧ wat zs 4 = id) ∧ decide (16384 ≤ wat zs 6 % 32768) = keep) ∧ zs[8]?.getD 0 = ttl) ∧ (wat4 zs 12 = src ∧ wat4 zs 16 = dst) ∧ ((zs.take (ral false zs).toNat).drop (hl4 zs).toNat) = zd ∧ ((zs.take (hl4 zs).toNat).drop 20) = zo from ⟨⟨⟨⟨htos, hidd⟩, hkp⟩, httl⟩, ⟨hsrc, hdst⟩, hzd, hzo⟩)
 clear htos hidd hkp httl hsrc hdst hzd hzo
 have la := later_allocG w2 (.cells #[.int .u8 tos, .int .u16 id, .bool keep, .int .u8 ttl, .int .u8 17, .int .u32 src, .int .u32 dst, .slice oa zo.length ocp, .slice da zd.length dcp] 56)
 have CP := hide (heap_alloc_new w2 (.cells #[.int .u8 tos, .int .u16 id, .bool keep, .int .u8 ttl, .int .u8 17, .int .u32 src, .int .u32 dst, .slice oa zo.length ocp, .slice da zd.length dcp] 56))
 have D0 := hide (later_keep (l2'.trans la) C0.out)
 have L3 : Later w (w2.alloc (.cells #[.int .u8 tos, .int .u16 id, .bool keep, .int .u8 ttl, .int .u8 17, .int .u32 src, .int .u32 dst, .slice oa zo.length ocp, .slice da zd.length dcp] 56)) := l0.trans (l2'.trans la)
 have O3 := hide (hOo.kg (KG.of_later (base := base) la))
 have Q3 := hide (hOd.kg (KG.of_later (base := base) la))
 have hgp : w1.heap.size ≤ w2.heap.size := l2'.size
 have hg1 := (bl9 C0.out)
 clear hOo hOd la l2 l2'
 go_upto_region 3 with fail
 change Code.wp _ _ _ _ (w2.alloc (.cells #[.int .u8 tos, .int .u16 id, .bool keep, .int .u8 ttl, .int .u8 17, .int .u32 src, .int .u32 dst, .slice oa zo.length ocp, .slice da zd.length dcp] 56))
 generalize w2.alloc (.cells #[.int .u8 tos, .int .u16 id, .bool keep, .int .u8 ttl, .int .u8 17, .int .u32 src, .int .u32 dst, .slice oa zo.length ocp, .slice da zd.length dcp] 56) = w3 at *
 generalize w2.heap.size = gp at *
 have H3 := hide (HG.out.later L3)
 have hfl : flt zo.length zd.length = 0 := by unfold flt; rw [if_neg (by omega), if_neg (by omega)]
 have HCH := hide (changed_yes base g s tos id ttl src dst keep (.slice oa zo.length ocp) (.slice da zd.length dcp) zo zd a b mr w1.heap.size w3 H3.out hR he hea heb hfl hBo hBd O3.out Q3.out (by omega) (by omega) bt bi bl (Nat.le_trans hbs L3.size) (fun W k => hz W ((KG.of_later L3).trans k)) (Nat.le_trans hgz L3.size))
 have btt := hR.tt
 have bdd := hR.hd
 clear H3 he hea heb hfl hz hgz O3 Q3 HG hR C0
 have kp := block_cell CP.out
 have ht2 : ¬ ttl < 2 := by omega
 go_wp2_with fail
 refine (grefuse_no 1 _).mono ?_
 rintro e w4 ⟨rfl, hw4⟩
 subst hw4
 go_wp2_with fail
 refine HCH.out.mono ?_
 rintro e w4 ⟨f, pb, ao, co, ad, cd, hfb, rfl, k4, hbn, hG4, o4, q4⟩
 clear kp HCH
 have K4 : KG base w w4 := (KG.of_later L3).trans k4
 have E0 := hide (k4.cells D0.out (by decide))
 have EP := hide (k4.cells CP.out (by decide))
 have G4 := hide hG4
 have o4' := hide (o4.mono L3.size)
 have q4' := hide (q4.mono L3.size)
 have HBN := hide hbn
 clear D0 CP hG4 o4 q4 k4 hbn
 have kp := block_cell EP.out
 have fp := block_frozen EP.out
 go_upto_region 5 with fail
 generalize hV : (((((((((w4.setCell ⟨_, 0, none⟩ _).setCell ⟨_, 1, none⟩ _).setCell ⟨_, 2, none⟩ _).setCell ⟨_, 3, none⟩ _).setCell ⟨_, 4, none⟩ _).setCell ⟨_, 5, none⟩ _).setCell ⟨_, 6, none⟩ _).setCell ⟨_, 7, none⟩ _).setCell ⟨_, 8, none⟩ _) = w5
 have hV9 : w5 = putRow w4 gp 0 [.int .u8 tos, .int .u16 id, .bool keep, .int .u8 ttl, .int .u8 17, .int .u32 mr.tt, .int .u32 dst, .slice ao zo.length co, .slice ad zd.length cd] := hV.symm
 have hb5 : But (fun b => b = gp) w4 w5 := by rw [hV9]; exact putRow_but (E := fun b => b = gp) (n := gp) rfl _ _ _ _ (But.refl _ _)
 have p5 := putRow_all [.int .u8 tos, .int .u16 id, .bool keep, .int .u8 ttl, .int .u8 17, .int .u32 mr.tt, .int .u32 dst, .slice ao zo.length co, .slice ad zd.length cd] EP.out rfl
 rw [← hV9] at p5
 clear hV hV9 kp fp
 have G5 := hide (G4.out.other (TE.one EP.out) hb5 (by decide))
 have O5 := hide (o4'.out.aside EP.out (by decide) hb5)
 have Q5 := hide (q4'.out.aside EP.out (by decide) hb5)
 have K5 : Hid (KG base w w5) := K4.own hb5 (by omega)
 have F0 := hide ((hb5.block w.heap.size (bl9 E0.out) (fun e => by have e' : w.heap.size = gp := e; omega)).trans E0.out)
 have FP := hide p5
 clear G4 o4' q4' K4 E0 EP hb5 p5
 have kp := block_cell FP.out
 have fp := block_frozen FP.out
 have P6 := hide (heap_set1 FP.out 3 (.int .u8 (ttl - 1)))
 have hb6 : But (fun b => b = gp) w5 (w5.setCell ⟨gp, 3, none⟩ (.int .u8 (ttl - 1))) := (But.refl (fun b => b = gp) w5).setCell (p := ⟨gp, 3, none⟩) (show _ = _ from rfl) _
 have HB6 := hide hb6
 clear hb6
 go_upto_region 6 with fail
 have hQ6 : (w5.setCell ⟨gp, 3, none⟩ (.int .u8 (ttl - 1))).heap[gp]? = some (.cells #[.int .u8 tos, .int .u16 id, .bool keep, .int .u8 (ttl - 1), .int .u8 17, .int .u32 mr.tt, .int .u32 dst, .slice ao zo.length co, .slice ad zd.length cd] 56 (0, 0)) := P6.out
 have G6 := hide (G5.out.other (TE.one FP.out) HB6.out (by decide))
 have o6 := O5.out.aside FP.out (by decide) HB6.out
 have q6 := Q5.out.aside FP.out (by decide) HB6.out
 have O6 := hide o6
 have Q6 := hide q6
 have K6 := hide (K5.out.own HB6.out (by omega))
 have F6 := hide ((HB6.out.block w.heap.size (bl9 F0.out) (fun e => by have e' : w.heap.size = gp := e; omega)).trans F0.out)
 have FQ6 := hide hQ6
 have hrl : (rwD 17 mr.tt dst (tkn s.lo s.hi a : Int) b zd).length = zd.length := by
  obtain ⟨_, _, e, _, _⟩ := q6.slice
  injection e with e1 e2 e3
  exact e2.symm
 have HRL := hide hrl
 clear o6 q6 hQ6 hrl kp fp G5 O5 Q5 K5 F0 FP P6 HB6
 generalize w5.setCell ⟨gp, 3, none⟩ (.int .u8 (ttl - 1)) = w6 at *
 have HBU := hide (build_yes tos id (ttl - 1) 17 mr.tt dst keep (.slice ao zo.length co) (.slice ad zd.length cd) zo (rwD 17 mr.tt dst (tkn s.lo s.hi a : Int) b zd) w6 hBo O6.out.rd Q6.out.rd hlo hlm (by rw [HRL.out]; exact hall) bt bi (by omega) (by decide) btt bdd)
 rw [HRL.out] at HBU
 have k6 := block_cell FQ6.out
 clear hall hlm hlo
 go_wp2_with fail
 refine HBU.out.mono ?_
 rintro e w7 ⟨v, rfl, hO7, l7⟩
 have l7' : Later w6 w7 := l7
 obtain ⟨va, vc, rfl, _, _⟩ := hO7.slice
 have F7 := hide (later_keep l7' F6.out)
 have G7 := hide (G6.out.later l7')
 have K7 := hide (K6.out.trans (KG.of_later l7'))
 have O7 := hide (hO7.mono K6.out.size)
 clear k6 HBU l7 l7' hO7 F6 G6 K6 O6 Q6 FQ6
 generalize hob : hdr tos id keep (ttl - 1) 17 mr.tt dst zo (20 + zo.length + zd.length) ++ rwD 17 mr.tt dst (tkn s.lo s.hi a : Int) b zd = ob at *
 have HOB := hide hob
 clear hob
 go_wp2_with fail
 refine (opp_in w7).mono ?_
 rintro e w8 ⟨rfl, hw8⟩
 subst hw8
 have k0 := block_cell F7.out
 have f0 := block_frozen F7.out
 unfold oc at k0
 go_wp2_with fail
 generalize hV : (((w8.setCell ⟨_, 0, none⟩ _).setCell ⟨_, 1, none⟩ _).setCell ⟨_, 2, none⟩ _) = V8
 have hV9 : V8 = putRow w8 w.heap.size 0 [.int .i64 0, .int .i64 1, .slice va ob.length vc] := hV.symm
 have hb8 : But (fun b => b = w.heap.size) w8 V8 := by rw [hV9]; exact putRow_but (E := fun b => b = w.heap.size) (n := w.heap.size) rfl _ _ _ _ (But.refl _ _)
 have p8 := putRow_all [.int .i64 0, .int .i64 1, .slice va ob.length vc] F7.out rfl
 rw [← hV9] at p8
 clear hV hV9 k0 f0
 have h8 := G7.out.other (TE.one F7.out) hb8 (by decide)
 have o8 := O7.out.aside F7.out (by decide) hb8
 have k8 := K7.out.own hb8 (Nat.le_refl _)
 exact gdoor_idle _ w.heap.size _ _ _ V8 p8 rfl ⟨f, pb, .slice va ob.length vc, Nat.le_trans L3.size hfb, rfl, k8, by obtain ⟨⟨⟨⟨q1, q2⟩, q3⟩, q4⟩, ⟨q5, q6⟩, q7, q8⟩ := EQS.out; unfold Bgn; rw [q5, q6]; exact HBN.out, h8, by obtain ⟨⟨⟨⟨q1, q2⟩, q3⟩, q4⟩, ⟨q5, q6⟩, q7, q8⟩ := EQS.out; unfold psB; rw [q1, q2, q3, q4, q6, q7, q8, HOB.out]; exact o8⟩
def gfS (lo hi : Nat) (s : Gs) : Gf := { lo := lo, hi := hi, now := s.now, bg := 0, ls := s.ls, gr := s.gr, gf := s.gf, gt := s.gt, gb := s.gb, gp := s.gp, vr := s.vr, ve := s.ve, ex := [], cnt := 0, trn := 0, rw := fun _ => [], fs := [], ps := [], fe := #[], pe := #[], cf := s.cf, cp := s.cp }
theorem GI.toF {base g : Nat} {W : World} {s : Gs} {lo hi : Nat} (h : GI base W g s) (hk : GsK base (lo : Int) (hi : Int) s) : GF base W g (gfS lo hi s) := by
 obtain ⟨e1, e2, e3, e4, e5, e6⟩ := hk
 refine ⟨h.bs, ?_, h.rl, h.tb, h.bl, h.fl, h.pl, e4, ⟨e5, e6⟩, rfl, rfl, (fun f hf => by cases hf), (fun p hp => by cases hp)⟩
 have q := h.gc
 unfold gtc at q
 rw [e1, e2] at q
 exact q
structure Rdx (lo hi : Nat) (ls : List Ru) (x d : Int) (a : Nat) (b : Int) (mr : Ru) : Prop where
 ok : okL ls
 fd : ls.find? (mqB x) = some mr
 hx : 0 ≤ x ∧ x ≤ 4294967295
 hd : 0 ≤ d ∧ d ≤ 4294967295
 ha : a ≤ 65535
 hb : 0 ≤ b ∧ b ≤ 65535
 tt : 0 ≤ mr.tt ∧ mr.tt ≤ 4294967295
 h1 : 1 ≤ lo
 h2 : lo ≤ hi
 h3 : hi < 65536
 s1 : (b == 5060) = false
 s2 : ((a : Int) == 5060) = false
 ne : ¬ (x = d ∧ d = mr.tt)
theorem kx_nil (p s d a b : Int) : kx p s d a b (fun _ => []) = none := by
 unfold kx kix
 simp
theorem Rdx.rdy {lo hi : Nat} {base : Nat} {s : Gs} {x d : Int} {a : Nat} {b : Int} {mr : Ru} (h : Rdx lo hi s.ls x d a b mr) (hk : GsK base (lo : Int) (hi : Int) s) : Rdy (gfS lo hi s) x d a b mr := by
 obtain ⟨e1, e2, e3, e4, e5, e6⟩ := hk
 exact ⟨rfl, h.ok, h.fd, h.hx, h.hd, h.ha, h.hb, h.tt, h.h1, h.h2, h.h3, h.s1, h.s2, kx_nil _ _ _ _ _, fun n => kx_nil _ _ _ _ _, by show (0 : Nat) < 64; decide, h.ne, by show (0 : Int) ≤ 0 ∧ (0 : Int) ≤ 900000; decide, e3, by show (0 : Int) ≤ 0 ∧ (0 : Int) ≤ 1000000; decide, (fun y hy => by cases hy), by show (0 : Int) ≤ 0 ∧ (0 : Int) ≤ 1000; decide, fun i => by show (0 : Nat) ≤ 4000; decide⟩
theorem TkG.kg {base g : Nat} {w w' : World} {s : Gs} (h : But (fun b => b = g ∨ b = s.gb) w w') (hg : GI base w g s) : KG base w w' := KG.of_but h (fun k e => by
 rcases e with e | e
 ·rw [e]
  refine ⟨hg.bs, fun ob ho => ?_⟩
  rw [hg.gc] at ho
  cases ho
  show gTs.contains _ = true
  decide
 ·rw [e]
  refine ⟨hg.bl.1, fun ob ho => ?_⟩
  rw [hg.bl.2.1] at ho
  cases ho
  show gTs.contains _ = true
  decide)
def PkQ (base : Nat) (w w' : World) (g : Nat) (lo hi : Nat) (ls : List Ru) (zs : List Int) (a : Nat) (b : Int) (mr : Ru) (e : Ending) : Prop := ∃ (s : Gs) (f : Fl) (pb : Nat) (v : Value), s.ls = ls ∧ GsK base (lo : Int) (hi : Int) s ∧ w.heap.size ≤ f.blk ∧ e = .returned (.agg #[.int .i64 0, .int .i64 1, v]) ∧ KG base w w' ∧ Bgn (gfS lo hi s) (wat4 zs 12) (wat4 zs 16) a b mr f ∧ GF base w' g (bgS (gfS lo hi s) a mr pb f) ∧ Ow w.heap.size w' v (psB (gfS lo hi s) (zs[1]?.getD 0) (wat zs 4) (zs[8]?.getD 0) (wat4 zs 16) (decide (16384 ≤ wat zs 6 % 32768)) ((zs.take (hl4 zs).toNat).drop 20) ((zs.take (ral false zs).toNat).drop (hl4 zs).toNat) a b mr)
set_option maxRecDepth 100000 in
set_option maxHeartbeats 8000000 in
theorem packet_yes (base g n0 : Nat) (s : Gs) (lo hi : Nat) (nw : Int) (sb : Value) (zs : List Int) (a : Nat) (b : Int) (mr : Ru) (w : World) (h : GI base w g s) (hk : GsK base (lo : Int) (hi : Int) s) (hbs : base ≤ w.heap.size) (hB : Mt.By zs) (hI : Ow n0 w sb zs) (hl : zs.length ≤ 60000)
  (hp : rde false zs = 0) (hpr : zs[9]?.getD 0 = 17) (htt : (2 : Int) ≤ zs[8]?.getD 0) (hR : Rdx lo hi s.ls (wat4 zs 12) (wat4 zs 16) a b mr) (he : ofe 17 (wat4 zs 12) (wat4 zs 16) ((zs.take (ral false zs).toNat).drop (hl4 zs).toNat) = 0) (hea : ofa 17 ((zs.take (ral false zs).toNat).drop (hl4 zs).toNat) = (a : Int)) (heb : ofb 17 ((zs.take (ral false zs).toNat).drop (hl4 zs).toNat) = b) (hlo : ((zs.take (hl4 zs).toNat).drop 20).length ≤ 40) (hlm : ((zs.take (hl4 zs).toNat).drop 20).length % 4 = 0) (hall : 20 + ((zs.take (hl4 zs).toNat).drop 20).length + ((zs.take (ral false zs).toNat).drop (hl4 zs).toNat).length ≤ 65535)
  (hz : ∀ W, KG base w W → Tb W ∧ Dz W) (hgz : 1 ≤ w.heap.size) :
  Calls Tryz.prog 8 #[.pointer (some ⟨g, 0, none⟩), .int .i64 nw, .int .i64 0, sb] w fun e w' => PkQ base w w' g lo hi s.ls zs a b mr e := by
 obtain ⟨sa, sc, rfl, _, _⟩ := hI.slice
 have l0 := later_allocG w (.cells (oc 0).toArray 40)
 have C0 := hide (heap_alloc_new w (.cells (oc 0).toArray 40))
 have h1 := h.later l0
 have HH := hide (fun (W : World) (s2 : Gs) (k : KG base w W) (e : s2.ls = s.ls) (hk2 : GsK base (lo : Int) (hi : Int) s2) (hg : GI base W g s2) => handle_yes base g (gfS lo hi s2) (.slice sa zs.length sc) zs a b mr W (hg.toF hk2) hB ((hI.kg k).rd) hl hp hpr htt (Rdx.rdy (by rw [e]; exact hR) hk2) he hea heb hlo hlm hall (Nat.le_trans hbs k.size) (fun V k2 => hz V (k.trans k2)) (Nat.le_trans hgz k.size))
 have HG := hide h
 have H1 := hide h1
 have HK := hide hk
 clear h h1 hk hB hI hl hp hpr htt hR he hea heb hlo hlm hall hz hgz
 go_enter Tryz.func8, Tryz.ntmps8
 go_upto_region 3 with fail
 change Code.wp _ _ _ _ (w.alloc (.cells (oc 0).toArray 40))
 generalize w.alloc (.cells (oc 0).toArray 40) = w1 at *
 generalize hgx : w.heap.size = gx at C0 ⊢
 have hs1 : base ≤ w1.heap.size := Nat.le_trans hbs l0.size
 go_wp2_with fail
 refine (tick_none base g s nw w1 H1.out hs1).mono ?_
 rintro e w2 ⟨rfl, M2, s2, hl2, hg2, h2⟩
 have K2 : KG base w w2 := (KG.of_later l0).trans (TkG.kg M2 H1.out)
 have hk2 := hg2.2 _ _ _ HK.out
 have D0 := hide ((TkG.kg M2 H1.out).cells C0.out (by decide))
 have HHN := hide (HH.out w2 s2 K2 hl2 hk2 h2)
 have HK2 := hide hk2
 have hgw : gx < w2.heap.size := (bl9 D0.out)
 clear M2 C0 H1 hs1 HH h2 hk2
 go_wp2_with fail
 refine HHN.out.mono ?_
 rintro e w3 ⟨f, pb, v, hfb, rfl, k3, hbn, hG3, hO3⟩
 have E0 := hide (k3.cells D0.out (by decide))
 have G3 := hide hG3
 have O3 := hide (hO3.mono K2.size)
 have K3 : Hid (KG base w w3) := K2.trans k3
 have hfb2 : w.heap.size ≤ f.blk := Nat.le_trans K2.size hfb
 obtain ⟨va, vc, eqv, _, _⟩ := hO3.slice
 obtain ⟨ln, rfl⟩ : ∃ ln, v = .slice va ln vc := ⟨_, eqv⟩
 clear eqv
 have k0 := block_cell E0.out
 have f0 := block_frozen E0.out
 clear HHN hG3 hO3 D0 k3
 go_wp2_with fail
 generalize hV : (((w3.setCell ⟨gx, 0, none⟩ _).setCell ⟨gx, 1, none⟩ _).setCell ⟨gx, 2, none⟩ _) = V8
 have hV9 : V8 = putRow w3 gx 0 [.int .i64 0, .int .i64 1, .slice va ln vc] := hV.symm
 have hb8 : But (fun b => b = gx) w3 V8 := by rw [hV9]; exact putRow_but (E := fun b => b = gx) (n := gx) rfl _ _ _ _ (But.refl _ _)
 have p8 := putRow_all [.int .i64 0, .int .i64 1, .slice va ln vc] E0.out rfl
 rw [← hV9] at p8
 clear hV hV9 k0 f0
 have P8 := block_cell p8
 have h8 := G3.out.other (TE.one E0.out) hb8 (by decide)
 have o8 := O3.out.aside E0.out (by decide) hb8
 have k8 := K3.out.own hb8 (by omega)
 exact bodyPost_ret (v := .agg #[.int .i64 0, .int .i64 1, .slice va ln vc]) (by simp [results, Tryz.results8, go_sem, P8]) rfl ⟨s2, f, pb, .slice va ln vc, hl2, HK2.out, by omega, rfl, k8, hbn, h8, o8⟩
def oppo (side : Int) : Int := if side = 0 then 1 else 0
theorem opp_any (side : Int) (hs : side = 0 ∨ side = 1) (w : World) : Calls Tryz.prog 58 #[.int .i64 side] w fun e w' => e = .returned (.int .i64 (oppo side)) ∧ w' = w := by
 rcases hs with rfl | rfl
 all_goals
  go_enter Tryz.func58, Tryz.ntmps58
  go_wp2_with fail
  go_ret
  exact ⟨rfl, rfl⟩
theorem Bel.ltr {s : Gf} {f : Fl} {bk : Bool} {side src dst a b : Int} (h : Bel s f bk side src dst a b) {n : Int} (v : Value) (hn : 0 ≤ n ∧ n ≤ 549755813888) : Bel (ltr s n v) f bk side src dst a b := ⟨h.hf, h.hu, h.huq, h.kx, h.hx, h.hd, h.ha, h.hb, h.bq, h.sd, h.cm, h.hBo, h.hBr, h.po, h.pr, h.hp, h.tr, hn⟩
section
variable (tos id f ttl proto src dst : Int) (zo zd : List Int) (all s : Int)
end
def UG (src dst a b : Int) (zm z : List Int) : Prop := Mt.By z ∧ z.length = 8 + zm.length ∧ ofe 17 src dst z = 0 ∧ ofa 17 z = a ∧ ofb 17 z = b ∧ z.drop 8 = zm
theorem ug_built (src dst a b : Int) (bare : Bool) (zm : List Int) (hsr : 0 ≤ src ∧ src ≤ 4294967295) (hds : 0 ≤ dst ∧ dst ≤ 4294967295) (ha : 0 ≤ a ∧ a ≤ 65535) (hb : 0 ≤ b ∧ b ≤ 65535) (hB : Mt.By zm) (hl : zm.length ≤ 500) : UG src dst a b zm (udp a b bare src dst zm) := by
 refine ⟨By_udp a b bare src dst zm ha hb hB, udp_length _ _ _ _ _ _, ?_, udp_w0 _ _ _ _ _ _, udp_w2 _ _ _ _ _ _, udp_drop _ _ _ _ _ _⟩
 rw [show ofe 17 src dst (udp a b bare src dst zm) = pue 17 src dst (udp a b bare src dst zm) from rfl, udp_pue _ _ _ _ _ _ 17 rfl src dst (by omega), if_neg]
 rintro ⟨h1, h2⟩
 subst h1
 exact h2 (udp_good a b src dst zm hsr hds (By_udp0 a b zm ha hb hB))
theorem ug_rewritten {src dst a b s d a' b' : Int} {zm z : List Int} (h : UG src dst a b zm z) (hs : 0 ≤ s ∧ s ≤ 4294967295) (hd : 0 ≤ d ∧ d ≤ 4294967295) (ha : 0 ≤ a' ∧ a' ≤ 65535) (hb : 0 ≤ b' ∧ b' ≤ 65535) : UG s d a' b' zm (rwD 17 s d a' b' z) := by
 obtain ⟨hB, hl, he, _, _, hz⟩ := h
 obtain ⟨h1, h2, h3⟩ := rwD_tells (s := s) (d := d) (a := a') (b := b') hB he hs hd ha hb
 refine ⟨rwD_by hB ha hb, by rw [rwD_length]; exact hl, h1, by rw [h2]; rfl, by rw [h3]; rfl, ?_⟩
 rw [← hz, show rwD 17 s d a' b' z = rwU s d a' b' z from rfl]
 exact drop_same fun j hj => rwU_other _ _ _ _ _ _ (by omega) (by omega) (by omega)
def dgB (ttl src dst : Int) (z : List Int) : List Int := hdr 0 0 false ttl 17 src dst [] (20 + ([] : List Int).length + z.length) ++ z
structure DgF (ttl src dst a b : Int) (zs z : List Int) : Prop where
 by_ : Mt.By zs
 len : zs.length ≤ 600
 rd : rde false zs = 0
 i9 : zs[9]?.getD 0 = 17
 i8 : zs[8]?.getD 0 = ttl
 i1 : zs[1]?.getD 0 = 0
 w4 : wat zs 4 = 0
 w6 : decide (16384 ≤ wat zs 6 % 32768) = false
 src : wat4 zs 12 = src
 dst : wat4 zs 16 = dst
 zo : ((zs.take (hl4 zs).toNat).drop 20) = []
 zd : ((zs.take (ral false zs).toNat).drop (hl4 zs).toNat) = z
theorem dg_facts {ttl src dst a b : Int} {zm z : List Int} (h : UG src dst a b zm z) (hl : zm.length ≤ 500) (htt : 0 ≤ ttl ∧ ttl ≤ 255) (hsr : 0 ≤ src ∧ src ≤ 4294967295) (hds : 0 ≤ dst ∧ dst ≤ 4294967295) : DgF ttl src dst a b (dgB ttl src dst z) z := by
 obtain ⟨hB, hz, _⟩ := h
 have hBh := (h20_by 0 0 false ttl 17 src dst ([] : List Int).length (20 + ([] : List Int).length + z.length) 0 (by simp) (by omega) (by omega) htt (by omega) hsr hds (by simp; omega) (by omega)).append Mt.By.nil
 have hBy : Mt.By (dgB ttl src dst z) := by
  unfold dgB
  rw [hdr_eq]
  exact ((h20_by 0 0 false ttl 17 src dst ([] : List Int).length (20 + ([] : List Int).length + z.length) _ (by simp) (by omega) (by omega) htt (by omega) hsr hds (by simp; omega) (Mt.cks_bd _)).append Mt.By.nil).append hB
 have hr := rde_built 0 0 false ttl 17 src dst [] z [] (by simp) (by simp) (by simp; omega) hBh
 rw [List.append_nil] at hr
 have e3 := hl4_hdr 0 0 false ttl 17 src dst [] z (20 + ([] : List Int).length + z.length) (by simp) (by simp)
 have e2 := hdr_wat2 0 0 false ttl 17 src dst [] z (20 + ([] : List Int).length + z.length)
 have hral : ral false (dgB ttl src dst z) = ((20 + ([] : List Int).length + z.length : Nat) : Int) := by
  have q0 : ∀ zs : List Int, ral false zs = wat zs 2 := fun zs => by simp [ral]
  unfold dgB
  rw [q0, e2]
  simp
 refine ⟨hBy, by unfold dgB; rw [List.length_append, hdr_len]; simp; omega, hr, hdr_9 _ _ _ _ _ _ _ _ _ _, hdr_8 _ _ _ _ _ _ _ _ _ _, hdr_1 _ _ _ _ _ _ _ _ _ _, hdr_wat4 _ _ _ _ _ _ _ _ _ _, ?_, hdr_src _ _ _ _ _ _ _ _ _ _, hdr_dst _ _ _ _ _ _ _ _ _ _, ?_, ?_⟩
 ·unfold dgB
  rw [hdr_wat6]
  decide
 ·unfold dgB
  rw [e3, Int.toNat_natCast, hdr_take, hdr_opts]
 ·rw [hral]
  unfold dgB
  rw [e3, Int.toNat_natCast, Int.toNat_natCast]
  have q := hdr_split 0 0 false ttl 17 src dst [] z (20 + ([] : List Int).length + z.length) []
  rw [List.append_nil] at q
  exact q
theorem tt_build (ttl src dst a b : Int) (bare : Bool) (sm : Value) (zm : List Int) (w : World) (htt : 0 ≤ ttl ∧ ttl ≤ 255) (hsr : 0 ≤ src ∧ src ≤ 4294967295) (hds : 0 ≤ dst ∧ dst ≤ 4294967295) (ha : 0 ≤ a ∧ a ≤ 65535) (hb : 0 ≤ b ∧ b ≤ 65535) (hB : Mt.By zm) (hI : Rd w.heap.size w sm zm) (hl : zm.length ≤ 500) :
  Calls Tryz.prog 16 #[.agg #[.int .u8 0, .int .u16 0, .bool false, .int .u8 ttl, .int .u8 0, .int .u32 src, .int .u32 dst, .slice none 0 0, .slice none 0 0], .agg #[.int .u16 a, .int .u16 b, .bool bare, sm]] w fun e w' => Later w w' ∧ ∃ a7 c7 a8 l8 c8 z, e = .returned (.tuple #[.agg #[.int .u8 0, .int .u16 0, .bool false, .int .u8 ttl, .int .u8 17, .int .u32 src, .int .u32 dst, .slice a7 0 c7, .slice a8 l8 c8], .int .i64 0]) ∧ UG src dst a b zm z ∧ Ow w.heap.size w' (.slice a7 0 c7) [] ∧ Ow w.heap.size w' (.slice a8 l8 c8) z := by
 refine (buildUdp_any 0 0 ttl 0 src dst a b false bare _ _ _ [] zm w Mt.By.nil (rd_zero w) hB hI (by simp) (by omega) (by omega) (by omega) htt hsr hds ha hb).mono ?_
 have HZ : flt ([] : List Int).length (8 + zm.length) = 0 := by unfold flt; rw [if_neg (by simp), if_neg (by simp; omega)]
 rintro e w' ⟨hb1, ⟨hx, _⟩ | ⟨_, a7, c7, a8, c8, rfl, hO, hD⟩⟩
 ·exact absurd HZ hx
 ·exact ⟨hb1, _, _, _, _, _, _, rfl, ug_built src dst a b bare zm hsr hds ha hb hB hl, hO, hD⟩
theorem tt_bytes (ttl src dst a b : Int) (so sd : Value) (zm z : List Int) (w : World) (h : UG src dst a b zm z) (hl : zm.length ≤ 500) (hIo : Rd w.heap.size w so []) (hId : Rd w.heap.size w sd z) (htt : 0 ≤ ttl ∧ ttl ≤ 255) (hsr : 0 ≤ src ∧ src ≤ 4294967295) (hds : 0 ≤ dst ∧ dst ≤ 4294967295) :
  Calls Tryz.prog 17 #[.agg #[.int .u8 0, .int .u16 0, .bool false, .int .u8 ttl, .int .u8 17, .int .u32 src, .int .u32 dst, so, sd]] w fun e w' => Later w w' ∧ ∃ v, e = .returned (.tuple #[v, .int .i64 0]) ∧ Ow w.heap.size w' v (dgB ttl src dst z) := by
 have h2 := h.2.1
 refine (build_yes 0 0 ttl 17 src dst false so sd [] z w Mt.By.nil hIo hId (by simp) (by simp) (by simp; omega) (by omega) (by omega) htt (by omega) hsr hds).mono ?_
 rintro e w' ⟨v, rfl, hO, hb⟩
 exact ⟨hb, v, rfl, hO⟩
theorem tt_of (ttl src dst a b : Int) (so sd : Value) (zm z : List Int) (w : World) (hT : Tb w) (h : UG src dst a b zm z) (hl : zm.length ≤ 500) (hId : Rd w.heap.size w sd z) (hsr : 0 ≤ src ∧ src ≤ 4294967295) (hds : 0 ≤ dst ∧ dst ≤ 4294967295) :
  Calls Tryz.prog 21 #[.agg #[.int .u8 0, .int .u16 0, .bool false, .int .u8 ttl, .int .u8 17, .int .u32 src, .int .u32 dst, so, sd]] w fun e w' => Later w w' ∧ e = .returned (.tuple #[.agg #[.int .u8 17, .int .u32 src, .int .u32 dst, .int .u16 a, .int .u16 b], .int .i64 0]) := by
 refine (of_any 0 0 ttl 17 src dst false so sd z w hT h.1 hId (by have := h.2.1; omega) hsr hds).mono ?_
 rintro e w' ⟨hb1, rfl⟩
 rw [h.2.2.1, h.2.2.2.1, h.2.2.2.2.1]
 exact ⟨hb1, by unfold otv; simp⟩
def ptv (s o n : Int) : Int := 65535 - Mt.fd (65535 - s + (65535 - o) + n)
theorem ptv_bd (s o n : Int) : 0 ≤ ptv s o n ∧ ptv s o n ≤ 65535 := by have := Mt.fd_bd (65535 - s + (65535 - o) + n); unfold ptv; omega
def pk (o n : List Int) (c : Int) : Nat → Int
 | 0 => c
 | k + 1 => ptv (pk o n c k) (o.getD k 0) (n.getD k 0)
theorem pk_bd (o n : List Int) (c : Int) (hc : 0 ≤ c ∧ c ≤ 65535) : ∀ k, 0 ≤ pk o n c k ∧ pk o n c k ≤ 65535
 | 0 => hc
 | k + 1 => ptv_bd _ _ _
def wd6 (s d a b : Int) : List Int := [s / 65536, s % 65536, d / 65536, d % 65536, a, b]
def ptch (u : Un) (c : Int) : Int := pk (wd6 u.s1 u.d1 u.a1 u.b1) (wd6 u.s u.d u.a u.b) c 6
theorem ptch_bd (u : Un) (c : Int) : 0 ≤ ptch u c ∧ ptch u c ≤ 65535 := ptv_bd _ _ _
set_option maxHeartbeats 2000000 in
theorem words6_any (tp s d a b : Int) (hs : 0 ≤ s ∧ s ≤ 4294967295) (hd : 0 ≤ d ∧ d ≤ 4294967295) (w : World) :
  Calls Tryz.prog 282 #[.agg #[.int .u8 tp, .int .u32 s, .int .u32 d, .int .u16 a, .int .u16 b]] w fun e w' => e = .returned (.agg #[.int .u16 (s / 65536), .int .u16 (s % 65536), .int .u16 (d / 65536), .int .u16 (d % 65536), .int .u16 a, .int .u16 b]) ∧ Later w w' := by
 have e1 : IntKind.u16.wrap (s / 65536) = s / 65536 := by rw [IntKind.wrap_u16]; omega
 have e2 : IntKind.u16.wrap (d / 65536) = d / 65536 := by rw [IntKind.wrap_u16]; omega
 go_enter Tryz.func282, Tryz.ntmps282
 go_wp2_with fail
 exact bodyPost_ret (v := .agg #[.int .u16 (s / 65536), .int .u16 (s % 65536), .int .u16 (d / 65536), .int .u16 (d % 65536), .int .u16 a, .int .u16 b]) (by simp [results, Tryz.results282, go_sem]; constructor <;> rw [IntKind.wrap_u16]) rfl ⟨rfl, ((Below.refl _ _).alloc (Nat.le_refl _) _).alloc (by simp) _⟩
def UOw (u : Un) : Prop := (0 ≤ u.s1 ∧ u.s1 ≤ 4294967295) ∧ (0 ≤ u.d1 ∧ u.d1 ≤ 4294967295) ∧ (0 ≤ u.a1 ∧ u.a1 ≤ 65535) ∧ (0 ≤ u.b1 ∧ u.b1 ≤ 65535)
theorem later_alloc9 (w : World) (o : Obj) : Later w (w.alloc o) := (Below.refl _ _).alloc (Nat.le_refl _) _
set_option maxHeartbeats 8000000 in
theorem upatched_any (g : Nat) (u : Un) (bv : Value) (c : Int) (w : World) (hU : UB w g u bv) (hc0 : 0 ≤ c ∧ c ≤ 65535) (hu : UOk u) (hw : UOw u) :
  Calls Tryz.prog 274 #[.pointer (some ⟨g, 0, none⟩), .int .u16 c] w fun e w' => e = .returned (.int .u16 (ptch u c)) ∧ Later w w' := by
 obtain ⟨hs, hd, ha, hb⟩ := hu
 obtain ⟨hs1, hd1, ha1, hb1⟩ := hw
 have HP : Hid (ptch u c = pk (wd6 u.s1 u.d1 u.a1 u.b1) (wd6 u.s u.d u.a u.b) c 6) := rfl
 have CU := block_cell hU
 simp only [unc] at CU
 go_enter Tryz.func274, Tryz.ntmps274
 go_wp2_with fail
 refine (words6_any u.pr u.s u.d u.a u.b hs hd w).mono ?_
 rintro e w1 ⟨rfl, l1⟩
 obtain ⟨o, ho⟩ : ∃ o, wd6 u.s1 u.d1 u.a1 u.b1 = o := ⟨_, rfl⟩
 obtain ⟨n, hn⟩ : ∃ n, wd6 u.s u.d u.a u.b = n := ⟨_, rfl⟩
 obtain ⟨n0, e0, hn0⟩ : ∃ z, u.s / 65536 = z ∧ 0 ≤ z ∧ z ≤ 65535 := ⟨_, rfl, by omega, by omega⟩
 obtain ⟨n1, e1, hn1⟩ : ∃ z, u.s % 65536 = z ∧ 0 ≤ z ∧ z ≤ 65535 := ⟨_, rfl, by omega, by omega⟩
 obtain ⟨n2, e2, hn2⟩ : ∃ z, u.d / 65536 = z ∧ 0 ≤ z ∧ z ≤ 65535 := ⟨_, rfl, by omega, by omega⟩
 obtain ⟨n3, e3, hn3⟩ : ∃ z, u.d % 65536 = z ∧ 0 ≤ z ∧ z ≤ 65535 := ⟨_, rfl, by omega, by omega⟩
 have hn4 := ha
 have hn5 := hb
 obtain ⟨o0, f0, ho0⟩ : ∃ z, u.s1 / 65536 = z ∧ 0 ≤ z ∧ z ≤ 65535 := ⟨_, rfl, by omega, by omega⟩
 obtain ⟨o1, f1, ho1⟩ : ∃ z, u.s1 % 65536 = z ∧ 0 ≤ z ∧ z ≤ 65535 := ⟨_, rfl, by omega, by omega⟩
 obtain ⟨o2, f2, ho2⟩ : ∃ z, u.d1 / 65536 = z ∧ 0 ≤ z ∧ z ≤ 65535 := ⟨_, rfl, by omega, by omega⟩
 obtain ⟨o3, f3, ho3⟩ : ∃ z, u.d1 % 65536 = z ∧ 0 ≤ z ∧ z ≤ 65535 := ⟨_, rfl, by omega, by omega⟩
 have ho4 := ha1
 have ho5 := hb1
 have hoL : o = [o0, o1, o2, o3, u.a1, u.b1] := by rw [← ho, ← f0, ← f1, ← f2, ← f3]; rfl
 have hnL : n = [n0, n1, n2, n3, u.a, u.b] := by rw [← hn, ← e0, ← e1, ← e2, ← e3]; rfl
 have HW1 := hide (fun v => words6_any u.p1 u.s1 u.d1 u.a1 u.b1 hs1 hd1 v)
 rw [f0, f1, f2, f3] at HW1
 rw [ho, hn] at HP
 rw [e0, e1, e2, e3]
 have l2 := later_alloc9 w1 (.cells #[.int .u16 n0, .int .u16 n1, .int .u16 n2, .int .u16 n3, .int .u16 u.a, .int .u16 u.b] 386)
 have rI := heap_alloc_new w1 (.cells #[.int .u16 n0, .int .u16 n1, .int .u16 n2, .int .u16 n3, .int .u16 u.a, .int .u16 u.b] 386)
 have RI := hide rI
 have hU1 := hU.later (l1.trans l2)
 clear CU ho hn e0 e1 e2 e3 f0 f1 f2 f3 rI
 go_upto_region 2 with fail
 generalize w1.alloc _ = w2 at *
 have C2 := block_cell hU1
 simp only [unc] at C2
 go_wp2_with fail
 refine (HW1.out w2).mono ?_
 rintro e w3 ⟨rfl, l3⟩
 have RI3 := hide ((l3.block w1.heap.size (bl9 RI.out)).trans RI.out)
 have L3 : Later w w3 := l1.trans (l2.trans l3)
 have HOL := hide hoL
 have HNL := hide hnL
 clear C2 hU1 hU RI HW1 hoL hnL
 generalize w1.heap.size = ib at *
 go_wp2_with fail
 go_loopw [1, 18] (fun cv iv wr => ∃ k : Nat, k ≤ 6 ∧ iv = .int .i64 (k : Int) ∧ cv = .int .u16 (pk o n c k) ∧ Later w wr ∧ wr.heap[ib]? = some (.cells #[.int .u16 n0, .int .u16 n1, .int .u16 n2, .int .u16 n3, .int .u16 u.a, .int .u16 u.b] 386 (0, 0))) (fun _ iv _ => 6 - (intOf iv).toNat)
 case atStart => exact ⟨0, by omega, rfl, rfl, L3, RI3.out⟩
 case round =>
  obtain ⟨k, hk6, rfl, rfl, lr, hbr⟩ := hrel
  have kb := block_cell hbr
  have hoL := HOL.out
  have hnL := HNL.out
  subst hoL hnL
  have hcase : k = 6 ∨ k = 0 ∨ k = 1 ∨ k = 2 ∨ k = 3 ∨ k = 4 ∨ k = 5 := by omega
  rcases hcase with rfl | rfl | rfl | rfl | rfl | rfl | rfl
  ·go_wp2_with fail
   go_ret
   exact ⟨by rw [HP.out]; rfl, lr⟩
  ·-- 0
   have hix : ∀ W : World, (Instr.index 386 (.agg #[.int .u16 o0, .int .u16 o1, .int .u16 o2, .int .u16 o3, .int .u16 u.a1, .int .u16 u.b1]) (.int .i64 0)).run Tryz.prog W = .ok (.int .u16 o0) W := fun W => by kernel_rfl
   have hc := pk_bd [o0, o1, o2, o3, u.a1, u.b1] [n0, n1, n2, n3, u.a, u.b] c hc0 0
   have HN : Hid (pk [o0, o1, o2, o3, u.a1, u.b1] [n0, n1, n2, n3, u.a, u.b] c 1 = ptv (pk [o0, o1, o2, o3, u.a1, u.b1] [n0, n1, n2, n3, u.a, u.b] c 0) ([o0, o1, o2, o3, u.a1, u.b1].getD 0 0) ([n0, n1, n2, n3, u.a, u.b].getD 0 0)) := rfl
   generalize pk [o0, o1, o2, o3, u.a1, u.b1] [n0, n1, n2, n3, u.a, u.b] c 0 = ck at *
   go_wp2_with fail
   refine (patch_any ck o0 n0 wr hc ho0 hn0).mono ?_
   rintro e w5 ⟨rfl, rfl⟩
   go_wp2_with fail
   go_roundw
   case rel => exact ⟨1, by omega, by go_num, by rw [HN.out]; rfl, lr, hbr⟩
   case measure => simp [intOf]
  ·-- 1
   have hix : ∀ W : World, (Instr.index 386 (.agg #[.int .u16 o0, .int .u16 o1, .int .u16 o2, .int .u16 o3, .int .u16 u.a1, .int .u16 u.b1]) (.int .i64 1)).run Tryz.prog W = .ok (.int .u16 o1) W := fun W => by kernel_rfl
   have hc := pk_bd [o0, o1, o2, o3, u.a1, u.b1] [n0, n1, n2, n3, u.a, u.b] c hc0 1
   have HN : Hid (pk [o0, o1, o2, o3, u.a1, u.b1] [n0, n1, n2, n3, u.a, u.b] c 2 = ptv (pk [o0, o1, o2, o3, u.a1, u.b1] [n0, n1, n2, n3, u.a, u.b] c 1) ([o0, o1, o2, o3, u.a1, u.b1].getD 1 0) ([n0, n1, n2, n3, u.a, u.b].getD 1 0)) := rfl
   generalize pk [o0, o1, o2, o3, u.a1, u.b1] [n0, n1, n2, n3, u.a, u.b] c 1 = ck at *
   go_wp2_with fail
   refine (patch_any ck o1 n1 wr hc ho1 hn1).mono ?_
   rintro e w5 ⟨rfl, rfl⟩
   go_wp2_with fail
   go_roundw
   case rel => exact ⟨2, by omega, by go_num, by rw [HN.out]; rfl, lr, hbr⟩
   case measure => simp [intOf]
  ·-- 2
   have hix : ∀ W : World, (Instr.index 386 (.agg #[.int .u16 o0, .int .u16 o1, .int .u16 o2, .int .u16 o3, .int .u16 u.a1, .int .u16 u.b1]) (.int .i64 2)).run Tryz.prog W = .ok (.int .u16 o2) W := fun W => by kernel_rfl
   have hc := pk_bd [o0, o1, o2, o3, u.a1, u.b1] [n0, n1, n2, n3, u.a, u.b] c hc0 2
   have HN : Hid (pk [o0, o1, o2, o3, u.a1, u.b1] [n0, n1, n2, n3, u.a, u.b] c 3 = ptv (pk [o0, o1, o2, o3, u.a1, u.b1] [n0, n1, n2, n3, u.a, u.b] c 2) ([o0, o1, o2, o3, u.a1, u.b1].getD 2 0) ([n0, n1, n2, n3, u.a, u.b].getD 2 0)) := rfl
   generalize pk [o0, o1, o2, o3, u.a1, u.b1] [n0, n1, n2, n3, u.a, u.b] c 2 = ck at *
   go_wp2_with fail
   refine (patch_any ck o2 n2 wr hc ho2 hn2).mono ?_
   rintro e w5 ⟨rfl, rfl⟩
   go_wp2_with fail
   go_roundw
   case rel => exact ⟨3, by omega, by go_num, by rw [HN.out]; rfl, lr, hbr⟩
   case measure => simp [intOf]
  ·-- 3
   have hix : ∀ W : World, (Instr.index 386 (.agg #[.int .u16 o0, .int .u16 o1, .int .u16 o2, .int .u16 o3, .int .u16 u.a1, .int .u16 u.b1]) (.int .i64 3)).run Tryz.prog W = .ok (.int .u16 o3) W := fun W => by kernel_rfl
   have hc := pk_bd [o0, o1, o2, o3, u.a1, u.b1] [n0, n1, n2, n3, u.a, u.b] c hc0 3
   have HN : Hid (pk [o0, o1, o2, o3, u.a1, u.b1] [n0, n1, n2, n3, u.a, u.b] c 4 = ptv (pk [o0, o1, o2, o3, u.a1, u.b1] [n0, n1, n2, n3, u.a, u.b] c 3) ([o0, o1, o2, o3, u.a1, u.b1].getD 3 0) ([n0, n1, n2, n3, u.a, u.b].getD 3 0)) := rfl
   generalize pk [o0, o1, o2, o3, u.a1, u.b1] [n0, n1, n2, n3, u.a, u.b] c 3 = ck at *
   go_wp2_with fail
   refine (patch_any ck o3 n3 wr hc ho3 hn3).mono ?_
   rintro e w5 ⟨rfl, rfl⟩
   go_wp2_with fail
   go_roundw
   case rel => exact ⟨4, by omega, by go_num, by rw [HN.out]; rfl, lr, hbr⟩
   case measure => simp [intOf]
  ·-- 4
   have hix : ∀ W : World, (Instr.index 386 (.agg #[.int .u16 o0, .int .u16 o1, .int .u16 o2, .int .u16 o3, .int .u16 u.a1, .int .u16 u.b1]) (.int .i64 4)).run Tryz.prog W = .ok (.int .u16 u.a1) W := fun W => by kernel_rfl
   have hc := pk_bd [o0, o1, o2, o3, u.a1, u.b1] [n0, n1, n2, n3, u.a, u.b] c hc0 4
   have HN : Hid (pk [o0, o1, o2, o3, u.a1, u.b1] [n0, n1, n2, n3, u.a, u.b] c 5 = ptv (pk [o0, o1, o2, o3, u.a1, u.b1] [n0, n1, n2, n3, u.a, u.b] c 4) ([o0, o1, o2, o3, u.a1, u.b1].getD 4 0) ([n0, n1, n2, n3, u.a, u.b].getD 4 0)) := rfl
   generalize pk [o0, o1, o2, o3, u.a1, u.b1] [n0, n1, n2, n3, u.a, u.b] c 4 = ck at *
   go_wp2_with fail
   refine (patch_any ck u.a1 u.a wr hc ho4 hn4).mono ?_
   rintro e w5 ⟨rfl, rfl⟩
   go_wp2_with fail
   go_roundw
   case rel => exact ⟨5, by omega, by go_num, by rw [HN.out]; rfl, lr, hbr⟩
   case measure => simp [intOf]
  ·-- 5
   have hix : ∀ W : World, (Instr.index 386 (.agg #[.int .u16 o0, .int .u16 o1, .int .u16 o2, .int .u16 o3, .int .u16 u.a1, .int .u16 u.b1]) (.int .i64 5)).run Tryz.prog W = .ok (.int .u16 u.b1) W := fun W => by kernel_rfl
   have hc := pk_bd [o0, o1, o2, o3, u.a1, u.b1] [n0, n1, n2, n3, u.a, u.b] c hc0 5
   have HN : Hid (pk [o0, o1, o2, o3, u.a1, u.b1] [n0, n1, n2, n3, u.a, u.b] c 6 = ptv (pk [o0, o1, o2, o3, u.a1, u.b1] [n0, n1, n2, n3, u.a, u.b] c 5) ([o0, o1, o2, o3, u.a1, u.b1].getD 5 0) ([n0, n1, n2, n3, u.a, u.b].getD 5 0)) := rfl
   generalize pk [o0, o1, o2, o3, u.a1, u.b1] [n0, n1, n2, n3, u.a, u.b] c 5 = ck at *
   go_wp2_with fail
   refine (patch_any ck u.b1 u.b wr hc ho5 hn5).mono ?_
   rintro e w5 ⟨rfl, rfl⟩
   go_wp2_with fail
   go_roundw
   case rel => exact ⟨6, by omega, by go_num, by rw [HN.out]; rfl, lr, hbr⟩
   case measure => simp [intOf]
def qsT (u : Un) (zs : List Int) : List Int := putAt2 (prt u.a u.b zs) 16 (ptch u (getAt2 (prt u.a u.b zs) 16))
def qsU (u : Un) (zs : List Int) : List Int := if getAt2 (prt u.a u.b zs) 6 = 0 then prt u.a u.b zs else putAt2 (prt u.a u.b zs) 6 (nbr (ptch u (getAt2 (prt u.a u.b zs) 6)))
def qsI (u : Un) (zs : List Int) : List Int := putAt2 (Mt.put2 zs 4 u.a) 2 (ptv (getAt2 (Mt.put2 zs 4 u.a) 2) u.a1 u.a)
def qsD (pr : Int) (u : Un) (zs : List Int) : List Int := if pr = 6 then qsT u zs else if pr = 17 then qsU u zs else if pr = 1 then qsI u zs else rwG u.b zs
set_option maxHeartbeats 2000000 in
theorem uqsegment_any (base : Nat) (g : Nat) (u : Un) (zs : List Int) (w : World) (hB : Mt.By zs) (h : UR w g u zs) (hb : base ≤ w.heap.size) (hl : zs.length ≤ 140737488355328) (h8 : 8 ≤ zs.length) (hu : UOk u) (hw : UOw u) :
  Calls Tryz.prog 255 #[.pointer (some ⟨g, 0, none⟩)] w fun e w' => UQ base w g u (qsT u zs) e w' := by
 have H1 := hide (uports_any base g u zs w h hb hl (by omega) hu.2.2.1 hu.2.2.2)
 have hB1 := prt_by hB hu.2.2.1 hu.2.2.2
 have hL1 : (prt u.a u.b zs).length ≤ 140737488355328 := by rw [prt_length]; exact hl
 have HR : Hid (qsT u zs = putAt2 (prt u.a u.b zs) 16 (ptch u (getAt2 (prt u.a u.b zs) 16))) := rfl
 generalize prt u.a u.b zs = z1 at *
 go_enter Tryz.func255, Tryz.ntmps255
 go_wp2_with fail
 refine H1.out.mono ?_
 rintro e w1 ⟨rfl, S1, b1⟩
 go_wp2_with fail
 refine (uget_any (n := 0) g u z1 hB1 16 w1 S1.ur).mono ?_
 rintro e w2 ⟨rfl, q2, hq2⟩
 have l2 : Later w1 w2 := by rw [hq2]; exact below_draw (Below.refl _ _) q2
 have hg2 : 0 ≤ getAt2 z1 16 ∧ getAt2 z1 16 ≤ 65535 := by unfold getAt2; split; exact wat_bd hB1 _; omega
 generalize getAt2 z1 16 = c2 at *
 clear hq2
 obtain ⟨bv2, hU2, _⟩ := S1.later l2
 go_wp2_with fail
 refine (upatched_any g u bv2 c2 w2 hU2 hg2 hu hw).mono ?_
 rintro e w3 ⟨rfl, l3⟩
 have hpb := ptch_bd u c2
 generalize ptch u c2 = c3 at *
 go_wp2_with fail
 refine (uput_any base g u z1 16 c3 w3 ((S1.later l2).later l3).ur (Nat.le_trans hb (Nat.le_trans b1.size (l2.trans l3).size)) hL1 hpb).mono ?_
 rw [← HR.out]
 rintro e w4 ⟨rfl, S4, b4⟩
 go_wp2_with fail
 go_end0
 exact ⟨rfl, S4, b1.trans ((But.of (l2.trans l3)).trans b4)⟩
set_option maxHeartbeats 2000000 in
theorem uqdatagram_any (base : Nat) (g : Nat) (u : Un) (zs : List Int) (w : World) (hB : Mt.By zs) (h : UR w g u zs) (hb : base ≤ w.heap.size) (hl : zs.length ≤ 140737488355328) (h8 : 8 ≤ zs.length) (hu : UOk u) (hw : UOw u) :
  Calls Tryz.prog 256 #[.pointer (some ⟨g, 0, none⟩)] w fun e w' => UQ base w g u (qsU u zs) e w' := by
 have H1 := hide (uports_any base g u zs w h hb hl (by omega) hu.2.2.1 hu.2.2.2)
 have hB1 := prt_by hB hu.2.2.1 hu.2.2.2
 have hL1 : (prt u.a u.b zs).length ≤ 140737488355328 := by rw [prt_length]; exact hl
 have HR : Hid (qsU u zs = if getAt2 (prt u.a u.b zs) 6 = 0 then prt u.a u.b zs else putAt2 (prt u.a u.b zs) 6 (nbr (ptch u (getAt2 (prt u.a u.b zs) 6)))) := rfl
 generalize qsU u zs = zr at *
 generalize prt u.a u.b zs = z1 at *
 go_enter Tryz.func256, Tryz.ntmps256
 go_wp2_with fail
 refine H1.out.mono ?_
 rintro e w1 ⟨rfl, S1, b1⟩
 have hg2 : 0 ≤ getAt2 z1 6 ∧ getAt2 z1 6 ≤ 65535 := by unfold getAt2; split; exact wat_bd hB1 _; omega
 have HBR := hide (ubare_any g u z1 hB1 w1 S1.ur)
 have HGT := hide (fun v (h : UR v g u z1) => uget_any (n := 0) g u z1 hB1 6 v h)
 generalize getAt2 z1 6 = c2 at *
 go_wp2_with fail
 refine HBR.out.mono ?_
 rintro e w2 ⟨rfl, l2⟩
 have S2 := S1.later l2
 by_cases c0 : c2 = 0
 ·have t0 : (c2 == 0) = true := by simp [c0]
  have HZ : Hid (zr = z1) := by show _ = _; rw [HR.out, if_pos c0]
  clear c0
  go_wp2_with fail
  go_end0
  exact ⟨rfl, by rw [HZ.out]; exact S2, b1.trans (But.of l2)⟩
 have t0 : (c2 == 0) = false := by simp [c0]
 have HZ : Hid (zr = putAt2 z1 6 (nbr (ptch u c2))) := by show _ = _; rw [HR.out, if_neg c0]
 clear c0
 go_wp2_with fail
 refine (HGT.out w2 S2.ur).mono ?_
 rintro e w3 ⟨rfl, q3, hq3⟩
 have l3 : Later w2 w3 := by rw [hq3]; exact below_draw (Below.refl _ _) q3
 clear hq3
 obtain ⟨bv2, hU2, _⟩ := S2.later l3
 go_wp2_with fail
 refine (upatched_any g u bv2 c2 w3 hU2 hg2 hu hw).mono ?_
 rintro e w4 ⟨rfl, l4⟩
 have hpb := nbr_bd (ptch_bd u c2)
 generalize ptch u c2 = c3 at *
 go_wp2_with fail
 refine (notBare_any c3 w4).mono ?_
 rintro e w5 ⟨rfl, rfl⟩
 go_wp2_with fail
 refine (uput_any base g u z1 6 _ w5 ((S2.later l3).later l4).ur (Nat.le_trans hb (Nat.le_trans b1.size (l2.trans (l3.trans l4)).size)) hL1 (by omega)).mono ?_
 rw [← HZ.out]
 rintro e w6 ⟨rfl, S6, b6⟩
 go_wp2_with fail
 go_end0
 exact ⟨rfl, S6, b1.trans ((But.of (l2.trans (l3.trans l4))).trans b6)⟩
end Go.Proofs.YtofknbfbmaefoaaGreatDoor
