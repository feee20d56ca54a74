import Derived.Test.YtofknbfbmaefoaaGreatDoorX6
import Derived.Test.YtofknbfbmaefoaaGreatDoorX11
namespace Go.Proofs.YtofknbfbmaefoaaGreatDoor
set_option maxHeartbeats 8000000
open Go.RowKit Go.Shelf
set_option maxRecDepth 100000
set_option linter.unusedVariables false
set_option linter.unusedSimpArgs false
def Rf (n : Nat) (A B : World) : Prop := But (fun b => b = n) A B ∧ ∀ j, j ≠ 12 → j ≠ 13 → B.cell? ⟨n, j, none⟩ = A.cell? ⟨n, j, none⟩
theorem Rf.pre (n : Nat) : Pre (Rf n) := ⟨fun A => ⟨But.refl _ _, fun _ _ _ => rfl⟩, fun A B C h k => ⟨h.1.trans k.1, fun j h1 h2 => (k.2 j h1 h2).trans (h.2 j h1 h2)⟩⟩
def Fl.at (f : Fl) (st till : Int) : Fl := { f with st := st, till := till }
def withF (s : Gf) (f : Fl) : Gf := { s with fs := s.fs.map (fun x => if x.blk = f.blk then f else x) }
theorem GF.flow {base g : Nat} {W W' : World} {s : Gf} (h : GF base W g s) (f f2 : Fl) (hf : f ∈ s.fs) (hu : ∀ x ∈ s.fs, x.blk = f.blk → x = f) (hb : But (fun x => x = f.blk) W W') (e1 : f2.blk = f.blk) (e2 : f2.id = f.id) (h2 : W'.heap[f.blk]? = some (.cells (flc f2).toArray 93 (0, 0))) : GF base W' g (withF s f2) := by
 have hF := h.fb f hf
 have hE := TE.one hF.2
 obtain ⟨k1, k2, k3, k4, k5, k6⟩ := h.keep hE hb (by decide)
 refine ⟨h.bs, k1, k2, k3, k4, k5, k6, h.ne, h.bf, ?_, h.pm, fun x hx => ?_, fun p hp => ⟨(h.pb p hp).1, (h.pb p hp).2.1, hE.keep hb (h.pb p hp).2.2 (isT_no (by decide) _ _)⟩⟩
 ·show s.fe.toList.map (fun e => (e.key, e.val)) = (s.fs.map _).map flE
  rw [h.fm]
  rw [List.map_map]
  apply List.map_congr_left
  intro x hx
  show flE x = flE (if x.blk = f2.blk then f2 else x)
  split
  ·rename_i e
   have := hu x hx (e.trans e1)
   subst this
   unfold flE
   rw [e1, e2]
  ·rfl
 ·obtain ⟨y, hy, rfl⟩ := List.mem_map.1 hx
  split
  ·rw [e1]
   exact ⟨hF.1, h2⟩
  ·rename_i e
   exact ⟨(h.fb y hy).1, (hb.block y.blk (Array.getElem?_eq_some_iff.1 (h.fb y hy).2).1 (fun e' => e (by have e2 : y.blk = f.blk := e'; rw [e2, e1]))).trans (h.fb y hy).2⟩
theorem mem_withF {s : Gf} {f f2 : Fl} (hf : f ∈ s.fs) (e : f2.blk = f.blk) : f2 ∈ (withF s f2).fs := List.mem_map.2 ⟨f, hf, by rw [if_pos e.symm]⟩
theorem GF.moved {base g : Nat} {W W' : World} {s : Gf} (h : GF base W g s) (hk : KT W W') (hb : KM W W') {trn : Int} {rw : Nat → List Rw} (ht : TB base W' s.gt 128 s.cnt trn rw) : GF base W' g { s with trn := trn, rw := rw } := by
 have ho : ∀ {e : TypeId} {size : Nat} {v : Value} {n : Nat} {xs : List Value}, e ≠ 142 → e ≠ 177 → W.ownsRow base e size v n xs → W'.ownsRow base e size v n xs := fun h1 h2 q => by
  obtain ⟨q1, q2 | ⟨b, cap, cur', e', hb', hh, r⟩⟩ := q
  ·exact ⟨q1, .inl q2⟩
  ·exact ⟨q1, .inr ⟨b, cap, cur', e', hb', hk _ _ _ _ hh h1 h2, r⟩⟩
 exact ⟨h.bs, hk _ _ _ _ h.gc (by decide) (by decide), ⟨h.rl.1, hk _ _ _ _ h.rl.2.1 (by decide) (by decide), ho (by decide) (by decide) h.rl.2.2⟩, ht, ⟨h.bl.1, hk _ _ _ _ h.bl.2.1 (by decide) (by decide), ho (by decide) (by decide) h.bl.2.2⟩, hb.map h.fl, hb.map h.pl, h.ne, h.bf, h.fm, h.pm, fun f hf => ⟨(h.fb f hf).1, hk _ _ _ _ (h.fb f hf).2 (by decide) (by decide)⟩, fun p hp => ⟨(h.pb p hp).1, (h.pb p hp).2.1, hk _ _ _ _ (h.pb p hp).2.2 (by decide) (by decide)⟩⟩
def gK (o : Obj) : Prop := match o with
 | .cells _ t _ => gTs.contains t = true
 | .map _ _ => True
 | _ => False
structure KG (base : Nat) (w w' : World) : Prop where
 os : w'.os = w.os
 tape : w'.tape = w.tape
 output : w'.output = w.output
 size : w.heap.size ≤ w'.heap.size
 block : ∀ (k : Nat) (o : Obj), w.heap[k]? = some o → (k < base ∨ ¬ gK o) → w'.heap[k]? = some o
theorem KG.refl (base : Nat) (w : World) : KG base w w := ⟨rfl, rfl, rfl, Nat.le_refl _, fun _ _ h _ => h⟩
theorem KG.trans {base : Nat} {a b c : World} (h : KG base a b) (k : KG base b c) : KG base a c := ⟨k.os.trans h.os, k.tape.trans h.tape, k.output.trans h.output, Nat.le_trans h.size k.size, fun i o h1 h2 => k.block i o (h.block i o h1 h2) h2⟩
theorem KG.of_later {base : Nat} {a b : World} (h : Later a b) : KG base a b := ⟨h.os, h.tape, h.output, h.size, fun _ _ h1 _ => later_keep h h1⟩
theorem KG.of_but {base : Nat} {E : Nat → Prop} {a b : World} (h : But E a b) (hE : ∀ k, E k → base ≤ k ∧ ∀ o, a.heap[k]? = some o → gK o) : KG base a b := ⟨h.os, h.tape, h.output, h.size, fun k o h1 h2 => (h.block k (bl9 h1) (fun e => by
 obtain ⟨q1, q2⟩ := hE k e
 rcases h2 with h2 | h2
 ·omega
 ·exact h2 (q2 o h1))).trans h1⟩
theorem KG.below {base : Nat} {a b : World} (h : KG base a b) (hb : base ≤ a.heap.size) : Below base a b := ⟨h.os, h.tape, h.output, h.size, fun i hi => by
 have hi' : i < a.heap.size := Nat.lt_of_lt_of_le hi hb
 obtain ⟨o, ho⟩ : ∃ o, a.heap[i]? = some o := ⟨_, Array.getElem?_eq_getElem hi'⟩
 rw [ho]
 exact h.block i o ho (.inl hi)⟩
theorem KG.cells {base : Nat} {a b : World} (h : KG base a b) {k : Nat} {cur : Array Value} {t : TypeId} {f : Nat × Nat} (hk : a.heap[k]? = some (.cells cur t f)) (ht : gTs.contains t = false) : b.heap[k]? = some (.cells cur t f) := h.block k _ hk (.inr (by show ¬ (gTs.contains t = true); rw [ht]; simp))
def KX (w w' : World) : Prop := KT w w'
theorem KX.pre : Pre KX := ⟨fun a k cur t f h _ _ => h, fun a b c h k i cur t f q h1 h2 => k i cur t f (h i cur t f q h1 h2) h1 h2⟩
theorem KX.of {w w' : World} (h : KT w w') : KX w w' := h
def TuB (t : Tu) : Prop := (0 ≤ t.src ∧ t.src ≤ 4294967295) ∧ (0 ≤ t.dst ∧ t.dst ≤ 4294967295) ∧ (0 ≤ t.sp ∧ t.sp ≤ 65535) ∧ (0 ≤ t.dp ∧ t.dp ≤ 65535)
def kxT (t : Tu) (ls : Nat → List Rw) : Option Nat := kx t.pr t.src t.dst t.sp t.dp ls
def bkT (t : Tu) : Nat := bki t.pr t.src t.dst t.sp t.dp
def mvT (t : Tu) (till : Int) (q : Int × (Nat → List Rw)) : Int × (Nat → List Rw) := match (if mayb till = false then none else kxT t q.2) with
 | none => q
 | some k => (q.1 + 1, mvL q.2 (bkT t) k till (q.1 + 1))
theorem mvT_fst (t : Tu) (till : Int) (q : Int × (Nat → List Rw)) : q.1 ≤ (mvT t till q).1 ∧ (mvT t till q).1 ≤ q.1 + 1 := by
 unfold mvT
 split
 ·omega
 ·exact ⟨by show q.1 ≤ q.1 + 1; omega, Int.le_refl _⟩
theorem moveF (base gt : Nat) (cnt trn : Int) (rw : Nat → List Rw) (t : Tu) (till : Int) (w : World) (hT : TB base w gt 128 cnt trn rw) (hB : TuB t) (hbs : base ≤ w.heap.size) (htr : 0 ≤ trn ∧ trn ≤ 1000000) :
  Calls Tryz.prog 196 #[.pointer (some ⟨gt, 0, none⟩), .agg #[.int .u8 t.pr, .int .u32 t.src, .int .u32 t.dst, .int .u16 t.sp, .int .u16 t.dp], .int .i64 till] w fun e w' => ∃ ev : Int, e = .returned (.int .i64 ev) ∧ TB base w' gt 128 cnt (mvT t till (trn, rw)).1 (mvT t till (trn, rw)).2 ∧ KT w w' ∧ KM w w' ∧ KG base w w' := by
 refine (move_any base gt 128 cnt trn rw t.pr t.src t.dst t.sp t.dp till w hT hB.1 hB.2.1 hB.2.2.1 hB.2.2.2 hbs htr).mono ?_
 rintro e w' ⟨he, ⟨h0, h1, h2⟩ | ⟨h0, k, gg, hk, hbg, h1, h2, h3, h4⟩⟩
 ·refine ⟨_, he, ?_, KT.of_later h2, KM.of_later h2, KG.of_later h2⟩
  have e1 : (if mayb till = false then none else kxT t rw) = none := by
   unfold move at h0
   split
   ·rfl
   ·rename_i hm
    rw [if_neg hm] at h0
    by_cases e : kx t.pr t.src t.dst t.sp t.dp rw = none
    ·exact e
    ·rw [if_neg e] at h0; exact absurd rfl h0
  have e2 : mvT t till (trn, rw) = (trn, rw) := by unfold mvT; rw [e1]
  rw [e2]
  exact h1
 ·refine ⟨_, he, ?_, h3, h4, h2.os, h2.tape, h2.output, h2.size, fun i o q1 q2 => ?_⟩
  ·have e1 : (if mayb till = false then none else kxT t rw) = some k := by
    unfold move at h0
    split
    ·rename_i hm
     rw [if_pos hm] at h0; exact absurd h0 (by decide)
    ·exact hk
   have e2 : mvT t till (trn, rw) = (trn + 1, mvL rw (bkT t) k till (trn + 1)) := by unfold mvT; rw [e1]
   rw [e2]
   exact h1
  ·rcases q2 with q2 | q2
   ·obtain ⟨vs, hTv⟩ := hT
    refine (h2.block i (bl9 q1) (fun e => ?_)).trans q1
    have := hTv.2.1
    rcases e with e | e <;> omega
   ·refine h4 i o q1 (fun cur ty fz e => ⟨fun e2 => q2 ?_, fun e2 => q2 ?_⟩)
    ·subst e; subst e2; show gTs.contains _ = true; decide
    ·subst e; subst e2; show gTs.contains _ = true; decide
def bcM (s : Gf) (f : Fl) (tl : Int) : Int × (Nat → List Rw) := mvT f.r tl (mvT f.o tl (s.trn, s.rw))
def bcS (s : Gf) (f : Fl) (st : Int) : Gf := { withF s (f.at st (s.now + tm f.o.pr st)) with trn := (bcM s f (s.now + tm f.o.pr st)).1, rw := (bcM s f (s.now + tm f.o.pr st)).2 }
theorem tm_bd (p s : Int) : 0 ≤ tm p s ∧ tm p s ≤ 432000 := by
 unfold tm tmT tmO
 repeat' split
 all_goals omega
theorem wrap_now {a b : Int} (h1 : 0 ≤ a) (h2 : a ≤ 549755813888) (h3 : 0 ≤ b ∧ b ≤ 432000) : IntKind.i64.wrap (a + b) = a + b := by
 exact wrapi _ (by omega) (by omega)
theorem Rf.set {n : Nat} (w : World) {j : Nat} (v : Value) (hj : j = 12 ∨ j = 13) : Rf n w (w.setCell ⟨n, j, none⟩ v) := ⟨(But.refl (fun b => b = n) w).setCell (p := ⟨n, j, none⟩) (show _ = _ from rfl) v, fun i h1 h2 => by
 exact World.cell?_setCell_other _ _ _ _ (fun e => by injection e with e1 e2 e3; omega)⟩
theorem become_any (base g : Nat) (s : Gf) (f : Fl) (st : Int) (w : World) (h : GF base w g s) (hf : f ∈ s.fs) (hu : ∀ x ∈ s.fs, x.blk = f.blk → x = f) (hbs : base ≤ w.heap.size) (hBo : TuB f.o) (hBr : TuB f.r) (htr : 0 ≤ s.trn ∧ s.trn ≤ 999999) (hnw : 0 ≤ s.now ∧ s.now ≤ 549755813888) :
  Calls Tryz.prog 154 #[.pointer (some ⟨g, 0, none⟩), .pointer (some ⟨f.blk, 0, none⟩), .int .i64 st] w fun e w' => e = .returned (.tuple #[]) ∧ KG base w w' ∧ GF base w' g (bcS s f st) := by
 obtain ⟨tl, htl⟩ : ∃ tl, tl = s.now + tm f.o.pr st := ⟨_, rfl⟩
 have HTL := hide htl
 have hwr : IntKind.i64.wrap (s.now + tm f.o.pr st) = tl := by rw [htl]; exact wrap_now hnw.1 hnw.2 (tm_bd _ _)
 have HWR := hide hwr
 have hFB := h.fb f hf
 have HF := hide hFB
 have HG := hide h
 have hgf : g ≠ f.blk := fun e => by
  have h1 := h.gc
  rw [e, hFB.2] at h1
  injection h1 with h2
  injection h2 with h3 h4 h5
  exact absurd h4 (by decide)
 have HGF := hide hgf
 have hSf := fun W' (hb : But (fun x => x = f.blk) w W') (h2 : W'.heap[f.blk]? = some (.cells (flc (f.at st tl)).toArray 93 (0, 0))) => h.flow f (f.at st tl) hf hu hb rfl rfl h2
 have HSF := hide hSf
 clear h hFB hgf htl hwr hSf hnw
 go_enter Tryz.func154, Tryz.ntmps154
 go_upto_region 0 with fail
 refine anyT_begin (R := Rf f.blk) 24 rfl (by kernel_rfl) ?_
 have ld : Later w w.drew := Later.drew w
 generalize hwd : w.drew = wd at *
 clear hwd
 have k1 : ∀ v, Rf f.blk wd v → ∀ j, v.cell? ⟨g, j, none⟩ = (gfc s).toArray[j]? := fun v hv => block_cell ((hv.1.block g (Array.getElem?_eq_some_iff.1 (later_keep ld HG.out.gc)).1 (fun e => HGF.out e)).trans (later_keep ld HG.out.gc))
 have k2 : ∀ v, Rf f.blk wd v → v.cell? ⟨f.blk, 1, none⟩ = some (.int .u8 f.o.pr) := fun v hv => (hv.2 1 (by decide) (by decide)).trans (block_cell (later_keep ld HF.out.2) 1)
 unfold gfc at k1
 refine tV (Rf.pre f.blk) 0 rfl rfl ⟨_, fun v h => by (go_simp; rfl), ?_⟩; simp only [Act.put, sA, sB, sC]
 refine tV (Rf.pre f.blk) 1 rfl rfl ⟨_, fun v h => by (go_simp; rfl), ?_⟩; simp only [Act.put, sA, sB, sC]
 refine tV (Rf.pre f.blk) 2 rfl rfl ⟨_, fun v h => by (go_simp; rfl), ?_⟩; simp only [Act.put, sA, sB, sC]
 refine tV (Rf.pre f.blk) 3 rfl rfl ⟨_, fun v h => by (go_simp; rfl), ?_⟩; simp only [Act.put, sA, sB, sC]
 refine tV (Rf.pre f.blk) 4 rfl rfl ⟨_, fun v h => by (go_simp; rfl), ?_⟩; simp only [Act.put, sA, sB, sC]
 refine tV (Rf.pre f.blk) 5 rfl rfl ⟨_, fun v h => by (go_simp; rfl), ?_⟩; simp only [Act.put, sA, sB, sC]
 refine tV (Rf.pre f.blk) 6 rfl rfl ⟨_, fun v h => by (go_simp; rfl), ?_⟩; simp only [Act.put, sA, sB, sC]
 refine tV (Rf.pre f.blk) 7 rfl rfl ⟨_, fun v h => by (go_simp; rfl), ?_⟩; simp only [Act.put, sA, sB, sC]
 refine tV (Rf.pre f.blk) 8 rfl rfl ⟨_, fun v h => by (go_simp; rfl), ?_⟩; simp only [Act.put, sA, sB, sC]
 refine tV (Rf.pre f.blk) 9 rfl rfl ⟨_, fun v h => by (go_simp; rfl), ?_⟩; simp only [Act.put, sA, sB, sC]
 refine tV (Rf.pre f.blk) 10 rfl rfl ⟨_, fun v h => by (go_simp; rfl), ?_⟩; simp only [Act.put, sA, sB, sC]
 refine tV (Rf.pre f.blk) 11 rfl rfl ⟨_, fun v h => by (go_simp; rfl), ?_⟩; simp only [Act.put, sA, sB, sC]
 refine tV (Rf.pre f.blk) 12 rfl rfl ⟨_, fun v h => by (go_simp; rfl), ?_⟩; simp only [Act.put, sA, sB, sC]
 refine tV (Rf.pre f.blk) 13 rfl rfl ⟨_, fun v h => by (go_simp; rfl), ?_⟩; simp only [Act.put, sA, sB, sC]
 refine anyT_one 14 rfl (by kernel_rfl) rfl ?_
 refine wp_enter 195 #[.int .u8 f.o.pr, .int .i64 st] (by go_simp) ?_
 refine (time_any f.o.pr st wd).mono ?_
 rintro e w1 ⟨rfl, rfl⟩
 refine ⟨(Rf.pre f.blk).1 _, ?_⟩
 simp only [Act.put, sA, sB, sC]
 refine tV (Rf.pre f.blk) 15 rfl rfl ⟨.int .i64 tl, fun v1 hv1 => by (have hq := HWR.out; go_simp), ?_⟩
 simp only [Act.put, sA, sB, sC]
 refine tV (Rf.pre f.blk) 16 rfl rfl ⟨_, fun v h => by (go_simp; rfl), ?_⟩; simp only [Act.put, sA, sB, sC]
 refine tV (Rf.pre f.blk) 17 rfl rfl ⟨_, fun v h => by (go_simp; rfl), ?_⟩; simp only [Act.put, sA, sB, sC]
 refine tV (Rf.pre f.blk) 18 rfl rfl ⟨_, fun v h => by (go_simp; rfl), ?_⟩; simp only [Act.put, sA, sB, sC]
 clear k1 k2
 have kc := block_cell (later_keep ld HF.out.2)
 have fz := block_frozen (later_keep ld HF.out.2)
 unfold flc at kc
 refine anyT_one 19 rfl (by kernel_rfl) rfl ?_
 unfold Oper.wp
 go_simp
 refine ⟨Rf.set _ _ (.inl rfl), ?_⟩
 have c1 := heap_set1 (later_keep ld HF.out.2) 12 (.int .i64 st)
 have kc2 := block_cell c1
 have fz2 := block_frozen c1
 clear kc fz
 refine tV (Rf.pre f.blk) 20 rfl rfl ⟨_, fun v h => by (go_simp; rfl), ?_⟩; simp only [Act.put, sA, sB, sC]
 refine tV (Rf.pre f.blk) 21 rfl rfl ⟨_, fun v h => by (go_simp; rfl), ?_⟩; simp only [Act.put, sA, sB, sC]
 refine tV (Rf.pre f.blk) 22 rfl rfl ⟨_, fun v h => by (go_simp; rfl), ?_⟩; simp only [Act.put, sA, sB, sC]
 refine anyT_one 23 rfl (by kernel_rfl) rfl ?_
 unfold Oper.wp
 go_simp
 refine ⟨Rf.set _ _ (.inr rfl), ?_⟩
 refine anyT_done (by kernel_rfl) ?_
 have c2 := heap_set1 c1 13 (.int .i64 tl)
 have hbb : But (fun x => x = f.blk) w ((w1.setCell ⟨f.blk, 12, none⟩ (.int .i64 st)).setCell ⟨f.blk, 13, none⟩ (.int .i64 tl)) := ((But.of (E := fun x => x = f.blk) ld).setCell (p := ⟨f.blk, 12, none⟩) (show _ = _ from rfl) (.int .i64 st)).setCell (p := ⟨f.blk, 13, none⟩) (show _ = _ from rfl) (.int .i64 tl)
 clear kc2 fz2 c1
 generalize (w1.setCell ⟨f.blk, 12, none⟩ (.int .i64 st)).setCell ⟨f.blk, 13, none⟩ (.int .i64 tl) = w2 at *
 have H1 := hide (HSF.out w2 hbb c2)
 have M1 : Hid (KG base w w2) := KG.of_but hbb (fun k e => by
  have e' : k = f.blk := e
  refine ⟨by rw [e']; exact HF.out.1, fun o ho => ?_⟩
  rw [e', HF.out.2] at ho
  cases ho
  show gTs.contains _ = true
  decide)
 clear HSF HGF HG HF hbb c2 ld hu HWR
 go_upto_region 1 with fail
 refine anyT_begin (R := KX) 15 rfl (by kernel_rfl) ?_
 have ld : Later w2 w2.drew := Later.drew w2
 generalize w2.drew = w2d at *
 have HD1 := hide (H1.out.later ld)
 have MD1 := hide (M1.out.trans (KG.of_later ld))
 clear H1 M1 ld
 have hbd : base ≤ w2d.heap.size := Nat.le_trans hbs MD1.out.size
 have k1 : ∀ v, KX w2d v → ∀ j, v.cell? ⟨g, j, none⟩ = (gfc s).toArray[j]? := fun v hv => block_cell (hv g _ _ _ HD1.out.gc (by decide) (by decide))
 have k2 : ∀ v, KX w2d v → ∀ j, v.cell? ⟨f.blk, j, none⟩ = (flc (f.at st tl)).toArray[j]? := fun v hv => block_cell (hv f.blk _ _ _ (HD1.out.fb (f.at st tl) (mem_withF hf rfl)).2 (by decide) (by decide))
 unfold gfc at k1
 unfold flc Fl.at at k2
 refine tV KX.pre 0 rfl rfl ⟨_, fun v h => by (go_simp; rfl), ?_⟩; simp only [Act.put, sA, sB, sC]
 refine tV KX.pre 1 rfl rfl ⟨_, fun v h => by (go_simp; rfl), ?_⟩; simp only [Act.put, sA, sB, sC]
 refine tV KX.pre 2 rfl rfl ⟨_, fun v h => by (go_simp; rfl), ?_⟩; simp only [Act.put, sA, sB, sC]
 refine tV KX.pre 3 rfl rfl ⟨_, fun v h => by (go_simp; rfl), ?_⟩; simp only [Act.put, sA, sB, sC]
 refine tV KX.pre 4 rfl rfl ⟨_, fun v h => by (go_simp; rfl), ?_⟩; simp only [Act.put, sA, sB, sC]
 refine tV KX.pre 5 rfl rfl ⟨_, fun v h => by (go_simp; rfl), ?_⟩; simp only [Act.put, sA, sB, sC]
 refine tV KX.pre 6 rfl rfl ⟨_, fun v h => by (go_simp; rfl), ?_⟩; simp only [Act.put, sA, sB, sC]
 refine tV KX.pre 7 rfl rfl ⟨_, fun v h => by (go_simp; rfl), ?_⟩; simp only [Act.put, sA, sB, sC]
 refine tV KX.pre 8 rfl rfl ⟨_, fun v h => by (go_simp; rfl), ?_⟩; simp only [Act.put, sA, sB, sC]
 refine tV KX.pre 9 rfl rfl ⟨_, fun v h => by (go_simp; rfl), ?_⟩; simp only [Act.put, sA, sB, sC]
 refine tV KX.pre 10 rfl rfl ⟨_, fun v h => by (go_simp; rfl), ?_⟩; simp only [Act.put, sA, sB, sC]
 refine tV KX.pre 11 rfl rfl ⟨_, fun v h => by (go_simp; rfl), ?_⟩; simp only [Act.put, sA, sB, sC]
 refine tV KX.pre 12 rfl rfl ⟨_, fun v h => by (go_simp; rfl), ?_⟩; simp only [Act.put, sA, sB, sC]
 refine tV KX.pre 13 rfl rfl ⟨_, fun v h => by (go_simp; rfl), ?_⟩; simp only [Act.put, sA, sB, sC]
 clear k1 k2
 refine anyT_one 14 rfl (by kernel_rfl) rfl ?_
 refine wp_enter 196 #[.pointer (some ⟨s.gt, 0, none⟩), .agg #[.int .u8 f.o.pr, .int .u32 f.o.src, .int .u32 f.o.dst, .int .u16 f.o.sp, .int .u16 f.o.dp], .int .i64 tl] (by go_simp) ?_
 refine (moveF base s.gt s.cnt (s.trn, s.rw).1 (s.trn, s.rw).2 f.o tl w2d HD1.out.tb hBo hbd (by exact ⟨htr.1, by show s.trn ≤ 1000000; omega⟩)).mono ?_
 rintro e w3 ⟨ev, rfl, hT, hk, hm, hg⟩
 refine ⟨KX.of hk, ?_⟩
 simp only [Act.put, sA, sB, sC]
 refine anyT_done (by kernel_rfl) ?_
 have H2 := hide (HD1.out.moved hk hm hT)
 have M2 := hide (MD1.out.trans hg)
 clear HD1 MD1 hT hk hm hg hbd
 go_upto_region 2 with fail
 refine anyT_begin (R := KX) 15 rfl (by kernel_rfl) ?_
 have ld : Later w3 w3.drew := Later.drew w3
 generalize w3.drew = w3d at *
 have HD2 := hide (H2.out.later ld)
 have MD2 := hide (M2.out.trans (KG.of_later ld))
 clear H2 M2 ld
 have hbd : base ≤ w3d.heap.size := Nat.le_trans hbs MD2.out.size
 have k1 : ∀ v, KX w3d v → ∀ j, v.cell? ⟨g, j, none⟩ = (gfc s).toArray[j]? := fun v hv => block_cell (hv g _ _ _ HD2.out.gc (by decide) (by decide))
 have k2 : ∀ v, KX w3d v → ∀ j, v.cell? ⟨f.blk, j, none⟩ = (flc (f.at st tl)).toArray[j]? := fun v hv => block_cell (hv f.blk _ _ _ (HD2.out.fb (f.at st tl) (mem_withF hf rfl)).2 (by decide) (by decide))
 unfold gfc at k1
 unfold flc Fl.at at k2
 refine tV KX.pre 0 rfl rfl ⟨_, fun v h => by (go_simp; rfl), ?_⟩; simp only [Act.put, sA, sB, sC]
 refine tV KX.pre 1 rfl rfl ⟨_, fun v h => by (go_simp; rfl), ?_⟩; simp only [Act.put, sA, sB, sC]
 refine tV KX.pre 2 rfl rfl ⟨_, fun v h => by (go_simp; rfl), ?_⟩; simp only [Act.put, sA, sB, sC]
 refine tV KX.pre 3 rfl rfl ⟨_, fun v h => by (go_simp; rfl), ?_⟩; simp only [Act.put, sA, sB, sC]
 refine tV KX.pre 4 rfl rfl ⟨_, fun v h => by (go_simp; rfl), ?_⟩; simp only [Act.put, sA, sB, sC]
 refine tV KX.pre 5 rfl rfl ⟨_, fun v h => by (go_simp; rfl), ?_⟩; simp only [Act.put, sA, sB, sC]
 refine tV KX.pre 6 rfl rfl ⟨_, fun v h => by (go_simp; rfl), ?_⟩; simp only [Act.put, sA, sB, sC]
 refine tV KX.pre 7 rfl rfl ⟨_, fun v h => by (go_simp; rfl), ?_⟩; simp only [Act.put, sA, sB, sC]
 refine tV KX.pre 8 rfl rfl ⟨_, fun v h => by (go_simp; rfl), ?_⟩; simp only [Act.put, sA, sB, sC]
 refine tV KX.pre 9 rfl rfl ⟨_, fun v h => by (go_simp; rfl), ?_⟩; simp only [Act.put, sA, sB, sC]
 refine tV KX.pre 10 rfl rfl ⟨_, fun v h => by (go_simp; rfl), ?_⟩; simp only [Act.put, sA, sB, sC]
 refine tV KX.pre 11 rfl rfl ⟨_, fun v h => by (go_simp; rfl), ?_⟩; simp only [Act.put, sA, sB, sC]
 refine tV KX.pre 12 rfl rfl ⟨_, fun v h => by (go_simp; rfl), ?_⟩; simp only [Act.put, sA, sB, sC]
 refine tV KX.pre 13 rfl rfl ⟨_, fun v h => by (go_simp; rfl), ?_⟩; simp only [Act.put, sA, sB, sC]
 clear k1 k2
 refine anyT_one 14 rfl (by kernel_rfl) rfl ?_
 refine wp_enter 196 #[.pointer (some ⟨s.gt, 0, none⟩), .agg #[.int .u8 f.r.pr, .int .u32 f.r.src, .int .u32 f.r.dst, .int .u16 f.r.sp, .int .u16 f.r.dp], .int .i64 tl] (by go_simp) ?_
 refine (moveF base s.gt s.cnt (mvT f.o tl (s.trn, s.rw)).1 (mvT f.o tl (s.trn, s.rw)).2 f.r tl w3d HD2.out.tb hBr hbd (by have := mvT_fst f.o tl (s.trn, s.rw); simp only at this; omega)).mono ?_
 rintro e w4 ⟨ev, rfl, hT, hk, hm, hg⟩
 refine ⟨KX.of hk, ?_⟩
 simp only [Act.put, sA, sB, sC]
 refine anyT_done (by kernel_rfl) ?_
 have H3 := hide (HD2.out.moved hk hm hT)
 have M3 := hide (MD2.out.trans hg)
 clear HD2 MD2 hT hk hm hg hbd
 go_wp2_with fail
 go_end0
 refine ⟨rfl, M3.out, ?_⟩
 have h3 := H3.out
 rw [HTL.out] at h3
 exact h3
def noh : Value := .iface 383 (.agg #[])
theorem helper_udp (o r : Tu) (i sd st0 tl0 ms : Int) (w : World) (hp : o.pr = 17) (h1 : (r.sp == 5060) = false) (h2 : (o.sp == 5060) = false) :
  Calls Tryz.prog 261 #[.agg #[.int .i64 i, .int .u8 o.pr, .int .u32 o.src, .int .u32 o.dst, .int .u16 o.sp, .int .u16 o.dp, .int .u8 r.pr, .int .u32 r.src, .int .u32 r.dst, .int .u16 r.sp, .int .u16 r.dp, .int .i64 sd, .int .i64 st0, .int .i64 tl0, .int .i64 ms]] w fun e w' => e = .returned noh ∧ Later w w' := by
 have l0 := later_allocG w (.cells #[.int .i64 i, .int .u8 o.pr, .int .u32 o.src, .int .u32 o.dst, .int .u16 o.sp, .int .u16 o.dp, .int .u8 r.pr, .int .u32 r.src, .int .u32 r.dst, .int .u16 r.sp, .int .u16 r.dp, .int .i64 sd, .int .i64 st0, .int .i64 tl0, .int .i64 ms] 88)
 have C0 := hide (heap_alloc_new w (.cells #[.int .i64 i, .int .u8 o.pr, .int .u32 o.src, .int .u32 o.dst, .int .u16 o.sp, .int .u16 o.dp, .int .u8 r.pr, .int .u32 r.src, .int .u32 r.dst, .int .u16 r.sp, .int .u16 r.dp, .int .i64 sd, .int .i64 st0, .int .i64 tl0, .int .i64 ms] 88))
 have HP := hide hp
 clear hp
 go_enter Tryz.func261, Tryz.ntmps261
 go_upto_region 1 with fail
 generalize w.alloc _ = w1 at *
 generalize w.heap.size = gx at *
 have k0 := block_cell C0.out
 rw [HP.out] at k0
 go_wp2_with fail
 go_ret
 exact ⟨rfl, l0⟩
theorem first_st (p : Int) (w : World) (hp : (p == 6) = false) : Calls Tryz.prog 263 #[.int .u8 p] w fun e w' => e = .returned (.int .i64 8) ∧ w' = w := by
 go_enter Tryz.func263, Tryz.ntmps263
 go_wp2_with fail
 go_ret
 exact ⟨rfl, rfl⟩
def ptT (t : Tu) (id till : Int) (q : Int × Int × (Nat → List Rw)) : Int × Int × (Nat → List Rw) := if pute 128 q.1 q.2.2 t.pr t.src t.dst t.sp t.dp till = 0 then (q.1 + 1, q.2.1 + 1, addL q.2.2 (bkT t) ⟨t.pr, t.src, t.dst, kyp t.pr t.sp, t.dp, id, till, q.2.1 + 1⟩) else q
theorem ptT_bd (t : Tu) (id till : Int) (q : Int × Int × (Nat → List Rw)) : q.1 ≤ (ptT t id till q).1 ∧ (ptT t id till q).1 ≤ q.1 + 1 ∧ q.2.1 ≤ (ptT t id till q).2.1 ∧ (ptT t id till q).2.1 ≤ q.2.1 + 1 ∧ ∀ i, ((ptT t id till q).2.2 i).length ≤ (q.2.2 i).length + 1 := by
 unfold ptT
 split
 ·refine ⟨by show q.1 ≤ q.1 + 1; omega, Int.le_refl _, by show q.2.1 ≤ q.2.1 + 1; omega, Int.le_refl _, fun i => ?_⟩
  show (addL q.2.2 _ _ i).length ≤ _
  unfold addL
  split
  ·rename_i e; simp [e]
  ·omega
 ·exact ⟨by omega, by omega, by omega, by omega, fun i => by omega⟩
theorem putF (base gt : Nat) (cnt trn : Int) (rw : Nat → List Rw) (t : Tu) (id till : Int) (w : World) (hT : TB base w gt 128 cnt trn rw) (hB : TuB t) (hbs : base ≤ w.heap.size) (htr : 0 ≤ trn ∧ trn ≤ 1000000) (hcn : 0 ≤ cnt ∧ cnt ≤ 4096) (hln : ∀ i, (rw i).length ≤ 5000) :
  Calls Tryz.prog 262 #[.pointer (some ⟨gt, 0, none⟩), .agg #[.int .u8 t.pr, .int .u32 t.src, .int .u32 t.dst, .int .u16 t.sp, .int .u16 t.dp], .int .i64 id, .int .i64 till] w fun e w' => ∃ ev : Int, e = .returned (.int .i64 ev) ∧ TB base w' gt 128 (ptT t id till (cnt, trn, rw)).1 (ptT t id till (cnt, trn, rw)).2.1 (ptT t id till (cnt, trn, rw)).2.2 ∧ KT w w' ∧ KM w w' ∧ KG base w w' := by
 obtain ⟨vs, hTv⟩ := hT
 refine (tput_any base gt 128 cnt trn vs rw t.pr t.src t.dst t.sp t.dp id till w hTv hB.1 hB.2.1 hB.2.2.1 hB.2.2.2 hbs htr hcn (by omega) (hln _)).mono ?_
 rintro e w' ⟨he, ⟨h0, h1, h2⟩ | ⟨h0, h1, h2⟩⟩
 ·refine ⟨_, he, ?_, KT.of_later h2, KM.of_later h2, KG.of_later h2⟩
  have e2 : ptT t id till (cnt, trn, rw) = (cnt, trn, rw) := by unfold ptT; rw [if_neg h0]
  rw [e2]
  exact ⟨vs, h1⟩
 ·have ty := hTv.typed (bki t.pr t.src t.dst t.sp t.dp) (bki_lt _ _ _ _ _)
  refine ⟨_, he, ?_, KT.of_but h2 ty, KM.of_but h2 ty, KG.of_but h2 (fun k e => ?_)⟩
  ·have e2 : ptT t id till (cnt, trn, rw) = (cnt + 1, trn + 1, addL rw (bkT t) ⟨t.pr, t.src, t.dst, kyp t.pr t.sp, t.dp, id, till, trn + 1⟩) := by unfold ptT; rw [if_pos h0]
   rw [e2]
   exact h1
  ·refine ⟨?_, fun ob ho => ?_⟩
   ·rcases e with e | e
    ·rw [e]; exact hTv.2.1
    ·rcases (hTv.2.2.2.1 _ (bki_lt t.pr t.src t.dst t.sp t.dp)).2 with ⟨e2, _⟩ | ⟨g', cp, cur, e2, hb', _⟩
     ·rw [e2] at e; cases e
     ·rw [e2] at e; cases e; exact hb'
   ·obtain ⟨cur, tt, fz, hh, ht⟩ := ty k e
    rw [hh] at ho
    cases ho
    show gTs.contains _ = true
    rcases ht with ht | ht <;> (rw [ht]; decide)
theorem GF.tabled {base g : Nat} {W W' : World} {s : Gf} (h : GF base W g s) (hk : KT W W') (hb : KM W W') {cnt trn : Int} {rw : Nat → List Rw} (ht : TB base W' s.gt 128 cnt trn rw) : GF base W' g { s with cnt := cnt, trn := trn, rw := rw } := by
 have ho : ∀ {e : TypeId} {size : Nat} {v : Value} {n : Nat} {xs : List Value}, e ≠ 142 → e ≠ 177 → W.ownsRow base e size v n xs → W'.ownsRow base e size v n xs := fun h1 h2 q => by
  obtain ⟨q1, q2 | ⟨b, cap, cur', e', hb', hh, r⟩⟩ := q
  ·exact ⟨q1, .inl q2⟩
  ·exact ⟨q1, .inr ⟨b, cap, cur', e', hb', hk _ _ _ _ hh h1 h2, r⟩⟩
 exact ⟨h.bs, hk _ _ _ _ h.gc (by decide) (by decide), ⟨h.rl.1, hk _ _ _ _ h.rl.2.1 (by decide) (by decide), ho (by decide) (by decide) h.rl.2.2⟩, ht, ⟨h.bl.1, hk _ _ _ _ h.bl.2.1 (by decide) (by decide), ho (by decide) (by decide) h.bl.2.2⟩, hb.map h.fl, hb.map h.pl, h.ne, h.bf, h.fm, h.pm, fun f hf => ⟨(h.fb f hf).1, hk _ _ _ _ (h.fb f hf).2 (by decide) (by decide)⟩, fun p hp => ⟨(h.pb p hp).1, (h.pb p hp).2.1, hk _ _ _ _ (h.pb p hp).2.2 (by decide) (by decide)⟩⟩
def Gf.begun (s : Gf) (f : Fl) : Gf := { s with bg := s.bg + 1, fs := s.fs ++ [f], fe := s.fe.push ⟨.int .i64 f.id, .pointer (some ⟨f.blk, 0, none⟩), s.cf⟩, cf := s.cf + 1 }
def opM (s : Gf) (f : Fl) : Int × Int × (Nat → List Rw) := ptT f.r f.id s.now (ptT f.o f.id s.now (s.cnt, s.trn, s.rw))
def opS (s : Gf) (f : Fl) : Gf := { s.begun f with cnt := (opM s f).1, trn := (opM s f).2.1, rw := (opM s f).2.2 }
theorem GF.count {base g : Nat} {W : World} {s : Gf} (h : GF base W g s) (n : Int) : GF base (W.setCell ⟨g, 3, none⟩ (.int .i64 n)) g { s with bg := n } := by
 have hb : But (fun b => b = g) W (W.setCell ⟨g, 3, none⟩ (.int .i64 n)) := (But.refl (fun b => b = g) _).setCell (show _ = _ from rfl) _
 have hE := TE.one h.gc
 exact ⟨h.bs, heap_set1 h.gc 3 (.int .i64 n), ⟨h.rl.1, hE.keep hb h.rl.2.1 (isT_no (by decide) _ _), hE.own hb h.rl.2.2 (isT_no (by decide))⟩, hE.table hb h.tb (isT_no (by decide)) (isT_no (by decide)), ⟨h.bl.1, hE.keep hb h.bl.2.1 (isT_no (by decide) _ _), hE.own hb h.bl.2.2 (isT_no (by decide))⟩, hE.keep hb h.fl (isT_map _ _), hE.keep hb h.pl (isT_map _ _), h.ne, h.bf, h.fm, h.pm, fun f hf => ⟨(h.fb f hf).1, hE.keep hb (h.fb f hf).2 (isT_no (by decide) _ _)⟩, fun p hp => ⟨(h.pb p hp).1, (h.pb p hp).2.1, hE.keep hb (h.pb p hp).2.2 (isT_no (by decide) _ _)⟩⟩
theorem findG_no (z : Int) : ∀ (l : List MapEntry) (i : Nat), (∀ e ∈ l, ∃ k : Int, e.key = .int .i64 k ∧ k ≠ z) → Instr.findNow (.int .i64) (.int .i64 z) l i = some none
 | [], _, _ => rfl
 | e :: l, i, h => by
  obtain ⟨k, hk, hne⟩ := h e (by simp)
  have h1 : Instr.sameNow (.int .i64) (.int .i64 z) e.key = some false := by rw [hk]; simp [Instr.sameNow, hne, Ne.symm hne]
  unfold Instr.findNow
  rw [h1]
  exact findG_no z l (i + 1) (fun e' he' => h e' (by simp [he']))
theorem fe_keys {base g : Nat} {W : World} {s : Gf} (h : GF base W g s) (z : Int) (hz : ∀ x ∈ s.fs, x.id ≠ z) : ∀ e ∈ s.fe.toList, ∃ k : Int, e.key = .int .i64 k ∧ k ≠ z := fun e he => by
 have h1 : (e.key, e.val) ∈ s.fe.toList.map (fun e => (e.key, e.val)) := List.mem_map.2 ⟨e, he, rfl⟩
 rw [h.fm] at h1
 obtain ⟨x, hx, e2⟩ := List.mem_map.1 h1
 have e3 : (Value.int .i64 x.id) = e.key := congrArg Prod.fst e2
 exact ⟨x.id, e3.symm, hz x hx⟩
theorem GF.written {base g : Nat} {W W' : World} {s : Gf} (h : GF base W g s) (f : Fl) (hid : f.id = s.bg - 1) (hb : But (fun b => b = s.gf) W W') (hm : W'.heap[s.gf]? = some (.map (s.fe.push ⟨.int .i64 f.id, .pointer (some ⟨f.blk, 0, none⟩), s.cf⟩) (s.cf + 1))) (hf : base ≤ f.blk ∧ W.heap[f.blk]? = some (.cells (flc f).toArray 93 (0, 0))) : GF base W' g { s with fs := s.fs ++ [f], fe := s.fe.push ⟨.int .i64 f.id, .pointer (some ⟨f.blk, 0, none⟩), s.cf⟩, cf := s.cf + 1 } := by
 have hk : ∀ (b : Nat) (cur : Array Value) (t : TypeId) (fz : Nat × Nat), W.heap[b]? = some (.cells cur t fz) → W'.heap[b]? = some (.cells cur t fz) := fun b cur t fz hh => (hb.block b (bl9 hh) (fun e => by have e' : b = s.gf := e; have h2 := h.fl; rw [← e', hh] at h2; cases h2)).trans hh
 have ho : ∀ {bs : Nat} {e : TypeId} {size : Nat} {v : Value} {n : Nat} {xs : List Value}, W.ownsRow bs e size v n xs → W'.ownsRow bs e size v n xs := fun h => by
  obtain ⟨q1, q2 | ⟨b, cap, cur', e', hb', hh, r⟩⟩ := h
  ·exact ⟨q1, .inl q2⟩
  ·exact ⟨q1, .inr ⟨b, cap, cur', e', hb', hk _ _ _ _ hh, r⟩⟩
 obtain ⟨vs, t1, t2, t3, t4, t5⟩ := h.tb
 refine ⟨h.bs, hk _ _ _ _ h.gc, ⟨h.rl.1, hk _ _ _ _ h.rl.2.1, ho h.rl.2.2⟩, ⟨vs, t1, t2, hk _ _ _ _ t3, fun i hi => ho (t4 i hi), t5⟩, ⟨h.bl.1, hk _ _ _ _ h.bl.2.1, ho h.bl.2.2⟩, hm, ?_, h.ne, h.bf, ?_, h.pm, fun x hx => ?_, fun p hp => ⟨(h.pb p hp).1, (h.pb p hp).2.1, hk _ _ _ _ (h.pb p hp).2.2⟩⟩
 ·exact (hb.block s.gp (bl9 h.pl) (fun e => h.ne e.symm)).trans h.pl
 ·show (s.fe.push _).toList.map (fun e => (e.key, e.val)) = (s.fs ++ [f]).map flE
  rw [Array.toList_push, List.map_append, List.map_append, h.fm]
  rfl
 ·rcases List.mem_append.1 hx with hx | hx
  ·exact ⟨(h.fb x hx).1, hk _ _ _ _ (h.fb x hx).2⟩
  ·have e : x = f := by simpa using hx
   subst e
   exact ⟨hf.1, hk _ _ _ _ hf.2⟩
def newF (s : Gf) (b : Nat) (o r : Tu) (sd st0 tl0 ms : Int) (hv : Value) : Fl := ⟨b, s.bg, o, r, sd, st0, tl0, ms, hv, noh⟩
theorem ins_flow {w : World} {b c : Nat} {es : Array MapEntry} (hb : w.heap[b]? = some (.map es c)) (z : Int) (v : Value) (hf : Instr.findNow (.int .i64) (.int .i64 z) es.toList 0 = some none) :
  ∃ w', (Instr.mapUpdate 74 (.map (some b)) (.int .i64 z) v).run Tryz.prog w = .ok () w' ∧ w'.heap[b]? = some (.map (es.push ⟨.int .i64 z, v, c⟩) (c + 1)) ∧ But (fun g => g = b) w w' := by
 have hc : (Instr.checkKey false 10000 3 (.int .i64 z)).run Tryz.prog w = .ok () w := MapKept.run_checkKey (k := .int .i64 z) Tryz.underlying3 (by simp [MapKept.IsKey]) false 9999
 have hlt := (bl9 hb)
 refine ⟨{ w with heap := w.heap.setIfInBounds b (.map (es.push ⟨.int .i64 z, v, c⟩) (c + 1)) }, ?_, ?_, rfl, rfl, rfl, by simp, fun i hi he => ?_⟩
 ·simp [Instr.mapUpdate, run_underlying Tryz.underlying74, MapKept.run_getObj_map hb, hc, MapKept.run_findKey Tryz.underlying3 hf, MapKept.run_setObj_map _ hb, Result.andThen]
 ·simp [hlt]
 ·have he' : i ≠ b := he
  rw [Array.getElem?_setIfInBounds_ne (by omega)]
def OpQ (base : Nat) (w w' : World) (g : Nat) (s : Gf) (o r : Tu) (sd st0 tl0 ms : Int) (hv : Value) (e : Ending) : Prop := ∃ f : Fl, w.heap.size ≤ f.blk ∧ e = .returned (.pointer (some ⟨f.blk, 0, none⟩)) ∧ KG base w w' ∧ f.id = s.bg ∧ f.o = o ∧ f.r = r ∧ f.side = sd ∧ f.ms = ms ∧ f.hv = hv ∧ f.hp = noh ∧ GF base w' g (bcS (opS s f) f 8)
theorem open_udp (base g : Nat) (s : Gf) (o r : Tu) (i0 sd st0 tl0 ms : Int) (ha : Option Addr) (hn hc : Nat) (w : World) (h : GF base w g s) (hp : o.pr = 17) (h1 : (r.sp == 5060) = false) (h2 : (o.sp == 5060) = false) (hbs : base ≤ w.heap.size) (hBo : TuB o) (hBr : TuB r) (htr : 0 ≤ s.trn ∧ s.trn ≤ 900000) (hnw : 0 ≤ s.now ∧ s.now ≤ 549755813888) (hbg : 0 ≤ s.bg ∧ s.bg ≤ 1000000) (hid : ∀ x ∈ s.fs, x.id ≠ s.bg) (hcn : 0 ≤ s.cnt ∧ s.cnt ≤ 1000) (hln : ∀ i, (s.rw i).length ≤ 4000) :
  Calls Tryz.prog 231 #[.pointer (some ⟨g, 0, none⟩), .agg #[.int .i64 i0, .int .u8 o.pr, .int .u32 o.src, .int .u32 o.dst, .int .u16 o.sp, .int .u16 o.dp, .int .u8 r.pr, .int .u32 r.src, .int .u32 r.dst, .int .u16 r.sp, .int .u16 r.dp, .int .i64 sd, .int .i64 st0, .int .i64 tl0, .int .i64 ms], .slice ha hn hc] w fun e w' => OpQ base w w' g s o r sd st0 tl0 ms (.slice ha hn hc) e := by
 have l0 := later_allocG w (.cells #[.int .i64 i0, .int .u8 o.pr, .int .u32 o.src, .int .u32 o.dst, .int .u16 o.sp, .int .u16 o.dp, .int .u8 r.pr, .int .u32 r.src, .int .u32 r.dst, .int .u16 r.sp, .int .u16 r.dp, .int .i64 sd, .int .i64 st0, .int .i64 tl0, .int .i64 ms] 88)
 have C0 := hide (heap_alloc_new w (.cells #[.int .i64 i0, .int .u8 o.pr, .int .u32 o.src, .int .u32 o.dst, .int .u16 o.sp, .int .u16 o.dp, .int .u8 r.pr, .int .u32 r.src, .int .u32 r.dst, .int .u16 r.sp, .int .u16 r.dp, .int .i64 sd, .int .i64 st0, .int .i64 tl0, .int .i64 ms] 88))
 have HG := hide (h.later l0)
 have HID := hide (fe_keys h s.bg hid)
 have HBF := hide (fun x (hx : x ∈ s.fs) => (Array.getElem?_eq_some_iff.1 (h.fb x hx).2).1)
 have hP6 : (o.pr == 6) = false := by rw [hp]; decide
 have HHP := hide (fun W => helper_udp o r s.bg sd st0 tl0 ms W hp h1 h2)
 have HFS := hide (fun W => first_st o.pr W hP6)
 have hwr : IntKind.i64.wrap (s.bg + 1) = s.bg + 1 := wrapi _ (by omega) (by omega)
 have HWR := hide hwr
 clear h hp h1 h2 hP6 hwr hid
 go_enter Tryz.func231, Tryz.ntmps231
 go_upto_region 1 with fail
 generalize w.alloc _ = w1 at *
 generalize hgx : w.heap.size = gx at C0 ⊢
 have kg := block_cell HG.out.gc
 have fg := block_frozen HG.out.gc
 unfold gfc at kg
 have kx0 := block_cell C0.out
 have fx0 := block_frozen C0.out
 go_upto_region 3 with fail
 have c1 := heap_set1 C0.out 0 (.int .i64 s.bg)
 have hgg : g ≠ gx := fun e => by
  have q1 := HG.out.gc
  have q2 := C0.out
  rw [← e, q1] at q2
  injection q2 with q3
  injection q3 with q4 q5 q6
  exact absurd q5 (by decide)
 have hA := HG.out.other (TE.one C0.out) ((But.refl (fun b => b = gx) w1).setCell (p := ⟨gx, 0, none⟩) (show _ = _ from rfl) (.int .i64 s.bg)) (by decide)
 have hB1 := hA.count (s.bg + 1)
 have c2 : ((w1.setCell ⟨gx, 0, none⟩ (.int .i64 s.bg)).setCell ⟨g, 3, none⟩ (.int .i64 (s.bg + 1))).heap[gx]? = some (.cells #[.int .i64 s.bg, .int .u8 o.pr, .int .u32 o.src, .int .u32 o.dst, .int .u16 o.sp, .int .u16 o.dp, .int .u8 r.pr, .int .u32 r.src, .int .u32 r.dst, .int .u16 r.sp, .int .u16 r.dp, .int .i64 sd, .int .i64 st0, .int .i64 tl0, .int .i64 ms] 88) := (((But.refl (fun b => b = g) (w1.setCell ⟨gx, 0, none⟩ (.int .i64 s.bg))).setCell (p := ⟨g, 3, none⟩) (show _ = _ from rfl) (.int .i64 (s.bg + 1))).block gx (bl9 c1) (fun e => hgg e.symm)).trans c1
 have hbb : But (fun b => b = g ∨ b = gx) w ((w1.setCell ⟨gx, 0, none⟩ (.int .i64 s.bg)).setCell ⟨g, 3, none⟩ (.int .i64 (s.bg + 1))) := ((But.of (E := fun b => b = g ∨ b = gx) l0).setCell (p := ⟨gx, 0, none⟩) (.inr rfl) (.int .i64 s.bg)).setCell (p := ⟨g, 3, none⟩) (.inl rfl) (.int .i64 (s.bg + 1))
 have M2 : Hid (KG base w ((w1.setCell ⟨gx, 0, none⟩ (.int .i64 s.bg)).setCell ⟨g, 3, none⟩ (.int .i64 (s.bg + 1)))) := KG.of_but hbb (fun k e => by
  rcases e with e | e
  ·rw [e]
   refine ⟨HG.out.bs, fun ob ho => ?_⟩
   have q := later_keep l0 ho
   rw [HG.out.gc] at q
   cases q
   show gTs.contains _ = true
   decide
  ·rw [e]
   refine ⟨by omega, fun ob ho => ?_⟩
   have := (bl9 ho)
   omega)
 have H2 := hide hB1
 have C2 := hide c2
 clear hbb hB1 c2 hA c1 kg fg kx0 fx0 C0 HG l0
 generalize ((w1.setCell ⟨gx, 0, none⟩ (.int .i64 s.bg)).setCell ⟨g, 3, none⟩ (.int .i64 (s.bg + 1))) = w2 at *
 refine anyT_begin (R := Later) 7 rfl (by kernel_rfl) ?_
 have ld : Later w2 w2.drew := Later.drew w2
 generalize w2.drew = w2d at *
 have k2 : ∀ v, Later w2d v → ∀ j, v.cell? ⟨gx, j, none⟩ = #[.int .i64 s.bg, .int .u8 o.pr, .int .u32 o.src, .int .u32 o.dst, .int .u16 o.sp, .int .u16 o.dp, .int .u8 r.pr, .int .u32 r.src, .int .u32 r.dst, .int .u16 r.sp, .int .u16 r.dp, .int .i64 sd, .int .i64 st0, .int .i64 tl0, .int .i64 ms][j]? := fun v hv => block_cell (later_keep hv (later_keep ld C2.out))
 refine tV Later.pre 0 rfl rfl ⟨_, fun v h => by (go_simp; rfl), ?_⟩; simp only [Act.put, sA, sB, sC]
 refine tV Later.pre 1 rfl rfl ⟨_, fun v h => by (go_simp; rfl), ?_⟩; simp only [Act.put, sA, sB, sC]
 refine tV Later.pre 2 rfl rfl ⟨_, fun v h => by (go_simp; rfl), ?_⟩; simp only [Act.put, sA, sB, sC]
 clear k2
 refine anyT_one 3 rfl (by kernel_rfl) rfl ?_
 refine wp_enter 261 #[.agg #[.int .i64 s.bg, .int .u8 o.pr, .int .u32 o.src, .int .u32 o.dst, .int .u16 o.sp, .int .u16 o.dp, .int .u8 r.pr, .int .u32 r.src, .int .u32 r.dst, .int .u16 r.sp, .int .u16 r.dp, .int .i64 sd, .int .i64 st0, .int .i64 tl0, .int .i64 ms]] (by go_simp) ?_
 refine (HHP.out w2d).mono ?_
 rintro e w3 ⟨rfl, l3⟩
 refine ⟨l3, ?_⟩
 simp only [Act.put, sA, sB, sC]
 unfold noh
 refine tV Later.pre 4 rfl rfl ⟨_, fun v h => by (go_simp; rfl), ?_⟩; simp only [Act.put, sA, sB, sC]
 have la := later_allocG w3 (.cells #[.int .i64 s.bg, .int .u8 o.pr, .int .u32 o.src, .int .u32 o.dst, .int .u16 o.sp, .int .u16 o.dp, .int .u8 r.pr, .int .u32 r.src, .int .u32 r.dst, .int .u16 r.sp, .int .u16 r.dp, .int .i64 sd, .int .i64 st0, .int .i64 tl0, .int .i64 ms, .slice ha hn hc, noh] 93)
 have ca := heap_alloc_new w3 (.cells #[.int .i64 s.bg, .int .u8 o.pr, .int .u32 o.src, .int .u32 o.dst, .int .u16 o.sp, .int .u16 o.dp, .int .u8 r.pr, .int .u32 r.src, .int .u32 r.dst, .int .u16 r.sp, .int .u16 r.dp, .int .i64 sd, .int .i64 st0, .int .i64 tl0, .int .i64 ms, .slice ha hn hc, noh] 93)
 unfold noh at la ca
 have LA := hide la
 have CA := hide ca
 clear la ca
 refine anyT_one 5 rfl (by kernel_rfl) rfl ?_
 unfold Oper.wp
 go_simp
 refine ⟨LA.out, ?_⟩
 generalize w3.alloc _ = w4 at *
 have la := LA.out
 have ca := CA.out
 clear LA CA
 refine tV Later.pre 6 rfl rfl ⟨_, fun v h => by (go_simp; rfl), ?_⟩; simp only [Act.put, sA, sB, sC]
 refine anyT_done (by kernel_rfl) ?_
 have hgn : w.heap.size ≤ w3.heap.size := Nat.le_trans M2.out.size (Nat.le_trans ld.size l3.size)
 generalize hgnn : w3.heap.size = gn at *
 have L4 : Later w2 w4 := ld.trans (l3.trans la)
 have H4 := hide (H2.out.later L4)
 have M4 := hide (M2.out.trans (KG.of_later L4))
 have C4 := hide (later_keep L4 C2.out)
 have D4 := hide ca
 clear H2 M2 C2 ld l3 la ca L4 hgnn
 go_upto_region 4 with fail
 refine anyT_begin (R := But (fun b => b = s.gf)) 8 rfl (by kernel_rfl) ?_
 have ld : Later w4 w4.drew := Later.drew w4
 generalize w4.drew = w5 at *
 have H4d := hide (H4.out.later ld)
 have M4d := hide (M4.out.trans (KG.of_later ld))
 have C4d := hide (later_keep ld C4.out)
 have D4d := hide (later_keep ld D4.out)
 clear H4 M4 C4 D4 ld
 have hnm : ∀ (b : Nat) (cur : Array Value) (t : TypeId) (f : Nat × Nat), w5.heap[b]? = some (.cells cur t f) → ∀ v, But (fun b => b = s.gf) w5 v → v.heap[b]? = some (.cells cur t f) := fun b cur t f hb v hv => (hv.block b (bl9 hb) (fun e => by have e' : b = s.gf := e; have hh := H4d.out.fl; simp only at hh; rw [← e', hb] at hh; cases hh)).trans hb
 have k1 : ∀ v, But (fun b => b = s.gf) w5 v → ∀ j, v.cell? ⟨g, j, none⟩ = (gfc { s with bg := s.bg + 1 }).toArray[j]? := fun v hv => block_cell (hnm _ _ _ _ H4d.out.gc v hv)
 have k2 : ∀ v, But (fun b => b = s.gf) w5 v → ∀ j, v.cell? ⟨gx, j, none⟩ = #[.int .i64 s.bg, .int .u8 o.pr, .int .u32 o.src, .int .u32 o.dst, .int .u16 o.sp, .int .u16 o.dp, .int .u8 r.pr, .int .u32 r.src, .int .u32 r.dst, .int .u16 r.sp, .int .u16 r.dp, .int .i64 sd, .int .i64 st0, .int .i64 tl0, .int .i64 ms][j]? := fun v hv => block_cell (hnm _ _ _ _ C4d.out v hv)
 unfold gfc at k1
 simp only at k1
 refine tV (But.pre (fun b => b = s.gf)) 0 rfl rfl ⟨_, fun v h => by (go_simp; rfl), ?_⟩; simp only [Act.put, sA, sB, sC]
 refine tV (But.pre (fun b => b = s.gf)) 1 rfl rfl ⟨_, fun v h => by (go_simp; rfl), ?_⟩; simp only [Act.put, sA, sB, sC]
 refine tV (But.pre (fun b => b = s.gf)) 2 rfl rfl ⟨_, fun v h => by (go_simp; rfl), ?_⟩; simp only [Act.put, sA, sB, sC]
 refine tV (But.pre (fun b => b = s.gf)) 3 rfl rfl ⟨_, fun v h => by (go_simp; rfl), ?_⟩; simp only [Act.put, sA, sB, sC]
 refine tV (But.pre (fun b => b = s.gf)) 4 rfl rfl ⟨_, fun v h => by (go_simp; rfl), ?_⟩; simp only [Act.put, sA, sB, sC]
 refine tV (But.pre (fun b => b = s.gf)) 5 rfl rfl ⟨_, fun v h => by (go_simp; rfl), ?_⟩; simp only [Act.put, sA, sB, sC]
 refine tV (But.pre (fun b => b = s.gf)) 6 rfl rfl ⟨_, fun v h => by (go_simp; rfl), ?_⟩; simp only [Act.put, sA, sB, sC]
 clear k1 k2
 obtain ⟨w6, hrun, hm6, hb6⟩ := ins_flow (w := w5) (b := s.gf) (c := s.cf) (es := s.fe) H4d.out.fl s.bg (.pointer (some ⟨gn, 0, none⟩)) (findG_no _ _ 0 HID.out)
 refine anyT_one 7 rfl (by kernel_rfl) rfl ?_
 have HB6 := hide hb6
 have HM6 := hide hm6
 clear hb6 hm6
 unfold Oper.wp
 go_simp
 refine ⟨HB6.out, ?_⟩
 refine anyT_done (by kernel_rfl) ?_
 clear hrun
 have hD : base ≤ ((newF s gn o r sd st0 tl0 ms (.slice ha hn hc))).blk ∧ w5.heap[((newF s gn o r sd st0 tl0 ms (.slice ha hn hc))).blk]? = some (.cells (flc (newF s gn o r sd st0 tl0 ms (.slice ha hn hc))).toArray 93 (0, 0)) := ⟨Nat.le_trans hbs hgn, D4d.out⟩
 have H5 : Hid (GF base w6 g (s.begun (newF s gn o r sd st0 tl0 ms (.slice ha hn hc)))) := H4d.out.written (newF s gn o r sd st0 tl0 ms (.slice ha hn hc)) (by show s.bg = s.bg + 1 - 1; omega) HB6.out HM6.out hD
 have M5 : Hid (KG base w w6) := M4d.out.trans (KG.of_but HB6.out (fun k e => by
  have e' : k = s.gf := e
  rw [e']
  refine ⟨H4d.out.bf.1, fun ob ho => ?_⟩
  have hh := H4d.out.fl
  simp only at hh
  rw [hh] at ho
  cases ho
  exact trivial))
 have C5 := hide (hnm _ _ _ _ C4d.out w6 HB6.out)
 clear H4d M4d C4d D4d HB6 HM6 hnm hD
 go_upto_region 5 with fail
 refine anyT_begin (R := KX) 13 rfl (by kernel_rfl) ?_
 have ld : Later w6 w6.drew := Later.drew w6
 generalize w6.drew = w6d at *
 have HD := hide (H5.out.later ld)
 have MD := hide (M5.out.trans (KG.of_later ld))
 have CD := hide (later_keep ld C5.out)
 clear H5 M5 C5 ld
 have hbd : base ≤ w6d.heap.size := Nat.le_trans hbs MD.out.size
 have k1 : ∀ v, KX w6d v → ∀ j, v.cell? ⟨g, j, none⟩ = (gfc (s.begun (newF s gn o r sd st0 tl0 ms (.slice ha hn hc)))).toArray[j]? := fun v hv => block_cell (hv g _ _ _ HD.out.gc (by decide) (by decide))
 have k2 : ∀ v, KX w6d v → ∀ j, v.cell? ⟨gx, j, none⟩ = #[.int .i64 s.bg, .int .u8 o.pr, .int .u32 o.src, .int .u32 o.dst, .int .u16 o.sp, .int .u16 o.dp, .int .u8 r.pr, .int .u32 r.src, .int .u32 r.dst, .int .u16 r.sp, .int .u16 r.dp, .int .i64 sd, .int .i64 st0, .int .i64 tl0, .int .i64 ms][j]? := fun v hv => block_cell (hv gx _ _ _ CD.out (by decide) (by decide))
 unfold gfc Gf.begun at k1
 simp only at k1
 refine tV KX.pre 0 rfl rfl ⟨_, fun v h => by (go_simp; rfl), ?_⟩; simp only [Act.put, sA, sB, sC]
 refine tV KX.pre 1 rfl rfl ⟨_, fun v h => by (go_simp; rfl), ?_⟩; simp only [Act.put, sA, sB, sC]
 refine tV KX.pre 2 rfl rfl ⟨_, fun v h => by (go_simp; rfl), ?_⟩; simp only [Act.put, sA, sB, sC]
 refine tV KX.pre 3 rfl rfl ⟨_, fun v h => by (go_simp; rfl), ?_⟩; simp only [Act.put, sA, sB, sC]
 refine tV KX.pre 4 rfl rfl ⟨_, fun v h => by (go_simp; rfl), ?_⟩; simp only [Act.put, sA, sB, sC]
 refine tV KX.pre 5 rfl rfl ⟨_, fun v h => by (go_simp; rfl), ?_⟩; simp only [Act.put, sA, sB, sC]
 refine tV KX.pre 6 rfl rfl ⟨_, fun v h => by (go_simp; rfl), ?_⟩; simp only [Act.put, sA, sB, sC]
 refine tV KX.pre 7 rfl rfl ⟨_, fun v h => by (go_simp; rfl), ?_⟩; simp only [Act.put, sA, sB, sC]
 refine tV KX.pre 8 rfl rfl ⟨_, fun v h => by (go_simp; rfl), ?_⟩; simp only [Act.put, sA, sB, sC]
 refine tV KX.pre 9 rfl rfl ⟨_, fun v h => by (go_simp; rfl), ?_⟩; simp only [Act.put, sA, sB, sC]
 refine tV KX.pre 10 rfl rfl ⟨_, fun v h => by (go_simp; rfl), ?_⟩; simp only [Act.put, sA, sB, sC]
 refine tV KX.pre 11 rfl rfl ⟨_, fun v h => by (go_simp; rfl), ?_⟩; simp only [Act.put, sA, sB, sC]
 clear k1 k2
 refine anyT_one 12 rfl (by kernel_rfl) rfl ?_
 refine wp_enter 262 #[.pointer (some ⟨s.gt, 0, none⟩), .agg #[.int .u8 o.pr, .int .u32 o.src, .int .u32 o.dst, .int .u16 o.sp, .int .u16 o.dp], .int .i64 s.bg, .int .i64 s.now] (by go_simp) ?_
 refine (putF base s.gt (s.cnt, s.trn, s.rw).1 (s.cnt, s.trn, s.rw).2.1 (s.cnt, s.trn, s.rw).2.2 o s.bg s.now w6d HD.out.tb hBo hbd (by simp only; omega) (by simp only; omega) (fun i => by have := hln i; simp only; omega)).mono ?_
 rintro e w7 ⟨ev, rfl, hT, hk, hm, hg⟩
 refine ⟨KX.of hk, ?_⟩
 simp only [Act.put, sA, sB, sC]
 refine anyT_done (by kernel_rfl) ?_
 have H6 := hide (HD.out.tabled hk hm hT)
 have M6 := hide (MD.out.trans hg)
 have C6 := hide (hk gx _ _ _ CD.out (by decide) (by decide))
 clear HD MD CD hT hk hm hg hbd
 go_upto_region 6 with fail
 refine anyT_begin (R := KX) 13 rfl (by kernel_rfl) ?_
 have ld : Later w7 w7.drew := Later.drew w7
 generalize w7.drew = w7d at *
 have HD := hide (H6.out.later ld)
 have MD := hide (M6.out.trans (KG.of_later ld))
 have CD := hide (later_keep ld C6.out)
 clear H6 M6 C6 ld
 have hbd : base ≤ w7d.heap.size := Nat.le_trans hbs MD.out.size
 have k1 : ∀ v, KX w7d v → ∀ j, v.cell? ⟨g, j, none⟩ = (gfc (s.begun (newF s gn o r sd st0 tl0 ms (.slice ha hn hc)))).toArray[j]? := fun v hv => block_cell (hv g _ _ _ HD.out.gc (by decide) (by decide))
 have k2 : ∀ v, KX w7d v → ∀ j, v.cell? ⟨gx, j, none⟩ = #[.int .i64 s.bg, .int .u8 o.pr, .int .u32 o.src, .int .u32 o.dst, .int .u16 o.sp, .int .u16 o.dp, .int .u8 r.pr, .int .u32 r.src, .int .u32 r.dst, .int .u16 r.sp, .int .u16 r.dp, .int .i64 sd, .int .i64 st0, .int .i64 tl0, .int .i64 ms][j]? := fun v hv => block_cell (hv gx _ _ _ CD.out (by decide) (by decide))
 unfold gfc Gf.begun at k1
 simp only at k1
 refine tV KX.pre 0 rfl rfl ⟨_, fun v h => by (go_simp; rfl), ?_⟩; simp only [Act.put, sA, sB, sC]
 refine tV KX.pre 1 rfl rfl ⟨_, fun v h => by (go_simp; rfl), ?_⟩; simp only [Act.put, sA, sB, sC]
 refine tV KX.pre 2 rfl rfl ⟨_, fun v h => by (go_simp; rfl), ?_⟩; simp only [Act.put, sA, sB, sC]
 refine tV KX.pre 3 rfl rfl ⟨_, fun v h => by (go_simp; rfl), ?_⟩; simp only [Act.put, sA, sB, sC]
 refine tV KX.pre 4 rfl rfl ⟨_, fun v h => by (go_simp; rfl), ?_⟩; simp only [Act.put, sA, sB, sC]
 refine tV KX.pre 5 rfl rfl ⟨_, fun v h => by (go_simp; rfl), ?_⟩; simp only [Act.put, sA, sB, sC]
 refine tV KX.pre 6 rfl rfl ⟨_, fun v h => by (go_simp; rfl), ?_⟩; simp only [Act.put, sA, sB, sC]
 refine tV KX.pre 7 rfl rfl ⟨_, fun v h => by (go_simp; rfl), ?_⟩; simp only [Act.put, sA, sB, sC]
 refine tV KX.pre 8 rfl rfl ⟨_, fun v h => by (go_simp; rfl), ?_⟩; simp only [Act.put, sA, sB, sC]
 refine tV KX.pre 9 rfl rfl ⟨_, fun v h => by (go_simp; rfl), ?_⟩; simp only [Act.put, sA, sB, sC]
 refine tV KX.pre 10 rfl rfl ⟨_, fun v h => by (go_simp; rfl), ?_⟩; simp only [Act.put, sA, sB, sC]
 refine tV KX.pre 11 rfl rfl ⟨_, fun v h => by (go_simp; rfl), ?_⟩; simp only [Act.put, sA, sB, sC]
 clear k1 k2
 refine anyT_one 12 rfl (by kernel_rfl) rfl ?_
 refine wp_enter 262 #[.pointer (some ⟨s.gt, 0, none⟩), .agg #[.int .u8 r.pr, .int .u32 r.src, .int .u32 r.dst, .int .u16 r.sp, .int .u16 r.dp], .int .i64 s.bg, .int .i64 s.now] (by go_simp) ?_
 refine (putF base s.gt (ptT o s.bg s.now (s.cnt, s.trn, s.rw)).1 (ptT o s.bg s.now (s.cnt, s.trn, s.rw)).2.1 (ptT o s.bg s.now (s.cnt, s.trn, s.rw)).2.2 r s.bg s.now w7d HD.out.tb hBr hbd (by have := ptT_bd o s.bg s.now (s.cnt, s.trn, s.rw); simp only at this; omega) (by have := ptT_bd o s.bg s.now (s.cnt, s.trn, s.rw); simp only at this; omega) (fun i => by have h1 := hln i; have h2 := (ptT_bd o s.bg s.now (s.cnt, s.trn, s.rw)).2.2.2.2 i; simp only at h2; omega)).mono ?_
 rintro e w8 ⟨ev, rfl, hT, hk, hm, hg⟩
 refine ⟨KX.of hk, ?_⟩
 simp only [Act.put, sA, sB, sC]
 refine anyT_done (by kernel_rfl) ?_
 have H7 := hide (HD.out.tabled hk hm hT)
 have M7 := hide (MD.out.trans hg)
 have C7 := hide (hk gx _ _ _ CD.out (by decide) (by decide))
 clear HD MD CD hT hk hm hg hbd
 go_upto_region 7 with fail
 have k2 := block_cell C7.out
 have hin : (newF s gn o r sd st0 tl0 ms (.slice ha hn hc)) ∈ (opS s (newF s gn o r sd st0 tl0 ms (.slice ha hn hc))).fs := by show _ ∈ s.fs ++ [_]; simp
 have huq : ∀ x ∈ (opS s (newF s gn o r sd st0 tl0 ms (.slice ha hn hc))).fs, x.blk = ((newF s gn o r sd st0 tl0 ms (.slice ha hn hc))).blk → x = (newF s gn o r sd st0 tl0 ms (.slice ha hn hc)) := fun x hx e => by
  have hx' : x ∈ s.fs ++ [(newF s gn o r sd st0 tl0 ms (.slice ha hn hc))] := hx
  rcases List.mem_append.1 hx' with hx' | hx'
  ·have q1 := HBF.out x hx'
   have q2 : x.blk = gn := e
   omega
  ·simpa using hx'
 have htr2 : 0 ≤ (opS s (newF s gn o r sd st0 tl0 ms (.slice ha hn hc))).trn ∧ (opS s (newF s gn o r sd st0 tl0 ms (.slice ha hn hc))).trn ≤ 999999 := by
  have q1 := ptT_bd o s.bg s.now (s.cnt, s.trn, s.rw)
  have q2 := ptT_bd r s.bg s.now (ptT o s.bg s.now (s.cnt, s.trn, s.rw))
  show 0 ≤ (ptT r s.bg s.now (ptT o s.bg s.now (s.cnt, s.trn, s.rw))).2.1 ∧ (ptT r s.bg s.now (ptT o s.bg s.now (s.cnt, s.trn, s.rw))).2.1 ≤ 999999
  simp only at q1 q2
  omega
 have HBC := hide (become_any base g (opS s (newF s gn o r sd st0 tl0 ms (.slice ha hn hc))) (newF s gn o r sd st0 tl0 ms (.slice ha hn hc)) 8 w8 H7.out hin huq (Nat.le_trans hbs M7.out.size) hBo hBr htr2 hnw)
 clear hin huq htr2 H7
 go_wp2_with fail
 refine (HFS.out w8).mono ?_
 rintro e w9 ⟨rfl, rfl⟩
 go_wp2_with fail
 refine HBC.out.mono ?_
 rintro e w10 ⟨rfl, mk, hG⟩
 clear k2
 go_wp2_with fail
 go_ret
 exact ⟨(newF s gn o r sd st0 tl0 ms (.slice ha hn hc)), hgn, rfl, M7.out.trans mk, rfl, rfl, rfl, rfl, rfl, rfl, rfl, hG⟩
theorem masq_some (base gr : Nat) (vr : Value) (ls : List Ru) (x : Int) (W : World) (mr : Ru) (h : RL 136 base W gr vr ls) (hok : okL ls) (hx : 0 ≤ x ∧ x ≤ 4294967295) (hn : ls.find? (mqB x) = some mr) :
  Calls Tryz.prog 228 #[.pointer (some ⟨gr, 0, none⟩), .int .u32 x] W fun e w' => e = .returned (.tuple #[.agg #[.int .i64 mr.kind, .int .u8 mr.proto, .int .u32 mr.net, .int .i64 mr.bits, .int .u32 mr.tt, .int .u16 mr.port, .int .u32 mr.host, .int .u16 mr.hp], .bool true]) ∧ Later W w' := by
 have := masq_any base (some ⟨gr, 0, none⟩) ls x W (.inr ⟨gr, vr, rfl, h⟩) hok hx
 have e1 : fnd (mqB x) ls = mr := by unfold fnd; rw [hn]; rfl
 have e2 : fdb (mqB x) ls = true := by unfold fdb; rw [hn]; rfl
 rw [e1, e2] at this
 exact this
def MqC (v : Value) (n : Nat) (wx : World) (mr : Ru) : Prop := ∃ gn, v = .pointer (some ⟨gn, 0, none⟩) ∧ n ≤ gn ∧ wx.heap[gn]? = some (.cells #[.int .i64 mr.kind, .int .u8 mr.proto, .int .u32 mr.net, .int .i64 mr.bits, .int .u32 mr.tt, .int .u16 mr.port, .int .u32 mr.host, .int .u16 mr.hp] 35 (0, 0))
def BgQ (base : Nat) (w w' : World) (g : Nat) (s : Gf) (o : Tu) (mr : Ru) (e : Ending) : Prop := ∃ (f : Fl) (pb : Nat), w.heap.size ≤ f.blk ∧ e = .returned (.pointer (some ⟨f.blk, 0, none⟩)) ∧ KG base w w' ∧ f.id = s.bg ∧ f.o = o ∧ f.r = ⟨17, o.dst, mr.tt, o.dp, (tkn s.lo s.hi o.sp.toNat : Int)⟩ ∧ f.side = 0 ∧ f.ms = -1 ∧ f.hp = noh ∧ GF base w' g (bcS (opS (withP s 17 mr.tt pb (wsR (wsOf (nums s.lo s.hi)) (tkn s.lo s.hi o.sp.toNat))) f) f 8)
structure Rdy (s : Gf) (x d : Int) (a : Nat) (b : Int) (mr : Ru) : Prop where
 ps : s.ps = []
 ok : okL s.ls
 fd : s.ls.find? (mqB x) = some mr
 hx : 0 ≤ x ∧ x ≤ 4294967295
 hd : 0 ≤ d ∧ d ≤ 4294967295
 ha : a ≤ 65535
 hb : 0 ≤ b ∧ b ≤ 65535
 tt : 0 ≤ mr.tt ∧ mr.tt ≤ 4294967295
 h1 : 1 ≤ s.lo
 h2 : s.lo ≤ s.hi
 h3 : s.hi < 65536
 s1 : (b == 5060) = false
 s2 : ((a : Int) == 5060) = false
 k1 : kx 17 x d (a : Int) b s.rw = none
 k2 : ∀ n : Nat, kx 17 d mr.tt b (n : Int) s.rw = none
 fs : s.fs.length < 64
 ne : ¬ (x = d ∧ d = mr.tt)
 tr : 0 ≤ s.trn ∧ s.trn ≤ 900000
 nw : 0 ≤ s.now ∧ s.now ≤ 549755813888
 bg : 0 ≤ s.bg ∧ s.bg ≤ 1000000
 id : ∀ y ∈ s.fs, y.id ≠ s.bg
 cn : 0 ≤ s.cnt ∧ s.cnt ≤ 1000
 ln : ∀ i, (s.rw i).length ≤ 4000
theorem BgQ.of {base g : Nat} {w w1 w' : World} {s : Gf} {o : Tu} {mr : Ru} {e : Ending} (k : KG base w w1) (h : BgQ base w1 w' g s o mr e) : BgQ base w w' g s o mr e := by
 obtain ⟨f, pb, q1, q2, q3, q⟩ := h
 exact ⟨f, pb, Nat.le_trans k.size q1, q2, k.trans q3, q⟩
theorem Ow.kg {base n0 : Nat} {W W' : World} {v : Value} {zs : List Int} (h : Ow n0 W v zs) (k : KG base W W') : Ow n0 W' v zs := by
 rcases h with h | ⟨g, cap, cur, q1, q2, q3, q4, q5, q6, q7⟩
 ·exact .inl h
 ·exact .inr ⟨g, cap, cur, q1, q2, q3, q4, q5, k.cells q6 (by decide), q7⟩
theorem KG.own {base k : Nat} {a b c : World} (h : KG base a b) (hb : But (fun q => q = k) b c) (hk : a.heap.size ≤ k) : KG base a c := ⟨hb.os.trans h.os, hb.tape.trans h.tape, hb.output.trans h.output, Nat.le_trans h.size hb.size, fun i o h1 h2 => by
 have hi := (bl9 h1)
 exact (hb.block i (Nat.lt_of_lt_of_le hi h.size) (fun e => by have e' : i = k := e; omega)).trans (h.block i o h1 h2)⟩
theorem other_no (f : Fl) (w : World) (h : w.heap[f.blk]? = some (.cells (flc f).toArray 93 (0, 0))) :
  Calls Tryz.prog 110 #[.pointer (some ⟨f.blk, 0, none⟩), .bool false] w fun e w' => e = .returned (.agg #[.int .u8 f.r.pr, .int .u32 f.r.src, .int .u32 f.r.dst, .int .u16 f.r.sp, .int .u16 f.r.dp]) ∧ Later w w' := by
 have la := later_allocG w (.cells #[.int .u8 0, .int .u32 0, .int .u32 0, .int .u16 0, .int .u16 0] 68)
 have C0 := hide (heap_alloc_new w (.cells #[.int .u8 0, .int .u32 0, .int .u32 0, .int .u16 0, .int .u16 0] 68))
 have C1 := hide (later_keep la h)
 clear h
 go_enter Tryz.func110, Tryz.ntmps110
 go_upto_region 3 with fail
 generalize w.alloc _ = w1 at *
 generalize hgx : w.heap.size = gx at C0 ⊢
 have k0 := block_cell C0.out
 have f0 := block_frozen C0.out
 have k1 := block_cell C1.out
 unfold flc at k1
 go_wp2_with fail
 generalize hV : World.setCell _ ⟨gx, 4, none⟩ _ = V8
 have hV9 : V8 = putRow w1 gx 0 [.int .u8 f.r.pr, .int .u32 f.r.src, .int .u32 f.r.dst, .int .u16 f.r.sp, .int .u16 f.r.dp] := hV.symm
 have hb8 : But (fun b => b = gx) w1 V8 := by rw [hV9]; exact putRow_but (E := fun b => b = gx) (n := gx) rfl _ _ _ _ (But.refl _ _)
 have p8 := putRow_all [.int .u8 f.r.pr, .int .u32 f.r.src, .int .u32 f.r.dst, .int .u16 f.r.sp, .int .u16 f.r.dp] C0.out rfl
 rw [← hV9] at p8
 clear hV hV9
 have P8 := block_cell p8
 exact bodyPost_ret (v := .agg #[.int .u8 f.r.pr, .int .u32 f.r.src, .int .u32 f.r.dst, .int .u16 f.r.sp, .int .u16 f.r.dp]) (by simp [results, Tryz.results110, go_sem, P8]) rfl ⟨rfl, Below.trans la (hb8.below la.size (fun k hk e => by have e' : k = gx := e; omega))⟩
theorem nohelp_any (x : Array Value) (w : World) (tos id ttl pr src dst : Int) (keep : Bool) (ao ad : Option Addr) (lo co ld cd : Nat) :
  Calls Tryz.prog 503 #[.agg #[], .agg x, .agg #[.int .u8 tos, .int .u16 id, .bool keep, .int .u8 ttl, .int .u8 pr, .int .u32 src, .int .u32 dst, .slice ao lo co, .slice ad ld cd]] w fun e w' => e = .returned (.agg #[.int .u8 tos, .int .u16 id, .bool keep, .int .u8 ttl, .int .u8 pr, .int .u32 src, .int .u32 dst, .slice ao lo co, .slice ad ld cd]) ∧ Later w w' := by
 have la := later_allocG w (.cells #[] 383)
 have lb := later_allocG (w.alloc (.cells #[] 383)) (.cells x 222)
 have lc := later_allocG ((w.alloc (.cells #[] 383)).alloc (.cells x 222)) (.cells #[.int .u8 tos, .int .u16 id, .bool keep, .int .u8 ttl, .int .u8 pr, .int .u32 src, .int .u32 dst, .slice ao lo co, .slice ad ld cd] 56)
 have c0 := heap_alloc_new ((w.alloc (.cells #[] 383)).alloc (.cells x 222)) (.cells #[.int .u8 tos, .int .u16 id, .bool keep, .int .u8 ttl, .int .u8 pr, .int .u32 src, .int .u32 dst, .slice ao lo co, .slice ad ld cd] 56)
 have hsz : ((w.alloc (.cells #[] 383)).alloc (.cells x 222)).heap.size = w.heap.size + 1 + 1 := by simp
 rw [hsz] at c0
 have L2 := la.trans (lb.trans lc)
 have ld' := later_allocG (((w.alloc (.cells #[] 383)).alloc (.cells x 222)).alloc (.cells #[.int .u8 tos, .int .u16 id, .bool keep, .int .u8 ttl, .int .u8 pr, .int .u32 src, .int .u32 dst, .slice ao lo co, .slice ad ld cd] 56)) (.cells #[.int .u8 0, .int .u16 0, .bool false, .int .u8 0, .int .u8 0, .int .u32 0, .int .u32 0, .slice none 0 0, .slice none 0 0] 56)
 have c1 := heap_alloc_new (((w.alloc (.cells #[] 383)).alloc (.cells x 222)).alloc (.cells #[.int .u8 tos, .int .u16 id, .bool keep, .int .u8 ttl, .int .u8 pr, .int .u32 src, .int .u32 dst, .slice ao lo co, .slice ad ld cd] 56)) (.cells #[.int .u8 0, .int .u16 0, .bool false, .int .u8 0, .int .u8 0, .int .u32 0, .int .u32 0, .slice none 0 0, .slice none 0 0] 56)
 have hsz2 : (((w.alloc (.cells #[] 383)).alloc (.cells x 222)).alloc (.cells #[.int .u8 tos, .int .u16 id, .bool keep, .int .u8 ttl, .int .u8 pr, .int .u32 src, .int .u32 dst, .slice ao lo co, .slice ad ld cd] 56)).heap.size = w.heap.size + 1 + 1 + 1 := by simp
 rw [hsz2] at c1
 have C0 := hide (later_keep ld' c0)
 have C1 := hide c1
 have LL := hide (L2.trans ld')
 clear la lb lc ld' c0 c1 hsz hsz2 L2
 go_enter Tryz.func503, Tryz.ntmps503
 go_upto_region 1 with fail
 generalize hw1 : World.alloc _ _ = w1 at *
 clear hw1
 generalize hgx : w.heap.size = g0 at C0 C1 ⊢
 have k0 := block_cell C0.out
 have k1 := block_cell C1.out
 have f1 := block_frozen C1.out
 go_wp2_with fail
 generalize hV : World.setCell _ ⟨_, 8, none⟩ _ = V8
 have hV9 : V8 = putRow w1 (g0 + 1 + 1 + 1) 0 [.int .u8 tos, .int .u16 id, .bool keep, .int .u8 ttl, .int .u8 pr, .int .u32 src, .int .u32 dst, .slice ao lo co, .slice ad ld cd] := hV.symm
 have hb8 : But (fun b => b = g0 + 1 + 1 + 1) w1 V8 := by rw [hV9]; exact putRow_but (E := fun b => b = g0 + 1 + 1 + 1) (n := g0 + 1 + 1 + 1) rfl _ _ _ _ (But.refl _ _)
 have p8 := putRow_all [.int .u8 tos, .int .u16 id, .bool keep, .int .u8 ttl, .int .u8 pr, .int .u32 src, .int .u32 dst, .slice ao lo co, .slice ad ld cd] C1.out rfl
 rw [← hV9] at p8
 clear hV hV9
 have P8 := block_cell p8
 exact bodyPost_ret (v := .agg #[.int .u8 tos, .int .u16 id, .bool keep, .int .u8 ttl, .int .u8 pr, .int .u32 src, .int .u32 dst, .slice ao lo co, .slice ad ld cd]) (by simp [results, Tryz.results503, go_sem, P8]) rfl ⟨rfl, Below.trans LL.out (hb8.below LL.out.size (fun k hk e => by have e' : k = g0 + 1 + 1 + 1 := e; omega))⟩
theorem meth_noh (k : Nat) (W : World) : Sem.run Tryz.prog (Go.method (k + 1) 383 (.agg #[]) "lychgate/gate.change") W = .ok (503, .agg #[]) W := by kernel_rfl
def SrE (p a : Int) : Prop := ∀ w : World, (Op.equal 187 (.agg #[.int .u8 p, .int .u32 a]) (.agg #[.int .u8 p, .int .u32 a])).run Tryz.prog w = .ok true w
theorem srE_17 : SrE 17 16909060 := fun w => by kernel_rfl
theorem find_src (p a : Int) (hE : SrE p a) (v : Value) (bn : Nat) (w : World) : (Instr.findKey 187 (.agg #[.int .u8 p, .int .u32 a]) [⟨.agg #[.int .u8 p, .int .u32 a], v, bn⟩]).run Tryz.prog w = .ok (some (0, v)) w := by
 simp [Instr.findKey, run_underlying Tryz.underlying187, Instr.findNow, Instr.sameNow, Instr.findAsking, hE w, Result.andThen]
theorem look_src_yes {w : World} {b c bn : Nat} (p a : Int) (hE : SrE p a) (v : Value) (hb : w.heap[b]? = some (.map #[⟨.agg #[.int .u8 p, .int .u32 a], v, bn⟩] c)) : (Instr.lookup 79 (.map (some b)) (.agg #[.int .u8 p, .int .u32 a]) false).run Tryz.prog w = .ok v w := by
 simp [Instr.lookup, run_underlying Tryz.underlying79, MapKept.run_getObj_map hb, ck_src, find_src p a hE, Result.andThen]
def oldP (s : Gf) (pr ad : Int) (b : Nat) (ws : Nat → Nat) : Gf := { s with ps := [⟨pr, ad, b, ws⟩] }
theorem pe_one {s : Gf} {base g : Nat} {W : World} (h : GF base W g s) {pr ad : Int} {b : Nat} {ws : Nat → Nat} (hp : s.ps = [⟨pr, ad, b, ws⟩]) : ∃ bn, s.pe = #[⟨.agg #[.int .u8 pr, .int .u32 ad], .pointer (some ⟨b, 0, none⟩), bn⟩] := by
 have hm := h.pm
 rw [hp] at hm
 obtain ⟨e, hq⟩ : ∃ e, s.pe.toList = [e] := by
  have hl := congrArg List.length hm
  rw [List.length_map] at hl
  exact List.length_eq_one_iff.1 hl
 rw [hq] at hm
 have h1 : (e.key, e.val) = plE ⟨pr, ad, b, ws⟩ := by simpa using hm
 have h2 : e.key = .agg #[.int .u8 pr, .int .u32 ad] := congrArg Prod.fst h1
 have h3 : e.val = .pointer (some ⟨b, 0, none⟩) := congrArg Prod.snd h1
 refine ⟨e.born, ?_⟩
 have h4 : s.pe = #[e] := by rw [← Array.toArray_toList (xs := s.pe), hq]
 rw [h4, ← h2, ← h3]
theorem GF.poolO {base g : Nat} {W W' : World} {s : Gf} {pr ad : Int} {b : Nat} {ws ws' : Nat → Nat} (h : GF base W g s) (hps : s.ps = [⟨pr, ad, b, ws⟩]) (hb : But (fun x => x = b) W W') (hp : PB base W' b (s.lo : Int) (s.hi : Int) ws') : GF base W' g (oldP s pr ad b ws') := by
 have hP := h.pb ⟨pr, ad, b, ws⟩ (by rw [hps]; simp)
 have hE := TE.one hP.2.2
 obtain ⟨k1, k2, k3, k4, k5, k6⟩ := h.keep hE hb (by decide)
 refine ⟨h.bs, k1, k2, k3, k4, k5, k6, h.ne, h.bf, h.fm, ?_, fun f hf => ⟨(h.fb f hf).1, hE.keep hb (h.fb f hf).2 (isT_no (by decide) _ _)⟩, fun p hp' => ?_⟩
 ·have := h.pm
  rw [hps] at this
  exact this
 ·have e : p = ⟨pr, ad, b, ws'⟩ := by simpa [oldP] using hp'
  subst e
  exact hp
theorem gpool_old (base g : Nat) (s : Gf) (pr ad : Int) (pb : Nat) (ws : Nat → Nat) (w : World) (h : GF base w g s) (hps : s.ps = [⟨pr, ad, pb, ws⟩]) (hE : SrE pr ad) :
  Calls Tryz.prog 139 #[.pointer (some ⟨g, 0, none⟩), .agg #[.int .u8 pr, .int .u32 ad]] w fun e w' => e = .returned (.pointer (some ⟨pb, 0, none⟩)) ∧ Later w w' := by
 have l0 := later_allocG w (.cells #[.int .u8 pr, .int .u32 ad] 187)
 have C0 := hide (heap_alloc_new w (.cells #[.int .u8 pr, .int .u32 ad] 187))
 have H1 := hide (h.later l0)
 obtain ⟨bn, hpe⟩ := pe_one h hps
 have HPE := hide hpe
 clear h hps hpe
 go_enter Tryz.func139, Tryz.ntmps139
 go_upto_region 1 with fail
 generalize w.alloc _ = w1 at *
 generalize hgx : w.heap.size = gx at C0 ⊢
 refine anyT_begin (R := Later) 7 rfl (by kernel_rfl) ?_
 have ld : Later w1 w1.drew := Later.drew w1
 generalize w1.drew = w2 at *
 have L2 : Later w w2 := Later.trans l0 ld
 have H2 := hide (H1.out.later ld)
 have C2 := hide (later_keep ld C0.out)
 clear H1 C0 l0 ld
 have q0 : ∀ v, Later w2 v → ∀ j, v.cell? ⟨gx, j, none⟩ = #[.int .u8 pr, .int .u32 ad][j]? := fun v hv => block_cell (later_keep hv C2.out)
 have q1 : ∀ v, Later w2 v → ∀ j, v.cell? ⟨g, j, none⟩ = (gfc s).toArray[j]? := fun v hv => block_cell (later_keep hv H2.out.gc)
 unfold gfc at q1
 have q2 : ∀ v, Later w2 v → (Instr.lookup 79 (.map (some s.gp)) (.agg #[.int .u8 pr, .int .u32 ad]) false).run Tryz.prog v = .ok (.pointer (some ⟨pb, 0, none⟩)) v := fun v hv => look_src_yes pr ad hE _ (by rw [← HPE.out]; exact later_keep hv H2.out.pl)
 refine tV Later.pre 0 rfl rfl ⟨_, fun v h => by (go_simp; rfl), ?_⟩; simp only [Act.put, sA, sB, sC]
 refine tV Later.pre 1 rfl rfl ⟨_, fun v h => by (go_simp; rfl), ?_⟩; simp only [Act.put, sA, sB, sC]
 refine tV Later.pre 2 rfl rfl ⟨_, fun v h => by (go_simp; rfl), ?_⟩; simp only [Act.put, sA, sB, sC]
 refine tV Later.pre 3 rfl rfl ⟨_, fun v h => by (go_simp; rfl), ?_⟩; simp only [Act.put, sA, sB, sC]
 refine tV Later.pre 4 rfl rfl ⟨_, fun v h => by (go_simp; rfl), ?_⟩; simp only [Act.put, sA, sB, sC]
 refine tV Later.pre 5 rfl rfl ⟨_, fun v h => by (go_simp; rfl), ?_⟩; simp only [Act.put, sA, sB, sC]
 refine tV Later.pre 6 rfl rfl ⟨_, fun v h => by (go_simp; rfl), ?_⟩; simp only [Act.put, sA, sB, sC]
 clear q0 q1 q2
 refine anyT_done (by kernel_rfl) ?_
 go_wp2_with fail
 go_ret
 exact ⟨rfl, L2⟩
def ToQ (base : Nat) (w w' : World) (g : Nat) (s : Gf) (pr ad : Int) (pb : Nat) (ws : Nat → Nat) (wish : Nat) (e : Ending) : Prop := (fsb (fr ws wish) (els ws) = true ∧ e = .returned (.tuple #[.agg #[.int .u8 pr, .int .u32 ad, .int .u16 (fsn (fr ws wish) wish (els ws) : Nat)], .bool true]) ∧ But (fun b => b = pb) w w' ∧ GF base w' g (oldP s pr ad pb (wsR ws (fsn (fr ws wish) wish (els ws))))) ∨ (fsb (fr ws wish) (els ws) = false ∧ e = .returned (.tuple #[.agg #[.int .u8 pr, .int .u32 ad, .int .u16 (fsn (fr ws wish) wish (els ws) : Nat)], .bool false]) ∧ Later w w')
theorem later_of_same {W W' : World} {b : Nat} (h : But (fun x => x = b) W W') (e : W'.heap[b]? = W.heap[b]?) : Later W W' := ⟨h.os, h.tape, h.output, h.size, fun i hi => by
 by_cases q : i = b
 ·rw [q]; exact e
 ·exact h.block i hi q⟩
theorem gtake_old (base g : Nat) (s : Gf) (pr ad : Int) (pb : Nat) (ws : Nat → Nat) (wish : Nat) (w : World) (h : GF base w g s) (hps : s.ps = [⟨pr, ad, pb, ws⟩]) (hE : SrE pr ad) (hw : wish < 65536) (hbs : base ≤ w.heap.size) (hz : ∀ W, Later w W → Dz W) (hg : 1 ≤ pb) :
  Calls Tryz.prog 229 #[.pointer (some ⟨g, 0, none⟩), .agg #[.int .u8 pr, .int .u32 ad], .int .u16 (wish : Int)] w fun e w' => ToQ base w w' g s pr ad pb ws wish e := by
 obtain ⟨l0, c0, c1⟩ := alloc2 w (.cells #[.int .u8 pr, .int .u32 ad] 187) (.cells #[.int .u8 0, .int .u32 0, .int .u16 0] 189)
 have C0 := hide c0
 have C1 := hide c1
 have HPL := hide (gpool_old base g s pr ad pb ws _ (h.later l0) hps hE)
 have hPB := h.pb ⟨pr, ad, pb, ws⟩ (by rw [hps]; simp)
 have HPB := hide hPB
 have hpbl : pb < w.heap.size := hPB.lt
 have HPS := hide hps
 have HH := hide h
 have HZ := hide hz
 clear c0 c1 h hps hPB hz
 go_enter Tryz.func229, Tryz.ntmps229
 go_upto_region 1 with fail
 generalize (w.alloc (.cells #[.int .u8 pr, .int .u32 ad] 187)).alloc (.cells #[.int .u8 0, .int .u32 0, .int .u16 0] 189) = w1 at *
 generalize hgx : w.heap.size = gx at C0 C1 ⊢
 have k0 := block_cell C0.out
 have hs1 : w.heap.size ≤ w1.heap.size := l0.size
 go_wp2_with fail
 refine HPL.out.mono ?_
 rintro e w2 ⟨rfl, l2⟩
 clear k0 HPL
 have D0 := hide (later_keep l2 C0.out)
 have D1 := hide (later_keep l2 C1.out)
 have L2 : Later w w2 := l0.trans l2
 have HTK := hide (take8_any base pb s.lo s.hi ws wish w2 (HPB.out.later L2) hw (HZ.out w2 L2) hg)
 clear C0 C1 l2 HZ
 generalize hn : fsn (fr ws wish) wish (els ws) = n at *
 generalize hf : fsb (fr ws wish) (els ws) = fb at *
 have HN := hide hn
 have HF := hide hf
 unfold tke tkP at HTK
 rw [hf] at HTK
 clear hn hf
 cases fb with
 | true =>
  simp only [if_true] at HTK
  go_wp2_with fail
  refine HTK.out.mono ?_
  rintro e w3 ⟨rfl, hP3, m3⟩
  have hP3' : PB base w3 pb (s.lo : Int) (s.hi : Int) (wsR ws n) := by
   rcases hP3 with ⟨hf, _⟩ | ⟨_, hp⟩
   ·cases hf
   ·exact hp
  have h3' := (HH.out.later L2).poolO HPS.out m3 hP3'
  have E0 := hide ((m3.block gx (bl9 D0.out) (fun e => by have e' : gx = pb := e; omega)).trans D0.out)
  have E1 := hide ((m3.block (gx + 1) (bl9 D1.out) (fun e => by have e' : gx + 1 = pb := e; omega)).trans D1.out)
  have M3 : But (fun b => b = pb) w w3 := (But.of L2).trans m3
  clear HTK hP3 m3 D0 D1
  have k0 := block_cell E0.out
  have k1 := block_cell E1.out
  have f1 := block_frozen E1.out
  go_wp2_with fail
  generalize hV : World.setCell _ ⟨gx + 1, 2, none⟩ _ = V8
  have hV9 : V8 = putRow w3 (gx + 1) 0 [.int .u8 pr, .int .u32 ad, .int .u16 (n : Int)] := hV.symm
  have hb8 : But (fun b => b = gx + 1) w3 V8 := by rw [hV9]; exact putRow_but (E := fun b => b = gx + 1) (n := gx + 1) rfl _ _ _ _ (But.refl _ _)
  have p8 := putRow_all [.int .u8 pr, .int .u32 ad, .int .u16 (n : Int)] E1.out rfl
  rw [← hV9] at p8
  clear hV hV9
  have P8 := block_cell p8
  have h8 := h3'.other (TE.one E1.out) hb8 (by decide)
  have M8 : But (fun b => b = pb) w V8 := ⟨hb8.os.trans M3.os, hb8.tape.trans M3.tape, hb8.output.trans M3.output, Nat.le_trans M3.size hb8.size, fun i hi he => (hb8.block i (Nat.lt_of_lt_of_le hi M3.size) (fun e => by have e' : i = gx + 1 := e; omega)).trans (M3.block i hi he)⟩
  exact bodyPost_ret (v := .tuple #[.agg #[.int .u8 pr, .int .u32 ad, .int .u16 (n : Int)], .bool true]) (by simp [results, Tryz.results229, go_sem, P8]) rfl (.inl ⟨HF.out, by rw [HN.out], M8, by rw [HN.out]; exact h8⟩)
 | false =>
  simp only [Bool.false_eq_true, if_false] at HTK
  go_wp2_with fail
  refine HTK.out.mono ?_
  rintro e w3 ⟨rfl, hP3, m3⟩
  have hP3' : PB base w3 pb (s.lo : Int) (s.hi : Int) ws := by
   rcases hP3 with ⟨_, hp⟩ | ⟨hf, _⟩
   ·exact hp
   ·cases hf
  have L3 : Later w w3 := L2.trans (later_of_same m3 (hP3'.2.2.trans (HPB.out.later L2).2.2.symm))
  have E0 := hide ((m3.block gx (bl9 D0.out) (fun e => by have e' : gx = pb := e; omega)).trans D0.out)
  have E1 := hide ((m3.block (gx + 1) (bl9 D1.out) (fun e => by have e' : gx + 1 = pb := e; omega)).trans D1.out)
  clear HTK hP3 m3 D0 D1
  have k0 := block_cell E0.out
  have k1 := block_cell E1.out
  have f1 := block_frozen E1.out
  go_wp2_with fail
  generalize hV : World.setCell _ ⟨gx + 1, 2, none⟩ _ = V8
  have hV9 : V8 = putRow w3 (gx + 1) 0 [.int .u8 pr, .int .u32 ad, .int .u16 (n : Int)] := hV.symm
  have hb8 : But (fun b => b = gx + 1) w3 V8 := by rw [hV9]; exact putRow_but (E := fun b => b = gx + 1) (n := gx + 1) rfl _ _ _ _ (But.refl _ _)
  have p8 := putRow_all [.int .u8 pr, .int .u32 ad, .int .u16 (n : Int)] E1.out rfl
  rw [← hV9] at p8
  clear hV hV9
  have P8 := block_cell p8
  have L8 : Later w V8 := ⟨hb8.os.trans L3.os, hb8.tape.trans L3.tape, hb8.output.trans L3.output, Nat.le_trans L3.size hb8.size, fun i hi => (hb8.block i (Nat.lt_of_lt_of_le hi L3.size) (fun e => by have e' : i = gx + 1 := e; omega)).trans (L3.block i hi)⟩
  exact bodyPost_ret (v := .tuple #[.agg #[.int .u8 pr, .int .u32 ad, .int .u16 (n : Int)], .bool false]) (by simp [results, Tryz.results229, go_sem, P8]) rfl (.inr ⟨HF.out, by rw [HN.out], L8⟩)
abbrev TkP := Nat → List Pl → Array MapEntry → Nat → Prop
def setP (s : Gf) (ps : List Pl) (pe : Array MapEntry) (cp : Nat) : Gf := { s with ps := ps, pe := pe, cp := cp }
def TkQ (base : Nat) (w w' : World) (g : Nat) (s : Gf) (pr ad : Int) (TQ : TkP) (e : Ending) : Prop := ∃ (n : Nat) (ps : List Pl) (pe : Array MapEntry) (cp : Nat), e = .returned (.tuple #[.agg #[.int .u8 pr, .int .u32 ad, .int .u16 (n : Int)], .bool true]) ∧ But (fun b => b = s.gp ∨ ∃ p ∈ s.ps, p.blk = b) w w' ∧ GF base w' g (setP s ps pe cp) ∧ n < 65536 ∧ TQ n ps pe cp
def HvOk (W : World) (f : Fl) (ad : Int) (n : Nat) : Prop := ∃ hb : Nat, f.hv = .slice (some ⟨hb, 0, none⟩) 1 1 ∧ W.heap[hb]? = some (.cells #[.int .u8 17, .int .u32 ad, .int .u16 (n : Int)] 189 (0, 0))
theorem HvOk.kg {base : Nat} {A B : World} {f : Fl} {ad : Int} {n : Nat} (h : HvOk A f ad n) (k : KG base A B) : HvOk B f ad n := by
 obtain ⟨hb, e, hh⟩ := h
 exact ⟨hb, e, k.cells hh (by decide)⟩
def FbF (s : Gf) (o : Tu) (mr : Ru) (n : Nat) (f : Fl) : Prop := f.id = s.bg ∧ f.o = o ∧ f.r = ⟨17, o.dst, mr.tt, o.dp, (n : Int)⟩ ∧ f.side = 0 ∧ f.ms = -1 ∧ f.hp = noh
def BgG (base : Nat) (w w' : World) (g : Nat) (s : Gf) (o : Tu) (mr : Ru) (TQ : TkP) (e : Ending) : Prop := ∃ (f : Fl) (n : Nat) (ps : List Pl) (pe : Array MapEntry) (cp : Nat), w.heap.size ≤ f.blk ∧ e = .returned (.pointer (some ⟨f.blk, 0, none⟩)) ∧ KG base w w' ∧ f.id = s.bg ∧ f.o = o ∧ f.r = ⟨17, o.dst, mr.tt, o.dp, (n : Int)⟩ ∧ f.side = 0 ∧ f.ms = -1 ∧ f.hp = noh ∧ GF base w' g (bcS (opS (setP s ps pe cp) f) f 8) ∧ TQ n ps pe cp ∧ n < 65536 ∧ HvOk w' f mr.tt n
structure RdG (s : Gf) (x d : Int) (a : Nat) (b : Int) (mr : Ru) (TQ : TkP) : Prop where
 ok : okL s.ls
 fd : s.ls.find? (mqB x) = some mr
 hx : 0 ≤ x ∧ x ≤ 4294967295
 hd : 0 ≤ d ∧ d ≤ 4294967295
 ha : a ≤ 65535
 hb : 0 ≤ b ∧ b ≤ 65535
 tt : 0 ≤ mr.tt ∧ mr.tt ≤ 4294967295
 s1 : (b == 5060) = false
 s2 : ((a : Int) == 5060) = false
 k1 : kx 17 x d (a : Int) b s.rw = none
 k2 : ∀ (n : Nat) ps pe cp, TQ n ps pe cp → kx 17 d mr.tt b (n : Int) s.rw = none
 fs : s.fs.length < 64
 ne : ¬ (x = d ∧ d = mr.tt)
 tr : 0 ≤ s.trn ∧ s.trn ≤ 900000
 nw : 0 ≤ s.now ∧ s.now ≤ 549755813888
 bg : 0 ≤ s.bg ∧ s.bg ≤ 1000000
 id : ∀ y ∈ s.fs, y.id ≠ s.bg
 cn : 0 ≤ s.cnt ∧ s.cnt ≤ 1000
 ln : ∀ i, (s.rw i).length ≤ 4000
def TkH (base : Nat) (w : World) (g : Nat) (s : Gf) (a : Nat) (mr : Ru) (TQ : TkP) : Prop := ∀ W, GF base W g s → KG base w W → Calls Tryz.prog 229 #[.pointer (some ⟨g, 0, none⟩), .agg #[.int .u8 17, .int .u32 mr.tt], .int .u16 (a : Int)] W fun e w' => TkQ base W w' g s 17 mr.tt TQ e
theorem TkH.kg {base : Nat} {w w1 : World} {g : Nat} {s : Gf} {a : Nat} {mr : Ru} {TQ : TkP} (h : TkH base w g s a mr TQ) (k : KG base w w1) : TkH base w1 g s a mr TQ := fun W hg k2 => h W hg (k.trans k2)
theorem beginInside_g (base g : Nat) (s : Gf) (tos id ttl pr src dst : Int) (keep : Bool) (so sd : Value) (side : Int) (x d : Int) (a : Nat) (b : Int) (mr : Ru) (TQ : TkP) (w : World) (h : GF base w g s) (hok : okL s.ls) (hmr : s.ls.find? (mqB x) = some mr) (hbs : base ≤ w.heap.size) (hx : 0 ≤ x ∧ x ≤ 4294967295) (hd : 0 ≤ d ∧ d ≤ 4294967295) (ha : a ≤ 65535) (hb : 0 ≤ b ∧ b ≤ 65535) (htt : 0 ≤ mr.tt ∧ mr.tt ≤ 4294967295)
  (hTK : ∀ W, GF base W g s → KG base w W → Calls Tryz.prog 229 #[.pointer (some ⟨g, 0, none⟩), .agg #[.int .u8 17, .int .u32 mr.tt], .int .u16 (a : Int)] W fun e w' => TkQ base W w' g s 17 mr.tt TQ e) (hs1 : (b == 5060) = false) (hs2 : ((a : Int) == 5060) = false)
  (hk1 : kx 17 x d (a : Int) b s.rw = none) (hk2 : ∀ (n : Nat) ps pe cp, TQ n ps pe cp → kx 17 d mr.tt b (n : Int) s.rw = none) (hfs : s.fs.length < 64) (hne : ¬ (x = d ∧ d = mr.tt)) (htr : 0 ≤ s.trn ∧ s.trn ≤ 900000) (hnw : 0 ≤ s.now ∧ s.now ≤ 549755813888) (hbg : 0 ≤ s.bg ∧ s.bg ≤ 1000000) (hid : ∀ y ∈ s.fs, y.id ≠ s.bg) (hcn : 0 ≤ s.cnt ∧ s.cnt ≤ 1000) (hln : ∀ i, (s.rw i).length ≤ 4000) :
  Calls Tryz.prog 193 #[.agg #[.pointer (some ⟨g, 0, none⟩), .int .u8 tos, .int .u16 id, .bool keep, .int .u8 ttl, .int .u8 pr, .int .u32 src, .int .u32 dst, so, sd, .int .i64 side], .agg #[.int .u8 17, .int .u32 x, .int .u32 d, .int .u16 (a : Int), .int .u16 b]] w fun e w' => BgG base w w' g s ⟨17, x, d, (a : Int), b⟩ mr TQ e := by
 obtain ⟨l0, c0, c1⟩ := alloc2 w (.cells #[.pointer (some ⟨g, 0, none⟩), .int .u8 tos, .int .u16 id, .bool keep, .int .u8 ttl, .int .u8 pr, .int .u32 src, .int .u32 dst, so, sd, .int .i64 side] 149) (.cells #[.int .u8 17, .int .u32 x, .int .u32 d, .int .u16 (a : Int), .int .u16 b] 68)
 have C0 := hide c0
 have C1 := hide c1
 have CG := hide (later_keep l0 h.gc)
 have HG := hide (h.later l0)
 have HMQ := hide (fun W (l : Later w W) => masq_some base s.gr s.vr s.ls x W mr (h.rl.later l) hok hx hmr)
 have HTK := hide hTK
 have HGL := hide (bl9 h.pl)
 clear c0 c1 h hok hmr hTK
 go_enter Tryz.func193, Tryz.ntmps193
 go_upto_region 1 with fail
 generalize (w.alloc (.cells #[.pointer (some ⟨g, 0, none⟩), .int .u8 tos, .int .u16 id, .bool keep, .int .u8 ttl, .int .u8 pr, .int .u32 src, .int .u32 dst, so, sd, .int .i64 side] 149)).alloc (.cells #[.int .u8 17, .int .u32 x, .int .u32 d, .int .u16 (a : Int), .int .u16 b] 68) = w1 at *
 generalize hgx : w.heap.size = gx at C0 C1 ⊢
 have LW0 : Later w w1 := l0
 go_cut [5, 6] (fun v c wx => MqC v w1.heap.size wx mr ∧ c = .bool true ∧ Hid (Later w1 wx))
 case first =>
  refine wp_calmG ?_
  refine anyU_begin (R1 := Later) (R2 := fun _ _ => True) (D := [12]) 14 rfl (by kernel_rfl) ?_
  have ld : Later w1 w1.drew := Later.drew w1
  generalize w1.drew = Wd at *
  have LWd : Later w Wd := LW0.trans ld
  have q0 : ∀ v1, Later Wd v1 → ∀ j, v1.cell? ⟨gx, j, none⟩ = #[.pointer (some ⟨g, 0, none⟩), .int .u8 tos, .int .u16 id, .bool keep, .int .u8 ttl, .int .u8 pr, .int .u32 src, .int .u32 dst, so, sd, .int .i64 side][j]? := fun v1 hv => block_cell (later_keep (ld.trans hv) C0.out)
  have q1 : ∀ v1, Later Wd v1 → ∀ j, v1.cell? ⟨gx + 1, j, none⟩ = #[.int .u8 17, .int .u32 x, .int .u32 d, .int .u16 (a : Int), .int .u16 b][j]? := fun v1 hv => block_cell (later_keep (ld.trans hv) C1.out)
  have q2 : ∀ v1, Later Wd v1 → ∀ j, v1.cell? ⟨g, j, none⟩ = (gfc s).toArray[j]? := fun v1 hv => block_cell (later_keep (ld.trans hv) CG.out)
  unfold gfc at q2
  refine uV Later.pre 0 [1, 2, 3, 4, 7, 8, 9, 10, 12, 13] rfl (by rfl) (by rfl) (by rfl) ⟨_, fun v h => by (go_simp; rfl), ?_⟩; simp only [Act.put, sA, sB, sC]
  refine uV Later.pre 1 [2, 3, 4, 7, 8, 9, 10, 12, 13] rfl (by rfl) (by rfl) (by rfl) ⟨_, fun v h => by (go_simp; rfl), ?_⟩; simp only [Act.put, sA, sB, sC]
  refine uV Later.pre 2 [3, 4, 7, 8, 9, 10, 12, 13] rfl (by rfl) (by rfl) (by rfl) ⟨_, fun v h => by (go_simp; rfl), ?_⟩; simp only [Act.put, sA, sB, sC]
  refine uV Later.pre 3 [4, 7, 8, 9, 10, 12, 13] rfl (by rfl) (by rfl) (by rfl) ⟨_, fun v h => by (go_simp; rfl), ?_⟩; simp only [Act.put, sA, sB, sC]
  refine uV Later.pre 4 [7, 8, 9, 10, 12, 13] rfl (by rfl) (by rfl) (by rfl) ⟨_, fun v h => by (go_simp; rfl), ?_⟩; simp only [Act.put, sA, sB, sC]
  refine uV Later.pre 5 [6, 7, 8, 9, 10, 12, 13] rfl (by rfl) (by rfl) (by rfl) ⟨_, fun v h => by (go_simp; rfl), ?_⟩; simp only [Act.put, sA, sB, sC]
  refine uV Later.pre 6 [7, 8, 9, 10, 12, 13] rfl (by rfl) (by rfl) (by rfl) ⟨_, fun v h => by (go_simp; rfl), ?_⟩; simp only [Act.put, sA, sB, sC]
  clear q0 q1 q2
  refine anyU_two 7 11 rfl rfl (by kernel_rfl) (by rfl) (by rfl) ?ca ?al
  case ca =>
   refine wp_enter 228 #[.pointer (some ⟨s.gr, 0, none⟩), .int .u32 x] (by go_simp) ?_
   refine (HMQ.out Wd LWd).mono ?_
   rintro e W1 ⟨rfl, l1⟩
   refine ⟨Rj_out (by rfl) l1, ?_⟩
   simp only [Act.put, sA, sB, sC]
   refine uV Later.pre 8 [9, 10, 12, 13] rfl (by rfl) (by rfl) (by rfl) ⟨_, fun v h => by (go_simp; rfl), ?_⟩; simp only [Act.put, sA, sB, sC]
   refine uV Later.pre 9 [12, 13] rfl (by rfl) (by rfl) (by rfl) ⟨_, fun v h => by (go_simp; rfl), ?_⟩; simp only [Act.put, sA, sB, sC]
   have HSZ := (ld.trans l1).size
   refine anyU_two 10 11 rfl rfl (by kernel_rfl) (by rfl) (by rfl) ?xt1011 ?yt1011
   case xt1011 =>
    refine wp_value (w' := W1) (.bool true) (by go_simp) ?_
    refine ⟨Rj_out (by rfl) (Later.refl _), ?_⟩
    simp only [Act.put, sA, sB, sC]
    refine anyU_one 11 rfl (by kernel_rfl) (by rfl) ?_
    have la := later_allocG W1 (.cells #[.int .i64 0, .int .u8 0, .int .u32 0, .int .i64 0, .int .u32 0, .int .u16 0, .int .u32 0, .int .u16 0] 35)
    have HA0 := heap_alloc_new W1 (.cells #[.int .i64 0, .int .u8 0, .int .u32 0, .int .i64 0, .int .u32 0, .int .u16 0, .int .u32 0, .int .u16 0] 35)
    unfold Oper.wp
    go_simp
    refine ⟨Rj_out (by rfl) la, ?_⟩
    change wpAnyU _ _ _ _ _ _ _ _ _ _ (W1.alloc (.cells #[.int .i64 0, .int .u8 0, .int .u32 0, .int .i64 0, .int .u32 0, .int .u16 0, .int .u32 0, .int .u16 0] 35))
    have hgn : w1.heap.size ≤ W1.heap.size := HSZ
    generalize W1.alloc (.cells #[.int .i64 0, .int .u8 0, .int .u32 0, .int .i64 0, .int .u32 0, .int .u16 0, .int .u32 0, .int .u16 0] 35) = W5 at *
    generalize W1.heap.size = gn at *
    have HA := HA0
    have LL := ld.trans (l1.trans la)
    refine anyU_one 12 rfl (by kernel_rfl) (by rfl) ?_
    have kA := block_cell HA
    have fA := block_frozen HA
    unfold Oper.wp
    go_simp
    refine ⟨Rj_in (by rfl) trivial, ?_⟩
    clear kA fA
    generalize hV : World.setCell _ ⟨gn, 7, none⟩ _ = V8
    have hV9 : V8 = putRow W5 gn 0 [.int .i64 mr.kind, .int .u8 mr.proto, .int .u32 mr.net, .int .i64 mr.bits, .int .u32 mr.tt, .int .u16 mr.port, .int .u32 mr.host, .int .u16 mr.hp] := hV.symm
    have hb8 : But (fun b => b = gn) W5 V8 := by rw [hV9]; exact putRow_but (E := fun b => b = gn) (n := gn) rfl _ _ _ _ (But.refl _ _)
    have p8 := putRow_all [.int .i64 mr.kind, .int .u8 mr.proto, .int .u32 mr.net, .int .i64 mr.bits, .int .u32 mr.tt, .int .u16 mr.port, .int .u32 mr.host, .int .u16 mr.hp] HA rfl
    rw [← hV9] at p8
    have PP := hide p8
    clear hV hV9 p8
    have BB := hide (Below.trans LL (hb8.below LL.size (fun k h e => by omega)))
    refine anyU_one 13 rfl (by kernel_rfl) (by rfl) ?_
    refine wp_value (w' := V8) (.bool true) (by go_simp) ?_
    refine ⟨Rj_out (by rfl) (Later.refl _), ?_⟩
    simp only [Act.put, sA, sB, sC]
    refine anyU_done (by kernel_rfl) ?_
    refine ⟨rfl, ?_⟩
    go_wp2_with fail
    go_meet
    case rel => exact ⟨⟨gn, rfl, hgn, PP.out⟩, rfl, BB⟩
   case yt1011 =>
    have la := later_allocG W1 (.cells #[.int .i64 0, .int .u8 0, .int .u32 0, .int .i64 0, .int .u32 0, .int .u16 0, .int .u32 0, .int .u16 0] 35)
    have HA0 := heap_alloc_new W1 (.cells #[.int .i64 0, .int .u8 0, .int .u32 0, .int .i64 0, .int .u32 0, .int .u16 0, .int .u32 0, .int .u16 0] 35)
    unfold Oper.wp
    go_simp
    refine ⟨Rj_out (by rfl) la, ?_⟩
    change wpAnyU _ _ _ _ _ _ _ _ _ _ (W1.alloc (.cells #[.int .i64 0, .int .u8 0, .int .u32 0, .int .i64 0, .int .u32 0, .int .u16 0, .int .u32 0, .int .u16 0] 35))
    have hgn : w1.heap.size ≤ W1.heap.size := HSZ
    generalize W1.alloc (.cells #[.int .i64 0, .int .u8 0, .int .u32 0, .int .i64 0, .int .u32 0, .int .u16 0, .int .u32 0, .int .u16 0] 35) = W5 at *
    generalize W1.heap.size = gn at *
    have HA := HA0
    have LL := ld.trans (l1.trans la)
    refine anyU_two 10 12 rfl rfl (by kernel_rfl) (by rfl) (by rfl) ?xt1012 ?yt1012
    case xt1012 =>
     refine wp_value (w' := W5) (.bool true) (by go_simp) ?_
     refine ⟨Rj_out (by rfl) (Later.refl _), ?_⟩
     simp only [Act.put, sA, sB, sC]
     refine anyU_one 12 rfl (by kernel_rfl) (by rfl) ?_
     have kA := block_cell HA
     have fA := block_frozen HA
     unfold Oper.wp
     go_simp
     refine ⟨Rj_in (by rfl) trivial, ?_⟩
     clear kA fA
     generalize hV : World.setCell _ ⟨gn, 7, none⟩ _ = V8
     have hV9 : V8 = putRow W5 gn 0 [.int .i64 mr.kind, .int .u8 mr.proto, .int .u32 mr.net, .int .i64 mr.bits, .int .u32 mr.tt, .int .u16 mr.port, .int .u32 mr.host, .int .u16 mr.hp] := hV.symm
     have hb8 : But (fun b => b = gn) W5 V8 := by rw [hV9]; exact putRow_but (E := fun b => b = gn) (n := gn) rfl _ _ _ _ (But.refl _ _)
     have p8 := putRow_all [.int .i64 mr.kind, .int .u8 mr.proto, .int .u32 mr.net, .int .i64 mr.bits, .int .u32 mr.tt, .int .u16 mr.port, .int .u32 mr.host, .int .u16 mr.hp] HA rfl
     rw [← hV9] at p8
     have PP := hide p8
     clear hV hV9 p8
     have BB := hide (Below.trans LL (hb8.below LL.size (fun k h e => by omega)))
     refine anyU_one 13 rfl (by kernel_rfl) (by rfl) ?_
     refine wp_value (w' := V8) (.bool true) (by go_simp) ?_
     refine ⟨Rj_out (by rfl) (Later.refl _), ?_⟩
     simp only [Act.put, sA, sB, sC]
     refine anyU_done (by kernel_rfl) ?_
     refine ⟨rfl, ?_⟩
     go_wp2_with fail
     go_meet
     case rel => exact ⟨⟨gn, rfl, hgn, PP.out⟩, rfl, BB⟩
    case yt1012 =>
     have kA := block_cell HA
     have fA := block_frozen HA
     unfold Oper.wp
     go_simp
     refine ⟨Rj_in (by rfl) trivial, ?_⟩
     clear kA fA
     generalize hV : World.setCell _ ⟨gn, 7, none⟩ _ = V8
     have hV9 : V8 = putRow W5 gn 0 [.int .i64 mr.kind, .int .u8 mr.proto, .int .u32 mr.net, .int .i64 mr.bits, .int .u32 mr.tt, .int .u16 mr.port, .int .u32 mr.host, .int .u16 mr.hp] := hV.symm
     have hb8 : But (fun b => b = gn) W5 V8 := by rw [hV9]; exact putRow_but (E := fun b => b = gn) (n := gn) rfl _ _ _ _ (But.refl _ _)
     have p8 := putRow_all [.int .i64 mr.kind, .int .u8 mr.proto, .int .u32 mr.net, .int .i64 mr.bits, .int .u32 mr.tt, .int .u16 mr.port, .int .u32 mr.host, .int .u16 mr.hp] HA rfl
     rw [← hV9] at p8
     have PP := hide p8
     clear hV hV9 p8
     have BB := hide (Below.trans LL (hb8.below LL.size (fun k h e => by omega)))
     refine anyU_one 10 rfl (by kernel_rfl) (by rfl) ?_
     refine wp_value (w' := V8) (.bool true) (by go_simp) ?_
     refine ⟨Rj_out (by rfl) (Later.refl _), ?_⟩
     simp only [Act.put, sA, sB, sC]
     refine anyU_one 13 rfl (by kernel_rfl) (by rfl) ?_
     refine wp_value (w' := V8) (.bool true) (by go_simp) ?_
     refine ⟨Rj_out (by rfl) (Later.refl _), ?_⟩
     simp only [Act.put, sA, sB, sC]
     refine anyU_done (by kernel_rfl) ?_
     refine ⟨rfl, ?_⟩
     go_wp2_with fail
     go_meet
     case rel => exact ⟨⟨gn, rfl, hgn, PP.out⟩, rfl, BB⟩
  case al =>
   have HSZ := ld.size
   have la := later_allocG Wd (.cells #[.int .i64 0, .int .u8 0, .int .u32 0, .int .i64 0, .int .u32 0, .int .u16 0, .int .u32 0, .int .u16 0] 35)
   have HA0 := heap_alloc_new Wd (.cells #[.int .i64 0, .int .u8 0, .int .u32 0, .int .i64 0, .int .u32 0, .int .u16 0, .int .u32 0, .int .u16 0] 35)
   unfold Oper.wp
   go_simp
   refine ⟨Rj_out (by rfl) la, ?_⟩
   change wpAnyU _ _ _ _ _ _ _ _ _ _ (Wd.alloc (.cells #[.int .i64 0, .int .u8 0, .int .u32 0, .int .i64 0, .int .u32 0, .int .u16 0, .int .u32 0, .int .u16 0] 35))
   have hgn : w1.heap.size ≤ Wd.heap.size := HSZ
   generalize Wd.alloc (.cells #[.int .i64 0, .int .u8 0, .int .u32 0, .int .i64 0, .int .u32 0, .int .u16 0, .int .u32 0, .int .u16 0] 35) = W3 at *
   generalize Wd.heap.size = gn at *
   refine anyU_one 7 rfl (by kernel_rfl) (by rfl) ?_
   refine wp_enter 228 #[.pointer (some ⟨s.gr, 0, none⟩), .int .u32 x] (by go_simp) ?_
   refine (HMQ.out W3 (LWd.trans la)).mono ?_
   rintro e W5 ⟨rfl, l1⟩
   refine ⟨Rj_out (by rfl) l1, ?_⟩
   simp only [Act.put, sA, sB, sC]
   refine uV Later.pre 8 [9, 10, 12, 13] rfl (by rfl) (by rfl) (by rfl) ⟨_, fun v h => by (go_simp; rfl), ?_⟩; simp only [Act.put, sA, sB, sC]
   refine uV Later.pre 9 [12, 13] rfl (by rfl) (by rfl) (by rfl) ⟨_, fun v h => by (go_simp; rfl), ?_⟩; simp only [Act.put, sA, sB, sC]
   have HA := later_keep l1 HA0
   have LL := ld.trans (la.trans l1)
   refine anyU_two 10 12 rfl rfl (by kernel_rfl) (by rfl) (by rfl) ?xt1012 ?yt1012
   case xt1012 =>
    refine wp_value (w' := W5) (.bool true) (by go_simp) ?_
    refine ⟨Rj_out (by rfl) (Later.refl _), ?_⟩
    simp only [Act.put, sA, sB, sC]
    refine anyU_one 12 rfl (by kernel_rfl) (by rfl) ?_
    have kA := block_cell HA
    have fA := block_frozen HA
    unfold Oper.wp
    go_simp
    refine ⟨Rj_in (by rfl) trivial, ?_⟩
    clear kA fA
    generalize hV : World.setCell _ ⟨gn, 7, none⟩ _ = V8
    have hV9 : V8 = putRow W5 gn 0 [.int .i64 mr.kind, .int .u8 mr.proto, .int .u32 mr.net, .int .i64 mr.bits, .int .u32 mr.tt, .int .u16 mr.port, .int .u32 mr.host, .int .u16 mr.hp] := hV.symm
    have hb8 : But (fun b => b = gn) W5 V8 := by rw [hV9]; exact putRow_but (E := fun b => b = gn) (n := gn) rfl _ _ _ _ (But.refl _ _)
    have p8 := putRow_all [.int .i64 mr.kind, .int .u8 mr.proto, .int .u32 mr.net, .int .i64 mr.bits, .int .u32 mr.tt, .int .u16 mr.port, .int .u32 mr.host, .int .u16 mr.hp] HA rfl
    rw [← hV9] at p8
    have PP := hide p8
    clear hV hV9 p8
    have BB := hide (Below.trans LL (hb8.below LL.size (fun k h e => by omega)))
    refine anyU_one 13 rfl (by kernel_rfl) (by rfl) ?_
    refine wp_value (w' := V8) (.bool true) (by go_simp) ?_
    refine ⟨Rj_out (by rfl) (Later.refl _), ?_⟩
    simp only [Act.put, sA, sB, sC]
    refine anyU_done (by kernel_rfl) ?_
    refine ⟨rfl, ?_⟩
    go_wp2_with fail
    go_meet
    case rel => exact ⟨⟨gn, rfl, hgn, PP.out⟩, rfl, BB⟩
   case yt1012 =>
    have kA := block_cell HA
    have fA := block_frozen HA
    unfold Oper.wp
    go_simp
    refine ⟨Rj_in (by rfl) trivial, ?_⟩
    clear kA fA
    generalize hV : World.setCell _ ⟨gn, 7, none⟩ _ = V8
    have hV9 : V8 = putRow W5 gn 0 [.int .i64 mr.kind, .int .u8 mr.proto, .int .u32 mr.net, .int .i64 mr.bits, .int .u32 mr.tt, .int .u16 mr.port, .int .u32 mr.host, .int .u16 mr.hp] := hV.symm
    have hb8 : But (fun b => b = gn) W5 V8 := by rw [hV9]; exact putRow_but (E := fun b => b = gn) (n := gn) rfl _ _ _ _ (But.refl _ _)
    have p8 := putRow_all [.int .i64 mr.kind, .int .u8 mr.proto, .int .u32 mr.net, .int .i64 mr.bits, .int .u32 mr.tt, .int .u16 mr.port, .int .u32 mr.host, .int .u16 mr.hp] HA rfl
    rw [← hV9] at p8
    have PP := hide p8
    clear hV hV9 p8
    have BB := hide (Below.trans LL (hb8.below LL.size (fun k h e => by omega)))
    refine anyU_one 10 rfl (by kernel_rfl) (by rfl) ?_
    refine wp_value (w' := V8) (.bool true) (by go_simp) ?_
    refine ⟨Rj_out (by rfl) (Later.refl _), ?_⟩
    simp only [Act.put, sA, sB, sC]
    refine anyU_one 13 rfl (by kernel_rfl) (by rfl) ?_
    refine wp_value (w' := V8) (.bool true) (by go_simp) ?_
    refine ⟨Rj_out (by rfl) (Later.refl _), ?_⟩
    simp only [Act.put, sA, sB, sC]
    refine anyU_done (by kernel_rfl) ?_
    refine ⟨rfl, ?_⟩
    go_wp2_with fail
    go_meet
    case rel => exact ⟨⟨gn, rfl, hgn, PP.out⟩, rfl, BB⟩
 case rest =>
 obtain ⟨⟨gn, rfl, hgn, hC⟩, rfl, hL⟩ := hcut
 obtain ⟨w2, hw2⟩ : ∃ w2, w2 = wc := ⟨_, rfl⟩
 subst hw2
 have H2 := hide (HG.out.later hL.out)
 have K2 : Hid (KG base w w2) := KG.of_later (LW0.trans hL.out)
 have D0 := hide (later_keep hL.out C0.out)
 have D1 := hide (later_keep hL.out C1.out)
 have D2 := hide hC
 have hgn2 : gx + 1 < gn := Nat.lt_of_lt_of_le (bl9 C1.out) hgn
 have hb2 : base ≤ w2.heap.size := Nat.le_trans hbs K2.out.size
 clear C0 C1 CG HG HMQ hL hC hgn LW0 l0
 have k0 := block_cell D0.out
 have k1 := block_cell D1.out
 have k2 := block_cell D2.out
 go_wp2_with fail
 refine (grefuse_no 2 w2).mono ?_
 rintro e w2' ⟨rfl, rfl⟩
 go_wp2_with fail
 refine (HTK.out w2 H2.out K2.out).mono ?_
 rintro e w3 ⟨n, ps2, pe2, cp2, rfl, M3, h3', hn9, htq⟩
 have hk2n := hk2 n ps2 pe2 cp2 htq
 have HN9 := hide hn9
 have HTQ0 := hide htq
 have hnm : ∀ (b : Nat) (cur : Array Value) (t : TypeId) (f : Nat × Nat), t ≠ 291 → w2.heap[b]? = some (.cells cur t f) → w3.heap[b]? = some (.cells cur t f) := fun b cur t f ht hb => (M3.block b (bl9 hb) (fun e => by
  rcases e with e | ⟨p, hp, e⟩
  ·have hh := H2.out.pl
   rw [← e, hb] at hh; cases hh
  ·have hh := (H2.out.pb p hp).2.2
   rw [e, hb] at hh
   injection hh with hh
   injection hh with h1 h2 h3
   exact ht h2)).trans hb
 have K3 : Hid (KG base w w3) := K2.out.trans (KG.of_but M3 (fun q e => by
  rcases e with e | ⟨p, hp, e⟩
  ·rw [e]; exact ⟨H2.out.bf.2, fun ob ho => by have hp := H2.out.pl; rw [hp] at ho; cases ho; exact trivial⟩
  ·have hh := H2.out.pb p hp
   rw [← e]
   refine ⟨hh.1, fun ob ho => ?_⟩
   rw [hh.2.2] at ho
   cases ho
   show gTs.contains _ = true
   decide))
 have E0 := hide (hnm _ _ _ _ (by decide) D0.out)
 have E1 := hide (hnm _ _ _ _ (by decide) D1.out)
 have E2 := hide (hnm _ _ _ _ (by decide) D2.out)
 have H3 := hide h3'
 clear htq
 have HTQ : Hid (TQ n ps2 pe2 cp2) := HTQ0
 clear k0 k1 k2 D0 D1 D2 HTK M3 hnm H2 K2 h3' hb2
 have k0 := block_cell E0.out
 have k1 := block_cell E1.out
 have k2 := block_cell E2.out
 go_wp2_with fail
 have la := later_allocG w3 (.cells #[.int .u8 17, .int .u32 mr.tt, .int .u16 (n : Int)] 189)
 have ca := heap_alloc_new w3 (.cells #[.int .u8 17, .int .u32 mr.tt, .int .u16 (n : Int)] 189)
 refine (grefuse_no 4 _).mono ?_
 rintro e w4 ⟨rfl, hw4⟩
 rw [hw4] at la ca
 clear hw4
 have H4 := hide (H3.out.later la)
 have K4 : Hid (KG base w w4) := K3.out.trans (KG.of_later la)
 have F0 := hide (later_keep la E0.out)
 have F1 := hide (later_keep la E1.out)
 have F2 := hide (later_keep la E2.out)
 have F3 := hide ca
 generalize hg3 : w3.heap.size = gm at *
 clear k0 k1 k2 E0 E1 E2 la ca H3 K3
 have k0 := block_cell F0.out
 have k1 := block_cell F1.out
 have k2 := block_cell F2.out
 have k3 := block_cell F3.out
 have la := later_allocG w4 (.cells #[.int .u8 17, .int .u32 d, .int .u32 mr.tt, .int .u16 b, .int .u16 (n : Int)] 68)
 have ca := heap_alloc_new w4 (.cells #[.int .u8 17, .int .u32 d, .int .u32 mr.tt, .int .u16 b, .int .u16 (n : Int)] 68)
 have LA := hide la
 have CA := hide ca
 clear la ca
 go_upto_region 6 with fail
 generalize hw5 : w4.alloc _ = w5 at *
 clear hw5
 generalize hg4 : w4.heap.size = gr at *
 have H5 := hide (H4.out.later LA.out)
 have K5 : Hid (KG base w w5) := K4.out.trans (KG.of_later LA.out)
 have G0 := hide (later_keep LA.out F0.out)
 have G1 := hide (later_keep LA.out F1.out)
 have G3 := hide (later_keep LA.out F3.out)
 have G4 := hide CA.out
 clear k0 k1 k2 k3 F0 F1 F2 F3 H4 K4 LA CA
 have k0 := block_cell G0.out
 have k1 := block_cell G1.out
 have k3 := block_cell G3.out
 have k4 := block_cell G4.out
 go_wp2_with fail
 refine (roomFor_yes base g _ 17 x d (a : Int) b 17 d mr.tt b (n : Int) w5 H5.out hk1 hk2n hx hd ⟨by omega, by omega⟩ hb hd htt hb ⟨by omega, by have := HN9.out; omega⟩ hfs (fun e => hne ⟨e.2.1, e.2.2.1⟩)).mono ?_
 rintro e w6 ⟨rfl, l6⟩
 have H6 := hide (H5.out.later l6)
 have K6 : Hid (KG base w w6) := K5.out.trans (KG.of_later l6)
 have J0 := hide (later_keep l6 G0.out)
 have J1 := hide (later_keep l6 G1.out)
 have J3 := hide (later_keep l6 G3.out)
 have J4 := hide (later_keep l6 G4.out)
 clear k0 k1 k3 k4 G0 G1 G3 G4 H5 K5 l6
 have k0 := block_cell J0.out
 have k1 := block_cell J1.out
 have k3 := block_cell J3.out
 have k4 := block_cell J4.out
 have hbg' : gx ≤ w6.heap.size := by rw [← hgx]; exact K6.out.size
 have la := later_allocG w6 (.cells #[.int .u8 17, .int .u32 mr.tt, .int .u16 (n : Int)] 189)
 have HOP := hide (open_udp base g _ ⟨17, x, d, (a : Int), b⟩ ⟨17, d, mr.tt, b, (n : Int)⟩ 0 0 0 0 (-1) (some ⟨w6.heap.size, 0, none⟩) 1 1 (w6.alloc (.cells #[.int .u8 17, .int .u32 mr.tt, .int .u16 (n : Int)] 189)) (H6.out.later la) rfl hs1 hs2 (Nat.le_trans hbs (Nat.le_trans K6.out.size la.size)) ⟨hx, hd, ⟨by show (0:Int) ≤ (a : Int); omega, by show (a : Int) ≤ 65535; omega⟩, hb⟩ ⟨hd, htt, hb, ⟨by show (0:Int) ≤ (n : Int); omega, by have := HN9.out; show (n : Int) ≤ 65535; omega⟩⟩ htr hnw hbg hid hcn hln)
 have CNM := hide (heap_alloc_new w6 (.cells #[.int .u8 17, .int .u32 mr.tt, .int .u16 (n : Int)] 189))
 have K7 : Hid (KG base w (w6.alloc (.cells #[.int .u8 17, .int .u32 mr.tt, .int .u16 (n : Int)] 189))) := K6.out.trans (KG.of_later la)
 clear la
 go_wp2_with fail
 refine HOP.out.mono ?_
 rintro e w8 ⟨f, hfb, rfl, hk, e1, e2, e3, e4, e5, e6, e7, hG⟩
 clear k0 k1 k3 k4
 go_wp2_with fail
 go_ret
 refine ⟨f, n, ps2, pe2, cp2, ?_, rfl, K7.out.trans hk, e1, e2, ?_, e4, e5, e7, hG, HTQ.out, HN9.out, ⟨w6.heap.size, e6, hk.cells CNM.out (by decide)⟩⟩
 ·exact Nat.le_trans K7.out.size hfb
 ·rw [e3]
theorem begin_g (base g : Nat) (s : Gf) (tos id ttl pr src dst : Int) (keep : Bool) (so sd : Value) (x d : Int) (a : Nat) (b : Int) (mr : Ru) (TQ : TkP) (w : World) (h : GF base w g s) (hR : RdG s x d a b mr TQ) (hbs : base ≤ w.heap.size) (hTK : TkH base w g s a mr TQ) :
  Calls Tryz.prog 153 #[.agg #[.pointer (some ⟨g, 0, none⟩), .int .u8 tos, .int .u16 id, .bool keep, .int .u8 ttl, .int .u8 pr, .int .u32 src, .int .u32 dst, so, sd, .int .i64 0], .agg #[.int .u8 17, .int .u32 x, .int .u32 d, .int .u16 (a : Int), .int .u16 b]] w fun e w' => BgG base w w' g s ⟨17, x, d, (a : Int), b⟩ mr TQ e := by
 obtain ⟨l0, c0, c1⟩ := alloc2 w (.cells #[.pointer (some ⟨g, 0, none⟩), .int .u8 tos, .int .u16 id, .bool keep, .int .u8 ttl, .int .u8 pr, .int .u32 src, .int .u32 dst, so, sd, .int .i64 0] 149) (.cells #[.int .u8 17, .int .u32 x, .int .u32 d, .int .u16 (a : Int), .int .u16 b] 68)
 have C0 := hide c0
 have C1 := hide c1
 have HB := hide (beginInside_g base g s tos id ttl pr src dst keep so sd 0 x d a b mr TQ _ (h.later l0) hR.ok hR.fd (Nat.le_trans hbs l0.size) hR.hx hR.hd hR.ha hR.hb hR.tt (hTK.kg (KG.of_later l0)) hR.s1 hR.s2 hR.k1 hR.k2 hR.fs hR.ne hR.tr hR.nw hR.bg hR.id hR.cn hR.ln)
 clear c0 c1 h hR hTK
 go_enter Tryz.func153, Tryz.ntmps153
 go_upto_region 1 with fail
 generalize (w.alloc (.cells #[.pointer (some ⟨g, 0, none⟩), .int .u8 tos, .int .u16 id, .bool keep, .int .u8 ttl, .int .u8 pr, .int .u32 src, .int .u32 dst, so, sd, .int .i64 0] 149)).alloc (.cells #[.int .u8 17, .int .u32 x, .int .u32 d, .int .u16 (a : Int), .int .u16 b] 68) = w1 at *
 generalize hgx : w.heap.size = gx at C0 C1 ⊢
 have k0 := block_cell C0.out
 have k1 := block_cell C1.out
 go_wp2_with fail
 refine (grefuse_no 5 w1).mono ?_
 rintro e w2 ⟨rfl, rfl⟩
 go_wp2_with fail
 refine (grefuse_no 5 w1).mono ?_
 rintro e w2 ⟨rfl, rfl⟩
 go_wp2_with fail
 refine (grefuse_no 3 w1).mono ?_
 rintro e w2 ⟨rfl, rfl⟩
 go_wp2_with fail
 refine HB.out.mono ?_
 rintro e w2 hq
 obtain ⟨f, n, ps2, pe2, cp2, q1, rfl, q3, q⟩ := hq
 clear k0 k1
 go_wp2_with fail
 go_ret
 exact ⟨f, n, ps2, pe2, cp2, Nat.le_trans l0.size q1, rfl, (KG.of_later l0).trans q3, q⟩
def OwG (base : Nat) (w w' : World) (g : Nat) (s : Gf) (o : Tu) (mr : Ru) (TQ : TkP) (e : Ending) : Prop := ∃ (f : Fl) (n : Nat) (ps : List Pl) (pe : Array MapEntry) (cp : Nat), w.heap.size ≤ f.blk ∧ e = .returned (.tuple #[.pointer (some ⟨f.blk, 0, none⟩), .bool false]) ∧ KG base w w' ∧ f.id = s.bg ∧ f.o = o ∧ f.r = ⟨17, o.dst, mr.tt, o.dp, (n : Int)⟩ ∧ f.side = 0 ∧ f.ms = -1 ∧ f.hp = noh ∧ GF base w' g (bcS (opS (setP s ps pe cp) f) f 8) ∧ TQ n ps pe cp ∧ n < 65536 ∧ HvOk w' f mr.tt n
theorem owner_g (base g : Nat) (s : Gf) (tos id ttl pr src dst : Int) (keep : Bool) (so sd : Value) (x d : Int) (a : Nat) (b : Int) (mr : Ru) (TQ : TkP) (w : World) (h : GF base w g s) (hR : RdG s x d a b mr TQ) (hbs : base ≤ w.heap.size) (hTK : TkH base w g s a mr TQ) :
  Calls Tryz.prog 108 #[.agg #[.pointer (some ⟨g, 0, none⟩), .int .u8 tos, .int .u16 id, .bool keep, .int .u8 ttl, .int .u8 pr, .int .u32 src, .int .u32 dst, so, sd, .int .i64 0], .agg #[.int .u8 17, .int .u32 x, .int .u32 d, .int .u16 (a : Int), .int .u16 b]] w fun e w' => OwG base w w' g s ⟨17, x, d, (a : Int), b⟩ mr TQ e := by
 obtain ⟨l0, c0, c1⟩ := alloc2 w (.cells #[.pointer (some ⟨g, 0, none⟩), .int .u8 tos, .int .u16 id, .bool keep, .int .u8 ttl, .int .u8 pr, .int .u32 src, .int .u32 dst, so, sd, .int .i64 0] 149) (.cells #[.int .u8 17, .int .u32 x, .int .u32 d, .int .u16 (a : Int), .int .u16 b] 68)
 have C0 := hide c0
 have C1 := hide c1
 have HL := hide (lookUpF_none base g s 17 x d (a : Int) b _ (h.later l0) hR.k1 hR.hx hR.hd ⟨by omega, by have := hR.ha; omega⟩ hR.hb)
 have HB := hide (fun W (l : Later w W) => begin_g base g s tos id ttl pr src dst keep so sd x d a b mr TQ W (h.later l) hR (Nat.le_trans hbs l.size) (hTK.kg (KG.of_later l)))
 clear c0 c1 h hR hTK
 go_enter Tryz.func108, Tryz.ntmps108
 go_upto_region 1 with fail
 generalize (w.alloc (.cells #[.pointer (some ⟨g, 0, none⟩), .int .u8 tos, .int .u16 id, .bool keep, .int .u8 ttl, .int .u8 pr, .int .u32 src, .int .u32 dst, so, sd, .int .i64 0] 149)).alloc (.cells #[.int .u8 17, .int .u32 x, .int .u32 d, .int .u16 (a : Int), .int .u16 b] 68) = w1 at *
 generalize hgx : w.heap.size = gx at C0 C1 ⊢
 have k0 := block_cell C0.out
 have k1 := block_cell C1.out
 go_wp2_with fail
 refine HL.out.mono ?_
 rintro e w2 ⟨rfl, l2⟩
 clear k0 k1 HL
 have L2 : Later w w2 := l0.trans l2
 have k0 := block_cell (later_keep l2 C0.out)
 have k1 := block_cell (later_keep l2 C1.out)
 have HB2 := hide (HB.out w2 L2)
 clear HB
 go_wp2_with fail
 refine HB2.out.mono ?_
 rintro e w3 hq
 obtain ⟨f, n, ps2, pe2, cp2, q1, rfl, q3, q⟩ := hq
 clear k0 k1
 go_wp2_with fail
 exact bodyPost_ret (v := .tuple #[.pointer (some ⟨f.blk, 0, none⟩), .bool false]) (by simp [results, Tryz.results108, go_sem]) rfl ⟨f, n, ps2, pe2, cp2, Nat.le_trans L2.size q1, rfl, (KG.of_later L2).trans q3, q⟩
def TnH (base : Nat) (w : World) (g : Nat) (s : Gf) (a : Nat) (mr : Ru) : Prop := ∀ W, GF base W g s → Later w W → Calls Tryz.prog 229 #[.pointer (some ⟨g, 0, none⟩), .agg #[.int .u8 17, .int .u32 mr.tt], .int .u16 (a : Int)] W fun e w' => ∃ n : Nat, e = .returned (.tuple #[.agg #[.int .u8 17, .int .u32 mr.tt, .int .u16 (n : Int)], .bool false]) ∧ Later W w'
theorem TnH.later {base : Nat} {w w1 : World} {g : Nat} {s : Gf} {a : Nat} {mr : Ru} (h : TnH base w g s a mr) (k : Later w w1) : TnH base w1 g s a mr := fun W hg k2 => h W hg (k.trans k2)
theorem beginInside_n (base g : Nat) (s : Gf) (tos id ttl pr src dst : Int) (keep : Bool) (so sd : Value) (side : Int) (x d : Int) (a : Nat) (b : Int) (mr : Ru) (w : World) (h : GF base w g s) (hok : okL s.ls) (hmr : s.ls.find? (mqB x) = some mr) (hbs : base ≤ w.heap.size) (hx : 0 ≤ x ∧ x ≤ 4294967295) (hd : 0 ≤ d ∧ d ≤ 4294967295) (ha : a ≤ 65535) (hb : 0 ≤ b ∧ b ≤ 65535) (htt : 0 ≤ mr.tt ∧ mr.tt ≤ 4294967295)
  (hTK : TnH base w g s a mr) (hs1 : (b == 5060) = false) (hs2 : ((a : Int) == 5060) = false)
  (hk1 : kx 17 x d (a : Int) b s.rw = none) (hfs : s.fs.length < 64) (hne : ¬ (x = d ∧ d = mr.tt)) (htr : 0 ≤ s.trn ∧ s.trn ≤ 900000) (hnw : 0 ≤ s.now ∧ s.now ≤ 549755813888) (hbg : 0 ≤ s.bg ∧ s.bg ≤ 1000000) (hid : ∀ y ∈ s.fs, y.id ≠ s.bg) (hcn : 0 ≤ s.cnt ∧ s.cnt ≤ 1000) (hln : ∀ i, (s.rw i).length ≤ 4000) :
  Calls Tryz.prog 193 #[.agg #[.pointer (some ⟨g, 0, none⟩), .int .u8 tos, .int .u16 id, .bool keep, .int .u8 ttl, .int .u8 pr, .int .u32 src, .int .u32 dst, so, sd, .int .i64 side], .agg #[.int .u8 17, .int .u32 x, .int .u32 d, .int .u16 (a : Int), .int .u16 b]] w fun e w' => e = .panicked (dpp 4) ∧ Later w w' := by
 obtain ⟨l0, c0, c1⟩ := alloc2 w (.cells #[.pointer (some ⟨g, 0, none⟩), .int .u8 tos, .int .u16 id, .bool keep, .int .u8 ttl, .int .u8 pr, .int .u32 src, .int .u32 dst, so, sd, .int .i64 side] 149) (.cells #[.int .u8 17, .int .u32 x, .int .u32 d, .int .u16 (a : Int), .int .u16 b] 68)
 have C0 := hide c0
 have C1 := hide c1
 have CG := hide (later_keep l0 h.gc)
 have HG := hide (h.later l0)
 have HMQ := hide (fun W (l : Later w W) => masq_some base s.gr s.vr s.ls x W mr (h.rl.later l) hok hx hmr)
 have HTK := hide hTK
 have HGL := hide (bl9 h.pl)
 clear c0 c1 h hok hmr hTK
 go_enter Tryz.func193, Tryz.ntmps193
 go_upto_region 1 with fail
 generalize (w.alloc (.cells #[.pointer (some ⟨g, 0, none⟩), .int .u8 tos, .int .u16 id, .bool keep, .int .u8 ttl, .int .u8 pr, .int .u32 src, .int .u32 dst, so, sd, .int .i64 side] 149)).alloc (.cells #[.int .u8 17, .int .u32 x, .int .u32 d, .int .u16 (a : Int), .int .u16 b] 68) = w1 at *
 generalize hgx : w.heap.size = gx at C0 C1 ⊢
 have LW0 : Later w w1 := l0
 go_cut [5, 6] (fun v c wx => MqC v w1.heap.size wx mr ∧ c = .bool true ∧ Hid (Later w1 wx))
 case first =>
  refine wp_calmG ?_
  refine anyU_begin (R1 := Later) (R2 := fun _ _ => True) (D := [12]) 14 rfl (by kernel_rfl) ?_
  have ld : Later w1 w1.drew := Later.drew w1
  generalize w1.drew = Wd at *
  have LWd : Later w Wd := LW0.trans ld
  have q0 : ∀ v1, Later Wd v1 → ∀ j, v1.cell? ⟨gx, j, none⟩ = #[.pointer (some ⟨g, 0, none⟩), .int .u8 tos, .int .u16 id, .bool keep, .int .u8 ttl, .int .u8 pr, .int .u32 src, .int .u32 dst, so, sd, .int .i64 side][j]? := fun v1 hv => block_cell (later_keep (ld.trans hv) C0.out)
  have q1 : ∀ v1, Later Wd v1 → ∀ j, v1.cell? ⟨gx + 1, j, none⟩ = #[.int .u8 17, .int .u32 x, .int .u32 d, .int .u16 (a : Int), .int .u16 b][j]? := fun v1 hv => block_cell (later_keep (ld.trans hv) C1.out)
  have q2 : ∀ v1, Later Wd v1 → ∀ j, v1.cell? ⟨g, j, none⟩ = (gfc s).toArray[j]? := fun v1 hv => block_cell (later_keep (ld.trans hv) CG.out)
  unfold gfc at q2
  refine uV Later.pre 0 [1, 2, 3, 4, 7, 8, 9, 10, 12, 13] rfl (by rfl) (by rfl) (by rfl) ⟨_, fun v h => by (go_simp; rfl), ?_⟩; simp only [Act.put, sA, sB, sC]
  refine uV Later.pre 1 [2, 3, 4, 7, 8, 9, 10, 12, 13] rfl (by rfl) (by rfl) (by rfl) ⟨_, fun v h => by (go_simp; rfl), ?_⟩; simp only [Act.put, sA, sB, sC]
  refine uV Later.pre 2 [3, 4, 7, 8, 9, 10, 12, 13] rfl (by rfl) (by rfl) (by rfl) ⟨_, fun v h => by (go_simp; rfl), ?_⟩; simp only [Act.put, sA, sB, sC]
  refine uV Later.pre 3 [4, 7, 8, 9, 10, 12, 13] rfl (by rfl) (by rfl) (by rfl) ⟨_, fun v h => by (go_simp; rfl), ?_⟩; simp only [Act.put, sA, sB, sC]
  refine uV Later.pre 4 [7, 8, 9, 10, 12, 13] rfl (by rfl) (by rfl) (by rfl) ⟨_, fun v h => by (go_simp; rfl), ?_⟩; simp only [Act.put, sA, sB, sC]
  refine uV Later.pre 5 [6, 7, 8, 9, 10, 12, 13] rfl (by rfl) (by rfl) (by rfl) ⟨_, fun v h => by (go_simp; rfl), ?_⟩; simp only [Act.put, sA, sB, sC]
  refine uV Later.pre 6 [7, 8, 9, 10, 12, 13] rfl (by rfl) (by rfl) (by rfl) ⟨_, fun v h => by (go_simp; rfl), ?_⟩; simp only [Act.put, sA, sB, sC]
  clear q0 q1 q2
  refine anyU_two 7 11 rfl rfl (by kernel_rfl) (by rfl) (by rfl) ?ca ?al
  case ca =>
   refine wp_enter 228 #[.pointer (some ⟨s.gr, 0, none⟩), .int .u32 x] (by go_simp) ?_
   refine (HMQ.out Wd LWd).mono ?_
   rintro e W1 ⟨rfl, l1⟩
   refine ⟨Rj_out (by rfl) l1, ?_⟩
   simp only [Act.put, sA, sB, sC]
   refine uV Later.pre 8 [9, 10, 12, 13] rfl (by rfl) (by rfl) (by rfl) ⟨_, fun v h => by (go_simp; rfl), ?_⟩; simp only [Act.put, sA, sB, sC]
   refine uV Later.pre 9 [12, 13] rfl (by rfl) (by rfl) (by rfl) ⟨_, fun v h => by (go_simp; rfl), ?_⟩; simp only [Act.put, sA, sB, sC]
   have HSZ := (ld.trans l1).size
   refine anyU_two 10 11 rfl rfl (by kernel_rfl) (by rfl) (by rfl) ?xt1011 ?yt1011
   case xt1011 =>
    refine wp_value (w' := W1) (.bool true) (by go_simp) ?_
    refine ⟨Rj_out (by rfl) (Later.refl _), ?_⟩
    simp only [Act.put, sA, sB, sC]
    refine anyU_one 11 rfl (by kernel_rfl) (by rfl) ?_
    have la := later_allocG W1 (.cells #[.int .i64 0, .int .u8 0, .int .u32 0, .int .i64 0, .int .u32 0, .int .u16 0, .int .u32 0, .int .u16 0] 35)
    have HA0 := heap_alloc_new W1 (.cells #[.int .i64 0, .int .u8 0, .int .u32 0, .int .i64 0, .int .u32 0, .int .u16 0, .int .u32 0, .int .u16 0] 35)
    unfold Oper.wp
    go_simp
    refine ⟨Rj_out (by rfl) la, ?_⟩
    change wpAnyU _ _ _ _ _ _ _ _ _ _ (W1.alloc (.cells #[.int .i64 0, .int .u8 0, .int .u32 0, .int .i64 0, .int .u32 0, .int .u16 0, .int .u32 0, .int .u16 0] 35))
    have hgn : w1.heap.size ≤ W1.heap.size := HSZ
    generalize W1.alloc (.cells #[.int .i64 0, .int .u8 0, .int .u32 0, .int .i64 0, .int .u32 0, .int .u16 0, .int .u32 0, .int .u16 0] 35) = W5 at *
    generalize W1.heap.size = gn at *
    have HA := HA0
    have LL := ld.trans (l1.trans la)
    refine anyU_one 12 rfl (by kernel_rfl) (by rfl) ?_
    have kA := block_cell HA
    have fA := block_frozen HA
    unfold Oper.wp
    go_simp
    refine ⟨Rj_in (by rfl) trivial, ?_⟩
    clear kA fA
    generalize hV : World.setCell _ ⟨gn, 7, none⟩ _ = V8
    have hV9 : V8 = putRow W5 gn 0 [.int .i64 mr.kind, .int .u8 mr.proto, .int .u32 mr.net, .int .i64 mr.bits, .int .u32 mr.tt, .int .u16 mr.port, .int .u32 mr.host, .int .u16 mr.hp] := hV.symm
    have hb8 : But (fun b => b = gn) W5 V8 := by rw [hV9]; exact putRow_but (E := fun b => b = gn) (n := gn) rfl _ _ _ _ (But.refl _ _)
    have p8 := putRow_all [.int .i64 mr.kind, .int .u8 mr.proto, .int .u32 mr.net, .int .i64 mr.bits, .int .u32 mr.tt, .int .u16 mr.port, .int .u32 mr.host, .int .u16 mr.hp] HA rfl
    rw [← hV9] at p8
    have PP := hide p8
    clear hV hV9 p8
    have BB := hide (Below.trans LL (hb8.below LL.size (fun k h e => by omega)))
    refine anyU_one 13 rfl (by kernel_rfl) (by rfl) ?_
    refine wp_value (w' := V8) (.bool true) (by go_simp) ?_
    refine ⟨Rj_out (by rfl) (Later.refl _), ?_⟩
    simp only [Act.put, sA, sB, sC]
    refine anyU_done (by kernel_rfl) ?_
    refine ⟨rfl, ?_⟩
    go_wp2_with fail
    go_meet
    case rel => exact ⟨⟨gn, rfl, hgn, PP.out⟩, rfl, BB⟩
   case yt1011 =>
    have la := later_allocG W1 (.cells #[.int .i64 0, .int .u8 0, .int .u32 0, .int .i64 0, .int .u32 0, .int .u16 0, .int .u32 0, .int .u16 0] 35)
    have HA0 := heap_alloc_new W1 (.cells #[.int .i64 0, .int .u8 0, .int .u32 0, .int .i64 0, .int .u32 0, .int .u16 0, .int .u32 0, .int .u16 0] 35)
    unfold Oper.wp
    go_simp
    refine ⟨Rj_out (by rfl) la, ?_⟩
    change wpAnyU _ _ _ _ _ _ _ _ _ _ (W1.alloc (.cells #[.int .i64 0, .int .u8 0, .int .u32 0, .int .i64 0, .int .u32 0, .int .u16 0, .int .u32 0, .int .u16 0] 35))
    have hgn : w1.heap.size ≤ W1.heap.size := HSZ
    generalize W1.alloc (.cells #[.int .i64 0, .int .u8 0, .int .u32 0, .int .i64 0, .int .u32 0, .int .u16 0, .int .u32 0, .int .u16 0] 35) = W5 at *
    generalize W1.heap.size = gn at *
    have HA := HA0
    have LL := ld.trans (l1.trans la)
    refine anyU_two 10 12 rfl rfl (by kernel_rfl) (by rfl) (by rfl) ?xt1012 ?yt1012
    case xt1012 =>
     refine wp_value (w' := W5) (.bool true) (by go_simp) ?_
     refine ⟨Rj_out (by rfl) (Later.refl _), ?_⟩
     simp only [Act.put, sA, sB, sC]
     refine anyU_one 12 rfl (by kernel_rfl) (by rfl) ?_
     have kA := block_cell HA
     have fA := block_frozen HA
     unfold Oper.wp
     go_simp
     refine ⟨Rj_in (by rfl) trivial, ?_⟩
     clear kA fA
     generalize hV : World.setCell _ ⟨gn, 7, none⟩ _ = V8
     have hV9 : V8 = putRow W5 gn 0 [.int .i64 mr.kind, .int .u8 mr.proto, .int .u32 mr.net, .int .i64 mr.bits, .int .u32 mr.tt, .int .u16 mr.port, .int .u32 mr.host, .int .u16 mr.hp] := hV.symm
     have hb8 : But (fun b => b = gn) W5 V8 := by rw [hV9]; exact putRow_but (E := fun b => b = gn) (n := gn) rfl _ _ _ _ (But.refl _ _)
     have p8 := putRow_all [.int .i64 mr.kind, .int .u8 mr.proto, .int .u32 mr.net, .int .i64 mr.bits, .int .u32 mr.tt, .int .u16 mr.port, .int .u32 mr.host, .int .u16 mr.hp] HA rfl
     rw [← hV9] at p8
     have PP := hide p8
     clear hV hV9 p8
     have BB := hide (Below.trans LL (hb8.below LL.size (fun k h e => by omega)))
     refine anyU_one 13 rfl (by kernel_rfl) (by rfl) ?_
     refine wp_value (w' := V8) (.bool true) (by go_simp) ?_
     refine ⟨Rj_out (by rfl) (Later.refl _), ?_⟩
     simp only [Act.put, sA, sB, sC]
     refine anyU_done (by kernel_rfl) ?_
     refine ⟨rfl, ?_⟩
     go_wp2_with fail
     go_meet
     case rel => exact ⟨⟨gn, rfl, hgn, PP.out⟩, rfl, BB⟩
    case yt1012 =>
     have kA := block_cell HA
     have fA := block_frozen HA
     unfold Oper.wp
     go_simp
     refine ⟨Rj_in (by rfl) trivial, ?_⟩
     clear kA fA
     generalize hV : World.setCell _ ⟨gn, 7, none⟩ _ = V8
     have hV9 : V8 = putRow W5 gn 0 [.int .i64 mr.kind, .int .u8 mr.proto, .int .u32 mr.net, .int .i64 mr.bits, .int .u32 mr.tt, .int .u16 mr.port, .int .u32 mr.host, .int .u16 mr.hp] := hV.symm
     have hb8 : But (fun b => b = gn) W5 V8 := by rw [hV9]; exact putRow_but (E := fun b => b = gn) (n := gn) rfl _ _ _ _ (But.refl _ _)
     have p8 := putRow_all [.int .i64 mr.kind, .int .u8 mr.proto, .int .u32 mr.net, .int .i64 mr.bits, .int .u32 mr.tt, .int .u16 mr.port, .int .u32 mr.host, .int .u16 mr.hp] HA rfl
     rw [← hV9] at p8
     have PP := hide p8
     clear hV hV9 p8
     have BB := hide (Below.trans LL (hb8.below LL.size (fun k h e => by omega)))
     refine anyU_one 10 rfl (by kernel_rfl) (by rfl) ?_
     refine wp_value (w' := V8) (.bool true) (by go_simp) ?_
     refine ⟨Rj_out (by rfl) (Later.refl _), ?_⟩
     simp only [Act.put, sA, sB, sC]
     refine anyU_one 13 rfl (by kernel_rfl) (by rfl) ?_
     refine wp_value (w' := V8) (.bool true) (by go_simp) ?_
     refine ⟨Rj_out (by rfl) (Later.refl _), ?_⟩
     simp only [Act.put, sA, sB, sC]
     refine anyU_done (by kernel_rfl) ?_
     refine ⟨rfl, ?_⟩
     go_wp2_with fail
     go_meet
     case rel => exact ⟨⟨gn, rfl, hgn, PP.out⟩, rfl, BB⟩
  case al =>
   have HSZ := ld.size
   have la := later_allocG Wd (.cells #[.int .i64 0, .int .u8 0, .int .u32 0, .int .i64 0, .int .u32 0, .int .u16 0, .int .u32 0, .int .u16 0] 35)
   have HA0 := heap_alloc_new Wd (.cells #[.int .i64 0, .int .u8 0, .int .u32 0, .int .i64 0, .int .u32 0, .int .u16 0, .int .u32 0, .int .u16 0] 35)
   unfold Oper.wp
   go_simp
   refine ⟨Rj_out (by rfl) la, ?_⟩
   change wpAnyU _ _ _ _ _ _ _ _ _ _ (Wd.alloc (.cells #[.int .i64 0, .int .u8 0, .int .u32 0, .int .i64 0, .int .u32 0, .int .u16 0, .int .u32 0, .int .u16 0] 35))
   have hgn : w1.heap.size ≤ Wd.heap.size := HSZ
   generalize Wd.alloc (.cells #[.int .i64 0, .int .u8 0, .int .u32 0, .int .i64 0, .int .u32 0, .int .u16 0, .int .u32 0, .int .u16 0] 35) = W3 at *
   generalize Wd.heap.size = gn at *
   refine anyU_one 7 rfl (by kernel_rfl) (by rfl) ?_
   refine wp_enter 228 #[.pointer (some ⟨s.gr, 0, none⟩), .int .u32 x] (by go_simp) ?_
   refine (HMQ.out W3 (LWd.trans la)).mono ?_
   rintro e W5 ⟨rfl, l1⟩
   refine ⟨Rj_out (by rfl) l1, ?_⟩
   simp only [Act.put, sA, sB, sC]
   refine uV Later.pre 8 [9, 10, 12, 13] rfl (by rfl) (by rfl) (by rfl) ⟨_, fun v h => by (go_simp; rfl), ?_⟩; simp only [Act.put, sA, sB, sC]
   refine uV Later.pre 9 [12, 13] rfl (by rfl) (by rfl) (by rfl) ⟨_, fun v h => by (go_simp; rfl), ?_⟩; simp only [Act.put, sA, sB, sC]
   have HA := later_keep l1 HA0
   have LL := ld.trans (la.trans l1)
   refine anyU_two 10 12 rfl rfl (by kernel_rfl) (by rfl) (by rfl) ?xt1012 ?yt1012
   case xt1012 =>
    refine wp_value (w' := W5) (.bool true) (by go_simp) ?_
    refine ⟨Rj_out (by rfl) (Later.refl _), ?_⟩
    simp only [Act.put, sA, sB, sC]
    refine anyU_one 12 rfl (by kernel_rfl) (by rfl) ?_
    have kA := block_cell HA
    have fA := block_frozen HA
    unfold Oper.wp
    go_simp
    refine ⟨Rj_in (by rfl) trivial, ?_⟩
    clear kA fA
    generalize hV : World.setCell _ ⟨gn, 7, none⟩ _ = V8
    have hV9 : V8 = putRow W5 gn 0 [.int .i64 mr.kind, .int .u8 mr.proto, .int .u32 mr.net, .int .i64 mr.bits, .int .u32 mr.tt, .int .u16 mr.port, .int .u32 mr.host, .int .u16 mr.hp] := hV.symm
    have hb8 : But (fun b => b = gn) W5 V8 := by rw [hV9]; exact putRow_but (E := fun b => b = gn) (n := gn) rfl _ _ _ _ (But.refl _ _)
    have p8 := putRow_all [.int .i64 mr.kind, .int .u8 mr.proto, .int .u32 mr.net, .int .i64 mr.bits, .int .u32 mr.tt, .int .u16 mr.port, .int .u32 mr.host, .int .u16 mr.hp] HA rfl
    rw [← hV9] at p8
    have PP := hide p8
    clear hV hV9 p8
    have BB := hide (Below.trans LL (hb8.below LL.size (fun k h e => by omega)))
    refine anyU_one 13 rfl (by kernel_rfl) (by rfl) ?_
    refine wp_value (w' := V8) (.bool true) (by go_simp) ?_
    refine ⟨Rj_out (by rfl) (Later.refl _), ?_⟩
    simp only [Act.put, sA, sB, sC]
    refine anyU_done (by kernel_rfl) ?_
    refine ⟨rfl, ?_⟩
    go_wp2_with fail
    go_meet
    case rel => exact ⟨⟨gn, rfl, hgn, PP.out⟩, rfl, BB⟩
   case yt1012 =>
    have kA := block_cell HA
    have fA := block_frozen HA
    unfold Oper.wp
    go_simp
    refine ⟨Rj_in (by rfl) trivial, ?_⟩
    clear kA fA
    generalize hV : World.setCell _ ⟨gn, 7, none⟩ _ = V8
    have hV9 : V8 = putRow W5 gn 0 [.int .i64 mr.kind, .int .u8 mr.proto, .int .u32 mr.net, .int .i64 mr.bits, .int .u32 mr.tt, .int .u16 mr.port, .int .u32 mr.host, .int .u16 mr.hp] := hV.symm
    have hb8 : But (fun b => b = gn) W5 V8 := by rw [hV9]; exact putRow_but (E := fun b => b = gn) (n := gn) rfl _ _ _ _ (But.refl _ _)
    have p8 := putRow_all [.int .i64 mr.kind, .int .u8 mr.proto, .int .u32 mr.net, .int .i64 mr.bits, .int .u32 mr.tt, .int .u16 mr.port, .int .u32 mr.host, .int .u16 mr.hp] HA rfl
    rw [← hV9] at p8
    have PP := hide p8
    clear hV hV9 p8
    have BB := hide (Below.trans LL (hb8.below LL.size (fun k h e => by omega)))
    refine anyU_one 10 rfl (by kernel_rfl) (by rfl) ?_
    refine wp_value (w' := V8) (.bool true) (by go_simp) ?_
    refine ⟨Rj_out (by rfl) (Later.refl _), ?_⟩
    simp only [Act.put, sA, sB, sC]
    refine anyU_one 13 rfl (by kernel_rfl) (by rfl) ?_
    refine wp_value (w' := V8) (.bool true) (by go_simp) ?_
    refine ⟨Rj_out (by rfl) (Later.refl _), ?_⟩
    simp only [Act.put, sA, sB, sC]
    refine anyU_done (by kernel_rfl) ?_
    refine ⟨rfl, ?_⟩
    go_wp2_with fail
    go_meet
    case rel => exact ⟨⟨gn, rfl, hgn, PP.out⟩, rfl, BB⟩
 case rest =>
 obtain ⟨⟨gn, rfl, hgn, hC⟩, rfl, hL⟩ := hcut
 obtain ⟨w2, hw2⟩ : ∃ w2, w2 = wc := ⟨_, rfl⟩
 subst hw2
 have H2 := hide (HG.out.later hL.out)
 have K2 : Hid (Later w w2) := LW0.trans hL.out
 have D0 := hide (later_keep hL.out C0.out)
 have D1 := hide (later_keep hL.out C1.out)
 have D2 := hide hC
 have hgn2 : gx + 1 < gn := Nat.lt_of_lt_of_le (bl9 C1.out) hgn
 have hb2 : base ≤ w2.heap.size := Nat.le_trans hbs K2.out.size
 clear C0 C1 CG HG HMQ hL hC hgn LW0 l0
 have k0 := block_cell D0.out
 have k1 := block_cell D1.out
 have k2 := block_cell D2.out
 go_wp2_with fail
 refine (grefuse_no 2 w2).mono ?_
 rintro e w2' ⟨rfl, rfl⟩
 go_wp2_with fail
 refine (HTK.out w2 H2.out K2.out).mono ?_
 rintro e w3 ⟨n, rfl, l3⟩
 clear k0 k1 k2
 have k0 := block_cell (later_keep l3 D0.out)
 have k1 := block_cell (later_keep l3 D1.out)
 have k2 := block_cell (later_keep l3 D2.out)
 go_wp2_with fail
 have la := later_allocG w3 (.cells #[.int .u8 17, .int .u32 mr.tt, .int .u16 (n : Int)] 189)
 refine (grefuse_yes 4 _).mono ?_
 rintro e w4 ⟨rfl, hw4⟩
 rw [hw4] at la
 exact ⟨rfl, rfl, K2.out.trans (l3.trans la)⟩
theorem begin_n (base g : Nat) (s : Gf) (tos id ttl pr src dst : Int) (keep : Bool) (so sd : Value) (x d : Int) (a : Nat) (b : Int) (mr : Ru) (w : World) (h : GF base w g s) (hR : RdG s x d a b mr (fun _ _ _ _ => False)) (hbs : base ≤ w.heap.size) (hTK : TnH base w g s a mr) :
  Calls Tryz.prog 153 #[.agg #[.pointer (some ⟨g, 0, none⟩), .int .u8 tos, .int .u16 id, .bool keep, .int .u8 ttl, .int .u8 pr, .int .u32 src, .int .u32 dst, so, sd, .int .i64 0], .agg #[.int .u8 17, .int .u32 x, .int .u32 d, .int .u16 (a : Int), .int .u16 b]] w fun e w' => e = .panicked (dpp 4) ∧ Later w w' := by
 obtain ⟨l0, c0, c1⟩ := alloc2 w (.cells #[.pointer (some ⟨g, 0, none⟩), .int .u8 tos, .int .u16 id, .bool keep, .int .u8 ttl, .int .u8 pr, .int .u32 src, .int .u32 dst, so, sd, .int .i64 0] 149) (.cells #[.int .u8 17, .int .u32 x, .int .u32 d, .int .u16 (a : Int), .int .u16 b] 68)
 have C0 := hide c0
 have C1 := hide c1
 have HB := hide (beginInside_n base g s tos id ttl pr src dst keep so sd 0 x d a b mr _ (h.later l0) hR.ok hR.fd (Nat.le_trans hbs l0.size) hR.hx hR.hd hR.ha hR.hb hR.tt (hTK.later l0) hR.s1 hR.s2 hR.k1 hR.fs hR.ne hR.tr hR.nw hR.bg hR.id hR.cn hR.ln)
 clear c0 c1 h hR hTK
 go_enter Tryz.func153, Tryz.ntmps153
 go_upto_region 1 with fail
 generalize (w.alloc (.cells #[.pointer (some ⟨g, 0, none⟩), .int .u8 tos, .int .u16 id, .bool keep, .int .u8 ttl, .int .u8 pr, .int .u32 src, .int .u32 dst, so, sd, .int .i64 0] 149)).alloc (.cells #[.int .u8 17, .int .u32 x, .int .u32 d, .int .u16 (a : Int), .int .u16 b] 68) = w1 at *
 generalize hgx : w.heap.size = gx at C0 C1 ⊢
 have k0 := block_cell C0.out
 have k1 := block_cell C1.out
 go_wp2_with fail
 refine (grefuse_no 5 w1).mono ?_
 rintro e w2 ⟨rfl, rfl⟩
 go_wp2_with fail
 refine (grefuse_no 5 w1).mono ?_
 rintro e w2 ⟨rfl, rfl⟩
 go_wp2_with fail
 refine (grefuse_no 3 w1).mono ?_
 rintro e w2 ⟨rfl, rfl⟩
 go_wp2_with fail
 refine HB.out.mono ?_
 rintro e w2 ⟨rfl, l2⟩
 exact ⟨rfl, rfl, l0.trans l2⟩
theorem owner_n (base g : Nat) (s : Gf) (tos id ttl pr src dst : Int) (keep : Bool) (so sd : Value) (x d : Int) (a : Nat) (b : Int) (mr : Ru) (w : World) (h : GF base w g s) (hR : RdG s x d a b mr (fun _ _ _ _ => False)) (hbs : base ≤ w.heap.size) (hTK : TnH base w g s a mr) :
  Calls Tryz.prog 108 #[.agg #[.pointer (some ⟨g, 0, none⟩), .int .u8 tos, .int .u16 id, .bool keep, .int .u8 ttl, .int .u8 pr, .int .u32 src, .int .u32 dst, so, sd, .int .i64 0], .agg #[.int .u8 17, .int .u32 x, .int .u32 d, .int .u16 (a : Int), .int .u16 b]] w fun e w' => e = .panicked (dpp 4) ∧ Later w w' := by
 obtain ⟨l0, c0, c1⟩ := alloc2 w (.cells #[.pointer (some ⟨g, 0, none⟩), .int .u8 tos, .int .u16 id, .bool keep, .int .u8 ttl, .int .u8 pr, .int .u32 src, .int .u32 dst, so, sd, .int .i64 0] 149) (.cells #[.int .u8 17, .int .u32 x, .int .u32 d, .int .u16 (a : Int), .int .u16 b] 68)
 have C0 := hide c0
 have C1 := hide c1
 have HL := hide (lookUpF_none base g s 17 x d (a : Int) b _ (h.later l0) hR.k1 hR.hx hR.hd ⟨by omega, by have := hR.ha; omega⟩ hR.hb)
 have HB := hide (fun W (l : Later w W) => begin_n base g s tos id ttl pr src dst keep so sd x d a b mr W (h.later l) hR (Nat.le_trans hbs l.size) (hTK.later l))
 clear c0 c1 h hR hTK
 go_enter Tryz.func108, Tryz.ntmps108
 go_upto_region 1 with fail
 generalize (w.alloc (.cells #[.pointer (some ⟨g, 0, none⟩), .int .u8 tos, .int .u16 id, .bool keep, .int .u8 ttl, .int .u8 pr, .int .u32 src, .int .u32 dst, so, sd, .int .i64 0] 149)).alloc (.cells #[.int .u8 17, .int .u32 x, .int .u32 d, .int .u16 (a : Int), .int .u16 b] 68) = w1 at *
 generalize hgx : w.heap.size = gx at C0 C1 ⊢
 have k0 := block_cell C0.out
 have k1 := block_cell C1.out
 go_wp2_with fail
 refine HL.out.mono ?_
 rintro e w2 ⟨rfl, l2⟩
 clear k0 k1 HL
 have L2 : Later w w2 := l0.trans l2
 have k0 := block_cell (later_keep l2 C0.out)
 have k1 := block_cell (later_keep l2 C1.out)
 have HB2 := hide (HB.out w2 L2)
 clear HB
 go_wp2_with fail
 refine HB2.out.mono ?_
 rintro e w3 ⟨rfl, l3⟩
 exact ⟨rfl, rfl, L2.trans l3⟩
end Go.Proofs.YtofknbfbmaefoaaGreatDoor
