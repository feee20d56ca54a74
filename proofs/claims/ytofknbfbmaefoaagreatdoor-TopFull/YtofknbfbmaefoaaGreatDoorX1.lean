import Derived.Test.YtofknbfbmaefoaaGreatDoorX2
import Derived.Test.YtofknbfbmaefoaaGreatDoorX11
import Derived.Test.YtofknbfbmaefoaaGreatDoorX3
import Derived.Test.YtofknbfbmaefoaaGreatDoorX8
namespace Go.Proofs.YtofknbfbmaefoaaGreatDoor
set_option maxHeartbeats 16000000
open Go.RowKit Go.Shelf
set_option maxRecDepth 100000
set_option linter.unusedVariables false
set_option linter.unusedSimpArgs false
theorem frR (ws : Nat → Nat) (n m : Nat) : fr (wsR ws n) m = (fr ws m && !decide (m = n)) := fr_remove ws n m
theorem frA (ws : Nat → Nat) (n m : Nat) : fr (wsA ws n) m = (fr ws m || decide (m = n)) := fr_add ws n m
structure PoI (s : Gf) (pb : Nat) (ws : Nat → Nat) : Prop where
 ps : s.ps = [⟨17, 16909060, pb, ws⟩]
 pf : ∀ f ∈ s.fs, ∃ n : Nat, f.r.dp = (n : Int) ∧ s.lo ≤ n ∧ n ≤ s.hi ∧ fr ws n = false
 pn : ∀ x ∈ s.fs, ∀ y ∈ s.fs, x.r.dp = y.r.dp → x = y
 pa : ∀ m : Nat, s.lo ≤ m → m ≤ s.hi → fr ws m = true ∨ ∃ f ∈ s.fs, f.r.dp = (m : Int)
 pl : ∀ m : Nat, fr ws m = true → s.lo ≤ m ∧ m ≤ s.hi
 h3 : s.hi < 65536
def HvA (W : World) (s : Gf) : Prop := ∀ f ∈ s.fs, ∃ n : Nat, f.r.dp = (n : Int) ∧ HvOk W f 16909060 n
theorem HvA.kg {base : Nat} {A B : World} {s : Gf} (h : HvA A s) (k : KG base A B) : HvA B s := fun f hf => by
 obtain ⟨n, e, hv⟩ := h f hf
 exact ⟨n, e, hv.kg k⟩
theorem UL.eq {L : List Rw} (h : UL L) {t : Tu} {x y : Rw} (hx : x ∈ L) (hy : y ∈ L) (h1 : isT' t x = true) (h2 : isT' t y = true) : x = y := by
 have m1 : x ∈ L.filter (isT' t) := List.mem_filter.2 ⟨hx, h1⟩
 have m2 : y ∈ L.filter (isT' t) := List.mem_filter.2 ⟨hy, h2⟩
 have hl := h t
 generalize L.filter (isT' t) = M at *
 match M, hl, m1, m2 with
 | [], _, m, _ => cases m
 | [z], _, m1, m2 => rw [List.mem_singleton.1 m1, List.mem_singleton.1 m2]
 | _ :: _ :: _, hl, _, _ => simp at hl
theorem dpR_len {t : Tu} {L : List Rw} {r : Rw} (hr : r ∈ L) (ht : isT' t r = true) : (dpR t L).length + 1 ≤ L.length := by
 unfold dpR
 have h1 : ∀ l : List Rw, (l.filter (isT' t)).length + (l.filter (fun x => !isT' t x)).length = l.length := fun l => by
  induction l with
  | nil => rfl
  | cons y l ih =>
   rw [List.filter_cons, List.filter_cons]
   cases isT' t y <;> simp <;> omega
 have h2 := h1 L
 have h3 := List.length_pos_of_mem (List.mem_filter.2 ⟨hr, ht⟩)
 omega
theorem FlI.ended {s : Gf} {L : List Rw} {p T : Int} (h : FlI s L p T) {f : Fl} (hf : f ∈ s.fs) (pb : Nat) (ws : Nat → Nat) (n : Nat) (v : Value) {fe : Array MapEntry} (hes : EsI fe s.cf) : FlI (endS s f L 16909060 pb ws n v fe) (dpR f.r (dpR f.o L)) p T := by
 have hmem : ∀ r, r ∈ dpR f.r (dpR f.o L) ↔ r ∈ L ∧ isT' f.o r = false ∧ isT' f.r r = false := fun r => by
  unfold dpR
  rw [List.mem_filter, List.mem_filter]
  simp [and_assoc]
 have hfs : ∀ x, x ∈ (endS s f L 16909060 pb ws n v fe).fs ↔ x ∈ s.fs ∧ x.id ≠ f.id := fun x => by
  show x ∈ s.fs.filter (fun x => !(x.id == f.id)) ↔ _
  rw [List.mem_filter]
  simp
 obtain ⟨r1, hr1, ht1, hi1⟩ := h.ho f hf
 obtain ⟨r2, hr2, ht2, hi2⟩ := h.hr f hf
 have hlen : (s.fs.filter (fun x => !(x.id == f.id))).length + 1 = s.fs.length := by
  have h1 := nd_one h.nd f.id
  have h2 : 1 ≤ (s.fs.filter (fun x => x.id == f.id)).length := List.length_pos_of_mem (List.mem_filter.2 ⟨hf, by simp⟩)
  have h3 : (s.fs.filter (fun x => x.id == f.id)).length + (s.fs.filter (fun x => !(x.id == f.id))).length = s.fs.length := by
   have : ∀ l : List Fl, (l.filter (fun x => x.id == f.id)).length + (l.filter (fun x => !(x.id == f.id))).length = l.length := fun l => by
    induction l with
    | nil => rfl
    | cons y l ih =>
     rw [List.filter_cons, List.filter_cons]
     cases (y.id == f.id) <;> simp <;> omega
   exact this s.fs
  omega
 have keep : ∀ (x : Fl) (t : Tu) (r : Rw), x ∈ s.fs → x.id ≠ f.id → r ∈ L → r.id = x.id → r ∈ dpR f.r (dpR f.o L) := fun x t r hx hne hr hi => by
  refine (hmem r).2 ⟨hr, ?_, ?_⟩
  ·cases hb : isT' f.o r with
   | false => rfl
   | true =>
    have := h.ul.eq hr hr1 hb ht1
    rw [this, hi1] at hi
    exact absurd hi.symm hne
  ·cases hb : isT' f.r r with
   | false => rfl
   | true =>
    have := h.ul.eq hr hr2 hb ht2
    rw [this, hi2] at hi
    exact absurd hi.symm hne
 refine ⟨rfl, UL_dp _ (UL_dp _ h.ul), fun r hr => h.p17 r ((hmem r).1 hr).1, fun r hr => ?_, fun x hx => ?_, fun x hx => ?_, ?_, fun x hx y hy => h.bl x ((hfs x).1 hx).1 y ((hfs y).1 hy).1, hes, fun x hx => h.fl x ((hfs x).1 hx).1, fun x hx => h.ib x ((hfs x).1 hx).1, rfl, ?_, ?_, ?_, h.tr, h.bg, h.pp⟩
 ·obtain ⟨hrL, ho, hr'⟩ := (hmem r).1 hr
  obtain ⟨x, hx, hor, hi⟩ := h.own r hrL
  refine ⟨x, (hfs x).2 ⟨hx, fun e => ?_⟩, hor, hi⟩
  have := nd_eq h.nd hx hf e
  subst this
  rw [ho, hr'] at hor
  simp at hor
 ·obtain ⟨hx1, hx2⟩ := (hfs x).1 hx
  obtain ⟨r, hr, ht, hi⟩ := h.ho x hx1
  exact ⟨r, keep x x.o r hx1 hx2 hr hi, ht, hi⟩
 ·obtain ⟨hx1, hx2⟩ := (hfs x).1 hx
  obtain ⟨r, hr, ht, hi⟩ := h.hr x hx1
  exact ⟨r, keep x x.r r hx1 hx2 hr hi, ht, hi⟩
 ·exact List.Nodup.sublist ((List.filter_sublist (l := s.fs) (p := fun x => !(x.id == f.id))).map _) h.nd
 ·show s.cnt - 1 - 1 = 2 * ((s.fs.filter (fun x => !(x.id == f.id))).length : Int)
  have := h.cn
  omega
 ·show (s.fs.filter (fun x => !(x.id == f.id))).length ≤ 6
  have := h.sz
  omega
 ·show (dpR f.r (dpR f.o L)).length ≤ 2 * (s.fs.filter (fun x => !(x.id == f.id))).length
  have q1 := dpR_len hr1 ht1
  have q2 : r2 ∈ dpR f.o L := List.mem_filter.2 ⟨hr2, by
   cases hb : isT' f.o r2 with
   | false => rfl
   | true =>
    have e1 := isT'_eq.1 hb
    have e2 := isT'_eq.1 ht2
    exact absurd ⟨by rw [← e1.1, e2.1], by rw [← e1.2.1, e2.2.1], by rw [← e1.2.2.1, e2.2.2.1], by rw [← e1.2.2.2.1, e2.2.2.2.1], by rw [← e1.2.2.2.2, e2.2.2.2.2]⟩ (h.fl f hf).ne⟩
  have q3 := dpR_len q2 ht2
  have := h.ll
  omega
theorem PoI.ended {s : Gf} {L : List Rw} {p T : Int} (h : FlI s L p T) {pb : Nat} {ws : Nat → Nat} (hp : PoI s pb ws) {f : Fl} (hf : f ∈ s.fs) {n : Nat} (hn : f.r.dp = (n : Int)) (v : Value) (fe : Array MapEntry) : PoI (endS s f L 16909060 pb ws n v fe) pb (wsA ws n) := by
 have hfs : ∀ x, x ∈ (endS s f L 16909060 pb ws n v fe).fs ↔ x ∈ s.fs ∧ x.id ≠ f.id := fun x => by
  show x ∈ s.fs.filter (fun x => !(x.id == f.id)) ↔ _
  rw [List.mem_filter]
  simp
 refine ⟨rfl, fun x hx => ?_, fun x hx y hy => hp.pn x ((hfs x).1 hx).1 y ((hfs y).1 hy).1, fun m h1 h2 => ?_, fun m hm => ?_, hp.h3⟩
 ·obtain ⟨hx1, hx2⟩ := (hfs x).1 hx
  obtain ⟨m, e, h1, h2, h3⟩ := hp.pf x hx1
  refine ⟨m, e, h1, h2, ?_⟩
  rw [frA, h3, Bool.false_or, decide_eq_false_iff_not]
  intro q
  have := hp.pn x hx1 f hf (by rw [e, hn, q])
  exact hx2 (by rw [this])
 ·rw [frA]
  rcases hp.pa m h1 h2 with q | ⟨x, hx, e⟩
  ·exact .inl (by rw [q]; rfl)
  ·by_cases hxf : x = f
   ·subst hxf
    have : m = n := by omega
    exact .inl (by simp [this])
   ·exact .inr ⟨x, (hfs x).2 ⟨hx, fun e2 => hxf (nd_eq h.nd hx hf e2)⟩, e⟩
 ·rw [frA] at hm
  obtain ⟨k, e, h1, h2, h3⟩ := hp.pf f hf
  have : k = n := by omega
  subst this
  rcases Bool.or_eq_true_iff.1 hm with q | q
  ·exact hp.pl m q
  ·have : m = k := by simpa using q
   rw [this]
   exact ⟨h1, h2⟩
theorem FlI.enr {s : Gf} {L : List Rw} {p T : Int} (h : FlI s L p T) {pb : Nat} {ws : Nat → Nat} (hp : PoI s pb ws) {f : Fl} (hf : f ∈ s.fs) {n : Nat} (hn : f.r.dp = (n : Int)) : EnR s f L 16909060 pb ws n := by
 obtain ⟨r1, hr1, ht1, _⟩ := h.ho f hf
 obtain ⟨r2, hr2, ht2, _⟩ := h.hr f hf
 obtain ⟨k, e, h1, h2, h3⟩ := hp.pf f hf
 have hkn : k = n := by omega
 subst hkn
 have hl : 1 ≤ s.fs.length := List.length_pos_of_mem hf
 have hk := h.fl f hf
 refine ⟨hf, h.rw, h.ul, h.p17, ⟨r1, hr1, ht1⟩, ⟨r2, hr2, ht2⟩, hk.ne, hk.bo h.pp, hk.br h.pp, nd_one h.nd _, h.idu, h.es, (by have := h.sz; omega), fun x hx => (h.fl x hx).ms, (h.ib f hf).1, ?_, hp.ps, srE_17, ?_, ?_, h.ex⟩
 ·have := h.cn
  have := h.sz
  omega
 ·have := hp.h3
  omega
 ·unfold hsP
  simp [h1, h2, h3]
theorem flat_len (L : List Rw) (f : Rw → Nat) : ∀ n, ((List.range n).flatMap (fun j => L.filter (fun r => f r == j))).length = (L.filter (fun r => decide (f r < n))).length
 | 0 => by
  rw [show L.filter (fun r => decide (f r < 0)) = [] from List.filter_eq_nil_iff.2 (fun x _ => by simp)]
  rfl
 | n + 1 => by
  rw [List.range_succ, List.flatMap_append, List.length_append, flat_len L f n]
  simp only [List.flatMap_cons, List.flatMap_nil, List.append_nil]
  induction L with
  | nil => rfl
  | cons r L ih =>
   rw [List.filter_cons, List.filter_cons, List.filter_cons]
   by_cases h1 : f r < n
   ·have h2 : ¬ f r = n := by omega
    have h3 : f r < n + 1 := by omega
    simp [h1, h2, h3] at ih ⊢
    omega
   ·by_cases h2 : f r = n
    ·have h3 : f r < n + 1 := by omega
     simp [h1, h2, h3] at ih ⊢
     omega
    ·have h3 : ¬ f r < n + 1 := by omega
     simp [h1, h2, h3] at ih ⊢
     omega
theorem allL_len (L : List Rw) : (allR (rwL L)).length ≤ L.length := by
 show ((List.range 256).flatMap (fun j => L.filter (fun r => bkR r == j))).length ≤ _
 rw [flat_len]
 exact List.length_filter_le _ _
theorem due_quiet {L : List Rw} (h : TiI L) (n : Int) (hn : n ≤ 0) : duR n (allR (rwL L)) = [] := by
 unfold duR
 rw [List.filter_eq_nil_iff]
 intro x hx
 have := h x ((allL_mem L x).1 hx)
 simp
 omega
theorem insF_perm' (x : Rw) (P : List Rw) : (insF x P).Perm (x :: P) := by
 unfold insF
 have h : (P.reverse.takeWhile (ltR x) ++ P.reverse.dropWhile (ltR x)).reverse = P := by rw [List.takeWhile_append_dropWhile, List.reverse_reverse]
 rw [List.reverse_append] at h
 have h2 := List.perm_middle (a := x) (l₁ := (P.reverse.dropWhile (ltR x)).reverse) (l₂ := (P.reverse.takeWhile (ltR x)).reverse)
 rw [h] at h2
 exact h2
theorem isort_perm' (l : List Rw) : (isort l).Perm l := by
 have : ∀ (m P : List Rw), (m.foldl (fun P x => insF x P) P).Perm (P ++ m) := by
  intro m
  induction m with
  | nil => intro P; simp
  | cons x m ih =>
   intro P
   rw [List.foldl_cons]
   refine (ih _).trans ?_
   refine ((insF_perm' x P).append_right m).trans ?_
   rw [List.cons_append]
   exact List.perm_middle.symm
 unfold isort
 simpa using this l []
theorem dueL (L : List Rw) (h : TiI L) (r : Rw) : r ∈ isort (duR 1000 (allR (rwL L))) ↔ r ∈ L := by
 rw [(isort_perm' _).mem_iff]
 unfold duR
 rw [List.mem_filter, allL_mem]
 constructor
 ·exact fun q => q.1
 ·exact fun q => ⟨q, by have := h r q; simp; omega⟩
theorem rks_at' : ∀ (l : List Rw) (j i : Nat) (hj : j < l.length), i < 5 → (rks l)[j * 5 + i]? = (rwk l[j])[i]?
 | r :: l, 0, i, _, hi => by
  unfold rks
  rw [List.flatMap_cons, List.getElem?_append_left (by simp [rwk]; omega)]
  simp
 | r :: l, j + 1, i, hj, hi => by
  have := rks_at' l j i (by simpa using hj) hi
  unfold rks at this ⊢
  rw [List.flatMap_cons, List.getElem?_append_right (by simp [rwk]; omega)]
  simp only [rwk, List.length_cons, List.length_nil] at this ⊢
  rw [show (j + 1) * 5 + i - (0 + 1 + 1 + 1 + 1 + 1) = j * 5 + i from by omega]
  simpa using this
def SmF (s s' : Gf) : Prop := s'.lo = s.lo ∧ s'.hi = s.hi ∧ s'.now = s.now ∧ s'.ls = s.ls ∧ s'.trn = s.trn ∧ s'.bg = s.bg
theorem SmF.refl (s : Gf) : SmF s s := ⟨rfl, rfl, rfl, rfl, rfl, rfl⟩
theorem SmF.trans {a b c : Gf} (h : SmF a b) (k : SmF b c) : SmF a c := ⟨k.1.trans h.1, k.2.1.trans h.2.1, k.2.2.1.trans h.2.2.1, k.2.2.2.1.trans h.2.2.2.1, k.2.2.2.2.1.trans h.2.2.2.2.1, k.2.2.2.2.2.trans h.2.2.2.2.2⟩
def tuR (r : Rw) : Tu := ⟨r.p, r.s, r.d, r.a, r.b⟩
theorem tuR_is {r : Rw} (h : r.p = 17) (x : Rw) (t : Tu) (ht : isT' t r = true) : isT' (tuR r) x = isT' t x := by
 have q := isT'_eq.1 ht
 have e : kyp r.p r.a = r.a := by rw [h]; rfl
 show isK r.p r.s r.d (kyp r.p r.a) r.b x = isK t.pr t.src t.dst (kyp t.pr t.sp) t.dp x
 rw [e, q.1, q.2.1, q.2.2.1, q.2.2.2.1, q.2.2.2.2]
def TlQ (base g : Nat) (s1 : Gf) (p T : Int) (pb : Nat) (l' : List Rw) (w0 : World) (k : Nat) (wr : World) : Prop := ∃ (s' : Gf) (L' : List Rw) (ws' : Nat → Nat), GF base wr g s' ∧ FlI s' L' p T ∧ PoI s' pb ws' ∧ HvA wr s' ∧ KG base w0 wr ∧ SmF s1 s' ∧ (∀ f ∈ s'.fs, ∃ r ∈ l'.drop k, isT' f.o r = true)
def RrQ (r : Rw) : Prop := r.p = 17 ∧ (0 ≤ r.s ∧ r.s ≤ 4294967295) ∧ (0 ≤ r.d ∧ r.d ≤ 4294967295) ∧ (0 ≤ r.a ∧ r.a ≤ 65535) ∧ (0 ≤ r.b ∧ r.b ≤ 65535)
theorem FlI.rr {s : Gf} {L : List Rw} {p T : Int} (h : FlI s L p T) {r : Rw} (hr : r ∈ L) : RrQ r := by
 have h17 := h.p17 r hr
 obtain ⟨f, hf, hor, _⟩ := h.own r hr
 have hk := h.fl f hf
 have bo := hk.bo h.pp
 have br := hk.br h.pp
 rcases hor with q | q
 ·have q := isT'_eq.1 q
  have e : kyp f.o.pr f.o.sp = f.o.sp := by rw [hk.op]; rfl
  rw [e] at q
  exact ⟨h17, by rw [q.2.1]; exact bo.1, by rw [q.2.2.1]; exact bo.2.1, by rw [q.2.2.2.1]; exact bo.2.2.1, by rw [q.2.2.2.2]; exact bo.2.2.2⟩
 ·have q := isT'_eq.1 q
  have e : kyp f.r.pr f.r.sp = f.r.sp := by rw [hk.rp]; rfl
  rw [e] at q
  exact ⟨h17, by rw [q.2.1]; exact br.1, by rw [q.2.2.1]; exact br.2.1, by rw [q.2.2.2.1]; exact br.2.2.1, by rw [q.2.2.2.2]; exact br.2.2.2⟩
theorem due_finds {s : Gf} {L : List Rw} {p T : Int} (h : FlI s L p T) {r : Rw} (hr : RrQ r) : kx r.p r.s r.d r.a r.b s.rw = none ∧ (∀ x ∈ L, isT' (tuR r) x = false) ∨ ∃ f ∈ s.fs, ∃ (k : Nat) (x : Rw), x ∈ L ∧ isT' (tuR r) x = true ∧ kx r.p r.s r.d r.a r.b s.rw = some k ∧ (s.rw (bki r.p r.s r.d r.a r.b))[k]? = some x ∧ x.id = f.id := by
 by_cases hx : ∃ x ∈ L, isT' (tuR r) x = true
 ·obtain ⟨x, hx, ht⟩ := hx
  obtain ⟨k, hk, hg⟩ := kxL_some L (tuR r) x hx ht h.ul
  obtain ⟨f, hf, _, hi⟩ := h.own x hx
  rw [h.rw]
  exact .inr ⟨f, hf, k, x, hx, ht, hk, hg, hi⟩
 ·have hn : ∀ x ∈ L, isT' (tuR r) x = false := fun x hm => by
   cases hb : isT' (tuR r) x with
   | false => rfl
   | true => exact absurd ⟨x, hm, hb⟩ hx
  rw [h.rw]
  exact .inl ⟨(kxL_none L (tuR r)).2 hn, hn⟩
theorem GF.nowF {base g : Nat} {W : World} {s : Gf} (h : GF base W g s) : GF base (W.setCell ⟨g, 2, none⟩ (.int .i64 1000)) g { s with now := 1000 } := h.now 1000
def TkE (base g : Nat) (s : Gf) (pb : Nat) (w' : World) : Prop := ∃ (s' : Gf) (ws' : Nat → Nat), GF base w' g s' ∧ s'.fs = [] ∧ s'.rw = rwL [] ∧ s'.ps = [⟨17, 16909060, pb, ws'⟩] ∧ (∀ m : Nat, s.lo ≤ m → m ≤ s.hi → fr ws' m = true) ∧ s'.lo = s.lo ∧ s'.hi = s.hi ∧ s'.ls = s.ls ∧ s'.now = 1000 ∧ s'.ex = [] ∧ s'.cnt = 0 ∧ s'.trn = s.trn ∧ s'.bg = s.bg
theorem tick_ends (base g : Nat) (s : Gf) (L : List Rw) (p T : Int) (pb : Nat) (ws : Nat → Nat) (w : World) (h : GF base w g s) (hI : FlI s L p T) (hT : TiI L) (hP : PoI s pb ws) (hV : HvA w s) (hnw : s.now = 0) (hbs : base ≤ w.heap.size) :
  Calls Tryz.prog 14 #[.pointer (some ⟨g, 0, none⟩), .int .i64 1000] w fun e w' => e = .returned (.tuple #[]) ∧ KG base w w' ∧ TkE base g s pb w' := by
 have HI := hide hI
 have HT := hide hT
 have HP := hide hP
 have HV := hide hV
 have HG := hide h
 have k0 := block_cell h.gc
 have f0 := block_frozen h.gc
 unfold gfc at k0
 rw [hnw] at k0
 have h1 : GF base (w.setCell ⟨g, 2, none⟩ (.int .i64 1000)) g { s with now := 1000 } := h.nowF
 have hb1 : But (fun b => b = g) w (w.setCell ⟨g, 2, none⟩ (.int .i64 1000)) := (But.refl (fun b => b = g) w).setCell (p := ⟨g, 2, none⟩) (show _ = _ from rfl) _
 have m1 : KG base w (w.setCell ⟨g, 2, none⟩ (.int .i64 1000)) := KG.of_but hb1 (fun k e => by
  have e' : k = g := e
  rw [e']
  refine ⟨h.bs, fun ob ho => ?_⟩
  rw [h.gc] at ho
  cases ho
  show gTs.contains _ = true
  decide)
 have H1 := hide h1
 have M1 := hide m1
 clear h hI hT hP hV h1 m1 hb1
 go_enter Tryz.func14, Tryz.ntmps14
 go_upto_region 2 with fail
 generalize w.setCell ⟨g, 2, none⟩ (.int .i64 1000) = w1 at *
 clear k0 f0
 obtain ⟨s1, hs1⟩ : ∃ s1 : Gf, s1 = { s with now := 1000 } := ⟨_, rfl⟩
 rw [← hs1] at H1
 have HS1 := hide hs1
 have HI1 : Hid (FlI s1 L p T) := by rw [hs1]; exact ⟨HI.out.rw, HI.out.ul, HI.out.p17, HI.out.own, HI.out.ho, HI.out.hr, HI.out.nd, HI.out.bl, HI.out.es, HI.out.fl, HI.out.ib, HI.out.ex, HI.out.cn, HI.out.sz, HI.out.ll, HI.out.tr, HI.out.bg, HI.out.pp⟩
 have HP1 : Hid (PoI s1 pb ws) := by rw [hs1]; exact ⟨HP.out.ps, HP.out.pf, HP.out.pn, HP.out.pa, HP.out.pl, HP.out.h3⟩
 have HV1 : Hid (HvA w1 s1) := by rw [hs1]; exact HV.out.kg M1.out
 have HN1 : Hid (s1.now = 1000) := by rw [hs1]; exact rfl
 clear hs1 HP HV HG
 refine anyT_begin (R := Later) 11 rfl (by kernel_rfl) ?_
 have ld : Later w1 w1.drew := Later.drew w1
 generalize w1.drew = w2 at *
 have H2 := hide (H1.out.later ld)
 have M2 := hide (M1.out.trans (KG.of_later ld))
 have HV2 := hide (HV1.out.kg (KG.of_later (base := base) ld))
 have q1 : ∀ v, Later w2 v → ∀ j, v.cell? ⟨g, j, none⟩ = (gfc s1).toArray[j]? := fun v hv => block_cell (later_keep hv H2.out.gc)
 unfold gfc at q1
 rw [HN1.out] at q1
 clear H1 M1 HV1 ld
 refine tV Later.pre 0 rfl rfl ⟨_, fun v h => by (go_simp; rfl), ?_⟩; simp only [Act.put, sA, sB, sC]
 refine tV Later.pre 1 rfl rfl ⟨_, fun v h => by (go_simp; rfl), ?_⟩; simp only [Act.put, sA, sB, sC]
 refine tV Later.pre 2 rfl rfl ⟨_, fun v h => by (go_simp; rfl), ?_⟩; simp only [Act.put, sA, sB, sC]
 refine tV Later.pre 3 rfl rfl ⟨_, fun v h => by (go_simp; rfl), ?_⟩; simp only [Act.put, sA, sB, sC]
 refine tV Later.pre 4 rfl rfl ⟨_, fun v h => by (go_simp; rfl), ?_⟩; simp only [Act.put, sA, sB, sC]
 refine tV Later.pre 5 rfl rfl ⟨_, fun v h => by (go_simp; rfl), ?_⟩; simp only [Act.put, sA, sB, sC]
 refine tV Later.pre 6 rfl rfl ⟨_, fun v h => by (go_simp; rfl), ?_⟩; simp only [Act.put, sA, sB, sC]
 refine tV Later.pre 7 rfl rfl ⟨_, fun v h => by (go_simp; rfl), ?_⟩; simp only [Act.put, sA, sB, sC]
 refine tV Later.pre 10 rfl rfl ⟨_, fun v h => by (go_simp; rfl), ?_⟩; simp only [Act.put, sA, sB, sC]
 clear q1
 refine anyT_one 8 rfl (by kernel_rfl) rfl ?_
 refine wp_enter 32 #[.pointer (some ⟨s1.gt, 0, none⟩), .int .i64 1000] (by go_simp) ?_
 obtain ⟨l', hl'⟩ : ∃ l', l' = isort (duR 1000 (allR (rwL L))) := ⟨_, rfl⟩
 have hdl : (duR 1000 (allR (rwL L))).length ≤ 12 := Nat.le_trans (by unfold duR; exact List.length_filter_le _ _) (Nat.le_trans (allL_len L) HI.out.ll12)
 have hl12 : l'.length ≤ 12 := by rw [hl', isort_length]; exact hdl
 have HML : Hid (∀ r, r ∈ l' ↔ r ∈ L) := fun r => by rw [hl']; exact dueL L HT.out r
 have HLP := hide hl'
 clear hl'
 refine (due_any base s1.gt 128 s1.cnt s1.trn 1000 s1.rw l' w2 H2.out.tb (by rw [HI1.out.rw, HLP.out]; exact sorts_few _ hdl) (by rw [HI1.out.rw]; exact Nat.le_trans (allL_len L) (by have := HI.out.ll12; omega))).mono ?_
 rintro e w3 ⟨l3, gd, rfl, hgd, hcd⟩
 have l3' : Later w2 w3 := l3
 refine ⟨l3', ?_⟩
 simp only [Act.put, sA, sB, sC]
 refine tV Later.pre 9 rfl rfl ⟨_, fun v h => by (go_simp; rfl), ?_⟩; simp only [Act.put, sA, sB, sC]
 refine anyT_done (by kernel_rfl) ?_
 have H3 := hide (H2.out.later l3')
 have M3 := hide (M2.out.trans (KG.of_later l3'))
 have HV3 := hide (HV2.out.kg (KG.of_later (base := base) l3'))
 have HCD := hide hcd
 have hb3 : base ≤ w3.heap.size := Nat.le_trans hbs M3.out.size
 have HTL : Hid (TlQ base g s1 p T pb l' w3 0 w3) := ⟨s1, L, ws, H3.out, HI1.out, HP1.out, HV3.out, KG.refl _ _, SmF.refl _, fun f hf => by
  obtain ⟨r, hr, ht, _⟩ := HI1.out.ho f hf
  exact ⟨r, by rw [List.drop_zero]; exact (HML.out r).2 hr, ht⟩⟩
 have HRR : Hid (∀ r ∈ l', RrQ r) := fun r hr => HI1.out.rr ((HML.out r).1 hr)
 clear H2 M2 HV2 l3 l3' hcd hdl HLP H3 HV3 HI1 HP1 HT HML
 go_upto_region 3 with fail
 go_loopw [31] (fun iv wr => ∃ k : Nat, iv = .int .i64 (k : Int) ∧ k ≤ l'.length ∧ TlQ base g s1 p T pb l' w3 k wr) (fun iv _ => l'.length - (intOf iv).toNat)
 case atStart => exact ⟨0, rfl, by omega, HTL.out⟩
 case round =>
  obtain ⟨k, rfl, hk, hTl⟩ := hrel
  rename World => wr
  by_cases hlt : k < l'.length
  ·have hlt' : (k : Int) < l'.length := by omega
   have hk12 : k ≤ 12 := by omega
   obtain ⟨s', L', ws', hG, hI, hP, hV, hK, hS, hR⟩ := hTl
   have hdk : l'.drop k = l'[k] :: l'.drop (k + 1) := List.drop_eq_getElem_cons hlt
   have hrq := HRR.out l'[k] (List.getElem_mem hlt)
   have hcd := hK.cells HCD.out (by decide)
   have hc : ∀ i, i < 5 → wr.cell? ⟨gd, k * 5 + i, none⟩ = (rwk l'[k])[i]? := fun i hi => by
    rw [block_cell hcd, List.getElem?_toArray]
    exact rks_at' l' k i hlt hi
   rw [hdk] at hR
   generalize l'[k] = r at *
   have c0 : wr.cell? ⟨gd, k * 5, none⟩ = some (.int .u8 r.p) := hc 0 (by omega)
   have c1 : wr.cell? ⟨gd, k * 5 + 1, none⟩ = some (.int .u32 r.s) := hc 1 (by omega)
   have c2 : wr.cell? ⟨gd, k * 5 + 2, none⟩ = some (.int .u32 r.d) := hc 2 (by omega)
   have c3 : wr.cell? ⟨gd, k * 5 + 3, none⟩ = some (.int .u16 r.a) := hc 3 (by omega)
   have c4 : wr.cell? ⟨gd, k * 5 + 4, none⟩ = some (.int .u16 r.b) := hc 4 (by omega)
   have la := later_allocG wr (.cells #[.int .u8 r.p, .int .u32 r.s, .int .u32 r.d, .int .u16 r.a, .int .u16 r.b] 68)
   have C5 := hide (heap_alloc_new wr (.cells #[.int .u8 r.p, .int .u32 r.s, .int .u32 r.d, .int .u16 r.a, .int .u16 r.b] 68))
   have HG4 := hide (hG.later la)
   have HV4 := hide (hV.kg (KG.of_later (base := base) la))
   have HK4 := hide (hK.trans (KG.of_later la))
   have HII := hide hI
   have HPP := hide hP
   have HSS := hide hS
   have HRR' := hide hR
   have HRQ := hide hrq
   clear hc hcd hdk hG hI hP hV hK hS hR hrq la
   go_upto_region 5 with fail
   generalize wr.alloc _ = w4 at *
   generalize wr.heap.size = g5 at *
   clear c0 c1 c2 c3 c4
   have k5 := block_cell C5.out
   have hb4 : base ≤ w4.heap.size := Nat.le_trans hb3 HK4.out.size
   rcases due_finds HII.out HRQ.out with ⟨hn, hnx⟩ | ⟨f, hf, j, x, hxL, hxt, hkx, hgx, hid⟩
   ·have HL := hide (lookUpF_none base g s' r.p r.s r.d r.a r.b w4 HG4.out hn HRQ.out.2.1 HRQ.out.2.2.1 HRQ.out.2.2.2.1 HRQ.out.2.2.2.2)
    have HREM : Hid (∀ f ∈ s'.fs, ∃ q ∈ l'.drop (k + 1), isT' f.o q = true) := fun f hf => by
     obtain ⟨q, hq, ht⟩ := HRR'.out f hf
     rcases List.mem_cons.1 hq with rfl | hq
     ·obtain ⟨y, hy, hyt, _⟩ := HII.out.ho f hf
      have := hnx y hy
      rw [tuR_is HRQ.out.1 y f.o ht, hyt] at this
      cases this
     ·exact ⟨q, hq, ht⟩
    clear hn hnx
    go_wp2_with fail
    refine HL.out.mono ?_
    rintro e w5 ⟨rfl, l5⟩
    have HREL : Hid (∃ k' : Nat, Value.int .i64 ((k : Int) + 1) = .int .i64 (k' : Int) ∧ k' ≤ l'.length ∧ TlQ base g s1 p T pb l' w3 k' w5) := ⟨k + 1, rfl, by omega, s', L', ws', HG4.out.later l5, HII.out, HPP.out, HV4.out.kg (KG.of_later (base := base) l5), HK4.out.trans (KG.of_later l5), HSS.out, HREM.out⟩
    clear k5 HL
    go_wp2_with fail
    go_roundw
    case rel => exact HREL.out
    case measure => simp [intOf]; omega
   ·obtain ⟨n, hn, hvn⟩ := HV4.out f hf
    obtain ⟨bk, hbk⟩ : ∃ bk : Bool, bk = true ↔ ¬ (r.p = f.o.pr ∧ r.s = f.o.src ∧ r.d = f.o.dst ∧ kyp r.p r.a = kyp f.o.pr f.o.sp ∧ r.b = f.o.dp) := ⟨decide (¬ (r.p = f.o.pr ∧ r.s = f.o.src ∧ r.d = f.o.dst ∧ kyp r.p r.a = kyp f.o.pr f.o.sp ∧ r.b = f.o.dp)), decide_eq_true_iff⟩
    have HL := hide (lookUpF_yes base g s' f bk r.p r.s r.d r.a r.b j x w4 HG4.out hf HII.out.idu hkx hgx hid HRQ.out.2.1 HRQ.out.2.2.1 HRQ.out.2.2.2.1 HRQ.out.2.2.2.2 hbk)
    have HE := hide (fun W (l : Later w4 W) => end_udp base g s' f L' 16909060 pb ws' n W (HG4.out.later l) (HII.out.enr HPP.out hf hn) (hvn.kg (KG.of_later (base := base) l)) (Nat.le_trans hb4 l.size))
    have HREM : Hid (∀ y ∈ s'.fs, y.id ≠ f.id → ∃ q ∈ l'.drop (k + 1), isT' y.o q = true) := fun y hy hne => by
     obtain ⟨q, hq, ht⟩ := HRR'.out y hy
     rcases List.mem_cons.1 hq with rfl | hq
     ·obtain ⟨z, hz, hzt, hzi⟩ := HII.out.ho y hy
      have e1 : isT' y.o x = true := by rw [← tuR_is HRQ.out.1 x y.o ht]; exact hxt
      have := HII.out.ul.eq hz hxL hzt e1
      rw [← hzi, this] at hne
      exact absurd hid hne
     ·exact ⟨q, hq, ht⟩
    have HF := hide hf
    have HN := hide hn
    clear hkx hgx hxt hxL hvn hbk hf hn hid
    go_wp2_with fail
    refine HL.out.mono ?_
    rintro e w5 ⟨rfl, l5⟩
    clear k5 HL
    go_wp2_with fail
    refine (HE.out w5 l5).mono ?_
    rintro e w6 ⟨rfl, k6, v, fe, hes, hG6⟩
    have HREL : Hid (∃ k' : Nat, Value.int .i64 ((k : Int) + 1) = .int .i64 (k' : Int) ∧ k' ≤ l'.length ∧ TlQ base g s1 p T pb l' w3 k' w6) := ⟨k + 1, rfl, by omega, _, _, _, hG6, HII.out.ended HF.out pb ws' n v hes, HPP.out.ended HII.out HF.out HN.out v fe, fun y hy => (HV4.out.kg ((KG.of_later l5).trans k6)) y (List.mem_filter.1 hy).1, HK4.out.trans ((KG.of_later l5).trans k6), HSS.out.trans (SmF.refl _), fun y hy => by
     have hy' := List.mem_filter.1 hy
     exact HREM.out y hy'.1 (by simpa using hy'.2)⟩
    clear hG6 hes k6 HE
    go_wp2_with fail
    go_roundw
    case rel => exact HREL.out
    case measure => simp [intOf]; omega
  ·have hkn : k = l'.length := by omega
   obtain ⟨s2, L2, ws2, hG, hI, hP, hV, hK, hS, hR⟩ := hTl
   have hfs : s2.fs = [] := by
    cases hq : s2.fs with
    | nil => rfl
    | cons f l =>
     obtain ⟨q, hq2, _⟩ := hR f (by rw [hq]; simp)
     rw [hkn, List.drop_length] at hq2
     cases hq2
   have hL2 : L2 = [] := by
    cases hq : L2 with
    | nil => rfl
    | cons r l =>
     obtain ⟨f, hf, _⟩ := hI.own r (by rw [hq]; simp)
     rw [hfs] at hf
     cases hf
   subst hL2
   have HG2 := hide hG
   have HII := hide hI
   have HPP := hide hP
   have HK2 := hide hK
   have HSS := hide hS
   have HFS := hide hfs
   clear hG hI hP hV hK hS hR hfs
   have hlt' : ¬ ((k : Int) < (l'.length : Int)) := by omega
   clear hkn hk
   go_upto_region 9 with fail
   refine anyT_begin (R := But (fun b => b = s2.gb)) 11 rfl (by kernel_rfl) ?_
   have ld : Later wr wr.drew := Later.drew wr
   generalize wr.drew = w4 at *
   have H4 := hide (HG2.out.later ld)
   have K4 := hide (HK2.out.trans (KG.of_later ld))
   clear HG2 HK2 ld
   have hb4 : base ≤ w4.heap.size := Nat.le_trans hb3 K4.out.size
   have hnow : s2.now = 1000 := HSS.out.2.2.1.trans HN1.out
   have q1 : ∀ v, But (fun b => b = s2.gb) w4 v → ∀ j, v.cell? ⟨g, j, none⟩ = (gfc s2).toArray[j]? := fun v hv => block_cell (cellsG_but hv H4.out.gc H4.out.bl.2.1 (by intro e; injection e with e1 e2 e3; exact absurd e2 (by decide)))
   unfold gfc at q1
   rw [hnow] at q1
   have HNOW := hide hnow
   clear hnow
   refine tV (But.pre (fun b => b = s2.gb)) 0 rfl rfl ⟨_, fun v h => by (go_simp; rfl), ?_⟩; simp only [Act.put, sA, sB, sC]
   refine tV (But.pre (fun b => b = s2.gb)) 1 rfl rfl ⟨_, fun v h => by (go_simp; rfl), ?_⟩; simp only [Act.put, sA, sB, sC]
   refine tV (But.pre (fun b => b = s2.gb)) 2 rfl rfl ⟨_, fun v h => by (go_simp; rfl), ?_⟩; simp only [Act.put, sA, sB, sC]
   refine tV (But.pre (fun b => b = s2.gb)) 3 rfl rfl ⟨_, fun v h => by (go_simp; rfl), ?_⟩; simp only [Act.put, sA, sB, sC]
   refine tV (But.pre (fun b => b = s2.gb)) 4 rfl rfl ⟨_, fun v h => by (go_simp; rfl), ?_⟩; simp only [Act.put, sA, sB, sC]
   refine tV (But.pre (fun b => b = s2.gb)) 5 rfl rfl ⟨_, fun v h => by (go_simp; rfl), ?_⟩; simp only [Act.put, sA, sB, sC]
   refine tV (But.pre (fun b => b = s2.gb)) 6 rfl rfl ⟨_, fun v h => by (go_simp; rfl), ?_⟩; simp only [Act.put, sA, sB, sC]
   refine tV (But.pre (fun b => b = s2.gb)) 7 rfl rfl ⟨_, fun v h => by (go_simp; rfl), ?_⟩; simp only [Act.put, sA, sB, sC]
   refine tV (But.pre (fun b => b = s2.gb)) 8 rfl rfl ⟨_, fun v h => by (go_simp; rfl), ?_⟩; simp only [Act.put, sA, sB, sC]
   clear q1
   refine anyT_one 9 rfl (by kernel_rfl) rfl ?_
   refine wp_enter 36 #[.pointer (some ⟨s2.gb, 0, none⟩), .int .i64 1000] (by go_simp) ?_
   refine (due12_any base s2.gb s2.ve [] 1000 w4 (by have q := H4.out.bl; rw [HII.out.ex] at q; exact q) hb4 (by simp)).mono ?_
   rintro e w5 ⟨u, rfl, v5, hbl, hrow, hbut, _⟩
   obtain ⟨ua, uc, rfl⟩ : ∃ a c, u = .slice a 0 c := by
    obtain ⟨_, ⟨rfl, _⟩ | ⟨b, cap, cur, rfl, _⟩⟩ := hrow
    ·exact ⟨_, _, rfl⟩
    ·exact ⟨_, _, rfl⟩
   have H5 := hide (H4.out.book hbut hbl)
   have K5 : Hid (KG base w3 w5) := K4.out.trans (KG.of_but hbut (fun q e => by
    have e' : q = s2.gb := e
    rw [e']
    refine ⟨H4.out.bl.1, fun ob ho => ?_⟩
    have hh := H4.out.bl.2.1
    rw [hh] at ho
    cases ho
    show gTs.contains _ = true
    decide))
   have HB := hide hbut
   clear hbut hrow hbl
   refine ⟨HB.out, ?_⟩
   simp only [Act.put, sA, sB, sC]
   refine anyT_one 10 rfl (by kernel_rfl) rfl ?_
   refine wp_enter 35 #[.pointer (some ⟨g, 0, none⟩), .slice ua 0 uc] (by go_simp) ?_
   refine (giveExpected_none _ ua uc w5).mono ?_
   rintro e w6 ⟨rfl, hw6⟩
   subst hw6
   refine ⟨But.refl _ _, ?_⟩
   simp only [Act.put, sA, sB, sC]
   refine anyT_done (by kernel_rfl) ?_
   have HFIN : Hid (TkE base g s pb w6) := by
    have q := HSS.out
    rw [HS1.out] at q
    refine ⟨_, ws2, H5.out, HFS.out, HII.out.rw, HPP.out.ps, fun m h1 h2 => ?_, q.1, q.2.1, q.2.2.2.1, HNOW.out, rfl, ?_, q.2.2.2.2.1, q.2.2.2.2.2⟩
    ·rcases HPP.out.pa m (by rw [q.1]; exact h1) (by rw [q.2.1]; exact h2) with e | ⟨f, hf, _⟩
     ·exact e
     ·rw [HFS.out] at hf; cases hf
    ·have := HII.out.cn
     rw [HFS.out] at this
     simpa using this
   go_wp2_with fail
   go_end0
   exact ⟨rfl, M3.out.trans K5.out, HFIN.out⟩
section
variable (tos id f ttl proto src dst : Int) (zo zd : List Int) (all s : Int)
end
def UG (src dst a b : Int) (zm z : List Int) : Prop := Mt.By z ∧ z.length = 8 + zm.length ∧ ofe 17 src dst z = 0 ∧ ofa 17 z = a ∧ ofb 17 z = b ∧ z.drop 8 = zm
theorem ug_built (src dst a b : Int) (bare : Bool) (zm : List Int) (hsr : 0 ≤ src ∧ src ≤ 4294967295) (hds : 0 ≤ dst ∧ dst ≤ 4294967295) (ha : 0 ≤ a ∧ a ≤ 65535) (hb : 0 ≤ b ∧ b ≤ 65535) (hB : Mt.By zm) (hl : zm.length ≤ 500) : UG src dst a b zm (udp a b bare src dst zm) := by
 refine ⟨By_udp a b bare src dst zm ha hb hB, udp_length _ _ _ _ _ _, ?_, udp_w0 _ _ _ _ _ _, udp_w2 _ _ _ _ _ _, udp_drop _ _ _ _ _ _⟩
 rw [show ofe 17 src dst (udp a b bare src dst zm) = pue 17 src dst (udp a b bare src dst zm) from rfl, udp_pue _ _ _ _ _ _ 17 rfl src dst (by omega), if_neg]
 rintro ⟨h1, h2⟩
 subst h1
 exact h2 (udp_good a b src dst zm hsr hds (By_udp0 a b zm ha hb hB))
def dgB (ttl src dst : Int) (z : List Int) : List Int := hdr 0 0 false ttl 17 src dst [] (20 + ([] : List Int).length + z.length) ++ z
structure DgF (ttl src dst a b : Int) (zs z : List Int) : Prop where
 by_ : Mt.By zs
 len : zs.length ≤ 600
 rd : rde false zs = 0
 i9 : zs[9]?.getD 0 = 17
 i8 : zs[8]?.getD 0 = ttl
 i1 : zs[1]?.getD 0 = 0
 w4 : wat zs 4 = 0
 w6 : decide (16384 ≤ wat zs 6 % 32768) = false
 src : wat4 zs 12 = src
 dst : wat4 zs 16 = dst
 zo : ((zs.take (hl4 zs).toNat).drop 20) = []
 zd : ((zs.take (ral false zs).toNat).drop (hl4 zs).toNat) = z
theorem dg_facts {ttl src dst a b : Int} {zm z : List Int} (h : UG src dst a b zm z) (hl : zm.length ≤ 500) (htt : 0 ≤ ttl ∧ ttl ≤ 255) (hsr : 0 ≤ src ∧ src ≤ 4294967295) (hds : 0 ≤ dst ∧ dst ≤ 4294967295) : DgF ttl src dst a b (dgB ttl src dst z) z := by
 obtain ⟨hB, hz, _⟩ := h
 have hBh := (h20_by 0 0 false ttl 17 src dst ([] : List Int).length (20 + ([] : List Int).length + z.length) 0 (by simp) (by omega) (by omega) htt (by omega) hsr hds (by simp; omega) (by omega)).append Mt.By.nil
 have hBy : Mt.By (dgB ttl src dst z) := by
  unfold dgB
  rw [hdr_eq]
  exact ((h20_by 0 0 false ttl 17 src dst ([] : List Int).length (20 + ([] : List Int).length + z.length) _ (by simp) (by omega) (by omega) htt (by omega) hsr hds (by simp; omega) (Mt.cks_bd _)).append Mt.By.nil).append hB
 have hr := rde_built 0 0 false ttl 17 src dst [] z [] (by simp) (by simp) (by simp; omega) hBh
 rw [List.append_nil] at hr
 have e3 := hl4_hdr 0 0 false ttl 17 src dst [] z (20 + ([] : List Int).length + z.length) (by simp) (by simp)
 have e2 := hdr_wat2 0 0 false ttl 17 src dst [] z (20 + ([] : List Int).length + z.length)
 have hral : ral false (dgB ttl src dst z) = ((20 + ([] : List Int).length + z.length : Nat) : Int) := by
  have q0 : ∀ zs : List Int, ral false zs = wat zs 2 := fun zs => by simp [ral]
  unfold dgB
  rw [q0, e2]
  simp
 refine ⟨hBy, by unfold dgB; rw [List.length_append, hdr_len]; simp; omega, hr, hdr_9 _ _ _ _ _ _ _ _ _ _, hdr_8 _ _ _ _ _ _ _ _ _ _, hdr_1 _ _ _ _ _ _ _ _ _ _, hdr_wat4 _ _ _ _ _ _ _ _ _ _, ?_, hdr_src _ _ _ _ _ _ _ _ _ _, hdr_dst _ _ _ _ _ _ _ _ _ _, ?_, ?_⟩
 ·unfold dgB
  rw [hdr_wat6]
  decide
 ·unfold dgB
  rw [e3, Int.toNat_natCast, hdr_take, hdr_opts]
 ·rw [hral]
  unfold dgB
  rw [e3, Int.toNat_natCast, Int.toNat_natCast]
  have q := hdr_split 0 0 false ttl 17 src dst [] z (20 + ([] : List Int).length + z.length) []
  rw [List.append_nil] at q
  exact q
theorem tt_build (ttl src dst a b : Int) (bare : Bool) (sm : Value) (zm : List Int) (w : World) (htt : 0 ≤ ttl ∧ ttl ≤ 255) (hsr : 0 ≤ src ∧ src ≤ 4294967295) (hds : 0 ≤ dst ∧ dst ≤ 4294967295) (ha : 0 ≤ a ∧ a ≤ 65535) (hb : 0 ≤ b ∧ b ≤ 65535) (hB : Mt.By zm) (hI : Rd w.heap.size w sm zm) (hl : zm.length ≤ 500) :
  Calls Tryz.prog 16 #[.agg #[.int .u8 0, .int .u16 0, .bool false, .int .u8 ttl, .int .u8 0, .int .u32 src, .int .u32 dst, .slice none 0 0, .slice none 0 0], .agg #[.int .u16 a, .int .u16 b, .bool bare, sm]] w fun e w' => Later w w' ∧ ∃ a7 c7 a8 l8 c8 z, e = .returned (.tuple #[.agg #[.int .u8 0, .int .u16 0, .bool false, .int .u8 ttl, .int .u8 17, .int .u32 src, .int .u32 dst, .slice a7 0 c7, .slice a8 l8 c8], .int .i64 0]) ∧ UG src dst a b zm z ∧ Ow w.heap.size w' (.slice a7 0 c7) [] ∧ Ow w.heap.size w' (.slice a8 l8 c8) z := by
 refine (buildUdp_any 0 0 ttl 0 src dst a b false bare _ _ _ [] zm w Mt.By.nil (rd_zero w) hB hI (by simp) (by omega) (by omega) (by omega) htt hsr hds ha hb).mono ?_
 have HZ : flt ([] : List Int).length (8 + zm.length) = 0 := by unfold flt; rw [if_neg (by simp), if_neg (by simp; omega)]
 rintro e w' ⟨hb1, ⟨hx, _⟩ | ⟨_, a7, c7, a8, c8, rfl, hO, hD⟩⟩
 ·exact absurd HZ hx
 ·exact ⟨hb1, _, _, _, _, _, _, rfl, ug_built src dst a b bare zm hsr hds ha hb hB hl, hO, hD⟩
theorem tt_bytes (ttl src dst a b : Int) (so sd : Value) (zm z : List Int) (w : World) (h : UG src dst a b zm z) (hl : zm.length ≤ 500) (hIo : Rd w.heap.size w so []) (hId : Rd w.heap.size w sd z) (htt : 0 ≤ ttl ∧ ttl ≤ 255) (hsr : 0 ≤ src ∧ src ≤ 4294967295) (hds : 0 ≤ dst ∧ dst ≤ 4294967295) :
  Calls Tryz.prog 17 #[.agg #[.int .u8 0, .int .u16 0, .bool false, .int .u8 ttl, .int .u8 17, .int .u32 src, .int .u32 dst, so, sd]] w fun e w' => Later w w' ∧ ∃ v, e = .returned (.tuple #[v, .int .i64 0]) ∧ Ow w.heap.size w' v (dgB ttl src dst z) := by
 have h2 := h.2.1
 refine (build_yes 0 0 ttl 17 src dst false so sd [] z w Mt.By.nil hIo hId (by simp) (by simp) (by simp; omega) (by omega) (by omega) htt (by omega) hsr hds).mono ?_
 rintro e w' ⟨v, rfl, hO, hb⟩
 exact ⟨hb, v, rfl, hO⟩
def prt5 (q : Int) : Int := if q = 5060 then 53 else q
theorem prt5_bd {q : Int} (h : 0 ≤ q ∧ q ≤ 65535) : 0 ≤ prt5 q ∧ prt5 q ≤ 65535 := by unfold prt5; split <;> omega
theorem prt5_ne (q : Int) : (prt5 q == 5060) = false := by
 rw [beq_eq_false_iff_ne]
 unfold prt5
 split <;> omega
def SpQ (base : Nat) (w w' : World) (now : Int) (HP : Int → Int → Value → World → Prop) (e : Ending) : Prop := ∃ (rc n : Int) (v : Value), e = .returned (.int .i64 rc) ∧ KG base w w' ∧ (n ≤ 0 ∨ n ≤ now) ∧ now ≤ n ∧ HP rc n v w'
theorem spoken_H (base g : Nat) (q a now : Int) (HP : Int → Int → Value → World → Prop) (w : World) (hq : 0 ≤ q ∧ q ≤ 65535) (ha : 0 ≤ a ∧ a ≤ 65535)
  (hPk : ∀ W sb z, Later w W → UG 167772162 134744072 a (prt5 q) [] z → Ow w.heap.size W sb (dgB 9 167772162 134744072 z) → Calls Tryz.prog 8 #[.pointer (some ⟨g, 0, none⟩), .int .i64 0, .int .i64 0, sb] W fun e w' => PkH base W w' 0 now HP e) :
  Calls Tryz.prog 13 #[.pointer (some ⟨g, 0, none⟩), .int .u16 q, .int .u16 a] w fun e w' => SpQ base w w' now HP e := by
 have HB1 := hide (fun W (l : Later w W) => tt_build 9 167772162 134744072 a (prt5 q) true (.slice none 0 0) [] W (by omega) (by omega) (by omega) ha (prt5_bd hq) Mt.By.nil (rd_zero W) (by simp))
 have HPK := hide hPk
 obtain ⟨p, hp, hpc⟩ : ∃ p, p = prt5 q ∧ ((q = 5060 ∧ p = 53) ∨ ((q == 5060) = false ∧ p = q)) := by
  refine ⟨_, rfl, ?_⟩
  unfold prt5
  by_cases h5 : q = 5060
  ·exact .inl ⟨h5, if_pos h5⟩
  ·exact .inr ⟨beq_eq_false_iff_ne.2 h5, if_neg h5⟩
 rw [← hp] at HB1 HPK
 clear hPk hp
 rcases hpc with ⟨rfl, rfl⟩ | ⟨t1, rfl⟩
 all_goals
  go_enter Tryz.func13, Tryz.ntmps13
  go_wp2_with fail
  refine (HB1.out w (Later.refl _)).mono ?_
  rintro e w5 ⟨l5, a7, c7, a8, l8, c8, z, rfl, hU, hO, hD⟩
  clear HB1
  have la := later_allocG w5 (.cells #[.int .u8 0, .int .u16 0, .bool false, .int .u8 9, .int .u8 17, .int .u32 167772162, .int .u32 134744072, .slice a7 0 c7, .slice a8 l8 c8] 56)
  have X1 := hide (heap_alloc_new w5 (.cells #[.int .u8 0, .int .u16 0, .bool false, .int .u8 9, .int .u8 17, .int .u32 167772162, .int .u32 134744072, .slice a7 0 c7, .slice a8 l8 c8] 56))
  have O6 := hide (hO.later la)
  have D6 := hide (hD.later la)
  have l5' : Later w w5 := l5
  have LA := hide (l5'.trans la)
  have HU := hide hU
  clear la hO hD l5 l5' hU
  go_upto_region 4 with fail
  change Code.wp _ _ _ _ (w5.alloc (.cells #[.int .u8 0, .int .u16 0, .bool false, .int .u8 9, .int .u8 17, .int .u32 167772162, .int .u32 134744072, .slice a7 0 c7, .slice a8 l8 c8] 56))
  generalize w5.alloc (.cells #[.int .u8 0, .int .u16 0, .bool false, .int .u8 9, .int .u8 17, .int .u32 167772162, .int .u32 134744072, .slice a7 0 c7, .slice a8 l8 c8] 56) = w6 at *
  have k6 := block_cell X1.out
  have HB2 := hide (tt_bytes 9 167772162 134744072 a _ (.slice a7 0 c7) (.slice a8 l8 c8) [] z w6 HU.out (by simp) O6.out.rd D6.out.rd (by omega) (by omega) (by omega))
  go_wp2_with fail
  refine HB2.out.mono ?_
  rintro e w7 ⟨l7, v, rfl, hO7⟩
  obtain ⟨va, vc, eqv, _, _⟩ := hO7.slice
  have l7' : Later w6 w7 := l7
  have L7 := hide (LA.out.trans l7')
  have HPC := hide (HPK.out w7 v z L7.out HU.out (hO7.mono LA.out.size))
  generalize (dgB 9 167772162 134744072 z).length = ln at *
  subst eqv
  clear k6 HB2 l7 l7' hO7 HPK O6 D6 HU X1 LA
  go_wp2_with fail
  refine HPC.out.mono ?_
  rintro e w8 ⟨rc, sd, va2, ln2, vc2, n, v2, rfl, hk, hn1, hn2, hH⟩
  have HH := hide (show KG base w w8 ∧ (n ≤ 0 ∨ n ≤ now) ∧ now ≤ n ∧ HP rc n v2 w8 from ⟨(KG.of_later L7.out).trans hk, hn1, hn2, hH⟩)
  clear hk hn1 hn2 hH HPC
  have hfd : ∀ W : World, (Instr.field 40 (.agg #[.int .i64 rc, .int .i64 sd, .slice va2 ln2 vc2]) 0).run Tryz.prog W = .ok (.int .i64 rc) W := fun W => by kernel_rfl
  go_wp2_with fail
  go_ret
  exact ⟨rc, n, v2, rfl, HH.out.1, HH.out.2.1, HH.out.2.2.1, HH.out.2.2.2⟩
theorem els_rem (ws : Nat → Nat) (n : Nat) : els (wsR ws n) = (els ws).erase n := by
 have hnd : (els ws).Nodup := by rw [els_eq]; exact List.Nodup.sublist List.filter_sublist List.nodup_range
 rw [List.Nodup.erase_eq_filter hnd, els_eq, els_eq, List.filter_filter]
 refine List.filter_congr (fun x hx => ?_)
 rw [frR, Bool.and_comm]
 congr 1
 first | done | (rw [Bool.eq_iff_iff]; simp)
theorem els_mem {ws : Nat → Nat} {n : Nat} : n ∈ els ws ↔ n < 65536 ∧ fr ws n = true := by
 rw [els_eq, List.mem_filter, List.mem_range]
structure PoV (s : Gf) (ws : Nat → Nat) : Prop where
 pf : ∀ f ∈ s.fs, ∃ n : Nat, f.r.dp = (n : Int) ∧ s.lo ≤ n ∧ n ≤ s.hi ∧ fr ws n = false
 pn : ∀ x ∈ s.fs, ∀ y ∈ s.fs, x.r.dp = y.r.dp → x = y
 pa : ∀ m : Nat, s.lo ≤ m → m ≤ s.hi → fr ws m = true ∨ ∃ f ∈ s.fs, f.r.dp = (m : Int)
 pl : ∀ m : Nat, fr ws m = true → s.lo ≤ m ∧ m ≤ s.hi
 h3 : s.hi < 65536
theorem PoI.v {s : Gf} {pb : Nat} {ws : Nat → Nat} (h : PoI s pb ws) : PoV s ws := ⟨h.pf, h.pn, h.pa, h.pl, h.h3⟩
def StI (s : Gf) : Prop := ∀ f ∈ s.fs, f.st = 8
structure SpV (base g : Nat) (W : World) (s : Gf) (L : List Rw) (p T : Int) (ws : Nat → Nat) : Prop where
 gf : GF base W g s
 fi : FlI s L p T
 ti : TiI L
 po : PoV s ws
 hv : HvA W s
 st : StI s
 nw : s.now = 0
 ls : s.ls = [mqR]
 lo : s.lo = 1000
 hi : s.hi = 1003
 el : (els ws).length + s.fs.length = 4
def PoB (s : Gf) (pb : Nat) (ws : Nat → Nat) : Prop := s.ps = [⟨17, 16909060, pb, ws⟩] ∧ 1 ≤ pb
theorem FlI.ltr {s : Gf} {L : List Rw} {p T : Int} (h : FlI s L p T) (n : Int) (v : Value) : FlI (ltr s n v) L p T := ⟨h.rw, h.ul, h.p17, h.own, h.ho, h.hr, h.nd, h.bl, h.es, h.fl, h.ib, h.ex, h.cn, h.sz, h.ll, h.tr, h.bg, h.pp⟩
theorem FlI.setP {s : Gf} {L : List Rw} {p T : Int} (h : FlI s L p T) (ps : List Pl) (pe : Array MapEntry) (cp : Nat) : FlI (setP s ps pe cp) L p T := ⟨h.rw, h.ul, h.p17, h.own, h.ho, h.hr, h.nd, h.bl, h.es, h.fl, h.ib, h.ex, h.cn, h.sz, h.ll, h.tr, h.bg, h.pp⟩
theorem PoV.ltr {s : Gf} {ws : Nat → Nat} (h : PoV s ws) (n : Int) (v : Value) : PoV (ltr s n v) ws := ⟨h.pf, h.pn, h.pa, h.pl, h.h3⟩
theorem FlI.no_o {s : Gf} {L : List Rw} {p T : Int} (h : FlI s L p T) (a : Int) (ha : ∀ x ∈ s.fs, x.o.sp ≠ a) : ∀ r ∈ L, isT' ⟨17, 167772162, 134744072, a, p⟩ r = false := fun r hr => by
 cases hb : isT' ⟨17, 167772162, 134744072, a, p⟩ r with
 | false => rfl
 | true =>
  have q := isT'_eq.1 hb
  obtain ⟨x, hx, hor, _⟩ := h.own r hr
  have kx := h.fl x hx
  rcases hor with hor | hor
  ·have q2 := isT'_eq.1 hor
   have e1 : kyp x.o.pr x.o.sp = kyp 17 a := by rw [← q2.2.2.2.1, q.2.2.2.1]
   rw [kx.op] at e1
   exact absurd e1 (ha x hx)
  ·have q2 := isT'_eq.1 hor
   have e1 : x.r.src = 167772162 := by rw [← q2.2.1, q.2.1]
   rw [kx.rs] at e1
   omega
theorem FlI.no_r {s : Gf} {L : List Rw} {p T : Int} (h : FlI s L p T) (n : Int) (ha : ∀ x ∈ s.fs, x.r.dp ≠ n) : ∀ r ∈ L, isT' ⟨17, 134744072, 16909060, p, n⟩ r = false := fun r hr => by
 cases hb : isT' ⟨17, 134744072, 16909060, p, n⟩ r with
 | false => rfl
 | true =>
  have q := isT'_eq.1 hb
  obtain ⟨x, hx, hor, _⟩ := h.own r hr
  have kx := h.fl x hx
  rcases hor with hor | hor
  ·have q2 := isT'_eq.1 hor
   have e1 : x.o.src = 134744072 := by rw [← q2.2.1, q.2.1]
   rw [kx.os] at e1
   omega
  ·have q2 := isT'_eq.1 hor
   have e1 : x.r.dp = n := by rw [← q2.2.2.2.2, q.2.2.2.2]
   exact absurd e1 (ha x hx)
theorem mq_wfF : wfR mqR := by unfold wfR mqR; decide
theorem mq_okF : okL [mqR] := ⟨by simp, fun r hr => by have e := List.mem_singleton.1 hr; rw [e]; exact ⟨mq_wfF, by decide +kernel⟩⟩
theorem mq_fdF : [mqR].find? (mqB 167772162) = some mqR := by decide +kernel
theorem rwL_le (L : List Rw) (i : Nat) : (rwL L i).length ≤ L.length := by unfold rwL; exact List.length_filter_le _ _
theorem SpV.rdg {base g : Nat} {W : World} {s : Gf} {L : List Rw} {p T : Int} {ws : Nat → Nat} (h : SpV base g W s L p T ws) (a : Nat) (ha : a ≤ 999) (hna : ∀ x ∈ s.fs, x.o.sp ≠ (a : Int)) (hp5 : (p == 5060) = false) (hT : T ≤ 1000) (TQ : TkP) (hTQ : ∀ n ps pe cp, TQ n ps pe cp → fr ws n = true) (n : Int) (v : Value) (hn : 0 ≤ n ∧ n ≤ 549755813888) : RdG (ltr s n v) 167772162 134744072 a p mqR TQ := by
 have hI := h.fi
 refine ⟨by show okL s.ls; rw [h.ls]; exact mq_okF, by show s.ls.find? _ = _; rw [h.ls]; exact mq_fdF, by omega, by omega, by omega, hI.pp, by decide, hp5, by rw [beq_eq_false_iff_ne]; omega, ?_, fun m ps pe cp hq => ?_, ?_, by omega, ?_, hn, ?_, fun y hy => ?_, ?_, fun i => ?_⟩
 ·show kx 17 167772162 134744072 (a : Int) p s.rw = none
  rw [hI.rw]
  exact (kxL_none L ⟨17, 167772162, 134744072, (a : Int), p⟩).2 (hI.no_o a hna)
 ·show kx 17 134744072 16909060 p (m : Int) s.rw = none
  rw [hI.rw]
  refine (kxL_none L ⟨17, 134744072, 16909060, p, (m : Int)⟩).2 (hI.no_r m (fun x hx e => ?_))
  obtain ⟨k, e2, _, _, h3⟩ := h.po.pf x hx
  have : k = m := by omega
  rw [this, hTQ m ps pe cp hq] at h3
  cases h3
 ·show s.fs.length < 64
  have := hI.sz
  omega
 ·show 0 ≤ s.trn ∧ s.trn ≤ 900000
  have := hI.tr
  omega
 ·show 0 ≤ s.bg ∧ s.bg ≤ 1000000
  have := hI.bg
  omega
 ·have := (hI.ib y hy).2
  show y.id ≠ s.bg
  omega
 ·show 0 ≤ s.cnt ∧ s.cnt ≤ 1000
  have := hI.cn
  have := hI.sz
  omega
 ·show (s.rw i).length ≤ 4000
  rw [hI.rw]
  have := rwL_le L i
  have := hI.ll12
  omega
theorem HvOk.sf {W : World} {x y : Fl} {ad : Int} {n : Nat} (h : HvOk W x ad n) (hs : SfF x y) : HvOk W y ad n := by
 obtain ⟨b, e, hh⟩ := h
 exact ⟨b, by rw [hs.2.2.2.2.2.2.1]; exact e, hh⟩
def hdN (ws : Nat → Nat) : Nat := (els ws).head?.getD 0
def NTQ (ws : Nat → Nat) : TkP := fun n ps _ _ => n = hdN ws ∧ fr ws n = true ∧ ∃ pb : Nat, 1 ≤ pb ∧ ps = [⟨17, 16909060, pb, wsR ws (hdN ws)⟩]
def AdQ (base g : Nat) (w' : World) (s : Gf) (p T : Int) (a : Int) : Prop := ∃ s' L' ws' pb, SpV base g w' s' L' p (T + 4) ws' ∧ PoB s' pb ws' ∧ s'.fs.length = s.fs.length + 1 ∧ (∀ x ∈ s'.fs, x.o.sp = a ∨ ∃ y ∈ s.fs, x.o.sp = y.o.sp) ∧ (∃ x ∈ s'.fs, x.o.sp = a) ∧ (∀ y ∈ s.fs, ∃ x ∈ s'.fs, x.o.sp = y.o.sp)
theorem sp_new {base g : Nat} {w w' : World} {s : Gf} {L : List Rw} {p T : Int} {ws : Nat → Nat} (h : SpV base g w s L p T ws) (a : Nat) (ha : a ≤ 999) (hna : ∀ x ∈ s.fs, x.o.sp ≠ (a : Int)) (h4 : s.fs.length < 4) (v : Value) (hk : KG base w w') (f : Fl) (nn : Nat) (ps : List Pl) (pe : Array MapEntry) (cp : Nat) (hfb : w.heap.size ≤ f.blk) (hFb : FbF (ltr s 0 v) ⟨17, 167772162, 134744072, (a : Int), p⟩ mqR nn f) (hG : GF base w' g (bcS (opS (setP (ltr s 0 v) ps pe cp) f) f 8)) (hTQ : NTQ ws nn ps pe cp) (hn9 : nn < 65536) (hHV : HvOk w' f 16909060 nn) : AdQ base g w' s p T (a : Int) := by
 obtain ⟨hid, ho, hr, hsd, hms, hhp⟩ := hFb
 obtain ⟨hnn, hfr, pb, hpb, hps⟩ := hTQ
 have hr' : f.r = ⟨17, 134744072, 16909060, p, (nn : Int)⟩ := hr
 obtain ⟨hl1, hl2⟩ := h.po.pl nn hfr
 obtain ⟨s1, hs1⟩ : ∃ s1, s1 = setP (ltr s 0 v) ps pe cp := ⟨_, rfl⟩
 have hf1 : s1.fs = s.fs := by rw [hs1]; rfl
 have hnow1 : s1.now = 0 := by rw [hs1]; rfl
 have hbg1 : s1.bg = s.bg := by rw [hs1]; rfl
 have hI1 : FlI s1 L p T := by rw [hs1]; exact (h.fi.ltr 0 v).setP ps pe cp
 rw [← hs1] at hG
 have hkf : FlK p f := ⟨by rw [ho], by rw [ho], by rw [ho], by rw [ho]; show 0 ≤ (a : Int) ∧ (a : Int) ≤ 65535; omega, by rw [ho], by rw [hr'], by rw [hr'], by rw [hr'], by rw [hr'], by rw [hr']; show 0 ≤ (nn : Int) ∧ (nn : Int) ≤ 65535; omega, hsd, hms, hhp⟩
 have hblk : ∀ x ∈ s1.fs, x.blk ≠ f.blk := fun x hx e => by
  rw [hf1] at hx
  have := (Array.getElem?_eq_some_iff.1 (h.gf.fb x hx).2).1
  omega
 have hdp : ∀ x ∈ s1.fs, x.r.dp ≠ f.r.dp := fun x hx e => by
  rw [hf1] at hx
  obtain ⟨k, e2, _, _, h3⟩ := h.po.pf x hx
  rw [hr'] at e
  have e' : x.r.dp = (nn : Int) := e
  have : k = nn := by omega
  rw [this, hfr] at h3
  cases h3
 have hO := hI1.opened hnow1 (f := f) (by rw [hbg1]; exact hid) hkf hblk (fun x hx e => by rw [hf1] at hx; rw [ho] at e; exact hna x hx e) hdp (by rw [hf1]; omega)
 have hfo : (opS s1 f).fs = s.fs ++ [f] := by show s1.fs ++ [f] = _; rw [hf1]
 have hfin : f ∈ (opS s1 f).fs := by rw [hfo]; simp
 obtain ⟨L2, hB, hL2⟩ := hO.become (by show s1.now = 0; exact hnow1) hfin
 rw [show T + 2 + 2 = T + 4 from by omega] at hB
 have htl : (opS s1 f).now + tm f.o.pr 8 = 30 := by
  rw [show (opS s1 f).now = 0 from hnow1, hkf.op]
  decide
 have hfs : (bcS (opS s1 f) f 8).fs = (s.fs ++ [f]).map (fun x => if x.blk = f.blk then f.at 8 30 else x) := by
  unfold bcS
  rw [htl, ← hfo]
  rfl
 have hbl : ∀ x ∈ s.fs ++ [f], ∀ y ∈ s.fs ++ [f], x.blk = y.blk → x = y := by rw [← hfo]; exact hO.bl
 have m1 : ∀ y ∈ (bcS (opS s1 f) f 8).fs, ∃ x ∈ s.fs ++ [f], SfF x y ∧ (x = f → y = f.at 8 30) ∧ (x ≠ f → y = x) := fun y hy => by
  rw [hfs] at hy
  exact wf_m1 hbl (by simp) 8 30 hy
 have m2 : ∀ x ∈ s.fs ++ [f], ∃ y ∈ (bcS (opS s1 f) f 8).fs, SfF x y := fun x hx => by
  rw [hfs]
  exact wf_m2 hbl (by simp) 8 30 hx
 have hlen : (bcS (opS s1 f) f 8).fs.length = s.fs.length + 1 := by
  rw [hfs, List.length_map, List.length_append]
  rfl
 have hlo : (bcS (opS s1 f) f 8).lo = s.lo := by rw [hs1]; rfl
 have hhi : (bcS (opS s1 f) f 8).hi = s.hi := by rw [hs1]; rfl
 have hfsp : f.o.sp = (a : Int) := by rw [ho]
 have hfdp : f.r.dp = (nn : Int) := by rw [hr']
 refine ⟨bcS (opS s1 f) f 8, L2, wsR ws nn, pb, ⟨hG, hB, fun x hx => ?_, ⟨fun y hy => ?_, fun x hx y hy e => ?_, fun m q1 q2 => ?_, fun m hm => ?_, ?_⟩, fun y hy => ?_, fun y hy => ?_, hnow1, ?_, ?_, ?_, ?_⟩, ⟨?_, hpb⟩, hlen, fun y hy => ?_, ?_, fun y hy => ?_⟩
 ·obtain ⟨r, hr, hs, q1, q2⟩ := hL2 x hx
  by_cases e1 : isT' f.o r = true
  ·rw [q1 (.inl e1)]; omega
  ·by_cases e2 : isT' f.r r = true
   ·rw [q1 (.inr e2)]; omega
   ·rw [q2 ⟨by simpa using e1, by simpa using e2⟩]
    rcases List.mem_append.1 hr with hr | hr
    ·rcases List.mem_append.1 hr with hr | hr
     ·exact h.ti r hr
     ·rw [List.mem_singleton.1 hr] at e1
      exact absurd (isT'_eq.2 ⟨rfl, rfl, rfl, rfl, rfl⟩) e1
    ·rw [List.mem_singleton.1 hr] at e2
     exact absurd (isT'_eq.2 ⟨rfl, rfl, rfl, rfl, rfl⟩) e2
 ·obtain ⟨x, hx, hs, _⟩ := m1 y hy
  rw [hlo, hhi]
  rcases List.mem_append.1 hx with hx | hx
  ·obtain ⟨k, e, k1, k2, k3⟩ := h.po.pf x hx
   exact ⟨k, by rw [hs.2.2.2.1]; exact e, k1, k2, by rw [frR, k3]; rfl⟩
  ·rw [List.mem_singleton.1 hx] at hs
   exact ⟨nn, by rw [hs.2.2.2.1]; exact hfdp, hl1, hl2, by rw [frR]; simp⟩
 ·obtain ⟨x', hx', hsx, hx1, hx2⟩ := m1 x hx
  obtain ⟨y', hy', hsy, hy1, hy2⟩ := m1 y hy
  have e' : x' = y' := by
   rw [hsx.2.2.2.1, hsy.2.2.2.1] at e
   rcases List.mem_append.1 hx' with qx | qx <;> rcases List.mem_append.1 hy' with qy | qy
   ·exact h.po.pn x' qx y' qy e
   ·rw [List.mem_singleton.1 qy] at e; exact absurd e (hdp x' (by rw [hf1]; exact qx))
   ·rw [List.mem_singleton.1 qx] at e; exact absurd e.symm (hdp y' (by rw [hf1]; exact qy))
   ·rw [List.mem_singleton.1 qx, List.mem_singleton.1 qy]
  by_cases q : x' = f
  ·rw [hx1 q, hy1 (e' ▸ q)]
  ·rw [hx2 q, hy2 (e' ▸ q), e']
 ·rw [hlo] at q1
  rw [hhi] at q2
  by_cases e : m = nn
  ·obtain ⟨y, hy, hs⟩ := m2 f (by simp)
   exact .inr ⟨y, hy, by rw [hs.2.2.2.1, hfdp, e]⟩
  ·rcases h.po.pa m q1 q2 with k | ⟨x, hx, k⟩
   ·exact .inl (by rw [frR, k]; simp [e])
   ·obtain ⟨y, hy, hs⟩ := m2 x (by simp [hx])
    exact .inr ⟨y, hy, by rw [hs.2.2.2.1]; exact k⟩
 ·rw [frR] at hm
  rw [hlo, hhi]
  exact h.po.pl m (by simp at hm; exact hm.1)
 ·rw [hhi]; exact h.po.h3
 ·obtain ⟨x, hx, hs, _⟩ := m1 y hy
  rcases List.mem_append.1 hx with hx | hx
  ·obtain ⟨k, e, hv⟩ := h.hv x hx
   exact ⟨k, by rw [hs.2.2.2.1]; exact e, (hv.kg hk).sf hs⟩
  ·rw [List.mem_singleton.1 hx] at hs
   exact ⟨nn, by rw [hs.2.2.2.1]; exact hfdp, hHV.sf hs⟩
 ·obtain ⟨x, hx, hs, q1, q2⟩ := m1 y hy
  by_cases q : x = f
  ·rw [q1 q]; rfl
  ·rw [q2 q]
   rcases List.mem_append.1 hx with hx | hx
   ·exact h.st x hx
   ·exact absurd (List.mem_singleton.1 hx) q
 ·show s1.ls = _
  rw [hs1]; exact h.ls
 ·rw [hlo]; exact h.lo
 ·rw [hhi]; exact h.hi
 ·rw [els_rem, hlen]
  have hmem : nn ∈ els ws := els_mem.2 ⟨hn9, hfr⟩
  rw [List.length_erase_of_mem hmem]
  have := h.el
  have := List.length_pos_of_mem hmem
  omega
 ·show s1.ps = _
  rw [hs1, hnn]
  exact hps
 ·obtain ⟨x, hx, hs, _⟩ := m1 y hy
  rcases List.mem_append.1 hx with hx | hx
  ·exact .inr ⟨x, hx, by rw [hs.2.2.1]⟩
  ·rw [List.mem_singleton.1 hx] at hs
   exact .inl (by rw [hs.2.2.1]; exact hfsp)
 ·obtain ⟨y, hy, hs⟩ := m2 f (by simp)
  exact ⟨y, hy, by rw [hs.2.2.1]; exact hfsp⟩
 ·obtain ⟨x, hx, hs⟩ := m2 y (by simp [hy])
  exact ⟨x, hx, by rw [hs.2.2.1]⟩
def NwH (base g : Nat) (s : Gf) (p : Int) (a : Nat) (TQ : TkP) (n0 : Nat) (rc n : Int) (v : Value) (W : World) : Prop := rc = 0 ∧ ∃ (f : Fl) (nn : Nat) (ps : List Pl) (pe : Array MapEntry) (cp : Nat), n0 ≤ f.blk ∧ FbF (ltr s n v) ⟨17, 167772162, 134744072, (a : Int), p⟩ mqR nn f ∧ GF base W g (bcS (opS (setP (ltr s n v) ps pe cp) f) f 8) ∧ TQ nn ps pe cp ∧ nn < 65536 ∧ HvOk W f 16909060 nn
theorem NwH.s (base g : Nat) (s : Gf) (p : Int) (a : Nat) (TQ : TkP) (n0 : Nat) : HpS (NwH base g s p a TQ n0) := fun rc n v A B k cur fz h hk hb => by
 obtain ⟨e, f, nn, ps, pe, cp, q1, q2, q3, q4, q5, q6⟩ := h
 have hz : fz = (0, 0) ∨ True := .inr trivial
 exact ⟨e, f, nn, ps, pe, cp, q1, q2, q3.other (TE.one hk) hb (by decide), q4, q5, q6.aside hk (by decide) hb⟩
theorem spoken_new (base g : Nat) (s : Gf) (L : List Rw) (q T : Int) (ws : Nat → Nat) (a : Nat) (w : World) (h : SpV base g w s L (prt5 q) T ws) (hq : 0 ≤ q ∧ q ≤ 65535) (ha : a ≤ 999) (hna : ∀ x ∈ s.fs, x.o.sp ≠ (a : Int)) (h4 : s.fs.length < 4) (hT : T ≤ 1000) (hbs : base ≤ w.heap.size) (hz : ∀ W, KG base w W → Tb W) (hTK : ∀ n v W, KG base w W → TkH base W g (ltr s n v) a mqR (NTQ ws)) :
  Calls Tryz.prog 13 #[.pointer (some ⟨g, 0, none⟩), .int .u16 q, .int .u16 (a : Int)] w fun e w' => e = .returned (.int .i64 0) ∧ KG base w w' ∧ AdQ base g w' s (prt5 q) T (a : Int) := by
 refine (spoken_H base g q (a : Int) s.now (NwH base g s (prt5 q) a (NTQ ws) w.heap.size) w hq ⟨by omega, by omega⟩ (fun W sb z l hU hO => ?_)).mono ?_
 ·have hF := dg_facts hU (by simp) (show (0 : Int) ≤ 9 ∧ (9 : Int) ≤ 255 by omega) (by omega) (by omega)
  have hz8 : z.length = 8 := hU.2.1
  obtain ⟨sa, sc, rfl, _, _⟩ := hO.slice
  refine packet_H base g s 0 _ _ W (h.gf.later l) (Nat.le_trans hbs l.size) ⟨_, _, _, rfl⟩ (by rw [h.nw]; omega) h.fi.ex (fun n hn => by rw [h.fi.rw]; exact due_quiet h.ti n (by have := h.nw; omega)) (by rw [h.fi.rw]; exact Nat.le_trans (allL_len L) (by have := h.fi.ll12; omega)) (NwH.s _ _ _ _ _ _ _) (fun W2 n v k hn hn1 hn2 hg => ?_)
  have K : KG base w W2 := (KG.of_later l).trans k
  refine (handle_g base g (ltr s n v) _ _ a (prt5 q) mqR (NTQ ws) W2 hg hF.by_ ((hO.kg k).rd) (by have := hF.len; omega) hF.rd hF.i9 (by rw [hF.i8]; omega) (by rw [hF.src, hF.dst]; exact h.rdg a ha hna (prt5_ne q) hT _ (fun n ps pe cp hq => hq.2.1) n v hn) (by rw [hF.src, hF.dst, hF.zd]; exact hU.2.2.1) (by rw [hF.zd]; exact hU.2.2.2.1) (by rw [hF.zd]; exact hU.2.2.2.2.1) (by rw [hF.zo]; simp) (by rw [hF.zo]; rfl) (by rw [hF.zo, hF.zd, hz8]; simp) (Nat.le_trans hbs K.size) (fun V k2 => hz V (K.trans k2)) (hTK n v W2 K)).mono ?_
  rintro e w3 ⟨f, nn, ps, pe, cp, v3, hfb, rfl, k3, hFb, hG, ⟨htq, hn9, hHV⟩, hO3⟩
  obtain ⟨va, vc, eqv, _, _⟩ := hO3.slice
  rw [hF.src, hF.dst] at hFb
  exact ⟨0, 1, va, _, vc, by rw [eqv], k3, rfl, f, nn, ps, pe, cp, Nat.le_trans K.size hfb, hFb, hG, htq, hn9, hHV⟩
 ·rintro e w' ⟨rc, n, v, rfl, hk, hn1, hn2, rfl, f, nn, ps, pe, cp, hfb, hFb, hG, htq, hn9, hHV⟩
  have hn0 : n = 0 := by have := h.nw; omega
  subst hn0
  exact ⟨rfl, hk, sp_new h a ha hna h4 v hk f nn ps pe cp hfb hFb hG htq hn9 hHV⟩
theorem tk_old {base g : Nat} {s : Gf} {pb : Nat} {ws : Nat → Nat} (hB : PoB s pb ws) (hV : PoV s ws) (a : Nat) (ha : a < 65536) (hfa : fr ws a = false) (hne : els ws ≠ []) (w : World) (hbs : base ≤ w.heap.size) (hz : ∀ W, KG base w W → Dz W) : ∀ n v W, KG base w W → TkH base W g (ltr s n v) a mqR (NTQ ws) := fun n v W k W2 hg k2 => by
 have K := k.trans k2
 obtain ⟨x, l, he⟩ : ∃ x l, els ws = x :: l := by
  cases hq : els ws with
  | nil => exact absurd hq hne
  | cons x l => exact ⟨x, l, rfl⟩
 have hd : hdN ws = x := by unfold hdN; rw [he]; rfl
 have e1 : fsn (fr ws a) a (els ws) = hdN ws := by unfold fsn; rw [hfa, he, hd]; simp
 have e2 : fsb (fr ws a) (els ws) = true := by unfold fsb; rw [he]; simp
 have hm : hdN ws ∈ els ws := by rw [hd, he]; simp
 refine (gtake_old base g (ltr s n v) 17 16909060 pb ws a W2 hg hB.1 srE_17 ha (Nat.le_trans hbs K.size) (fun V l => hz V (K.trans (KG.of_later l))) hB.2).mono ?_
 rintro e w' (⟨_, rfl, hb, hG⟩ | ⟨hf, _⟩)
 ·rw [e1] at hG ⊢
  exact ⟨hdN ws, [⟨17, 16909060, pb, wsR ws (hdN ws)⟩], s.pe, s.cp, rfl, ⟨hb.os, hb.tape, hb.output, hb.size, fun i hi he => hb.block i hi (fun q => he (.inr ⟨⟨17, 16909060, pb, ws⟩, by show _ ∈ s.ps; rw [hB.1]; simp, q.symm⟩))⟩, hG, (els_mem.1 hm).1, rfl, (els_mem.1 hm).2, pb, hB.2, rfl⟩
 ·rw [e2] at hf
  cases hf
theorem els_full : els (wsOf (nums 1000 1003)) = [1000, 1001, 1002, 1003] := by rw [els_new 1000 1003 (by omega) (by omega)]; decide
theorem tk_new {base g : Nat} {s : Gf} (hps : s.ps = []) (hlo : s.lo = 1000) (hhi : s.hi = 1003) (a : Nat) (ha : a ≤ 999) (w : World) (hbs : base ≤ w.heap.size) (hz : ∀ W, KG base w W → Dz W) (hgz : 1 ≤ w.heap.size) : ∀ n v W, KG base w W → TkH base W g (ltr s n v) a mqR (NTQ (wsOf (nums 1000 1003))) := fun n v W k W2 hg k2 => by
 have K := k.trans k2
 have hd : hdN (wsOf (nums 1000 1003)) = 1000 := by unfold hdN; rw [els_full]; rfl
 have ht : tkn s.lo s.hi a = 1000 := by unfold tkn; rw [hlo, hhi, if_neg (by omega)]
 have hm : (1000 : Nat) ∈ els (wsOf (nums 1000 1003)) := by rw [els_full]; simp
 refine (gtake_new base g (ltr s n v) 17 16909060 a W2 hg hps (by show 1 ≤ s.lo; omega) (by show s.lo ≤ s.hi; omega) (by show s.hi < 65536; omega) (by omega) (Nat.le_trans hbs K.size) (fun V hV => hz V (K.trans (KG.of_but hV (fun q e => by
  have e' : q = s.gp := e
  rw [e']
  exact ⟨hg.bf.2, fun ob ho => by have hp := hg.pl; rw [show (ltr s n v).gp = s.gp from rfl] at hp; rw [hp] at ho; cases ho; exact trivial⟩)))) (Nat.le_trans hgz K.size)).mono ?_
 rintro e w' ⟨b, rfl, hb, hsz, hG⟩
 rw [show tkn (ltr s n v).lo (ltr s n v).hi a = 1000 from ht, show (ltr s n v).lo = 1000 from hlo, show (ltr s n v).hi = 1003 from hhi] at hG
 rw [show tkn (ltr s n v).lo (ltr s n v).hi a = 1000 from ht]
 exact ⟨1000, [⟨17, 16909060, b, wsR (wsOf (nums 1000 1003)) 1000⟩], _, _, rfl, ⟨hb.os, hb.tape, hb.output, hb.size, fun i hi he => hb.block i hi (fun q => he (.inl q))⟩, hG, by omega, by rw [hd], (els_mem.1 hm).2, b, Nat.le_trans hgz (Nat.le_trans K.size hsz), by rw [hd]⟩
theorem SpV.ltr {base g : Nat} {w w' : World} {s : Gf} {L : List Rw} {p T : Int} {ws : Nat → Nat} (h : SpV base g w s L p T ws) (v : Value) (hk : KG base w w') (hG : GF base w' g (ltr s 0 v)) : SpV base g w' (ltr s 0 v) L p T ws := ⟨hG, h.fi.ltr 0 v, h.ti, h.po.ltr 0 v, h.hv.kg hk, h.st, rfl, h.ls, h.lo, h.hi, h.el⟩
theorem spoken_none (base g : Nat) (s : Gf) (L : List Rw) (q T : Int) (pb : Nat) (ws : Nat → Nat) (a : Nat) (w : World) (h : SpV base g w s L (prt5 q) T ws) (hB : PoB s pb ws) (hq : 0 ≤ q ∧ q ≤ 65535) (ha : a ≤ 999) (hna : ∀ x ∈ s.fs, x.o.sp ≠ (a : Int)) (h4 : s.fs.length = 4) (hT : T ≤ 1000) (hbs : base ≤ w.heap.size) (hz : ∀ W, KG base w W → Tb W ∧ Dz W) :
  Calls Tryz.prog 13 #[.pointer (some ⟨g, 0, none⟩), .int .u16 q, .int .u16 (a : Int)] w fun e w' => e = .returned (.int .i64 4) ∧ KG base w w' ∧ ∃ s', SpV base g w' s' L (prt5 q) T ws ∧ PoB s' pb ws ∧ s'.fs = s.fs := by
 have hfa : fr ws a = false := by
  cases hb : fr ws a with
  | false => rfl
  | true => have := h.po.pl a hb; have := h.lo; omega
 have hel : els ws = [] := List.eq_nil_of_length_eq_zero (by have := h.el; omega)
 refine (spoken_H base g q (a : Int) s.now (fun rc n v W => rc = 4 ∧ GF base W g (Go.Proofs.YtofknbfbmaefoaaGreatDoor.ltr s n v)) w hq ⟨by omega, by omega⟩ (fun W sb z l hU hO => ?_)).mono ?_
 ·have hF := dg_facts hU (by simp) (show (0 : Int) ≤ 9 ∧ (9 : Int) ≤ 255 by omega) (by omega) (by omega)
  have hz8 : z.length = 8 := hU.2.1
  obtain ⟨sa, sc, rfl, _, _⟩ := hO.slice
  refine packet_H base g s 0 _ _ W (h.gf.later l) (Nat.le_trans hbs l.size) ⟨_, _, _, rfl⟩ (by rw [h.nw]; omega) h.fi.ex (fun n hn => by rw [h.fi.rw]; exact due_quiet h.ti n (by have := h.nw; omega)) (by rw [h.fi.rw]; exact Nat.le_trans (allL_len L) (by have := h.fi.ll12; omega)) (fun rc n v A B k cur fz hh hk hb => ⟨hh.1, hh.2.other (TE.one hk) hb (by decide)⟩) (fun W2 n v k hn hn1 hn2 hg => ?_)
  have K : KG base w W2 := (KG.of_later l).trans k
  have hTK : TnH base W2 g (Go.Proofs.YtofknbfbmaefoaaGreatDoor.ltr s n v) a mqR := fun W3 hg3 l3 => by
   refine (gtake_old base g (Go.Proofs.YtofknbfbmaefoaaGreatDoor.ltr s n v) 17 16909060 pb ws a W3 hg3 hB.1 srE_17 (by omega) (Nat.le_trans hbs (Nat.le_trans K.size l3.size)) (fun V l4 => (hz V (K.trans ((KG.of_later l3).trans (KG.of_later l4)))).2) hB.2).mono ?_
   rintro e w' (⟨hf, _⟩ | ⟨_, rfl, hl⟩)
   ·rw [hfa, hel] at hf
    cases hf
   ·exact ⟨_, rfl, hl⟩
  refine (handle_n base g (Go.Proofs.YtofknbfbmaefoaaGreatDoor.ltr s n v) _ _ a (prt5 q) mqR W2 hg hF.by_ ((hO.kg k).rd) (by have := hF.len; omega) hF.rd hF.i9 (by rw [hF.i8]; omega) (by rw [hF.src, hF.dst]; exact h.rdg a ha hna (prt5_ne q) hT _ (fun n ps pe cp hq => hq.elim) n v hn) (by rw [hF.src, hF.dst, hF.zd]; exact hU.2.2.1) (by rw [hF.zd]; exact hU.2.2.2.1) (by rw [hF.zd]; exact hU.2.2.2.2.1) (by rw [hF.zo]; simp) (by rw [hF.zo]; rfl) (by rw [hF.zo, hF.zd, hz8]; simp) (Nat.le_trans hbs K.size) (fun V k2 => (hz V (K.trans (KG.of_later k2))).1) hTK).mono ?_
  rintro e w3 ⟨rfl, l3⟩
  exact ⟨4, 0, none, 0, 0, rfl, KG.of_later l3, rfl, hg.later l3⟩
 ·rintro e w' ⟨rc, n, v, rfl, hk, hn1, hn2, rfl, hG⟩
  have hn0 : n = 0 := by have := h.nw; omega
  subst hn0
  exact ⟨rfl, hk, _, h.ltr v hk hG, hB, rfl⟩
theorem spoken_forth (base g : Nat) (s : Gf) (L : List Rw) (q T : Int) (pb : Nat) (ws : Nat → Nat) (a : Nat) (f : Fl) (w : World) (h : SpV base g w s L (prt5 q) T ws) (hB : PoB s pb ws) (hq : 0 ≤ q ∧ q ≤ 65535) (ha : a ≤ 999) (hf : f ∈ s.fs) (hfa : f.o.sp = (a : Int)) (hT : T ≤ 1000) (hbs : base ≤ w.heap.size) (hz : ∀ W, KG base w W → Tb W) :
  Calls Tryz.prog 13 #[.pointer (some ⟨g, 0, none⟩), .int .u16 q, .int .u16 (a : Int)] w fun e w' => e = .returned (.int .i64 0) ∧ KG base w w' ∧ ∃ s' L', SpV base g w' s' L' (prt5 q) (T + 2) ws ∧ PoB s' pb ws := by
 have hst : ot f.st false = 8 := by rw [h.st f hf]; decide
 have hkf := h.fi.fl f hf
 obtain ⟨r1, hr1, ht1, hi1⟩ := h.fi.ho f hf
 have hto : isT' ⟨17, 167772162, 134744072, (a : Int), prt5 q⟩ r1 = true := by
  have e1 := isT'_eq.1 ht1
  exact isT'_eq.2 ⟨by rw [e1.1, hkf.op], by rw [e1.2.1, hkf.os], by rw [e1.2.2.1, hkf.od], by rw [e1.2.2.2.1, hkf.op, hfa], by rw [e1.2.2.2.2, hkf.ob]⟩
 obtain ⟨k1, hk1, hg1⟩ := kxL_some L ⟨17, 167772162, 134744072, (a : Int), prt5 q⟩ r1 hr1 hto h.fi.ul
 have hBel : Bel s f false 0 167772162 134744072 (a : Int) (prt5 q) := by
  refine ⟨hf, h.fi.idu, fun x hx e => h.fi.bl x hx f hf e, ⟨k1, r1, by rw [h.fi.rw]; exact hk1, by rw [h.fi.rw]; exact hg1, hi1⟩, by omega, by omega, by omega, prt5_bd hq, ?_, hkf.sd, .inr ⟨rfl, rfl⟩, hkf.bo h.fi.pp, hkf.br h.fi.pp, hkf.op, hkf.rp, hkf.hp, ?_, ?_⟩
  ·constructor
   ·intro e; cases e
   ·intro e
    exact absurd ⟨hkf.op.symm, hkf.os.symm, hkf.od.symm, by rw [hkf.op, hfa], hkf.ob.symm⟩ e
  ·have := h.fi.tr; omega
  ·rw [h.nw]; omega
 refine (spoken_H base g q (a : Int) s.now (fun rc n v W => rc = 0 ∧ GF base W g (bcS (Go.Proofs.YtofknbfbmaefoaaGreatDoor.ltr s n v) f 8)) w hq ⟨by omega, by omega⟩ (fun W sb z l hU hO => ?_)).mono ?_
 ·have hF := dg_facts hU (by simp) (show (0 : Int) ≤ 9 ∧ (9 : Int) ≤ 255 by omega) (by omega) (by omega)
  have hz8 : z.length = 8 := hU.2.1
  obtain ⟨sa, sc, rfl, _, _⟩ := hO.slice
  refine packet_H base g s 0 _ _ W (h.gf.later l) (Nat.le_trans hbs l.size) ⟨_, _, _, rfl⟩ (by rw [h.nw]; omega) h.fi.ex (fun n hn => by rw [h.fi.rw]; exact due_quiet h.ti n (by have := h.nw; omega)) (by rw [h.fi.rw]; exact Nat.le_trans (allL_len L) (by have := h.fi.ll12; omega)) (fun rc n v A B k cur fz hh hk hb => ⟨hh.1, hh.2.other (TE.one hk) hb (by decide)⟩) (fun W2 n v k hn hn1 hn2 hg => ?_)
  have K : KG base w W2 := (KG.of_later l).trans k
  refine (handle_back base g (Go.Proofs.YtofknbfbmaefoaaGreatDoor.ltr s n v) f false 0 _ _ (a : Int) (prt5 q) W2 hg hF.by_ ((hO.kg k).rd) (by have := hF.len; omega) hF.rd hF.i9 (by rw [hF.i8]; omega) (by rw [hF.src, hF.dst]; exact hBel.ltr v hn) (by rw [hF.src, hF.dst, hF.zd]; exact hU.2.2.1) (by rw [hF.zd]; exact hU.2.2.2.1) (by rw [hF.zd]; exact hU.2.2.2.2.1) (by rw [hF.zo]; simp) (by rw [hF.zo]; rfl) (by rw [hF.zo, hF.zd, hz8]; simp) (Nat.le_trans hbs K.size) (fun V k2 => hz V (K.trans k2))).mono ?_
  rintro e w3 ⟨v3, rfl, k3, hG, hO3⟩
  obtain ⟨va, vc, eqv, _, _⟩ := hO3.slice
  rw [hst] at hG
  exact ⟨0, 1, va, _, vc, by rw [eqv]; rfl, k3, rfl, hG⟩
 ·rintro e w' ⟨rc, n, v, rfl, hk, hn1, hn2, rfl, hG⟩
  have hn0 : n = 0 := by have := h.nw; omega
  subst hn0
  have hI1 : FlI (Go.Proofs.YtofknbfbmaefoaaGreatDoor.ltr s 0 v) L (prt5 q) T := h.fi.ltr 0 v
  obtain ⟨L2, hB2, hL2⟩ := hI1.become rfl hf
  have htl : (Go.Proofs.YtofknbfbmaefoaaGreatDoor.ltr s 0 v).now + tm f.o.pr 8 = 30 := by
   rw [show (Go.Proofs.YtofknbfbmaefoaaGreatDoor.ltr s 0 v).now = 0 from rfl, hkf.op]
   decide
  have hfs : (bcS (Go.Proofs.YtofknbfbmaefoaaGreatDoor.ltr s 0 v) f 8).fs = s.fs.map (fun x => if x.blk = f.blk then f.at 8 30 else x) := by
   unfold bcS
   rw [htl]
   rfl
  have m1 : ∀ y ∈ (bcS (Go.Proofs.YtofknbfbmaefoaaGreatDoor.ltr s 0 v) f 8).fs, ∃ x ∈ s.fs, SfF x y ∧ (x = f → y = f.at 8 30) ∧ (x ≠ f → y = x) := fun y hy => by
   rw [hfs] at hy
   exact wf_m1 h.fi.bl hf 8 30 hy
  have m2 : ∀ x ∈ s.fs, ∃ y ∈ (bcS (Go.Proofs.YtofknbfbmaefoaaGreatDoor.ltr s 0 v) f 8).fs, SfF x y := fun x hx => by
   rw [hfs]
   exact wf_m2 h.fi.bl hf 8 30 hx
  refine ⟨rfl, hk, bcS (Go.Proofs.YtofknbfbmaefoaaGreatDoor.ltr s 0 v) f 8, L2, ⟨hG, hB2, fun x hx => ?_, ⟨fun y hy => ?_, fun x hx y hy e => ?_, fun m q1 q2 => ?_, h.po.pl, h.po.h3⟩, fun y hy => ?_, fun y hy => ?_, rfl, h.ls, h.lo, h.hi, ?_⟩, hB⟩
  ·obtain ⟨r, hr, hs, q1, q2⟩ := hL2 x hx
   by_cases e1 : isT' f.o r = true
   ·rw [q1 (.inl e1)]; omega
   ·by_cases e2 : isT' f.r r = true
    ·rw [q1 (.inr e2)]; omega
    ·rw [q2 ⟨by simpa using e1, by simpa using e2⟩]
     exact h.ti r hr
  ·obtain ⟨x, hx, hs, _⟩ := m1 y hy
   obtain ⟨k, e, kk⟩ := h.po.pf x hx
   exact ⟨k, by rw [hs.2.2.2.1]; exact e, kk⟩
  ·obtain ⟨x', hx', hsx, hx1, hx2⟩ := m1 x hx
   obtain ⟨y', hy', hsy, hy1, hy2⟩ := m1 y hy
   rw [hsx.2.2.2.1, hsy.2.2.2.1] at e
   have e' := h.po.pn x' hx' y' hy' e
   by_cases q : x' = f
   ·rw [hx1 q, hy1 (e' ▸ q)]
   ·rw [hx2 q, hy2 (e' ▸ q), e']
  ·rcases h.po.pa m q1 q2 with k | ⟨x, hx, k⟩
   ·exact .inl k
   ·obtain ⟨y, hy, hs⟩ := m2 x hx
    exact .inr ⟨y, hy, by rw [hs.2.2.2.1]; exact k⟩
  ·obtain ⟨x, hx, hs, _⟩ := m1 y hy
   obtain ⟨k, e, hv⟩ := h.hv x hx
   exact ⟨k, by rw [hs.2.2.2.1]; exact e, (hv.kg hk).sf hs⟩
  ·obtain ⟨x, hx, hs, q1, q2⟩ := m1 y hy
   by_cases q : x = f
   ·rw [q1 q]; rfl
   ·rw [q2 q]; exact h.st x hx
  ·rw [hfs, List.length_map]
   exact h.el
end Go.Proofs.YtofknbfbmaefoaaGreatDoor
