import Derived.Test.YtofknbfbmaefoaaGreatDoorX3
namespace Go.Proofs.YtofknbfbmaefoaaGreatDoor
open Go.RowKit Go.Shelf
set_option maxRecDepth 100000
set_option linter.unusedVariables false
set_option linter.unusedSimpArgs false
theorem bg_facts {lo hi : Nat} {s : Gs} {x d : Int} {a : Nat} {b : Int} {mr : Ru} {f : Fl} (pb : Nat) (hb : Bgn (gfS lo hi s) x d a b mr f) (hne : ¬ tuA f.o f.r) (hnw : 0 ≤ s.now ∧ s.now ≤ 549755813888) :
  (bgS (gfS lo hi s) a mr pb f).fs = [f.at 8 (s.now + 30)] ∧ (bgS (gfS lo hi s) a mr pb f).rw = twR f.o f.r 0 (s.now + 30) (0 + 1 + 1 + 1) (0 + 1 + 1 + 1 + 1) ∧ (bgS (gfS lo hi s) a mr pb f).trn = 0 + 1 + 1 + 1 + 1 ∧ (bgS (gfS lo hi s) a mr pb f).now = s.now ∧ (bgS (gfS lo hi s) a mr pb f).ex = [] ∧ ∀ e ∈ (bgS (gfS lo hi s) a mr pb f).fe.toList, e.born < (bgS (gfS lo hi s) a mr pb f).cf := by
 obtain ⟨h1, h2, h3, h4, h5, h6⟩ := hb
 have hid : f.id = 0 := h1
 have hpr : f.o.pr = 17 := by rw [h2]
 have htm : tm f.o.pr 8 = 30 := by rw [hpr]; decide
 have hm0 : mayb s.now = true := by unfold mayb; rw [decide_eq_true_eq]; omega
 have hm1 : mayb (s.now + 30) = true := by unfold mayb; rw [decide_eq_true_eq]; omega
 have hop : ∀ (q : Gf), q.cnt = 0 → q.trn = 0 → q.rw = (fun _ => []) → q.now = s.now → opM q f = (0 + 1 + 1, 0 + 1 + 1, twR f.o f.r 0 s.now (0 + 1) (0 + 1 + 1)) := fun q e1 e2 e3 e4 => by
  unfold opM
  rw [e1, e2, e3, e4, hid]
  exact twR_put f.o f.r 0 s.now hm0 hne
 have hq := hop (withP (gfS lo hi s) 17 mr.tt pb (wsR (wsOf (nums (gfS lo hi s).lo (gfS lo hi s).hi)) (tkn (gfS lo hi s).lo (gfS lo hi s).hi a))) rfl rfl rfl rfl
 have hbc : bcM (opS (withP (gfS lo hi s) 17 mr.tt pb (wsR (wsOf (nums (gfS lo hi s).lo (gfS lo hi s).hi)) (tkn (gfS lo hi s).lo (gfS lo hi s).hi a))) f) f (s.now + 30) = (0 + 1 + 1 + 1 + 1, twR f.o f.r 0 (s.now + 30) (0 + 1 + 1 + 1) (0 + 1 + 1 + 1 + 1)) := by
  unfold bcM opS
  simp only [hq]
  exact twR_mv f.o f.r 0 s.now (s.now + 30) (0 + 1) (0 + 1 + 1) (0 + 1 + 1) hm1 hne
 have hnow : (opS (withP (gfS lo hi s) 17 mr.tt pb (wsR (wsOf (nums (gfS lo hi s).lo (gfS lo hi s).hi)) (tkn (gfS lo hi s).lo (gfS lo hi s).hi a))) f).now = s.now := rfl
 refine ⟨?_, ?_, ?_, rfl, rfl, ?_⟩
 ·show (([] ++ [f] : List Fl).map fun (x : Fl) => if x.blk = f.blk then f.at 8 (s.now + tm f.o.pr 8) else x) = _
  rw [htm]
  simp
 ·show (bcM _ f (_ + tm f.o.pr 8)).2 = _
  rw [htm, hnow, hbc]
 ·show (bcM _ f (_ + tm f.o.pr 8)).1 = _
  rw [htm, hnow, hbc]
 ·intro e he
  have he' : e ∈ ((#[] : Array MapEntry).push ⟨.int .i64 f.id, .pointer (some ⟨f.blk, 0, none⟩), s.cf⟩).toList := he
  have e1 : e = ⟨.int .i64 f.id, .pointer (some ⟨f.blk, 0, none⟩), s.cf⟩ := by simpa using he'
  show e.born < s.cf + 1
  rw [e1]
  exact Nat.lt_succ_self _
end Go.Proofs.YtofknbfbmaefoaaGreatDoor
