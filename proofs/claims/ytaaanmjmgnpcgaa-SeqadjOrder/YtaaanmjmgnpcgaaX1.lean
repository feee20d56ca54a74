/- Several texts in one. -/
import Derived.Test.YtaaanmjmgnpcgaaGQ
import Derived.Test.YtaaanmjmgnpcgaaGR
import Derived.ProofKit
import Derived.OpenShut
import Derived.SizedLaws
import Derived.Lib.SmallJoins
import Derived.Test.YtaaanmjmgnpcgaaW4
import Derived.Test.YtaaanmjmgnpcgaaGA
/- The document's stream: Add, where it adds, in one. -/
namespace Go.Proofs.Ytaaanmjmgnpcgaa
open Go.RowKit Go.Shelf
set_option maxRecDepth 100000
set_option linter.unusedVariables false
set_option linter.unusedSimpArgs false

theorem rsadd_yes (base b : Nat) (v : Value) (l : List Dp) (s was : Int) (tv : Value) (zs : List Int) (w : World) (hT : DS 71 base w b v l) (hbs : base ≤ w.heap.size) (hI : Rd w.heap.size w tv zs) (ha : adD l s was zs.length = 0) :
    Calls Try.prog 25 #[.pointer (some ⟨b, 0, none⟩), .int .u32 s, .int .i64 was, tv] w fun e w' => e = .returned (.int .i64 0) ∧ ∃ ta tc, DSq 71 base w w' b v (l ++ [⟨s, was, ta, zs.length, tc⟩]) ∧ Ow base w' (.slice ta zs.length tc) zs := by
  rcases (show l = [] ∨ 0 < l.length by cases l <;> simp) with h | h
  · exact rsadd_yes0 base b v l s was tv zs w hT hbs hI h ha
  · exact rsadd_yes1 base b v l s was tv zs w hT hbs hI h ha
end Go.Proofs.Ytaaanmjmgnpcgaa

/- Both streams: what is added to both; what both hold. -/
namespace Go.Proofs.Ytaaanmjmgnpcgaa
open Go.RowKit Go.Shelf
set_option maxRecDepth 100000
set_option linter.unusedVariables false
set_option linter.unusedSimpArgs false

/-- A part: its start, its length, its text. -/
structure Tx where
  s : Int
  wz : Int
  zs : List Int
def tdp (t : Tx) : Dp := ⟨t.s, t.wz, none, t.zs.length, 0⟩
def strp (d : Dp) : Dp := ⟨d.st, d.wz, none, d.tn, 0⟩
theorem strp_at (l : List Dp) (k : Nat) : (l.map strp)[k]?.getD zDp = strp (l[k]?.getD zDp) := by
  rw [List.getElem?_map]
  cases l[k]? <;> rfl
theorem dfz_strp (l : List Dp) : ∀ k, dfz (l.map strp) k = dfz l k
  | 0 => rfl
  | k + 1 => by unfold dfz; rw [dfz_strp l k, strp_at]; rfl
theorem dmp_strp (l : List Dp) (n : Int) : ∀ k, dmp (l.map strp) n k = dmp l n k
  | 0 => rfl
  | k + 1 => by unfold dmp; rw [dmp_strp l n k, strp_at, dfz_strp, dfz_strp]; rfl
theorem dum_strp (l : List Dp) (n : Int) : ∀ k, dum (l.map strp) n k = dum l n k
  | 0 => rfl
  | k + 1 => by unfold dum; rw [dum_strp l n k, strp_at, dfz_strp, dfz_strp]; rfl
theorem dps_strp (l : List Dp) (s : Int) : dps' (l.map strp) s = dps' l s := by
  unfold dps'
  rw [List.getLast?_map, List.isEmpty_map]
  cases l.getLast? <;> rfl
theorem adD_strp (l : List Dp) (s was tl : Int) : adD (l.map strp) s was tl = adD l s was tl := by unfold adD; rw [dps_strp, List.length_map]
/-- What Add tells, what the numbers map to, by the parts alone. -/
def adT (T : List Tx) (s was tl : Int) : Int := adD (T.map tdp) s was tl
def addT (T : List Tx) (t : Tx) : List Tx := if adT T t.s t.wz t.zs.length = 0 then T ++ [t] else T
def mpT (T : List Tx) (n : Int) : Int := dmp (T.map tdp) n T.length
def umT (T : List Tx) (n : Int) : Int := dum (T.map tdp) n T.length
theorem addT_len (T : List Tx) (t : Tx) (h : T.length ≤ 8) : (addT T t).length ≤ 8 := by
  unfold addT
  split
  · rename_i h0
    have := (adD_yes h0).2.2.2
    rw [List.length_map] at this
    rw [List.length_append, List.length_singleton]
    omega
  · exact h
/-- The program's parts and the document's, added one behind the other, with their texts. -/
inductive RT (base : Nat) (W : World) : List Pa → List Dp → List Tx → Prop
  | nil : RT base W [] [] []
  | add {lp : List Pa} {ld : List Dp} {T : List Tx} (h : RT base W lp ld T) (t : Tx) (ta : Option Addr) (tc : Nat) (ta' : Option Addr) (tc' : Nat) (hs : 0 ≤ t.s ∧ t.s ≤ 4294967295) (hw : 1 ≤ t.wz ∧ t.wz ≤ 128) (hn : 1 ≤ (t.zs.length : Int) ∧ (t.zs.length : Int) ≤ 128)
      (ho : Ow base W (.slice ta t.zs.length tc) t.zs) (ho' : Ow base W (.slice ta' t.zs.length tc') t.zs) : RT base W (lp ++ [npP lp t.s t.wz t.zs.length ta tc]) (ld ++ [⟨t.s, t.wz, ta', t.zs.length, tc'⟩]) (T ++ [t])
theorem RT.rs {base : Nat} {W : World} {lp : List Pa} {ld : List Dp} {T : List Tx} (h : RT base W lp ld T) : RS lp ld := by
  induction h with
  | nil => exact .nil
  | add h t ta tc ta' tc' hs hw hn ho ho' ih => exact .add ih t.s t.wz t.zs.length ta tc ta' tc' hs hw hn
theorem RT.strp {base : Nat} {W : World} {lp : List Pa} {ld : List Dp} {T : List Tx} (h : RT base W lp ld T) : ld.map strp = T.map tdp := by
  induction h with
  | nil => rfl
  | add h t ta tc ta' tc' hs hw hn ho ho' ih => rw [List.map_append, List.map_append, ih]; rfl
theorem RT.keep {base : Nat} {W W' : World} {lp : List Pa} {ld : List Dp} {T : List Tx} (h : RT base W lp ld T) (hk : ∀ v zs, Ow base W v zs → Ow base W' v zs) : RT base W' lp ld T := by
  induction h with
  | nil => exact .nil
  | add h t ta tc ta' tc' hs hw hn ho ho' ih => exact .add ih t ta tc ta' tc' hs hw hn (hk _ _ ho) (hk _ _ ho')
theorem RT.len {base : Nat} {W : World} {lp : List Pa} {ld : List Dp} {T : List Tx} (h : RT base W lp ld T) : ld.length = T.length := by
  have := congrArg List.length h.strp
  simpa using this
theorem RT.ad {base : Nat} {W : World} {lp : List Pa} {ld : List Dp} {T : List Tx} (h : RT base W lp ld T) (s was tl : Int) : adD ld s was tl = adT T s was tl := by unfold adT; rw [← h.strp, adD_strp]
theorem RT.map {base : Nat} {W : World} {lp : List Pa} {ld : List Dp} {T : List Tx} (h : RT base W lp ld T) (n : Int) : dmp ld n ld.length = mpT T n := by unfold mpT; rw [← h.strp, dmp_strp, h.len]
theorem RT.unm {base : Nat} {W : World} {lp : List Pa} {ld : List Dp} {T : List Tx} (h : RT base W lp ld T) (n : Int) : dum ld n ld.length = umT T n := by unfold umT; rw [← h.strp, dum_strp, h.len]

/-- How the program's Add leaves its parts. -/
def AdP (base : Nat) (w w' : World) (b : Nat) (v : Value) (l : List Pa) (s wz : Int) (zs : List Int) : Prop :=
  (adS l s wz zs.length ≠ 0 ∧ SLq 57 base w w' b v l) ∨ (adS l s wz zs.length = 0 ∧ ∃ ta tc, SLq 57 base w w' b v (l ++ [npP l s wz zs.length ta tc]) ∧ Ow base w' (.slice ta zs.length tc) zs)
def AdD (base : Nat) (w w' : World) (b : Nat) (v : Value) (l : List Dp) (s wz : Int) (zs : List Int) : Prop :=
  (adD l s wz zs.length ≠ 0 ∧ DSq 71 base w w' b v l) ∨ (adD l s wz zs.length = 0 ∧ ∃ ta tc, DSq 71 base w w' b v (l ++ [⟨s, wz, ta, zs.length, tc⟩]) ∧ Ow base w' (.slice ta zs.length tc) zs)
theorem sadd_any (base b : Nat) (v : Value) (l : List Pa) (s was : Int) (tv : Value) (zs : List Int) (w : World) (hT : SL 57 base w b v l) (hbs : base ≤ w.heap.size) (hl : l.length ≤ 1000) (hs : 0 ≤ s ∧ s ≤ 4294967295) (hI : Rd w.heap.size w tv zs) :
    Calls Try.prog 13 #[.pointer (some ⟨b, 0, none⟩), .int .u32 s, .int .i64 was, tv] w fun e w' => e = .returned (.int .i64 (adS l s was zs.length)) ∧ AdP base w w' b v l s was zs := by
  by_cases h : adS l s was zs.length = 0
  · refine (sadd_txt base b v l s was tv zs w hT hbs hs hI h).mono ?_
    rintro e w' ⟨rfl, h2⟩
    exact ⟨by rw [h], .inr ⟨h, h2⟩⟩
  · refine (sadd_no base b v l s was tv zs w hT hl hI h).mono ?_
    rintro e w' ⟨rfl, rfl⟩
    exact ⟨rfl, .inl ⟨h, SLq.same hT (Later.refl _)⟩⟩
theorem rsadd_any (base b : Nat) (v : Value) (l : List Dp) (s was : Int) (tv : Value) (zs : List Int) (w : World) (hT : DS 71 base w b v l) (hbs : base ≤ w.heap.size) (hl : l.length ≤ 1000) (hI : Rd w.heap.size w tv zs) :
    Calls Try.prog 25 #[.pointer (some ⟨b, 0, none⟩), .int .u32 s, .int .i64 was, tv] w fun e w' => e = .returned (.int .i64 (adD l s was zs.length)) ∧ AdD base w w' b v l s was zs := by
  by_cases h : adD l s was zs.length = 0
  · refine (rsadd_yes base b v l s was tv zs w hT hbs hI h).mono ?_
    rintro e w' ⟨rfl, h2⟩
    exact ⟨by rw [h], .inr ⟨h, h2⟩⟩
  · refine (rsadd_no base b v l s was tv zs w hT hl hI h).mono ?_
    rintro e w' ⟨rfl, l1⟩
    exact ⟨rfl, .inl ⟨h, DSq.same hT l1⟩⟩
theorem AdP.but {base : Nat} {w w' : World} {b : Nat} {v : Value} {l : List Pa} {s wz : Int} {zs : List Int} (h : AdP base w w' b v l s wz zs) : ∃ l', SLq 57 base w w' b v l' := by
  rcases h with ⟨_, h⟩ | ⟨_, ta, tc, h, _⟩ <;> exact ⟨_, h⟩
theorem AdD.but {base : Nat} {w w' : World} {b : Nat} {v : Value} {l : List Dp} {s wz : Int} {zs : List Int} (h : AdD base w w' b v l s wz zs) : ∃ l', DSq 71 base w w' b v l' := by
  rcases h with ⟨_, h⟩ | ⟨_, ta, tc, h, _⟩ <;> exact ⟨_, h⟩

/-- Blocks of streams that were there. -/
def Eb (base n : Nat) (g : Nat) : Prop := base ≤ g ∧ g < n
/-- Both streams, which hold the same. -/
def PR (base : Nat) (W : World) (a b : Nat) (T : List Tx) : Prop := ∃ va vb lp ld, SL 57 base W a va lp ∧ DS 71 base W b vb ld ∧ RT base W lp ld T ∧ ∀ g, va.ownBlock = some g → vb.ownBlock ≠ some g
theorem PR.later {base : Nat} {A B : World} {a b : Nat} {T : List Tx} (h : PR base A a b T) (k : Later A B) : PR base B a b T := by
  obtain ⟨va, vb, lp, ld, h1, h2, h3, h4⟩ := h
  exact ⟨va, vb, lp, ld, h1.later k, h2.later k, h3.keep (fun v zs ho => ho.later k), h4⟩
theorem SLq.eb {base : Nat} {w W W1 : World} {b : Nat} {v : Value} {l l' : List Pa} (h : SL 57 base w b v l) (q : SLq 57 base W W1 b v l') : But (Eb base w.heap.size) W W1 := by
  obtain ⟨v', _, k, _⟩ := q
  refine k.wk1 (fun g e => ?_)
  rcases e with e | e
  · rw [e]; exact ⟨h.1, h.blt⟩
  · exact h.lt e
theorem DSq.eb {base : Nat} {w W W1 : World} {b : Nat} {v : Value} {l l' : List Dp} (h : DS 71 base w b v l) (q : DSq 71 base W W1 b v l') : But (Eb base w.heap.size) W W1 := by
  obtain ⟨v', _, k, _⟩ := q
  refine k.wk1 (fun g e => ?_)
  rcases e with e | e
  · rw [e]; exact ⟨h.1, h.blt⟩
  · exact h.lt e
theorem SLq.ow {base : Nat} {W W1 : World} {b : Nat} {v : Value} {l l' : List Pa} (h : SL 57 base W b v l) (q : SLq 57 base W W1 b v l') (u : Value) (zs : List Int) (ho : Ow base W u zs) : Ow base W1 u zs := by
  obtain ⟨v', _, k, _⟩ := q
  exact ho.butT k (fun g cur hg e => by rcases e with e | e; (· rw [e, h.2.1] at hg; simp at hg); (· exact h.ne hg (by decide) e))
theorem DSq.ow {base : Nat} {W W1 : World} {b : Nat} {v : Value} {l l' : List Dp} (h : DS 71 base W b v l) (q : DSq 71 base W W1 b v l') (u : Value) (zs : List Int) (ho : Ow base W u zs) : Ow base W1 u zs := by
  obtain ⟨v', _, k, _⟩ := q
  exact ho.butT k (fun g cur hg e => by rcases e with e | e; (· rw [e, h.2.1] at hg; simp at hg); (· exact h.ne hg (by decide) e))
/-- The document's stream stays where the program's changes. -/
theorem PR.one {base : Nat} {w W W1 : World} {a b : Nat} {va vb : Value} {lp l' : List Pa} {ld : List Dp} (h1 : SL 57 base w a va lp) (h2 : DS 71 base w b vb ld) (h3 : ∀ g, va.ownBlock = some g → vb.ownBlock ≠ some g) (lw : Later w W)
    (q1 : SLq 57 base W W1 a va l') : DS 71 base W1 b vb ld ∧ But (Eb base w.heap.size) W W1 := by
  refine ⟨?_, SLq.eb h1 q1⟩
  obtain ⟨va', r1, b1, f1⟩ := q1
  have hab : a ≠ b := fun e => by
    have e1 := h1.2.1
    rw [e, h2.2.1] at e1
    simp at e1
  exact (h2.later lw).but b1 (fun e => by rcases e with e | e; (· exact hab e.symm); (· exact h1.ne h2.2.1 (by decide) e)) (fun g hg e => by rcases e with e | e; (· subst e; exact h2.ne h1.2.1 (by decide) hg); (· exact h3 g e hg))
theorem PR.two {base : Nat} {w W W1 W2 : World} {a b : Nat} {va vb : Value} {lp l' : List Pa} {ld m' : List Dp} (h1 : SL 57 base w a va lp) (h2 : DS 71 base w b vb ld) (h3 : ∀ g, va.ownBlock = some g → vb.ownBlock ≠ some g) (lw : Later w W)
    (q1 : SLq 57 base W W1 a va l') (q2 : DSq 71 base W1 W2 b vb m') : ∃ va' vb', SL 57 base W2 a va' l' ∧ DS 71 base W2 b vb' m' ∧ ∀ g, va'.ownBlock = some g → vb'.ownBlock ≠ some g := by
  obtain ⟨h2', _⟩ := PR.one h1 h2 h3 lw q1
  obtain ⟨va', r1, b1, f1⟩ := q1
  obtain ⟨vb', r2, b2, f2⟩ := q2
  have hab : a ≠ b := fun e => by
    have e1 := h1.2.1
    rw [e, h2.2.1] at e1
    simp at e1
  have hws := lw.size
  have hva : ∀ g, va'.ownBlock = some g → vb.ownBlock ≠ some g := fun g hg e => by
    rcases f1 with f | f
    · rw [f] at hg; exact h3 g hg e
    · have := f g hg
      have := (h2.lt e).2
      omega
  have r1' : SL 57 base W2 a va' l' := r1.but b2 (fun e => by rcases e with e | e; (· exact hab e); (· exact h2'.ne r1.2.1 (by decide) e)) (fun g hg e => by rcases e with e | e; (· subst e; exact r1.ne h2'.2.1 (by decide) hg); (· exact hva g hg e))
  refine ⟨va', vb', r1', r2, fun g hg e => ?_⟩
  rcases f2 with f | f
  · rw [f] at e; exact hva g hg e
  · have := f g e
    have := (r1.lt hg).2
    omega
/-- A part added to both. -/
theorem PR.add {base : Nat} {w W W1 W2 : World} {a b : Nat} {va vb : Value} {lp : List Pa} {ld : List Dp} {T : List Tx} {t : Tx} (h1 : SL 57 base w a va lp) (h2 : DS 71 base w b vb ld) (hR : RT base w lp ld T) (h3 : ∀ g, va.ownBlock = some g → vb.ownBlock ≠ some g) (lw : Later w W)
    (q1 : AdP base W W1 a va lp t.s t.wz t.zs) (q2 : AdD base W1 W2 b vb ld t.s t.wz t.zs) (hs : 0 ≤ t.s ∧ t.s ≤ 4294967295) : PR base W2 a b (addT T t) := by
  have e1 : adS lp t.s t.wz t.zs.length = adT T t.s t.wz t.zs.length := by rw [hR.rs.ad, hR.ad]
  have e2 : adD ld t.s t.wz t.zs.length = adT T t.s t.wz t.zs.length := hR.ad _ _ _
  have hT : addT T t = if adT T t.s t.wz t.zs.length = 0 then T ++ [t] else T := rfl
  rw [hT]
  unfold AdP at q1
  unfold AdD at q2
  rw [e1] at q1
  rw [e2] at q2
  by_cases h0 : adT T t.s t.wz t.zs.length = 0
  · rw [if_pos h0]
    rcases q1 with ⟨hc, _⟩ | ⟨_, ta, tc, q1, o1⟩
    · exact absurd h0 hc
    rcases q2 with ⟨hc, _⟩ | ⟨_, ta', tc', q2, o2⟩
    · exact absurd h0 hc
    obtain ⟨h2', _⟩ := PR.one h1 h2 h3 lw q1
    obtain ⟨va', vb', r1, r2, r3⟩ := PR.two h1 h2 h3 lw q1 q2
    obtain ⟨k1, k2, _, _⟩ := adD_yes (e2.trans h0)
    refine ⟨va', vb', _, _, r1, r2, .add (hR.keep (fun v zs ho => DSq.ow h2' q2 v zs (SLq.ow (h1.later lw) q1 v zs (ho.later lw)))) t ta tc ta' tc' hs (okN_rng k1) (okN_rng k2) (DSq.ow h2' q2 _ _ o1) o2, r3⟩
  · rw [if_neg h0]
    have q1 := (q1.resolve_right (fun hc => h0 hc.1)).2
    have q2 := (q2.resolve_right (fun hc => h0 hc.1)).2
    obtain ⟨h2', _⟩ := PR.one h1 h2 h3 lw q1
    obtain ⟨va', vb', r1, r2, r3⟩ := PR.two h1 h2 h3 lw q1 q2
    exact ⟨va', vb', _, _, r1, r2, hR.keep (fun v zs ho => DSq.ow h2' q2 v zs (SLq.ow (h1.later lw) q1 v zs (ho.later lw))), r3⟩
end Go.Proofs.Ytaaanmjmgnpcgaa

/- How an argument that is a packet reads. -/
namespace Go.Proofs.Ytaaanmjmgnpcgaa
open Go.ChangeShapes Go.WideShapes Go.ChangeAt Go.RowKit Go.Joins
set_option maxRecDepth 100000

theorem array9 {α : Type} {cs : Array α} (h : cs.size = 9) : ∃ c0 c1 c2 c3 c4 c5 c6 c7 c8, cs = #[c0, c1, c2, c3, c4, c5, c6, c7, c8] := by
  obtain ⟨l⟩ := cs
  match l, h with
  | [c0, c1, c2, c3, c4, c5, c6, c7, c8], _ => exact ⟨c0, c1, c2, c3, c4, c5, c6, c7, c8, rfl⟩
theorem list9 {α : Type} {l : List α} (h : l.length = 9) : ∃ c0 c1 c2 c3 c4 c5 c6 c7 c8, l = [c0, c1, c2, c3, c4, c5, c6, c7, c8] := by
  match l, h with
  | [c0, c1, c2, c3, c4, c5, c6, c7, c8], _ => exact ⟨c0, c1, c2, c3, c4, c5, c6, c7, c8, rfl⟩

/-- A field that is a slice of bytes. -/
theorem open_bytes {H : Type} {enc : TypeId × Value → H} {W : World} {n : Nat} {c : Value} {y : DataW H × List MemPlace} (h : DataW.trod enc Try.prog W 0 (fun _ => true) true n 24 [c] = some y) :
    ∃ zs, Mt.By zs ∧ Rd W.heap.size W c zs ∧ ((DataW.weights Try.prog 24 y.1).all (· ≤ reachBytes) = true → zs.length ≤ 140737488351232) := by
  obtain ⟨a, l, cp, hc⟩ := slice_form Try.underlying24 h
  cases hc
  rcases open_ints Try.underlying24 Try.underlying5 (by kernel_rfl) h with ⟨hcs, _⟩ | ⟨x, l', c', zs, hcs, _, hl, hm, hz, hx, hcell, hwz⟩
  · simp at hcs
    obtain ⟨rfl, rfl, rfl⟩ := hcs
    exact ⟨[], Mt.By.nil, .inl ⟨_, _, rfl, rfl, by omega, fun _ => rfl⟩, fun _ => by simp⟩
  · simp at hcs
    obtain ⟨rfl, rfl, rfl⟩ := hcs
    rw [if_pos rfl] at hz
    obtain ⟨ys, hB, hI⟩ := rd_of_row x l cp zs hl (by simpa [maxLen] using hm) hz hcell hwz W.heap.size (fun h => row_block x zs hcell (by omega))
    refine ⟨ys, hB, hI, fun hw => ?_⟩
    obtain ⟨a', cap', e', h1, _⟩ := hI.slice
    cases e'
    subst hx
    have hb : Try.prog.bytesOf 5 = 1 := by kernel_rfl
    simp only [DataW.weights, Try.underlying24, List.all_cons, Bool.and_eq_true, hb, reachBytes] at hw
    have h2 := hw.1
    simp [lits] at h2
    omega

end Go.Proofs.Ytaaanmjmgnpcgaa

/- How an argument that is a list of parts of a stream reads. -/
namespace Go.Proofs.Ytaaanmjmgnpcgaa
open Go.ChangeShapes Go.WideShapes Go.ChangeAt Go.RowKit Go.Joins
set_option maxRecDepth 100000
set_option linter.unusedVariables false
set_option linter.unusedSimpArgs false

/-- A part that is handed in. -/
structure Ap where
  s : Int
  wz : Int
  tv : Value
  zs : List Int
def apc (d : Ap) : List Value := [.int .u32 d.s, .int .i64 d.wz, d.tv]
def wfA (n₀ : Nat) (W : World) (d : Ap) : Prop := (0 ≤ d.s ∧ d.s ≤ 4294967295) ∧ (-9223372036854775808 ≤ d.wz ∧ d.wz ≤ 9223372036854775807) ∧ Mt.By d.zs ∧ Rd n₀ W d.tv d.zs
theorem wfA.below {n₀ : Nat} {A B : World} {d : Ap} (h : wfA n₀ A d) (k : Below n₀ A B) : wfA n₀ B d := ⟨h.1, h.2.1, h.2.2.1, h.2.2.2.below k⟩

theorem lst3q {α : Type} {l : List α} (h : l.length = 3) : ∃ a b c, l = [a, b, c] := by
  match l, h with
  | [a, b, c], _ => exact ⟨a, b, c, rfl⟩
theorem trod_part11 {H : Type} {enc : TypeId × Value → H} {W : World} {n : Nat} {cs : List Value} {y : DataW H × List MemPlace} (h : DataW.trod enc Try.prog W 0 (fun _ => true) true n 26 cs = some y) (hl : cs.length = 3) : ∃ d : Ap, cs = apc d ∧ wfA W.heap.size W d := by
  obtain ⟨c0, c1, c2, rfl⟩ := lst3q hl
  obtain ⟨xs, n, _, hx, _, hlen, hfs⟩ := DataW.trod_struct Try.underlying26 h
  obtain ⟨y0, y1, y2, rfl⟩ := lst3q hlen
  have k1 : Try.prog.cellsOf 23 = 1 := by kernel_rfl
  have k3 : Try.prog.cellsOf 3 = 1 := by kernel_rfl
  have k5 : Try.prog.cellsOf 24 = 1 := by kernel_rfl
  have f0 := hfs 0 _ rfl
  have f1 := hfs 1 _ rfl
  have f2 := hfs 2 _ rfl
  simp [Value.cells, k1, k3, k5] at f0 f1 f2
  obtain ⟨s, e0, _, w0⟩ := DataW.trod_int Try.underlying23 f0
  obtain ⟨wz, e1, _, w1⟩ := DataW.trod_int Try.underlying3 f1
  obtain ⟨zd, hBd, hId, hwd⟩ := open_bytes f2
  simp at e0 e1
  subst e0 e1
  exact ⟨⟨s, wz, c2, zd⟩, rfl, by simpa [Lit.wf, IntKind.min, IntKind.max, IntKind.signed, IntKind.bits] using w0, by simpa [Lit.wf, IntKind.min, IntKind.max, IntKind.signed, IntKind.bits] using w1, hBd, hId⟩

/-- The slice value reads as these parts, all of it below block n₀. -/
def RdA (n₀ : Nat) (W : World) (sv : Value) (l : List Ap) : Prop :=
  ((∃ a cap, sv = .slice a 0 cap ∧ l = [] ∧ cap ≤ 9223372036854775807) ∨
  ∃ b off cap, sv = .slice (some ⟨b, off, none⟩) l.length cap ∧ l ≠ [] ∧ l.length ≤ cap ∧ cap ≤ 9223372036854775807 ∧ b < n₀ ∧ ∀ j (hj : j < l.length), ∀ i, i < 3 → W.cell? ⟨b, off + j * 3 + i, none⟩ = (apc l[j])[i]?) ∧ ∀ d ∈ l, wfA n₀ W d
theorem RdA.below {n₀ : Nat} {A B : World} (h : Below n₀ A B) {sv : Value} {l : List Ap} (r : RdA n₀ A sv l) : RdA n₀ B sv l := by
  refine ⟨?_, fun d hd => (r.2 d hd).below h⟩
  rcases r.1 with e | ⟨b, off, cap, e, hne, hl, hm, hb, hc⟩
  · exact .inl e
  · exact .inr ⟨b, off, cap, e, hne, hl, hm, hb, fun j hj i hi => (h.cell (p := ⟨b, off + j * 3 + i, none⟩) hb).trans (hc j hj i hi)⟩
theorem RdA.slice {n₀ : Nat} {A : World} {sv : Value} {l : List Ap} (r : RdA n₀ A sv l) : ∃ a cap, sv = .slice a l.length cap ∧ l.length ≤ cap ∧ cap ≤ 9223372036854775807 := by
  rcases r.1 with ⟨a, cap, e, hz, hm⟩ | ⟨b, off, cap, e, _, hl, hm, _⟩
  · exact ⟨a, cap, by rw [e, hz]; rfl, by rw [hz]; exact Nat.zero_le _, hm⟩
  · exact ⟨_, cap, e, hl, hm⟩
theorem RdA.cells {n₀ : Nat} {W : World} {sv : Value} {l : List Ap} (h : RdA n₀ W sv l) (hne : 0 < l.length) : ∃ b off cap, sv = .slice (some ⟨b, off, none⟩) l.length cap ∧ l.length ≤ cap ∧ cap ≤ 9223372036854775807 ∧ b < n₀ ∧ ∀ j (hj : j < l.length), ∀ i, i < 3 → W.cell? ⟨b, off + j * 3 + i, none⟩ = (apc l[j])[i]? := by
  rcases h.1 with ⟨a, cap, _, rfl, _⟩ | ⟨b, off, cap, e, _, hl, hm, hb, hc⟩
  · simp at hne
  · exact ⟨b, off, cap, e, hl, hm, hb, hc⟩

theorem open_parts11 {H : Type} {enc : TypeId × Value → H} {W : World} {n : Nat} {c : Value} {y : DataW H × List MemPlace} (h : DataW.trod enc Try.prog W 0 (fun _ => true) true n 22 [c] = some y) : ∃ l, RdA W.heap.size W c l := by
  rcases DataW.trod_slice Try.underlying22 h with ⟨hcs, _⟩ | ⟨a, len, cap, elems, rest, n, _, hcs, rfl, hb, hl, hm, hlen, hel, hsp, hns⟩
  · simp at hcs
    subst hcs
    exact ⟨[], .inl ⟨_, _, rfl, rfl, by omega⟩, fun d hd => by cases hd⟩
  · simp at hcs
    subst hcs
    have hc1 : Try.prog.cellsOf 26 = 3 := by kernel_rfl
    by_cases h0 : len = 0
    · subst h0
      exact ⟨[], .inl ⟨_, _, rfl, rfl, by simpa [maxLen] using hm⟩, fun d hd => by cases hd⟩
    have each : ∀ i, ∃ d : Ap, i < len → wfA W.heap.size W d ∧ ∀ j, j < 3 → W.cell? ((a.add (i * 3)).add j) = (apc d)[j]? := fun i => by
      by_cases hi : i < len
      · have h1 := hel i hi
        rw [hc1] at h1
        have hy : elems[i]? = some (elems[i]'(by omega)) := List.getElem?_eq_getElem (by omega)
        rw [hy, Option.bind_eq_some_iff] at h1
        obtain ⟨cs', hcs, hy'⟩ := h1
        obtain ⟨q1, q2, q3⟩ := World.cells?_some hcs
        obtain ⟨d, e, hw⟩ := trod_part11 hy' q2
        exact ⟨d, fun _ => ⟨hw, fun j hj => by rw [q3 j hj, e]⟩⟩
      · exact ⟨⟨0, 0, undef, []⟩, fun h => absurd h hi⟩
    obtain ⟨O, hO⟩ := Classical.axiomOfChoice each
    obtain ⟨b, off, spot⟩ := a
    have hc : W.cell? _ = some _ := ((hO 0 (by omega)).2 0 (by omega))
    have hspot : spot = none := by simpa [Addr.add] using World.cell?_spot hc
    subst hspot
    refine ⟨(List.range len).map O, .inr ⟨b, off, cap, by simp, by intro e; have := congrArg List.length e; simp at this; omega, by simp; omega, by simpa [maxLen] using hm, ?_, fun j hj i hi => ?_⟩, fun d hd => ?_⟩
    · have := World.block_lt_of_cell? W _ hc
      simpa [Addr.add] using this
    · have hj' : j < len := by simpa using hj
      have := (hO j hj').2 i hi
      rw [addr_add', addr_add'] at this
      rw [this]
      simp
    · obtain ⟨i, hi, rfl⟩ := List.mem_map.1 hd
      exact (hO i (by simpa using hi)).1
end Go.Proofs.Ytaaanmjmgnpcgaa

/- The law's play: parts added to both streams. -/
namespace Go.Proofs.Ytaaanmjmgnpcgaa
open Go.RowKit Go.Shelf
set_option maxRecDepth 100000
set_option linter.unusedVariables false
set_option linter.unusedSimpArgs false

def zAp : Ap := ⟨0, 0, undef, []⟩
def toT (d : Ap) : Tx := ⟨d.s, d.wz, d.zs⟩
/-- The parts behind the first k of a list. -/
def plT (ds : List Ap) : Nat → List Tx
  | 0 => []
  | k + 1 => addT (plT ds k) (toT (ds[k]?.getD zAp))
theorem plT_len (ds : List Ap) : ∀ k, (plT ds k).length ≤ 8
  | 0 => by simp [plT]
  | k + 1 => addT_len _ _ (plT_len ds k)
theorem plT_next {ds : List Ap} {k : Nat} (h : k < ds.length) : plT ds (k + 1) = addT (plT ds k) (toT ds[k]) := by
  show addT (plT ds k) (toT (ds[k]?.getD zAp)) = _
  rw [List.getElem?_eq_getElem h]
  rfl
theorem DS.base {t : TypeId} {base base' : Nat} {W : World} {b : Nat} {v : Value} {l : List Dp} (h : DS t base W b v l) (hb : base' ≤ base) : DS t base' W b v l := by
  refine ⟨Nat.le_trans hb h.1, h.2.1, ?_⟩
  obtain ⟨h1, h2 | ⟨g, cap, cur, e, hg, r⟩⟩ := h.2.2
  · exact ⟨h1, .inl h2⟩
  · exact ⟨h1, .inr ⟨g, cap, cur, e, Nat.le_trans hb hg, r⟩⟩

set_option maxHeartbeats 8000000 in
theorem play11_any (sv : Value) (ds : List Ap) (w : World) (n₀ : Nat) (hn : n₀ ≤ w.heap.size) (hI : RdA n₀ w sv ds) :
    Calls Try.prog 9 #[sv] w fun e w' => Later w w' ∧ ∃ a b, e = .returned (.tuple #[.pointer (some ⟨a, 0, none⟩), .pointer (some ⟨b, 0, none⟩), .bool true]) ∧ PR w.heap.size w' a b (plT ds (min ds.length 30)) := by
  obtain ⟨aa, ca, rfl, ha1, ha2⟩ := hI.slice
  have HI := hide hI
  clear hI
  go_enter Try.func9, Try.ntmps9
  go_wp2_with fail
  refine (snew_any w).mono ?_
  rintro e w1 ⟨rfl, l1, hT1⟩
  have hs1 : w.heap.size ≤ w1.heap.size := l1.size
  go_wp2_with fail
  refine (rsnew_any w1).mono ?_
  rintro e w2 ⟨rfl, l2, hR2⟩
  have hPE : PR w.heap.size w2 w.heap.size w1.heap.size [] := ⟨_, _, _, _, hT1.later l2, hR2.base hs1, .nil, fun g h => by cases h⟩
  have L2 : Below w.heap.size w w2 := Later.trans l1 l2
  clear hT1 hR2 l1 l2
  generalize w1.heap.size = rb at *
  generalize hB : w.heap.size = b at *
  have HB := hide hB
  clear hB
  go_wp2_with fail
  go_loopw [7] (fun i wr => ∃ k : Nat, k ≤ ds.length ∧ k ≤ 30 ∧ i = .int .i64 (k : Int) ∧ PR b wr b rb (plT ds k) ∧ Below b w wr) (fun i _ => 30 - (intOf i).toNat)
  case atStart => exact ⟨0, by omega, by omega, rfl, hPE, L2⟩
  case round =>
    obtain ⟨k, hk1, hk2, rfl, hP, hbw⟩ := hrel
    have hsz := hbw.size
    by_cases hgo : k < ds.length ∧ k < 30
    · obtain ⟨g1, g2⟩ := hgo
      have g1' : (k : Int) < ds.length := by omega
      have g2' : (k : Int) < 30 := by omega
      have hRk := HI.out.below (hbw.mono hn)
      obtain ⟨bb, off, cp, e, _, _, hbb, hcs⟩ := hRk.cells (by omega)
      simp at e
      obtain ⟨rfl, rfl⟩ := e
      have d0 := hcs k g1 0 (by omega)
      have d1 := hcs k g1 1 (by omega)
      have d2 := hcs k g1 2 (by omega)
      obtain ⟨hxs, hxw, hxb, hxr⟩ := hRk.2 ds[k] (List.getElem_mem _)
      have HPN := hide (plT_next g1)
      have HLN := hide (plT_len ds k)
      clear hcs hRk
      generalize ds[k] = x at *
      simp only [apc, List.getElem?_cons_zero, List.getElem?_cons_succ, Nat.add_zero] at d0 d1 d2
      obtain ⟨at0, ct0, htv, _, _⟩ := hxr.slice
      rw [htv] at d2
      have HXR := hide (fun W (h : Below n₀ wr W) => (Rd.below h hxr))
      clear hxr
      obtain ⟨va, vb, lp, ld, h1, h2, hRT, h3⟩ := hP
      have hlp : lp.length ≤ 8 := by rw [hRT.rs.len, hRT.len]; exact HLN.out
      have hld : ld.length ≤ 8 := by rw [hRT.len]; exact HLN.out
      generalize hT : plT ds k = T at *
      have HT := hide hT
      clear hT
      have hnb : n₀ ≤ b := by have := HB.out; omega
      have hbr : b ≤ wr.heap.size := by have := HB.out; omega
      go_upto_region 5 with fail
      refine anyT_begin (R := But (Eb b wr.heap.size)) 35 rfl (by kernel_rfl) ?_
      have ld0 : Later wr wr.drew := Later.drew wr
      have c0 : ∀ v1, But (Eb b wr.heap.size) wr.drew v1 → v1.cell? ⟨bb, off + k * 3, none⟩ = some (.int .u32 x.s) := fun v1 hv => hv.cell (ld0.cell d0) (fun e => by have := e.1; simp at this; omega)
      have c1 : ∀ v1, But (Eb b wr.heap.size) wr.drew v1 → v1.cell? ⟨bb, off + k * 3 + 1, none⟩ = some (.int .i64 x.wz) := fun v1 hv => hv.cell (ld0.cell d1) (fun e => by have := e.1; simp at this; omega)
      have c2 : ∀ v1, But (Eb b wr.heap.size) wr.drew v1 → v1.cell? ⟨bb, off + k * 3 + 2, none⟩ = some (.slice at0 x.zs.length ct0) := fun v1 hv => hv.cell (ld0.cell d2) (fun e => by have := e.1; simp at this; omega)
      generalize wr.drew = Wd at *
      clear d0 d1 d2
      refine anyT_val (But.pre _) 0 rfl (by kernel_rfl) (by kernel_rfl) (by kernel_rfl) (fun _ _ _ _ h => h) rfl ?_; apply Exists.intro; refine ⟨fun v1 hv1 => ?_, ?_⟩; (· (go_simp; rfl)); simp only [Act.put, List.setIfInBounds_toArray, List.set_cons_zero, List.set_cons_succ]
      refine anyT_val (But.pre _) 1 rfl (by kernel_rfl) (by kernel_rfl) (by kernel_rfl) (fun _ _ _ _ h => h) rfl ?_; apply Exists.intro; refine ⟨fun v1 hv1 => ?_, ?_⟩; (· (go_simp; rfl)); simp only [Act.put, List.setIfInBounds_toArray, List.set_cons_zero, List.set_cons_succ]
      refine anyT_val (But.pre _) 2 rfl (by kernel_rfl) (by kernel_rfl) (by kernel_rfl) (fun _ _ _ _ h => h) rfl ?_; apply Exists.intro; refine ⟨fun v1 hv1 => ?_, ?_⟩; (· (go_simp; rfl)); simp only [Act.put, List.setIfInBounds_toArray, List.set_cons_zero, List.set_cons_succ]
      refine anyT_val (But.pre _) 3 rfl (by kernel_rfl) (by kernel_rfl) (by kernel_rfl) (fun _ _ _ _ h => h) rfl ?_; apply Exists.intro; refine ⟨fun v1 hv1 => ?_, ?_⟩; (· (go_simp; rfl)); simp only [Act.put, List.setIfInBounds_toArray, List.set_cons_zero, List.set_cons_succ]
      refine anyT_val (But.pre _) 4 rfl (by kernel_rfl) (by kernel_rfl) (by kernel_rfl) (fun _ _ _ _ h => h) rfl ?_; apply Exists.intro; refine ⟨fun v1 hv1 => ?_, ?_⟩; (· (go_simp; rfl)); simp only [Act.put, List.setIfInBounds_toArray, List.set_cons_zero, List.set_cons_succ]
      refine anyT_val (But.pre _) 5 rfl (by kernel_rfl) (by kernel_rfl) (by kernel_rfl) (fun _ _ _ _ h => h) rfl ?_; apply Exists.intro; refine ⟨fun v1 hv1 => ?_, ?_⟩; (· (go_simp; rfl)); simp only [Act.put, List.setIfInBounds_toArray, List.set_cons_zero, List.set_cons_succ]
      refine anyT_val (But.pre _) 6 rfl (by kernel_rfl) (by kernel_rfl) (by kernel_rfl) (fun _ _ _ _ h => h) rfl ?_; apply Exists.intro; refine ⟨fun v1 hv1 => ?_, ?_⟩; (· (go_simp; rfl)); simp only [Act.put, List.setIfInBounds_toArray, List.set_cons_zero, List.set_cons_succ]
      refine anyT_val (But.pre _) 7 rfl (by kernel_rfl) (by kernel_rfl) (by kernel_rfl) (fun _ _ _ _ h => h) rfl ?_; apply Exists.intro; refine ⟨fun v1 hv1 => ?_, ?_⟩; (· (go_simp; rfl)); simp only [Act.put, List.setIfInBounds_toArray, List.set_cons_zero, List.set_cons_succ]
      refine anyT_val (But.pre _) 8 rfl (by kernel_rfl) (by kernel_rfl) (by kernel_rfl) (fun _ _ _ _ h => h) rfl ?_; apply Exists.intro; refine ⟨fun v1 hv1 => ?_, ?_⟩; (· (go_simp; rfl)); simp only [Act.put, List.setIfInBounds_toArray, List.set_cons_zero, List.set_cons_succ]
      refine anyT_val (But.pre _) 9 rfl (by kernel_rfl) (by kernel_rfl) (by kernel_rfl) (fun _ _ _ _ h => h) rfl ?_; apply Exists.intro; refine ⟨fun v1 hv1 => ?_, ?_⟩; (· (go_simp; rfl)); simp only [Act.put, List.setIfInBounds_toArray, List.set_cons_zero, List.set_cons_succ]
      refine anyT_val (But.pre _) 10 rfl (by kernel_rfl) (by kernel_rfl) (by kernel_rfl) (fun _ _ _ _ h => h) rfl ?_; apply Exists.intro; refine ⟨fun v1 hv1 => ?_, ?_⟩; (· (go_simp; rfl)); simp only [Act.put, List.setIfInBounds_toArray, List.set_cons_zero, List.set_cons_succ]
      refine anyT_val (But.pre _) 11 rfl (by kernel_rfl) (by kernel_rfl) (by kernel_rfl) (fun _ _ _ _ h => h) rfl ?_; apply Exists.intro; refine ⟨fun v1 hv1 => ?_, ?_⟩; (· (go_simp; rfl)); simp only [Act.put, List.setIfInBounds_toArray, List.set_cons_zero, List.set_cons_succ]
      refine anyT_val (But.pre _) 12 rfl (by kernel_rfl) (by kernel_rfl) (by kernel_rfl) (fun _ _ _ _ h => h) rfl ?_; apply Exists.intro; refine ⟨fun v1 hv1 => ?_, ?_⟩; (· (go_simp; rfl)); simp only [Act.put, List.setIfInBounds_toArray, List.set_cons_zero, List.set_cons_succ]
      refine anyT_val (But.pre _) 13 rfl (by kernel_rfl) (by kernel_rfl) (by kernel_rfl) (fun _ _ _ _ h => h) rfl ?_; apply Exists.intro; refine ⟨fun v1 hv1 => ?_, ?_⟩; (· (go_simp; rfl)); simp only [Act.put, List.setIfInBounds_toArray, List.set_cons_zero, List.set_cons_succ]
      refine anyT_val (But.pre _) 14 rfl (by kernel_rfl) (by kernel_rfl) (by kernel_rfl) (fun _ _ _ _ h => h) rfl ?_; apply Exists.intro; refine ⟨fun v1 hv1 => ?_, ?_⟩; (· (go_simp; rfl)); simp only [Act.put, List.setIfInBounds_toArray, List.set_cons_zero, List.set_cons_succ]
      refine anyT_val (But.pre _) 15 rfl (by kernel_rfl) (by kernel_rfl) (by kernel_rfl) (fun _ _ _ _ h => h) rfl ?_; apply Exists.intro; refine ⟨fun v1 hv1 => ?_, ?_⟩; (· (go_simp; rfl)); simp only [Act.put, List.setIfInBounds_toArray, List.set_cons_zero, List.set_cons_succ]
      refine anyT_val (But.pre _) 17 rfl (by kernel_rfl) (by kernel_rfl) (by kernel_rfl) (fun _ _ _ _ h => h) rfl ?_; apply Exists.intro; refine ⟨fun v1 hv1 => ?_, ?_⟩; (· (go_simp; rfl)); simp only [Act.put, List.setIfInBounds_toArray, List.set_cons_zero, List.set_cons_succ]
      refine anyT_val (But.pre _) 18 rfl (by kernel_rfl) (by kernel_rfl) (by kernel_rfl) (fun _ _ _ _ h => h) rfl ?_; apply Exists.intro; refine ⟨fun v1 hv1 => ?_, ?_⟩; (· (go_simp; rfl)); simp only [Act.put, List.setIfInBounds_toArray, List.set_cons_zero, List.set_cons_succ]
      refine anyT_val (But.pre _) 19 rfl (by kernel_rfl) (by kernel_rfl) (by kernel_rfl) (fun _ _ _ _ h => h) rfl ?_; apply Exists.intro; refine ⟨fun v1 hv1 => ?_, ?_⟩; (· (go_simp; rfl)); simp only [Act.put, List.setIfInBounds_toArray, List.set_cons_zero, List.set_cons_succ]
      refine anyT_val (But.pre _) 20 rfl (by kernel_rfl) (by kernel_rfl) (by kernel_rfl) (fun _ _ _ _ h => h) rfl ?_; apply Exists.intro; refine ⟨fun v1 hv1 => ?_, ?_⟩; (· (go_simp; rfl)); simp only [Act.put, List.setIfInBounds_toArray, List.set_cons_zero, List.set_cons_succ]
      refine anyT_val (But.pre _) 21 rfl (by kernel_rfl) (by kernel_rfl) (by kernel_rfl) (fun _ _ _ _ h => h) rfl ?_; apply Exists.intro; refine ⟨fun v1 hv1 => ?_, ?_⟩; (· (go_simp; rfl)); simp only [Act.put, List.setIfInBounds_toArray, List.set_cons_zero, List.set_cons_succ]
      refine anyT_val (But.pre _) 22 rfl (by kernel_rfl) (by kernel_rfl) (by kernel_rfl) (fun _ _ _ _ h => h) rfl ?_; apply Exists.intro; refine ⟨fun v1 hv1 => ?_, ?_⟩; (· (go_simp; rfl)); simp only [Act.put, List.setIfInBounds_toArray, List.set_cons_zero, List.set_cons_succ]
      refine anyT_val (But.pre _) 23 rfl (by kernel_rfl) (by kernel_rfl) (by kernel_rfl) (fun _ _ _ _ h => h) rfl ?_; apply Exists.intro; refine ⟨fun v1 hv1 => ?_, ?_⟩; (· (go_simp; rfl)); simp only [Act.put, List.setIfInBounds_toArray, List.set_cons_zero, List.set_cons_succ]
      refine anyT_val (But.pre _) 24 rfl (by kernel_rfl) (by kernel_rfl) (by kernel_rfl) (fun _ _ _ _ h => h) rfl ?_; apply Exists.intro; refine ⟨fun v1 hv1 => ?_, ?_⟩; (· (go_simp; rfl)); simp only [Act.put, List.setIfInBounds_toArray, List.set_cons_zero, List.set_cons_succ]
      refine anyT_val (But.pre _) 25 rfl (by kernel_rfl) (by kernel_rfl) (by kernel_rfl) (fun _ _ _ _ h => h) rfl ?_; apply Exists.intro; refine ⟨fun v1 hv1 => ?_, ?_⟩; (· (go_simp; rfl)); simp only [Act.put, List.setIfInBounds_toArray, List.set_cons_zero, List.set_cons_succ]
      refine anyT_val (But.pre _) 26 rfl (by kernel_rfl) (by kernel_rfl) (by kernel_rfl) (fun _ _ _ _ h => h) rfl ?_; apply Exists.intro; refine ⟨fun v1 hv1 => ?_, ?_⟩; (· (go_simp; rfl)); simp only [Act.put, List.setIfInBounds_toArray, List.set_cons_zero, List.set_cons_succ]
      refine anyT_val (But.pre _) 27 rfl (by kernel_rfl) (by kernel_rfl) (by kernel_rfl) (fun _ _ _ _ h => h) rfl ?_; apply Exists.intro; refine ⟨fun v1 hv1 => ?_, ?_⟩; (· (go_simp; rfl)); simp only [Act.put, List.setIfInBounds_toArray, List.set_cons_zero, List.set_cons_succ]
      refine anyT_val (But.pre _) 28 rfl (by kernel_rfl) (by kernel_rfl) (by kernel_rfl) (fun _ _ _ _ h => h) rfl ?_; apply Exists.intro; refine ⟨fun v1 hv1 => ?_, ?_⟩; (· (go_simp; rfl)); simp only [Act.put, List.setIfInBounds_toArray, List.set_cons_zero, List.set_cons_succ]
      refine anyT_val (But.pre _) 29 rfl (by kernel_rfl) (by kernel_rfl) (by kernel_rfl) (fun _ _ _ _ h => h) rfl ?_; apply Exists.intro; refine ⟨fun v1 hv1 => ?_, ?_⟩; (· (go_simp; rfl)); simp only [Act.put, List.setIfInBounds_toArray, List.set_cons_zero, List.set_cons_succ]
      refine anyT_val (But.pre _) 30 rfl (by kernel_rfl) (by kernel_rfl) (by kernel_rfl) (fun _ _ _ _ h => h) rfl ?_; apply Exists.intro; refine ⟨fun v1 hv1 => ?_, ?_⟩; (· (go_simp; rfl)); simp only [Act.put, List.setIfInBounds_toArray, List.set_cons_zero, List.set_cons_succ]
      refine anyT_val (But.pre _) 31 rfl (by kernel_rfl) (by kernel_rfl) (by kernel_rfl) (fun _ _ _ _ h => h) rfl ?_; apply Exists.intro; refine ⟨fun v1 hv1 => ?_, ?_⟩; (· (go_simp; rfl)); simp only [Act.put, List.setIfInBounds_toArray, List.set_cons_zero, List.set_cons_succ]
      refine anyT_val (But.pre _) 32 rfl (by kernel_rfl) (by kernel_rfl) (by kernel_rfl) (fun _ _ _ _ h => h) rfl ?_; apply Exists.intro; refine ⟨fun v1 hv1 => ?_, ?_⟩; (· (go_simp; rfl)); simp only [Act.put, List.setIfInBounds_toArray, List.set_cons_zero, List.set_cons_succ]
      clear c0 c1 c2
      refine anyT_one 16 rfl (by kernel_rfl) rfl ?_
      refine wp_enter 13 #[.pointer (some ⟨b, 0, none⟩), .int .u32 x.s, .int .i64 x.wz, .slice at0 x.zs.length ct0] (by go_simp) ?_
      have hsd := ld0.size
      refine (sadd_any b b va lp x.s x.wz (.slice at0 x.zs.length ct0) x.zs Wd (h1.later ld0) (by omega) (by omega) hxs (by rw [← htv]; exact (HXR.out Wd (Below.mono ld0 (by omega))).mono (by omega))).mono ?_
      rintro e W1 ⟨rfl, q1⟩
      obtain ⟨l1', qq1⟩ := q1.but
      obtain ⟨hB1, b1⟩ := PR.one h1 h2 h3 ld0 qq1
      refine ⟨b1, ?_⟩
      simp only [Act.put, List.setIfInBounds_toArray, List.set_cons_zero, List.set_cons_succ]
      have hs1 := b1.size
      refine anyT_one 33 rfl (by kernel_rfl) rfl ?_
      refine wp_enter 25 #[.pointer (some ⟨rb, 0, none⟩), .int .u32 x.s, .int .i64 x.wz, .slice at0 x.zs.length ct0] (by go_simp) ?_
      have hbl1 : Below n₀ wr W1 := (Below.mono ld0 (by omega)).trans (b1.below (by omega) (fun g hg e => by have := e.1; omega))
      refine (rsadd_any b rb vb ld x.s x.wz (.slice at0 x.zs.length ct0) x.zs W1 hB1 (by omega) (by omega) (by rw [← htv]; exact (HXR.out W1 hbl1).mono (by omega))).mono ?_
      rintro e W2 ⟨rfl, q2⟩
      obtain ⟨l2', qq2⟩ := q2.but
      have b2 : But (Eb b wr.heap.size) W1 W2 := DSq.eb h2 qq2
      refine ⟨b2, ?_⟩
      simp only [Act.put, List.setIfInBounds_toArray, List.set_cons_zero, List.set_cons_succ]
      have HPA := hide (PR.add (t := toT x) h1 h2 hRT h3 ld0 q1 q2 hxs)
      have hre : adS lp x.s x.wz x.zs.length = adD ld x.s x.wz x.zs.length := hRT.rs.ad _ _ _
      rw [hre]
      clear hre
      generalize adD ld x.s x.wz x.zs.length = z at *
      refine anyT_val (But.pre _) 34 rfl (by kernel_rfl) (by kernel_rfl) (by kernel_rfl) (fun _ _ _ _ h => h) rfl ?_; apply Exists.intro; refine ⟨fun v1 hv1 => ?_, ?_⟩; (· (go_simp; rfl)); simp only [Act.put, List.setIfInBounds_toArray, List.set_cons_zero, List.set_cons_succ]
      refine anyT_done (by kernel_rfl) ?_
      have hbw2 : Below b w W2 := hbw.trans ((Below.mono ld0 (by omega)).trans ((b1.trans b2).below (by omega) (fun g hg e => by have := e.1; omega)))
      have HBW := hide hbw2
      clear hbw2
      go_wp2_with fail
      go_roundw
      case rel => exact ⟨k + 1, by omega, by omega, by simp, by rw [HPN.out]; exact HPA.out, HBW.out⟩
      case measure => simp [intOf]; omega
    · have hm : min ds.length 30 = k := by omega
      have HM := hide hm
      have HP := hide hP
      clear hm hP
      rcases (show ¬ k < ds.length ∨ (k < ds.length ∧ ¬ k < 30) by omega) with h | ⟨h, h'⟩
      · have g1' : ¬ (k : Int) < ds.length := by omega
        go_wp2_with fail
        refine bodyPost_ret (v := .tuple #[.pointer (some ⟨b, 0, none⟩), .pointer (some ⟨rb, 0, none⟩), .bool true]) (by simp [results, Try.results9, go_sem]) rfl ?_
        exact ⟨by show Below w.heap.size w _; rw [HB.out]; exact hbw, b, rb, rfl, by rw [HM.out, HB.out]; exact HP.out⟩
      · have g1' : (k : Int) < ds.length := by omega
        have g2' : ¬ (k : Int) < 30 := by omega
        go_wp2_with fail
        refine bodyPost_ret (v := .tuple #[.pointer (some ⟨b, 0, none⟩), .pointer (some ⟨rb, 0, none⟩), .bool true]) (by simp [results, Try.results9, go_sem]) rfl ?_
        exact ⟨by show Below w.heap.size w _; rw [HB.out]; exact hbw, b, rb, rfl, by rw [HM.out, HB.out]; exact HP.out⟩
end Go.Proofs.Ytaaanmjmgnpcgaa

/- The law's near and inside. -/
namespace Go.Proofs.Ytaaanmjmgnpcgaa
open Go.RowKit Go.Shelf
set_option maxRecDepth 100000
set_option linter.unusedVariables false
set_option linter.unusedSimpArgs false

/-- The document's stream alone holds these parts. -/
def DT (base : Nat) (W : World) (b : Nat) (T : List Tx) : Prop := ∃ v ld, DS 71 base W b v ld ∧ ld.map strp = T.map tdp
theorem DT.add {base : Nat} {W W1 : World} {b : Nat} {v : Value} {ld : List Dp} {T : List Tx} {t : Tx} (hs : ld.map strp = T.map tdp) (q : AdD base W W1 b v ld t.s t.wz t.zs) : DT base W1 b (addT T t) := by
  have e2 : adD ld t.s t.wz t.zs.length = adT T t.s t.wz t.zs.length := by unfold adT; rw [← hs, adD_strp]
  unfold AdD at q
  rw [e2] at q
  unfold addT
  rcases q with ⟨h0, v', h, _⟩ | ⟨h0, ta, tc, ⟨v', h, _⟩, _⟩
  · rw [if_neg h0]; exact ⟨v', ld, h, hs⟩
  · rw [if_pos h0]; exact ⟨v', _, h, by rw [List.map_append, List.map_append, hs]; rfl⟩
/-- What near tells. -/
def NrQ (w w' : World) (e : Ending) (P : Prop) : Prop := ∃ r : Bool, e = .returned (.bool r) ∧ Below w.heap.size w w' ∧ (r = true → P)
def InQ (w w' : World) (e : Ending) (P : Prop) : Prop := ∃ r : Bool, e = .returned (.bool r) ∧ Below w.heap.size w w' ∧ (r = false → P)
/-- The first part's start. -/
def hdT (T : List Tx) : Int := (T.head?.map Tx.s).getD 0
def NearP (T : List Tx) (n : Int) : Prop := T ≠ [] → (∀ t ∈ T, 0 ≤ ahd t.s (hdT T) ∧ ahd t.s (hdT T) ≤ 536870912) ∧ -1073741824 < ahd n (hdT T) ∧ ahd n (hdT T) < 1073741824
theorem hdT_snoc {T : List Tx} (t : Tx) (h : T.isEmpty = false) : hdT (T ++ [t]) = hdT T := by 
  cases T with
  | nil => cases h
  | cons a l => rfl
theorem addT_yes {T : List Tx} {t : Tx} (h : adT T t.s t.wz t.zs.length = 0) : addT T t = T ++ [t] := if_pos h
theorem addT_no {T : List Tx} {t : Tx} (h : ¬ adT T t.s t.wz t.zs.length = 0) : addT T t = T := if_neg h

set_option maxHeartbeats 8000000 in
theorem near_any (sv : Value) (ds : List Ap) (n : Int) (w : World) (n₀ : Nat) (hn : n₀ ≤ w.heap.size) (hI : RdA n₀ w sv ds) :
    Calls Try.prog 16 #[sv, .int .u32 n] w fun e w' => NrQ w w' e (NearP (plT ds (min ds.length 30)) n) := by
  obtain ⟨aa, ca, rfl, ha1, ha2⟩ := hI.slice
  have HI := hide hI
  clear hI
  go_enter Try.func16, Try.ntmps16
  go_wp2_with fail
  refine (rsnew_any w).mono ?_
  rintro e w1 ⟨rfl, l1, hT1⟩
  have hPE : DT w.heap.size w1 w.heap.size [] := ⟨_, _, hT1, rfl⟩
  have L1 : Below w.heap.size w w1 := l1
  clear hT1 l1
  generalize hB : w.heap.size = b at *
  have HB := hide hB
  clear hB
  go_wp2_with fail
  go_loopw [5, 6, 8] (fun fi bg i wr => ∃ k : Nat, k ≤ ds.length ∧ k ≤ 30 ∧ fi = .bool (plT ds k).isEmpty ∧ bg = .int .u32 (hdT (plT ds k)) ∧ i = .int .i64 (k : Int) ∧ DT b wr b (plT ds k) ∧ Below b w wr ∧ ∀ t ∈ plT ds k, 0 ≤ ahd t.s (hdT (plT ds k)) ∧ ahd t.s (hdT (plT ds k)) ≤ 536870912) (fun _ _ i _ => 30 - (intOf i).toNat)
  case atStart => exact ⟨0, by omega, by omega, rfl, rfl, rfl, hPE, L1, fun t ht => by simp [plT] at ht⟩
  case round =>
    obtain ⟨k, hk1, hk2, rfl, rfl, rfl, hP, hbw, hnr⟩ := hrel
    have hsz := hbw.size
    have HNR := hide hnr
    clear hnr
    by_cases hgo : k < ds.length ∧ k < 30
    · obtain ⟨g1, g2⟩ := hgo
      have g1' : (k : Int) < ds.length := by omega
      have g2' : (k : Int) < 30 := by omega
      have hRk := HI.out.below (hbw.mono hn)
      obtain ⟨bb, off, cp, e, _, _, hbb, hcs⟩ := hRk.cells (by omega)
      simp at e
      obtain ⟨rfl, rfl⟩ := e
      have d0 := hcs k g1 0 (by omega)
      have d1 := hcs k g1 1 (by omega)
      have d2 := hcs k g1 2 (by omega)
      obtain ⟨hxs, hxw, hxb, hxr⟩ := hRk.2 ds[k] (List.getElem_mem _)
      have HPN := hide (plT_next g1)
      have HLN := hide (plT_len ds k)
      clear hcs hRk
      generalize ds[k] = x at *
      simp only [apc, List.getElem?_cons_zero, List.getElem?_cons_succ, Nat.add_zero] at d0 d1 d2
      obtain ⟨at0, ct0, htv, _, _⟩ := hxr.slice
      rw [htv] at d2
      have HXR := hide (fun W (h : Below n₀ wr W) => (Rd.below h hxr))
      clear hxr
      obtain ⟨vb, ld, h2, hst⟩ := hP
      have hld : ld.length ≤ 8 := by have := congrArg List.length hst; simp at this; rw [this]; exact HLN.out
      have HST := hide hst
      clear hst
      have hnb : n₀ ≤ b := by have := HB.out; omega
      have hbr : b ≤ wr.heap.size := by have := HB.out; omega
      go_upto_region 7 with fail
      refine anyT_begin (R := But (Eb b wr.heap.size)) 18 rfl (by kernel_rfl) ?_
      have ld0 : Later wr wr.drew := Later.drew wr
      have c0 : ∀ v1, But (Eb b wr.heap.size) wr.drew v1 → v1.cell? ⟨bb, off + k * 3, none⟩ = some (.int .u32 x.s) := fun v1 hv => hv.cell (ld0.cell d0) (fun e => by have := e.1; simp at this; omega)
      have c1 : ∀ v1, But (Eb b wr.heap.size) wr.drew v1 → v1.cell? ⟨bb, off + k * 3 + 1, none⟩ = some (.int .i64 x.wz) := fun v1 hv => hv.cell (ld0.cell d1) (fun e => by have := e.1; simp at this; omega)
      have c2 : ∀ v1, But (Eb b wr.heap.size) wr.drew v1 → v1.cell? ⟨bb, off + k * 3 + 2, none⟩ = some (.slice at0 x.zs.length ct0) := fun v1 hv => hv.cell (ld0.cell d2) (fun e => by have := e.1; simp at this; omega)
      generalize wr.drew = Wd at *
      clear d0 d1 d2
      refine anyT_val (But.pre _) 0 rfl (by kernel_rfl) (by kernel_rfl) (by kernel_rfl) (fun _ _ _ _ h => h) rfl ?_; apply Exists.intro; refine ⟨fun v1 hv1 => ?_, ?_⟩; (· (go_simp; rfl)); simp only [Act.put, List.setIfInBounds_toArray, List.set_cons_zero, List.set_cons_succ]
      refine anyT_val (But.pre _) 1 rfl (by kernel_rfl) (by kernel_rfl) (by kernel_rfl) (fun _ _ _ _ h => h) rfl ?_; apply Exists.intro; refine ⟨fun v1 hv1 => ?_, ?_⟩; (· (go_simp; rfl)); simp only [Act.put, List.setIfInBounds_toArray, List.set_cons_zero, List.set_cons_succ]
      refine anyT_val (But.pre _) 2 rfl (by kernel_rfl) (by kernel_rfl) (by kernel_rfl) (fun _ _ _ _ h => h) rfl ?_; apply Exists.intro; refine ⟨fun v1 hv1 => ?_, ?_⟩; (· (go_simp; rfl)); simp only [Act.put, List.setIfInBounds_toArray, List.set_cons_zero, List.set_cons_succ]
      refine anyT_val (But.pre _) 3 rfl (by kernel_rfl) (by kernel_rfl) (by kernel_rfl) (fun _ _ _ _ h => h) rfl ?_; apply Exists.intro; refine ⟨fun v1 hv1 => ?_, ?_⟩; (· (go_simp; rfl)); simp only [Act.put, List.setIfInBounds_toArray, List.set_cons_zero, List.set_cons_succ]
      refine anyT_val (But.pre _) 4 rfl (by kernel_rfl) (by kernel_rfl) (by kernel_rfl) (fun _ _ _ _ h => h) rfl ?_; apply Exists.intro; refine ⟨fun v1 hv1 => ?_, ?_⟩; (· (go_simp; rfl)); simp only [Act.put, List.setIfInBounds_toArray, List.set_cons_zero, List.set_cons_succ]
      refine anyT_val (But.pre _) 5 rfl (by kernel_rfl) (by kernel_rfl) (by kernel_rfl) (fun _ _ _ _ h => h) rfl ?_; apply Exists.intro; refine ⟨fun v1 hv1 => ?_, ?_⟩; (· (go_simp; rfl)); simp only [Act.put, List.setIfInBounds_toArray, List.set_cons_zero, List.set_cons_succ]
      refine anyT_val (But.pre _) 6 rfl (by kernel_rfl) (by kernel_rfl) (by kernel_rfl) (fun _ _ _ _ h => h) rfl ?_; apply Exists.intro; refine ⟨fun v1 hv1 => ?_, ?_⟩; (· (go_simp; rfl)); simp only [Act.put, List.setIfInBounds_toArray, List.set_cons_zero, List.set_cons_succ]
      refine anyT_val (But.pre _) 7 rfl (by kernel_rfl) (by kernel_rfl) (by kernel_rfl) (fun _ _ _ _ h => h) rfl ?_; apply Exists.intro; refine ⟨fun v1 hv1 => ?_, ?_⟩; (· (go_simp; rfl)); simp only [Act.put, List.setIfInBounds_toArray, List.set_cons_zero, List.set_cons_succ]
      refine anyT_val (But.pre _) 8 rfl (by kernel_rfl) (by kernel_rfl) (by kernel_rfl) (fun _ _ _ _ h => h) rfl ?_; apply Exists.intro; refine ⟨fun v1 hv1 => ?_, ?_⟩; (· (go_simp; rfl)); simp only [Act.put, List.setIfInBounds_toArray, List.set_cons_zero, List.set_cons_succ]
      refine anyT_val (But.pre _) 9 rfl (by kernel_rfl) (by kernel_rfl) (by kernel_rfl) (fun _ _ _ _ h => h) rfl ?_; apply Exists.intro; refine ⟨fun v1 hv1 => ?_, ?_⟩; (· (go_simp; rfl)); simp only [Act.put, List.setIfInBounds_toArray, List.set_cons_zero, List.set_cons_succ]
      refine anyT_val (But.pre _) 10 rfl (by kernel_rfl) (by kernel_rfl) (by kernel_rfl) (fun _ _ _ _ h => h) rfl ?_; apply Exists.intro; refine ⟨fun v1 hv1 => ?_, ?_⟩; (· (go_simp; rfl)); simp only [Act.put, List.setIfInBounds_toArray, List.set_cons_zero, List.set_cons_succ]
      refine anyT_val (But.pre _) 11 rfl (by kernel_rfl) (by kernel_rfl) (by kernel_rfl) (fun _ _ _ _ h => h) rfl ?_; apply Exists.intro; refine ⟨fun v1 hv1 => ?_, ?_⟩; (· (go_simp; rfl)); simp only [Act.put, List.setIfInBounds_toArray, List.set_cons_zero, List.set_cons_succ]
      refine anyT_val (But.pre _) 12 rfl (by kernel_rfl) (by kernel_rfl) (by kernel_rfl) (fun _ _ _ _ h => h) rfl ?_; apply Exists.intro; refine ⟨fun v1 hv1 => ?_, ?_⟩; (· (go_simp; rfl)); simp only [Act.put, List.setIfInBounds_toArray, List.set_cons_zero, List.set_cons_succ]
      refine anyT_val (But.pre _) 13 rfl (by kernel_rfl) (by kernel_rfl) (by kernel_rfl) (fun _ _ _ _ h => h) rfl ?_; apply Exists.intro; refine ⟨fun v1 hv1 => ?_, ?_⟩; (· (go_simp; rfl)); simp only [Act.put, List.setIfInBounds_toArray, List.set_cons_zero, List.set_cons_succ]
      refine anyT_val (But.pre _) 14 rfl (by kernel_rfl) (by kernel_rfl) (by kernel_rfl) (fun _ _ _ _ h => h) rfl ?_; apply Exists.intro; refine ⟨fun v1 hv1 => ?_, ?_⟩; (· (go_simp; rfl)); simp only [Act.put, List.setIfInBounds_toArray, List.set_cons_zero, List.set_cons_succ]
      refine anyT_val (But.pre _) 15 rfl (by kernel_rfl) (by kernel_rfl) (by kernel_rfl) (fun _ _ _ _ h => h) rfl ?_; apply Exists.intro; refine ⟨fun v1 hv1 => ?_, ?_⟩; (· (go_simp; rfl)); simp only [Act.put, List.setIfInBounds_toArray, List.set_cons_zero, List.set_cons_succ]
      refine anyT_one 16 rfl (by kernel_rfl) rfl ?_
      refine wp_enter 25 #[.pointer (some ⟨b, 0, none⟩), .int .u32 x.s, .int .i64 x.wz, .slice at0 x.zs.length ct0] (by go_simp) ?_
      have hsd := ld0.size
      refine (rsadd_any b b vb ld x.s x.wz (.slice at0 x.zs.length ct0) x.zs Wd (h2.later ld0) (by omega) (by omega) (by rw [← htv]; exact (HXR.out Wd (Below.mono ld0 (by omega))).mono (by omega))).mono ?_
      rintro e W2 ⟨rfl, q2⟩
      obtain ⟨l2', qq2⟩ := q2.but
      have b2 : But (Eb b wr.heap.size) Wd W2 := DSq.eb h2 qq2
      refine ⟨b2, ?_⟩
      simp only [Act.put, List.setIfInBounds_toArray, List.set_cons_zero, List.set_cons_succ]
      have e0 := c0 W2 b2
      have e1 := c1 W2 b2
      clear c0 c1 c2
      have hd2 := DT.add (t := toT x) HST.out q2
      have HAZ := hide (show adD ld x.s x.wz x.zs.length = adT (plT ds k) (toT x).s (toT x).wz (toT x).zs.length by unfold adT; rw [← HST.out, adD_strp]; rfl)
      have HD2 := hide hd2
      clear hd2 q2 qq2
      have hbw2 : Below b w W2 := hbw.trans ((Below.mono ld0 (by omega)).trans (b2.below (by omega) (fun g hg e => by have := e.1; omega)))
      have HBW := hide hbw2
      clear hbw2
      generalize adD ld x.s x.wz x.zs.length = z at *
      by_cases hz : z = 0
      · have HAT := hide (addT_yes (HAZ.out.symm.trans hz))
        subst hz
        refine anyT_val (But.pre _) 17 rfl (by kernel_rfl) (by kernel_rfl) (by kernel_rfl) (fun _ _ _ _ h => h) rfl ?_; apply Exists.intro; refine ⟨fun v1 hv1 => ?_, ?_⟩; (· (go_simp; rfl)); simp only [Act.put, List.setIfInBounds_toArray, List.set_cons_zero, List.set_cons_succ]
        refine anyT_done (by kernel_rfl) ?_
        cases hem : (plT ds k).isEmpty with
        | true =>
          have HHD : Hid (hdT (plT ds k ++ [toT x]) = x.s) := by show _ = _; rw [List.isEmpty_iff.1 hem]; rfl
          have HNEW : Hid (∀ t ∈ plT ds k, 0 ≤ ahd t.s x.s ∧ ahd t.s x.s ≤ 536870912) := by show ∀ t ∈ _, _; rw [List.isEmpty_iff.1 hem]; intro t ht; cases ht
          have HAH := hide (fun W => rahead_any x.s x.s W)
          generalize hdd : ahd x.s x.s = dd at *
          have HDD : Hid (dd = ahd (toT x).s x.s) := hdd.symm
          clear hdd hem
          go_wp2_with fail
          refine (HAH.out W2).mono ?_
          rintro e w5 ⟨rfl, rfl⟩
          by_cases hd1 : dd < 0
          · go_wp2_with fail
            refine bodyPost_ret (v := .bool false) (by first | (simp [results, Try.results16, go_sem]; done) | (simp [results, Try.results16, go_sem]; omega)) rfl ?_
            exact ⟨false, rfl, by rw [HB.out]; exact HBW.out, fun h => by cases h⟩
          · by_cases hd3 : 536870912 < dd
            · go_wp2_with fail
              refine bodyPost_ret (v := .bool false) (by first | (simp [results, Try.results16, go_sem]; done) | (simp [results, Try.results16, go_sem]; omega)) rfl ?_
              exact ⟨false, rfl, by rw [HB.out]; exact HBW.out, fun h => by cases h⟩
            · go_wp2_with fail
              go_roundw
              case rel =>
                refine ⟨k + 1, by omega, by omega, ?_, ?_, by simp, ?_, HBW.out, ?_⟩
                · rw [HPN.out, HAT.out, snoc_ne]
                · rw [HPN.out, HAT.out, HHD.out]
                · rw [HPN.out]; exact HD2.out
                · rw [HPN.out, HAT.out, HHD.out]
                  intro t ht
                  rcases List.mem_append.1 ht with h | h
                  · exact HNEW.out t h
                  · obtain rfl : t = toT x := by simpa using h
                    rw [← HDD.out]
                    omega
              case measure => simp [intOf]; omega
        | false =>
          have HHD := hide (hdT_snoc (toT x) hem)
          have HNEW := hide HNR.out
          have HAH := hide (fun W => rahead_any x.s (hdT (plT ds k)) W)
          generalize hdd : ahd x.s (hdT (plT ds k)) = dd at *
          have HDD : Hid (dd = ahd (toT x).s (hdT (plT ds k))) := hdd.symm
          clear hdd hem
          generalize hdT (plT ds k) = hq at *
          go_wp2_with fail
          refine (HAH.out W2).mono ?_
          rintro e w5 ⟨rfl, rfl⟩
          by_cases hd1 : dd < 0
          · go_wp2_with fail
            refine bodyPost_ret (v := .bool false) (by first | (simp [results, Try.results16, go_sem]; done) | (simp [results, Try.results16, go_sem]; omega)) rfl ?_
            exact ⟨false, rfl, by rw [HB.out]; exact HBW.out, fun h => by cases h⟩
          · by_cases hd3 : 536870912 < dd
            · go_wp2_with fail
              refine bodyPost_ret (v := .bool false) (by first | (simp [results, Try.results16, go_sem]; done) | (simp [results, Try.results16, go_sem]; omega)) rfl ?_
              exact ⟨false, rfl, by rw [HB.out]; exact HBW.out, fun h => by cases h⟩
            · go_wp2_with fail
              go_roundw
              case rel =>
                refine ⟨k + 1, by omega, by omega, ?_, ?_, by simp, ?_, HBW.out, ?_⟩
                · rw [HPN.out, HAT.out, snoc_ne]
                · rw [HPN.out, HAT.out, HHD.out]
                · rw [HPN.out]; exact HD2.out
                · rw [HPN.out, HAT.out, HHD.out]
                  intro t ht
                  rcases List.mem_append.1 ht with h | h
                  · exact HNEW.out t h
                  · obtain rfl : t = toT x := by simpa using h
                    rw [← HDD.out]
                    omega
              case measure => simp [intOf]; omega
      · have HAT := hide (addT_no (fun h => hz (HAZ.out.trans h)))
        have hzb : (z == 0) = false := by simpa using hz
        refine anyT_val (But.pre _) 17 rfl (by kernel_rfl) (by kernel_rfl) (by kernel_rfl) (fun _ _ _ _ h => h) rfl ?_; apply Exists.intro; refine ⟨fun v1 hv1 => ?_, ?_⟩; (· (go_simp; rfl)); simp only [Act.put, List.setIfInBounds_toArray, List.set_cons_zero, List.set_cons_succ]
        refine anyT_done (by kernel_rfl) ?_
        generalize hq1 : hdT (plT ds k) = hq at *
        generalize hq2 : (plT ds k).isEmpty = he at *
        have HQ1 := hide hq1
        have HQ2 := hide hq2
        clear hq1 hq2
        go_wp2_with fail
        go_roundw
        case rel =>
          refine ⟨k + 1, by omega, by omega, ?_, ?_, by simp, ?_, HBW.out, ?_⟩
          · rw [HPN.out, HAT.out, HQ2.out]
          · rw [HPN.out, HAT.out, HQ1.out]
          · rw [HPN.out]; exact HD2.out
          · rw [HPN.out, HAT.out, HQ1.out]; exact HNR.out
        case measure => simp [intOf]; omega
    · have hm : min ds.length 30 = k := by omega
      have HM := hide hm
      clear hm
      have HAH := hide (fun W => rahead_any n (hdT (plT ds k)) W)
      have HNP : Hid (∀ dd, dd = ahd n (hdT (plT ds k)) → -1073741824 < dd → dd < 1073741824 → NearP (plT ds k) n) := fun dd h h1 h2 _ => ⟨HNR.out, by rw [← h]; exact ⟨h1, h2⟩⟩
      have HEM : Hid ((plT ds k).isEmpty = true → NearP (plT ds k) n) := fun h hne => absurd (List.isEmpty_iff.1 h) hne
      generalize hdd : ahd n (hdT (plT ds k)) = dd at *
      generalize hdT (plT ds k) = hq at *
      generalize hhe : (plT ds k).isEmpty = he at *
      have HHE := hide hhe
      clear hhe hdd
      have hor : ¬ k < ds.length ∨ (k < ds.length ∧ ¬ k < 30) := by omega
      rcases hor with h | ⟨h, h'⟩
      case' inl =>
        have g1' : ¬ (k : Int) < ds.length := by omega
      case' inr =>
        have g1' : (k : Int) < ds.length := by omega
        have g2' : ¬ (k : Int) < 30 := by omega
      all_goals
        go_wp2_with fail
        refine (HAH.out _).mono ?_
        rintro e w5 ⟨rfl, rfl⟩
        cases he with
        | true =>
          go_wp2_with fail
          refine bodyPost_ret (v := .bool true) (by first | (simp [results, Try.results16, go_sem]; done) | (simp [results, Try.results16, go_sem]; omega)) rfl ?_
          exact ⟨true, rfl, by rw [HB.out]; exact hbw, fun _ => by rw [HM.out]; exact HEM.out trivial⟩
        | false =>
          by_cases q1 : -1073741824 < dd
          · by_cases q2 : dd < 1073741824
            · go_wp2_with fail
              refine bodyPost_ret (v := .bool true) (by first | (simp [results, Try.results16, go_sem]; done) | (simp [results, Try.results16, go_sem]; omega)) rfl ?_
              exact ⟨true, rfl, by rw [HB.out]; exact hbw, fun _ => by rw [HM.out]; exact HNP.out dd rfl q1 q2⟩
            · go_wp2_with fail
              refine bodyPost_ret (v := .bool false) (by first | (simp [results, Try.results16, go_sem]; done) | (simp [results, Try.results16, go_sem]; omega)) rfl ?_
              exact ⟨false, rfl, by rw [HB.out]; exact hbw, fun h => by cases h⟩
          · go_wp2_with fail
            refine bodyPost_ret (v := .bool false) (by first | (simp [results, Try.results16, go_sem]; done) | (simp [results, Try.results16, go_sem]; omega)) rfl ?_
            exact ⟨false, rfl, by rw [HB.out]; exact hbw, fun h => by cases h⟩
end Go.Proofs.Ytaaanmjmgnpcgaa

/- The law's inside. -/
namespace Go.Proofs.Ytaaanmjmgnpcgaa
open Go.RowKit Go.Shelf
set_option maxRecDepth 100000
set_option linter.unusedVariables false
set_option linter.unusedSimpArgs false

def OutP (T : List Tx) (n : Int) : Prop := ∀ t ∈ T, ¬ (0 < ahd n t.s ∧ ahd n t.s < t.wz)

set_option maxHeartbeats 8000000 in
theorem inside_any (sv : Value) (ds : List Ap) (n : Int) (w : World) (n₀ : Nat) (hn : n₀ ≤ w.heap.size) (hI : RdA n₀ w sv ds) :
    Calls Try.prog 17 #[sv, .int .u32 n] w fun e w' => InQ w w' e (OutP (plT ds (min ds.length 30)) n) := by
  obtain ⟨aa, ca, rfl, ha1, ha2⟩ := hI.slice
  have HI := hide hI
  clear hI
  go_enter Try.func17, Try.ntmps17
  go_wp2_with fail
  refine (rsnew_any w).mono ?_
  rintro e w1 ⟨rfl, l1, hT1⟩
  have hPE : DT w.heap.size w1 w.heap.size [] := ⟨_, _, hT1, rfl⟩
  have L1 : Below w.heap.size w w1 := l1
  clear hT1 l1
  generalize hB : w.heap.size = b at *
  have HB := hide hB
  clear hB
  go_wp2_with fail
  go_loopw [6] (fun i wr => ∃ k : Nat, k ≤ ds.length ∧ k ≤ 30 ∧ i = .int .i64 (k : Int) ∧ DT b wr b (plT ds k) ∧ Below b w wr ∧ OutP (plT ds k) n) (fun i _ => 30 - (intOf i).toNat)
  case atStart => exact ⟨0, by omega, by omega, rfl, hPE, L1, fun t ht => by simp [plT] at ht⟩
  case round =>
    obtain ⟨k, hk1, hk2, rfl, hP, hbw, hnr⟩ := hrel
    have hsz := hbw.size
    have HNR := hide hnr
    clear hnr
    by_cases hgo : k < ds.length ∧ k < 30
    · obtain ⟨g1, g2⟩ := hgo
      have g1' : (k : Int) < ds.length := by omega
      have g2' : (k : Int) < 30 := by omega
      have hRk := HI.out.below (hbw.mono hn)
      obtain ⟨bb, off, cp, e, _, _, hbb, hcs⟩ := hRk.cells (by omega)
      simp at e
      obtain ⟨rfl, rfl⟩ := e
      have d0 := hcs k g1 0 (by omega)
      have d1 := hcs k g1 1 (by omega)
      have d2 := hcs k g1 2 (by omega)
      obtain ⟨hxs, hxw, hxb, hxr⟩ := hRk.2 ds[k] (List.getElem_mem _)
      have HPN := hide (plT_next g1)
      have HLN := hide (plT_len ds k)
      clear hcs hRk
      generalize ds[k] = x at *
      simp only [apc, List.getElem?_cons_zero, List.getElem?_cons_succ, Nat.add_zero] at d0 d1 d2
      obtain ⟨at0, ct0, htv, _, _⟩ := hxr.slice
      rw [htv] at d2
      have HXR := hide (fun W (h : Below n₀ wr W) => (Rd.below h hxr))
      clear hxr
      obtain ⟨vb, ld, h2, hst⟩ := hP
      have hld : ld.length ≤ 8 := by have := congrArg List.length hst; simp at this; rw [this]; exact HLN.out
      have HST := hide hst
      clear hst
      have hnb : n₀ ≤ b := by have := HB.out; omega
      have hbr : b ≤ wr.heap.size := by have := HB.out; omega
      go_upto_region 5 with fail
      refine anyT_begin (R := But (Eb b wr.heap.size)) 18 rfl (by kernel_rfl) ?_
      have ld0 : Later wr wr.drew := Later.drew wr
      have c0 : ∀ v1, But (Eb b wr.heap.size) wr.drew v1 → v1.cell? ⟨bb, off + k * 3, none⟩ = some (.int .u32 x.s) := fun v1 hv => hv.cell (ld0.cell d0) (fun e => by have := e.1; simp at this; omega)
      have c1 : ∀ v1, But (Eb b wr.heap.size) wr.drew v1 → v1.cell? ⟨bb, off + k * 3 + 1, none⟩ = some (.int .i64 x.wz) := fun v1 hv => hv.cell (ld0.cell d1) (fun e => by have := e.1; simp at this; omega)
      have c2 : ∀ v1, But (Eb b wr.heap.size) wr.drew v1 → v1.cell? ⟨bb, off + k * 3 + 2, none⟩ = some (.slice at0 x.zs.length ct0) := fun v1 hv => hv.cell (ld0.cell d2) (fun e => by have := e.1; simp at this; omega)
      generalize wr.drew = Wd at *
      clear d0 d1 d2
      refine anyT_val (But.pre _) 0 rfl (by kernel_rfl) (by kernel_rfl) (by kernel_rfl) (fun _ _ _ _ h => h) rfl ?_; apply Exists.intro; refine ⟨fun v1 hv1 => ?_, ?_⟩; (· (go_simp; rfl)); simp only [Act.put, List.setIfInBounds_toArray, List.set_cons_zero, List.set_cons_succ]
      refine anyT_val (But.pre _) 1 rfl (by kernel_rfl) (by kernel_rfl) (by kernel_rfl) (fun _ _ _ _ h => h) rfl ?_; apply Exists.intro; refine ⟨fun v1 hv1 => ?_, ?_⟩; (· (go_simp; rfl)); simp only [Act.put, List.setIfInBounds_toArray, List.set_cons_zero, List.set_cons_succ]
      refine anyT_val (But.pre _) 2 rfl (by kernel_rfl) (by kernel_rfl) (by kernel_rfl) (fun _ _ _ _ h => h) rfl ?_; apply Exists.intro; refine ⟨fun v1 hv1 => ?_, ?_⟩; (· (go_simp; rfl)); simp only [Act.put, List.setIfInBounds_toArray, List.set_cons_zero, List.set_cons_succ]
      refine anyT_val (But.pre _) 3 rfl (by kernel_rfl) (by kernel_rfl) (by kernel_rfl) (fun _ _ _ _ h => h) rfl ?_; apply Exists.intro; refine ⟨fun v1 hv1 => ?_, ?_⟩; (· (go_simp; rfl)); simp only [Act.put, List.setIfInBounds_toArray, List.set_cons_zero, List.set_cons_succ]
      refine anyT_val (But.pre _) 4 rfl (by kernel_rfl) (by kernel_rfl) (by kernel_rfl) (fun _ _ _ _ h => h) rfl ?_; apply Exists.intro; refine ⟨fun v1 hv1 => ?_, ?_⟩; (· (go_simp; rfl)); simp only [Act.put, List.setIfInBounds_toArray, List.set_cons_zero, List.set_cons_succ]
      refine anyT_val (But.pre _) 5 rfl (by kernel_rfl) (by kernel_rfl) (by kernel_rfl) (fun _ _ _ _ h => h) rfl ?_; apply Exists.intro; refine ⟨fun v1 hv1 => ?_, ?_⟩; (· (go_simp; rfl)); simp only [Act.put, List.setIfInBounds_toArray, List.set_cons_zero, List.set_cons_succ]
      refine anyT_val (But.pre _) 6 rfl (by kernel_rfl) (by kernel_rfl) (by kernel_rfl) (fun _ _ _ _ h => h) rfl ?_; apply Exists.intro; refine ⟨fun v1 hv1 => ?_, ?_⟩; (· (go_simp; rfl)); simp only [Act.put, List.setIfInBounds_toArray, List.set_cons_zero, List.set_cons_succ]
      refine anyT_val (But.pre _) 7 rfl (by kernel_rfl) (by kernel_rfl) (by kernel_rfl) (fun _ _ _ _ h => h) rfl ?_; apply Exists.intro; refine ⟨fun v1 hv1 => ?_, ?_⟩; (· (go_simp; rfl)); simp only [Act.put, List.setIfInBounds_toArray, List.set_cons_zero, List.set_cons_succ]
      refine anyT_val (But.pre _) 8 rfl (by kernel_rfl) (by kernel_rfl) (by kernel_rfl) (fun _ _ _ _ h => h) rfl ?_; apply Exists.intro; refine ⟨fun v1 hv1 => ?_, ?_⟩; (· (go_simp; rfl)); simp only [Act.put, List.setIfInBounds_toArray, List.set_cons_zero, List.set_cons_succ]
      refine anyT_val (But.pre _) 9 rfl (by kernel_rfl) (by kernel_rfl) (by kernel_rfl) (fun _ _ _ _ h => h) rfl ?_; apply Exists.intro; refine ⟨fun v1 hv1 => ?_, ?_⟩; (· (go_simp; rfl)); simp only [Act.put, List.setIfInBounds_toArray, List.set_cons_zero, List.set_cons_succ]
      refine anyT_val (But.pre _) 10 rfl (by kernel_rfl) (by kernel_rfl) (by kernel_rfl) (fun _ _ _ _ h => h) rfl ?_; apply Exists.intro; refine ⟨fun v1 hv1 => ?_, ?_⟩; (· (go_simp; rfl)); simp only [Act.put, List.setIfInBounds_toArray, List.set_cons_zero, List.set_cons_succ]
      refine anyT_val (But.pre _) 11 rfl (by kernel_rfl) (by kernel_rfl) (by kernel_rfl) (fun _ _ _ _ h => h) rfl ?_; apply Exists.intro; refine ⟨fun v1 hv1 => ?_, ?_⟩; (· (go_simp; rfl)); simp only [Act.put, List.setIfInBounds_toArray, List.set_cons_zero, List.set_cons_succ]
      refine anyT_val (But.pre _) 12 rfl (by kernel_rfl) (by kernel_rfl) (by kernel_rfl) (fun _ _ _ _ h => h) rfl ?_; apply Exists.intro; refine ⟨fun v1 hv1 => ?_, ?_⟩; (· (go_simp; rfl)); simp only [Act.put, List.setIfInBounds_toArray, List.set_cons_zero, List.set_cons_succ]
      refine anyT_val (But.pre _) 13 rfl (by kernel_rfl) (by kernel_rfl) (by kernel_rfl) (fun _ _ _ _ h => h) rfl ?_; apply Exists.intro; refine ⟨fun v1 hv1 => ?_, ?_⟩; (· (go_simp; rfl)); simp only [Act.put, List.setIfInBounds_toArray, List.set_cons_zero, List.set_cons_succ]
      refine anyT_val (But.pre _) 14 rfl (by kernel_rfl) (by kernel_rfl) (by kernel_rfl) (fun _ _ _ _ h => h) rfl ?_; apply Exists.intro; refine ⟨fun v1 hv1 => ?_, ?_⟩; (· (go_simp; rfl)); simp only [Act.put, List.setIfInBounds_toArray, List.set_cons_zero, List.set_cons_succ]
      refine anyT_val (But.pre _) 15 rfl (by kernel_rfl) (by kernel_rfl) (by kernel_rfl) (fun _ _ _ _ h => h) rfl ?_; apply Exists.intro; refine ⟨fun v1 hv1 => ?_, ?_⟩; (· (go_simp; rfl)); simp only [Act.put, List.setIfInBounds_toArray, List.set_cons_zero, List.set_cons_succ]
      refine anyT_one 16 rfl (by kernel_rfl) rfl ?_
      refine wp_enter 25 #[.pointer (some ⟨b, 0, none⟩), .int .u32 x.s, .int .i64 x.wz, .slice at0 x.zs.length ct0] (by go_simp) ?_
      have hsd := ld0.size
      refine (rsadd_any b b vb ld x.s x.wz (.slice at0 x.zs.length ct0) x.zs Wd (h2.later ld0) (by omega) (by omega) (by rw [← htv]; exact (HXR.out Wd (Below.mono ld0 (by omega))).mono (by omega))).mono ?_
      rintro e W2 ⟨rfl, q2⟩
      obtain ⟨l2', qq2⟩ := q2.but
      have b2 : But (Eb b wr.heap.size) Wd W2 := DSq.eb h2 qq2
      refine ⟨b2, ?_⟩
      simp only [Act.put, List.setIfInBounds_toArray, List.set_cons_zero, List.set_cons_succ]
      have e0 := c0 W2 b2
      have e1 := c1 W2 b2
      clear c0 c1 c2
      have hd2 := DT.add (t := toT x) HST.out q2
      have HAZ := hide (show adD ld x.s x.wz x.zs.length = adT (plT ds k) (toT x).s (toT x).wz (toT x).zs.length by unfold adT; rw [← HST.out, adD_strp]; rfl)
      have HD2 := hide hd2
      clear hd2 q2 qq2
      have hbw2 : Below b w W2 := hbw.trans ((Below.mono ld0 (by omega)).trans (b2.below (by omega) (fun g hg e => by have := e.1; omega)))
      have HBW := hide hbw2
      clear hbw2
      generalize adD ld x.s x.wz x.zs.length = z at *
      by_cases hz : z = 0
      · have HAT := hide (addT_yes (HAZ.out.symm.trans hz))
        subst hz
        refine anyT_val (But.pre _) 17 rfl (by kernel_rfl) (by kernel_rfl) (by kernel_rfl) (fun _ _ _ _ h => h) rfl ?_; apply Exists.intro; refine ⟨fun v1 hv1 => ?_, ?_⟩; (· (go_simp; rfl)); simp only [Act.put, List.setIfInBounds_toArray, List.set_cons_zero, List.set_cons_succ]
        refine anyT_done (by kernel_rfl) ?_
        have HAH := hide (fun W => rahead_any n x.s W)
        generalize hdd : ahd n x.s = dd at *
        have HDD : Hid (dd = ahd n (toT x).s) := hdd.symm
        clear hdd
        go_wp2_with fail
        refine (HAH.out W2).mono ?_
        rintro e w5 ⟨rfl, rfl⟩
        by_cases hd1 : 0 < dd
        · by_cases hd3 : dd < x.wz
          · go_wp2_with fail
            refine bodyPost_ret (v := .bool true) (by simp [results, Try.results17, go_sem]) rfl ?_
            exact ⟨true, rfl, by rw [HB.out]; exact HBW.out, fun h => by cases h⟩
          · go_wp2_with fail
            go_roundw
            case rel =>
              refine ⟨k + 1, by omega, by omega, by simp, by rw [HPN.out]; exact HD2.out, HBW.out, ?_⟩
              rw [HPN.out, HAT.out]
              intro t ht
              rcases List.mem_append.1 ht with h | h
              · exact HNR.out t h
              · obtain rfl : t = toT x := by simpa using h
                rw [← HDD.out]
                exact fun h => by have h2 : dd < x.wz := h.2; omega
            case measure => simp [intOf]; omega
        · go_wp2_with fail
          go_roundw
          case rel =>
            refine ⟨k + 1, by omega, by omega, by simp, by rw [HPN.out]; exact HD2.out, HBW.out, ?_⟩
            rw [HPN.out, HAT.out]
            intro t ht
            rcases List.mem_append.1 ht with h | h
            · exact HNR.out t h
            · obtain rfl : t = toT x := by simpa using h
              rw [← HDD.out]
              exact fun h => by have h2 := h.1; omega
          case measure => simp [intOf]; omega
      · have HAT := hide (addT_no (fun h => hz (HAZ.out.trans h)))
        have hzb : (z == 0) = false := by simpa using hz
        refine anyT_val (But.pre _) 17 rfl (by kernel_rfl) (by kernel_rfl) (by kernel_rfl) (fun _ _ _ _ h => h) rfl ?_; apply Exists.intro; refine ⟨fun v1 hv1 => ?_, ?_⟩; (· (go_simp; rfl)); simp only [Act.put, List.setIfInBounds_toArray, List.set_cons_zero, List.set_cons_succ]
        refine anyT_done (by kernel_rfl) ?_
        go_wp2_with fail
        go_roundw
        case rel =>
          refine ⟨k + 1, by omega, by omega, by simp, by rw [HPN.out]; exact HD2.out, HBW.out, ?_⟩
          rw [HPN.out, HAT.out]
          exact HNR.out
        case measure => simp [intOf]; omega
    · have hm : min ds.length 30 = k := by omega
      have HM := hide hm
      clear hm
      have hor : ¬ k < ds.length ∨ (k < ds.length ∧ ¬ k < 30) := by omega
      rcases hor with h | ⟨h, h'⟩
      case' inl =>
        have g1' : ¬ (k : Int) < ds.length := by omega
      case' inr =>
        have g1' : (k : Int) < ds.length := by omega
        have g2' : ¬ (k : Int) < 30 := by omega
      all_goals
        go_wp2_with fail
        refine bodyPost_ret (v := .bool false) (by simp [results, Try.results17, go_sem]) rfl ?_
        exact ⟨false, rfl, by rw [HB.out]; exact hbw, fun _ => by rw [HM.out]; exact HNR.out⟩
end Go.Proofs.Ytaaanmjmgnpcgaa

/- What numbers map to, by how far they are from the first part. -/
namespace Go.Proofs.Ytaaanmjmgnpcgaa
open Go.RowKit Go.Shelf
set_option maxRecDepth 100000
set_option linter.unusedVariables false
set_option linter.unusedSimpArgs false

theorem ahd_mod (x y : Int) : (x - y - ahd x y) % 4294967296 = 0 := by unfold ahd; split <;> omega
theorem ahd_lo (x y : Int) : -2147483648 ≤ ahd x y ∧ ahd x y < 2147483648 := by unfold ahd; split <;> omega
/-- Parts one behind the other, by how far they are from h: e where the last one ends, D all differences. -/
inductive Ch (h : Int) : List Tx → Int → Int → Prop
  | nil : Ch h [] 0 0
  | add {T : List Tx} {e D : Int} (c : Ch h T e D) (t : Tx) (o : Int) (hs : 0 ≤ t.s ∧ t.s ≤ 4294967295) (hm : (t.s - h - o) % 4294967296 = 0) (he : e ≤ o) (ho : 0 ≤ o ∧ o ≤ 536870912) (hw : 1 ≤ t.wz ∧ t.wz ≤ 128) (hn : 1 ≤ (t.zs.length : Int) ∧ (t.zs.length : Int) ≤ 128) : Ch h (T ++ [t]) (o + t.wz) (D + ((t.zs.length : Int) - t.wz))
theorem Ch.bnd {h : Int} {T : List Tx} {e D : Int} (c : Ch h T e D) : 0 ≤ e ∧ e ≤ 536871040 ∧ -(128 * (T.length : Int)) ≤ D ∧ D ≤ 128 * (T.length : Int) := by
  induction c with
  | nil => simp
  | add c t o hs hm he ho hw hn ih =>
    rw [List.length_append, List.length_singleton]
    rw [Int.natCast_add]
    omega
theorem Ch.dfz {h : Int} {T : List Tx} {e D : Int} (c : Ch h T e D) : dfz (T.map tdp) T.length = D % 4294967296 := by
  induction c with
  | nil => rfl
  | @add T e D c t o hs hm he ho hw hn ih =>
    have := dfz_snoc (T.map tdp) (tdp t)
    rw [List.length_append, List.length_map] at this
    rw [List.map_append, List.length_append]
    show Go.Proofs.Ytaaanmjmgnpcgaa.dfz (T.map tdp ++ [tdp t]) (T.length + 1) = _
    simp only [List.length_singleton] at this
    rw [this, ih]
    show (D % 4294967296 + ((t.zs.length : Int) - t.wz)) % 4294967296 = _
    omega
theorem Ch.fin {h : Int} {T : List Tx} {e D : Int} (c : Ch h T e D) (hne : T ≠ []) : (dend ((T.map tdp).getLast?.getD zDp) - h - e) % 4294967296 = 0 := by
  cases c with
  | nil => exact absurd rfl hne
  | add c t o hs hm he ho hw hn =>
    rw [List.map_append]
    show (dend ((List.map tdp _ ++ [tdp t]).getLast?.getD zDp) - h - _) % 4294967296 = 0
    rw [List.getLast?_concat]
    show ((t.s + t.wz) % 4294967296 - h - (o + t.wz)) % 4294967296 = 0
    omega
theorem mpT_snoc (T : List Tx) (t : Tx) (n : Int) : mpT (T ++ [t]) n = if bhd t.s n then mpT T n else if bhd ((t.s + t.wz) % 4294967296) n then (t.s + dfz (T.map tdp) T.length) % 4294967296 else (n + (dfz (T.map tdp) T.length + ((t.zs.length : Int) - t.wz)) % 4294967296) % 4294967296 := by
  unfold mpT
  have := dmp_snoc (T.map tdp) (tdp t) n
  rw [List.length_map] at this
  rw [List.map_append, List.length_append, List.length_singleton]
  exact this
theorem umT_snoc (T : List Tx) (t : Tx) (n : Int) : umT (T ++ [t]) n = if bhd ((t.s + dfz (T.map tdp) T.length) % 4294967296) n then umT T n else if bhd (((t.s + dfz (T.map tdp) T.length) % 4294967296 + (t.zs.length : Int)) % 4294967296) n then t.s else (n - (dfz (T.map tdp) T.length + ((t.zs.length : Int) - t.wz)) % 4294967296) % 4294967296 := by
  unfold umT
  have := dum_snoc (T.map tdp) (tdp t) n
  rw [List.length_map] at this
  rw [List.map_append, List.length_append, List.length_singleton]
  exact this
/-- Not strictly within a part. -/
def offP (h : Int) (T : List Tx) (x : Int) : Prop := ∀ t ∈ T, ∀ o, (t.s - h - o) % 4294967296 = 0 → 0 ≤ o ∧ o ≤ 536870912 → ¬ (0 < x - o ∧ x - o < t.wz)
theorem offP.pre {h : Int} {T : List Tx} {t : Tx} {x : Int} (p : offP h (T ++ [t]) x) : offP h T x := fun u hu => p u (List.mem_append_left _ hu)

/-- Where a number goes. -/
theorem Ch.two {h : Int} {T : List Tx} {e D : Int} (c : Ch h T e D) (hl : T.length ≤ 8) (x1 x2 : Int) (h1 : -1073741824 < x1 ∧ x1 < 1073741824) (h2 : -1073741824 < x2 ∧ x2 < 1073741824) (h12 : x1 ≤ x2) :
    ∃ y1 y2, mpT T ((h + x1) % 4294967296) = (h + y1) % 4294967296 ∧ mpT T ((h + x2) % 4294967296) = (h + y2) % 4294967296 ∧ (e ≤ x1 → y1 = x1 + D) ∧ (x1 < e → y1 < e + D) ∧ (e ≤ x2 → y2 = x2 + D) ∧ (x2 < e → y2 < e + D) ∧
      (-(128 * (T.length : Int)) ≤ y1 - x1 ∧ y1 - x1 ≤ 128 * (T.length : Int)) ∧ (-(128 * (T.length : Int)) ≤ y2 - x2 ∧ y2 - x2 ≤ 128 * (T.length : Int)) ∧ y1 ≤ y2 ∧ (x1 < x2 → offP h T x2 → y1 < y2) ∧ (offP h T x1 → umT T ((h + y1) % 4294967296) = (h + x1) % 4294967296) := by
  induction c with
  | nil => exact ⟨x1, x2, rfl, rfl, by omega, by omega, by omega, by omega, by simp, by simp, h12, fun h _ => h, fun _ => rfl⟩
  | @add T e D c t o hs hm he ho hw hn ih =>
    rw [List.length_append, List.length_singleton] at hl
    obtain ⟨y1, y2, m1, m2, a1, a2, a3, a4, b1, b2, hle, hlt, hum⟩ := ih (by omega)
    obtain ⟨q1, q2, q3, q4⟩ := c.bnd
    have hd := c.dfz
    have hT8 : (T.length : Int) ≤ 7 := by omega
    rw [mpT_snoc, mpT_snoc, hd]
    rw [show ((T ++ [t]).length : Int) = (T.length : Int) + 1 by simp]
    generalize (T.length : Int) = L at *
    -- where a number goes, one at a time
    have one : ∀ (x y : Int), -1073741824 < x → x < 1073741824 → mpT T ((h + x) % 4294967296) = (h + y) % 4294967296 → ∃ z, (if bhd t.s ((h + x) % 4294967296) then mpT T ((h + x) % 4294967296) else if bhd ((t.s + t.wz) % 4294967296) ((h + x) % 4294967296) then (t.s + D % 4294967296) % 4294967296 else ((h + x) % 4294967296 + (D % 4294967296 + ((t.zs.length : Int) - t.wz)) % 4294967296) % 4294967296) = (h + z) % 4294967296 ∧ (x < o → z = y) ∧ (o ≤ x → x < o + t.wz → z = o + D) ∧ (o + t.wz ≤ x → z = x + (D + ((t.zs.length : Int) - t.wz))) := by
      intro x y hx1 hx2 hm
      by_cases c1 : x < o
      · rw [bhd_t (o - x) (by omega) (by omega) (by omega)]
        exact ⟨y, by simpa using hm, fun _ => rfl, by omega, by omega⟩
      · rw [bhd_f (o - x) (by omega) (by omega) (by omega)]
        by_cases c2 : x < o + t.wz
        · rw [bhd_t (o + t.wz - x) (by omega) (by omega) (by omega)]
          refine ⟨o + D, ?_, by omega, fun _ _ => rfl, by omega⟩
          simp
          omega
        · rw [bhd_f (o + t.wz - x) (by omega) (by omega) (by omega)]
          refine ⟨x + (D + ((t.zs.length : Int) - t.wz)), ?_, by omega, by omega, fun _ => rfl⟩
          simp
          omega
    obtain ⟨z1, e1, p1, p2, p3⟩ := one x1 y1 h1.1 h1.2 m1
    obtain ⟨z2, e2, r1, r2, r3⟩ := one x2 y2 h2.1 h2.2 m2
    have hof : offP h (T ++ [t]) x2 → ¬ (0 < x2 - o ∧ x2 - o < t.wz) := fun p => p t (by simp) o hm ho
    have hof1 : offP h (T ++ [t]) x1 → ¬ (0 < x1 - o ∧ x1 - o < t.wz) := fun p => p t (by simp) o hm ho
    refine ⟨z1, z2, e1, e2, ?_, ?_, ?_, ?_, ?_, ?_, ?_, ?_, ?_⟩
    · intro k; exact p3 k
    · intro k
      by_cases c1 : x1 < o
      · have := p1 c1
        by_cases c2 : e ≤ x1
        · have := a1 c2; omega
        · have := a2 (by omega); omega
      · have := p2 (by omega) (by omega); omega
    · intro k; exact r3 k
    · intro k
      by_cases c1 : x2 < o
      · have := r1 c1
        by_cases c2 : e ≤ x2
        · have := a3 c2; omega
        · have := a4 (by omega); omega
      · have := r2 (by omega) (by omega); omega
    · by_cases c1 : x1 < o
      · have := p1 c1; omega
      · by_cases c2 : x1 < o + t.wz
        · have := p2 (by omega) c2; omega
        · have := p3 (by omega); omega
    · by_cases c1 : x2 < o
      · have := r1 c1; omega
      · by_cases c2 : x2 < o + t.wz
        · have := r2 (by omega) c2; omega
        · have := r3 (by omega); omega
    · by_cases c1 : x2 < o
      · have := r1 c1; have := p1 (by omega); omega
      · have k2 : o + D ≤ z2 := by
          by_cases c2 : x2 < o + t.wz
          · have := r2 (by omega) c2; omega
          · have := r3 (by omega); omega
        by_cases c3 : x1 < o
        · have k1 := p1 c3
          by_cases c4 : e ≤ x1
          · have := a1 c4; omega
          · have := a2 (by omega); omega
        · by_cases c4 : x1 < o + t.wz
          · have := p2 (by omega) c4; omega
          · have := p3 (by omega); have := r3 (by omega); omega
    · intro hx hp
      have hno := hof hp
      by_cases c1 : x2 < o
      · have := r1 c1; have := p1 (by omega); have := hlt hx hp.pre; omega
      · by_cases c3 : x1 < o
        · have k1 := p1 c3
          have k2 : o + D ≤ z2 := by
            by_cases c2 : x2 < o + t.wz
            · have := r2 (by omega) c2; omega
            · have := r3 (by omega); omega
          by_cases c4 : e ≤ x1
          · have := a1 c4; omega
          · have := a2 (by omega); omega
        · have k3 : o + t.wz ≤ x2 := by omega
          have := r3 k3
          by_cases c4 : x1 < o + t.wz
          · have := p2 (by omega) c4; omega
          · have := p3 (by omega); omega
    · intro hp
      have hno := hof1 hp
      rw [umT_snoc, hd]
      by_cases c3 : x1 < o
      · have k1 := p1 c3
        subst k1
        have k2 : z1 < o + D := by
          by_cases c4 : e ≤ x1
          · have := a1 c4; omega
          · have := a2 (by omega); omega
        rw [bhd_t (o + D - z1) (by omega) (by omega) (by omega)]
        simpa using hum hp.pre
      · by_cases c4 : x1 < o + t.wz
        · have k0 : x1 = o := by omega
          have k1 := p2 (by omega) c4
          subst k1
          rw [bhd_f 0 (by omega) (by omega) (by omega), bhd_t (t.zs.length : Int) (by omega) (by omega) (by omega)]
          simp
          omega
        · have k1 := p3 (by omega)
          rw [bhd_f (o + D - z1) (by omega) (by omega) (by omega), bhd_f (o + D + (t.zs.length : Int) - z1) (by omega) (by omega) (by omega)]
          simp
          omega

/-- Parts that were added one behind the other. -/
inductive CH : List Tx → Prop
  | nil : CH []
  | add {T : List Tx} (c : CH T) (t : Tx) (hs : 0 ≤ t.s ∧ t.s ≤ 4294967295) (ha : adT T t.s t.wz t.zs.length = 0) : CH (T ++ [t])
theorem plT_ch (ds : List Ap) (h : ∀ d ∈ ds, 0 ≤ d.s ∧ d.s ≤ 4294967295) : ∀ k, k ≤ ds.length → CH (plT ds k)
  | 0, _ => .nil
  | k + 1, hk => by
    rw [plT_next (by omega)]
    by_cases ha : adT (plT ds k) (toT ds[k]).s (toT ds[k]).wz (toT ds[k]).zs.length = 0
    · rw [addT_yes ha]; exact .add (plT_ch ds h k (by omega)) _ (h _ (List.getElem_mem _)) ha
    · rw [addT_no ha]; exact plT_ch ds h k (by omega)
theorem CH.ct {T : List Tx} (c : CH T) : (∀ t ∈ T, 0 ≤ ahd t.s (hdT T) ∧ ahd t.s (hdT T) ≤ 536870912) → ∃ e D, Ch (hdT T) T e D := by
  induction c with
  | nil => exact fun _ => ⟨0, 0, .nil⟩
  | @add T c t hs ha ih =>
    intro hn
    obtain ⟨k1, k2, k3, k4⟩ := adD_yes ha
    have w1 := okN_rng k1
    have w2 := okN_rng k2
    cases hT : T with
    | nil =>
      subst hT
      exact ⟨_, _, .add .nil t 0 hs (by show (t.s - t.s - 0) % 4294967296 = 0; simp) (by omega) (by omega) w1 w2⟩
    | cons a l =>
      have hne : T ≠ [] := by rw [hT]; simp
      have hem : T.isEmpty = false := by rw [hT]; rfl
      rw [← hT]
      rw [hdT_snoc t hem] at hn ⊢
      obtain ⟨e, D, c'⟩ := ih (fun u hu => hn u (List.mem_append_left _ hu))
      have hb := c'.bnd
      have ht := hn t (by simp)
      have hm := ahd_mod t.s (hdT T)
      have hf := c'.fin hne
      refine ⟨_, _, .add c' t (ahd t.s (hdT T)) hs hm ?_ ht w1 w2⟩
      unfold dps' at k3
      rw [List.isEmpty_map, hem] at k3
      have hq : ¬ ahd t.s (dend ((List.map tdp T).getLast?.getD zDp)) < 0 := by simpa using k3
      have := ahd_mod t.s (dend ((List.map tdp T).getLast?.getD zDp))
      have := ahd_lo t.s (dend ((List.map tdp T).getLast?.getD zDp))
      omega
theorem off_of {T : List Tx} {n x : Int} (hx : (n - hdT T - x) % 4294967296 = 0) (hr : -1073741824 < x ∧ x < 1073741824) (ho : ∀ t ∈ T, ¬ (0 < ahd n t.s ∧ ahd n t.s < t.wz)) : offP (hdT T) T x := fun t ht o hm hor hc => by
  have e : ahd n t.s = x - o := ahd_is (by omega) (by omega) (by omega)
  exact ho t ht (by rw [e]; exact hc)
end Go.Proofs.Ytaaanmjmgnpcgaa

/- The walks of SeqadjBack and SeqadjOrder. -/
namespace Go.Proofs.Ytaaanmjmgnpcgaa
open Go.RowKit Go.Shelf
set_option maxRecDepth 100000
set_option linter.unusedVariables false
set_option linter.unusedSimpArgs false

theorem back_math {T : List Tx} (c : CH T) (hl : T.length ≤ 8) {n : Int} (hn : 0 ≤ n ∧ n ≤ 4294967295) (hN : NearP T n) (hO : OutP T n) : (0 ≤ mpT T n ∧ mpT T n ≤ 4294967295) ∧ umT T (mpT T n) = n := by
  by_cases hT : T = []
  · subst hT
    exact ⟨hn, rfl⟩
  · obtain ⟨h1, h2, h3⟩ := hN hT
    obtain ⟨e, D, c'⟩ := c.ct h1
    have hm := ahd_mod n (hdT T)
    obtain ⟨y1, y2, m1, _, _, _, _, _, _, _, _, _, hu⟩ := c'.two hl (ahd n (hdT T)) (ahd n (hdT T)) ⟨h2, h3⟩ ⟨h2, h3⟩ (Int.le_refl _)
    have en : (hdT T + ahd n (hdT T)) % 4294967296 = n := by omega
    rw [en] at m1 hu
    have hu' := hu (off_of hm ⟨h2, h3⟩ hO)
    rw [m1]
    exact ⟨by omega, hu'⟩
theorem order_math {T : List Tx} (c : CH T) (hl : T.length ≤ 8) {n d : Int} (hn : 0 ≤ n ∧ n ≤ 4294967295) (hd : 0 ≤ d ∧ d ≤ 65535) (hN : NearP T n) (hM : NearP T ((n + d) % 4294967296)) : 0 ≤ ahd (mpT T ((n + d) % 4294967296)) (mpT T n) ∧ (0 < d → OutP T ((n + d) % 4294967296) → 0 < ahd (mpT T ((n + d) % 4294967296)) (mpT T n)) := by
  by_cases hT : T = []
  · subst hT
    have e : ahd (mpT [] ((n + d) % 4294967296)) (mpT [] n) = d := ahd_is (by show ((n + d) % 4294967296 - n - d) % 4294967296 = 0; omega) (by omega) (by omega)
    rw [e]
    exact ⟨hd.1, fun h _ => h⟩
  · obtain ⟨h1, h2, h3⟩ := hN hT
    obtain ⟨_, k2, k3⟩ := hM hT
    obtain ⟨e, D, c'⟩ := c.ct h1
    have hm := ahd_mod n (hdT T)
    have hm2 := ahd_mod ((n + d) % 4294967296) (hdT T)
    have hx : ahd ((n + d) % 4294967296) (hdT T) = ahd n (hdT T) + d := by omega
    obtain ⟨y1, y2, m1, m2, _, _, _, _, b1, b2, hle, hlt, _⟩ := c'.two hl (ahd n (hdT T)) (ahd ((n + d) % 4294967296) (hdT T)) ⟨h2, h3⟩ ⟨k2, k3⟩ (by omega)
    have en : (hdT T + ahd n (hdT T)) % 4294967296 = n := by omega
    have em : (hdT T + ahd ((n + d) % 4294967296) (hdT T)) % 4294967296 = (n + d) % 4294967296 := by omega
    rw [en] at m1
    rw [em] at m2
    rw [m1, m2]
    have hl8 : (T.length : Int) ≤ 8 := by omega
    have e : ahd ((hdT T + y2) % 4294967296) ((hdT T + y1) % 4294967296) = y2 - y1 := ahd_is (by omega) (by omega) (by omega)
    rw [e]
    refine ⟨by omega, fun hp ho => ?_⟩
    have := hlt (by omega) (off_of hm2 ⟨k2, k3⟩ ho)
    omega
theorem mpT_rng {T : List Tx} {n : Int} (hn : 0 ≤ n ∧ n ≤ 4294967295) (base : Nat) (W : World) {lp : List Pa} {ld : List Dp} (h : RT base W lp ld T) : 0 ≤ mpT T n ∧ mpT T n ≤ 4294967295 := by
  induction h with
  | nil => exact hn
  | add h t ta tc ta' tc' hs hw hl ho ho' ih =>
    rw [mpT_snoc]
    split
    · exact ih
    · split <;> omega
theorem PR.map {base : Nat} {W : World} {a b : Nat} {T : List Tx} (h : PR base W a b T) (hl : T.length ≤ 8) {n : Int} (hn : 0 ≤ n ∧ n ≤ 4294967295) : Calls Try.prog 19 #[.pointer (some ⟨a, 0, none⟩), .int .u32 n] W fun e w' => e = .returned (.int .u32 (mpT T n)) ∧ Later W w' := by
  obtain ⟨va, vb, lp, ld, h1, h2, h3, h4⟩ := h
  have := smap_any base a va lp n hn W h1 (by rw [h3.rs.len, h3.len]; omega)
  rw [h3.rs.map, h3.map] at this
  exact this
theorem PR.unm {base : Nat} {W : World} {a b : Nat} {T : List Tx} (h : PR base W a b T) (hl : T.length ≤ 8) {n : Int} (hn : 0 ≤ n ∧ n ≤ 4294967295) : Calls Try.prog 18 #[.pointer (some ⟨a, 0, none⟩), .int .u32 n] W fun e w' => e = .returned (.int .u32 (umT T n)) ∧ Later W w' := by
  obtain ⟨va, vb, lp, ld, h1, h2, h3, h4⟩ := h
  have := sunmap_any base a va lp n hn W h1 (by rw [h3.rs.len, h3.len]; omega)
  rw [h3.rs.unm, h3.unm] at this
  exact this

set_option maxHeartbeats 8000000 in
theorem walk_SeqadjBack (w : World) (sv : Value) (ds : List Ap) (hI : RdA w.heap.size w sv ds) (n : Int) (hn : 0 ≤ n ∧ n ≤ 4294967295) :
    Calls Try.prog 5 #[sv, .int .u32 n] w fun e w' => e = .returned (.bool true) ∧ Below w.heap.size w w' := by
  have HPL := hide (play11_any sv ds w w.heap.size (Nat.le_refl _) hI)
  have HNE := hide (fun W (h : Later w W) => near_any sv ds n W w.heap.size h.size (hI.below h))
  have HIN := hide (fun W (h : Later w W) => inside_any sv ds n W w.heap.size h.size (hI.below h))
  have HCH := hide (plT_ch ds (fun d hd => (hI.2 d hd).1) (min ds.length 30) (Nat.min_le_left _ _))
  have HLN := hide (plT_len ds (min ds.length 30))
  obtain ⟨aa, ca, rfl, ha1, ha2⟩ := hI.slice
  clear hI
  generalize plT ds (min ds.length 30) = T at *
  go_enter Try.func5, Try.ntmps5
  go_wp2_with fail
  refine HPL.out.mono ?_
  rintro e w1 ⟨l1, a, b, rfl, hP1⟩
  clear HPL
  go_wp2_with fail
  refine (live11_any w1).mono ?_
  rintro e w2 ⟨rfl, l2⟩
  have L2 : Later w w2 := l1.trans l2
  have hP2 := hP1.later l2
  clear hP1
  go_wp2_with fail
  refine (HNE.out w2 L2).mono ?_
  rintro e w3 ⟨r, rfl, l3, hr⟩
  have L3 : Later w w3 := L2.trans l3
  have hP3 := hP2.later l3
  clear hP2
  cases r with
  | false =>
    go_wp2_with fail
    go_ret
    exact ⟨rfl, L3⟩
  | true =>
    have HN := hide (hr rfl)
    clear hr
    go_wp2_with fail
    refine (HIN.out w3 L3).mono ?_
    rintro e w4 ⟨r, rfl, l4, hr⟩
    have L4 : Later w w4 := L3.trans l4
    have hP4 := hP3.later l4
    clear hP3
    cases r with
    | true =>
      go_wp2_with fail
      go_ret
      exact ⟨rfl, L4⟩
    | false =>
      obtain ⟨hrg, hbk⟩ := back_math HCH.out HLN.out hn HN.out (hr rfl)
      have HM := hide (hP4.map HLN.out hn)
      have HU := hide (fun W (h : Later w4 W) => (hP4.later h).unm HLN.out hrg)
      rw [hbk] at HU
      generalize mpT T n = q at *
      clear hr hbk hP4
      go_wp2_with fail
      refine HM.out.mono ?_
      rintro e w5 ⟨rfl, l5⟩
      have L5 : Later w w5 := L4.trans l5
      go_wp2_with fail
      refine (HU.out w5 l5).mono ?_
      rintro e w6 ⟨rfl, l6⟩
      have L6 : Later w w6 := L5.trans l6
      go_wp2_with fail
      go_ret
      exact ⟨by first | rfl | simp, L6⟩

set_option maxHeartbeats 8000000 in
theorem walk_SeqadjOrder (w : World) (sv : Value) (ds : List Ap) (hI : RdA w.heap.size w sv ds) (n : Int) (hn : 0 ≤ n ∧ n ≤ 4294967295) (d : Int) (hd : 0 ≤ d ∧ d ≤ 65535) :
    Calls Try.prog 6 #[sv, .int .u32 n, .int .u16 d] w fun e w' => e = .returned (.bool true) ∧ Below w.heap.size w w' := by
  have HPL := hide (play11_any sv ds w w.heap.size (Nat.le_refl _) hI)
  have HNE := hide (fun n W (h : Later w W) => near_any sv ds n W w.heap.size h.size (hI.below h))
  have HIN := hide (fun n W (h : Later w W) => inside_any sv ds n W w.heap.size h.size (hI.below h))
  have HCH := hide (plT_ch ds (fun d hd => (hI.2 d hd).1) (min ds.length 30) (Nat.min_le_left _ _))
  have HLN := hide (plT_len ds (min ds.length 30))
  obtain ⟨aa, ca, rfl, ha1, ha2⟩ := hI.slice
  clear hI
  generalize plT ds (min ds.length 30) = T at *
  go_enter Try.func6, Try.ntmps6
  go_wp2_with fail
  refine HPL.out.mono ?_
  rintro e w1 ⟨l1, a, b, rfl, hP1⟩
  clear HPL
  go_wp2_with fail
  refine (live11_any w1).mono ?_
  rintro e w2 ⟨rfl, l2⟩
  have L2 : Later w w2 := l1.trans l2
  have hP2 := hP1.later l2
  have hmr : 0 ≤ (n + d) % 4294967296 ∧ (n + d) % 4294967296 ≤ 4294967295 := by omega
  have HOM := hide (fun h1 h2 => order_math HCH.out HLN.out hn hd h1 h2)
  have HDM : Hid (0 < d ∨ d = 0) := by show _ ∨ _; omega
  generalize hmm : (n + d) % 4294967296 = m at *
  have HMM := hide hmm
  clear hP1 hd
  go_wp2_with fail
  refine (HNE.out n w2 L2).mono ?_
  rintro e w3 ⟨r, rfl, l3, hr⟩
  have L3 : Later w w3 := L2.trans l3
  have hP3 := hP2.later l3
  clear hP2
  cases r with
  | false =>
    go_wp2_with fail
    go_ret
    exact ⟨rfl, L3⟩
  | true =>
    have HN := hide (hr rfl)
    clear hr
    go_wp2_with fail
    refine (HNE.out m w3 L3).mono ?_
    rintro e w4 ⟨r, rfl, l4, hr⟩
    have L4 : Later w w4 := L3.trans l4
    have hP4 := hP3.later l4
    clear hP3
    cases r with
    | false =>
      go_wp2_with fail
      go_ret
      exact ⟨rfl, L4⟩
    | true =>
      obtain ⟨ho1, ho2⟩ := HOM.out HN.out (hr rfl)
      have HO2 := hide ho2
      have HM := hide (hP4.map HLN.out hmr)
      have HM2 := hide (fun W (h : Later w4 W) => (hP4.later h).map HLN.out hn)
      have HAH := hide (fun W => rahead_any (mpT T m) (mpT T n) W)
      clear hr hP4 ho2
      generalize hq : ahd (mpT T m) (mpT T n) = q at *
      clear hq
      generalize mpT T n = q1 at *
      generalize mpT T m = q2 at *
      go_wp2_with fail
      refine HM.out.mono ?_
      rintro e w5 ⟨rfl, l5⟩
      have L5 : Later w w5 := L4.trans l5
      go_wp2_with fail
      refine (HM2.out w5 l5).mono ?_
      rintro e w6 ⟨rfl, l6⟩
      have L6 : Later w w6 := L5.trans l6
      go_wp2_with fail
      refine (HAH.out w6).mono ?_
      rintro e w7 ⟨rfl, rfl⟩
      rcases HDM.out with hp | hp
      · go_wp2_with fail
        refine (HIN.out m w7 L6).mono ?_
        rintro e w8 ⟨r, rfl, l8, hr⟩
        have L8 : Later w w8 := L6.trans l8
        cases r with
        | true =>
          go_wp2_with fail
          go_ret
          exact ⟨by first | rfl | (simp; done) | (simp; omega), L8⟩
        | false =>
          have hlt := HO2.out hp (hr rfl)
          clear hr
          go_wp2_with fail
          go_ret
          exact ⟨by first | rfl | (simp; done) | (simp; omega), L8⟩
      · subst hp
        go_wp2_with fail
        go_ret
        exact ⟨by first | rfl | (simp; done) | (simp; omega), L6⟩
end Go.Proofs.Ytaaanmjmgnpcgaa
