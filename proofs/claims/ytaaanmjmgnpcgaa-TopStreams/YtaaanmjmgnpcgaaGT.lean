/- Both streams: what is added to both; what both hold. -/
import Derived.Test.YtaaanmjmgnpcgaaGS
namespace Go.Proofs.Ytaaanmjmgnpcgaa
open Go.RowKit Go.Shelf
set_option maxRecDepth 100000
set_option linter.unusedVariables false
set_option linter.unusedSimpArgs false

/-- A part: its start, its length, its text. -/
structure Tx where
  s : Int
  wz : Int
  zs : List Int
def tdp (t : Tx) : Dp := ⟨t.s, t.wz, none, t.zs.length, 0⟩
def strp (d : Dp) : Dp := ⟨d.st, d.wz, none, d.tn, 0⟩
theorem strp_at (l : List Dp) (k : Nat) : (l.map strp)[k]?.getD zDp = strp (l[k]?.getD zDp) := by
  rw [List.getElem?_map]
  cases l[k]? <;> rfl
theorem dfz_strp (l : List Dp) : ∀ k, dfz (l.map strp) k = dfz l k
  | 0 => rfl
  | k + 1 => by unfold dfz; rw [dfz_strp l k, strp_at]; rfl
theorem dmp_strp (l : List Dp) (n : Int) : ∀ k, dmp (l.map strp) n k = dmp l n k
  | 0 => rfl
  | k + 1 => by unfold dmp; rw [dmp_strp l n k, strp_at, dfz_strp, dfz_strp]; rfl
theorem dum_strp (l : List Dp) (n : Int) : ∀ k, dum (l.map strp) n k = dum l n k
  | 0 => rfl
  | k + 1 => by unfold dum; rw [dum_strp l n k, strp_at, dfz_strp, dfz_strp]; rfl
theorem dps_strp (l : List Dp) (s : Int) : dps' (l.map strp) s = dps' l s := by
  unfold dps'
  rw [List.getLast?_map, List.isEmpty_map]
  cases l.getLast? <;> rfl
theorem adD_strp (l : List Dp) (s was tl : Int) : adD (l.map strp) s was tl = adD l s was tl := by unfold adD; rw [dps_strp, List.length_map]
/-- What Add tells, what the numbers map to, by the parts alone. -/
def adT (T : List Tx) (s was tl : Int) : Int := adD (T.map tdp) s was tl
def addT (T : List Tx) (t : Tx) : List Tx := if adT T t.s t.wz t.zs.length = 0 then T ++ [t] else T
def mpT (T : List Tx) (n : Int) : Int := dmp (T.map tdp) n T.length
def umT (T : List Tx) (n : Int) : Int := dum (T.map tdp) n T.length
theorem addT_len (T : List Tx) (t : Tx) (h : T.length ≤ 8) : (addT T t).length ≤ 8 := by
  unfold addT
  split
  · rename_i h0
    have := (adD_yes h0).2.2.2
    rw [List.length_map] at this
    rw [List.length_append, List.length_singleton]
    omega
  · exact h
/-- The program's parts and the document's, added one behind the other, with their texts. -/
inductive RT (base : Nat) (W : World) : List Pa → List Dp → List Tx → Prop
  | nil : RT base W [] [] []
  | add {lp : List Pa} {ld : List Dp} {T : List Tx} (h : RT base W lp ld T) (t : Tx) (ta : Option Addr) (tc : Nat) (ta' : Option Addr) (tc' : Nat) (hs : 0 ≤ t.s ∧ t.s ≤ 4294967295) (hw : 1 ≤ t.wz ∧ t.wz ≤ 128) (hn : 1 ≤ (t.zs.length : Int) ∧ (t.zs.length : Int) ≤ 128)
      (ho : Ow base W (.slice ta t.zs.length tc) t.zs) (ho' : Ow base W (.slice ta' t.zs.length tc') t.zs) : RT base W (lp ++ [npP lp t.s t.wz t.zs.length ta tc]) (ld ++ [⟨t.s, t.wz, ta', t.zs.length, tc'⟩]) (T ++ [t])
theorem RT.rs {base : Nat} {W : World} {lp : List Pa} {ld : List Dp} {T : List Tx} (h : RT base W lp ld T) : RS lp ld := by
  induction h with
  | nil => exact .nil
  | add h t ta tc ta' tc' hs hw hn ho ho' ih => exact .add ih t.s t.wz t.zs.length ta tc ta' tc' hs hw hn
theorem RT.strp {base : Nat} {W : World} {lp : List Pa} {ld : List Dp} {T : List Tx} (h : RT base W lp ld T) : ld.map strp = T.map tdp := by
  induction h with
  | nil => rfl
  | add h t ta tc ta' tc' hs hw hn ho ho' ih => rw [List.map_append, List.map_append, ih]; rfl
theorem RT.keep {base : Nat} {W W' : World} {lp : List Pa} {ld : List Dp} {T : List Tx} (h : RT base W lp ld T) (hk : ∀ v zs, Ow base W v zs → Ow base W' v zs) : RT base W' lp ld T := by
  induction h with
  | nil => exact .nil
  | add h t ta tc ta' tc' hs hw hn ho ho' ih => exact .add ih t ta tc ta' tc' hs hw hn (hk _ _ ho) (hk _ _ ho')
theorem RT.len {base : Nat} {W : World} {lp : List Pa} {ld : List Dp} {T : List Tx} (h : RT base W lp ld T) : ld.length = T.length := by
  have := congrArg List.length h.strp
  simpa using this
theorem RT.ad {base : Nat} {W : World} {lp : List Pa} {ld : List Dp} {T : List Tx} (h : RT base W lp ld T) (s was tl : Int) : adD ld s was tl = adT T s was tl := by unfold adT; rw [← h.strp, adD_strp]
theorem RT.map {base : Nat} {W : World} {lp : List Pa} {ld : List Dp} {T : List Tx} (h : RT base W lp ld T) (n : Int) : dmp ld n ld.length = mpT T n := by unfold mpT; rw [← h.strp, dmp_strp, h.len]
theorem RT.unm {base : Nat} {W : World} {lp : List Pa} {ld : List Dp} {T : List Tx} (h : RT base W lp ld T) (n : Int) : dum ld n ld.length = umT T n := by unfold umT; rw [← h.strp, dum_strp, h.len]

/-- How the program's Add leaves its parts. -/
def AdP (base : Nat) (w w' : World) (b : Nat) (v : Value) (l : List Pa) (s wz : Int) (zs : List Int) : Prop :=
  (adS l s wz zs.length ≠ 0 ∧ SLq 57 base w w' b v l) ∨ (adS l s wz zs.length = 0 ∧ ∃ ta tc, SLq 57 base w w' b v (l ++ [npP l s wz zs.length ta tc]) ∧ Ow base w' (.slice ta zs.length tc) zs)
def AdD (base : Nat) (w w' : World) (b : Nat) (v : Value) (l : List Dp) (s wz : Int) (zs : List Int) : Prop :=
  (adD l s wz zs.length ≠ 0 ∧ DSq 71 base w w' b v l) ∨ (adD l s wz zs.length = 0 ∧ ∃ ta tc, DSq 71 base w w' b v (l ++ [⟨s, wz, ta, zs.length, tc⟩]) ∧ Ow base w' (.slice ta zs.length tc) zs)
theorem sadd_any (base b : Nat) (v : Value) (l : List Pa) (s was : Int) (tv : Value) (zs : List Int) (w : World) (hT : SL 57 base w b v l) (hbs : base ≤ w.heap.size) (hl : l.length ≤ 1000) (hs : 0 ≤ s ∧ s ≤ 4294967295) (hI : Rd w.heap.size w tv zs) :
    Calls Try.prog 13 #[.pointer (some ⟨b, 0, none⟩), .int .u32 s, .int .i64 was, tv] w fun e w' => e = .returned (.int .i64 (adS l s was zs.length)) ∧ AdP base w w' b v l s was zs := by
  by_cases h : adS l s was zs.length = 0
  · refine (sadd_txt base b v l s was tv zs w hT hbs hs hI h).mono ?_
    rintro e w' ⟨rfl, h2⟩
    exact ⟨by rw [h], .inr ⟨h, h2⟩⟩
  · refine (sadd_no base b v l s was tv zs w hT hl hI h).mono ?_
    rintro e w' ⟨rfl, rfl⟩
    exact ⟨rfl, .inl ⟨h, SLq.same hT (Later.refl _)⟩⟩
theorem rsadd_any (base b : Nat) (v : Value) (l : List Dp) (s was : Int) (tv : Value) (zs : List Int) (w : World) (hT : DS 71 base w b v l) (hbs : base ≤ w.heap.size) (hl : l.length ≤ 1000) (hI : Rd w.heap.size w tv zs) :
    Calls Try.prog 25 #[.pointer (some ⟨b, 0, none⟩), .int .u32 s, .int .i64 was, tv] w fun e w' => e = .returned (.int .i64 (adD l s was zs.length)) ∧ AdD base w w' b v l s was zs := by
  by_cases h : adD l s was zs.length = 0
  · refine (rsadd_yes base b v l s was tv zs w hT hbs hI h).mono ?_
    rintro e w' ⟨rfl, h2⟩
    exact ⟨by rw [h], .inr ⟨h, h2⟩⟩
  · refine (rsadd_no base b v l s was tv zs w hT hl hI h).mono ?_
    rintro e w' ⟨rfl, l1⟩
    exact ⟨rfl, .inl ⟨h, DSq.same hT l1⟩⟩
theorem AdP.but {base : Nat} {w w' : World} {b : Nat} {v : Value} {l : List Pa} {s wz : Int} {zs : List Int} (h : AdP base w w' b v l s wz zs) : ∃ l', SLq 57 base w w' b v l' := by
  rcases h with ⟨_, h⟩ | ⟨_, ta, tc, h, _⟩ <;> exact ⟨_, h⟩
theorem AdD.but {base : Nat} {w w' : World} {b : Nat} {v : Value} {l : List Dp} {s wz : Int} {zs : List Int} (h : AdD base w w' b v l s wz zs) : ∃ l', DSq 71 base w w' b v l' := by
  rcases h with ⟨_, h⟩ | ⟨_, ta, tc, h, _⟩ <;> exact ⟨_, h⟩

/-- Blocks of streams that were there. -/
def Eb (base n : Nat) (g : Nat) : Prop := base ≤ g ∧ g < n
/-- Both streams, which hold the same. -/
def PR (base : Nat) (W : World) (a b : Nat) (T : List Tx) : Prop := ∃ va vb lp ld, SL 57 base W a va lp ∧ DS 71 base W b vb ld ∧ RT base W lp ld T ∧ ∀ g, va.ownBlock = some g → vb.ownBlock ≠ some g
theorem PR.later {base : Nat} {A B : World} {a b : Nat} {T : List Tx} (h : PR base A a b T) (k : Later A B) : PR base B a b T := by
  obtain ⟨va, vb, lp, ld, h1, h2, h3, h4⟩ := h
  exact ⟨va, vb, lp, ld, h1.later k, h2.later k, h3.keep (fun v zs ho => ho.later k), h4⟩
theorem SLq.eb {base : Nat} {w W W1 : World} {b : Nat} {v : Value} {l l' : List Pa} (h : SL 57 base w b v l) (q : SLq 57 base W W1 b v l') : But (Eb base w.heap.size) W W1 := by
  obtain ⟨v', _, k, _⟩ := q
  refine k.wk1 (fun g e => ?_)
  rcases e with e | e
  · rw [e]; exact ⟨h.1, h.blt⟩
  · exact h.lt e
theorem DSq.eb {base : Nat} {w W W1 : World} {b : Nat} {v : Value} {l l' : List Dp} (h : DS 71 base w b v l) (q : DSq 71 base W W1 b v l') : But (Eb base w.heap.size) W W1 := by
  obtain ⟨v', _, k, _⟩ := q
  refine k.wk1 (fun g e => ?_)
  rcases e with e | e
  · rw [e]; exact ⟨h.1, h.blt⟩
  · exact h.lt e
theorem SLq.ow {base : Nat} {W W1 : World} {b : Nat} {v : Value} {l l' : List Pa} (h : SL 57 base W b v l) (q : SLq 57 base W W1 b v l') (u : Value) (zs : List Int) (ho : Ow base W u zs) : Ow base W1 u zs := by
  obtain ⟨v', _, k, _⟩ := q
  exact ho.butT k (fun g cur hg e => by rcases e with e | e; (· rw [e, h.2.1] at hg; simp at hg); (· exact h.ne hg (by decide) e))
theorem DSq.ow {base : Nat} {W W1 : World} {b : Nat} {v : Value} {l l' : List Dp} (h : DS 71 base W b v l) (q : DSq 71 base W W1 b v l') (u : Value) (zs : List Int) (ho : Ow base W u zs) : Ow base W1 u zs := by
  obtain ⟨v', _, k, _⟩ := q
  exact ho.butT k (fun g cur hg e => by rcases e with e | e; (· rw [e, h.2.1] at hg; simp at hg); (· exact h.ne hg (by decide) e))
/-- The document's stream stays where the program's changes. -/
theorem PR.one {base : Nat} {w W W1 : World} {a b : Nat} {va vb : Value} {lp l' : List Pa} {ld : List Dp} (h1 : SL 57 base w a va lp) (h2 : DS 71 base w b vb ld) (h3 : ∀ g, va.ownBlock = some g → vb.ownBlock ≠ some g) (lw : Later w W)
    (q1 : SLq 57 base W W1 a va l') : DS 71 base W1 b vb ld ∧ But (Eb base w.heap.size) W W1 := by
  refine ⟨?_, SLq.eb h1 q1⟩
  obtain ⟨va', r1, b1, f1⟩ := q1
  have hab : a ≠ b := fun e => by
    have e1 := h1.2.1
    rw [e, h2.2.1] at e1
    simp at e1
  exact (h2.later lw).but b1 (fun e => by rcases e with e | e; (· exact hab e.symm); (· exact h1.ne h2.2.1 (by decide) e)) (fun g hg e => by rcases e with e | e; (· subst e; exact h2.ne h1.2.1 (by decide) hg); (· exact h3 g e hg))
theorem PR.two {base : Nat} {w W W1 W2 : World} {a b : Nat} {va vb : Value} {lp l' : List Pa} {ld m' : List Dp} (h1 : SL 57 base w a va lp) (h2 : DS 71 base w b vb ld) (h3 : ∀ g, va.ownBlock = some g → vb.ownBlock ≠ some g) (lw : Later w W)
    (q1 : SLq 57 base W W1 a va l') (q2 : DSq 71 base W1 W2 b vb m') : ∃ va' vb', SL 57 base W2 a va' l' ∧ DS 71 base W2 b vb' m' ∧ ∀ g, va'.ownBlock = some g → vb'.ownBlock ≠ some g := by
  obtain ⟨h2', _⟩ := PR.one h1 h2 h3 lw q1
  obtain ⟨va', r1, b1, f1⟩ := q1
  obtain ⟨vb', r2, b2, f2⟩ := q2
  have hab : a ≠ b := fun e => by
    have e1 := h1.2.1
    rw [e, h2.2.1] at e1
    simp at e1
  have hws := lw.size
  have hva : ∀ g, va'.ownBlock = some g → vb.ownBlock ≠ some g := fun g hg e => by
    rcases f1 with f | f
    · rw [f] at hg; exact h3 g hg e
    · have := f g hg
      have := (h2.lt e).2
      omega
  have r1' : SL 57 base W2 a va' l' := r1.but b2 (fun e => by rcases e with e | e; (· exact hab e); (· exact h2'.ne r1.2.1 (by decide) e)) (fun g hg e => by rcases e with e | e; (· subst e; exact r1.ne h2'.2.1 (by decide) hg); (· exact hva g hg e))
  refine ⟨va', vb', r1', r2, fun g hg e => ?_⟩
  rcases f2 with f | f
  · rw [f] at e; exact hva g hg e
  · have := f g e
    have := (r1.lt hg).2
    omega
/-- A part added to both. -/
theorem PR.add {base : Nat} {w W W1 W2 : World} {a b : Nat} {va vb : Value} {lp : List Pa} {ld : List Dp} {T : List Tx} {t : Tx} (h1 : SL 57 base w a va lp) (h2 : DS 71 base w b vb ld) (hR : RT base w lp ld T) (h3 : ∀ g, va.ownBlock = some g → vb.ownBlock ≠ some g) (lw : Later w W)
    (q1 : AdP base W W1 a va lp t.s t.wz t.zs) (q2 : AdD base W1 W2 b vb ld t.s t.wz t.zs) (hs : 0 ≤ t.s ∧ t.s ≤ 4294967295) : PR base W2 a b (addT T t) := by
  have e1 : adS lp t.s t.wz t.zs.length = adT T t.s t.wz t.zs.length := by rw [hR.rs.ad, hR.ad]
  have e2 : adD ld t.s t.wz t.zs.length = adT T t.s t.wz t.zs.length := hR.ad _ _ _
  have hT : addT T t = if adT T t.s t.wz t.zs.length = 0 then T ++ [t] else T := rfl
  rw [hT]
  unfold AdP at q1
  unfold AdD at q2
  rw [e1] at q1
  rw [e2] at q2
  by_cases h0 : adT T t.s t.wz t.zs.length = 0
  · rw [if_pos h0]
    rcases q1 with ⟨hc, _⟩ | ⟨_, ta, tc, q1, o1⟩
    · exact absurd h0 hc
    rcases q2 with ⟨hc, _⟩ | ⟨_, ta', tc', q2, o2⟩
    · exact absurd h0 hc
    obtain ⟨h2', _⟩ := PR.one h1 h2 h3 lw q1
    obtain ⟨va', vb', r1, r2, r3⟩ := PR.two h1 h2 h3 lw q1 q2
    obtain ⟨k1, k2, _, _⟩ := adD_yes (e2.trans h0)
    refine ⟨va', vb', _, _, r1, r2, .add (hR.keep (fun v zs ho => DSq.ow h2' q2 v zs (SLq.ow (h1.later lw) q1 v zs (ho.later lw)))) t ta tc ta' tc' hs (okN_rng k1) (okN_rng k2) (DSq.ow h2' q2 _ _ o1) o2, r3⟩
  · rw [if_neg h0]
    have q1 := (q1.resolve_right (fun hc => h0 hc.1)).2
    have q2 := (q2.resolve_right (fun hc => h0 hc.1)).2
    obtain ⟨h2', _⟩ := PR.one h1 h2 h3 lw q1
    obtain ⟨va', vb', r1, r2, r3⟩ := PR.two h1 h2 h3 lw q1 q2
    exact ⟨va', vb', _, _, r1, r2, hR.keep (fun v zs ho => DSq.ow h2' q2 v zs (SLq.ow (h1.later lw) q1 v zs (ho.later lw))), r3⟩
end Go.Proofs.Ytaaanmjmgnpcgaa
