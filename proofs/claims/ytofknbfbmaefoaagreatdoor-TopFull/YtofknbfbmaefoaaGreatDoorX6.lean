import Derived.Test.YtofknbfbmaefoaaGreatDoorX7
import Derived.Test.YtofknbfbmaefoaaGreatDoorX10
import Derived.Test.YtofknbfbmaefoaaGreatDoorX9
import Derived.Test.YtofknbfbmaefoaaGreatDoorX8
import Derived.Test.YtofknbfbmaefoaaGreatDoorX19
namespace Go.Proofs.YtofknbfbmaefoaaGreatDoor
set_option maxHeartbeats 8000000
open Go.RowKit Go.Shelf
set_option maxRecDepth 100000
set_option linter.unusedVariables false
set_option linter.unusedSimpArgs false
def dpL (ls : Nat → List Rw) (i k : Nat) : Nat → List Rw := fun j => if j = i then (ls i).eraseIdx k else ls j
def UQy (l : List Rw) : Prop := ∀ kp ks kd ka kb i j (hi : i < l.length) (hj : j < l.length), isK kp ks kd ka kb l[i] = true → isK kp ks kd ka kb l[j] = true → i = j
theorem UQy.others {l : List Rw} (h : UQy l) {kp ks kd ka kb : Int} {k : Nat} (hk : kix kp ks kd ka kb l = some k) : ∀ j (hj : j < l.length), j ≠ k → isK kp ks kd ka kb l[j] = false := fun j hj hne => by
 unfold kix at hk
 rw [List.findIdx?_eq_some_iff_getElem] at hk
 obtain ⟨hkl, hkt, _⟩ := hk
 cases hb : isK kp ks kd ka kb l[j] with
 | false => rfl
 | true => exact absurd (h kp ks kd ka kb j k hj hkl hb hkt) hne
theorem TBv.dropped {base bt : Nat} {W W1 : World} {lim cnt trn : Int} {vs : List Value} {ls : Nat → List Rw} (hT : TBv base W bt lim cnt trn vs ls) (i : Nat) (hi : i < 256) {g cap k : Nat} (hk : k < (ls i).length) (hv : vs[i]?.getD undef = .slice (some ⟨g, 0, none⟩) (ls i).length cap)
  (hb : But (fun b => b = g) W W1) (hrow : W1.ownsRow base 177 8 (.slice (some ⟨g, 0, none⟩) ((ls i).length - 1) cap) ((ls i).length - 1) (rws ((ls i).eraseIdx k))) :
  TBv base (W1.setCell ⟨bt, 3 + i, none⟩ (.slice (some ⟨g, 0, none⟩) ((ls i).length - 1) cap)) bt lim cnt trn (vs.set i (.slice (some ⟨g, 0, none⟩) ((ls i).length - 1) cap)) (dpL ls i k) ∧ But (fun b => b = bt ∨ b = g) W (W1.setCell ⟨bt, 3 + i, none⟩ (.slice (some ⟨g, 0, none⟩) ((ls i).length - 1) cap)) := by
 obtain ⟨h1, h2, h3, h4, h5⟩ := hT
 have hO := h4 i hi
 rw [hv] at hO
 have hgt : ∃ cur, W.heap[g]? = some (.cells cur 177 (0, 0)) := by
  rcases hO.2 with ⟨e, _⟩ | ⟨g', cp, cur, e, _, hh, _⟩
  ·cases e
  ·cases e; exact ⟨cur, hh⟩
 have hne : bt ≠ g := fun e => by obtain ⟨cur, hh⟩ := hgt; rw [← e, h3] at hh; cases hh
 have hb3 : W1.heap[bt]? = some (.cells (.int .i64 lim :: .int .i64 cnt :: .int .i64 trn :: vs).toArray 142 (0, 0)) := (hb.block bt (bl9 h3) hne).trans h3
 have hset : (Value.int .i64 lim :: .int .i64 cnt :: .int .i64 trn :: vs).toArray.setIfInBounds (3 + i) (.slice (some ⟨g, 0, none⟩) ((ls i).length - 1) cap) = (Value.int .i64 lim :: .int .i64 cnt :: .int .i64 trn :: vs.set i (.slice (some ⟨g, 0, none⟩) ((ls i).length - 1) cap)).toArray := by
  rw [show 3 + i = i + 1 + 1 + 1 from by omega]
  simp
 have hV3 := heap_set1 hb3 (3 + i) (.slice (some ⟨g, 0, none⟩) ((ls i).length - 1) cap)
 rw [hset] at hV3
 have keep : ∀ (x : Nat) (o : Obj), x ≠ bt → W1.heap[x]? = some o → (W1.setCell ⟨bt, 3 + i, none⟩ (.slice (some ⟨g, 0, none⟩) ((ls i).length - 1) cap)).heap[x]? = some o := fun x o hx ho => hset_ne ho hx
 refine ⟨⟨by simpa using h1, h2, hV3, fun j hj => ?_, fun j k2 hj hk2 hjk x hx => ?_⟩, (⟨hb.os, hb.tape, hb.output, hb.size, fun x hx he => hb.block x hx (fun e => he (.inr e))⟩ : But (fun b => b = bt ∨ b = g) W W1).setCell (p := ⟨bt, 3 + i, none⟩) (.inl rfl) _⟩
 ·by_cases hji : j = i
  ·subst hji
   rw [List.getElem?_set_self (by omega)]
   unfold dpL
   rw [if_pos rfl, List.length_eraseIdx_of_lt hk]
   obtain ⟨q1, ⟨q2, q3⟩ | ⟨g2, cap2, cur, e, hgb, hh, q⟩⟩ := hrow
   ·cases q2
   ·refine ⟨q1, .inr ⟨g2, cap2, cur, e, hgb, keep g2 _ (fun e2 => ?_) hh, q⟩⟩
    rw [e2, hb3] at hh
    cases hh
  ·rw [List.getElem?_set_ne (fun e => hji e.symm)]
   unfold dpL
   rw [if_neg hji]
   obtain ⟨q1, q2 | ⟨g2, cap2, cur, e, hgb, hh, q⟩⟩ := h4 j hj
   ·exact ⟨q1, .inl q2⟩
   ·have hgg : g2 ≠ g := fun e2 => h5 i j hi hj (fun e => hji e.symm) g (by rw [hv]; rfl) (by rw [e, e2]; rfl)
    refine ⟨q1, .inr ⟨g2, cap2, cur, e, hgb, keep g2 _ (fun e2 => ?_) ((hb.block g2 (bl9 hh) hgg).trans hh), q⟩⟩
    rw [e2, h3] at hh
    cases hh
 ·by_cases hji : j = i
  ·subst hji
   rw [List.getElem?_set_self (by omega)] at hx
   rw [List.getElem?_set_ne hjk]
   have : g = x := by simpa [Value.ownBlock] using hx
   subst this
   exact h5 j k2 hj hk2 hjk g (by rw [hv]; rfl)
  ·rw [List.getElem?_set_ne (fun e => hji e.symm)] at hx
   by_cases hki : k2 = i
   ·subst hki
    rw [List.getElem?_set_self (by omega)]
    intro e
    have : g = x := by simpa [Value.ownBlock] using e
    subst this
    exact h5 j k2 hj hk2 hjk g hx (by rw [hv]; rfl)
   ·rw [List.getElem?_set_ne (fun e => hki e.symm)]
    exact h5 j k2 hj hk2 hjk x hx
theorem tremove_any (base bt gk : Nat) (lim cnt trn : Int) (vs : List Value) (ls : Nat → List Rw) (h : Int) (i k : Nat) (kp ks kd ka kb : Int) (w : World) (hT : TBv base w bt lim cnt trn vs ls) (hh : 0 ≤ h ∧ h ≤ 4294967295) (hhi : (h % 256).toNat = i) (hu : UQy (ls i)) (hk : kix kp ks kd ka kb (ls i) = some k)
  (hg : w.heap[gk]? = some (.cells #[.int .u8 kp, .int .u32 ks, .int .u32 kd, .int .u16 ka, .int .u16 kb] 68 (0, 0))) :
  Calls Tryz.prog 136 #[.pointer (some ⟨bt, 3, none⟩), .int .u32 h, .func (.func 179) #[] #[.pointer (some ⟨gk, 0, none⟩)]] w fun e w' => e = .returned (.tuple #[]) ∧ TB base w' bt lim cnt trn (dpL ls i k) ∧ But (fun b => b = bt ∨ (vs[i]?.getD undef).ownBlock = some b) w w' := by
 have hi : i < 256 := by omega
 have hkl : k < (ls i).length := by
  unfold kix at hk
  rw [List.findIdx?_eq_some_iff_getElem] at hk
  exact hk.1
 have hO := hT.2.2.2.1 i hi
 obtain ⟨g, cap, hv⟩ : ∃ g cap, vs[i]?.getD undef = .slice (some ⟨g, 0, none⟩) (ls i).length cap := by
  rcases hO.2 with ⟨_, e⟩ | ⟨g', cp, cur, e, _⟩
  ·omega
  ·exact ⟨g', cp, e⟩
 rw [hv] at hO
 have HD := hide (delfunc_any base g cap gk (ls i) k kp ks kd ka kb w hkl hk (hu.others hk) hO hg)
 have hc := hT.cell i hi
 rw [hv] at hc
 have HV := hide hv
 have HI := hide hhi
 clear hv hhi hO hk hu
 go_enter Tryz.func136, Tryz.ntmps136
 go_wp2_with fail
 refine (list_any bt h w hh).mono ?_
 rw [HI.out]
 rintro e w1 ⟨rfl, rfl⟩
 go_wp2_with fail
 refine HD.out.mono ?_
 rintro e w2 ⟨rfl, hrow, hb2⟩
 obtain ⟨hfin, hbt⟩ := hT.dropped i hi hkl HV.out hb2 hrow
 have hbb : w2.heap[bt]? = some (.cells (.int .i64 lim :: .int .i64 cnt :: .int .i64 trn :: vs).toArray 142 (0, 0)) := (hb2.block bt (bl9 hT.2.2.1) (fun e => by
  rcases hrow.2 with ⟨e2, _⟩ | ⟨g', cp, cur, e2, _, hh2, _⟩
  ·cases e2
  ·cases e2
   have := (bl9 hT.2.2.1)
   obtain ⟨q1, ⟨q2, q3⟩ | ⟨g3, cap3, cur3, q4, _, q5, _⟩⟩ := hT.2.2.2.1 i hi
   ·rw [HV.out] at q2; cases q2
   ·rw [HV.out] at q4; cases q4
    rw [← e, hT.2.2.1] at q5
    cases q5)).trans hT.2.2.1
 have k2 : w2.cell? ⟨bt, 3 + i, none⟩ = some (.slice (some ⟨g, 0, none⟩) (ls i).length cap) := by
  rw [block_cell hbb, ← block_cell hT.2.2.1]
  exact hc
 have f2 : w2.frozen? ⟨bt, 3 + i, none⟩ = false := block_frozen hbb _
 have HF := hide hfin
 have HB := hide hbt
 clear hfin hbt hrow
 go_wp2_with fail
 go_end0
 refine ⟨rfl, ⟨_, HF.out⟩, ⟨HB.out.os, HB.out.tape, HB.out.output, HB.out.size, fun x hx he => HB.out.block x hx (fun e => he (e.imp id (fun e => by rw [HV.out, e]; rfl)))⟩⟩
def dpe (ls : Nat → List Rw) (p s d a b : Int) : Int := if kx p s d a b ls = none then 11 else 0
def nb (s : Int) (b R S F A : Bool) : Int := if S && F && !R then 0 else (row7 s)[(if R then 1 else if S then (if b then 3 else if S && !F && !R && !A then 2 else 4) else if F then 5 else if A then 6 else 0 : Int).toNat]?.getD 0
def tmT (s : Int) : Int := if s == 1 || s == 4 || s == 6 then 120 else if s == 2 || s == 5 then 60 else if s == 3 then 432000 else if s == 7 then 10 else 0
def tmO (s u e : Int) : Int := if s == 8 then u else if s == 3 then e else 0
def tm (p s : Int) : Int := if p == 6 then tmT s else if p == 17 || p == 47 then tmO s 30 180 else if p == 1 then tmO s 30 30 else 0
def ot (s : Int) (b : Bool) : Int := if b || s == 3 then 3 else 8
theorem timeOfTcp_any (s : Int) (w : World) : Calls Tryz.prog 236 #[.int .i64 s] w fun e w' => e = .returned (.int .i64 (tmT s)) ∧ w' = w := by
 by_cases e1 : s = 1
 ·subst e1
  go_enter Tryz.func236, Tryz.ntmps236
  go_wp2_with fail
  go_ret
  exact ⟨rfl, rfl⟩
 by_cases e2 : s = 2
 ·subst e2
  clear e1
  go_enter Tryz.func236, Tryz.ntmps236
  go_wp2_with fail
  go_ret
  exact ⟨rfl, rfl⟩
 by_cases e3 : s = 3
 ·subst e3
  clear e1 e2
  go_enter Tryz.func236, Tryz.ntmps236
  go_wp2_with fail
  go_ret
  exact ⟨rfl, rfl⟩
 by_cases e4 : s = 4
 ·subst e4
  clear e1 e2 e3
  go_enter Tryz.func236, Tryz.ntmps236
  go_wp2_with fail
  go_ret
  exact ⟨rfl, rfl⟩
 by_cases e5 : s = 5
 ·subst e5
  clear e1 e2 e3 e4
  go_enter Tryz.func236, Tryz.ntmps236
  go_wp2_with fail
  go_ret
  exact ⟨rfl, rfl⟩
 by_cases e6 : s = 6
 ·subst e6
  clear e1 e2 e3 e4 e5
  go_enter Tryz.func236, Tryz.ntmps236
  go_wp2_with fail
  go_ret
  exact ⟨rfl, rfl⟩
 by_cases e7 : s = 7
 ·subst e7
  clear e1 e2 e3 e4 e5 e6
  go_enter Tryz.func236, Tryz.ntmps236
  go_wp2_with fail
  go_ret
  exact ⟨rfl, rfl⟩
 have f1 : (s == 1) = false := by simp [e1]
 have f2 : (s == 2) = false := by simp [e2]
 have f3 : (s == 3) = false := by simp [e3]
 have f4 : (s == 4) = false := by simp [e4]
 have f5 : (s == 5) = false := by simp [e5]
 have f6 : (s == 6) = false := by simp [e6]
 have f7 : (s == 7) = false := by simp [e7]
 clear e1 e2 e3 e4 e5 e6 e7
 have ht : tmT s = 0 := by unfold tmT; rw [f1, f2, f3, f4, f5, f6, f7]; rfl
 rw [ht]
 clear ht
 go_enter Tryz.func236, Tryz.ntmps236
 go_wp2_with fail
 go_ret
 exact ⟨rfl, rfl⟩
theorem timeOfOther_any (s u e : Int) (w : World) : Calls Tryz.prog 237 #[.int .i64 s, .int .i64 u, .int .i64 e] w fun e1 w' => e1 = .returned (.int .i64 (tmO s u e)) ∧ w' = w := by
 rcases Bool.eq_false_or_eq_true (s == 8) with f8 | f8
 ·rw [show tmO s u e = u from by unfold tmO; rw [f8]; rfl]
  go_enter Tryz.func237, Tryz.ntmps237
  go_wp2_with fail
  go_ret
  exact ⟨rfl, rfl⟩
 rcases Bool.eq_false_or_eq_true (s == 3) with f3 | f3
 ·rw [show tmO s u e = e from by unfold tmO; rw [f8, f3]; rfl]
  go_enter Tryz.func237, Tryz.ntmps237
  go_wp2_with fail
  go_ret
  exact ⟨rfl, rfl⟩
 ·rw [show tmO s u e = 0 from by unfold tmO; rw [f8, f3]; rfl]
  go_enter Tryz.func237, Tryz.ntmps237
  go_wp2_with fail
  go_ret
  exact ⟨rfl, rfl⟩
theorem time_any (p s : Int) (w : World) : Calls Tryz.prog 195 #[.int .u8 p, .int .i64 s] w fun e w' => e = .returned (.int .i64 (tm p s)) ∧ w' = w := by
 by_cases e6 : p = 6
 ·subst e6
  go_enter Tryz.func195, Tryz.ntmps195
  go_wp2_with fail
  refine (timeOfTcp_any s _).mono ?_
  rintro e w1 ⟨rfl, rfl⟩
  go_wp2_with fail
  go_ret
  exact ⟨rfl, rfl⟩
 by_cases e17 : p = 17
 ·subst e17
  go_enter Tryz.func195, Tryz.ntmps195
  go_wp2_with fail
  refine (timeOfOther_any s 30 180 _).mono ?_
  rintro e w1 ⟨rfl, rfl⟩
  go_wp2_with fail
  go_ret
  exact ⟨rfl, rfl⟩
 by_cases e47 : p = 47
 ·subst e47
  go_enter Tryz.func195, Tryz.ntmps195
  go_wp2_with fail
  refine (timeOfOther_any s 30 180 _).mono ?_
  rintro e w1 ⟨rfl, rfl⟩
  go_wp2_with fail
  go_ret
  exact ⟨rfl, rfl⟩
 by_cases e1 : p = 1
 ·subst e1
  go_enter Tryz.func195, Tryz.ntmps195
  go_wp2_with fail
  refine (timeOfOther_any s 30 30 _).mono ?_
  rintro e w1 ⟨rfl, rfl⟩
  go_wp2_with fail
  go_ret
  exact ⟨rfl, rfl⟩
 have f6 : (p == 6) = false := by simp [e6]
 have f17 : (p == 17) = false := by simp [e17]
 have f47 : (p == 47) = false := by simp [e47]
 have f1 : (p == 1) = false := by simp [e1]
 clear e6 e17 e47 e1
 rw [show tm p s = 0 from by unfold tm; rw [f6, f17, f47, f1]; rfl]
 go_enter Tryz.func195, Tryz.ntmps195
 go_wp2_with fail
 go_ret
 exact ⟨rfl, rfl⟩
theorem other_any (s : Int) (b : Bool) (w : World) : Calls Tryz.prog 198 #[.int .i64 s, .bool b] w fun e w' => e = .returned (.int .i64 (ot s b)) ∧ w' = w := by
 cases b
 ·rcases Bool.eq_false_or_eq_true (s == 3) with f3 | f3
  ·rw [show ot s false = 3 from by unfold ot; rw [f3]; rfl]
   go_enter Tryz.func198, Tryz.ntmps198
   go_wp2_with fail
   go_ret
   exact ⟨rfl, rfl⟩
  ·rw [show ot s false = 8 from by unfold ot; rw [f3]; rfl]
   go_enter Tryz.func198, Tryz.ntmps198
   go_wp2_with fail
   go_ret
   exact ⟨rfl, rfl⟩
 ·rw [show ot s true = 3 from rfl]
  go_enter Tryz.func198, Tryz.ntmps198
  go_wp2_with fail
  go_ret
  exact ⟨rfl, rfl⟩
structure Fl where
 blk : Nat
 id : Int
 o : Tu
 r : Tu
 side : Int
 st : Int
 till : Int
 ms : Int
 hv : Value
 hp : Value
def flc (f : Fl) : List Value := [.int .i64 f.id, .int .u8 f.o.pr, .int .u32 f.o.src, .int .u32 f.o.dst, .int .u16 f.o.sp, .int .u16 f.o.dp, .int .u8 f.r.pr, .int .u32 f.r.src, .int .u32 f.r.dst, .int .u16 f.r.sp, .int .u16 f.r.dp, .int .i64 f.side, .int .i64 f.st, .int .i64 f.till, .int .i64 f.ms, f.hv, f.hp]
structure Pl where
 pr : Int
 ad : Int
 blk : Nat
 ws : Nat → Nat
structure Gf where
 lo : Nat
 hi : Nat
 now : Int
 bg : Int
 ls : List Ru
 gr : Nat
 gf : Nat
 gt : Nat
 gb : Nat
 gp : Nat
 vr : Value
 ve : Value
 ex : List Ex
 cnt : Int
 trn : Int
 rw : Nat → List Rw
 fs : List Fl
 ps : List Pl
 fe : Array MapEntry
 pe : Array MapEntry
 cf : Nat
 cp : Nat
def gfc (s : Gf) : List Value := [.int .u16 (s.lo : Int), .int .u16 (s.hi : Int), .int .i64 s.now, .int .i64 s.bg, .pointer (some ⟨s.gr, 0, none⟩), .map (some s.gf), .pointer (some ⟨s.gt, 0, none⟩), .pointer (some ⟨s.gb, 0, none⟩), .map (some s.gp)]
def flE (f : Fl) : Value × Value := (.int .i64 f.id, .pointer (some ⟨f.blk, 0, none⟩))
def plE (p : Pl) : Value × Value := (.agg #[.int .u8 p.pr, .int .u32 p.ad], .pointer (some ⟨p.blk, 0, none⟩))
structure GF (base : Nat) (W : World) (g : Nat) (s : Gf) : Prop where
 bs : base ≤ g
 gc : W.heap[g]? = some (.cells (gfc s).toArray 81 (0, 0))
 rl : RL 136 base W s.gr s.vr s.ls
 tb : TB base W s.gt 128 s.cnt s.trn s.rw
 bl : BL 144 base W s.gb s.ve s.ex
 fl : W.heap[s.gf]? = some (.map s.fe s.cf)
 pl : W.heap[s.gp]? = some (.map s.pe s.cp)
 ne : s.gf ≠ s.gp
 bf : base ≤ s.gf ∧ base ≤ s.gp
 fm : s.fe.toList.map (fun e => (e.key, e.val)) = s.fs.map flE
 pm : s.pe.toList.map (fun e => (e.key, e.val)) = s.ps.map plE
 fb : ∀ f ∈ s.fs, base ≤ f.blk ∧ W.heap[f.blk]? = some (.cells (flc f).toArray 93 (0, 0))
 pb : ∀ p ∈ s.ps, PB base W p.blk (s.lo : Int) (s.hi : Int) p.ws
theorem GF.later {base : Nat} {A B : World} {g : Nat} {s : Gf} (h : GF base A g s) (l : Later A B) : GF base B g s :=
 ⟨h.bs, later_keep l h.gc, h.rl.later l, h.tb.laterD l, h.bl.later l, later_keep l h.fl, later_keep l h.pl, h.ne, h.bf, h.fm, h.pm, fun f hf => ⟨(h.fb f hf).1, later_keep l (h.fb f hf).2⟩, fun p hp => (h.pb p hp).later l⟩
def TE (W : World) (E : Nat → Prop) (ok : Obj → Prop) : Prop := ∀ b, E b → ∃ o, W.heap[b]? = some o ∧ ok o
theorem TE.keep {W W' : World} {E : Nat → Prop} {ok : Obj → Prop} (hE : TE W E ok) (hb : But E W W') {b : Nat} {o : Obj} (h : W.heap[b]? = some o) (ho : ¬ ok o) : W'.heap[b]? = some o :=
 (hb.block b (bl9 h) (fun e => by
  obtain ⟨o', h1, h2⟩ := hE b e
  rw [h] at h1
  exact ho (Option.some.inj h1 ▸ h2))).trans h
theorem TE.own {W W' : World} {E : Nat → Prop} {ok : Obj → Prop} (hE : TE W E ok) (hb : But E W W') {base : Nat} {e : TypeId} {size : Nat} {v : Value} {n : Nat} {xs : List Value} (h : W.ownsRow base e size v n xs) (ho : ∀ cur f, ¬ ok (.cells cur e f)) : W'.ownsRow base e size v n xs := by
 obtain ⟨q1, q2 | ⟨b, cap, cur', e', hb', hh, r⟩⟩ := h
 ·exact ⟨q1, .inl q2⟩
 ·exact ⟨q1, .inr ⟨b, cap, cur', e', hb', hE.keep hb hh (ho _ _), r⟩⟩
theorem TE.table {W W' : World} {E : Nat → Prop} {ok : Obj → Prop} (hE : TE W E ok) (hb : But E W W') {base bt : Nat} {lim cnt trn : Int} {ls : Nat → List Rw} (h : TB base W bt lim cnt trn ls) (h1 : ∀ cur f, ¬ ok (.cells cur 142 f)) (h2 : ∀ cur f, ¬ ok (.cells cur 177 f)) : TB base W' bt lim cnt trn ls := by
 obtain ⟨vs, q1, q2, q3, q4, q5⟩ := h
 exact ⟨vs, q1, q2, hE.keep hb q3 (h1 _ _), fun i hi => hE.own hb (q4 i hi) h2, q5⟩
def isT (ts : List TypeId) (o : Obj) : Prop := ∃ cur t f, o = .cells cur t f ∧ t ∈ ts
theorem isT_no {ts : List TypeId} {t : TypeId} (h : t ∉ ts) (cur : Array Value) (f : Nat × Nat) : ¬ isT ts (.cells cur t f) := fun ⟨_, _, _, e, hm⟩ => by cases e; exact h hm
theorem isT_map {ts : List TypeId} (m : Array MapEntry) (c : Nat) : ¬ isT ts (.map m c) := fun ⟨_, _, _, e, _⟩ => by cases e
theorem TE.one {W : World} {g : Nat} {cur : Array Value} {t : TypeId} {f : Nat × Nat} (h : W.heap[g]? = some (.cells cur t f)) : TE W (fun b => b = g) (isT [t]) := fun b e => by
 have e' : b = g := e
 exact ⟨_, by rw [e']; exact h, _, _, _, rfl, by simp⟩
theorem GF.keep {base g : Nat} {W W' : World} {s : Gf} (h : GF base W g s) {E : Nat → Prop} {ts : List TypeId} (hE : TE W E (isT ts)) (hb : But E W W') (hts : ts.all (fun t => t == 291 || t == 93) = true) :
  W'.heap[g]? = some (.cells (gfc s).toArray 81 (0, 0)) ∧ RL 136 base W' s.gr s.vr s.ls ∧ TB base W' s.gt 128 s.cnt s.trn s.rw ∧ BL 144 base W' s.gb s.ve s.ex ∧ W'.heap[s.gf]? = some (.map s.fe s.cf) ∧ W'.heap[s.gp]? = some (.map s.pe s.cp) := by
 have hn : ∀ t : TypeId, (t == 291 || t == 93) = false → t ∉ ts := fun t ht hm => by
  have := List.all_eq_true.1 hts t hm
  rw [ht] at this
  cases this
 refine ⟨hE.keep hb h.gc (isT_no (hn _ (by decide)) _ _), ⟨h.rl.1, hE.keep hb h.rl.2.1 (isT_no (hn _ (by decide)) _ _), hE.own hb h.rl.2.2 (isT_no (hn _ (by decide)))⟩, hE.table hb h.tb (isT_no (hn _ (by decide))) (isT_no (hn _ (by decide))), ⟨h.bl.1, hE.keep hb h.bl.2.1 (isT_no (hn _ (by decide)) _ _), hE.own hb h.bl.2.2 (isT_no (hn _ (by decide)))⟩, hE.keep hb h.fl (isT_map _ _), hE.keep hb h.pl (isT_map _ _)⟩
theorem ins_src {w : World} {b c : Nat} (hb : w.heap[b]? = some (.map #[] c)) (p a : Int) (v : Value) :
  ∃ w', (Instr.mapUpdate 79 (.map (some b)) (.agg #[.int .u8 p, .int .u32 a]) v).run Tryz.prog w = .ok () w' ∧ w'.heap[b]? = some (.map #[⟨.agg #[.int .u8 p, .int .u32 a], v, c⟩] (c + 1)) ∧ But (fun g => g = b) w w' := by
 have hf : (Instr.findKey 187 (.agg #[.int .u8 p, .int .u32 a]) []).run Tryz.prog w = .ok none w := MapKept.run_findKey Tryz.underlying187 rfl
 have hlt := (bl9 hb)
 refine ⟨{ w with heap := w.heap.setIfInBounds b (.map #[⟨.agg #[.int .u8 p, .int .u32 a], v, c⟩] (c + 1)) }, ?_, ?_, rfl, rfl, rfl, by simp, fun i hi he => ?_⟩
 ·simp [Instr.mapUpdate, run_underlying Tryz.underlying79, MapKept.run_getObj_map hb, ck_src, hf, MapKept.run_setObj_map _ hb, Result.andThen]
 ·simp [hlt]
 ·have he' : i ≠ b := he
  rw [Array.getElem?_setIfInBounds_ne (by omega)]
theorem pe_nil {s : Gf} {base g : Nat} {W : World} (h : GF base W g s) (hp : s.ps = []) : s.pe = #[] := by
 have := h.pm
 rw [hp] at this
 simp at this
 exact this
def withP (s : Gf) (pr ad : Int) (b : Nat) (ws : Nat → Nat) : Gf := { s with ps := [⟨pr, ad, b, ws⟩], pe := #[⟨.agg #[.int .u8 pr, .int .u32 ad], .pointer (some ⟨b, 0, none⟩), s.cp⟩], cp := s.cp + 1 }
def PnQ (base : Nat) (w w' : World) (g : Nat) (s : Gf) (pr ad : Int) (e : Ending) : Prop := ∃ b, e = .returned (.pointer (some ⟨b, 0, none⟩)) ∧ But (fun b => b = s.gp) w w' ∧ w.heap.size ≤ b ∧ GF base w' g (withP s pr ad b (wsOf (nums s.lo s.hi)))
theorem gpool_new (base g : Nat) (s : Gf) (pr ad : Int) (w : World) (h : GF base w g s) (hps : s.ps = []) (h1 : 1 ≤ s.lo) (h2 : s.lo ≤ s.hi) (h3 : s.hi < 65536) (hbs : base ≤ w.heap.size) :
  Calls Tryz.prog 139 #[.pointer (some ⟨g, 0, none⟩), .agg #[.int .u8 pr, .int .u32 ad]] w fun e w' => PnQ base w w' g s pr ad e := by
 have l0 := later_allocG w (.cells #[.int .u8 pr, .int .u32 ad] 187)
 have C0 := hide (heap_alloc_new w (.cells #[.int .u8 pr, .int .u32 ad] 187))
 have H1 := hide (h.later l0)
 have hpe := pe_nil h hps
 have HPE := hide hpe
 have HPS := hide hps
 clear h hps hpe
 go_enter Tryz.func139, Tryz.ntmps139
 go_upto_region 1 with fail
 generalize w.alloc _ = w1 at *
 generalize hgx : w.heap.size = gx at C0 ⊢
 refine anyT_begin (R := Later) 7 rfl (by kernel_rfl) ?_
 have ld : Later w1 w1.drew := Later.drew w1
 generalize w1.drew = w2 at *
 have L2 : Later w w2 := Later.trans l0 ld
 have H2 := hide (H1.out.later ld)
 have C2 := hide (later_keep ld C0.out)
 clear H1 C0 l0 ld
 have q0 : ∀ v, Later w2 v → ∀ j, v.cell? ⟨gx, j, none⟩ = #[.int .u8 pr, .int .u32 ad][j]? := fun v hv => block_cell (later_keep hv C2.out)
 have q1 : ∀ v, Later w2 v → ∀ j, v.cell? ⟨g, j, none⟩ = (gfc s).toArray[j]? := fun v hv => block_cell (later_keep hv H2.out.gc)
 unfold gfc at q1
 have q2 : ∀ v, Later w2 v → (Instr.lookup 79 (.map (some s.gp)) (.agg #[.int .u8 pr, .int .u32 ad]) false).run Tryz.prog v = .ok (.pointer none) v := fun v hv => look_src (c := s.cp) (by rw [← HPE.out]; exact later_keep hv H2.out.pl) pr ad
 refine tV Later.pre 0 rfl rfl ⟨_, fun v h => by (go_simp; rfl), ?_⟩; simp only [Act.put, sA, sB, sC]
 refine tV Later.pre 1 rfl rfl ⟨_, fun v h => by (go_simp; rfl), ?_⟩; simp only [Act.put, sA, sB, sC]
 refine tV Later.pre 2 rfl rfl ⟨_, fun v h => by (go_simp; rfl), ?_⟩; simp only [Act.put, sA, sB, sC]
 refine tV Later.pre 3 rfl rfl ⟨_, fun v h => by (go_simp; rfl), ?_⟩; simp only [Act.put, sA, sB, sC]
 refine tV Later.pre 4 rfl rfl ⟨_, fun v h => by (go_simp; rfl), ?_⟩; simp only [Act.put, sA, sB, sC]
 refine tV Later.pre 5 rfl rfl ⟨_, fun v h => by (go_simp; rfl), ?_⟩; simp only [Act.put, sA, sB, sC]
 refine tV Later.pre 6 rfl rfl ⟨_, fun v h => by (go_simp; rfl), ?_⟩; simp only [Act.put, sA, sB, sC]
 clear q0 q1 q2
 refine anyT_done (by kernel_rfl) ?_
 go_upto_region 3 with fail
 refine anyT_begin (R := Later) 10 rfl (by kernel_rfl) ?_
 have ld : Later w2 w2.drew := Later.drew w2
 generalize w2.drew = w3 at *
 have L3 : Later w w3 := Later.trans L2 ld
 have H3 := hide (H2.out.later ld)
 have C3 := hide (later_keep ld C2.out)
 clear H2 C2 L2 ld
 have q1 : ∀ v, Later w3 v → ∀ j, v.cell? ⟨g, j, none⟩ = (gfc s).toArray[j]? := fun v hv => block_cell (later_keep hv H3.out.gc)
 unfold gfc at q1
 refine tV Later.pre 0 rfl rfl ⟨_, fun v h => by (go_simp; rfl), ?_⟩; simp only [Act.put, sA, sB, sC]
 refine tV Later.pre 1 rfl rfl ⟨_, fun v h => by (go_simp; rfl), ?_⟩; simp only [Act.put, sA, sB, sC]
 refine tV Later.pre 2 rfl rfl ⟨_, fun v h => by (go_simp; rfl), ?_⟩; simp only [Act.put, sA, sB, sC]
 refine tV Later.pre 3 rfl rfl ⟨_, fun v h => by (go_simp; rfl), ?_⟩; simp only [Act.put, sA, sB, sC]
 refine tV Later.pre 4 rfl rfl ⟨_, fun v h => by (go_simp; rfl), ?_⟩; simp only [Act.put, sA, sB, sC]
 refine tV Later.pre 5 rfl rfl ⟨_, fun v h => by (go_simp; rfl), ?_⟩; simp only [Act.put, sA, sB, sC]
 refine tV Later.pre 6 rfl rfl ⟨_, fun v h => by (go_simp; rfl), ?_⟩; simp only [Act.put, sA, sB, sC]
 refine tV Later.pre 7 rfl rfl ⟨_, fun v h => by (go_simp; rfl), ?_⟩; simp only [Act.put, sA, sB, sC]
 clear q1
 refine anyT_one 8 rfl (by kernel_rfl) rfl ?_
 refine wp_enter 180 #[.int .u16 (s.lo : Int), .int .u16 (s.hi : Int)] (by go_simp) ?_
 refine (new8_yes s.lo s.hi h1 h2 h3 w3).mono ?_
 rintro e w4 ⟨rfl, l4, hP4⟩
 refine ⟨l4, ?_⟩
 simp only [Act.put, sA, sB, sC]
 refine tV Later.pre 9 rfl rfl ⟨_, fun v h => by (go_simp; rfl), ?_⟩; simp only [Act.put, sA, sB, sC]
 refine anyT_done (by kernel_rfl) ?_
 have L4 : Later w w4 := Later.trans L3 l4
 have H4 := hide (H3.out.later l4)
 have C4 := hide (later_keep l4 C3.out)
 have HP4 := hide hP4
 have hs34 : w.heap.size ≤ w3.heap.size := L3.size
 clear H3 C3 L3 l4 hP4
 generalize hpb : w3.heap.size = pb at *
 go_upto_region 4 with fail
 refine anyT_begin (R := But (fun b => b = s.gp)) 7 rfl (by kernel_rfl) ?_
 have ld : Later w4 w4.drew := Later.drew w4
 generalize w4.drew = w5 at *
 have L5 : Later w w5 := Later.trans L4 ld
 have H5 := hide (H4.out.later ld)
 have C5 := hide (later_keep ld C4.out)
 have HP5 := hide (HP4.out.later ld)
 clear H4 C4 L4 HP4 ld
 have q0 : ∀ v, But (fun b => b = s.gp) w5 v → ∀ j, v.cell? ⟨gx, j, none⟩ = #[.int .u8 pr, .int .u32 ad][j]? := fun v hv => block_cell ((hv.block gx (bl9 C5.out) (fun e => by have e' : gx = s.gp := e; have hh := H5.out.pl; rw [← e', C5.out] at hh; cases hh)).trans C5.out)
 have q1 : ∀ v, But (fun b => b = s.gp) w5 v → ∀ j, v.cell? ⟨g, j, none⟩ = (gfc s).toArray[j]? := fun v hv => block_cell ((hv.block g (bl9 H5.out.gc) (fun e => by have e' : g = s.gp := e; have hh := H5.out.pl; rw [← e', H5.out.gc] at hh; cases hh)).trans H5.out.gc)
 unfold gfc at q1
 refine tV (But.pre (fun b => b = s.gp)) 0 rfl rfl ⟨_, fun v h => by (go_simp; rfl), ?_⟩; simp only [Act.put, sA, sB, sC]
 refine tV (But.pre (fun b => b = s.gp)) 1 rfl rfl ⟨_, fun v h => by (go_simp; rfl), ?_⟩; simp only [Act.put, sA, sB, sC]
 refine tV (But.pre (fun b => b = s.gp)) 2 rfl rfl ⟨_, fun v h => by (go_simp; rfl), ?_⟩; simp only [Act.put, sA, sB, sC]
 refine tV (But.pre (fun b => b = s.gp)) 3 rfl rfl ⟨_, fun v h => by (go_simp; rfl), ?_⟩; simp only [Act.put, sA, sB, sC]
 refine tV (But.pre (fun b => b = s.gp)) 4 rfl rfl ⟨_, fun v h => by (go_simp; rfl), ?_⟩; simp only [Act.put, sA, sB, sC]
 refine tV (But.pre (fun b => b = s.gp)) 5 rfl rfl ⟨_, fun v h => by (go_simp; rfl), ?_⟩; simp only [Act.put, sA, sB, sC]
 clear q0 q1
 obtain ⟨w6, hrun, hm6, hb6⟩ := ins_src (w := w5) (b := s.gp) (c := s.cp) (by rw [← HPE.out]; exact H5.out.pl) pr ad (.pointer (some ⟨pb, 0, none⟩))
 refine anyT_one 6 rfl (by kernel_rfl) rfl ?_
 have HB6 := hide hb6
 have HM6 := hide hm6
 clear hb6 hm6
 unfold Oper.wp
 go_simp
 refine ⟨HB6.out, ?_⟩
 refine anyT_done (by kernel_rfl) ?_
 clear hrun
 have hk : ∀ (b : Nat) (cur : Array Value) (t : TypeId) (f : Nat × Nat), w5.heap[b]? = some (.cells cur t f) → w6.heap[b]? = some (.cells cur t f) := fun b cur t f hb => (HB6.out.block b (bl9 hb) (fun e => by have e' : b = s.gp := e; have hh := H5.out.pl; rw [← e', hb] at hh; cases hh)).trans hb
 have hko : ∀ {bs : Nat} {e : TypeId} {size : Nat} {v : Value} {n : Nat} {xs : List Value}, w5.ownsRow bs e size v n xs → w6.ownsRow bs e size v n xs := fun h => by
  obtain ⟨q1, q2 | ⟨b, cap, cur', e', hb', hh, r⟩⟩ := h
  ·exact ⟨q1, .inl q2⟩
  ·exact ⟨q1, .inr ⟨b, cap, cur', e', hb', hk _ _ _ _ hh, r⟩⟩
 have h6 : GF base w6 g (withP s pr ad pb (wsOf (nums s.lo s.hi))) := by
  have h5 := H5.out
  obtain ⟨vs, t1, t2, t3, t4, t5⟩ := h5.tb
  refine ⟨h5.bs, hk _ _ _ _ h5.gc, ⟨h5.rl.1, hk _ _ _ _ h5.rl.2.1, hko h5.rl.2.2⟩, ⟨vs, t1, t2, hk _ _ _ _ t3, fun i hi => hko (t4 i hi), t5⟩, ⟨h5.bl.1, hk _ _ _ _ h5.bl.2.1, hko h5.bl.2.2⟩, ?_, HM6.out, h5.ne, h5.bf, h5.fm, rfl, fun f hf => ⟨(h5.fb f hf).1, hk _ _ _ _ (h5.fb f hf).2⟩, fun p hp => ?_⟩
  ·exact (HB6.out.block s.gf (bl9 h5.fl) (fun e => h5.ne e)).trans h5.fl
  ·have hp' : p = ⟨pr, ad, pb, wsOf (nums s.lo s.hi)⟩ := by simpa [withP] using hp
   subst hp'
   exact ⟨Nat.le_trans (Nat.le_trans hbs hs34) HP5.out.1, HP5.out.2.1, hk _ _ _ _ HP5.out.2.2⟩
 have M6 : But (fun b => b = s.gp) w w6 := (But.of L5).trans HB6.out
 go_wp2_with fail
 go_ret
 exact ⟨pb, rfl, M6, by omega, h6⟩
attribute [local go_sem] Oper.semAt_some
theorem filter_interval (p : Nat → Bool) (N a b : Nat) (hab : a ≤ b) (hb : b < N) (h : ∀ m, m < N → p m = decide (a ≤ m ∧ m ≤ b)) : (List.range N).filter p = nums a b := by
 obtain ⟨r, hr⟩ : ∃ r, N = a + (b - a + 1) + r := ⟨N - b - 1, by omega⟩
 have e1 : (List.range a).filter p = [] := by
  rw [List.filter_eq_nil_iff]
  intro m hm
  have : m < a := by simpa using hm
  rw [h m (by omega)]
  simp
  omega
 have e2 : ((List.range (b - a + 1)).map (fun i => a + i)).filter p = nums a b := by
  unfold nums
  rw [List.filter_eq_self]
  intro m hm
  obtain ⟨i, hi, rfl⟩ := List.mem_map.1 hm
  have : i < b - a + 1 := by simpa using hi
  rw [h _ (by omega)]
  simp
  omega
 have e3 : ((List.range r).map (fun i => a + (b - a + 1) + i)).filter p = [] := by
  rw [List.filter_eq_nil_iff]
  intro m hm
  obtain ⟨i, hi, rfl⟩ := List.mem_map.1 hm
  have : i < r := by simpa using hi
  rw [h _ (by omega)]
  simp
  omega
 rw [hr, List.range_add, List.range_add, List.filter_append, List.filter_append, e1, e2, e3]
 simp
theorem elsTo_eq (ws : Nat → Nat) : ∀ i, elsTo ws i = (List.range (64 * i)).filter (fr ws)
 | 0 => by unfold elsTo; simp
 | i + 1 => by
  rw [elsTo_succ, elsTo_eq ws i, show 64 * (i + 1) = 64 * i + 64 from by omega, List.range_add, List.filter_append]
  congr 1
  unfold wel Pm.bl
  rw [List.filter_map]
  congr 1
  refine List.filter_congr fun j hj => ?_
  have : j < 64 := by simpa using hj
  simp only [Function.comp]
  unfold fr
  rw [show (64 * i + j) / 64 = i from by omega, show (64 * i + j) % 64 = j from by omega]
theorem els_eq (ws : Nat → Nat) : els ws = (List.range 65536).filter (fr ws) := elsTo_eq ws 1024
theorem els_interval (ws : Nat → Nat) (a b : Nat) (hab : a ≤ b) (hb : b < 65536) (h : ∀ m, m < 65536 → fr ws m = decide (a ≤ m ∧ m ≤ b)) : els ws = nums a b := by
 rw [els_eq]
 exact filter_interval (fr ws) 65536 a b hab hb h
theorem nums_cons (a b : Nat) (h : a ≤ b) : ∃ L, nums a b = a :: L := by
 unfold nums
 rw [List.range_succ_eq_map]
 exact ⟨_, rfl⟩
theorem PB.below {base n₀ : Nat} {A B : World} {b : Nat} {low high : Int} {ws : Nat → Nat} (h : PB base A b low high ws) (l : Below n₀ A B) (hb : b < n₀) : PB base B b low high ws := ⟨h.1, h.2.1, (l.block b hb).trans h.2.2⟩
def PUd (rb b : Nat) (W : World) : Prop := W.heap[rb]? = some (.cells #[.pointer (some ⟨b, 0, none⟩)] 246 (0, 0)) ∧ W.heap[rb + 1]? = some (.cells #[.slice none 0 0] 194 (0, 0))
theorem PUd.ct {rb b : Nat} {A B : World} (h : PUd rb b A) (c : CT A B) : PUd rb b B := ⟨c.2 _ _ h.1 rfl, c.2 _ _ h.2 rfl⟩
def tkn (lo hi wish : Nat) : Nat := if lo ≤ wish ∧ wish ≤ hi then wish else lo
theorem fr_new (lo hi m : Nat) (h : lo ≤ hi) : fr (wsOf (nums lo hi)) m = decide (lo ≤ m ∧ m ≤ hi) := by
 rw [fr_wsOf, decide_eq_decide]
 exact mem_nums h
theorem els_new (lo hi : Nat) (h : lo ≤ hi) (hh : hi < 65536) : els (wsOf (nums lo hi)) = nums lo hi := els_interval _ lo hi h hh (fun m _ => fr_new lo hi m h)
theorem fsn_new (lo hi wish : Nat) (h : lo ≤ hi) (hh : hi < 65536) : fsn (fr (wsOf (nums lo hi)) wish) wish (els (wsOf (nums lo hi))) = tkn lo hi wish ∧ fsb (fr (wsOf (nums lo hi)) wish) (els (wsOf (nums lo hi))) = true := by
 rw [fr_new lo hi wish h, els_new lo hi h hh]
 obtain ⟨L, hn⟩ := nums_cons lo hi h
 unfold fsn fsb tkn
 by_cases hw : lo ≤ wish ∧ wish ≤ hi
 ·simp [hw]
 ·rw [decide_eq_false hw]
  rw [hn]
  simp [hw]
theorem GF.pool {base g : Nat} {W W' : World} {s : Gf} {pr ad : Int} {b : Nat} {ws ws' : Nat → Nat} (h : GF base W g (withP s pr ad b ws)) (hb : But (fun x => x = b) W W') (hp : PB base W' b (s.lo : Int) (s.hi : Int) ws') : GF base W' g (withP s pr ad b ws') := by
 have hP := h.pb ⟨pr, ad, b, ws⟩ (by simp [withP])
 have hE := TE.one hP.2.2
 obtain ⟨k1, k2, k3, k4, k5, k6⟩ := h.keep hE hb (by decide)
 exact ⟨h.bs, k1, k2, k3, k4, k5, k6, h.ne, h.bf, h.fm, rfl, fun f hf => ⟨(h.fb f hf).1, hE.keep hb (h.fb f hf).2 (isT_no (by decide) _ _)⟩, fun p hp' => by
  have e : p = ⟨pr, ad, b, ws'⟩ := by simpa [withP] using hp'
  subst e
  exact hp⟩
def gTs : List TypeId := [81, 136, 35, 142, 177, 144, 159, 93, 291]
theorem GF.other {base g : Nat} {W W' : World} {s : Gf} (h : GF base W g s) {E : Nat → Prop} {ts : List TypeId} (hE : TE W E (isT ts)) (hb : But E W W') (hts : ts.all (fun t => !gTs.contains t) = true) : GF base W' g s := by
 have hn : ∀ t : TypeId, gTs.contains t = true → t ∉ ts := fun t ht hm => by
  have := List.all_eq_true.1 hts t hm
  rw [ht] at this
  cases this
 exact ⟨h.bs, hE.keep hb h.gc (isT_no (hn _ (by decide)) _ _), ⟨h.rl.1, hE.keep hb h.rl.2.1 (isT_no (hn _ (by decide)) _ _), hE.own hb h.rl.2.2 (isT_no (hn _ (by decide)))⟩, hE.table hb h.tb (isT_no (hn _ (by decide))) (isT_no (hn _ (by decide))), ⟨h.bl.1, hE.keep hb h.bl.2.1 (isT_no (hn _ (by decide)) _ _), hE.own hb h.bl.2.2 (isT_no (hn _ (by decide)))⟩, hE.keep hb h.fl (isT_map _ _), hE.keep hb h.pl (isT_map _ _), h.ne, h.bf, h.fm, h.pm, fun f hf => ⟨(h.fb f hf).1, hE.keep hb (h.fb f hf).2 (isT_no (hn _ (by decide)) _ _)⟩, fun p hp => ⟨(h.pb p hp).1, (h.pb p hp).2.1, hE.keep hb (h.pb p hp).2.2 (isT_no (hn _ (by decide)) _ _)⟩⟩
def TnQ (base : Nat) (w w' : World) (g : Nat) (s : Gf) (pr ad : Int) (wish : Nat) (e : Ending) : Prop := ∃ b, e = .returned (.tuple #[.agg #[.int .u8 pr, .int .u32 ad, .int .u16 (tkn s.lo s.hi wish : Int)], .bool true]) ∧ But (fun b => b = s.gp) w w' ∧ w.heap.size ≤ b ∧ GF base w' g (withP s pr ad b (wsR (wsOf (nums s.lo s.hi)) (tkn s.lo s.hi wish)))
theorem gtake_new (base g : Nat) (s : Gf) (pr ad : Int) (wish : Nat) (w : World) (h : GF base w g s) (hps : s.ps = []) (h1 : 1 ≤ s.lo) (h2 : s.lo ≤ s.hi) (h3 : s.hi < 65536) (hw : wish < 65536) (hbs : base ≤ w.heap.size) (hz : ∀ W, But (fun b => b = s.gp) w W → Dz W) (hg : 1 ≤ w.heap.size) :
  Calls Tryz.prog 229 #[.pointer (some ⟨g, 0, none⟩), .agg #[.int .u8 pr, .int .u32 ad], .int .u16 (wish : Int)] w fun e w' => TnQ base w w' g s pr ad wish e := by
 obtain ⟨l0, c0, c1⟩ := alloc2 w (.cells #[.int .u8 pr, .int .u32 ad] 187) (.cells #[.int .u8 0, .int .u32 0, .int .u16 0] 189)
 have C0 := hide c0
 have C1 := hide c1
 have HPL := hide (gpool_new base g s pr ad _ (h.later l0) hps h1 h2 h3 (Nat.le_trans hbs l0.size))
 have hgp := (bl9 h.pl)
 have HGP := hide hgp
 clear c0 c1 h hps hgp
 go_enter Tryz.func229, Tryz.ntmps229
 go_upto_region 1 with fail
 generalize (w.alloc (.cells #[.int .u8 pr, .int .u32 ad] 187)).alloc (.cells #[.int .u8 0, .int .u32 0, .int .u16 0] 189) = w1 at *
 generalize hgx : w.heap.size = gx at C0 C1 ⊢
 have k0 := block_cell C0.out
 have hs1 : w.heap.size ≤ w1.heap.size := l0.size
 go_wp2_with fail
 refine HPL.out.mono ?_
 rintro e w2 ⟨b, rfl, m2, hb2, h2'⟩
 clear k0 HPL
 have hkeep : ∀ k, k = gx ∨ k = gx + 1 → ¬ (k = s.gp) := fun k hk e => by have := HGP.out; omega
 have D0 := hide ((m2.block gx (bl9 C0.out) (hkeep gx (.inl rfl))).trans C0.out)
 have D1 := hide ((m2.block (gx + 1) (bl9 C1.out) (hkeep (gx + 1) (.inr rfl))).trans C1.out)
 have M2 : But (fun b => b = s.gp) w w2 := (But.of l0).trans m2
 have hx1 := (bl9 C1.out)
 have hz2 := hz w2 M2
 have HTK := hide (take8_any base b s.lo s.hi (wsOf (nums s.lo s.hi)) wish w2 (h2'.pb ⟨pr, ad, b, wsOf (nums s.lo s.hi)⟩ (by simp [withP])) hw hz2 (by omega))
 obtain ⟨e1, e2⟩ := fsn_new s.lo s.hi wish h2 h3
 rw [e1, tke_t e2] at HTK
 unfold tkP at HTK
 rw [e2] at HTK
 clear e1 e2
 have H2 := hide h2'
 clear h2' hz hz2 C0 C1 m2
 generalize hn : tkn s.lo s.hi wish = n at *
 have HN := hide hn
 clear hn
 go_wp2_with fail
 refine HTK.out.mono ?_
 rintro e w3 ⟨rfl, hP3, m3⟩
 have hP3' : PB base w3 b (s.lo : Int) (s.hi : Int) (wsR (wsOf (nums s.lo s.hi)) n) := by
  rcases hP3 with ⟨hf, _⟩ | ⟨_, hp⟩
  ·cases hf
  ·exact hp
 have h3' := H2.out.pool m3 hP3'
 have hbx : gx + 1 < b := by omega
 have E0 := hide ((m3.block gx (bl9 D0.out) (fun e => by have e' : gx = b := e; omega)).trans D0.out)
 have E1 := hide ((m3.block (gx + 1) (bl9 D1.out) (fun e => by have e' : gx + 1 = b := e; omega)).trans D1.out)
 have M3 : But (fun b => b = s.gp) w w3 := ⟨m3.os.trans M2.os, m3.tape.trans M2.tape, m3.output.trans M2.output, Nat.le_trans M2.size m3.size, fun i hi he => (m3.block i (Nat.lt_of_lt_of_le hi M2.size) (fun e => by have e' : i = b := e; omega)).trans (M2.block i hi he)⟩
 clear HTK hP3 m3 D0 D1 H2 M2
 have k0 := block_cell E0.out
 have k1 := block_cell E1.out
 have f1 := block_frozen E1.out
 go_wp2_with fail
 generalize hV : World.setCell _ ⟨gx + 1, 2, none⟩ _ = V8
 have hV9 : V8 = putRow w3 (gx + 1) 0 [.int .u8 pr, .int .u32 ad, .int .u16 (n : Int)] := hV.symm
 have hb8 : But (fun b => b = gx + 1) w3 V8 := by rw [hV9]; exact putRow_but (E := fun b => b = gx + 1) (n := gx + 1) rfl _ _ _ _ (But.refl _ _)
 have p8 := putRow_all [.int .u8 pr, .int .u32 ad, .int .u16 (n : Int)] E1.out rfl
 rw [← hV9] at p8
 clear hV hV9
 have P8 := block_cell p8
 have h8 := h3'.other (TE.one E1.out) hb8 (by decide)
 have M8 : But (fun b => b = s.gp) w V8 := ⟨hb8.os.trans M3.os, hb8.tape.trans M3.tape, hb8.output.trans M3.output, Nat.le_trans M3.size hb8.size, fun i hi he => (hb8.block i (Nat.lt_of_lt_of_le hi M3.size) (fun e => by have e' : i = gx + 1 := e; omega)).trans (M3.block i hi he)⟩
 exact bodyPost_ret (v := .tuple #[.agg #[.int .u8 pr, .int .u32 ad, .int .u16 (n : Int)], .bool true]) (by simp [results, Tryz.results229, go_sem, P8]) rfl ⟨b, by rw [HN.out], M8, by omega, by rw [HN.out]; exact h8⟩
theorem getF_none (base gt : Nat) (cnt trn : Int) (rw : Nat → List Rw) (p x d a b : Int) (W : World) (h : TB base W gt 128 cnt trn rw) (hk : kx p x d a b rw = none) (hs : 0 ≤ x ∧ x ≤ 4294967295) (hd : 0 ≤ d ∧ d ≤ 4294967295) (ha : 0 ≤ a ∧ a ≤ 65535) (hb : 0 ≤ b ∧ b ≤ 65535) :
  Calls Tryz.prog 75 #[.pointer (some ⟨gt, 0, none⟩), .agg #[.int .u8 p, .int .u32 x, .int .u32 d, .int .u16 a, .int .u16 b]] W fun e w' => e = .returned (.tuple #[.int .i64 0, .int .i64 0, .bool false]) ∧ Later W w' := by
 refine (get_any base gt 128 cnt trn rw p x d a b W h hs hd ha hb).mono ?_
 rintro e w' ⟨h1, rfl⟩
 exact ⟨by unfold gtv; rw [hk], h1⟩
theorem lookUpF_none (base g : Nat) (s : Gf) (p x d a b : Int) (w : World) (h : GF base w g s) (hk : kx p x d a b s.rw = none) (hs : 0 ≤ x ∧ x ≤ 4294967295) (hd : 0 ≤ d ∧ d ≤ 4294967295) (ha : 0 ≤ a ∧ a ≤ 65535) (hb : 0 ≤ b ∧ b ≤ 65535) :
  Calls Tryz.prog 33 #[.pointer (some ⟨g, 0, none⟩), .agg #[.int .u8 p, .int .u32 x, .int .u32 d, .int .u16 a, .int .u16 b]] w fun e w' => e = .returned (.tuple #[.pointer none, .bool false, .bool false]) ∧ Later w w' := by
 have l0 := later_allocG w (.cells #[.int .u8 p, .int .u32 x, .int .u32 d, .int .u16 a, .int .u16 b] 68)
 have C0 := hide (heap_alloc_new w (.cells #[.int .u8 p, .int .u32 x, .int .u32 d, .int .u16 a, .int .u16 b] 68))
 have HG := hide (h.later l0)
 have HGT := hide (fun W (l : Later w W) => getF_none base s.gt s.cnt s.trn s.rw p x d a b W (h.tb.laterD l) hk hs hd ha hb)
 clear h hs hd ha hb hk
 go_enter Tryz.func33, Tryz.ntmps33
 go_upto_region 1 with fail
 generalize w.alloc _ = w1 at *
 generalize w.heap.size = gx at *
 refine anyR_begin (R := Later) Later.pre Later.drew 13 rfl (by kernel_rfl) (fun V0 hV0 => ?_)
 have q0 : ∀ v, Later V0 v → ∀ j, v.cell? ⟨gx, j, none⟩ = #[.int .u8 p, .int .u32 x, .int .u32 d, .int .u16 a, .int .u16 b][j]? := fun v hv => block_cell (later_keep (hV0.trans hv) C0.out)
 have q1 : ∀ v, Later V0 v → ∀ j, v.cell? ⟨g, j, none⟩ = (gfc s).toArray[j]? := fun v hv => block_cell (later_keep (hV0.trans hv) HG.out.gc)
 unfold gfc at q1
 refine rV Later.pre 0 rfl rfl ⟨_, fun v h => by (go_simp; rfl), ?_⟩; simp only [Act.put, sA, sB, sC]
 refine rV Later.pre 1 rfl rfl ⟨_, fun v h => by (go_simp; rfl), ?_⟩; simp only [Act.put, sA, sB, sC]
 refine rV Later.pre 2 rfl rfl ⟨_, fun v h => by (go_simp; rfl), ?_⟩; simp only [Act.put, sA, sB, sC]
 refine rV Later.pre 3 rfl rfl ⟨_, fun v h => by (go_simp; rfl), ?_⟩; simp only [Act.put, sA, sB, sC]
 refine rV Later.pre 4 rfl rfl ⟨_, fun v h => by (go_simp; rfl), ?_⟩; simp only [Act.put, sA, sB, sC]
 clear q0 q1
 refine anyR_take Later.pre 5 (.tuple #[.int .i64 0, .int .i64 0, .bool false]) rfl (by kernel_rfl) (by kernel_rfl) (by kernel_rfl) (fun _ _ _ h => h) rfl (fun u hu => goes_call 75 #[.pointer (some ⟨s.gt, 0, none⟩), .agg #[.int .u8 p, .int .u32 x, .int .u32 d, .int .u16 a, .int .u16 b]] (by go_simp) (HGT.out u (Later.trans l0 (hV0.trans hu)))) ?_
 simp only [Act.put, sA, sB, sC]
 refine rV Later.pre 6 rfl rfl ⟨_, fun v h => by (go_simp; rfl), ?_⟩; simp only [Act.put, sA, sB, sC]
 refine rV Later.pre 7 rfl rfl ⟨_, fun v h => by (go_simp; rfl), ?_⟩; simp only [Act.put, sA, sB, sC]
 refine rV Later.pre 8 rfl rfl ⟨_, fun v h => by (go_simp; rfl), ?_⟩; simp only [Act.put, sA, sB, sC]
 refine rV Later.pre 9 rfl rfl ⟨_, fun v h => by (go_simp; rfl), ?_⟩; simp only [Act.put, sA, sB, sC]
 refine rV Later.pre 10 rfl rfl ⟨_, fun v h => by (go_simp; rfl), ?_⟩; simp only [Act.put, sA, sB, sC]
 refine rV Later.pre 11 rfl rfl ⟨_, fun v h => by (go_simp; rfl), ?_⟩; simp only [Act.put, sA, sB, sC]
 refine rV Later.pre 12 rfl rfl ⟨_, fun v h => by (go_simp; rfl), ?_⟩; simp only [Act.put, sA, sB, sC]
 refine anyR_done (by kernel_rfl) (fun V9 hV9 => ?_)
 go_wp2_with fail
 exact bodyPost_ret (v := .tuple #[.pointer none, .bool false, .bool false]) (by simp [results, Tryz.results33, go_sem]) rfl ⟨rfl, Later.trans l0 (hV0.trans hV9)⟩
theorem len_flows {w : World} {b : Nat} {es : Array MapEntry} {c : Nat} (hb : w.heap[b]? = some (.map es c)) : (Builtin.len_ #[74] 3 #[.map (some b)]).run Tryz.prog w = .ok (.int .i64 (es.size : Int)) w := by
 simp [Builtin.len_, Builtin.lenOf, run_underlying Tryz.underlying74, MapKept.run_getObj_map hb, Result.andThen, goInt]
theorem tup_neq (p x d a b p2 x2 d2 a2 b2 : Int) (w : World) (h : ¬ (p = p2 ∧ x = x2 ∧ d = d2 ∧ a = a2 ∧ b = b2)) : (binOp .neq 68 (.agg #[.int .u8 p, .int .u32 x, .int .u32 d, .int .u16 a, .int .u16 b]) (.agg #[.int .u8 p2, .int .u32 x2, .int .u32 d2, .int .u16 a2, .int .u16 b2])).run Tryz.prog w = .ok (.bool true) w := by
 go_simp
 by_cases h1 : p = p2 <;> by_cases h2 : x = x2 <;> by_cases h3 : d = d2 <;> by_cases h4 : a = a2 <;> by_cases h5 : b = b2 <;> simp_all
theorem roomFor_yes (base g : Nat) (s : Gf) (p x d a b p2 x2 d2 a2 b2 : Int) (w : World) (h : GF base w g s) (hk : kx p x d a b s.rw = none) (hk2 : kx p2 x2 d2 a2 b2 s.rw = none) (hs : 0 ≤ x ∧ x ≤ 4294967295) (hd : 0 ≤ d ∧ d ≤ 4294967295) (ha : 0 ≤ a ∧ a ≤ 65535) (hb : 0 ≤ b ∧ b ≤ 65535) (hs2 : 0 ≤ x2 ∧ x2 ≤ 4294967295) (hd2 : 0 ≤ d2 ∧ d2 ≤ 4294967295) (ha2 : 0 ≤ a2 ∧ a2 ≤ 65535) (hb2 : 0 ≤ b2 ∧ b2 ≤ 65535) (hfs : s.fs.length < 64) (hne : ¬ (p = p2 ∧ x = x2 ∧ d = d2 ∧ kyp p a = kyp p2 a2 ∧ b = b2)) :
  Calls Tryz.prog 230 #[.pointer (some ⟨g, 0, none⟩), .agg #[.int .u8 p, .int .u32 x, .int .u32 d, .int .u16 a, .int .u16 b], .agg #[.int .u8 p2, .int .u32 x2, .int .u32 d2, .int .u16 a2, .int .u16 b2]] w fun e w' => e = .returned (.bool true) ∧ Later w w' := by
 obtain ⟨l0, c0, c1⟩ := alloc2 w (.cells #[.int .u8 p, .int .u32 x, .int .u32 d, .int .u16 a, .int .u16 b] 68) (.cells #[.int .u8 p2, .int .u32 x2, .int .u32 d2, .int .u16 a2, .int .u16 b2] 68)
 have C0 := hide c0
 have C1 := hide c1
 have HL1 := hide (fun W (l : Later w W) => lookUpF_none base g s p x d a b W (h.later l) hk hs hd ha hb)
 have HL2 := hide (fun W (l : Later w W) => lookUpF_none base g s p2 x2 d2 a2 b2 W (h.later l) hk2 hs2 hd2 ha2 hb2)
 have hfz : s.fe.size = s.fs.length := by have := congrArg List.length h.fm; simpa using this
 have HG := hide h
 have HNE := hide hne
 clear c0 c1 h hk hk2 hs hd ha hb hs2 hd2 ha2 hb2 hne
 go_enter Tryz.func230, Tryz.ntmps230
 go_upto_region 1 with fail
 generalize (w.alloc (.cells #[.int .u8 p, .int .u32 x, .int .u32 d, .int .u16 a, .int .u16 b] 68)).alloc (.cells #[.int .u8 p2, .int .u32 x2, .int .u32 d2, .int .u16 a2, .int .u16 b2] 68) = w1 at *
 generalize w.heap.size = gx at C0 C1 ⊢
 have k0 := block_cell C0.out
 go_wp2_with fail
 refine (HL1.out w1 l0).mono ?_
 rintro e w2 ⟨rfl, l2⟩
 clear k0 HL1
 have L2 : Later w w2 := l0.trans l2
 have k1 := block_cell (later_keep l2 C1.out)
 go_wp2_with fail
 refine (HL2.out w2 L2).mono ?_
 rintro e w3 ⟨rfl, l3⟩
 clear k1 HL2
 have L3 : Later w w3 := L2.trans l3
 have D0 := hide (later_keep (Later.trans l2 l3) C0.out)
 have D1 := hide (later_keep (Later.trans l2 l3) C1.out)
 have H3 := hide (HG.out.later L3)
 clear C0 C1 HG l2 l3 L2
 go_upto_region 3 with fail
 refine anyR_begin (R := Later) Later.pre Later.drew 22 rfl (by kernel_rfl) (fun V0 hV0 => ?_)
 have q0 : ∀ v, Later V0 v → ∀ j, v.cell? ⟨gx, j, none⟩ = #[.int .u8 p, .int .u32 x, .int .u32 d, .int .u16 a, .int .u16 b][j]? := fun v hv => block_cell (later_keep (hV0.trans hv) D0.out)
 have q1 : ∀ v, Later V0 v → ∀ j, v.cell? ⟨gx + 1, j, none⟩ = #[.int .u8 p2, .int .u32 x2, .int .u32 d2, .int .u16 a2, .int .u16 b2][j]? := fun v hv => block_cell (later_keep (hV0.trans hv) D1.out)
 have q2 : ∀ v, Later V0 v → ∀ j, v.cell? ⟨g, j, none⟩ = (gfc s).toArray[j]? := fun v hv => block_cell (later_keep (hV0.trans hv) H3.out.gc)
 unfold gfc at q2
 have q3 : ∀ v, Later V0 v → v.heap[s.gf]? = some (.map s.fe s.cf) := fun v hv => later_keep (hV0.trans hv) H3.out.fl
 refine rV Later.pre 0 rfl rfl ⟨_, fun v h => by (go_simp; rfl), ?_⟩; simp only [Act.put, sA, sB, sC]
 refine rV Later.pre 1 rfl rfl ⟨_, fun v h => by (go_simp; rfl), ?_⟩; simp only [Act.put, sA, sB, sC]
 refine rV Later.pre 2 rfl rfl ⟨_, fun v h => by (go_simp; rfl), ?_⟩; simp only [Act.put, sA, sB, sC]
 refine rV Later.pre 3 rfl rfl ⟨_, fun v h => by (go_simp; rfl), ?_⟩; simp only [Act.put, sA, sB, sC]
 have hlI : ((s.fs.length : Nat) : Int) < 64 := by omega
 have q4 : ∀ v, Later V0 v → (Builtin.len_ #[74] 3 #[.map (some s.gf)]).run Tryz.prog v = .ok (.int .i64 ((s.fs.length : Nat) : Int)) v := fun v hv => by rw [← hfz]; exact len_flows (q3 v hv)
 clear q3
 refine rV Later.pre 4 rfl rfl ⟨_, fun v h => by (go_simp; rfl), ?_⟩; simp only [Act.put, sA, sB, sC]
 refine rV Later.pre 5 rfl rfl ⟨_, fun v h => by (go_simp; rfl), ?_⟩; simp only [Act.put, sA, sB, sC]
 clear q4
 refine rV Later.pre 6 rfl rfl ⟨_, fun v h => by (go_simp; rfl), ?_⟩; simp only [Act.put, sA, sB, sC]
 refine anyR_valG Later.pre 7 rfl (by kernel_rfl) (by kernel_rfl) (by kernel_rfl) (fun _ _ _ _ h => h) (by rfl) ⟨_, fun v h => by (go_simp; rfl), ?_⟩; simp only [Act.put, sA, sB, sC]
 refine anyR_valG Later.pre 8 rfl (by kernel_rfl) (by kernel_rfl) (by kernel_rfl) (fun _ _ _ _ h => h) (by rfl) ⟨_, fun v h => by (go_simp; rfl), ?_⟩; simp only [Act.put, sA, sB, sC]
 refine rV Later.pre 9 rfl rfl ⟨_, fun v h => by (go_simp; rfl), ?_⟩; simp only [Act.put, sA, sB, sC]
 refine rV Later.pre 10 rfl rfl ⟨_, fun v h => by (go_simp; rfl), ?_⟩; simp only [Act.put, sA, sB, sC]
 refine anyR_valG Later.pre 11 rfl (by kernel_rfl) (by kernel_rfl) (by kernel_rfl) (fun _ _ _ _ h => h) (by rfl) ⟨_, fun v h => by (go_simp; rfl), ?_⟩; simp only [Act.put, sA, sB, sC]
 refine anyR_valG Later.pre 12 rfl (by kernel_rfl) (by kernel_rfl) (by kernel_rfl) (fun _ _ _ _ h => h) (by rfl) ⟨_, fun v h => by (go_simp; rfl), ?_⟩; simp only [Act.put, sA, sB, sC]
 refine rV Later.pre 13 rfl rfl ⟨_, fun v h => by (go_simp; rfl), ?_⟩; simp only [Act.put, sA, sB, sC]
 refine rV Later.pre 14 rfl rfl ⟨_, fun v h => by (go_simp; rfl), ?_⟩; simp only [Act.put, sA, sB, sC]
 refine anyR_valG Later.pre 15 rfl (by kernel_rfl) (by kernel_rfl) (by kernel_rfl) (fun _ _ _ _ h => h) (by rfl) ⟨_, fun v h => by (go_simp; rfl), ?_⟩; simp only [Act.put, sA, sB, sC]
 refine anyR_valG Later.pre 17 rfl (by kernel_rfl) (by kernel_rfl) (by kernel_rfl) (fun _ _ _ _ h => h) (by rfl) ⟨_, fun v h => by (go_simp; rfl), ?_⟩; simp only [Act.put, sA, sB, sC]
 clear q0 q1 q2
 refine anyR_takeG Later.pre 16 (.agg #[.int .u8 p, .int .u32 x, .int .u32 d, .int .u16 (kyp p a), .int .u16 b]) rfl (by kernel_rfl) (by kernel_rfl) (by kernel_rfl) (fun _ _ _ h => h) (by rfl) (fun u hu => goes_call 76 #[.agg #[.int .u8 p, .int .u32 x, .int .u32 d, .int .u16 a, .int .u16 b]] (by go_simp) (key_any p x d a b u)) ?_
 simp only [Act.put, sA, sB, sC]
 refine anyR_takeG Later.pre 18 (.agg #[.int .u8 p2, .int .u32 x2, .int .u32 d2, .int .u16 (kyp p2 a2), .int .u16 b2]) rfl (by kernel_rfl) (by kernel_rfl) (by kernel_rfl) (fun _ _ _ h => h) (by rfl) (fun u hu => goes_call 76 #[.agg #[.int .u8 p2, .int .u32 x2, .int .u32 d2, .int .u16 a2, .int .u16 b2]] (by go_simp) (key_any p2 x2 d2 a2 b2 u)) ?_
 simp only [Act.put, sA, sB, sC]
 generalize kyp p a = ka at *
 generalize kyp p2 a2 = ka2 at *
 have q5 : ∀ v : World, (binOp .neq 68 (.agg #[.int .u8 p, .int .u32 x, .int .u32 d, .int .u16 ka, .int .u16 b]) (.agg #[.int .u8 p2, .int .u32 x2, .int .u32 d2, .int .u16 ka2, .int .u16 b2])).run Tryz.prog v = .ok (.bool true) v := fun v => tup_neq p x d ka b p2 x2 d2 ka2 b2 v HNE.out
 refine anyR_valG Later.pre 19 rfl (by kernel_rfl) (by kernel_rfl) (by kernel_rfl) (fun _ _ _ _ h => h) (by rfl) ⟨.bool true, fun v1 hv1 => by first | (simp only [execOp, Act.eval, Array.getD_eq_getD_getElem?, List.getElem?_toArray, List.getElem?_cons_zero, List.getElem?_cons_succ, Option.getD_some, Sem.run_bind, q5, Result.andThen]; rfl) | (have hn := HNE.out; clear q5; go_simp; by_cases g1 : p = p2 <;> by_cases g2 : x = x2 <;> by_cases g3 : d = d2 <;> by_cases g4 : ka = ka2 <;> by_cases g5 : b = b2 <;> simp_all), ?_⟩
 simp only [Act.put, sA, sB, sC]
 refine rV Later.pre 20 rfl rfl ⟨_, fun v h => by (go_simp; rfl), ?_⟩; simp only [Act.put, sA, sB, sC]
 refine rV Later.pre 21 rfl rfl ⟨_, fun v h => by (go_simp; rfl), ?_⟩; simp only [Act.put, sA, sB, sC]
 refine anyR_done (by kernel_rfl) (fun V9 hV9 => ?_)
 go_wp2_with fail
 go_ret
 exact ⟨rfl, L3.trans (hV0.trans hV9)⟩
end Go.Proofs.YtofknbfbmaefoaaGreatDoor
