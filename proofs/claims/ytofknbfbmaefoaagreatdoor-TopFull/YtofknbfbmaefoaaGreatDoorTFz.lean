import Derived.Test.YtofknbfbmaefoaaGreatDoorX1
import Derived.Test.YtofknbfbmaefoaaGreatDoorDHz
namespace Go.Proofs.YtofknbfbmaefoaaGreatDoor
set_option maxHeartbeats 8000000
open Go.RowKit Go.Shelf
set_option maxRecDepth 100000
set_option linter.unusedVariables false
set_option linter.unusedSimpArgs false
theorem spoken_last (base g : Nat) (s : Gf) (q : Int) (pb : Nat) (ws : Nat → Nat) (a : Nat) (w : World) (h : GF base w g s) (hfs : s.fs = []) (hrw : s.rw = rwL []) (hB : PoB s pb ws) (hfr : fr ws 1000 = true) (hls : s.ls = [mqR]) (hnow : s.now = 1000) (hex : s.ex = []) (hcn : s.cnt = 0) (htr : 0 ≤ s.trn ∧ s.trn ≤ 1000) (hbg : 0 ≤ s.bg ∧ s.bg ≤ 1000) (hq : 0 ≤ q ∧ q ≤ 65535) (ha : a ≤ 999) (hbs : base ≤ w.heap.size) (hz : ∀ W, KG base w W → Tb W ∧ Dz W) :
  Calls Tryz.prog 13 #[.pointer (some ⟨g, 0, none⟩), .int .u16 q, .int .u16 (a : Int)] w fun e w' => e = .returned (.int .i64 0) ∧ KG base w w' := by
 have hm : (1000 : Nat) ∈ els ws := els_mem.2 ⟨by omega, hfr⟩
 have hkx : ∀ t : Tu, kxT t s.rw = none := fun t => by rw [hrw]; exact (kxL_none [] t).2 (by simp)
 have hnil : ∀ x, x ∉ allR s.rw := fun x hx => by
  rw [hrw, allL_mem] at hx
  cases hx
 have hal : allR s.rw = [] := List.eq_nil_iff_forall_not_mem.2 hnil
 refine (spoken_H base g q (a : Int) s.now (fun rc n v W => rc = 0) w hq ⟨by omega, by omega⟩ (fun W sb z l hU hO => ?_)).mono ?_
 ·have hF := dg_facts hU (by simp) (show (0 : Int) ≤ 9 ∧ (9 : Int) ≤ 255 by omega) (by omega) (by omega)
  have hz8 : z.length = 8 := hU.2.1
  obtain ⟨sa, sc, rfl, _, _⟩ := hO.slice
  refine packet_H base g s 0 _ _ W (h.later l) (Nat.le_trans hbs l.size) ⟨_, _, _, rfl⟩ (by rw [hnow]; omega) hex (fun n hn => by rw [hal]; rfl) (by rw [hal]; simp) (fun rc n v A B k cur fz hh hk hb => hh) (fun W2 n v k hn hn1 hn2 hg => ?_)
  have K : KG base w W2 := (KG.of_later l).trans k
  have hTK : TkH base W2 g (ltr s n v) a mqR (fun _ _ _ _ => True) := fun W3 hg3 k3 => by
   have K3 := K.trans k3
   obtain ⟨x, l', he⟩ : ∃ x l', els ws = x :: l' := by
    cases hq : els ws with
    | nil => rw [hq] at hm; cases hm
    | cons x l => exact ⟨x, l, rfl⟩
   have hx : x ∈ els ws := by rw [he]; simp
   obtain ⟨N, hN, hN9⟩ : ∃ N, fsn (fr ws a) a (els ws) = N ∧ N < 65536 := by
    refine ⟨_, rfl, ?_⟩
    unfold fsn
    split
    ·omega
    ·rw [he]
     exact (els_mem.1 hx).1
   refine (gtake_old base g (ltr s n v) 17 16909060 pb ws a W3 hg3 hB.1 srE_17 (by omega) (Nat.le_trans hbs K3.size) (fun V l4 => (hz V (K3.trans (KG.of_later l4))).2) hB.2).mono ?_
   rintro e w' (⟨_, rfl, hb, hG⟩ | ⟨hf, _⟩)
   ·rw [hN] at hG ⊢
    exact ⟨N, [⟨17, 16909060, pb, wsR ws N⟩], s.pe, s.cp, rfl, ⟨hb.os, hb.tape, hb.output, hb.size, fun i hi he => hb.block i hi (fun q => he (.inr ⟨⟨17, 16909060, pb, ws⟩, by show _ ∈ s.ps; rw [hB.1]; simp, q.symm⟩))⟩, hG, hN9, trivial⟩
   ·unfold fsb at hf
    rw [he] at hf
    simp at hf
  have hRd : RdG (ltr s n v) 167772162 134744072 a (prt5 q) mqR (fun _ _ _ _ => True) := ⟨by show okL s.ls; rw [hls]; exact mq_okF, by show s.ls.find? _ = _; rw [hls]; exact mq_fdF, by omega, by omega, by omega, prt5_bd hq, by decide, prt5_ne q, by rw [beq_eq_false_iff_ne]; omega, hkx ⟨17, 167772162, 134744072, (a : Int), prt5 q⟩, fun m _ _ _ _ => hkx ⟨17, 134744072, 16909060, prt5 q, (m : Int)⟩, by show s.fs.length < 64; rw [hfs]; decide, by omega, by show 0 ≤ s.trn ∧ s.trn ≤ 900000; omega, hn, by show 0 ≤ s.bg ∧ s.bg ≤ 1000000; omega, (fun y hy => by
   have hy' : y ∈ s.fs := hy
   rw [hfs] at hy'
   cases hy'), by show 0 ≤ s.cnt ∧ s.cnt ≤ 1000; omega, fun i => by show (s.rw i).length ≤ 4000; rw [hrw]; exact Nat.le_trans (rwL_le [] i) (by simp)⟩
  refine (handle_g base g (ltr s n v) _ _ a (prt5 q) mqR (fun _ _ _ _ => True) W2 hg hF.by_ ((hO.kg k).rd) (by have := hF.len; omega) hF.rd hF.i9 (by rw [hF.i8]; omega) (by rw [hF.src, hF.dst]; exact hRd) (by rw [hF.src, hF.dst, hF.zd]; exact hU.2.2.1) (by rw [hF.zd]; exact hU.2.2.2.1) (by rw [hF.zd]; exact hU.2.2.2.2.1) (by rw [hF.zo]; simp) (by rw [hF.zo]; rfl) (by rw [hF.zo, hF.zd, hz8]; simp) (Nat.le_trans hbs K.size) (fun V k2 => (hz V (K.trans k2)).1) hTK).mono ?_
  rintro e w3 ⟨f, nn, ps, pe, cp, v3, hfb, rfl, k3, hFb, hG, ⟨htq, hn9, hHV⟩, hO3⟩
  obtain ⟨va, vc, eqv, _, _⟩ := hO3.slice
  exact ⟨0, 1, va, _, vc, by rw [eqv], k3, rfl⟩
 ·rintro e w' ⟨rc, n, v, rfl, hk, hn1, hn2, rfl⟩
  exact ⟨rfl, hk⟩
def StQ (base g : Nat) (q : Int) (w : World) (k : Nat) (wr : World) : Prop := KG base w wr ∧ ∃ s L ws pb, SpV base g wr s L (prt5 q) (4 * (k : Int)) ws ∧ PoB s pb ws ∧ s.fs.length = k ∧ (∀ x ∈ s.fs, 5 ≤ x.o.sp ∧ x.o.sp < 5 + (k : Int)) ∧ ∃ x ∈ s.fs, x.o.sp = 5
theorem start_sp {base g : Nat} {W : World} {s : Gs} (h : GI base W g s) (hk : GsK base 1000 1003 s) (hls : s.ls = [mqR]) (hnow : s.now = 0) {p : Int} (hp : 0 ≤ p ∧ p ≤ 65535) : SpV base g W (gfS 1000 1003 s) [] p 0 (wsOf (nums 1000 1003)) := by
 have hfr : ∀ m, fr (wsOf (nums 1000 1003)) m = decide (1000 ≤ m ∧ m ≤ 1003) := fun m => fr_new 1000 1003 m (by omega)
 refine ⟨h.toF hk, ⟨rfl, UL_nil, by simp, by simp, (by intro f hf; cases hf), (by intro f hf; cases hf), List.nodup_nil, (by intro x hx; cases hx), ⟨(by intro e he; cases he), (by intro e he; cases he), List.nodup_nil⟩, (by intro f hf; cases hf), (by intro f hf; cases hf), rfl, rfl, Nat.zero_le _, Nat.zero_le _, ⟨Int.le_refl _, Int.le_refl _⟩, ⟨Int.le_refl _, Int.le_refl _⟩, hp⟩, (by intro r hr; cases hr), ⟨(by intro f hf; cases hf), (by intro x hx; cases hx), fun m q1 q2 => .inl ?_, fun m hm => ?_, (by show 1003 < 65536; decide)⟩, (by intro f hf; cases hf), (by intro f hf; cases hf), hnow, hls, rfl, rfl, by rw [els_full]; rfl⟩
 ·rw [hfr]
  exact decide_eq_true ⟨q1, q2⟩
 ·rw [hfr] at hm
  exact of_decide_eq_true hm
theorem SpV.fa {base g : Nat} {W : World} {s : Gf} {L : List Rw} {p T : Int} {ws : Nat → Nat} (h : SpV base g W s L p T ws) (a : Nat) (ha : a ≤ 999) : fr ws a = false := by
 cases hb : fr ws a with
 | false => rfl
 | true => have := h.po.pl a hb; have := h.lo; omega
theorem AdQ.st {base g : Nat} {q : Int} {w w' : World} {s : Gf} {k : Nat} (h : AdQ base g w' s (prt5 q) (4 * (k : Int)) ((5 + k : Nat) : Int)) (hK : KG base w w') (hl : s.fs.length = k) (hs : ∀ x ∈ s.fs, 5 ≤ x.o.sp ∧ x.o.sp < 5 + (k : Int)) (h5 : k = 0 ∨ ∃ x ∈ s.fs, x.o.sp = 5) : StQ base g q w (k + 1) w' := by
 obtain ⟨s', L', ws', pb, q1, q2, q3, q4, ⟨x0, q5, q5'⟩, q6⟩ := h
 refine ⟨hK, s', L', ws', pb, by rw [show 4 * (((k + 1 : Nat)) : Int) = 4 * (k : Int) + 4 from by omega]; exact q1, q2, by rw [q3, hl], fun x hx => ?_, ?_⟩
 ·rcases q4 x hx with e | ⟨y, hy, e⟩
  ·omega
  ·have := hs y hy
   omega
 ·rcases h5 with rfl | ⟨y, hy, e⟩
  ·exact ⟨x0, q5, q5'⟩
  ·obtain ⟨x, hx, e2⟩ := q6 y hy
   exact ⟨x, hx, by rw [e2, e]⟩
theorem StQ.next {base g : Nat} {q : Int} {w wr : World} {k : Nat} (h : StQ base g q w k wr) (hq : 0 ≤ q ∧ q ≤ 65535) (hk3 : k ≤ 3) (hbs : base ≤ w.heap.size) (hz : ∀ W, KG base w W → Tb W ∧ Dz W) :
  Calls Tryz.prog 13 #[.pointer (some ⟨g, 0, none⟩), .int .u16 q, .int .u16 ((5 + k : Nat) : Int)] wr fun e w' => e = .returned (.int .i64 0) ∧ StQ base g q w (k + 1) w' := by
 obtain ⟨hK, s, L, ws, pb, hS, hB, hl, hs, h5⟩ := h
 have hbr : base ≤ wr.heap.size := Nat.le_trans hbs hK.size
 refine (spoken_new base g s L q (4 * (k : Int)) ws (5 + k) wr hS hq (by omega) (fun x hx e => by have := hs x hx; omega) (by omega) (by omega) hbr (fun W k2 => (hz W (hK.trans k2)).1) (tk_old hB hS.po (5 + k) (by omega) (hS.fa _ (by omega)) (fun e => by have := hS.el; rw [e] at this; simp at this; omega) wr hbr (fun W k2 => (hz W (hK.trans k2)).2))).mono ?_
 rintro e w' ⟨rfl, hk2, hA⟩
 exact ⟨rfl, hA.st (hK.trans hk2) hl hs (.inr h5)⟩
theorem walk_TopFull (w : World) (hT : Tb w) (hz : Dz w) (q : Int) (hq : 0 ≤ q ∧ q ≤ 65535) :
  Calls Tryz.prog 4 #[.int .u16 q] w fun e w' => e = .returned (.bool true) ∧ Below w.heap.size w w' := by
 have HT := hide (fun W (k : Below w.heap.size w W) => (⟨hT.later k, hz.later k⟩ : Tb W ∧ Dz W))
 have HZP := hide hz.pos
 clear hT hz
 have HPB := hide (prt5_bd hq)
 have HQ := hide hq
 clear hq
 go_enter Tryz.func4, Tryz.ntmps4
 go_wp2_with fail
 refine (gnew_now 1000 1003 w (by decide) (by decide)).mono ?_
 rintro e w1 ⟨g, s, rfl, l1, h1, hls, hgk, hnw⟩
 have HR := hide (grule_now w.heap.size g s mqR w1 h1 mq_wf (by rw [hls]; simp) l1.size)
 rw [hls, mq_ok, mq_list] at HR
 have HGK := hide hgk
 have HNW := hide hnw
 have L1 : Hid (Later w w1) := l1
 clear h1 hls hgk hnw l1
 go_wp2_with fail
 refine HR.out.mono ?_
 rintro e w2 ⟨rfl, hb2, s2, hl2, h2, hsm, hn2⟩
 have B2 : Hid (Below w.heap.size w w2) := (show Below w.heap.size w w1 from L1.out).trans hb2
 have HSP := hide (start_sp h2 (hsm.2 _ _ _ HGK.out) hl2 (by rw [hn2]; exact HNW.out) HPB.out)
 have hbs2 : w.heap.size ≤ w2.heap.size := B2.out.size
 have HZ := hide (fun W (k : KG w.heap.size w2 W) => HT.out W (B2.out.trans (k.below hbs2)))
 have HTK := hide (tk_new (base := w.heap.size) (g := g) (s := gfS 1000 1003 s2) rfl rfl rfl 5 (by omega) w2 hbs2 (fun W k => (HZ.out W k).2) (by have := HZP.out; omega))
 have H1 := hide (spoken_new w.heap.size g (gfS 1000 1003 s2) [] q 0 (wsOf (nums 1000 1003)) 5 w2 HSP.out HQ.out (by omega) (by intro x hx; cases hx) (by show (0 : Nat) < 4; decide) (by omega) hbs2 (fun W k => (HZ.out W k).1) HTK.out)
 rw [show ((5 : Nat) : Int) = 5 from rfl] at H1
 clear HR hb2 hl2 h2 hsm hn2 HGK HNW HTK
 go_wp2_with fail
 refine H1.out.mono ?_
 rintro e w3 ⟨rfl, k3, hA⟩
 have HST : Hid (StQ w.heap.size g q w2 1 w3) := AdQ.st (k := 0) hA k3 rfl (by intro x hx; cases hx) (.inl rfl)
 clear H1 hA k3 HSP
 go_upto_region 6 with fail
 go_loopw [5] (fun iv wr => ∃ k : Nat, 1 ≤ k ∧ k ≤ 4 ∧ iv = .int .i64 (k : Int) ∧ StQ w.heap.size g q w2 k wr) (fun iv _ => 4 - (intOf iv).toNat)
 case atStart => exact ⟨1, by omega, by omega, rfl, HST.out⟩
 case round =>
  obtain ⟨k, hk1, hk4, rfl, hst⟩ := hrel
  rename World => wr
  clear HST
  by_cases hlt : k < 4
  ·have HN := hide (hst.next HQ.out (by omega) hbs2 HZ.out)
   clear hst
   have hc : k = 1 ∨ k = 2 ∨ k = 3 := by omega
   rcases hc with rfl | rfl | rfl
   all_goals
    go_wp2_with fail
    refine HN.out.mono ?_
    rintro e w4 ⟨rfl, hst4⟩
    have HS4 := hide hst4
    clear HN hst4
    go_wp2_with fail
    go_roundw
    case rel => first | exact ⟨1 + 1, by decide, by decide, rfl, HS4.out⟩ | exact ⟨2 + 1, by decide, by decide, rfl, HS4.out⟩ | exact ⟨3 + 1, by decide, by decide, rfl, HS4.out⟩
    case measure => decide
  ·obtain rfl : k = 4 := by omega
   obtain ⟨hK, s, L, ws, pb, hS, hB, hl, hs, ⟨f, hf, h5⟩⟩ := hst
   have HK := hide hK
   have hbr : w.heap.size ≤ wr.heap.size := Nat.le_trans hbs2 hK.size
   have HZr := hide (fun W (k : KG w.heap.size wr W) => HZ.out W (HK.out.trans k))
   have HN := hide (spoken_none w.heap.size g s L q (4 * ((4 : Nat) : Int)) pb ws 40 wr hS hB HQ.out (by omega) (fun x hx e => by have := hs x hx; omega) hl (by omega) hbr HZr.out)
   rw [show ((40 : Nat) : Int) = 40 from rfl] at HN
   have HF5 := hide (And.intro hf h5)
   clear hK hS hB hs hl hf h5
   go_wp2_with fail
   refine HN.out.mono ?_
   rintro e w5 ⟨rfl, k5, s5, hS5, hB5, hfs5⟩
   have K5 := hide (HK.out.trans k5)
   have hbr5 : w.heap.size ≤ w5.heap.size := Nat.le_trans hbr k5.size
   have HN5 := hide (spoken_forth w.heap.size g s5 L q (4 * ((4 : Nat) : Int)) pb ws 5 f w5 hS5 hB5 HQ.out (by omega) (by rw [hfs5]; exact HF5.out.1) HF5.out.2 (by omega) hbr5 (fun W k => (HZ.out W (K5.out.trans k)).1))
   rw [show ((5 : Nat) : Int) = 5 from rfl] at HN5
   clear HN k5 hS5 hB5 hfs5 HK HZr
   go_wp2_with fail
   refine HN5.out.mono ?_
   rintro e w6 ⟨rfl, k6, s6, L6, hS6, hB6⟩
   have K6 := hide (K5.out.trans k6)
   have hbr6 : w.heap.size ≤ w6.heap.size := Nat.le_trans hbr5 k6.size
   have HTI := hide (tick_ends w.heap.size g s6 L6 (prt5 q) (4 * ((4 : Nat) : Int) + 2) pb ws w6 hS6.gf hS6.fi hS6.ti ⟨hB6.1, hS6.po.pf, hS6.po.pn, hS6.po.pa, hS6.po.pl, hS6.po.h3⟩ hS6.hv hS6.nw hbr6)
   have HS6 := hide (And.intro hS6 hB6)
   clear HN5 k6 hS6 hB6 K5
   go_wp2_with fail
   refine HTI.out.mono ?_
   rintro e w7 ⟨rfl, k7, s7, ws7, hG7, hfs7, hrw7, hps7, hfr7, hlo7, hhi7, hls7, hnow7, hex7, hcn7, htr7, hbg7⟩
   have K7 := hide (K6.out.trans k7)
   have hbr7 : w.heap.size ≤ w7.heap.size := Nat.le_trans hbr6 k7.size
   have HG7 := hide hG7
   have HFL := hide (flows_M0 w.heap.size g s7 w7 hG7 hfs7)
   have HLA := hide (fun W (l : Later w7 W) => spoken_last w.heap.size g s7 q pb ws7 41 W (hG7.later l) hfs7 hrw7 ⟨hps7, HS6.out.2.2⟩ (hfr7 1000 (by rw [HS6.out.1.lo]; omega) (by rw [HS6.out.1.hi]; omega)) (by rw [hls7]; exact HS6.out.1.ls) hnow7 hex7 hcn7 (by rw [htr7]; have := HS6.out.1.fi.tr; omega) (by rw [hbg7]; have := HS6.out.1.fi.bg; omega) HQ.out (by omega) (Nat.le_trans hbr7 l.size) (fun V k => HZ.out V (K7.out.trans ((KG.of_later l).trans k))))
   rw [show ((41 : Nat) : Int) = 41 from rfl] at HLA
   clear HTI k7 hG7 hfs7 hrw7 hps7 hfr7 hlo7 hhi7 hls7 hnow7 hex7 hcn7 htr7 hbg7 K6 HG7 HF5
   go_wp2_with fail
   refine HFL.out.mono ?_
   rintro e w8 ⟨rfl, l8⟩
   go_wp2_with fail
   refine (HLA.out w8 l8).mono ?_
   rintro e w9 ⟨rfl, k9⟩
   have HB9 := hide (B2.out.trans (((K7.out.trans (KG.of_later l8)).trans k9).below hbs2))
   clear HLA HFL k9 l8
   go_wp2_with fail
   go_ret
   exact ⟨rfl, HB9.out⟩
end Go.Proofs.YtofknbfbmaefoaaGreatDoor
