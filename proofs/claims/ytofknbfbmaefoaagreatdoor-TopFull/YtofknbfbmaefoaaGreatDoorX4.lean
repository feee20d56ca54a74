import Derived.Test.YtofknbfbmaefoaaGreatDoorX5
import Derived.Test.YtofknbfbmaefoaaGreatDoorX9
import Derived.Maps.RangeRun
import Derived.Test.YtofknbfbmaefoaaGreatDoorX10
namespace Go.Proofs.YtofknbfbmaefoaaGreatDoor
set_option maxHeartbeats 8000000
open Go.RowKit Go.Shelf
set_option maxRecDepth 100000
set_option linter.unusedVariables false
set_option linter.unusedSimpArgs false
theorem HvOk.aside {A B : World} {f : Fl} {ad : Int} {n k : Nat} {cur : Array Value} {t : TypeId} {fz : Nat × Nat} (h : HvOk A f ad n) (hk : A.heap[k]? = some (.cells cur t fz)) (ht : t ≠ 189) (hb : But (fun q => q = k) A B) : HvOk B f ad n := by
 obtain ⟨x, e, hh⟩ := h
 refine ⟨x, e, (hb.block x (bl9 hh) (fun q => ?_)).trans hh⟩
 have q' : x = k := q
 rw [q', hk] at hh
 injection hh with hh
 injection hh with h1 h2 h3
 exact ht h2
def ChG (base : Nat) (w w' : World) (g : Nat) (s : Gf) (tos id ttl src dst : Int) (keep : Bool) (zo zd : List Int) (a : Nat) (b : Int) (mr : Ru) (TQ : TkP) (e : Ending) : Prop := ∃ (f : Fl) (n : Nat) (ps : List Pl) (pe : Array MapEntry) (cp : Nat) (ao : Option Addr) (co : Nat) (ad : Option Addr) (cd : Nat), w.heap.size ≤ f.blk ∧ e = .returned (.agg #[.int .u8 tos, .int .u16 id, .bool keep, .int .u8 ttl, .int .u8 17, .int .u32 mr.tt, .int .u32 dst, .slice ao zo.length co, .slice ad zd.length cd]) ∧ KG base w w' ∧ FbF s ⟨17, src, dst, (a : Int), b⟩ mr n f ∧ GF base w' g (bcS (opS (setP s ps pe cp) f) f 8) ∧ (TQ n ps pe cp ∧ n < 65536 ∧ HvOk w' f mr.tt n) ∧ Ow w.heap.size w' (.slice ao zo.length co) zo ∧ Ow w.heap.size w' (.slice ad zd.length cd) (rwD 17 mr.tt dst (n : Int) b zd)
theorem changed_g (base g : Nat) (s : Gf) (tos id ttl src dst : Int) (keep : Bool) (so sd : Value) (zo zd : List Int) (a : Nat) (b : Int) (mr : Ru) (TQ : TkP) (n0 : Nat) (w : World) (h : GF base w g s) (hR : RdG s src dst a b mr TQ) (he : ofe 17 src dst zd = 0) (hea : ofa 17 zd = (a : Int)) (heb : ofb 17 zd = b) (hfl : flt zo.length zd.length = 0) (hBo : Mt.By zo) (hBd : Mt.By zd) (hOo : Ow n0 w so zo) (hOd : Ow n0 w sd zd) (hlo : zo.length ≤ 60000) (hld : zd.length ≤ 70000) (ht : 0 ≤ tos ∧ tos ≤ 255) (hid : 0 ≤ id ∧ id ≤ 65535) (htl : 0 ≤ ttl ∧ ttl ≤ 255) (hbs : base ≤ w.heap.size) (hz : ∀ W, KG base w W → Tb W) (hTK : TkH base w g s a mr TQ) :
  Calls Tryz.prog 57 #[.agg #[.pointer (some ⟨g, 0, none⟩), .int .u8 tos, .int .u16 id, .bool keep, .int .u8 ttl, .int .u8 17, .int .u32 src, .int .u32 dst, so, sd, .int .i64 0]] w fun e w' => ChG base w w' g s tos id ttl src dst keep zo zd a b mr TQ e := by
 obtain ⟨l0, c0, c1⟩ := alloc2 w (.cells #[.pointer (some ⟨g, 0, none⟩), .int .u8 tos, .int .u16 id, .bool keep, .int .u8 ttl, .int .u8 17, .int .u32 src, .int .u32 dst, so, sd, .int .i64 0] 149) (.cells #[.int .u8 0, .int .u16 0, .bool false, .int .u8 0, .int .u8 0, .int .u32 0, .int .u32 0, .slice none 0 0, .slice none 0 0] 56)
 have C0 := hide c0
 have C1 := hide c1
 clear c0 c1
 have HQ := hide (fun W (l : Later w W) => of_any tos id ttl 17 src dst keep so sd zd W (hz W (KG.of_later l)) hBd ((hOd.kg (KG.of_later (base := base) l)).rd) (by omega) hR.hx hR.hd)
 rw [he, hea, heb] at HQ
 have hv : otv 0 17 src dst (a : Int) b = .agg #[.int .u8 17, .int .u32 src, .int .u32 dst, .int .u16 (a : Int), .int .u16 b] := by unfold otv; rw [if_pos rfl]
 rw [hv] at HQ
 have HOW := hide (fun W (k : KG base w W) (hh : GF base W g s) => owner_g base g s tos id ttl 17 src dst keep so sd src dst a b mr TQ W hh hR (Nat.le_trans hbs k.size) (hTK.kg k))
 have HRW := hide (fun (n : Nat) (hn9 : n < 65536) W (k : KG base w W) => rewrite_any tos id ttl 17 src dst keep so sd zo zd 17 mr.tt dst (n : Int) b W (hz W k) hBo hBd ((hOo.kg k).rd) ((hOd.kg k).rd) (by omega) (by omega) ht hid htl (by decide) hR.hx hR.hd hR.tt hR.hd ⟨by omega, by omega⟩ hR.hb)
 have hrw : rwe 17 17 src dst zo.length zd = 0 := by unfold rwe; simp [he, hfl]
 rw [hrw] at HRW
 obtain ⟨sox, soc, rfl, _, _⟩ := hOo.slice
 obtain ⟨sdx, sdc, rfl, _, _⟩ := hOd.slice
 have HG := hide (h.later l0)
 clear hv h hR he hea heb hfl hBo hBd hOo hOd hz hTK hrw
 go_enter Tryz.func57, Tryz.ntmps57
 go_upto_region 1 with fail
 generalize (w.alloc (.cells _ 149)).alloc (.cells _ 56) = w1 at *
 generalize hgx : w.heap.size = gx at C0 C1 ⊢
 have k0 := block_cell C0.out
 go_wp2_with fail
 refine (HQ.out w1 l0).mono ?_
 rintro e w2 ⟨l2, rfl⟩
 have l2' : Later w1 w2 := l2
 clear k0 HQ l2
 go_upto_region 2 with fail
 have la := later_allocG w2 (.cells #[.int .u8 17, .int .u32 src, .int .u32 dst, .int .u16 (a : Int), .int .u16 b] 68)
 have C3 := hide (heap_alloc_new w2 (.cells #[.int .u8 17, .int .u32 src, .int .u32 dst, .int .u16 (a : Int), .int .u16 b] 68))
 have D0 := hide (later_keep (l2'.trans la) C0.out)
 have D1 := hide (later_keep (l2'.trans la) C1.out)
 have H3 := hide (HG.out.later (l2'.trans la))
 have L3 : Later w (w2.alloc (.cells #[.int .u8 17, .int .u32 src, .int .u32 dst, .int .u16 (a : Int), .int .u16 b] 68)) := l0.trans (l2'.trans la)
 change Code.wp _ _ _ _ (w2.alloc (.cells #[.int .u8 17, .int .u32 src, .int .u32 dst, .int .u16 (a : Int), .int .u16 b] 68))
 generalize w2.alloc (.cells #[.int .u8 17, .int .u32 src, .int .u32 dst, .int .u16 (a : Int), .int .u16 b] 68) = w3 at *
 generalize hg3 : w2.heap.size = g3 at *
 have hg3x : gx + 1 < g3 := by rw [← hg3]; exact Nat.lt_of_lt_of_le (bl9 C1.out) l2'.size
 clear C0 C1 HG l2' la hg3
 have k0 := block_cell D0.out
 have k3 := block_cell C3.out
 go_wp2_with fail
 refine (grefuse_no 1 _).mono ?_
 rintro e w4 ⟨rfl, hw4⟩
 subst hw4
 go_wp2_with fail
 refine (HOW.out w3 (KG.of_later L3) H3.out).mono ?_
 rintro e w4 ⟨f, n, ps2, pe2, cp2, hfb, rfl, kg4, hid', ho, hr, hsd, hms, hhp, hG4, htq, hn9, hHV⟩
 have HTQ := hide (show TQ n ps2 pe2 cp2 ∧ n < 65536 from ⟨htq, hn9⟩)
 have HHV := hide hHV
 clear htq hn9 hHV
 clear k0 k3 HOW H3
 have K4 : Hid (KG base w w4) := (KG.of_later L3).trans kg4
 have E0 := hide (kg4.cells D0.out (by decide))
 have E1 := hide (kg4.cells D1.out (by decide))
 have E3 := hide (kg4.cells C3.out (by decide))
 have hfx : g3 < f.blk := Nat.lt_of_lt_of_le (bl9 C3.out) hfb
 have G4 := hide hG4
 obtain ⟨TL, hF⟩ : ∃ TL, w4.heap[f.blk]? = some (.cells (flc (f.at 8 TL)).toArray 93 (0, 0)) := ⟨_, (hG4.fb (f.at 8 _) (mem_withF (f := f) (by show f ∈ _ ++ [f]; simp) rfl)).2⟩
 have hr2 : (f.at 8 TL).r = ⟨17, dst, mr.tt, b, (n : Int)⟩ := by
  show f.r = _
  rw [hr]
 have HOT := hide (other_no (f.at 8 TL) w4 hF)
 rw [hr2] at HOT
 have HFF := hide hF
 clear hG4 hF hr2 kg4
 go_wp2_with fail
 refine HOT.out.mono ?_
 rintro e w5 ⟨rfl, l5⟩
 go_wp2_with fail
 refine (reverse_any 17 dst mr.tt b (n : Int) w5).mono ?_
 rintro e w6 ⟨rfl, l6⟩
 have l6' : Later w5 w6 := l6
 clear l6 HOT
 have la := later_allocG w6 (.cells #[.int .u8 17, .int .u32 mr.tt, .int .u32 dst, .int .u16 (n : Int), .int .u16 b] 68)
 have CI := hide (heap_alloc_new w6 (.cells #[.int .u8 17, .int .u32 mr.tt, .int .u32 dst, .int .u16 (n : Int), .int .u16 b] 68))
 have LA := hide la
 clear la
 go_upto_region 7 with fail
 generalize w6.alloc _ = w7 at *
 generalize hg7 : w6.heap.size = g7 at *
 have L47 : Later w4 w7 := l5.trans (l6'.trans LA.out)
 have hg7x : g3 < g7 := by
  have q1 := (bl9 E3.out)
  have q2 := l5.size
  have q3 := l6'.size
  omega
 have L47h := hide L47
 have J0 := hide (later_keep L47 E0.out)
 have J1 := hide (later_keep L47 E1.out)
 have J3 := hide (later_keep L47 E3.out)
 have JF := hide (later_keep L47 HFF.out)
 have K7 : Hid (KG base w w7) := K4.out.trans (KG.of_later L47)
 have G7 := hide (G4.out.later L47)
 clear E0 E1 E3 HFF K4 G4 l5 l6' LA hg7 L47
 have k0 := block_cell J0.out
 have kI := block_cell CI.out
 go_wp2_with fail
 refine (HRW.out n HTQ.out.2 w7 K7.out).mono ?_
 rintro e w8 ⟨l8, ⟨h0, _⟩ | ⟨_, ao, co, ad, cd, rfl, ho8, hd8⟩⟩
 ·exact absurd rfl h0
 have l8' : Later w7 w8 := l8
 clear k0 kI l8 HRW
 have la := later_allocG w8 (.cells #[.int .u8 tos, .int .u16 id, .bool keep, .int .u8 ttl, .int .u8 17, .int .u32 mr.tt, .int .u32 dst, .slice ao zo.length co, .slice ad zd.length cd] 56)
 have CP := hide (heap_alloc_new w8 (.cells #[.int .u8 tos, .int .u16 id, .bool keep, .int .u8 ttl, .int .u8 17, .int .u32 mr.tt, .int .u32 dst, .slice ao zo.length co, .slice ad zd.length cd] 56))
 have LA := hide la
 have hs78 : w7.heap.size ≤ w8.heap.size := l8'.size
 clear la
 go_upto_region 8 with fail
 generalize w8.alloc _ = w9 at *
 generalize hg9 : w8.heap.size = g9 at *
 have L79 : Later w7 w9 := l8'.trans LA.out
 have L49 := hide (L47h.out.trans L79)
 have hg9x : g7 < g9 := by
  have q1 := (bl9 CI.out)
  omega
 have N0 := hide (later_keep L79 J0.out)
 have N1 := hide (later_keep L79 J1.out)
 have N3 := hide (later_keep L79 J3.out)
 have NF := hide (later_keep L79 JF.out)
 have NI := hide (later_keep L79 CI.out)
 have K9 : Hid (KG base w w9) := K7.out.trans (KG.of_later L79)
 have G9 := hide (G7.out.later L79)
 have O9 := hide ((ho8.mono K7.out.size).kg (KG.of_later (base := base) LA.out))
 have Q9 := hide ((hd8.mono K7.out.size).kg (KG.of_later (base := base) LA.out))
 clear J0 J1 J3 JF CI K7 G7 l8' LA hg9 L79 ho8 hd8 hs78
 refine anyT_begin (R := But (fun q => q = gx + 1)) 13 rfl (by kernel_rfl) ?_
 have ld : Later w9 w9.drew := Later.drew w9
 generalize w9.drew = wd at *
 have hnb : ∀ (k : Nat) (cur : Array Value) (t : TypeId) (fz : Nat × Nat), k ≠ gx + 1 → w9.heap[k]? = some (.cells cur t fz) → ∀ v, But (fun q => q = gx + 1) wd v → v.heap[k]? = some (.cells cur t fz) := fun k cur t fz hk hh v hv => (hv.block k (Array.getElem?_eq_some_iff.1 (later_keep ld hh)).1 (fun e => hk e)).trans (later_keep ld hh)
 have k0 : ∀ v, But (fun q => q = gx + 1) wd v → ∀ j, v.cell? ⟨gx, j, none⟩ = _ := fun v hv => block_cell (hnb gx _ _ _ (by omega) N0.out v hv)
 have k3 : ∀ v, But (fun q => q = gx + 1) wd v → ∀ j, v.cell? ⟨g3, j, none⟩ = _ := fun v hv => block_cell (hnb g3 _ _ _ (by omega) N3.out v hv)
 have k7 : ∀ v, But (fun q => q = gx + 1) wd v → ∀ j, v.cell? ⟨g7, j, none⟩ = _ := fun v hv => block_cell (hnb g7 _ _ _ (by omega) NI.out v hv)
 have k9 : ∀ v, But (fun q => q = gx + 1) wd v → ∀ j, v.cell? ⟨g9, j, none⟩ = _ := fun v hv => block_cell (hnb g9 _ _ _ (by omega) CP.out v hv)
 have kF : ∀ v, But (fun q => q = gx + 1) wd v → ∀ j, v.cell? ⟨f.blk, j, none⟩ = (flc (f.at 8 TL)).toArray[j]? := fun v hv => block_cell (hnb f.blk _ _ _ (by omega) NF.out v hv)
 unfold flc Fl.at at kF
 rw [hhp] at kF
 unfold noh at kF
 refine tV (But.pre (fun q => q = gx + 1)) 0 rfl rfl ⟨_, fun v h => by (go_simp; rfl), ?_⟩; simp only [Act.put, sA, sB, sC]
 refine tV (But.pre (fun q => q = gx + 1)) 1 rfl rfl ⟨_, fun v h => by (go_simp; rfl), ?_⟩; simp only [Act.put, sA, sB, sC]
 refine tV (But.pre (fun q => q = gx + 1)) 2 rfl rfl ⟨_, fun v h => by (go_simp; rfl), ?_⟩; simp only [Act.put, sA, sB, sC]
 refine tV (But.pre (fun q => q = gx + 1)) 3 rfl rfl ⟨_, fun v h => by (go_simp; rfl), ?_⟩; simp only [Act.put, sA, sB, sC]
 refine tV (But.pre (fun q => q = gx + 1)) 4 rfl rfl ⟨_, fun v h => by (go_simp; rfl), ?_⟩; simp only [Act.put, sA, sB, sC]
 refine tV (But.pre (fun q => q = gx + 1)) 5 rfl rfl ⟨_, fun v h => by (go_simp; rfl), ?_⟩; simp only [Act.put, sA, sB, sC]
 refine tV (But.pre (fun q => q = gx + 1)) 6 rfl rfl ⟨_, fun v h => by (go_simp; rfl), ?_⟩; simp only [Act.put, sA, sB, sC]
 refine tV (But.pre (fun q => q = gx + 1)) 7 rfl rfl ⟨_, fun v h => by (go_simp; rfl), ?_⟩; simp only [Act.put, sA, sB, sC]
 refine tV (But.pre (fun q => q = gx + 1)) 8 rfl rfl ⟨_, fun v h => by (go_simp; rfl), ?_⟩; simp only [Act.put, sA, sB, sC]
 refine tV (But.pre (fun q => q = gx + 1)) 9 rfl rfl ⟨_, fun v h => by (go_simp; rfl), ?_⟩; simp only [Act.put, sA, sB, sC]
 refine tV (But.pre (fun q => q = gx + 1)) 10 rfl rfl ⟨_, fun v h => by (go_simp; rfl), ?_⟩; simp only [Act.put, sA, sB, sC]
 clear k0 k3 k7 k9 kF
 refine anyT_one 11 rfl (by kernel_rfl) rfl ?_
 refine wp_enter 503 #[.agg #[], .agg #[.pointer (some ⟨g, 0, none⟩), .int .u8 tos, .int .u16 id, .bool keep, .int .u8 ttl, .int .u8 17, .int .u32 src, .int .u32 dst, .slice sox zo.length soc, .slice sdx zd.length sdc, .int .i64 0, .pointer (some ⟨f.blk, 0, none⟩), .bool false, .int .u8 17, .int .u32 src, .int .u32 dst, .int .u16 (a : Int), .int .u16 b, .int .u8 17, .int .u32 mr.tt, .int .u32 dst, .int .u16 (n : Int), .int .u16 b], .agg #[.int .u8 tos, .int .u16 id, .bool keep, .int .u8 ttl, .int .u8 17, .int .u32 mr.tt, .int .u32 dst, .slice ao zo.length co, .slice ad zd.length cd]] (by have hmt := meth_noh; go_simp) ?_
 refine (nohelp_any _ wd tos id ttl 17 mr.tt dst keep ao ad zo.length co zd.length cd).mono ?_
 rintro e w10 ⟨rfl, l10⟩
 refine ⟨But.of l10, ?_⟩
 simp only [Act.put, sA, sB, sC]
 have N1d := hide (later_keep (ld.trans l10) N1.out)
 have kk := block_cell N1d.out
 have ff := block_frozen N1d.out
 refine anyT_one 12 rfl (by kernel_rfl) rfl ?_
 unfold Oper.wp
 go_simp
 generalize hV : World.setCell _ ⟨_, 8, none⟩ _ = V8
 have hV9 : V8 = putRow w10 (gx + 1) 0 [.int .u8 tos, .int .u16 id, .bool keep, .int .u8 ttl, .int .u8 17, .int .u32 mr.tt, .int .u32 dst, .slice ao zo.length co, .slice ad zd.length cd] := hV.symm
 have hb8 : But (fun b => b = gx + 1) w10 V8 := by rw [hV9]; exact putRow_but (E := fun b => b = gx + 1) (n := gx + 1) rfl _ _ _ _ (But.refl _ _)
 have p8 := putRow_all [.int .u8 tos, .int .u16 id, .bool keep, .int .u8 ttl, .int .u8 17, .int .u32 mr.tt, .int .u32 dst, .slice ao zo.length co, .slice ad zd.length cd] N1d.out rfl
 rw [← hV9] at p8
 clear hV hV9 kk ff
 have HB8 := hide hb8
 have HP8 := hide p8
 clear hb8 p8
 refine ⟨HB8.out, ?_⟩
 refine anyT_done (by kernel_rfl) ?_
 have k410 : KG base w4 w9 := KG.of_later L49.out
 have K10 : KG base w w10 := K9.out.trans (KG.of_later (ld.trans l10))
 have k8 : KG base w V8 := K10.own HB8.out (by omega)
 have o8 := ((O9.out.kg (KG.of_later (base := base) (ld.trans l10))).aside N1d.out (by decide) HB8.out)
 have q8 := ((Q9.out.kg (KG.of_later (base := base) (ld.trans l10))).aside N1d.out (by decide) HB8.out)
 have P8 := block_cell HP8.out
 go_wp2_with fail
 exact bodyPost_ret (v := .agg #[.int .u8 tos, .int .u16 id, .bool keep, .int .u8 ttl, .int .u8 17, .int .u32 mr.tt, .int .u32 dst, .slice ao zo.length co, .slice ad zd.length cd]) (by simp [results, Tryz.results57, go_sem, P8]) rfl ⟨f, n, ps2, pe2, cp2, ao, co, ad, cd, Nat.le_trans L3.size hfb, rfl, k8, ⟨hid', ho, hr, hsd, hms, hhp⟩, ((G9.out.later (ld.trans l10)).other (TE.one N1d.out) HB8.out (by decide)), ⟨HTQ.out.1, HTQ.out.2, (HHV.out.kg (k410.trans (KG.of_later (ld.trans l10)))).aside N1d.out (by decide) HB8.out⟩, o8, q8⟩
theorem changed_n (base g : Nat) (s : Gf) (tos id ttl src dst : Int) (keep : Bool) (so sd : Value) (zo zd : List Int) (a : Nat) (b : Int) (mr : Ru) (n0 : Nat) (w : World) (h : GF base w g s) (hR : RdG s src dst a b mr (fun _ _ _ _ => False)) (he : ofe 17 src dst zd = 0) (hea : ofa 17 zd = (a : Int)) (heb : ofb 17 zd = b) (hfl : flt zo.length zd.length = 0) (hBo : Mt.By zo) (hBd : Mt.By zd) (hOo : Ow n0 w so zo) (hOd : Ow n0 w sd zd) (hlo : zo.length ≤ 60000) (hld : zd.length ≤ 70000) (ht : 0 ≤ tos ∧ tos ≤ 255) (hid : 0 ≤ id ∧ id ≤ 65535) (htl : 0 ≤ ttl ∧ ttl ≤ 255) (hbs : base ≤ w.heap.size) (hz : ∀ W, Later w W → Tb W) (hTK : TnH base w g s a mr) :
  Calls Tryz.prog 57 #[.agg #[.pointer (some ⟨g, 0, none⟩), .int .u8 tos, .int .u16 id, .bool keep, .int .u8 ttl, .int .u8 17, .int .u32 src, .int .u32 dst, so, sd, .int .i64 0]] w fun e w' => e = .panicked (dpp 4) ∧ Later w w' := by
 obtain ⟨l0, c0, c1⟩ := alloc2 w (.cells #[.pointer (some ⟨g, 0, none⟩), .int .u8 tos, .int .u16 id, .bool keep, .int .u8 ttl, .int .u8 17, .int .u32 src, .int .u32 dst, so, sd, .int .i64 0] 149) (.cells #[.int .u8 0, .int .u16 0, .bool false, .int .u8 0, .int .u8 0, .int .u32 0, .int .u32 0, .slice none 0 0, .slice none 0 0] 56)
 have C0 := hide c0
 have C1 := hide c1
 clear c0 c1
 have HQ := hide (fun W (l : Later w W) => of_any tos id ttl 17 src dst keep so sd zd W (hz W l) hBd ((hOd.kg (KG.of_later (base := base) l)).rd) (by omega) hR.hx hR.hd)
 rw [he, hea, heb] at HQ
 have hv : otv 0 17 src dst (a : Int) b = .agg #[.int .u8 17, .int .u32 src, .int .u32 dst, .int .u16 (a : Int), .int .u16 b] := by unfold otv; rw [if_pos rfl]
 rw [hv] at HQ
 have HOW := hide (fun W (l : Later w W) (hh : GF base W g s) => owner_n base g s tos id ttl 17 src dst keep so sd src dst a b mr W hh hR (Nat.le_trans hbs l.size) (hTK.later l))
 obtain ⟨sox, soc, rfl, _, _⟩ := hOo.slice
 obtain ⟨sdx, sdc, rfl, _, _⟩ := hOd.slice
 have HG := hide (h.later l0)
 clear hv h hR he hea heb hfl hBo hBd hOo hOd hz hTK
 go_enter Tryz.func57, Tryz.ntmps57
 go_upto_region 1 with fail
 generalize (w.alloc (.cells _ 149)).alloc (.cells _ 56) = w1 at *
 generalize hgx : w.heap.size = gx at C0 C1 ⊢
 have k0 := block_cell C0.out
 go_wp2_with fail
 refine (HQ.out w1 l0).mono ?_
 rintro e w2 ⟨l2, rfl⟩
 have l2' : Later w1 w2 := l2
 clear k0 HQ l2
 go_upto_region 2 with fail
 have la := later_allocG w2 (.cells #[.int .u8 17, .int .u32 src, .int .u32 dst, .int .u16 (a : Int), .int .u16 b] 68)
 have C3 := hide (heap_alloc_new w2 (.cells #[.int .u8 17, .int .u32 src, .int .u32 dst, .int .u16 (a : Int), .int .u16 b] 68))
 have D0 := hide (later_keep (l2'.trans la) C0.out)
 have D1 := hide (later_keep (l2'.trans la) C1.out)
 have H3 := hide (HG.out.later (l2'.trans la))
 have L3 : Later w (w2.alloc (.cells #[.int .u8 17, .int .u32 src, .int .u32 dst, .int .u16 (a : Int), .int .u16 b] 68)) := l0.trans (l2'.trans la)
 change Code.wp _ _ _ _ (w2.alloc (.cells #[.int .u8 17, .int .u32 src, .int .u32 dst, .int .u16 (a : Int), .int .u16 b] 68))
 generalize w2.alloc (.cells #[.int .u8 17, .int .u32 src, .int .u32 dst, .int .u16 (a : Int), .int .u16 b] 68) = w3 at *
 generalize hg3 : w2.heap.size = g3 at *
 have hg3x : gx + 1 < g3 := by rw [← hg3]; exact Nat.lt_of_lt_of_le (bl9 C1.out) l2'.size
 clear C0 C1 HG l2' la hg3
 have k0 := block_cell D0.out
 have k3 := block_cell C3.out
 go_wp2_with fail
 refine (grefuse_no 1 _).mono ?_
 rintro e w4 ⟨rfl, hw4⟩
 subst hw4
 go_wp2_with fail
 refine (HOW.out w3 L3 H3.out).mono ?_
 rintro e w4 ⟨rfl, l4⟩
 exact ⟨rfl, rfl, L3.trans l4⟩
theorem opp_in (w : World) : Calls Tryz.prog 58 #[.int .i64 0] w fun e w' => e = .returned (.int .i64 1) ∧ w' = w := by
 go_enter Tryz.func58, Tryz.ntmps58
 go_wp2_with fail
 go_ret
 exact ⟨rfl, rfl⟩
def psG (tos id ttl dst : Int) (keep : Bool) (zo zd : List Int) (n : Nat) (b : Int) (mr : Ru) : List Int := hdr tos id keep (ttl - 1) 17 mr.tt dst zo (20 + zo.length + zd.length) ++ rwD 17 mr.tt dst (n : Int) b zd
def HdG (base : Nat) (w w' : World) (g : Nat) (s : Gf) (zs : List Int) (a : Nat) (b : Int) (mr : Ru) (TQ : TkP) (e : Ending) : Prop := ∃ (f : Fl) (n : Nat) (ps : List Pl) (pe : Array MapEntry) (cp : Nat) (v : Value), w.heap.size ≤ f.blk ∧ e = .returned (.agg #[.int .i64 0, .int .i64 1, v]) ∧ KG base w w' ∧ FbF s ⟨17, wat4 zs 12, wat4 zs 16, (a : Int), b⟩ mr n f ∧ GF base w' g (bcS (opS (setP s ps pe cp) f) f 8) ∧ (TQ n ps pe cp ∧ n < 65536 ∧ HvOk w' f mr.tt n) ∧ Ow w.heap.size w' v (psG (zs[1]?.getD 0) (wat zs 4) (zs[8]?.getD 0) (wat4 zs 16) (decide (16384 ≤ wat zs 6 % 32768)) ((zs.take (hl4 zs).toNat).drop 20) ((zs.take (ral false zs).toNat).drop (hl4 zs).toNat) n b mr)
theorem handle_g (base g : Nat) (s : Gf) (sb : Value) (zs : List Int) (a : Nat) (b : Int) (mr : Ru) (TQ : TkP) (w : World) (h : GF base w g s) (hB : Mt.By zs) (hI : Rd w.heap.size w sb zs) (hl : zs.length ≤ 60000)
  (hp : rde false zs = 0) (hpr : zs[9]?.getD 0 = 17) (htt : (2 : Int) ≤ zs[8]?.getD 0) (hR : RdG s (wat4 zs 12) (wat4 zs 16) a b mr TQ) (he : ofe 17 (wat4 zs 12) (wat4 zs 16) ((zs.take (ral false zs).toNat).drop (hl4 zs).toNat) = 0) (hea : ofa 17 ((zs.take (ral false zs).toNat).drop (hl4 zs).toNat) = (a : Int)) (heb : ofb 17 ((zs.take (ral false zs).toNat).drop (hl4 zs).toNat) = b) (hlo : ((zs.take (hl4 zs).toNat).drop 20).length ≤ 40) (hlm : ((zs.take (hl4 zs).toNat).drop 20).length % 4 = 0) (hall : 20 + ((zs.take (hl4 zs).toNat).drop 20).length + ((zs.take (ral false zs).toNat).drop (hl4 zs).toNat).length ≤ 65535)
  (hbs : base ≤ w.heap.size) (hz : ∀ W, KG base w W → Tb W) (hTK : TkH base w g s a mr TQ) :
  Calls Tryz.prog 25 #[.pointer (some ⟨g, 0, none⟩), .int .i64 0, sb] w fun e w' => HdG base w w' g s zs a b mr TQ e := by
 unfold HdG
 have hmf : ∀ (fn : Fn) (first cap : Array Value) (w : World), (Instr.makeFunc fn first cap).run Tryz.prog w = .ok (.func fn first cap) w := fun _ _ _ _ => rfl
 obtain ⟨ia, icap, rfl, hl1, hm1⟩ := hI.slice
 have l0 := later_allocG w (.cells (oc 0).toArray 40)
 have C0 := hide (heap_alloc_new w (.cells (oc 0).toArray 40))
 have HP := hide (parse_any _ zs _ hB (by omega) (hI.later l0))
 have HG := hide h
 have bt := hB.at 1
 have bl := hB.at 8
 have bi : 0 ≤ wat zs 4 ∧ wat zs 4 ≤ 65535 := wat_bd hB 4
 have hBd : Mt.By ((zs.take (ral false zs).toNat).drop (hl4 zs).toNat) := (hB.take _).drop _
 have hBo : Mt.By ((zs.take (hl4 zs).toNat).drop 20) := (hB.take _).drop _
 clear h hI
 go_enter_defers Tryz.func25, Tryz.ntmps25
 go_wp2_with fail
 change Calls _ _ _ (w.alloc (.cells (oc 0).toArray 40)) _
 generalize hw1 : w.alloc (.cells (oc 0).toArray 40) = w1 at *
 clear hw1
 refine HP.out.mono ?_
 rintro e w2 ⟨l2, ⟨h1, rfl⟩ | ⟨h1, so, sd, rfl, hOo, hOd⟩⟩
 ·exact absurd hp h1
 clear h1 HP hp
 have l2' : Later w1 w2 := l2
 obtain ⟨oa, ocp, rfl, _, _⟩ := hOo.slice
 obtain ⟨da, dcp, rfl, _, _⟩ := hOd.slice
 have hld : ((zs.take (ral false zs).toNat).drop (hl4 zs).toNat).length ≤ 65535 := by omega
 generalize hzd : ((zs.take (ral false zs).toNat).drop (hl4 zs).toNat) = zd at *
 generalize hzo : ((zs.take (hl4 zs).toNat).drop 20) = zo at *
 unfold pkt
 rw [hpr]
 generalize htos : zs[1]?.getD 0 = tos at *
 generalize hidd : wat zs 4 = id at *
 generalize hkp : decide (16384 ≤ wat zs 6 % 32768) = keep at *
 generalize httl : zs[8]?.getD 0 = ttl at *
 clear hpr
 generalize hsrc : wat4 zs 12 = src at *
 generalize hdst : wat4 zs 16 = dst at *
 have EQS := hide (show (((zs[1]?.getD 0 = tos ∧ wat zs 4 = id) ∧ decide (16384 ≤ wat zs 6 % 32768) = keep) ∧ zs[8]?.getD 0 = ttl) ∧ (wat4 zs 12 = src ∧ wat4 zs 16 = dst) ∧ ((zs.take (ral false zs).toNat).drop (hl4 zs).toNat) = zd ∧ ((zs.take (hl4 zs).toNat).drop 20) = zo from ⟨⟨⟨⟨htos, hidd⟩, hkp⟩, httl⟩, ⟨hsrc, hdst⟩, hzd, hzo⟩)
 clear htos hidd hkp httl hsrc hdst hzd hzo
 have la := later_allocG w2 (.cells #[.int .u8 tos, .int .u16 id, .bool keep, .int .u8 ttl, .int .u8 17, .int .u32 src, .int .u32 dst, .slice oa zo.length ocp, .slice da zd.length dcp] 56)
 have CP := hide (heap_alloc_new w2 (.cells #[.int .u8 tos, .int .u16 id, .bool keep, .int .u8 ttl, .int .u8 17, .int .u32 src, .int .u32 dst, .slice oa zo.length ocp, .slice da zd.length dcp] 56))
 have D0 := hide (later_keep (l2'.trans la) C0.out)
 have L3 : Later w (w2.alloc (.cells #[.int .u8 tos, .int .u16 id, .bool keep, .int .u8 ttl, .int .u8 17, .int .u32 src, .int .u32 dst, .slice oa zo.length ocp, .slice da zd.length dcp] 56)) := l0.trans (l2'.trans la)
 have O3 := hide (hOo.kg (KG.of_later (base := base) la))
 have Q3 := hide (hOd.kg (KG.of_later (base := base) la))
 have hgp : w1.heap.size ≤ w2.heap.size := l2'.size
 have hg1 := (bl9 C0.out)
 clear hOo hOd la l2 l2'
 go_upto_region 3 with fail
 change Code.wp _ _ _ _ (w2.alloc (.cells #[.int .u8 tos, .int .u16 id, .bool keep, .int .u8 ttl, .int .u8 17, .int .u32 src, .int .u32 dst, .slice oa zo.length ocp, .slice da zd.length dcp] 56))
 generalize w2.alloc (.cells #[.int .u8 tos, .int .u16 id, .bool keep, .int .u8 ttl, .int .u8 17, .int .u32 src, .int .u32 dst, .slice oa zo.length ocp, .slice da zd.length dcp] 56) = w3 at *
 generalize w2.heap.size = gp at *
 have H3 := hide (HG.out.later L3)
 have hfl : flt zo.length zd.length = 0 := by unfold flt; rw [if_neg (by omega), if_neg (by omega)]
 have HCH := hide (changed_g base g s tos id ttl src dst keep (.slice oa zo.length ocp) (.slice da zd.length dcp) zo zd a b mr TQ w1.heap.size w3 H3.out hR he hea heb hfl hBo hBd O3.out Q3.out (by omega) (by omega) bt bi bl (Nat.le_trans hbs L3.size) (fun W k => hz W ((KG.of_later L3).trans k)) (hTK.kg (KG.of_later L3)))
 have btt := hR.tt
 have bdd := hR.hd
 clear H3 he hea heb hfl hz hTK O3 Q3 HG hR C0
 have kp := block_cell CP.out
 have ht2 : ¬ ttl < 2 := by omega
 go_wp2_with fail
 refine (grefuse_no 1 _).mono ?_
 rintro e w4 ⟨rfl, hw4⟩
 subst hw4
 go_wp2_with fail
 refine HCH.out.mono ?_
 rintro e w4 ⟨f, n, ps2, pe2, cp2, ao, co, ad, cd, hfb, rfl, k4, hbn, hG4, ⟨htq, hn9, hHV⟩, o4, q4⟩
 have HTQ := hide (show TQ n ps2 pe2 cp2 ∧ n < 65536 from ⟨htq, hn9⟩)
 have HV4 := hide hHV
 clear kp HCH
 have K4 : KG base w w4 := (KG.of_later L3).trans k4
 have E0 := hide (k4.cells D0.out (by decide))
 have EP := hide (k4.cells CP.out (by decide))
 have G4 := hide hG4
 have o4' := hide (o4.mono L3.size)
 have q4' := hide (q4.mono L3.size)
 have HBN := hide hbn
 clear D0 CP hG4 o4 q4 k4 hbn htq hHV
 have kp := block_cell EP.out
 have fp := block_frozen EP.out
 go_upto_region 5 with fail
 generalize hV : World.setCell _ ⟨_, 8, none⟩ _ = w5
 have hV9 : w5 = putRow w4 gp 0 [.int .u8 tos, .int .u16 id, .bool keep, .int .u8 ttl, .int .u8 17, .int .u32 mr.tt, .int .u32 dst, .slice ao zo.length co, .slice ad zd.length cd] := hV.symm
 have hb5 : But (fun b => b = gp) w4 w5 := by rw [hV9]; exact putRow_but (E := fun b => b = gp) (n := gp) rfl _ _ _ _ (But.refl _ _)
 have p5 := putRow_all [.int .u8 tos, .int .u16 id, .bool keep, .int .u8 ttl, .int .u8 17, .int .u32 mr.tt, .int .u32 dst, .slice ao zo.length co, .slice ad zd.length cd] EP.out rfl
 rw [← hV9] at p5
 clear hV hV9 kp fp
 have HV5 := hide (HV4.out.aside EP.out (by decide) hb5)
 have G5 := hide (G4.out.other (TE.one EP.out) hb5 (by decide))
 have O5 := hide (o4'.out.aside EP.out (by decide) hb5)
 have Q5 := hide (q4'.out.aside EP.out (by decide) hb5)
 have K5 : Hid (KG base w w5) := K4.own hb5 (by omega)
 have F0 := hide ((hb5.block w.heap.size (bl9 E0.out) (fun e => by have e' : w.heap.size = gp := e; omega)).trans E0.out)
 have FP := hide p5
 clear G4 o4' q4' K4 E0 EP hb5 p5
 have kp := block_cell FP.out
 have fp := block_frozen FP.out
 have P6 := hide (heap_set1 FP.out 3 (.int .u8 (ttl - 1)))
 have hb6 : But (fun b => b = gp) w5 (w5.setCell ⟨gp, 3, none⟩ (.int .u8 (ttl - 1))) := (But.refl (fun b => b = gp) w5).setCell (p := ⟨gp, 3, none⟩) (show _ = _ from rfl) _
 have HB6 := hide hb6
 clear hb6
 go_upto_region 6 with fail
 have hQ6 : (w5.setCell ⟨gp, 3, none⟩ (.int .u8 (ttl - 1))).heap[gp]? = some (.cells #[.int .u8 tos, .int .u16 id, .bool keep, .int .u8 (ttl - 1), .int .u8 17, .int .u32 mr.tt, .int .u32 dst, .slice ao zo.length co, .slice ad zd.length cd] 56 (0, 0)) := P6.out
 have HV6 := hide (HV5.out.aside FP.out (by decide) HB6.out)
 have G6 := hide (G5.out.other (TE.one FP.out) HB6.out (by decide))
 have o6 := O5.out.aside FP.out (by decide) HB6.out
 have q6 := Q5.out.aside FP.out (by decide) HB6.out
 have O6 := hide o6
 have Q6 := hide q6
 have K6 := hide (K5.out.own HB6.out (by omega))
 have F6 := hide ((HB6.out.block w.heap.size (bl9 F0.out) (fun e => by have e' : w.heap.size = gp := e; omega)).trans F0.out)
 have FQ6 := hide hQ6
 have hrl : (rwD 17 mr.tt dst (n : Int) b zd).length = zd.length := by
  obtain ⟨_, _, e, _, _⟩ := q6.slice
  injection e with e1 e2 e3
  exact e2.symm
 have HRL := hide hrl
 clear o6 q6 hQ6 hrl kp fp G5 O5 Q5 K5 F0 FP P6 HB6
 generalize w5.setCell ⟨gp, 3, none⟩ (.int .u8 (ttl - 1)) = w6 at *
 have HBU := hide (build_yes tos id (ttl - 1) 17 mr.tt dst keep (.slice ao zo.length co) (.slice ad zd.length cd) zo (rwD 17 mr.tt dst (n : Int) b zd) w6 hBo O6.out.rd Q6.out.rd hlo hlm (by rw [HRL.out]; exact hall) bt bi (by omega) (by decide) btt bdd)
 rw [HRL.out] at HBU
 have k6 := block_cell FQ6.out
 clear hall hlm hlo
 go_wp2_with fail
 refine HBU.out.mono ?_
 rintro e w7 ⟨v, rfl, hO7, l7⟩
 have l7' : Later w6 w7 := l7
 obtain ⟨va, vc, rfl, _, _⟩ := hO7.slice
 have F7 := hide (later_keep l7' F6.out)
 have HV7 := hide (HV6.out.kg (KG.of_later (base := base) l7'))
 have G7 := hide (G6.out.later l7')
 have K7 := hide (K6.out.trans (KG.of_later l7'))
 have O7 := hide (hO7.mono K6.out.size)
 clear k6 HBU l7 l7' hO7 F6 G6 K6 O6 Q6 FQ6
 generalize hob : hdr tos id keep (ttl - 1) 17 mr.tt dst zo (20 + zo.length + zd.length) ++ rwD 17 mr.tt dst (n : Int) b zd = ob at *
 have HOB := hide hob
 clear hob
 go_wp2_with fail
 refine (opp_in w7).mono ?_
 rintro e w8 ⟨rfl, hw8⟩
 subst hw8
 have k0 := block_cell F7.out
 have f0 := block_frozen F7.out
 unfold oc at k0
 go_wp2_with fail
 generalize hV : World.setCell _ ⟨_, 2, none⟩ _ = V8
 have hV9 : V8 = putRow w8 w.heap.size 0 [.int .i64 0, .int .i64 1, .slice va ob.length vc] := hV.symm
 have hb8 : But (fun b => b = w.heap.size) w8 V8 := by rw [hV9]; exact putRow_but (E := fun b => b = w.heap.size) (n := w.heap.size) rfl _ _ _ _ (But.refl _ _)
 have p8 := putRow_all [.int .i64 0, .int .i64 1, .slice va ob.length vc] F7.out rfl
 rw [← hV9] at p8
 clear hV hV9 k0 f0
 have h8 := G7.out.other (TE.one F7.out) hb8 (by decide)
 have o8 := O7.out.aside F7.out (by decide) hb8
 have k8 := K7.out.own hb8 (Nat.le_refl _)
 exact gdoor_idle _ w.heap.size _ _ _ V8 p8 rfl ⟨f, n, ps2, pe2, cp2, .slice va ob.length vc, Nat.le_trans L3.size hfb, rfl, k8, by obtain ⟨⟨⟨⟨q1, q2⟩, q3⟩, q4⟩, ⟨q5, q6⟩, q7, q8⟩ := EQS.out; rw [q5, q6]; exact HBN.out, h8, ⟨HTQ.out.1, HTQ.out.2, HV7.out.aside F7.out (by decide) hb8⟩, by obtain ⟨⟨⟨⟨q1, q2⟩, q3⟩, q4⟩, ⟨q5, q6⟩, q7, q8⟩ := EQS.out; unfold psG; rw [q1, q2, q3, q4, q6, q7, q8, HOB.out]; exact o8⟩
theorem handle_n (base g : Nat) (s : Gf) (sb : Value) (zs : List Int) (a : Nat) (b : Int) (mr : Ru) (w : World) (h : GF base w g s) (hB : Mt.By zs) (hI : Rd w.heap.size w sb zs) (hl : zs.length ≤ 60000)
  (hp : rde false zs = 0) (hpr : zs[9]?.getD 0 = 17) (htt : (2 : Int) ≤ zs[8]?.getD 0) (hR : RdG s (wat4 zs 12) (wat4 zs 16) a b mr (fun _ _ _ _ => False)) (he : ofe 17 (wat4 zs 12) (wat4 zs 16) ((zs.take (ral false zs).toNat).drop (hl4 zs).toNat) = 0) (hea : ofa 17 ((zs.take (ral false zs).toNat).drop (hl4 zs).toNat) = (a : Int)) (heb : ofb 17 ((zs.take (ral false zs).toNat).drop (hl4 zs).toNat) = b) (hlo : ((zs.take (hl4 zs).toNat).drop 20).length ≤ 40) (hlm : ((zs.take (hl4 zs).toNat).drop 20).length % 4 = 0) (hall : 20 + ((zs.take (hl4 zs).toNat).drop 20).length + ((zs.take (ral false zs).toNat).drop (hl4 zs).toNat).length ≤ 65535)
  (hbs : base ≤ w.heap.size) (hz : ∀ W, Later w W → Tb W) (hTK : TnH base w g s a mr) :
  Calls Tryz.prog 25 #[.pointer (some ⟨g, 0, none⟩), .int .i64 0, sb] w fun e w' => e = .returned (.agg (oc 4).toArray) ∧ Later w w' := by
 have hmf : ∀ (fn : Fn) (first cap : Array Value) (w : World), (Instr.makeFunc fn first cap).run Tryz.prog w = .ok (.func fn first cap) w := fun _ _ _ _ => rfl
 obtain ⟨ia, icap, rfl, hl1, hm1⟩ := hI.slice
 have l0 := later_allocG w (.cells (oc 0).toArray 40)
 have C0 := hide (heap_alloc_new w (.cells (oc 0).toArray 40))
 have HP := hide (parse_any _ zs _ hB (by omega) (hI.later l0))
 have HG := hide h
 have bt := hB.at 1
 have bl := hB.at 8
 have bi : 0 ≤ wat zs 4 ∧ wat zs 4 ≤ 65535 := wat_bd hB 4
 have hBd : Mt.By ((zs.take (ral false zs).toNat).drop (hl4 zs).toNat) := (hB.take _).drop _
 have hBo : Mt.By ((zs.take (hl4 zs).toNat).drop 20) := (hB.take _).drop _
 clear h hI
 go_enter_defers Tryz.func25, Tryz.ntmps25
 go_wp2_with fail
 change Calls _ _ _ (w.alloc (.cells (oc 0).toArray 40)) _
 generalize hw1 : w.alloc (.cells (oc 0).toArray 40) = w1 at *
 clear hw1
 refine HP.out.mono ?_
 rintro e w2 ⟨l2, ⟨h1, rfl⟩ | ⟨h1, so, sd, rfl, hOo, hOd⟩⟩
 ·exact absurd hp h1
 clear h1 HP hp
 have l2' : Later w1 w2 := l2
 obtain ⟨oa, ocp, rfl, _, _⟩ := hOo.slice
 obtain ⟨da, dcp, rfl, _, _⟩ := hOd.slice
 have hld : ((zs.take (ral false zs).toNat).drop (hl4 zs).toNat).length ≤ 65535 := by omega
 generalize hzd : ((zs.take (ral false zs).toNat).drop (hl4 zs).toNat) = zd at *
 generalize hzo : ((zs.take (hl4 zs).toNat).drop 20) = zo at *
 unfold pkt
 rw [hpr]
 generalize htos : zs[1]?.getD 0 = tos at *
 generalize hidd : wat zs 4 = id at *
 generalize hkp : decide (16384 ≤ wat zs 6 % 32768) = keep at *
 generalize httl : zs[8]?.getD 0 = ttl at *
 clear hpr
 generalize hsrc : wat4 zs 12 = src at *
 generalize hdst : wat4 zs 16 = dst at *
 have EQS := hide (show (((zs[1]?.getD 0 = tos ∧ wat zs 4 = id) ∧ decide (16384 ≤ wat zs 6 % 32768) = keep) ∧ zs[8]?.getD 0 = ttl) ∧ (wat4 zs 12 = src ∧ wat4 zs 16 = dst) ∧ ((zs.take (ral false zs).toNat).drop (hl4 zs).toNat) = zd ∧ ((zs.take (hl4 zs).toNat).drop 20) = zo from ⟨⟨⟨⟨htos, hidd⟩, hkp⟩, httl⟩, ⟨hsrc, hdst⟩, hzd, hzo⟩)
 clear htos hidd hkp httl hsrc hdst hzd hzo
 have la := later_allocG w2 (.cells #[.int .u8 tos, .int .u16 id, .bool keep, .int .u8 ttl, .int .u8 17, .int .u32 src, .int .u32 dst, .slice oa zo.length ocp, .slice da zd.length dcp] 56)
 have CP := hide (heap_alloc_new w2 (.cells #[.int .u8 tos, .int .u16 id, .bool keep, .int .u8 ttl, .int .u8 17, .int .u32 src, .int .u32 dst, .slice oa zo.length ocp, .slice da zd.length dcp] 56))
 have D0 := hide (later_keep (l2'.trans la) C0.out)
 have L3 : Later w (w2.alloc (.cells #[.int .u8 tos, .int .u16 id, .bool keep, .int .u8 ttl, .int .u8 17, .int .u32 src, .int .u32 dst, .slice oa zo.length ocp, .slice da zd.length dcp] 56)) := l0.trans (l2'.trans la)
 have O3 := hide (hOo.kg (KG.of_later (base := base) la))
 have Q3 := hide (hOd.kg (KG.of_later (base := base) la))
 have hgp : w1.heap.size ≤ w2.heap.size := l2'.size
 have hg1 := (bl9 C0.out)
 clear hOo hOd la l2 l2'
 go_upto_region 3 with fail
 change Code.wp _ _ _ _ (w2.alloc (.cells #[.int .u8 tos, .int .u16 id, .bool keep, .int .u8 ttl, .int .u8 17, .int .u32 src, .int .u32 dst, .slice oa zo.length ocp, .slice da zd.length dcp] 56))
 generalize w2.alloc (.cells #[.int .u8 tos, .int .u16 id, .bool keep, .int .u8 ttl, .int .u8 17, .int .u32 src, .int .u32 dst, .slice oa zo.length ocp, .slice da zd.length dcp] 56) = w3 at *
 generalize w2.heap.size = gp at *
 have H3 := hide (HG.out.later L3)
 have hfl : flt zo.length zd.length = 0 := by unfold flt; rw [if_neg (by omega), if_neg (by omega)]
 have HCH := hide (changed_n base g s tos id ttl src dst keep (.slice oa zo.length ocp) (.slice da zd.length dcp) zo zd a b mr w1.heap.size w3 H3.out hR he hea heb hfl hBo hBd O3.out Q3.out (by omega) (by omega) bt bi bl (Nat.le_trans hbs L3.size) (fun W l => hz W (L3.trans l)) (hTK.later L3))
 have btt := hR.tt
 have bdd := hR.hd
 clear H3 he hea heb hfl hz hTK O3 Q3 HG hR C0
 have kp := block_cell CP.out
 have ht2 : ¬ ttl < 2 := by omega
 go_wp2_with fail
 refine (grefuse_no 1 _).mono ?_
 rintro e w4 ⟨rfl, hw4⟩
 subst hw4
 go_wp2_with fail
 refine HCH.out.mono ?_
 rintro e w4 ⟨rfl, l4⟩
 exact gdoor_refused _ w.heap.size w.heap.size 4 _ _ _ w4 (later_keep l4 D0.out) (Nat.le_refl _) rfl (fun w' hb' => ⟨rfl, Below.trans (L3.trans l4) hb'⟩)
open Go.RowKit Go.Shelf Go.ChangeMaps
theorem setBlock_at {B : World} {r : Nat} {o o' : Obj} (h : B.heap[r]? = some o) : (setBlock B r o').heap[r]? = some o' := by
 have := (bl9 h)
 show (B.heap.setIfInBounds r o')[r]? = _
 simp [this]
def KWk (n₀ : Nat) (A B : World) : Prop := Below n₀ A B ∧ ∀ (k : Nat) (o : Obj), A.heap[k]? = some o → o.isWalk = true → B.heap[k]? = some o
theorem KWk.trans {n : Nat} {a b c : World} (h : KWk n a b) (k : KWk n b c) : KWk n a c := ⟨h.1.trans k.1, fun i o h1 h2 => k.2 i o (h.2 i o h1 h2) h2⟩
theorem KWk.of {n : Nat} {a b : World} (h : Later a b) (hn : n ≤ a.heap.size) : KWk n a b := ⟨h.mono hn, fun i o h1 _ => later_keep h h1⟩
theorem KWk.put {n : Nat} {W : World} {l : Nat} {o o' : Obj} (hl : n ≤ l) (h : W.heap[l]? = some o) (hc : o.isCells = false) (hw : o.isWalk = false) : KWk n W (W.putObj l o') := ⟨(belowK_b (n₀ := n) (w := { W with heap := W.heap.take n }) (by have := (bl9 h); simp; omega) W l o o' (by simp; omega) h hc hw), fun k ob h1 h2 => by
 by_cases e : k = l
 ·subst e
  rw [h] at h1
  cases h1
  rw [hw] at h2
  cases h2
 ·exact (World.putObj_heap_other e).trans h1⟩
attribute [local go_sem] Oper.semAt_some
def GaO (B n₀ : Nat) (pre : List Int) (W : World) : Prop := ∃ v, W.heap[B]? = some (.cells #[v] 152 (0, 0)) ∧ W.ownsRow n₀ 3 1 v pre.length (pre.map (Value.int .i64)) ∧ (pre = [] → v = .slice none 0 0)
theorem owns_ctG {base : Nat} {e : TypeId} {size : Nat} {A B : World} {v : Value} {n : Nat} {xs : List Value} (h : A.ownsRow base e size v n xs) (c : CT A B) : B.ownsRow base e size v n xs := by
 obtain ⟨h1, h2 | ⟨g, cap, cur, hv, hg, hh, r⟩⟩ := h
 ·exact ⟨h1, .inl h2⟩
 ·exact ⟨h1, .inr ⟨g, cap, cur, hv, hg, c.2 _ _ hh rfl, r⟩⟩
theorem GaO.ct {B n₀ : Nat} {pre : List Int} {U V : World} (h : GaO B n₀ pre U) (c : CT U V) : GaO B n₀ pre V := by
 obtain ⟨v, h1, h2, h3⟩ := h
 exact ⟨v, c.2 _ _ h1 rfl, owns_ctG h2 c, h3⟩
theorem hsetG {W : World} {n m j : Nat} {v : Value} {o : Obj} (h : W.heap[n]? = some o) (hne : n ≠ m) : (W.setCell ⟨m, j, none⟩ v).heap[n]? = some o := (Below.heap_setCell W ⟨m, j, none⟩ v n hne).trans h
theorem newG (W : World) (e : TypeId) (xs : List Value) : ∀ j u, xs[j]? = some u → (W.alloc (.cells xs.toArray e)).cell? ((⟨W.heap.size, 0, none⟩ : Addr).add j) = some u := fun j u hj => by
 rw [show (⟨W.heap.size, 0, none⟩ : Addr).add j = ⟨W.heap.size, j, none⟩ from by unfold Addr.add; split <;> simp_all, block_cell (heap_alloc_new W _) j]
 simpa using hj
theorem walk_cells {o : Obj} (h : o.isWalk = true) : o.isCells = false := by cases o <;> simp_all [Obj.isWalk, Obj.isCells]
theorem info_i64 : (Tryz.prog.info? 3).map (fun i => (i.zero, i.size, i.bytes)) = some (some (.int .i64 0), 1, 8) := by kernel_rfl
theorem wpList_appG {P : Program} {ops : Array Oper} {rest : List Oper} {o : Oper} {a : Act} {Q : Exit → Act → World → Prop} {w : World} (hg : o.guard = none) (s x : Operand) (t u : TypeId) (hop : o.op = Op.call { callee := Callee.builtin Builtin.append, args := #[s, x], argTypes := #[t, u] })
  (v sx : Value) (hs : a.eval s = v) (hx : a.eval x = sx) (v' : Value) (w' : World) (hrun : (Builtin.append_ #[t, u] o.type #[v, sx]).run P w = .ok v' w') (hk : wpList P ops Q rest (a.put o.dst v') w') : wpList P ops Q (o :: rest) a w :=
 wpList_plain hg fun K hK => wp_appT s x t u hop v sx hs hx v' w' hrun (hK _ _ hk)
theorem findG_yes (z : Int) (v : Value) : ∀ (l : List MapEntry) (i : Nat), (∀ e ∈ l, ∃ k : Int, e.key = .int .i64 k ∧ (k = z → e.val = v)) → (∃ e ∈ l, e.key = .int .i64 z) → ∃ j, Instr.findNow (.int .i64) (.int .i64 z) l i = some (some (j, v))
 | [], _, _, h => by obtain ⟨_, h, _⟩ := h; cases h
 | e :: l, i, h, hx => by
  obtain ⟨k, hk, hv⟩ := h e (by simp)
  by_cases hz : k = z
  ·have h1 : Instr.sameNow (.int .i64) (.int .i64 z) e.key = some true := by rw [hk, hz]; simp [Instr.sameNow]
   unfold Instr.findNow
   rw [h1]
   exact ⟨i, by rw [hv hz]⟩
  ·have h1 : Instr.sameNow (.int .i64) (.int .i64 z) e.key = some false := by rw [hk]; simp [Instr.sameNow, hz, Ne.symm hz]
   unfold Instr.findNow
   rw [h1]
   refine findG_yes z v l (i + 1) (fun e' he' => h e' (by simp [he'])) ?_
   obtain ⟨e', he', hk'⟩ := hx
   rcases List.mem_cons.1 he' with q | q
   ·rw [q, hk] at hk'
    injection hk' with _ q2
    exact absurd q2 hz
   ·exact ⟨e', q, hk'⟩
def IdU (s : Gf) : Prop := ∀ x ∈ s.fs, ∀ y ∈ s.fs, x.id = y.id → x.blk = y.blk
theorem look_flow {base g : Nat} {W : World} {s : Gf} (h : GF base W g s) {f : Fl} (hf : f ∈ s.fs) (hu : IdU s) : (Instr.lookup 74 (.map (some s.gf)) (.int .i64 f.id) false).run Tryz.prog W = .ok (.pointer (some ⟨f.blk, 0, none⟩)) W := by
 refine run_find Tryz.underlying74 Tryz.underlying3 h.fl f.id _ (.inl ?_)
 refine findG_yes f.id _ s.fe.toList 0 (fun e he => ?_) ?_
 ·have h1 : (e.key, e.val) ∈ s.fe.toList.map (fun e => (e.key, e.val)) := List.mem_map.2 ⟨e, he, rfl⟩
  rw [h.fm] at h1
  obtain ⟨x, hx, e2⟩ := List.mem_map.1 h1
  have e3 : (Value.int .i64 x.id) = e.key := congrArg Prod.fst e2
  have e4 : (Value.pointer (some ⟨x.blk, 0, none⟩)) = e.val := congrArg Prod.snd e2
  exact ⟨x.id, e3.symm, fun q => by rw [← e4, hu x hx f hf q]⟩
 ·have h1 : flE f ∈ s.fs.map flE := List.mem_map.2 ⟨f, hf, rfl⟩
  rw [← h.fm] at h1
  obtain ⟨e, he, e2⟩ := List.mem_map.1 h1
  exact ⟨e, he, congrArg Prod.fst e2⟩
theorem info_fp : (Tryz.prog.info? 85).map (fun i => (i.zero, i.size, i.bytes)) = some (some (.pointer none), 1, 8) := by kernel_rfl
theorem getF_yes (base gt : Nat) (cnt trn : Int) (rw : Nat → List Rw) (p x d a b : Int) (k : Nat) (r : Rw) (W : World) (h : TB base W gt 128 cnt trn rw) (hk : kx p x d a b rw = some k) (hr : (rw (bki p x d a b))[k]? = some r) (hs : 0 ≤ x ∧ x ≤ 4294967295) (hd : 0 ≤ d ∧ d ≤ 4294967295) (ha : 0 ≤ a ∧ a ≤ 65535) (hb : 0 ≤ b ∧ b ≤ 65535) :
  Calls Tryz.prog 75 #[.pointer (some ⟨gt, 0, none⟩), .agg #[.int .u8 p, .int .u32 x, .int .u32 d, .int .u16 a, .int .u16 b]] W fun e w' => e = .returned (.tuple #[.int .i64 r.id, .int .i64 r.till, .bool true]) ∧ Later W w' := by
 refine (get_any base gt 128 cnt trn rw p x d a b W h hs hd ha hb).mono ?_
 rintro e w' ⟨h1, rfl⟩
 exact ⟨by unfold gtv; simp only [hk, hr], h1⟩
theorem tup_ne2 (bk : Bool) (p x d a b p2 x2 d2 a2 b2 : Int) (w : World) (h : bk = true ↔ ¬ (p = p2 ∧ x = x2 ∧ d = d2 ∧ a = a2 ∧ b = b2)) : (binOp .neq 68 (.agg #[.int .u8 p, .int .u32 x, .int .u32 d, .int .u16 a, .int .u16 b]) (.agg #[.int .u8 p2, .int .u32 x2, .int .u32 d2, .int .u16 a2, .int .u16 b2])).run Tryz.prog w = .ok (.bool bk) w := by
 cases bk with
 | true => exact tup_neq p x d a b p2 x2 d2 a2 b2 w (h.1 rfl)
 | false =>
  have h2 : p = p2 ∧ x = x2 ∧ d = d2 ∧ a = a2 ∧ b = b2 := Classical.byContradiction (fun q => by have := h.2 q; cases this)
  obtain ⟨rfl, rfl, rfl, rfl, rfl⟩ := h2
  go_simp
theorem lookUpF_yes (base g : Nat) (s : Gf) (f : Fl) (bk : Bool) (p x d a b : Int) (k : Nat) (r : Rw) (w : World) (h : GF base w g s) (hf : f ∈ s.fs) (hu : IdU s) (hk : kx p x d a b s.rw = some k) (hr : (s.rw (bki p x d a b))[k]? = some r) (hid : r.id = f.id) (hs : 0 ≤ x ∧ x ≤ 4294967295) (hd : 0 ≤ d ∧ d ≤ 4294967295) (ha : 0 ≤ a ∧ a ≤ 65535) (hb : 0 ≤ b ∧ b ≤ 65535)
  (hbk : bk = true ↔ ¬ (p = f.o.pr ∧ x = f.o.src ∧ d = f.o.dst ∧ kyp p a = kyp f.o.pr f.o.sp ∧ b = f.o.dp)) :
  Calls Tryz.prog 33 #[.pointer (some ⟨g, 0, none⟩), .agg #[.int .u8 p, .int .u32 x, .int .u32 d, .int .u16 a, .int .u16 b]] w fun e w' => e = .returned (.tuple #[.pointer (some ⟨f.blk, 0, none⟩), .bool bk, .bool true]) ∧ Later w w' := by
 have l0 := later_allocG w (.cells #[.int .u8 p, .int .u32 x, .int .u32 d, .int .u16 a, .int .u16 b] 68)
 have C0 := hide (heap_alloc_new w (.cells #[.int .u8 p, .int .u32 x, .int .u32 d, .int .u16 a, .int .u16 b] 68))
 have HG := hide (h.later l0)
 have HGT := hide (fun W (l : Later w W) => getF_yes base s.gt s.cnt s.trn s.rw p x d a b k r W (h.tb.laterD l) hk hr hs hd ha hb)
 rw [hid] at HGT
 have HLK := hide (fun W (l : Later w W) => look_flow (h.later l) hf hu)
 have HF := hide (later_keep l0 (h.fb f hf).2)
 have HBK := hide hbk
 clear h hs hd ha hb hk hr hid hf hu hbk
 go_enter Tryz.func33, Tryz.ntmps33
 go_upto_region 1 with fail
 generalize w.alloc _ = w1 at *
 generalize w.heap.size = gx at *
 refine anyR_begin (R := Later) Later.pre Later.drew 13 rfl (by kernel_rfl) (fun V0 hV0 => ?_)
 have q0 : ∀ v, Later V0 v → ∀ j, v.cell? ⟨gx, j, none⟩ = #[.int .u8 p, .int .u32 x, .int .u32 d, .int .u16 a, .int .u16 b][j]? := fun v hv => block_cell (later_keep (hV0.trans hv) C0.out)
 have q1 : ∀ v, Later V0 v → ∀ j, v.cell? ⟨g, j, none⟩ = (gfc s).toArray[j]? := fun v hv => block_cell (later_keep (hV0.trans hv) HG.out.gc)
 unfold gfc at q1
 refine rV Later.pre 0 rfl rfl ⟨_, fun v h => by (go_simp; rfl), ?_⟩; simp only [Act.put, sA, sB, sC]
 refine rV Later.pre 1 rfl rfl ⟨_, fun v h => by (go_simp; rfl), ?_⟩; simp only [Act.put, sA, sB, sC]
 refine rV Later.pre 2 rfl rfl ⟨_, fun v h => by (go_simp; rfl), ?_⟩; simp only [Act.put, sA, sB, sC]
 refine rV Later.pre 3 rfl rfl ⟨_, fun v h => by (go_simp; rfl), ?_⟩; simp only [Act.put, sA, sB, sC]
 refine rV Later.pre 4 rfl rfl ⟨_, fun v h => by (go_simp; rfl), ?_⟩; simp only [Act.put, sA, sB, sC]
 clear q0 q1
 refine anyR_take Later.pre 5 (.tuple #[.int .i64 f.id, .int .i64 r.till, .bool true]) rfl (by kernel_rfl) (by kernel_rfl) (by kernel_rfl) (fun _ _ _ h => h) rfl (fun u hu => goes_call 75 #[.pointer (some ⟨s.gt, 0, none⟩), .agg #[.int .u8 p, .int .u32 x, .int .u32 d, .int .u16 a, .int .u16 b]] (by go_simp) (HGT.out u (Later.trans l0 (hV0.trans hu)))) ?_
 simp only [Act.put, sA, sB, sC]
 refine rV Later.pre 6 rfl rfl ⟨_, fun v h => by (go_simp; rfl), ?_⟩; simp only [Act.put, sA, sB, sC]
 refine rV Later.pre 7 rfl rfl ⟨_, fun v h => by (go_simp; rfl), ?_⟩; simp only [Act.put, sA, sB, sC]
 refine rV Later.pre 8 rfl rfl ⟨_, fun v h => by (go_simp; rfl), ?_⟩; simp only [Act.put, sA, sB, sC]
 refine rV Later.pre 9 rfl rfl ⟨_, fun v h => by (go_simp; rfl), ?_⟩; simp only [Act.put, sA, sB, sC]
 refine rV Later.pre 10 rfl rfl ⟨_, fun v h => by (go_simp; rfl), ?_⟩; simp only [Act.put, sA, sB, sC]
 refine rV Later.pre 11 rfl rfl ⟨_, fun v h => by (go_simp; rfl), ?_⟩; simp only [Act.put, sA, sB, sC]
 refine rV Later.pre 12 rfl rfl ⟨_, fun v h => by (go_simp; rfl), ?_⟩; simp only [Act.put, sA, sB, sC]
 refine anyR_done (by kernel_rfl) (fun V9 hV9 => ?_)
 have L9 : Later w1 V9 := hV0.trans hV9
 have k1 := block_cell (later_keep L9 HG.out.gc)
 unfold gfc at k1
 have hlk := HLK.out V9 (l0.trans L9)
 clear hV0 hV9
 go_upto_region 5 with fail
 clear k1 hlk
 refine anyR_begin (R := Later) Later.pre Later.drew 13 rfl (by kernel_rfl) (fun V1 hV1 => ?_)
 have q0 : ∀ v, Later V1 v → ∀ j, v.cell? ⟨gx, j, none⟩ = #[.int .u8 p, .int .u32 x, .int .u32 d, .int .u16 a, .int .u16 b][j]? := fun v hv => block_cell (later_keep (L9.trans (hV1.trans hv)) C0.out)
 have qf : ∀ v, Later V1 v → ∀ j, v.cell? ⟨f.blk, j, none⟩ = (flc f).toArray[j]? := fun v hv => block_cell (later_keep (L9.trans (hV1.trans hv)) HF.out)
 unfold flc at qf
 refine rV Later.pre 0 rfl rfl ⟨_, fun v h => by (go_simp; rfl), ?_⟩; simp only [Act.put, sA, sB, sC]
 refine rV Later.pre 1 rfl rfl ⟨_, fun v h => by (go_simp; rfl), ?_⟩; simp only [Act.put, sA, sB, sC]
 refine anyR_take Later.pre 2 (.agg #[.int .u8 p, .int .u32 x, .int .u32 d, .int .u16 (kyp p a), .int .u16 b]) rfl (by kernel_rfl) (by kernel_rfl) (by kernel_rfl) (fun _ _ _ h => h) rfl (fun u hu => goes_call 76 #[.agg #[.int .u8 p, .int .u32 x, .int .u32 d, .int .u16 a, .int .u16 b]] (by go_simp) (key_any p x d a b u)) ?_
 simp only [Act.put, sA, sB, sC]
 refine rV Later.pre 3 rfl rfl ⟨_, fun v h => by (go_simp; rfl), ?_⟩; simp only [Act.put, sA, sB, sC]
 refine rV Later.pre 4 rfl rfl ⟨_, fun v h => by (go_simp; rfl), ?_⟩; simp only [Act.put, sA, sB, sC]
 refine rV Later.pre 5 rfl rfl ⟨_, fun v h => by (go_simp; rfl), ?_⟩; simp only [Act.put, sA, sB, sC]
 refine rV Later.pre 6 rfl rfl ⟨_, fun v h => by (go_simp; rfl), ?_⟩; simp only [Act.put, sA, sB, sC]
 refine rV Later.pre 7 rfl rfl ⟨_, fun v h => by (go_simp; rfl), ?_⟩; simp only [Act.put, sA, sB, sC]
 refine anyR_take Later.pre 8 (.agg #[.int .u8 f.o.pr, .int .u32 f.o.src, .int .u32 f.o.dst, .int .u16 (kyp f.o.pr f.o.sp), .int .u16 f.o.dp]) rfl (by kernel_rfl) (by kernel_rfl) (by kernel_rfl) (fun _ _ _ h => h) rfl (fun u hu => goes_call 76 #[.agg #[.int .u8 f.o.pr, .int .u32 f.o.src, .int .u32 f.o.dst, .int .u16 f.o.sp, .int .u16 f.o.dp]] (by go_simp) (key_any f.o.pr f.o.src f.o.dst f.o.sp f.o.dp u)) ?_
 simp only [Act.put, sA, sB, sC]
 clear q0 qf
 generalize kyp p a = ka at *
 generalize kyp f.o.pr f.o.sp = ka2 at *
 have q5 : ∀ v : World, (binOp .neq 68 (.agg #[.int .u8 p, .int .u32 x, .int .u32 d, .int .u16 ka, .int .u16 b]) (.agg #[.int .u8 f.o.pr, .int .u32 f.o.src, .int .u32 f.o.dst, .int .u16 ka2, .int .u16 f.o.dp])).run Tryz.prog v = .ok (.bool bk) v := fun v => tup_ne2 bk p x d ka b f.o.pr f.o.src f.o.dst ka2 f.o.dp v HBK.out
 refine rV Later.pre 9 rfl rfl ⟨.bool bk, fun v1 hv1 => by
  have hb := HBK.out
  clear q5
  cases bk with
  | true =>
   have hn := hb.1 rfl
   clear hb
   go_simp
   by_cases g1 : p = f.o.pr <;> by_cases g2 : x = f.o.src <;> by_cases g3 : d = f.o.dst <;> by_cases g4 : ka = ka2 <;> by_cases g5 : b = f.o.dp <;> simp_all
  | false =>
   have h2 := Classical.byContradiction (fun q => by have := hb.2 q; cases this)
   obtain ⟨g1, g2, g3, g4, g5⟩ := h2
   rw [g1, g2, g3, g4, g5]
   go_simp, ?_⟩
 simp only [Act.put, sA, sB, sC]
 refine rV Later.pre 10 rfl rfl ⟨_, fun v h => by (go_simp; rfl), ?_⟩; simp only [Act.put, sA, sB, sC]
 refine rV Later.pre 11 rfl rfl ⟨_, fun v h => by (go_simp; rfl), ?_⟩; simp only [Act.put, sA, sB, sC]
 refine rV Later.pre 12 rfl rfl ⟨_, fun v h => by (go_simp; rfl), ?_⟩; simp only [Act.put, sA, sB, sC]
 refine anyR_done (by kernel_rfl) (fun V2 hV2 => ?_)
 go_wp2_with fail
 exact bodyPost_ret (v := .tuple #[.pointer (some ⟨f.blk, 0, none⟩), .bool bk, .bool true]) (by simp [results, Tryz.results33, go_sem]) rfl ⟨rfl, l0.trans (L9.trans (hV1.trans hV2))⟩
end Go.Proofs.YtofknbfbmaefoaaGreatDoor
