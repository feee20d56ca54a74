import Derived.Test.YteaeilghamjjkaaGreatDoorX3
namespace Go.Proofs.YteaeilghamjjkaaGreatDoor
set_option maxHeartbeats 8000000
open Go.RowKit Go.Shelf
set_option maxRecDepth 100000
set_option linter.unusedVariables false
set_option linter.unusedSimpArgs false
theorem Kgl.of_but {base:Nat} {E:Nat→Prop} {a b:World} (h:But E a b)(hE:∀k,E k→∀o,a.heap[k]? =some o→base≤k∧∀cur t f,o= .cells cur t f→gL.contains t=true):Kgl base a b:=⟨h.os,h.tape,h.output,h.size,fun k o h1 h2=>(h.block k (eS h1) (fun e=>by
 obtain⟨q1,q2⟩:=hE k e o h1;rcases h2 with h2|⟨cur,t,f,he,ht⟩
 ·omega
 ·rw[q2 cur t f he]at ht
  cases ht)).trans h1⟩
theorem zBc {A B:World} {base:Nat} {e:TypeId} {k:Nat} {v:Value} {n:Nat} {xs:List Value} {E:Nat→Prop} (h:A.ownsRow base e k v n xs)(hb:But E A B)(hE:∀q,v.ownBlock=some q→¬E q):B.ownsRow base e k v n xs:=by
 obtain⟨h1,h2|⟨g,cap,cur,hv,hg,hh,r⟩⟩:=h
 ·exact ⟨h1,.inl h2⟩
 ·exact ⟨h1,.inr ⟨g,cap,cur,hv,hg,(hb.block g (eS hh) (hE g (by rw[hv];rfl))).trans hh,r⟩⟩
theorem zLn {A:World} {base base':Nat} {e:TypeId} {k:Nat} {v:Value} {n:Nat} {xs:List Value} (h:A.ownsRow base e k v n xs)(hE:∀q,v.ownBlock=some q→base'≤q):A.ownsRow base' e k v n xs:=by
 obtain⟨h1,h2|⟨g,cap,cur,hv,hg,hh,r⟩⟩:=h
 ·exact ⟨h1,.inl h2⟩
 ·exact ⟨h1,.inr ⟨g,cap,cur,hv,hE g (by rw[hv];rfl),hh,r⟩⟩
def HpD (base:Nat) (W:World) (hb:Nat) (c m:Int):Prop:=∃v,W.heap[hb]? =some (.cells #[v] 462 (0,0))∧W.ownsRow base 533 4 v 1 [.int .u16 c,.int .u8 47,.int .u32 16909060,.int .u16 m]
theorem HpD.mono {base base':Nat} {W:World} {hb:Nat} {c m:Int} (h:HpD base W hb c m)(hb':base'≤base):HpD base' W hb c m:=by
 obtain⟨v,h1,h2⟩:=h;exact⟨v,h1,zCl h2 hb'⟩
theorem HpD.later {base:Nat} {A B:World} {hb:Nat} {c m:Int} (h:HpD base A hb c m)(l:Later A B):HpD base B hb c m:=by
 obtain⟨v,h1,h2⟩:=h;exact⟨v,zAb l h1,zA4 h2 l⟩
theorem HpD.but {base:Nat} {A B:World} {hb k:Nat} {c m:Int} (h:HpD base A hb c m)(hB:But (fun q=>q=k) A B)(hk:k<base)(hne:hb≠k):HpD base B hb c m:=by
 obtain⟨v,h1,h2⟩:=h;refine⟨v,(hB.block hb (eS h1) hne).trans h1,zBc h2 hB (fun q hq e=> ?_)⟩;have e':q=k:=e;have:=(h2.lt q hq).1;omega
theorem HpD.aside {base:Nat} {A B:World} {hb k:Nat} {c m:Int} (h:HpD base A hb c m) {cur:Array Value} {t:TypeId} {fz:Nat × Nat} (hk:A.heap[k]? =some (.cells cur t fz))(ht:t≠462∧t≠533)(hB:But (fun q=>q=k) A B):HpD base B hb c m:=by
 obtain⟨v,h1,h2⟩:=h;refine⟨v,(hB.block hb (eS h1) (fun e=> ?_)).trans h1,zCp h2 hB hk (fun e=>ht.2 e.symm)⟩;have e':hb=k:=e;rw[e',hk]at h1;exact ht.1 (Obj.cells.inj (Option.some.inj h1)).2.1
def HvT (base:Nat) (W:World) (nv:Value) (nn m:Int):Prop:=W.ownsRow base 230 3 nv 2 [.int .u8 6,.int .u32 16909060,.int .u16 nn,.int .u8 47,.int .u32 16909060,.int .u16 m]
def AdQ (base g hb nn c:Nat) (s:Gf) (f:Fl) (w w':World) (e:Ending):Prop:=∃(b:Nat) (nv:Value),e= .returned (.tuple #[.agg #[.int .u16 (c:Int),.int .u8 47,.int .u32 16909060,.int .u16 ((tkn 1000 1063 c:Nat):Int)],.bool true])∧Kgl base w w'∧w.heap.size≤b∧GF base w' g (zHk (zRn s 47 16909060 b (wsR (zCr (zBy 1000 1063)) (tkn 1000 1063 c))) { f with hv:=nv })∧HpD w.heap.size w' hb (c:Int) ((tkn 1000 1063 c:Nat):Int)∧HvT base w' nv (nn:Int) ((tkn 1000 1063 c:Nat):Int)∧∀(k:Nat) (cur:Array Value) (fz:Nat × Nat),w.heap[k]? =some (Obj.cells cur 533 fz)→w'.heap[k]? =some (Obj.cells cur 533 fz)
def TkC (base g:Nat) (s:Gf) (c:Nat) (w1:World) (v cc:Value) (wx:World):Prop:=∃gn b:Nat,v= .pointer (some ⟨gn,0,none⟩)∧cc= .bool true∧w1.heap.size≤gn∧w1.heap.size≤b∧But (fun q=>q=s.gp∨w1.heap.size≤q) w1 wx∧GF base wx g (zRn s 47 16909060 b (wsR (zCr (zBy 1000 1063)) (tkn 1000 1063 c)))∧wx.heap[gn]? =some (.cells #[.int .u8 47,.int .u32 16909060,.int .u16 ((tkn 1000 1063 c:Nat):Int)] 230 (0,0))
theorem add_nil(base g:Nat)(s:Gf)(f:Fl)(hb nn:Nat)(ws:Nat→Nat)(c:Nat)(tos id ttl src dst:Int)(keep:Bool)(so sd:Value)(side:Int)(bk:Bool)(t0 t1 t2 t3 t4 i0 i1 i2 i3 i4:Int)(w:World)(hG:GF base w g s)(hS:S1 s f nn 3 ws)(hN:HpN w hb)(hV:HvP w f 6 16909060 nn)(hbs:base≤w.heap.size)(hbb:base≤hb)(hvb:HvB base f)(hc:c<65536)(hz:∀W,KG base w W→Dz W)(hgz:6≤w.heap.size):
  Calls Tryz.prog 405 #[.pointer (some ⟨hb,0,none⟩),.agg #[.pointer (some ⟨g,0,none⟩),.int .u8 tos,.int .u16 id,.bool keep,.int .u8 ttl,.int .u8 6,.int .u32 src,.int .u32 dst,so,sd,.int .i64 side,.pointer (some ⟨f.blk,0,none⟩),.bool bk,.int .u8 t0,.int .u32 t1,.int .u32 t2,.int .u16 t3,.int .u16 t4,.int .u8 i0,.int .u32 i1,.int .u32 i2,.int .u16 i3,.int .u16 i4],.int .u16 (c:Int)] w fun e w'=>AdQ base g hb nn c s f w w' e:=by
 obtain⟨l0,c0,c1⟩:=zBj w (.cells #[.pointer (some ⟨g,0,none⟩),.int .u8 tos,.int .u16 id,.bool keep,.int .u8 ttl,.int .u8 6,.int .u32 src,.int .u32 dst,so,sd,.int .i64 side,.pointer (some ⟨f.blk,0,none⟩),.bool bk,.int .u8 t0,.int .u32 t1,.int .u32 t2,.int .u16 t3,.int .u16 t4,.int .u8 i0,.int .u32 i1,.int .u32 i2,.int .u16 i3,.int .u16 i4] 242) (.cells #[.int .u16 0,.int .u8 0,.int .u32 0,.int .u16 0] 533);have C0:=zAc c0;have C1:=zAc c1;have H1:=zAc (zAb l0 hN);have hF:=(hG.fb f (by rw[hS.fs];simp)).2;have F1:=zAc (zAb l0 hF);have G1:=zAc (hG.later l0);clear c0 c1 hF;go_enter Tryz.func405,Tryz.ntmps405;go_upto_region 1 with fail;change Code.wp _ _ _ _ ((w.alloc (.cells #[.pointer (some ⟨g,0,none⟩),.int .u8 tos,.int .u16 id,.bool keep,.int .u8 ttl,.int .u8 6,.int .u32 src,.int .u32 dst,so,sd,.int .i64 side,.pointer (some ⟨f.blk,0,none⟩),.bool bk,.int .u8 t0,.int .u32 t1,.int .u32 t2,.int .u16 t3,.int .u16 t4,.int .u8 i0,.int .u32 i1,.int .u32 i2,.int .u16 i3,.int .u16 i4] 242)).alloc (.cells #[.int .u16 0,.int .u8 0,.int .u32 0,.int .u16 0] 533))
 generalize (w.alloc (.cells #[.pointer (some ⟨g,0,none⟩),.int .u8 tos,.int .u16 id,.bool keep,.int .u8 ttl,.int .u8 6,.int .u32 src,.int .u32 dst,so,sd,.int .i64 side,.pointer (some ⟨f.blk,0,none⟩),.bool bk,.int .u8 t0,.int .u32 t1,.int .u32 t2,.int .u16 t3,.int .u16 t4,.int .u8 i0,.int .u32 i1,.int .u32 i2,.int .u16 i3,.int .u16 i4] 242)).alloc (.cells #[.int .u16 0,.int .u8 0,.int .u32 0,.int .u16 0] 533)=w1 at*;generalize hgx:w.heap.size=gx at C0 C1⊢;have k1:=zAa H1.out;go_upto_region 3 with fail;clear k1;obtain⟨pb,hps⟩:=hS.ps;have hlo:=hS.lo;have hhi:=hS.hi;have hgp0:s.gp<w1.heap.size:=(eS G1.out.pl);have hfb0:f.blk<w1.heap.size:=(eS F1.out);have hgx0:gx<w1.heap.size:=(eS C0.out);have hpb0:pb<w1.heap.size:=(Array.getElem?_eq_some_iff.1 (G1.out.pb ⟨6,16909060,pb,ws⟩ (by rw[hps];simp)).2.2).1;have hs1:w.heap.size≤w1.heap.size:=l0.size
 have HTK:=zAc (fun W (hg:GF base W g s) (k:KG base w W) (hz2:w1.heap.size≤W.heap.size)=>zOo base g s 47 16909060 c W hg ⟨6,16909060,pb,ws⟩ hps srF_6 (by show pb<W.heap.size;omega) (by rw[hlo];omega) (by rw[hlo,hhi];omega) (by rw[hhi];omega) hc (by omega) (fun V hV=>hz V (k.trans (KG.of_but hV (fun q e=>by
  have e':q=s.gp:=e;rw[e']
  exact⟨hg.bf.2,fun ob ho=>by
   have hp:=hg.pl;rw[hp]at ho;cases ho
   exact trivial⟩)))) (by omega))
 unfold Tn2 at HTK;rw[hlo,hhi]at HTK;have hr2:f.r.dst=16909060:=by rw[hS.r];rfl
 go_cut [8,9] (fun v cc wx=>TkC base g s c w1 v cc wx)
 case first=>
  refine zC6 ?_;refine zAk (R:=But (fun q=>q=s.gp∨w1.heap.size≤q)) 19 rfl (by kernel_rfl) ?_;have ld:Later w1 w1.drew:=Later.drew w1;generalize w1.drew=wd at*;have GD:=zAc (G1.out.later ld);have hsd:w1.heap.size≤wd.heap.size:=ld.size
  have q0:∀v,But (fun q=>q=s.gp∨w1.heap.size≤q) wd v→∀j,v.cell? ⟨gx,j,none⟩=_:=fun v hv=>zAa ((hv.block gx (by omega) (fun e=>by
   have e':gx=s.gp∨w1.heap.size≤gx:=e;rcases e' with e'|e'
   ·have h1:=C0.out
    rw[e',G1.out.pl]at h1;cases h1
   ·omega)).trans (zAb ld C0.out))
  have q1:∀v,But (fun q=>q=s.gp∨w1.heap.size≤q) wd v→∀j,v.cell? ⟨f.blk,j,none⟩=_:=fun v hv=>zAa ((hv.block f.blk (by omega) (fun e=>by
   have e':f.blk=s.gp∨w1.heap.size≤f.blk:=e;rcases e' with e'|e'
   ·have h1:=F1.out
    rw[e',G1.out.pl]at h1;cases h1
   ·omega)).trans (zAb ld F1.out))
  unfold flc at q1;rw[hr2]at q1;refine tX (But.pre _) 0 ?_;refine tX (But.pre _) 1 ?_;refine tX (But.pre _) 2 ?_;refine tX (But.pre _) 3 ?_;refine tX (But.pre _) 4 ?_;refine tX (But.pre _) 5 ?_;refine tX (But.pre _) 6 ?_;refine tX (But.pre _) 7 ?_;refine tX (But.pre _) 8 ?_;refine tX (But.pre _) 9 ?_;refine tX (But.pre _) 10 ?_;refine tX (But.pre _) 11 ?_;clear q0 q1;have hgpd:s.gp<wd.heap.size:=by omega
  refine zDs 12 16 rfl rfl (by kernel_rfl) rfl rfl ?_ ?_
  ·refine zAi 282 #[.pointer (some ⟨g,0,none⟩),.agg #[.int .u8 47,.int .u32 16909060],.int .u16 (c:Int)] (by go_simp) ?_
   refine(HTK.out wd GD.out (KG.of_later (l0.trans ld)) hsd).mono ?_;rintro e w4 ⟨b,rfl,hb4,hbb,hG4⟩;refine⟨⟨hb4.os,hb4.tape,hb4.output,hb4.size,fun q hq hn=>hb4.block q hq (fun e=>hn (.inl e))⟩,?_⟩;simp only[Act.put,sA,sB,sC];refine tX (But.pre _) 13 ?_;refine tX (But.pre _) 14 ?_;refine tX (But.pre _) 15 ?_;have hs4:wd.heap.size≤w4.heap.size:=hb4.size;have la:=zAe w4 (.cells #[.int .u8 0,.int .u32 0,.int .u16 0] 230);have ca:=zAc (heap_alloc_new w4 (.cells #[.int .u8 0,.int .u32 0,.int .u16 0] 230));have G5:=zAc (hG4.later la);have HB4:=zAc hb4;have LA:=zAc la;clear hb4 hG4 la;refine tO 16 ?_;unfold Oper.wp;go_simp;refine⟨(But.of LA.out),?_⟩;have BB:=(But.pre (fun q=>q=s.gp∨w1.heap.size≤q)).2 _ _ _ ((But.pre (fun q=>q=s.gp∨w1.heap.size≤q)).2 _ _ _ (But.of ld) (show But (fun q=>q=s.gp∨w1.heap.size≤q) wd w4 from⟨HB4.out.os,HB4.out.tape,HB4.out.output,HB4.out.size,fun q hq hn=>HB4.out.block q hq (fun e=>hn (.inl e))⟩)) (But.of LA.out);have hgn:w1.heap.size≤w4.heap.size:=by omega
   have hbn:w1.heap.size≤b:=by omega
   have CA:=ca;clear ca LA HB4;generalize w4.alloc _=w5 at*;generalize w4.heap.size=gn at*;have kA:=zAa CA.out;have fA:=zAd CA.out;refine tO 17 ?_;unfold Oper.wp;go_simp;generalize hV:World.setCell _ ⟨gn,2,none⟩ _=w6;have hV9:w6=zAj w5 gn 0 [.int .u8 47,.int .u32 16909060,.int .u16 ((tkn 1000 1063 c:Nat):Int)]:=hV.symm;have hb6:But (fun q=>q=gn) w5 w6:=by rw[hV9];exact zAf (E:=fun q=>q=gn) (n:=gn) rfl _ _ _ _ (But.refl _ _)
   have p6:=zAg [.int .u8 47,.int .u32 16909060,.int .u16 ((tkn 1000 1063 c:Nat):Int)] CA.out rfl;rw[←hV9]at p6;clear hV hV9 kA fA;have hbe:But (fun q=>q=s.gp∨w1.heap.size≤q) w5 w6:=⟨hb6.os,hb6.tape,hb6.output,hb6.size,fun q hq hn=>hb6.block q hq (fun e=>hn (.inr (by have e':q=gn:=e;omega)))⟩;refine⟨hbe,?_⟩;have G6:=zAc (G5.out.other (TE.one CA.out) hb6 (by decide));have B6:=zAc ((But.pre (fun q=>q=s.gp∨w1.heap.size≤q)).2 _ _ _ BB hbe);have P6:=zAc p6;clear hb6 p6 hbe BB G5 CA;refine tO 18 ?_;unfold Oper.wp;go_simp;refine⟨(But.pre _).1 _,?_⟩;refine tD ?_;refine⟨rfl,?_⟩;go_wp2_with fail;go_meet
   case rel=>exact⟨gn,b,rfl,rfl,hgn,hbn,B6.out,G6.out,P6.out⟩
  ·have la:=zAe wd (.cells #[.int .u8 0,.int .u32 0,.int .u16 0] 230)
   have ca:=heap_alloc_new wd (.cells #[.int .u8 0,.int .u32 0,.int .u16 0] 230);have G4:=zAc (GD.out.later la);have LA:=zAc la;have CX:=zAc ca;clear la ca;unfold Oper.wp;go_simp;refine⟨But.of LA.out,?_⟩;have hsx:=LA.out.size;generalize wd.alloc _=w4 at*;generalize hgnn:wd.heap.size=gn at*;refine tO 12 ?_;refine zAi 282 #[.pointer (some ⟨g,0,none⟩),.agg #[.int .u8 47,.int .u32 16909060],.int .u16 (c:Int)] (by go_simp) ?_;refine(HTK.out w4 G4.out (KG.of_later (l0.trans (ld.trans LA.out))) (by omega)).mono ?_;rintro e w5 ⟨b,rfl,hb4,hbb,hG4⟩;have hB4:But (fun q=>q=s.gp∨w1.heap.size≤q) w4 w5:=⟨hb4.os,hb4.tape,hb4.output,hb4.size,fun q hq hn=>hb4.block q hq (fun e=>hn (.inl e))⟩;refine⟨hB4,?_⟩;simp only[Act.put,sA,sB,sC];have G5:=zAc hG4;have BB:=zAc ((But.pre (fun q=>q=s.gp∨w1.heap.size≤q)).2 _ _ _ ((But.pre (fun q=>q=s.gp∨w1.heap.size≤q)).2 _ _ _ (But.of ld) (But.of LA.out)) hB4);have hgn:w1.heap.size≤gn:=by omega
   have hbn:w1.heap.size≤b:=by omega
   have CA:=zAc ((hb4.block gn (eS CX.out) (fun e=>by have e':gn=s.gp:=e;omega)).trans CX.out);clear hb4 hB4 hG4 CX G4;refine tX (But.pre _) 13 ?_;refine tX (But.pre _) 14 ?_;refine tX (But.pre _) 15 ?_;have BB:=BB.out;have kA:=zAa CA.out;have fA:=zAd CA.out;refine tO 17 ?_;unfold Oper.wp;go_simp;generalize hV:World.setCell _ ⟨gn,2,none⟩ _=w6;have hV9:w6=zAj w5 gn 0 [.int .u8 47,.int .u32 16909060,.int .u16 ((tkn 1000 1063 c:Nat):Int)]:=hV.symm;have hb6:But (fun q=>q=gn) w5 w6:=by rw[hV9];exact zAf (E:=fun q=>q=gn) (n:=gn) rfl _ _ _ _ (But.refl _ _)
   have p6:=zAg [.int .u8 47,.int .u32 16909060,.int .u16 ((tkn 1000 1063 c:Nat):Int)] CA.out rfl;rw[←hV9]at p6;clear hV hV9 kA fA;have hbe:But (fun q=>q=s.gp∨w1.heap.size≤q) w5 w6:=⟨hb6.os,hb6.tape,hb6.output,hb6.size,fun q hq hn=>hb6.block q hq (fun e=>hn (.inr (by have e':q=gn:=e;omega)))⟩;refine⟨hbe,?_⟩;have G6:=zAc (G5.out.other (TE.one CA.out) hb6 (by decide));have B6:=zAc ((But.pre (fun q=>q=s.gp∨w1.heap.size≤q)).2 _ _ _ BB hbe);have P6:=zAc p6;clear hb6 p6 hbe BB G5 CA;refine tO 18 ?_;unfold Oper.wp;go_simp;refine⟨(But.pre _).1 _,?_⟩;refine tD ?_;refine⟨rfl,?_⟩;go_wp2_with fail;go_meet
   case rel=>exact⟨gn,b,rfl,rfl,hgn,hbn,B6.out,G6.out,P6.out⟩
 case rest=>
  obtain⟨gn,b,rfl,rfl,hgn,hbn,hB,hG5,hP5⟩:=hcut;obtain⟨w2,hw2⟩:∃w2,w2=wc:=⟨_,rfl⟩;subst hw2;have hhb0:hb<w1.heap.size:=(eS H1.out)
  have keepB:∀(k:Nat) (cur:Array Value) (t:TypeId) (fz:Nat × Nat),w1.heap[k]? =some (.cells cur t fz)→w2.heap[k]? =some (.cells cur t fz):=fun k cur t fz hk=>(hB.block k (eS hk) (fun e=>by
   have e':k=s.gp∨w1.heap.size≤k:=e;rcases e' with e'|e'
   ·rw[e',G1.out.pl]at hk
    cases hk
   ·have:=(eS hk)
    omega)).trans hk
  have C2:=zAc (keepB _ _ _ _ C0.out);have D2:=zAc (keepB _ _ _ _ C1.out);have H2:=zAc (keepB _ _ _ _ H1.out);have G2:=zAc hG5;have P2:=zAc hP5;have hs2:w1.heap.size≤w2.heap.size:=hB.size;have B2:=zAc hB;clear keepB hG5 hP5 hB C0 C1 H1 F1 G1 HTK;have kn:=zAa P2.out;have la:=zAe w2 (.cells #[.int .u16 (c:Int),.int .u8 47,.int .u32 16909060,.int .u16 ((tkn 1000 1063 c:Nat):Int)] 533);have A3:=zAc (heap_alloc_new w2 (.cells #[.int .u16 (c:Int),.int .u8 47,.int .u32 16909060,.int .u16 ((tkn 1000 1063 c:Nat):Int)] 533));have C3:=zAc (zAb la C2.out);have D3:=zAc (zAb la D2.out);have H3:=zAc (zAb la H2.out);have P3:=zAc (zAb la P2.out);have G3:=zAc (G2.out.later la);have hs3:=la.size;have LA:=zAc la;clear la C2 D2 H2 P2 G2;go_upto_region 7 with fail;clear kn;generalize hW3:w2.alloc _=w3 at*;generalize hg6:w2.heap.size=g6 at*;clear hW3;have hh3:hb<w3.heap.size:=(eS H3.out);have hh6:g6<w3.heap.size:=(eS A3.out);have hhg:hb≠g6:=by omega
  refine zC6 ?_;refine zA6 (R1:=Later) (R2:=fun _ _=>True) (D:=[10]) 11 rfl (by kernel_rfl) ?_;have ld:Later w3 w3.drew:=Later.drew w3;generalize w3.drew=wd at*;have hsd:w3.heap.size≤wd.heap.size:=ld.size;have HD:=zAc (zAb ld H3.out);have GD:=zAc (G3.out.later ld);have q0:∀v,Later wd v→∀j,v.cell? ⟨g6,j,none⟩=_:=fun v hv=>zAa (zAb (ld.trans hv) A3.out);have q1:∀v,Later wd v→∀j,v.cell? ⟨hb,j,none⟩=_:=fun v hv=>zAa (zAb hv HD.out);refine uX Later.pre 0 [8,9,10] ?_;refine uX Later.pre 1 [2,3,4,7,10] ?_;refine uX Later.pre 2 [3,4,7,10] ?_;refine uX Later.pre 3 [4,7,10] ?_;refine uX Later.pre 4 [7,10] ?_;refine uX Later.pre 5 [6,7,10] ?_;clear q0 q1;obtain⟨i0,hi0,hz0,hz1⟩:=infoK zRk;obtain⟨ab,cp,w5,hrun,hrow,hbt,hob,hgx5⟩:=appOne Tryz.underlying460 hi0 hz0 hz1 rfl (by decide) (infoB zOm hi0) wd 460 w.heap.size (.slice none 0 0) 0 [] [.int .u16 (c:Int),.int .u8 47,.int .u32 16909060,.int .u16 ((tkn 1000 1063 c:Nat):Int)] rfl (by intro u hu;simp at hu;rcases hu with rfl|rfl|rfl|rfl<;>rfl) ⟨rfl,.inl ⟨rfl,rfl⟩⟩ (by omega) (by omega);have lx:=zAe wd (.cells #[.int .u16 (c:Int),.int .u8 47,.int .u32 16909060,.int .u16 ((tkn 1000 1063 c:Nat):Int)] 533);refine uO 6 ?_;unfold Oper.wp;go_simp;refine⟨zBr (by rfl) lx,?_⟩
  have hl5:Later wd w5:=⟨hbt.os,hbt.tape,hbt.output,hbt.size,fun q hq=>hbt.block q hq (fun e=>by
   have e':(Value.slice none 0 0).ownBlock=some q:=e;cases e')⟩
  have hr5:Later (wd.alloc (.cells #[.int .u16 (c:Int),.int .u8 47,.int .u32 16909060,.int .u16 ((tkn 1000 1063 c:Nat):Int)] 533)) w5:=⟨hgx5.os,hgx5.tape,hgx5.output,hgx5.size,fun q hq=>hgx5.block q hq (fun e=>by
   have e':(Value.slice none 0 0).ownBlock=some q:=e;cases e')⟩
  refine uO 7 ?_;refine zEl (.tmp 44) (.tmp 46) 460 rfl (.slice none 0 0) (.slice (some ⟨wd.heap.size,0,none⟩) 1 1) (by go_simp) (by go_simp) _ _ hrun ?_;refine⟨zBr (by rfl) hr5,?_⟩;simp only[Act.put,sA,sB,sC];have H5:=zAc (zAb hl5 HD.out);have G5:=zAc (GD.out.later hl5);clear hrun hr5 lx hgx5 hbt;refine uX Later.pre 8 [9,10] ?_;refine uX Later.pre 9 [10] ?_;have kp:=zAa H5.out;have fp:=zAd H5.out;refine uO 10 ?_;unfold Oper.wp;go_simp;refine⟨zEf (by rfl) trivial,?_⟩;refine uD ?_;refine⟨rfl,?_⟩;have hb6:But (fun q=>q=hb) w5 (w5.setCell ⟨hb,0,none⟩ (.slice (some ⟨ab,0,none⟩) (0+1) cp)):=(But.refl (fun q=>q=hb) _).setCell (p:=⟨hb,0,none⟩) (show _=_ from rfl) _;have H6:=zAc (zAh H5.out 0 (.slice (some ⟨ab,0,none⟩) (0+1) cp));have G6:=zAc (G5.out.other (TE.one H5.out) hb6 (by decide))
  have hab:ab≠hb:=by
   rcases hob with h|h
   ·cases h
   ·omega
  have R6:=zAc (hrow);have Z6:=zAc hb6;have L35:Later w3 w5:=ld.trans hl5;have keep6:∀(k:Nat) (cur:Array Value) (t:TypeId) (fz:Nat × Nat),w3.heap[k]? =some (.cells cur t fz)→k≠hb→(w5.setCell ⟨hb,0,none⟩ (.slice (some ⟨ab,0,none⟩) (0+1) cp)).heap[k]? =some (.cells cur t fz):=fun k cur t fz hk hne=>(hb6.block k (eS (zAb L35 hk)) (fun e=>hne e)).trans (zAb L35 hk);have hbw:hb<w.heap.size:=(eS hN);have hnx:gx≠hb:=by omega
  have C6:=zAc (keep6 _ _ _ _ C3.out hnx);have D6:=zAc (keep6 _ _ _ _ D3.out (by omega));have P6:=zAc (keep6 _ _ _ _ P3.out (by omega));have A6:=zAc (keep6 _ _ _ _ A3.out (by omega));obtain⟨nb,hve,hnb⟩:=hV;have hnbw:nb<w.heap.size:=(eS hnb)
  have hnh:nb≠hb:=fun e=>by
   have h1:=hnb;have h2:w.heap[hb]? =some (.cells #[.slice none 0 0] 462 (0,0)):=hN;rw[e,h2]at h1;have:=(Obj.cells.inj (Option.some.inj h1)).2.1;revert this
   decide
  have N1:=zAb l0 hnb
  have N2:=(B2.out.block nb (by omega) (fun e=>by
   have e':nb=s.gp∨w1.heap.size≤nb:=e;rcases e' with e'|e'
   ·have h1:=hnb
    rw[e',hG.pl]at h1;cases h1
   ·omega)).trans N1
  have N6:=zAc (keep6 _ _ _ _ (zAb LA.out N2) hnh);have FL6:=zAc (G6.out.fb f (by show f∈s.fs;rw[hS.fs];simp)).2;have H3k:=H3;clear kp fp H5 G5 hrow hb6 keep6 N1 N2 C3 D3 P3 A3 H3 G3;go_upto_region 8 with fail;generalize hW6:w5.setCell ⟨hb,0,none⟩ _=w6 at*;have hs6:w3.heap.size≤w6.heap.size:=Nat.le_trans L35.size Z6.out.size
  have hfn:f.blk≠nb:=fun e=>by
   have h1:=FL6.out;rw[e,N6.out]at h1;have:=(Obj.cells.inj (Option.some.inj h1)).2.1;revert this
   decide
  have hgxn:gx≠nb:=by omega
  have hgnn:gn≠nb:=by omega
  refine zC6 ?_;refine zA6 (R1:=But (fun q=>q=nb)) (R2:=fun _ _=>True) (D:=[12]) 13 rfl (by kernel_rfl) ?_;have le:Later w6 w6.drew:=Later.drew w6;generalize w6.drew=we at*;have q0:∀v,But (fun q=>q=nb) we v→∀j,v.cell? ⟨gx,j,none⟩=_:=fun v hv=>zAa ((hv.block gx (eS (zAb le C6.out)) (fun e=>hgxn e)).trans (zAb le C6.out));have q1:∀v,But (fun q=>q=nb) we v→∀j,v.cell? ⟨f.blk,j,none⟩=_:=fun v hv=>zAa ((hv.block f.blk (eS (zAb le FL6.out)) (fun e=>hfn e)).trans (zAb le FL6.out));have q2:∀v,But (fun q=>q=nb) we v→∀j,v.cell? ⟨gn,j,none⟩=_:=fun v hv=>zAa ((hv.block gn (eS (zAb le P6.out)) (fun e=>hgnn e)).trans (zAb le P6.out));unfold flc at q1;rw[hve]at q1;refine uX (But.pre _) 0 [1,10,11,12] ?_;refine uX (But.pre _) 1 [10,11,12] ?_;refine uX (But.pre _) 2 [3,4,5,6,9,12] ?_;refine uX (But.pre _) 3 [4,5,6,9,12] ?_;refine uX (But.pre _) 4 [5,6,9,12] ?_;refine uX (But.pre _) 5 [6,9,12] ?_;refine uX (But.pre _) 6 [9,12] ?_;refine uX (But.pre _) 7 [8,9,12] ?_;clear q0 q1 q2;obtain⟨j0,hj0,hjz0,hjz1⟩:=infoK info_num
  obtain⟨a2,c2,w8,hrun,hrow,hbt,hoc,hgx8⟩:=appOne Tryz.underlying107 hj0 hjz0 hjz1 rfl (by decide) (infoB zRl hj0) we 107 0 (.slice (some ⟨nb,0,none⟩) 1 1) 1 [.int .u8 6,.int .u32 16909060,.int .u16 (nn:Int)] [.int .u8 47,.int .u32 16909060,.int .u16 ((tkn 1000 1063 c:Nat):Int)] rfl (by intro u hu;simp at hu;rcases hu with rfl|rfl|rfl<;>rfl) ⟨rfl,.inr ⟨nb,1,_,rfl,Nat.zero_le _,zAb le N6.out,by omega,by unfold maxLen;omega,rfl,rfl⟩⟩ (by omega) (by omega);have lx:=zAe we (.cells #[.int .u8 47,.int .u32 16909060,.int .u16 ((tkn 1000 1063 c:Nat):Int)] 230);refine uO 8 ?_;unfold Oper.wp;go_simp;refine⟨zBr (by rfl) (But.of lx),?_⟩
  have hr8:But (fun q=>q=nb) (we.alloc (.cells #[.int .u8 47,.int .u32 16909060,.int .u16 ((tkn 1000 1063 c:Nat):Int)] 230)) w8:=⟨hgx8.os,hgx8.tape,hgx8.output,hgx8.size,fun q hq hn=>hgx8.block q hq (fun e=>hn (by
   have e':some nb=some q:=e;exact(Option.some.inj e').symm))⟩
  have hb8:But (fun q=>q=nb) we w8:=⟨hbt.os,hbt.tape,hbt.output,hbt.size,fun q hq hn=>hbt.block q hq (fun e=>hn (by
   have e':some nb=some q:=e;exact(Option.some.inj e').symm))⟩
  refine uO 9 ?_;refine zEl (.tmp 56) (.tmp 58) 107 rfl (.slice (some ⟨nb,0,none⟩) 1 1) (.slice (some ⟨we.heap.size,0,none⟩) 1 1) (by go_simp) (by go_simp) _ _ hrun ?_;refine⟨zBr (by rfl) hr8,?_⟩;simp only[Act.put,sA,sB,sC];have NE:=zAc (zAb le N6.out);have F8:=zAc ((hb8.block f.blk (eS (zAb le FL6.out)) (fun e=>hfn e)).trans (zAb le FL6.out));have G8:=zAc ((G6.out.later le).other (TE.one NE.out) hb8 (by decide));clear hrun hr8 lx hgx8 hbt;refine uX (But.pre _) 10 [11,12] ?_;refine uX (But.pre _) 11 [12] ?_;have kp:=zAa F8.out;have fp:=zAd F8.out;unfold flc at kp;refine uO 12 ?_;unfold Oper.wp;go_simp;refine⟨zEf (by rfl) trivial,?_⟩;refine uD ?_;refine⟨rfl,?_⟩;clear kp fp;have hb9:But (fun q=>q=f.blk) w8 (w8.setCell ⟨f.blk,15,none⟩ (.slice (some ⟨a2,0,none⟩) (1+1) c2)):=(But.refl (fun q=>q=f.blk) _).setCell (p:=⟨f.blk,15,none⟩) (show _=_ from rfl) _;have F9:=zAh F8.out 15 (.slice (some ⟨a2,0,none⟩) (1+1) c2)
  have G9:=zAc (G8.out.flow f { f with hv:= .slice (some ⟨a2,0,none⟩) (1+1) c2 } (by show f∈s.fs;rw[hS.fs];simp) (fun x hx _=>by
   have hx':x∈s.fs:=hx;rw[hS.fs]at hx';exact List.mem_singleton.1 hx') hb9 rfl rfl F9)
  have hfg6:g6≠f.blk:=by
   have:=(Array.getElem?_eq_some_iff.1 (hG.fb f (by rw[hS.fs];simp)).2).1;omega
  have hfgx:gx+1≠f.blk:=by
   have:=(Array.getElem?_eq_some_iff.1 (hG.fb f (by rw[hS.fs];simp)).2).1;omega
  have A8:=(hb8.block g6 (eS (zAb le A6.out)) (fun e=>by have e':g6=nb:=e;omega)).trans (zAb le A6.out);have D8:=(hb8.block (gx+1) (eS (zAb le D6.out)) (fun e=>by have e':gx+1=nb:=e;omega)).trans (zAb le D6.out);have A9:=zAc ((hb9.block g6 (eS A8) hfg6).trans A8);have D9:=zAc ((hb9.block (gx+1) (eS D8) hfgx).trans D8);clear A8 D8;have ka:=zAa A9.out;have kd:=zAa D9.out;have fd:=zAd D9.out;generalize hW9:w8.setCell ⟨f.blk,15,none⟩ _=w9 at*;go_wp2_with fail;generalize hV:World.setCell _ ⟨gx+1,3,none⟩ _=w10;have hV9:w10=zAj w9 (gx+1) 0 [.int .u16 (c:Int),.int .u8 47,.int .u32 16909060,.int .u16 ((tkn 1000 1063 c:Nat):Int)]:=hV.symm;have hb10:But (fun q=>q=gx+1) w9 w10:=by rw[hV9];exact zAf (E:=fun q=>q=gx+1) (n:=gx+1) rfl _ _ _ _ (But.refl _ _)
  have p10:=zAg [.int .u16 (c:Int),.int .u8 47,.int .u32 16909060,.int .u16 ((tkn 1000 1063 c:Nat):Int)] D9.out rfl;rw[←hV9]at p10;clear hV hV9 ka kd fd;have P10:=zAa p10
  have hnbB:base≤nb:=by
   obtain⟨k,hk,e⟩:=hvb;rw[hve]at e;injection e with e1 e2 e3
   injection e1 with e4
   injection e4 with e5 e6 e7
   omega
  have hfB:=(hG.fb f (by rw[hS.fs];simp));have hfw:=(eS hfB.2)
  have habD:wd.heap.size≤ab:=by
   rcases hob with h|h
   ·cases h
   ·exact h
  have ha2:a2=nb∨we.heap.size≤a2:=by
   rcases hoc with h|h
   ·exact .inl (Option.some.inj h).symm
   ·exact .inr h
  have hsE:w6.heap.size≤we.heap.size:=le.size;have hs56:w5.heap.size≤w6.heap.size:=Z6.out.size;have hsD5:wd.heap.size≤w5.heap.size:=hl5.size
  have hgxd:gx+1<wd.heap.size:=by
   have:=(eS D6.out);omega
  have hfbH:hb≠f.blk:=fun e=>by
   have h1:=hN;have h2:w.heap[hb]? =some (.cells #[.slice none 0 0] 462 (0,0)):=hN;rw[e,hfB.2]at h2;have:=(Obj.cells.inj (Option.some.inj h2)).2.1;revert this
   decide
  have hfbN:nb≠f.blk:=fun e=>hfn e.symm
  -- what stays
  have K1:Kgl base w w1:=Kgl.of_kg (KG.of_later l0)
  have K2:Kgl base w1 w2:=Kgl.of_but B2.out (fun k e o ho=>by
   have e':k=s.gp∨w1.heap.size≤k:=e;rcases e' with e'|e'
   ·rw[e']at ho⊢
    rw[zAb l0 hG.pl]at ho;cases ho
    exact⟨hG.bf.2,fun cur t f h=>by cases h⟩
   ·have:=(eS ho)
    omega)
  have K5:Kgl base w2 w5:=Kgl.of_kg (KG.of_later (LA.out.trans L35))
  have K6:Kgl base w5 w6:=Kgl.of_but Z6.out (fun k e o ho=>by
   have e':k=hb:=e;rw[e']at ho⊢;refine⟨hbb,fun cur t f h=> ?_⟩;subst h;have h6:=H6.out;have h5:=zAb L35 H3k.out;rw[ho]at h5;rw[(Obj.cells.inj (Option.some.inj h5)).2.1];decide)
  have K8:Kgl base w6 w8:=(Kgl.of_kg (KG.of_later le)).trans (Kgl.of_but hb8 (fun k e o ho=>by
   have e':k=nb:=e;rw[e']at ho⊢;refine⟨hnbB,fun cur t f h=> ?_⟩;subst h;rw[NE.out]at ho;rw[←(Obj.cells.inj (Option.some.inj ho)).2.1];decide))
  have K9:Kgl base w8 w9:=Kgl.of_but hb9 (fun k e o ho=>by
   have e':k=f.blk:=e;rw[e']at ho⊢;refine⟨hfB.1,fun cur t f h=> ?_⟩;subst h;rw[F8.out]at ho;rw[←(Obj.cells.inj (Option.some.inj ho)).2.1];decide)
  have K:Kgl base w w9:=K1.trans (K2.trans (K5.trans (K6.trans (K8.trans K9))));have K10:=K.own hb10 (by omega)
  have KC:∀(k:Nat) (cur:Array Value) (fz:Nat × Nat),w.heap[k]? =some (Obj.cells cur 533 fz)→w10.heap[k]? =some (Obj.cells cur 533 fz):=fun k cur fz hk=>by
   have q0:=(eS hk)
   have q2:=(B2.out.block k (by omega) (fun e=>by
    have e':k=s.gp∨w1.heap.size≤k:=e;rcases e' with e'|e'
    ·rw[e',hG.pl]at hk
     cases hk
    ·omega)).trans (zAb l0 hk)
   have q5:=zAb (LA.out.trans L35) q2
   have q6:=(Z6.out.block k (eS q5) (fun e=>by
    have e':k=hb:=e;have h2:w.heap[hb]? =some (.cells #[.slice none 0 0] 462 (0,0)):=hN;rw[e',h2]at hk;have:=(Obj.cells.inj (Option.some.inj hk)).2.1;revert this
    decide)).trans q5
   have q8:=(hb8.block k (eS (zAb le q6)) (fun e=>by
    have e':k=nb:=e;rw[e',hnb]at hk;have:=(Obj.cells.inj (Option.some.inj hk)).2.1;revert this
    decide)).trans (zAb le q6)
   have q9:=(hb9.block k (eS q8) (fun e=>by
    have e':k=f.blk:=e;rw[e',hfB.2]at hk;have:=(Obj.cells.inj (Option.some.inj hk)).2.1;revert this
    decide)).trans q8
   exact(hb10.block k (eS q9) (fun e=>by
    have e':k=gx+1:=e;omega)).trans q9
  have G10:=G9.out.other (TE.one D9.out) hb10 (by decide);have hH8:=(hb8.block hb (by omega) (fun e=>hnh e.symm)).trans (zAb le H6.out);have hH9:=(hb9.block hb (eS hH8) hfbH).trans hH8;have hH10:=(hb10.block hb (eS hH9) (fun e=>by have e':hb=gx+1:=e;omega)).trans hH9
  have hR6:=zBc R6.out Z6.out (fun q hq e=>by
   have q':some ab=some q:=hq;have e':q=hb:=e;exact hab ((Option.some.inj q').trans e'))
  have hR8:=zBc (zA4 hR6 le) hb8 (fun q hq e=>by
   have q':some ab=some q:=hq;have e':q=nb:=e;have:=Option.some.inj q';omega)
  have hR9:=zBc hR8 hb9 (fun q hq e=>by
   have q':some ab=some q:=hq;have e':q=f.blk:=e;have:=Option.some.inj q';omega)
  have hR10:=zBc hR9 hb10 (fun q hq e=>by
   have q':some ab=some q:=hq;have e':q=gx+1:=e;have:=Option.some.inj q';omega)
  have hQ9:=zBc hrow hb9 (fun q hq e=>by
   have q':some a2=some q:=hq;have e':q=f.blk:=e;have:=Option.some.inj q';omega)
  have hQ10:=zBc hQ9 hb10 (fun q hq e=>by
   have q':some a2=some q:=hq;have e':q=gx+1:=e;have:=Option.some.inj q';omega)
  have hQ:=zLn (base':=base) hQ10 (fun q hq=>by
   have q':some a2=some q:=hq;have:=Option.some.inj q';omega)
  exact bodyPost_ret (v:= .tuple #[.agg #[.int .u16 (c:Int),.int .u8 47,.int .u32 16909060,.int .u16 ((tkn 1000 1063 c:Nat):Int)],.bool true]) (by simp[results,Tryz.results405,go_sem,P10]) rfl ⟨b,_,rfl,K10,by omega,G10,⟨_,hH10,hR10⟩,hQ,KC⟩
theorem zFz {n₀:Nat} (k1 k2:Int)(s1 s2:Value)(d1 d2:List Int)(w:World)(hn:n₀≤w.heap.size)(hB1:Mt.By d1)(hB2:Mt.By d2)(h1:Rd n₀ w s1 d1)(h2:Rd n₀ w s2 d2):
  Calls Tryz.prog 382 #[.agg #[.int .u8 k1,s1],.agg #[.int .u8 k2,s2]] w fun e w'=>e= .returned (.bool (k1==k2 && decide (d1=d2)))∧Below w.heap.size w w':=by
 obtain⟨a1,c1,rfl,_,_⟩:=h1.slice;obtain⟨a2,c2,rfl,_,_⟩:=h2.slice;have hbox:Below w.heap.size w ((w.alloc (.cells #[.int .u8 k1,.slice a1 d1.length c1] 244)).alloc (.cells #[.int .u8 k2,.slice a2 d2.length c2] 244)):=((Below.refl w.heap.size w).alloc (Nat.le_refl _) _).alloc (by simp) _;have HA:=zAc ((h1.mono hn).below hbox);have HB:=zAc ((h2.mono hn).below hbox);clear h1 h2;cases h0:(k1==k2)
 ·go_enter Tryz.func382,Tryz.ntmps382
  go_wp2
  go_ret
  exact⟨rfl,hbox⟩
 ·go_enter Tryz.func382,Tryz.ntmps382
  go_wp2_with fail;refine(zH5 _ _ d1 d2 _ hB1 hB2 HA.out HB.out).mono ?_;rintro e w2 ⟨rfl,rfl⟩;go_wp2
  go_ret
  exact⟨rfl,hbox⟩
theorem opts_ne {a b:List Opt} (k:Nat)(h:a[k]?.getD (0,[])≠b[k]?.getD (0,[])):a≠b:=fun e=>h (by rw[e])
theorem opts_eq {a b:List Opt} (hl:a.length=b.length)(h:∀j,j<a.length→a[j]?.getD (0,[])=b[j]?.getD (0,[])):a=b:=by
 apply List.ext_getElem hl
 intro i h1 h2
 have:=h i h1;simpa[h1,h2]using this
theorem zHr(n₀:Nat)(sO1 sO2:Value)(os1 os2:List Opt)(w:World)(hn:n₀≤w.heap.size)(hB1:ByO os1)(hB2:ByO os2)(hI1:RdO n₀ w sO1 os1)(hI2:RdO n₀ w sO2 os2):
  Calls Tryz.prog 381 #[sO1,sO2,.func (.func 382) #[] #[]] w fun e w'=>e= .returned (.bool (decide (os1=os2)))∧Below w.heap.size w w':=by
 obtain⟨a1,c1,rfl,hc1,hm1⟩:=hI1.slice;obtain⟨a2,c2,rfl,hc2,hm2⟩:=hI2.slice;by_cases hlen:os1.length=os2.length
 ·have t0:((os1.length:Int) !=(os2.length:Int))=false:=by simp[hlen]
  have HL:=zAc hlen;clear hlen;go_enter Tryz.func381,Tryz.ntmps381;go_wp2
  go_loopw [17] (fun i wr=>∃k:Nat,k≤os1.length∧i= .int .i64 (k:Int)∧(∀j,j<k→os1[j]?.getD (0,[])=os2[j]?.getD (0,[]))∧Below w.heap.size w wr) (fun i _=>os1.length-(intOf i).toNat)
  case atStart=>exact⟨0,by omega,rfl,fun j h=>by omega,Below.refl _ _⟩
  case round=>
   obtain⟨k,hk,rfl,hz,hbw⟩:=hrel;have HZ:=zAc hz;clear hz;by_cases hlt:k<os1.length
   ·have hlt2:k<os2.length:=by have:=HL.out;omega
    obtain⟨b,off,cp,e,_,_,hbb,hcs⟩:=(hI1.below (hbw.mono hn)).cells (by omega)
    simp at e
    obtain⟨rfl,rfl⟩:=e;obtain⟨b',off',cp',e',_,_,hbb',hcs'⟩:=(hI2.below (hbw.mono hn)).cells (by omega)
    simp at e'
    obtain⟨rfl,rfl⟩:=e';obtain⟨s,c0,c1',hRs⟩:=hcs k hlt;obtain⟨s',d0,d1,hRs'⟩:=hcs' k hlt2;obtain⟨sa,sc,rfl,_,_⟩:=hRs.slice;obtain⟨sb,sd,rfl,_,_⟩:=hRs'.slice;have hy1:=(hB1 (os1[k]?.getD (0,[])) (by simp[hlt])).2;have hy2:=(hB2 (os2[k]?.getD (0,[])) (by simp[hlt2])).2;have hlt':(k:Int)<os1.length:=by omega
    have hlt2':(k:Int)<os2.length:=by omega
    have hb1s:=hbb;clear hcs hcs';generalize hg1:os1[k]?.getD (0,[])=o1 at*;generalize hg2:os2[k]?.getD (0,[])=o2 at*;have HG1:=zAc hg1;have HG2:=zAc hg2;clear hg1 hg2;obtain⟨k1,dt1⟩:=o1;obtain⟨k2,dt2⟩:=o2;dsimp only at c0 c1' hRs d0 d1 hRs' hy1 hy2
    have hbs:=hbw.size;have la:Later wr (wr.alloc (.cells #[.int .u8 k1,.slice sa dt1.length sc] 244)):=(Below.refl wr.heap.size wr).alloc (Nat.le_refl _) _;have e0:(wr.alloc (.cells #[.int .u8 k1,.slice sa dt1.length sc] 244)).cell? ⟨b',off'+k*2,none⟩=some (.int .u8 k2):=la.cell d0;have e1:(wr.alloc (.cells #[.int .u8 k1,.slice sa dt1.length sc] 244)).cell? ⟨b',off'+k*2+1,none⟩=some (.slice sb dt2.length sd):=la.cell d1;have l2:Later wr ((wr.alloc (.cells #[.int .u8 k1,.slice sa dt1.length sc] 244)).alloc (.cells #[.int .u8 k2,.slice sb dt2.length sd] 244)):=((Below.refl wr.heap.size wr).alloc (Nat.le_refl _) _).alloc (by simp) _;go_wp2_with fail;generalize (wr.alloc (.cells #[.int .u8 k1,.slice sa dt1.length sc] 244)).alloc (.cells #[.int .u8 k2,.slice sb dt2.length sd] 244)=V2 at*;refine(zFz (n₀:=n₀) k1 k2 _ _ dt1 dt2 V2 (by have:=l2.size;omega) hy1 hy2 (hRs.below (l2.mono (by omega))) (hRs'.below (l2.mono (by omega)))).mono ?_;rintro e w5 ⟨rfl,hb5⟩;have hw5:Below w.heap.size w w5:=hbw.trans ((Later.trans l2 hb5).mono hbs);by_cases hq:k1=k2∧dt1=dt2
    ·have t5:(k1==k2 && decide (dt1=dt2))=true:=by simp[hq]
     have HQ:=zAc hq;clear hq;rw[t5];go_wp2_with fail;go_roundw
     case rel=>exact⟨k+1,by omega,by go_num,fun j hj=>by by_cases h:j=k;(subst h;rw[HG1.out,HG2.out,HQ.out.1,HQ.out.2]);exact HZ.out j (by omega),hw5⟩
     case measure=>simp[intOf];omega
    ·have t5:(k1==k2 && decide (dt1=dt2))=false:=by
      cases hh:(k1==k2 && decide (dt1=dt2)) with
      |false=>rfl
      |true=>exact absurd (by simpa using hh) hq
     have HN:Hid (os1≠os2):=by
      show _≠_
      refine opts_ne k (fun e=>hq ?_);rw[HG1.out,HG2.out]at e;simpa using e
     clear hq;rw[t5];go_wp2_with fail;go_ret
     exact⟨by rw[decide_eq_false HN.out];rfl,hw5⟩
   ·obtain rfl:k=os1.length:=by omega
    have HE:Hid (os1=os2):=opts_eq HL.out HZ.out;go_wp2_with fail;go_ret
    exact⟨by rw[decide_eq_true HE.out];rfl,hbw⟩
 ·have t0:((os1.length:Int) !=(os2.length:Int))=true:=by simp;omega
  have HN:Hid (os1≠os2):=fun e=>hlen (by rw[e]);clear hlen;go_enter Tryz.func381,Tryz.ntmps381;go_wp2
  go_ret
  exact⟨by rw[decide_eq_false HN.out];rfl,Below.refl _ _⟩
def smT (sp1 sp2:Int) (dp1 dp2:Int) (sq1 sq2:Int) (ak1 ak2:Int) (fl1 fl2:Int) (wn1 wn2:Int) (ur1 ur2:Int) (os1 os2:List Opt) (zm1 zm2:List Int):Bool:=sp1==sp2 && (dp1==dp2 && (sq1==sq2 && (ak1==ak2 && (fl1==fl2 && (wn1==wn2 && (ur1==ur2 && (decide (os1=os2) && decide (zm1=zm2))))))))
theorem zFv(sp1 sp2:Int)(dp1 dp2:Int)(sq1 sq2:Int)(ak1 ak2:Int)(fl1 fl2:Int)(wn1 wn2:Int)(ur1 ur2:Int)(sO1 sO2 sm1 sm2:Value)(os1 os2:List Opt)(zm1 zm2:List Int)(w:World)(hB1:ByO os1)(hB2:ByO os2)(hD1:Mt.By zm1)(hD2:Mt.By zm2)(hI1:RdO w.heap.size w sO1 os1)(hI2:RdO w.heap.size w sO2 os2)(hM1:Rd w.heap.size w sm1 zm1)(hM2:Rd w.heap.size w sm2 zm2):
  Calls Tryz.prog 369 #[.agg #[.int .u16 sp1,.int .u16 dp1,.int .u32 sq1,.int .u32 ak1,.int .u8 fl1,.int .u16 wn1,.int .u16 ur1,sO1,sm1],.agg #[.int .u16 sp2,.int .u16 dp2,.int .u32 sq2,.int .u32 ak2,.int .u8 fl2,.int .u16 wn2,.int .u16 ur2,sO2,sm2]] w fun e w'=>e= .returned (.bool (smT sp1 sp2 dp1 dp2 sq1 sq2 ak1 ak2 fl1 fl2 wn1 wn2 ur1 ur2 os1 os2 zm1 zm2))∧Below w.heap.size w w':=by
 obtain⟨aO1,cO1,rfl,_,_⟩:=hI1.slice;obtain⟨aO2,cO2,rfl,_,_⟩:=hI2.slice;obtain⟨am1,cm1,rfl,_,_⟩:=hM1.slice;obtain⟨am2,cm2,rfl,_,_⟩:=hM2.slice;have hbox:Below w.heap.size w ((w.alloc (.cells #[.int .u16 sp1,.int .u16 dp1,.int .u32 sq1,.int .u32 ak1,.int .u8 fl1,.int .u16 wn1,.int .u16 ur1,.slice aO1 os1.length cO1,.slice am1 zm1.length cm1] 32)).alloc (.cells #[.int .u16 sp2,.int .u16 dp2,.int .u32 sq2,.int .u32 ak2,.int .u8 fl2,.int .u16 wn2,.int .u16 ur2,.slice aO2 os2.length cO2,.slice am2 zm2.length cm2] 32)):=((Below.refl w.heap.size w).alloc (Nat.le_refl _) _).alloc (by simp) _;have s0:((w.alloc (.cells #[.int .u16 sp1,.int .u16 dp1,.int .u32 sq1,.int .u32 ak1,.int .u8 fl1,.int .u16 wn1,.int .u16 ur1,.slice aO1 os1.length cO1,.slice am1 zm1.length cm1] 32)).alloc (.cells #[.int .u16 sp2,.int .u16 dp2,.int .u32 sq2,.int .u32 ak2,.int .u8 fl2,.int .u16 wn2,.int .u16 ur2,.slice aO2 os2.length cO2,.slice am2 zm2.length cm2] 32)).heap[w.heap.size]? =some (.cells #[.int .u16 sp1,.int .u16 dp1,.int .u32 sq1,.int .u32 ak1,.int .u8 fl1,.int .u16 wn1,.int .u16 ur1,.slice aO1 os1.length cO1,.slice am1 zm1.length cm1] 32):=(Below.heap_alloc _ _ _ (by simp)).trans (heap_alloc_new w _)
 have s1:((w.alloc (.cells #[.int .u16 sp1,.int .u16 dp1,.int .u32 sq1,.int .u32 ak1,.int .u8 fl1,.int .u16 wn1,.int .u16 ur1,.slice aO1 os1.length cO1,.slice am1 zm1.length cm1] 32)).alloc (.cells #[.int .u16 sp2,.int .u16 dp2,.int .u32 sq2,.int .u32 ak2,.int .u8 fl2,.int .u16 wn2,.int .u16 ur2,.slice aO2 os2.length cO2,.slice am2 zm2.length cm2] 32)).heap[w.heap.size+1]? =some (.cells #[.int .u16 sp2,.int .u16 dp2,.int .u32 sq2,.int .u32 ak2,.int .u8 fl2,.int .u16 wn2,.int .u16 ur2,.slice aO2 os2.length cO2,.slice am2 zm2.length cm2] 32):=by have:=heap_alloc_new (w.alloc (.cells #[.int .u16 sp1,.int .u16 dp1,.int .u32 sq1,.int .u32 ak1,.int .u8 fl1,.int .u16 wn1,.int .u16 ur1,.slice aO1 os1.length cO1,.slice am1 zm1.length cm1] 32)) (.cells #[.int .u16 sp2,.int .u16 dp2,.int .u32 sq2,.int .u32 ak2,.int .u8 fl2,.int .u16 wn2,.int .u16 ur2,.slice aO2 os2.length cO2,.slice am2 zm2.length cm2] 32);simpa only[World.size_alloc]using this
 have S0:=zAc s0;have S1:=zAc s1;have HS:Hid (smT sp1 sp2 dp1 dp2 sq1 sq2 ak1 ak2 fl1 fl2 wn1 wn2 ur1 ur2 os1 os2 zm1 zm2=(sp1==sp2 && (dp1==dp2 && (sq1==sq2 && (ak1==ak2 && (fl1==fl2 && (wn1==wn2 && (ur1==ur2 && (decide (os1=os2) && decide (zm1=zm2)))))))))):=rfl;generalize smT sp1 sp2 dp1 dp2 sq1 sq2 ak1 ak2 fl1 fl2 wn1 wn2 ur1 ur2 os1 os2 zm1 zm2=r at*;clear s0 s1;cases h0:(sp1==sp2)
 ·rw[h0]at HS
  go_enter Tryz.func369,Tryz.ntmps369;go_wp2
  go_ret
  exact⟨by rw[HS.out];rfl,hbox⟩
 ·rw [h0]at HS
  cases h1:(dp1==dp2)
  ·rw[h1]at HS
   go_enter Tryz.func369,Tryz.ntmps369;go_wp2
   go_ret
   exact⟨by rw[HS.out];rfl,hbox⟩
  ·rw [h1]at HS
   cases h2:(sq1==sq2)
   ·rw[h2]at HS
    go_enter Tryz.func369,Tryz.ntmps369;go_wp2
    go_ret
    exact⟨by rw[HS.out];rfl,hbox⟩
   ·rw [h2]at HS
    cases h3:(ak1==ak2)
    ·rw[h3]at HS
     go_enter Tryz.func369,Tryz.ntmps369;go_wp2
     go_ret
     exact⟨by rw[HS.out];rfl,hbox⟩
    ·rw [h3]at HS
     cases h4:(fl1==fl2)
     ·rw[h4]at HS
      go_enter Tryz.func369,Tryz.ntmps369;go_wp2
      go_ret
      exact⟨by rw[HS.out];rfl,hbox⟩
     ·rw [h4]at HS
      cases h5:(wn1==wn2)
      ·rw[h5]at HS
       go_enter Tryz.func369,Tryz.ntmps369;go_wp2
       go_ret
       exact⟨by rw[HS.out];rfl,hbox⟩
      ·rw[h5]at HS
       cases h6:(ur1==ur2)
       ·rw[h6]at HS
        go_enter Tryz.func369,Tryz.ntmps369;go_wp2
        go_ret
        exact⟨by rw[HS.out];rfl,hbox⟩
       ·rw[h6]at HS
        simp only[Bool.true_and]at HS;go_enter Tryz.func369,Tryz.ntmps369;go_wp2_with fail;generalize (w.alloc (.cells #[.int .u16 sp1,.int .u16 dp1,.int .u32 sq1,.int .u32 ak1,.int .u8 fl1,.int .u16 wn1,.int .u16 ur1,.slice aO1 os1.length cO1,.slice am1 zm1.length cm1] 32)).alloc (.cells #[.int .u16 sp2,.int .u16 dp2,.int .u32 sq2,.int .u32 ak2,.int .u8 fl2,.int .u16 wn2,.int .u16 ur2,.slice aO2 os2.length cO2,.slice am2 zm2.length cm2] 32)=W0 at*;refine(zHr w.heap.size _ _ os1 os2 W0 hbox.size hB1 hB2 (hI1.below hbox) (hI2.below hbox)).mono ?_;rintro e w1 ⟨rfl,hb1⟩;have hw1:=hbox.trans (hb1.mono hbox.size);have K0:=zAa (zAb hb1 S0.out);have K1:=zAa (zAb hb1 S1.out);cases hd:decide (os1=os2)
        ·rw[hd]at HS
         go_wp2_with fail;go_ret
         exact⟨by rw[HS.out];rfl,hw1⟩
        ·rw[hd]at HS
         simp only[Bool.true_and]at HS;go_wp2_with fail;refine(zH5 _ _ zm1 zm2 w1 hD1 hD2 (hM1.below hw1) (hM2.below hw1)).mono ?_;rintro e w2 ⟨rfl,rfl⟩;go_wp2_with fail;go_ret
         exact⟨by rw[HS.out];rfl,hw1⟩
theorem RdO.laterP {A B:World} {v:Value} {os:List Opt} (h:RdO A.heap.size A v os)(l:Later A B):RdO B.heap.size B v os:=RdO.mono l.size (RdO.below l h)
theorem zRo(w:World)(A B C D:Obj):Later w ((((w.alloc A).alloc B).alloc C).alloc D)∧((((w.alloc A).alloc B).alloc C).alloc D).heap[w.heap.size]? =some A∧((((w.alloc A).alloc B).alloc C).alloc D).heap[w.heap.size+1]? =some B∧((((w.alloc A).alloc B).alloc C).alloc D).heap[w.heap.size+1+1]? =some C∧((((w.alloc A).alloc B).alloc C).alloc D).heap[w.heap.size+1+1+1]? =some D:=by
 obtain⟨l,a,b,c⟩:=zH8 w A B C;have la:=zAe (((w.alloc A).alloc B).alloc C) D;have d:=heap_alloc_new (((w.alloc A).alloc B).alloc C) D;have hs:(((w.alloc A).alloc B).alloc C).heap.size=w.heap.size+1+1+1:=by simp
 rw[hs]at d;exact⟨l.trans la,zAb la a,zAb la b,zAb la c,d⟩
theorem built_ok(src dst:Int)(oa da ob db:Option Addr)(lo co ld cd lp cp lq cq:Nat)(w:World):
  Calls Tryz.prog 370 #[.agg #[.int .u8 0,.int .u16 0,.bool false,.int .u8 64,.int .u8 6,.int .u32 src,.int .u32 dst,.slice oa lo co,.slice da ld cd],.agg #[.int .u8 0,.int .u16 0,.bool false,.int .u8 64,.int .u8 6,.int .u32 src,.int .u32 dst,.slice ob lp cp,.slice db lq cq],.int .i64 0] w fun e w'=>e= .returned (.agg #[.int .u8 0,.int .u16 0,.bool false,.int .u8 64,.int .u8 6,.int .u32 src,.int .u32 dst,.slice ob lp cp,.slice db lq cq])∧Later w w':=by
 obtain⟨l0,c0,c1,c2⟩:=zH8 w (.cells #[.int .u8 0,.int .u16 0,.bool false,.int .u8 64,.int .u8 6,.int .u32 src,.int .u32 dst,.slice oa lo co,.slice da ld cd] 40) (.cells #[.int .u8 0,.int .u16 0,.bool false,.int .u8 64,.int .u8 6,.int .u32 src,.int .u32 dst,.slice ob lp cp,.slice db lq cq] 40) (.cells #[.int .u8 0,.int .u16 0,.bool false,.int .u8 0,.int .u8 0,.int .u32 0,.int .u32 0,.slice none 0 0,.slice none 0 0] 40);have C1:=zAc c1;have C2:=zAc c2;clear c0 c1 c2;go_enter Tryz.func370,Tryz.ntmps370;go_upto_region 1 with fail;generalize hw1:World.alloc _ _=w1 at*;clear hw1;generalize hgx:w.heap.size=g0 at C1 C2⊢;have k1:=zAa C1.out;have k2:=zAa C2.out;have f2:=zAd C2.out;go_wp2_with fail;generalize hV:World.setCell _ ⟨_,8,none⟩ _=V8;have hV9:V8=zAj w1 (g0+1+1) 0 [.int .u8 0,.int .u16 0,.bool false,.int .u8 64,.int .u8 6,.int .u32 src,.int .u32 dst,.slice ob lp cp,.slice db lq cq]:=hV.symm;have hb8:But (fun b=>b=g0+1+1) w1 V8:=by rw[hV9];exact zAf (E:=fun b=>b=g0+1+1) (n:=g0+1+1) rfl _ _ _ _ (But.refl _ _)
 have p8:=zAg [.int .u8 0,.int .u16 0,.bool false,.int .u8 64,.int .u8 6,.int .u32 src,.int .u32 dst,.slice ob lp cp,.slice db lq cq] C2.out rfl;rw[←hV9]at p8;clear hV hV9;have P8:=zAa p8;exact bodyPost_ret (v:= .agg #[.int .u8 0,.int .u16 0,.bool false,.int .u8 64,.int .u8 6,.int .u32 src,.int .u32 dst,.slice ob lp cp,.slice db lq cq]) (by simp[results,Tryz.results370,go_sem,P8]) rfl ⟨rfl,Below.trans l0 (hb8.below l0.size (fun k hk e=>by have e':k=g0+1+1:=e;omega))⟩
theorem wseg_new(src dst sp dp sq ak fl:Int)(zm zm2:List Int)(oa da aO cO2:Option Addr)(co ld cd cO cP:Nat)(am am2:Option Addr)(cm cm2:Nat)(w:World)(hsr:0≤src∧src≤4294967295)(hds:0≤dst∧dst≤4294967295)(h1:0≤sp∧sp≤65535)(h2:0≤dp∧dp≤65535)(h3:0≤sq∧sq≤4294967295)(h4:0≤ak∧ak≤4294967295)(h5:0≤fl∧fl≤255)(hB:Mt.By zm)(hB2:Mt.By zm2)(hne:zm≠zm2)(hl:zm.length≤500)(hl2:zm2.length≤500)(hO:Rd w.heap.size w (.slice oa 0 co) [])(hRO:RdO w.heap.size w (.slice aO 0 cO) [])(hM:Rd w.heap.size w (.slice am zm.length cm) zm)(hM2:Rd w.heap.size w (.slice am2 zm2.length cm2) zm2):
  Calls Tryz.prog 360 #[.agg #[.int .u8 0,.int .u16 0,.bool false,.int .u8 64,.int .u8 6,.int .u32 src,.int .u32 dst,.slice oa 0 co,.slice da ld cd],.agg #[.int .u16 sp,.int .u16 dp,.int .u32 sq,.int .u32 ak,.int .u8 fl,.int .u16 0,.int .u16 0,.slice aO 0 cO,.slice am zm.length cm],.agg #[.int .u16 sp,.int .u16 dp,.int .u32 sq,.int .u32 ak,.int .u8 fl,.int .u16 0,.int .u16 0,.slice aO 0 cO,.slice am2 zm2.length cm2]] w fun e w'=>Later w w'∧∃a7 c7 a8 c8 z,e= .returned (.agg #[.int .u8 0,.int .u16 0,.bool false,.int .u8 64,.int .u8 6,.int .u32 src,.int .u32 dst,.slice a7 0 c7,.slice a8 z.length c8])∧TG src dst sp dp sq ak fl zm2 z∧Ow w.heap.size w' (.slice a7 0 c7) []∧Ow w.heap.size w' (.slice a8 z.length c8) z:=by
 obtain⟨l0,c0,c1,c2,c3⟩:=zRo w (.cells #[.int .u8 0,.int .u16 0,.bool false,.int .u8 64,.int .u8 6,.int .u32 src,.int .u32 dst,.slice oa 0 co,.slice da ld cd] 40) (.cells #[.int .u16 sp,.int .u16 dp,.int .u32 sq,.int .u32 ak,.int .u8 fl,.int .u16 0,.int .u16 0,.slice aO 0 cO,.slice am zm.length cm] 32) (.cells #[.int .u16 sp,.int .u16 dp,.int .u32 sq,.int .u32 ak,.int .u8 fl,.int .u16 0,.int .u16 0,.slice aO 0 cO,.slice am2 zm2.length cm2] 32) (.cells #[.int .u8 0,.int .u16 0,.bool false,.int .u8 0,.int .u8 0,.int .u32 0,.int .u32 0,.slice none 0 0,.slice none 0 0] 40);have HST:=zAc (fun W (l:Later w W)=>zFv sp sp dp dp sq sq ak ak fl fl 0 0 0 0 (.slice aO 0 cO) (.slice aO 0 cO) (.slice am zm.length cm) (.slice am2 zm2.length cm2) [] [] zm zm2 W (by intro o ho;cases ho) (by intro o ho;cases ho) hB hB2 (hRO.laterP l) (hRO.laterP l) (hM.later l) (hM2.later l));have hsm:smT sp sp dp dp sq sq ak ak fl fl 0 0 0 0 [] [] zm zm2=false:=by unfold smT;simp[hne]
 rw[hsm]at HST;have HBT:=zAc (fun W (l:Later w W)=>zEn 0 0 64 6 src dst sp dp sq ak fl 0 0 false (.slice oa 0 co) (.slice da ld cd) (.slice aO 0 cO) (.slice am2 zm2.length cm2) [] zm2 [] W Mt.By.nil (hO.later l) hB2 (hM2.later l) (by intro o ho;cases ho) (hRO.laterP l) (by intro o ho;cases ho) (by simp) (by omega) (by omega) (by omega) (by omega) hsr hds h1 h2 h3 h4 h5 (by omega) (by omega));have HTG:=zAc (zM9 src dst sp dp sq ak fl zm2 hsr hds h1 h2 h3 h4 h5 hB2)
 have hz0:(bte [] ([]:List Int).length zm2.length=0):=by
  unfold bte;rw[if_pos zHc];unfold flt;rw[if_neg (by simp),if_neg (by simp[pad,obs,zFx];omega)]
 have HZ:=zAc hz0;have C0:=zAc c0;have C1:=zAc c1;have C2:=zAc c2;have C3:=zAc c3;clear hsm hz0 c0 c1 c2 c3 hO hRO hM hM2 hne;go_enter Tryz.func360,Tryz.ntmps360;go_upto_region 1 with fail;generalize hw1:World.alloc _ _=w1 at*;clear hw1;generalize hgx:w.heap.size=g0 at C0 C1 C2 C3⊢;have k1:=zAa C1.out;have k2:=zAa C2.out;have HS1:=zAc (HST.out w1 l0);clear HST;go_wp2_with fail;refine HS1.out.mono ?_;rintro e w2 ⟨rfl,l2⟩;have l2':Later w1 w2:=l2;have D0:=zAc (zAb l2' C0.out);have D2:=zAc (zAb l2' C2.out);have D3:=zAc (zAb l2' C3.out);have L2:Later w w2:=l0.trans l2';clear k1 k2 HS1 C0 C1 C2 C3 l2 l2';have k0:=zAa D0.out;have k2:=zAa D2.out;have HB1:=zAc (HBT.out w2 L2);clear HBT;go_wp2_with fail;refine HB1.out.mono ?_;rintro e w3 ⟨hb3,⟨hx,_⟩|⟨_,a7,c7,a8,c8,rfl,hO7,hD8⟩⟩
 ·exact absurd HZ.out hx
 have hb3':Later w2 w3:=hb3;have hnl:20+(pad (obs [])).length+zm2.length=20+zm2.length:=by simp[pad,obs,zFx]
 rw[hnl]at hD8⊢;have hz6:tcp sp dp sq ak fl 0 0 (pad (obs [])) src dst zm2=tcp sp dp sq ak fl 0 0 [] src dst zm2:=by simp[pad,obs,zFx]
 rw[hz6]at hD8;clear hnl hz6;generalize tcp sp dp sq ak fl 0 0 [] src dst zm2=z at*;have hzl:=HTG.out.len;rw[←hzl]at hD8⊢;have la:=zAe w3 (.cells #[.int .u8 0,.int .u16 0,.bool false,.int .u8 64,.int .u8 6,.int .u32 src,.int .u32 dst,.slice a7 0 c7,.slice a8 z.length c8] 40);have E0:=zAc (zAb (hb3'.trans la) D0.out);have E3:=zAc (zAb (hb3'.trans la) D3.out);have EN:=zAc (heap_alloc_new w3 (.cells #[.int .u8 0,.int .u16 0,.bool false,.int .u8 64,.int .u8 6,.int .u32 src,.int .u32 dst,.slice a7 0 c7,.slice a8 z.length c8] 40));have O7:=zAc ((hO7.mono L2.size).later la);have O8:=zAc ((hD8.mono L2.size).later la);have L4:=L2.trans (hb3'.trans la);clear hO7 hD8 hzl D0 D2 D3 la hb3 hb3' k0 k2 HB1 HZ;go_upto_region 4 with fail;generalize w3.alloc _=w4 at*;generalize w3.heap.size=g3 at*;have k0:=zAa E0.out;have k4:=zAa EN.out;go_wp2_with fail;refine(built_ok src dst oa da a7 a8 0 co ld cd 0 c7 z.length c8 w4).mono ?_;rintro e w5 ⟨rfl,l5⟩;have F3:=zAc (zAb l5 E3.out);have L5:=L4.trans l5;have O7':=zAc (O7.out.later l5);have O8':=zAc (O8.out.later l5);clear k0 k4 E0 E3 EN O7 O8 l5 L4;have k2:=zAa F3.out;have f2:=zAd F3.out;go_wp2_with fail;generalize hV:World.setCell _ ⟨_,8,none⟩ _=V8;have hV9:V8=zAj w5 (g0+1+1+1) 0 [.int .u8 0,.int .u16 0,.bool false,.int .u8 64,.int .u8 6,.int .u32 src,.int .u32 dst,.slice a7 0 c7,.slice a8 z.length c8]:=hV.symm
 have hb8:But (fun b=>b=g0+1+1+1) w5 V8:=by rw[hV9];exact zAf (E:=fun b=>b=g0+1+1+1) (n:=g0+1+1+1) rfl _ _ _ _ (But.refl _ _)
 have p8:=zAg [.int .u8 0,.int .u16 0,.bool false,.int .u8 64,.int .u8 6,.int .u32 src,.int .u32 dst,.slice a7 0 c7,.slice a8 z.length c8] F3.out rfl;rw[←hV9]at p8;clear hV hV9;have P8:=zAa p8;exact bodyPost_ret (v:= .agg #[.int .u8 0,.int .u16 0,.bool false,.int .u8 64,.int .u8 6,.int .u32 src,.int .u32 dst,.slice a7 0 c7,.slice a8 z.length c8]) (by simp[results,Tryz.results360,go_sem,P8]) rfl ⟨Below.trans L5 (hb8.below L5.size (fun k hk e=>by have e':k=g0+1+1+1:=e;omega)),a7,c7,a8,c8,z,rfl,HTG.out,O7'.out.asideF F3.out (by decide) hb8,O8'.out.asideF F3.out (by decide) hb8⟩
theorem zRp(src dst sp dp sq ak fl:Int)(zm:List Int)(oa da aO:Option Addr)(co ld cd cO:Nat)(am am2:Option Addr)(cm cm2:Nat)(w:World)(hB:Mt.By zm)(hRO:RdO w.heap.size w (.slice aO 0 cO) [])(hM:Rd w.heap.size w (.slice am zm.length cm) zm)(hM2:Rd w.heap.size w (.slice am2 zm.length cm2) zm):
  Calls Tryz.prog 360 #[.agg #[.int .u8 0,.int .u16 0,.bool false,.int .u8 64,.int .u8 6,.int .u32 src,.int .u32 dst,.slice oa 0 co,.slice da ld cd],.agg #[.int .u16 sp,.int .u16 dp,.int .u32 sq,.int .u32 ak,.int .u8 fl,.int .u16 0,.int .u16 0,.slice aO 0 cO,.slice am zm.length cm],.agg #[.int .u16 sp,.int .u16 dp,.int .u32 sq,.int .u32 ak,.int .u8 fl,.int .u16 0,.int .u16 0,.slice aO 0 cO,.slice am2 zm.length cm2]] w fun e w'=>Later w w'∧e= .returned (.agg #[.int .u8 0,.int .u16 0,.bool false,.int .u8 64,.int .u8 6,.int .u32 src,.int .u32 dst,.slice oa 0 co,.slice da ld cd]):=by
 obtain⟨l0,c0,c1,c2,c3⟩:=zRo w (.cells #[.int .u8 0,.int .u16 0,.bool false,.int .u8 64,.int .u8 6,.int .u32 src,.int .u32 dst,.slice oa 0 co,.slice da ld cd] 40) (.cells #[.int .u16 sp,.int .u16 dp,.int .u32 sq,.int .u32 ak,.int .u8 fl,.int .u16 0,.int .u16 0,.slice aO 0 cO,.slice am zm.length cm] 32) (.cells #[.int .u16 sp,.int .u16 dp,.int .u32 sq,.int .u32 ak,.int .u8 fl,.int .u16 0,.int .u16 0,.slice aO 0 cO,.slice am2 zm.length cm2] 32) (.cells #[.int .u8 0,.int .u16 0,.bool false,.int .u8 0,.int .u8 0,.int .u32 0,.int .u32 0,.slice none 0 0,.slice none 0 0] 40);have HST:=zAc (fun W (l:Later w W)=>zFv sp sp dp dp sq sq ak ak fl fl 0 0 0 0 (.slice aO 0 cO) (.slice aO 0 cO) (.slice am zm.length cm) (.slice am2 zm.length cm2) [] [] zm zm W (by intro o ho;cases ho) (by intro o ho;cases ho) hB hB (hRO.laterP l) (hRO.laterP l) (hM.later l) (hM2.later l));have hsm:smT sp sp dp dp sq sq ak ak fl fl 0 0 0 0 [] [] zm zm=true:=by unfold smT;simp
 rw[hsm]at HST;have C0:=zAc c0;have C1:=zAc c1;have C2:=zAc c2;have C3:=zAc c3;clear hsm c0 c1 c2 c3 hRO hM hM2;go_enter Tryz.func360,Tryz.ntmps360;go_upto_region 1 with fail;generalize hw1:World.alloc _ _=w1 at*;clear hw1;generalize hgx:w.heap.size=g0 at C0 C1 C2 C3⊢;have k1:=zAa C1.out;have k2:=zAa C2.out;have HS1:=zAc (HST.out w1 l0);clear HST;go_wp2_with fail;refine HS1.out.mono ?_;rintro e w2 ⟨rfl,l2⟩;have l2':Later w1 w2:=l2;have D0:=zAc (zAb l2' C0.out);have F3:=zAc (zAb l2' C3.out);have L5:Later w w2:=l0.trans l2';clear k1 k2 HS1 C0 C1 C2 C3 l2 l2';have k0:=zAa D0.out;have k2:=zAa F3.out;have f2:=zAd F3.out;go_wp2_with fail;generalize hV:World.setCell _ ⟨_,8,none⟩ _=V8;have hV9:V8=zAj w2 (g0+1+1+1) 0 [.int .u8 0,.int .u16 0,.bool false,.int .u8 64,.int .u8 6,.int .u32 src,.int .u32 dst,.slice oa 0 co,.slice da ld cd]:=hV.symm;have hb8:But (fun b=>b=g0+1+1+1) w2 V8:=by rw[hV9];exact zAf (E:=fun b=>b=g0+1+1+1) (n:=g0+1+1+1) rfl _ _ _ _ (But.refl _ _)
 have p8:=zAg [.int .u8 0,.int .u16 0,.bool false,.int .u8 64,.int .u8 6,.int .u32 src,.int .u32 dst,.slice oa 0 co,.slice da ld cd] F3.out rfl;rw[←hV9]at p8;clear hV hV9;have P8:=zAa p8;exact bodyPost_ret (v:= .agg #[.int .u8 0,.int .u16 0,.bool false,.int .u8 64,.int .u8 6,.int .u32 src,.int .u32 dst,.slice oa 0 co,.slice da ld cd]) (by simp[results,Tryz.results360,go_sem,P8]) rfl ⟨Below.trans L5 (hb8.below L5.size (fun k hk e=>by have e':k=g0+1+1+1:=e;omega)),rfl⟩
theorem zHs(n0:Nat)(src dst sp dp sq ak fl:Int)(zm zm2 zt:List Int)(oa da aO:Option Addr)(co cd cO:Nat)(am am2:Option Addr)(cm cm2:Nat)(w:World)(hn0:n0≤w.heap.size)(hsr:0≤src∧src≤4294967295)(hds:0≤dst∧dst≤4294967295)(h1:0≤sp∧sp≤65535)(h2:0≤dp∧dp≤65535)(h3:0≤sq∧sq≤4294967295)(h4:0≤ak∧ak≤4294967295)(h5:0≤fl∧fl≤255)(hB:Mt.By zm)(hB2:Mt.By zm2)(hl:zm.length≤500)(hl2:zm2.length=zm.length)(hT:TG src dst sp dp sq ak fl zm zt)(hO:Ow n0 w (.slice oa 0 co) [])(hD:Ow n0 w (.slice da zt.length cd) zt)(hRO:RdO w.heap.size w (.slice aO 0 cO) [])(hM:Rd w.heap.size w (.slice am zm.length cm) zm)(hM2:Rd w.heap.size w (.slice am2 zm.length cm2) zm2):
  Calls Tryz.prog 360 #[.agg #[.int .u8 0,.int .u16 0,.bool false,.int .u8 64,.int .u8 6,.int .u32 src,.int .u32 dst,.slice oa 0 co,.slice da zt.length cd],.agg #[.int .u16 sp,.int .u16 dp,.int .u32 sq,.int .u32 ak,.int .u8 fl,.int .u16 0,.int .u16 0,.slice aO 0 cO,.slice am zm.length cm],.agg #[.int .u16 sp,.int .u16 dp,.int .u32 sq,.int .u32 ak,.int .u8 fl,.int .u16 0,.int .u16 0,.slice aO 0 cO,.slice am2 zm.length cm2]] w fun e w'=>Later w w'∧∃a7 c7 a8 c8 z,e= .returned (.agg #[.int .u8 0,.int .u16 0,.bool false,.int .u8 64,.int .u8 6,.int .u32 src,.int .u32 dst,.slice a7 0 c7,.slice a8 z.length c8])∧TG src dst sp dp sq ak fl zm2 z∧Ow n0 w' (.slice a7 0 c7) []∧Ow n0 w' (.slice a8 z.length c8) z:=by
 by_cases he:zm=zm2
 ·subst he
  refine(zRp src dst sp dp sq ak fl zm oa da aO co zt.length cd cO am am2 cm cm2 w hB hRO hM hM2).mono ?_;rintro e w' ⟨l,rfl⟩;exact⟨l,oa,co,da,cd,zt,rfl,hT,hO.later l,hD.later l⟩
 ·rw[←hl2]at hM2
  have:=wseg_new src dst sp dp sq ak fl zm zm2 oa da aO none co zt.length cd cO 0 am am2 cm cm2 w hsr hds h1 h2 h3 h4 h5 hB hB2 he hl (by omega) hO.rd hRO hM hM2;rw[hl2]at this;refine this.mono ?_;rintro e w' ⟨l,a7,c7,a8,c8,z,rfl,hT2,hO2,hD2⟩;exact⟨l,a7,c7,a8,c8,z,rfl,hT2,hO2.mono hn0,hD2.mono hn0⟩
theorem zEh(a:Array Value)(w:World)(g:Nat)(tos id ttl src dst:Int)(keep:Bool)(so sd:Value)(side:Int)(hsd:side=0∨side=1)(fb:Nat)(bk:Bool)(t0 t1 t2 t3 t4 i0 i1 i2 i3 i4:Int):
  Calls Tryz.prog 361 #[.agg #[.pointer (some ⟨g,0,none⟩),.int .u8 tos,.int .u16 id,.bool keep,.int .u8 ttl,.int .u8 6,.int .u32 src,.int .u32 dst,so,sd,.int .i64 side,.pointer (some ⟨fb,0,none⟩),.bool bk,.int .u8 t0,.int .u32 t1,.int .u32 t2,.int .u16 t3,.int .u16 t4,.int .u8 i0,.int .u32 i1,.int .u32 i2,.int .u16 i3,.int .u16 i4]] w fun e w'=>e= .returned (.bool (side==0))∧Later w w':=by
 go_enter Tryz.func361,Tryz.ntmps361;go_wp2_with fail;go_ret
 exact⟨rfl,zAe _ _⟩
theorem zAw {W:World} {b:Nat} {xs:List Value} {t:TypeId} (h:W.heap[b]? =some (.cells xs.toArray t (0,0))):W.rangeAt b 0 xs:=fun j v hv=>by
 rw[Nat.zero_add,zAa h j];simpa using hv
theorem zBs:(Tryz.prog.info? 242).map (·.size)=some 23:=by kernel_rfl
theorem Kgl.ow8 {base n0:Nat} {A B:World} {v:Value} {zs:List Int} (h:Ow n0 A v zs)(k:Kgl base A B):Ow n0 B v zs:=by
 rcases h with h|⟨g,cap,c,h1,h2,h3,h4,h5,h6,h7⟩
 ·exact .inl h
 ·exact .inr ⟨g,cap,c,h1,h2,h3,h4,h5,k.cells h6 (by decide),h7⟩
def CgQ (base g hb nn c:Nat) (s:Gf) (f:Fl) (w w':World):Prop:=∃(b:Nat) (nv:Value),Kgl base w w'∧w.heap.size≤b∧GF base w' g (zHk (zRn s 47 16909060 b (wsR (zCr (zBy 1000 1063)) (tkn 1000 1063 c))) { f with hv:=nv })∧HpD base w' hb (c:Int) ((tkn 1000 1063 c:Nat):Int)∧HvT base w' nv (nn:Int) ((tkn 1000 1063 c:Nat):Int)
theorem zLo(base g:Nat)(s:Gf)(f:Fl)(hb nn:Nat)(ws:Nat→Nat)(c:Nat)(p r:Int)(tos id ttl src dst:Int)(keep:Bool)(so sd:Value)(side:Int)(bk:Bool)(t0 t1 t2 t3 t4 i0 i1 i2 i3 i4:Int)(da:Option Addr)(dc:Nat)(zs:List Int)(w:World)(hG:GF base w g s)(hS:S1 s f nn 3 ws)(hN:HpN w hb)(hV:HvP w f 6 16909060 nn)(hbs:base≤w.heap.size)(hbb:base≤hb)(hvb:HvB base f)(hc:c<65536)(hB:Mt.By zs)(hl:zs.length≤500)(n0:Nat)(hn0:base≤n0∧n0≤w.heap.size)(hI:Ow n0 w (.slice da zs.length dc) zs)(hz:∀W,KG base w W→Dz W)(hgz:6≤w.heap.size):
  Calls Tryz.prog 401 #[.pointer (some ⟨hb,0,none⟩),.agg #[.pointer (some ⟨g,0,none⟩),.int .u8 tos,.int .u16 id,.bool keep,.int .u8 ttl,.int .u8 6,.int .u32 src,.int .u32 dst,so,sd,.int .i64 side,.pointer (some ⟨f.blk,0,none⟩),.bool bk,.int .u8 t0,.int .u32 t1,.int .u32 t2,.int .u16 t3,.int .u16 t4,.int .u8 i0,.int .u32 i1,.int .u32 i2,.int .u16 i3,.int .u16 i4],.agg #[.int .i64 7,.int .u16 (c:Int),.int .u16 p,.int .u8 r],.slice da zs.length dc] w fun e w'=>CgQ base g hb nn c s f w w'∧∃a,e= .returned (.slice a zs.length zs.length)∧Ow w.heap.size w' (.slice a zs.length zs.length) (zAq zs (lyC zs) ((tkn 1000 1063 c:Nat):Int)):=by
 obtain⟨l0,c0,c1⟩:=zBj w (.cells #[.pointer (some ⟨g,0,none⟩),.int .u8 tos,.int .u16 id,.bool keep,.int .u8 ttl,.int .u8 6,.int .u32 src,.int .u32 dst,so,sd,.int .i64 side,.pointer (some ⟨f.blk,0,none⟩),.bool bk,.int .u8 t0,.int .u32 t1,.int .u32 t2,.int .u16 t3,.int .u16 t4,.int .u8 i0,.int .u32 i1,.int .u32 i2,.int .u16 i3,.int .u16 i4] 242) (.cells #[.int .i64 7,.int .u16 (c:Int),.int .u16 p,.int .u8 r] 52);have C0:=zAc c0;have C1:=zAc c1;have H1:=zAc (zAb l0 hN);have G1:=zAc (hG.later l0);have I1:=zAc (hI.kg (KG.of_later (base:=base) l0));have HADD:=zAc (fun W (l:Later w W)=>add_nil base g s f hb nn ws c tos id ttl src dst keep so sd side bk t0 t1 t2 t3 t4 i0 i1 i2 i3 i4 W (hG.later l) hS (zAb l hN) (hV.kg (KG.of_later (base:=base) l)) (Nat.le_trans hbs l.size) hbb hvb hc (fun V k=>hz V ((KG.of_later l).trans k)) (Nat.le_trans hgz l.size));have htk:=zCx (lo:=1000) (hi:=1063) (wish:=c) (by omega);have hNN:=zAc hN;clear c0 c1 hG hN hV hI hz;go_enter Tryz.func401,Tryz.ntmps401;go_upto_region 1 with fail;change Code.wp _ _ _ _ ((w.alloc (.cells #[.pointer (some ⟨g,0,none⟩),.int .u8 tos,.int .u16 id,.bool keep,.int .u8 ttl,.int .u8 6,.int .u32 src,.int .u32 dst,so,sd,.int .i64 side,.pointer (some ⟨f.blk,0,none⟩),.bool bk,.int .u8 t0,.int .u32 t1,.int .u32 t2,.int .u16 t3,.int .u16 t4,.int .u8 i0,.int .u32 i1,.int .u32 i2,.int .u16 i3,.int .u16 i4] 242)).alloc (.cells #[.int .i64 7,.int .u16 (c:Int),.int .u16 p,.int .u8 r] 52))
 generalize (w.alloc (.cells #[.pointer (some ⟨g,0,none⟩),.int .u8 tos,.int .u16 id,.bool keep,.int .u8 ttl,.int .u8 6,.int .u32 src,.int .u32 dst,so,sd,.int .i64 side,.pointer (some ⟨f.blk,0,none⟩),.bool bk,.int .u8 t0,.int .u32 t1,.int .u32 t2,.int .u16 t3,.int .u16 t4,.int .u8 i0,.int .u32 i1,.int .u32 i2,.int .u16 i3,.int .u16 i4] 242)).alloc (.cells #[.int .i64 7,.int .u16 (c:Int),.int .u16 p,.int .u8 r] 52)=w1 at*;generalize hgx:w.heap.size=gx at C0 C1⊢;have k1:=zAa C1.out;go_upto_region 3 with fail;go_wp2_with fail;refine(find_nil hb _ w1 H1.out).mono ?_;rintro e w2 ⟨rfl,l2⟩;have l2':Later w1 w2:=l2;have hs12:w1.heap.size≤w2.heap.size:=l2'.size;have la:=zAe w2 (.cells #[.int .u16 0,.int .u8 0,.int .u32 0,.int .u16 0] 533);have D2:=zAc (heap_alloc_new w2 (.cells #[.int .u16 0,.int .u8 0,.int .u32 0,.int .u16 0] 533));have L3:Later w (w2.alloc (.cells #[.int .u16 0,.int .u8 0,.int .u32 0,.int .u16 0] 533)):=l0.trans (l2'.trans la);have E0:=zAc (zAb (l2'.trans la) C0.out);have E1:=zAc (zAb (l2'.trans la) C1.out);have I3:=zAc (I1.out.kg (KG.of_later (base:=base) (l2'.trans la)));clear k1 C0 C1 I1 l2 l2' la H1 G1;go_upto_region 4 with fail;change Code.wp _ _ _ _ (w2.alloc (.cells #[.int .u16 0,.int .u8 0,.int .u32 0,.int .u16 0] 533));generalize w2.alloc (.cells #[.int .u16 0,.int .u8 0,.int .u32 0,.int .u16 0] 533)=w3 at*;generalize hg3:w2.heap.size=g3 at*;have HA:=zAc (HADD.out w3 L3);clear HADD;have k1:=zAa E1.out
 have HRG:=zAc (zAw (xs:=[.pointer (some ⟨g,0,none⟩),.int .u8 tos,.int .u16 id,.bool keep,.int .u8 ttl,.int .u8 6,.int .u32 src,.int .u32 dst,so,sd,.int .i64 side,.pointer (some ⟨f.blk,0,none⟩),.bool bk,.int .u8 t0,.int .u32 t1,.int .u32 t2,.int .u16 t3,.int .u16 t4,.int .u8 i0,.int .u32 i1,.int .u32 i2,.int .u16 i3,.int .u16 i4]) E0.out);go_upto_region 5 with fail;go_wp2_with (refine wpList_load_mid rfl 242 (.tmp 5) rfl gx 0 rfl _ _ HRG.out Tryz.underlying242 rfl zBs ?_)
 refine HA.out.mono ?_;rintro e w4 ⟨b,nv,rfl,K4,hb4,hG4,hH4,hV4,hC4⟩;have F1:=zAc (hC4 g3 _ _ D2.out);have K4':=zAc ((Kgl.of_kg (KG.of_later L3)).trans K4);have K4s:=zAc K4;have G4:=zAc hG4;have H4:=zAc hH4;have V4:=zAc hV4;have hs3:w.heap.size≤w3.heap.size:=L3.size;have hs4:w3.heap.size≤w4.heap.size:=K4.size;clear k1 HA K4 hG4 hH4 hV4 hC4;have k3:=zAa F1.out;have f3:=zAd F1.out;go_upto_region 6 with fail;clear k3 f3;generalize hV:World.setCell _ ⟨g3,3,none⟩ _=w5;have hV9:w5=zAj w4 g3 0 [.int .u16 (c:Int),.int .u8 47,.int .u32 16909060,.int .u16 ((tkn 1000 1063 c:Nat):Int)]:=hV.symm;have hb5:But (fun q=>q=g3) w4 w5:=by rw[hV9];exact zAf (E:=fun q=>q=g3) (n:=g3) rfl _ _ _ _ (But.refl _ _)
 have p5:=zAg [.int .u16 (c:Int),.int .u8 47,.int .u32 16909060,.int .u16 ((tkn 1000 1063 c:Nat):Int)] F1.out rfl;rw[←hV9]at p5;clear hV hV9
 have hg3s:w.heap.size≤g3:=by
  have h2:=l0.size;omega
 have hg3w:g3<w3.heap.size:=(eS D2.out);have K5:=zAc (K4'.out.own hb5 hg3s);have G5:=zAc (G4.out.other (TE.one F1.out) hb5 (by decide))
 have hne:hb≠g3:=by
  have:=(eS hNN.out);omega
 have H5:=zAc (H4.out.but hb5 hg3w hne);have V5:Hid (HvT base w5 nv (nn:Int) ((tkn 1000 1063 c:Nat):Int)):=zCp V4.out hb5 F1.out (by decide);have I4:=zAc (Kgl.ow8 (I3.out) (K4s.out));have I5:=zAc (I4.out.aside F1.out (by decide) hb5);have P5:=zAc p5;have hw5:w4.heap.size≤w5.heap.size:=hb5.size;have hw3:n0≤w5.heap.size:=by omega
 have HWC:=zAc (zI7 (.slice da zs.length dc) zs hB ((tkn 1000 1063 c:Nat):Int) (by omega) w5 (by omega) (I5.out.rd));clear hb5 p5 G4 H4 V4 I3 I4 I5 K4' F1 D2;have k3:=zAa P5.out;go_wp2_with fail;refine HWC.out.mono ?_;rintro e w6 ⟨a,rfl,hO6,l6⟩;clear k3 HWC;have HF:Hid (CgQ base g hb nn c s f w w6):=⟨b,nv,K5.out.trans (Kgl.of_kg (KG.of_later l6)),by omega,G5.out.later l6,(H5.out.later l6).mono (by omega),zA4 V5.out l6⟩;have HO:=zAc (hO6.mono (show w.heap.size≤w5.heap.size by omega));clear hO6 l6 K5 G5 H5 V5;go_wp2_with fail;go_ret
 exact⟨HF.out,a,rfl,HO.out⟩
def zJa (c:Nat):Nat→Nat:=wsR (zCr (zBy 1000 1063)) (tkn 1000 1063 c)
theorem S1.call {s:Gf} {f:Fl} {nn:Nat} {st:Int} {ws:Nat→Nat} (h:S1 s f nn st ws)(b:Nat)(ws2:Nat→Nat)(nv:Value)(hb:∀p∈s.ps,p.blk≠b):S2 (zHk (zRn s 47 16909060 b ws2) { f with hv:=nv }) { f with hv:=nv } nn st ws ws2:=by
 obtain⟨pb,hps⟩:=h.ps;refine⟨pb,b,by show s.ps++[_]=_;rw[hps];rfl,⟨?_,h.rw,h.id,h.o,h.r,h.sd,h.ms,h.st,h.ex,h.cnt,h.trn,h.bg,h.lo,h.hi,h.now,⟨pb,rfl⟩,h.n9,h.es⟩,hb ⟨6,16909060,pb,ws⟩ (by rw[hps];simp)⟩;show s.fs.map (fun x=>if x.blk=f.blk then _ else x)=_
 rw[h.fs];simp
structure V2 (base g:Nat) (W:World) (f:Fl) (hb nn c:Nat) (ws:Nat→Nat) (now tr:Int):Prop where
 gf:∃s,GF base W g s∧S2 s f nn 3 ws (zJa c)∧s.now=now∧s.trn=tr
 hp:f.hp=hpt hb
 hc:HpD base W hb (c:Int) ((tkn 1000 1063 c:Nat):Int)
 hv:HvT base W f.hv (nn:Int) ((tkn 1000 1063 c:Nat):Int)
 nb:base≤hb
theorem V2.later {base g:Nat} {A B:World} {f:Fl} {hb nn c:Nat} {ws:Nat→Nat} {now tr:Int} (h:V2 base g A f hb nn c ws now tr)(l:Later A B):V2 base g B f hb nn c ws now tr:=by
 obtain⟨s,h1,h2⟩:=h.gf;exact⟨⟨s,h1.later l,h2⟩,h.hp,h.hc.later l,zA4 h.hv l,h.nb⟩
theorem V2.aside {base g:Nat} {A B:World} {f:Fl} {hb nn c:Nat} {ws:Nat→Nat} {now tr:Int} (h:V2 base g A f hb nn c ws now tr) {mb:Nat} {cur:Array Value} {t:TypeId} {fz:Nat × Nat} (hm:A.heap[mb]? =some (.cells cur t fz))(ht:t=40∨t=36)(hB:But (fun q=>q=mb) A B):V2 base g B f hb nn c ws now tr:=by
 obtain⟨s,h1,h2⟩:=h.gf;exact⟨⟨s,h1.other (TE.one hm) hB (by rcases ht with rfl|rfl<;>decide),h2⟩,h.hp,h.hc.aside hm (by rcases ht with rfl|rfl<;>decide) hB,zCp h.hv hB hm (by rcases ht with rfl|rfl<;>decide),h.nb⟩
theorem V2.made {base g hb nn c:Nat} {s:Gf} {f:Fl} {ws:Nat→Nat} {w w':World} (h:CgQ base g hb nn c s f w w')(hS:S1 s f nn 3 ws)(hp:f.hp=hpt hb)(hbb:base≤hb)(hpw:∀p∈s.ps,p.blk<w.heap.size):∃f',f'.blk=f.blk∧V2 base g w' f' hb nn c ws s.now s.trn:=by
 obtain⟨b,nv,_,hwb,hG,hH,hV⟩:=h;exact⟨{ f with hv:=nv },rfl,⟨_,hG,hS.call b (zJa c) nv (fun p hp=>by have:=hpw p hp;omega),rfl,rfl⟩,hp,hH,hV,hbb⟩
theorem CgQ.later {base g hb nn c:Nat} {s:Gf} {f:Fl} {w A B:World} (h:CgQ base g hb nn c s f w A)(l:Later A B):CgQ base g hb nn c s f w B:=by
 obtain⟨b,nv,h1,h2,h3,h4,h5⟩:=h;exact⟨b,nv,h1.trans (Kgl.of_kg (KG.of_later l)),h2,h3.later l,h4.later l,zA4 h5 l⟩
theorem CgQ.from {base g hb nn c:Nat} {s:Gf} {f:Fl} {w A B:World} (h:CgQ base g hb nn c s f A B)(l:Later w A):CgQ base g hb nn c s f w B:=by
 obtain⟨b,nv,h1,h2,h3⟩:=h;exact⟨b,nv,(Kgl.of_kg (KG.of_later l)).trans h1,Nat.le_trans l.size h2,h3⟩
theorem CgQ.aside {base g hb nn c:Nat} {s:Gf} {f:Fl} {w A B:World} (h:CgQ base g hb nn c s f w A) {k:Nat} {cur:Array Value} {t:TypeId} {fz:Nat × Nat} (hk:A.heap[k]? =some (.cells cur t fz))(ht:t=40∨t=32)(hB:But (fun q=>q=k) A B)(hw:w.heap.size≤k):CgQ base g hb nn c s f w B:=by
 obtain⟨b,nv,h1,h2,h3,h4,h5⟩:=h;exact⟨b,nv,h1.own hB hw,h2,h3.other (TE.one hk) hB (by rcases ht with rfl|rfl<;>decide),h4.aside hk (by rcases ht with rfl|rfl<;>decide) hB,zCp h5 hB hk (by rcases ht with rfl|rfl<;>decide)⟩
theorem RdO.anyP {n n':Nat} {A B:World} {v:Value} (h:RdO n A v []):RdO n' B v []:=by
 rcases h with⟨a,cap,h1,h2,h3⟩|⟨b,off,cap,h1,h2,h3⟩
 ·exact .inl ⟨a,cap,h1,h2,h3⟩
 ·exact absurd rfl h2
theorem zEi {src dst sp dp sq ak fl:Int} {zm z:List Int} (h:TG src dst sp dp sq ak fl zm z)(tos id ttl:Int)(keep:Bool)(so sd:Value)(w:World)(hI:Rd w.heap.size w sd z)(hl:zm.length≤500)(hsr:0≤src∧src≤4294967295)(hds:0≤dst∧dst≤4294967295):
  Calls Tryz.prog 26 #[.agg #[.int .u8 tos,.int .u16 id,.bool keep,.int .u8 ttl,.int .u8 6,.int .u32 src,.int .u32 dst,so,sd]] w fun e w'=>Later w w'∧∃aO cO am cm,e= .returned (.tuple #[.agg #[.int .u16 sp,.int .u16 dp,.int .u32 sq,.int .u32 ak,.int .u8 fl,.int .u16 0,.int .u16 0,.slice aO 0 cO,.slice am zm.length cm],.int .i64 0])∧Ow w.heap.size w' (.slice am zm.length cm) zm∧∀n V,RdO n V (.slice aO 0 cO) []:=by
 refine(zBx tos id ttl 6 src dst keep so sd z w h.by_ hI (by have:=h.len;omega) hsr hds).mono ?_;rintro e w' ⟨hb,⟨hx,_⟩|⟨_,os,aO,cO,ad,cd,ho,rfl,hO,hD⟩⟩
 ·exact absurd h.ok hx
 have hos:os=[]:=by
  rw[h.hp]at ho;have:zB7 ([]:List Int)=some []:=by decide
  rw[this]at ho;exact(Option.some.inj ho).symm
 subst hos;have hn:z.length-(thd z).toNat=zm.length:=by rw[h.th,h.len];simp
 have hd:z.drop (thd z).toNat=zm:=by rw[h.th];exact h.dat
 rw[hd,hn]at hD;rw[hn,h.a,h.b,h.sq,h.ak,h.fl,h.wn,h.ur];exact⟨hb,aO,cO,ad,cd,rfl,hD,fun n V=>hO.rd.anyP⟩
theorem chg_req {base n1:Nat} {src0 dst0 sp dp sq ak fl:Int} {zm z:List Int} (hT0:TG src0 dst0 sp dp sq ak fl zm z)(q:Tu)(hq:TuB q)(hl:zm.length≤500)(hBm:Mt.By zm)(hsq:0≤sq∧sq≤4294967295)(hak:0≤ak∧ak≤4294967295)(hfl:0≤fl∧fl≤255)(hok:lye zm=0)(h7:pmT zm=7)(g hb nn c:Nat)(hcc:zAl zm (lyC zm)=(c:Int))(s:Gf)(f:Fl)(ws:Nat→Nat)(hlp:(zAq zm (lyC zm) ((tkn 1000 1063 c:Nat):Int)).length=zm.length)(hBp:Mt.By (zAq zm (lyC zm) ((tkn 1000 1063 c:Nat):Int)))(W:World)(src dst:Int)(so sd:Value)(bk:Bool)(t0 t1 t2 t3 t4 i0 i1 i2 i3 i4:Int)(ao ad:Option Addr)(co cd:Nat)(hG:GF base W g s)(hS:S1 s f nn 3 ws)(hN:HpN W hb)(hV:HvP W f 6 16909060 nn)(hn:base≤n1∧n1≤W.heap.size)(hbb:base≤hb)(hvb:HvB base f)(hc:c<65536)(hO:Ow n1 W (.slice ao 0 co) [])(hD:Ow n1 W (.slice ad z.length cd) (rwD 6 q.dst q.src q.dp q.sp z))(hz:∀V,KG base W V→Dz V)(hgz:6≤W.heap.size):
  Calls Tryz.prog 399 #[.pointer (some ⟨hb,0,none⟩),.agg #[.pointer (some ⟨g,0,none⟩),.int .u8 0,.int .u16 0,.bool false,.int .u8 64,.int .u8 6,.int .u32 src,.int .u32 dst,so,sd,.int .i64 0,.pointer (some ⟨f.blk,0,none⟩),.bool bk,.int .u8 t0,.int .u32 t1,.int .u32 t2,.int .u16 t3,.int .u16 t4,.int .u8 i0,.int .u32 i1,.int .u32 i2,.int .u16 i3,.int .u16 i4],.agg #[.int .u8 0,.int .u16 0,.bool false,.int .u8 64,.int .u8 6,.int .u32 q.dst,.int .u32 q.src,.slice ao 0 co,.slice ad z.length cd]] W fun e w'=>∃a7 c7 a8 c8 z2,e= .returned (.agg #[.int .u8 0,.int .u16 0,.bool false,.int .u8 64,.int .u8 6,.int .u32 q.dst,.int .u32 q.src,.slice a7 0 c7,.slice a8 z2.length c8])∧Kgl base W w'∧CgQ base g hb nn c s f W w'∧TG q.dst q.src q.dp q.sp sq ak fl (zAq zm (lyC zm) ((tkn 1000 1063 c:Nat):Int)) z2∧Ow n1 w' (.slice a7 0 c7) []∧Ow n1 w' (.slice a8 z2.length c8) z2:=by
 have hT:=zCc (s:=q.dst) (d:=q.src) (a:=q.dp) (b:=q.sp) hT0 hq.2.1 hq.1 hq.2.2.2 hq.2.2.1;generalize hzt:rwD 6 q.dst q.src q.dp q.sp z=zt at*;have hzl:zt.length=z.length:=by rw[←hzt];exact zBl _ _ _ _ _
 rw[←hzl]at hD⊢;clear hzt hzl hT0;obtain⟨l0,c0,c1,c2⟩:=zH8 W (.cells #[.pointer (some ⟨g,0,none⟩),.int .u8 0,.int .u16 0,.bool false,.int .u8 64,.int .u8 6,.int .u32 src,.int .u32 dst,so,sd,.int .i64 0,.pointer (some ⟨f.blk,0,none⟩),.bool bk,.int .u8 t0,.int .u32 t1,.int .u32 t2,.int .u16 t3,.int .u16 t4,.int .u8 i0,.int .u32 i1,.int .u32 i2,.int .u16 i3,.int .u16 i4] 242) (.cells #[.int .u8 0,.int .u16 0,.bool false,.int .u8 64,.int .u8 6,.int .u32 q.dst,.int .u32 q.src,.slice ao 0 co,.slice ad zt.length cd] 40) (.cells #[.int .u8 0,.int .u16 0,.bool false,.int .u8 0,.int .u8 0,.int .u32 0,.int .u32 0,.slice none 0 0,.slice none 0 0] 40);have C0:=zAc c0;have C1:=zAc c1;have C2:=zAc c2;have HP:=zAc (fun V (l:Later W V)=>zEi hT 0 0 64 false (.slice ao 0 co) (.slice ad zt.length cd) V ((hD.kg (KG.of_later (base:=base) l)).rd) hl hq.2.1 hq.1);have HF:=zAc (fun V (l:Later W V) (p r:Int) (da:Option Addr) (dc:Nat) (n0:Nat) (h0:base≤n0∧n0≤V.heap.size) (hI:Ow n0 V (.slice da zm.length dc) zm)=>zLo base g s f hb nn ws c p r 0 0 64 src dst false so sd 0 bk t0 t1 t2 t3 t4 i0 i1 i2 i3 i4 da dc zm V (hG.later l) hS (zAb l hN) (hV.kg (KG.of_later (base:=base) l)) (Nat.le_trans hn.1 (Nat.le_trans hn.2 l.size)) hbb hvb hc hBm hl n0 h0 hI (fun U k=>hz U ((KG.of_later l).trans k)) (Nat.le_trans hgz l.size));have HOK:=zAc hok;have H7:=zAc h7;have HCC:=zAc hcc;have OO:=zAc hO;have ZZ:=zAc hD;clear c0 c1 c2 hD hG hN hV hz hok h7 hcc hO
 go_enter Tryz.func399,Tryz.ntmps399;go_upto_region 1 with fail;generalize hw1:World.alloc _ _=w1 at*;clear hw1;generalize hgx:W.heap.size=g0 at C0 C1 C2⊢;have k1:=zAa C1.out;go_wp2_with fail;refine(HP.out w1 l0).mono ?_;rintro e w2 ⟨l2,aO,cO,am,cm,rfl,hD2,hRO⟩;have HRO:=zAc hRO;clear hRO;have l2':Later w1 w2:=l2;have la:=zAe w2 (.cells #[.int .u16 q.dp,.int .u16 q.sp,.int .u32 sq,.int .u32 ak,.int .u8 fl,.int .u16 0,.int .u16 0,.slice aO 0 cO,.slice am zm.length cm] 32);have E3:=zAc (heap_alloc_new w2 (.cells #[.int .u16 q.dp,.int .u16 q.sp,.int .u32 sq,.int .u32 ak,.int .u8 fl,.int .u16 0,.int .u16 0,.slice aO 0 cO,.slice am zm.length cm] 32));have L3:Later W (w2.alloc (.cells #[.int .u16 q.dp,.int .u16 q.sp,.int .u32 sq,.int .u32 ak,.int .u8 fl,.int .u16 0,.int .u16 0,.slice aO 0 cO,.slice am zm.length cm] 32)):=l0.trans (l2'.trans la);have E0:=zAc (zAb (l2'.trans la) C0.out);have E1:=zAc (zAb (l2'.trans la) C1.out);have E2:=zAc (zAb (l2'.trans la) C2.out);have D3:=zAc (hD2.later la);have hs1:W.heap.size≤w1.heap.size:=l0.size;clear k1 HP C0 C1 C2 l2 la hD2;go_upto_region 2 with fail;change Code.wp _ _ _ _ (w2.alloc (.cells #[.int .u16 q.dp,.int .u16 q.sp,.int .u32 sq,.int .u32 ak,.int .u8 fl,.int .u16 0,.int .u16 0,.slice aO 0 cO,.slice am zm.length cm] 32));generalize w2.alloc (.cells #[.int .u16 q.dp,.int .u16 q.sp,.int .u32 sq,.int .u32 ak,.int .u8 fl,.int .u16 0,.int .u16 0,.slice aO 0 cO,.slice am zm.length cm] 32)=w3 at*
 generalize hg3:w2.heap.size=g3 at*
 have hg3w:w1.heap.size≤g3:=by
  have h2:=l2'.size;omega
 have hs3:w1.heap.size≤w3.heap.size:=by
  have:=(eS E3.out);have h2:=l2'.size;omega
 have kn:=zAa E3.out;have HQ:=zAc (zBu (.slice am zm.length cm) zm hBm w3 (Nat.le_refl _) (D3.out.rd));go_wp2_with fail;refine HQ.out.mono ?_;rintro e w4 ⟨rfl,l4⟩;unfold msg;rw[HOK.out,H7.out,HCC.out];generalize zAl zm (lyP zm)=m3 at*;generalize pmR zm=m4 at*;have lm:=zAe w4 (.cells #[.int .i64 7,.int .u16 (c:Int),.int .u16 m3,.int .u8 m4] 52);have F4:=zAc (heap_alloc_new w4 (.cells #[.int .i64 7,.int .u16 (c:Int),.int .u16 m3,.int .u8 m4] 52));have L5:=L3.trans (l4.trans lm);have F0:=zAc (zAb (l4.trans lm) E0.out);have F1:=zAc (zAb (l4.trans lm) E1.out);have F2:=zAc (zAb (l4.trans lm) E2.out);have F3:=zAc (zAb (l4.trans lm) E3.out);have D5:=zAc (D3.out.later (l4.trans lm));clear kn HQ E0 E1 E2 E3 D3 l4 lm HOK H7 HCC;go_upto_region 3 with fail;change Code.wp _ _ _ _ (w4.alloc (.cells #[.int .i64 7,.int .u16 (c:Int),.int .u16 m3,.int .u8 m4] 52));generalize w4.alloc (.cells #[.int .i64 7,.int .u16 (c:Int),.int .u16 m3,.int .u8 m4] 52)=w5 at*;generalize hg4:w4.heap.size=g4 at*;have k3:=zAa F3.out;go_upto_region 5 with fail;go_upto_region 6 with fail;have ln:=zAe w5 (.cells #[.int .u16 q.dp,.int .u16 q.sp,.int .u32 sq,.int .u32 ak,.int .u8 fl,.int .u16 0,.int .u16 0,.slice aO 0 cO,.slice am zm.length cm] 32);have N5:=zAc (heap_alloc_new w5 (.cells #[.int .u16 q.dp,.int .u16 q.sp,.int .u32 sq,.int .u32 ak,.int .u8 fl,.int .u16 0,.int .u16 0,.slice aO 0 cO,.slice am zm.length cm] 32))
 have L6:=L5.trans ln;have J0:=zAc (zAb ln F0.out);have J1:=zAc (zAb ln F1.out);have J2:=zAc (zAb ln F2.out);have J3:=zAc (zAb ln F3.out);have J4:=zAc (zAb ln F4.out);have D6:=zAc (D5.out.later ln);have hgA:g0+1+1<w5.heap.size:=(eS F2.out);have hgB:g3<w5.heap.size:=(eS F3.out);clear k3 F0 F1 F2 F3 F4 D5 ln;change Code.wp _ _ _ _ (w5.alloc (.cells #[.int .u16 q.dp,.int .u16 q.sp,.int .u32 sq,.int .u32 ak,.int .u8 fl,.int .u16 0,.int .u16 0,.slice aO 0 cO,.slice am zm.length cm] 32));generalize w5.alloc (.cells #[.int .u16 q.dp,.int .u16 q.sp,.int .u32 sq,.int .u32 ak,.int .u8 fl,.int .u16 0,.int .u16 0,.slice aO 0 cO,.slice am zm.length cm] 32)=w6 at*;generalize hg5:w5.heap.size=g5 at*
 have hg5W:W.heap.size≤g5:=by
  have:=L5.size;omega
 have HRG:=zAc (zAw (xs:=[.pointer (some ⟨g,0,none⟩),.int .u8 0,.int .u16 0,.bool false,.int .u8 64,.int .u8 6,.int .u32 src,.int .u32 dst,so,sd,.int .i64 0,.pointer (some ⟨f.blk,0,none⟩),.bool bk,.int .u8 t0,.int .u32 t1,.int .u32 t2,.int .u16 t3,.int .u16 t4,.int .u8 i0,.int .u32 i1,.int .u32 i2,.int .u16 i3,.int .u16 i4]) J0.out);go_wp2_with (refine wpList_load_mid rfl 242 (.tmp 4) rfl g0 0 rfl _ _ HRG.out Tryz.underlying242 rfl zBs ?_)
 refine(zEh #[] w6 g 0 0 64 src dst false so sd 0 (.inl rfl) f.blk bk t0 t1 t2 t3 t4 i0 i1 i2 i3 i4).mono ?_;rintro e w7 ⟨rfl,l7⟩;have l7':Later w6 w7:=l7;have L7:=L6.trans l7';have P0:=zAc (zAb l7' J0.out);have P1:=zAc (zAb l7' J1.out);have P2:=zAc (zAb l7' J2.out);have P3:=zAc (zAb l7' J3.out);have P4:=zAc (zAb l7' J4.out);have P5:=zAc (zAb l7' N5.out);have D7:=zAc (D6.out.later l7');clear J0 J1 J2 J3 J4 N5 D6 l7 l7' HRG;have HRG:=zAc (zAw (xs:=[.pointer (some ⟨g,0,none⟩),.int .u8 0,.int .u16 0,.bool false,.int .u8 64,.int .u8 6,.int .u32 src,.int .u32 dst,so,sd,.int .i64 0,.pointer (some ⟨f.blk,0,none⟩),.bool bk,.int .u8 t0,.int .u32 t1,.int .u32 t2,.int .u16 t3,.int .u16 t4,.int .u8 i0,.int .u32 i1,.int .u32 i2,.int .u16 i3,.int .u16 i4]) P0.out);have k3:=zAa P3.out;have k4:=zAa P4.out
 have hs7:w1.heap.size≤w7.heap.size:=by
  have h1:=(eS P3.out);omega
 have HFC:=zAc (HF.out w7 L7 m3 m4 am cm w1.heap.size ⟨by omega,hs7⟩ D7.out);clear HF;go_upto_region 7 with fail;go_wp2_with (refine wpList_load_mid rfl 242 (.tmp 4) rfl g0 0 rfl _ _ HRG.out Tryz.underlying242 rfl zBs ?_)
 refine HFC.out.mono ?_;rintro e w8 ⟨hCG,a9,rfl,hO8⟩
 obtain⟨K8,hs8⟩:Kgl base w7 w8∧w7.heap.size≤w8.heap.size:=by
  obtain⟨_,_,h1,_⟩:=hCG;exact⟨h1,h1.size⟩
 have CG8:=zAc (hCG.from L7);have Q1:=zAc (K8.cells P1.out (by decide));have Q2:=zAc (K8.cells P2.out (by decide));have Q3:=zAc (K8.cells P3.out (by decide));have Q5:=zAc (K8.cells P5.out (by decide));have D8:=zAc (Kgl.ow8 D7.out K8);have O8:=zAc (Kgl.ow8 (OO.out.kg (KG.of_later (base:=base) L7)) K8);have Z8:=zAc (Kgl.ow8 (ZZ.out.kg (KG.of_later (base:=base) L7)) K8);have OM:=zAc hO8;clear k3 k4 HFC HRG P0 P1 P2 P3 P4 P5 D7 OO hCG hO8 K8;have k5:=zAa Q5.out;have f5:=zAd Q5.out;go_upto_region 9 with fail;clear k5 f5;have hb9:But (fun q=>q=g5) w8 (w8.setCell ⟨g5,8,none⟩ (.slice a9 zm.length zm.length)):=(But.refl (fun q=>q=g5) _).setCell (p:=⟨g5,8,none⟩) (show _=_ from rfl) _;have R5:=zAc (zAh Q5.out 8 (.slice a9 zm.length zm.length));have CG9:=zAc (CG8.out.aside Q5.out (.inr rfl) hb9 hg5W);have hg5n:∀ {k:Nat} {o:Obj},w8.heap[k]? =some o→k≠g5→(w8.setCell ⟨g5,8,none⟩ (.slice a9 zm.length zm.length)).heap[k]? =some o:=fun hk hne=>(hb9.block _ (eS hk) hne).trans hk;have R1:=zAc (hg5n Q1.out (by omega));have R2:=zAc (hg5n Q2.out (by omega));have R3:=zAc (hg5n Q3.out (by omega));have D9:=zAc (D8.out.aside Q5.out (by decide) hb9);have O9:=zAc (O8.out.aside Q5.out (by decide) hb9);have Z9:=zAc (Z8.out.aside Q5.out (by decide) hb9);have M9:=zAc (OM.out.aside Q5.out (by decide) hb9);clear hg5n hb9 Q1 Q2 Q3 Q5 D8 O8 OM CG8;generalize w8.setCell ⟨g5,8,none⟩ _=w9 at*;have k1:=zAa R1.out;have k3:=zAa R3.out;have k5:=zAa R5.out
 have hsz9:W.heap.size≤w9.heap.size:=by
  have h1:=(eS R5.out);omega
 have HWS:=zAc (zHs n1 q.dst q.src q.dp q.sp sq ak fl zm (zAq zm (lyC zm) ((tkn 1000 1063 c:Nat):Int)) zt ao ad aO co cd cO am a9 cm zm.length w9 (by omega) hq.2.1 hq.1 hq.2.2.2 hq.2.2.1 hsq hak hfl hBm hBp hl hlp hT O9.out Z9.out (HRO.out _ _) (D9.out.rd) M9.out.rd);generalize hz2:zAq zm (lyC zm) ((tkn 1000 1063 c:Nat):Int)=zm2 at*;have HZ2:=zAc hz2;clear hz2;go_wp2_with fail;refine HWS.out.mono ?_;rintro e w10 ⟨l10,a7,c7,a8,c8,z2,rfl,hT2,hO2,hD2⟩;have T2:=zAc (zAb l10 R2.out);have CG10:=zAc (CG9.out.later l10);have HT2:=zAc hT2;have HO2:=zAc hO2;have HD2:=zAc hD2;clear k1 k3 k5 HWS R1 R2 R3 R5 D9 O9 M9 CG9 l10 hT2 hO2 hD2;have k2:=zAa T2.out;have f2:=zAd T2.out;go_wp2_with fail;generalize hV:World.setCell _ ⟨_,8,none⟩ _=V8;have hV9:V8=zAj w10 (g0+1+1) 0 [.int .u8 0,.int .u16 0,.bool false,.int .u8 64,.int .u8 6,.int .u32 q.dst,.int .u32 q.src,.slice a7 0 c7,.slice a8 z2.length c8]:=hV.symm;have hb8:But (fun b=>b=g0+1+1) w10 V8:=by rw[hV9];exact zAf (E:=fun b=>b=g0+1+1) (n:=g0+1+1) rfl _ _ _ _ (But.refl _ _)
 have p8:=zAg [.int .u8 0,.int .u16 0,.bool false,.int .u8 64,.int .u8 6,.int .u32 q.dst,.int .u32 q.src,.slice a7 0 c7,.slice a8 z2.length c8] T2.out rfl;rw[←hV9]at p8;clear hV hV9 k2 f2;have P8:=zAa p8;have CG11:=CG10.out.aside T2.out (.inl rfl) hb8 (by omega);refine bodyPost_ret (v:= .agg #[.int .u8 0,.int .u16 0,.bool false,.int .u8 64,.int .u8 6,.int .u32 q.dst,.int .u32 q.src,.slice a7 0 c7,.slice a8 z2.length c8]) (by simp[results,Tryz.results399,go_sem,P8]) rfl ⟨a7,c7,a8,c8,z2,rfl,?_,CG11,by rw[HZ2.out];exact HT2.out,HO2.out.asideF T2.out (by decide) hb8,HD2.out.asideF T2.out (by decide) hb8⟩;obtain⟨_,_,h1,_⟩:=CG11;exact h1
theorem zOp(fv:Value)(w:World):Calls Tryz.prog 421 #[.slice none 0 0,fv] w fun e w'=>e= .returned (.int .i64 (-1))∧w'=w:=by
 go_enter Tryz.func421,Tryz.ntmps421;go_wp2_with fail;go_loopw [8] (fun i wr=>i= .int .i64 0∧wr=w) (fun i _=>0)
 case atStart=>exact⟨rfl,rfl⟩
 case round=>
  obtain⟨rfl,rfl⟩:=hrel;go_wp2_with fail;go_ret
  exact⟨rfl,rfl⟩
theorem zLp(fv:Value)(w:World):Calls Tryz.prog 418 #[.slice none 0 0,fv] w fun e w'=>e= .returned (.bool false)∧w'=w:=by
 go_enter Tryz.func418,Tryz.ntmps418;go_wp2_with fail;refine(zOp fv w).mono ?_;rintro e w1 ⟨rfl,rfl⟩;go_wp2_with fail;go_ret
 exact⟨rfl,rfl⟩
theorem zF0(base g:Nat)(s:Gf)(f:Fl)(c m:Int)(src dst:Int)(so sd:Value)(side:Int)(bk:Bool)(t0 t1 t2 t3 t4 i0 i1 i2 i3 i4:Int)(w:World)(h:GF base w g s)(hes:EsI s.fe s.cf)(hsz:s.fs.length≤12)(hu:IdE s)(hf:f∈s.fs)(hms:∀x∈s.fs,(x.ms==f.id)=false):
  Calls Tryz.prog 415 #[.agg #[.int .u16 c,.int .u8 47,.int .u32 16909060,.int .u16 m],.agg #[.pointer (some ⟨g,0,none⟩),.int .u8 0,.int .u16 0,.bool false,.int .u8 64,.int .u8 6,.int .u32 src,.int .u32 dst,so,sd,.int .i64 side,.pointer (some ⟨f.blk,0,none⟩),.bool bk,.int .u8 t0,.int .u32 t1,.int .u32 t2,.int .u16 t3,.int .u16 t4,.int .u8 i0,.int .u32 i1,.int .u32 i2,.int .u16 i3,.int .u16 i4]] w fun e w'=>e= .returned (.bool false)∧Later w w':=by
 obtain⟨l0,c0,c1⟩:=zBj w (.cells #[.int .u16 c,.int .u8 47,.int .u32 16909060,.int .u16 m] 533) (.cells #[.pointer (some ⟨g,0,none⟩),.int .u8 0,.int .u16 0,.bool false,.int .u8 64,.int .u8 6,.int .u32 src,.int .u32 dst,so,sd,.int .i64 side,.pointer (some ⟨f.blk,0,none⟩),.bool bk,.int .u8 t0,.int .u32 t1,.int .u32 t2,.int .u16 t3,.int .u16 t4,.int .u8 i0,.int .u32 i1,.int .u32 i2,.int .u16 i3,.int .u16 i4] 242);have C1:=zAc c1;have HT:=zAc (zD1 base g s f _ (h.later l0) hes hsz hu (zAb l0 (h.fb f hf).2) hms);clear c0 c1 h;go_enter Tryz.func415,Tryz.ntmps415;go_upto_region 1 with fail;change Code.wp _ _ _ _ ((w.alloc (.cells #[.int .u16 c,.int .u8 47,.int .u32 16909060,.int .u16 m] 533)).alloc (.cells #[.pointer (some ⟨g,0,none⟩),.int .u8 0,.int .u16 0,.bool false,.int .u8 64,.int .u8 6,.int .u32 src,.int .u32 dst,so,sd,.int .i64 side,.pointer (some ⟨f.blk,0,none⟩),.bool bk,.int .u8 t0,.int .u32 t1,.int .u32 t2,.int .u16 t3,.int .u16 t4,.int .u8 i0,.int .u32 i1,.int .u32 i2,.int .u16 i3,.int .u16 i4] 242));generalize (w.alloc (.cells #[.int .u16 c,.int .u8 47,.int .u32 16909060,.int .u16 m] 533)).alloc (.cells #[.pointer (some ⟨g,0,none⟩),.int .u8 0,.int .u16 0,.bool false,.int .u8 64,.int .u8 6,.int .u32 src,.int .u32 dst,so,sd,.int .i64 side,.pointer (some ⟨f.blk,0,none⟩),.bool bk,.int .u8 t0,.int .u32 t1,.int .u32 t2,.int .u16 t3,.int .u16 t4,.int .u8 i0,.int .u32 i1,.int .u32 i2,.int .u16 i3,.int .u16 i4] 242)=w1 at*
 generalize hgx:w.heap.size=gx at C1⊢;have k1:=zAa C1.out;go_wp2_with fail;refine HT.out.mono ?_;rintro e w2 ⟨rfl,l2⟩;have L2:Later w w2:=l0.trans l2;clear k1 HT;go_wp2_with fail;refine(zLp _ w2).mono ?_;rintro e w3 ⟨rfl,hw3⟩;subst hw3;go_wp2_with fail;go_ret
 exact⟨rfl,L2⟩
def GrQ (base g:Nat) (s:Gf) (c d m:Int) (w w':World):Prop:=∃f2:Fl,w.heap.size≤f2.blk∧KG base w w'∧f2.id=s.bg∧f2.o=oG c d∧f2.r=rG d m∧f2.side=0∧f2.ms=0∧f2.hv= .slice none 0 0∧f2.hp=noh∧GF base w' g (bcS (opS s f2) f2 8)
theorem zLq(base g:Nat)(s:Gf)(f:Fl)(c d m:Int)(src dst:Int)(so sd:Value)(side:Int)(bk:Bool)(t0 t1 t2 t3 t4 i0 i1 i2 i3 i4:Int)(w:World)(h:GF base w g s)(hes:EsI s.fe s.cf)(hsz:s.fs.length≤12)(hu:IdE s)(hf:f∈s.fs)(hms:∀x∈s.fs,(x.ms==f.id)=false)(hid:f.id=0)(ho:f.o.src=167772162∧f.o.dst=134744072)(hr:f.r.dst=16909060)(hbs:base≤w.heap.size)(hc:0≤c∧c≤65535)(hd:0≤d∧d≤65535)(hm:0≤m∧m≤65535)(hk1:kxT (oG c d) s.rw=none)(hk2:kxT (rG d m) s.rw=none)(htr:0≤s.trn∧s.trn≤900000)(hnw:0≤s.now∧s.now≤549755813888)(hbg:0≤s.bg∧s.bg≤1000000)(hidb:∀x∈s.fs,x.id≠s.bg)(hcn:0≤s.cnt∧s.cnt≤1000)(hln:∀i,(s.rw i).length≤4000):
  Calls Tryz.prog 409 #[.agg #[.int .u16 c,.int .u8 47,.int .u32 16909060,.int .u16 m],.agg #[.pointer (some ⟨g,0,none⟩),.int .u8 0,.int .u16 0,.bool false,.int .u8 64,.int .u8 6,.int .u32 src,.int .u32 dst,so,sd,.int .i64 side,.pointer (some ⟨f.blk,0,none⟩),.bool bk,.int .u8 t0,.int .u32 t1,.int .u32 t2,.int .u16 t3,.int .u16 t4,.int .u8 i0,.int .u32 i1,.int .u32 i2,.int .u16 i3,.int .u16 i4],.int .u16 d] w fun e w'=>e= .returned (.tuple #[])∧GrQ base g s c d m w w':=by
 obtain⟨l0,c0,c1⟩:=zBj w (.cells #[.int .u16 c,.int .u8 47,.int .u32 16909060,.int .u16 m] 533) (.cells #[.pointer (some ⟨g,0,none⟩),.int .u8 0,.int .u16 0,.bool false,.int .u8 64,.int .u8 6,.int .u32 src,.int .u32 dst,so,sd,.int .i64 side,.pointer (some ⟨f.blk,0,none⟩),.bool bk,.int .u8 t0,.int .u32 t1,.int .u32 t2,.int .u16 t3,.int .u16 t4,.int .u8 i0,.int .u32 i1,.int .u32 i2,.int .u16 i3,.int .u16 i4] 242);have C0:=zAc c0;have C1:=zAc c1;have HC:=zAc (fun W (l:Later w W)=>zF0 base g s f c m src dst so sd side bk t0 t1 t2 t3 t4 i0 i1 i2 i3 i4 W (h.later l) hes hsz hu hf hms);have HR:=zAc (fun W (l:Later w W)=>zFm base g s 47 167772162 134744072 c d 47 134744072 16909060 d m W (h.later l) hk1 hk2 (by omega) (by omega) hc hd (by omega) (by omega) hd hm (by omega) (by omega));have HO:=zAc (fun W (l:Later w W)=>open_gre base g s (oG c d) (rG d m) 0 0 0 0 0 none 0 0 W (h.later l) rfl (Nat.le_trans hbs l.size) (by unfold TuB oG;simp;omega) (by unfold TuB rG;simp;omega) htr hnw hbg hidb hcn hln);have HF:=zAc (fun W (l:Later w W)=>zAb l (h.fb f hf).2);have HID:=zAc hid;have HOO:=zAc ho;have HRR:=zAc hr;clear c0 c1 h hes hsz hu hf hms hid ho hr hk1 hk2 hidb hln;go_enter Tryz.func409,Tryz.ntmps409;go_upto_region 1 with fail
 change Code.wp _ _ _ _ ((w.alloc (.cells #[.int .u16 c,.int .u8 47,.int .u32 16909060,.int .u16 m] 533)).alloc (.cells #[.pointer (some ⟨g,0,none⟩),.int .u8 0,.int .u16 0,.bool false,.int .u8 64,.int .u8 6,.int .u32 src,.int .u32 dst,so,sd,.int .i64 side,.pointer (some ⟨f.blk,0,none⟩),.bool bk,.int .u8 t0,.int .u32 t1,.int .u32 t2,.int .u16 t3,.int .u16 t4,.int .u8 i0,.int .u32 i1,.int .u32 i2,.int .u16 i3,.int .u16 i4] 242));generalize (w.alloc (.cells #[.int .u16 c,.int .u8 47,.int .u32 16909060,.int .u16 m] 533)).alloc (.cells #[.pointer (some ⟨g,0,none⟩),.int .u8 0,.int .u16 0,.bool false,.int .u8 64,.int .u8 6,.int .u32 src,.int .u32 dst,so,sd,.int .i64 side,.pointer (some ⟨f.blk,0,none⟩),.bool bk,.int .u8 t0,.int .u32 t1,.int .u32 t2,.int .u16 t3,.int .u16 t4,.int .u8 i0,.int .u32 i1,.int .u32 i2,.int .u16 i3,.int .u16 i4] 242)=w1 at*;generalize hgx:w.heap.size=gx at C0 C1⊢;refine zAk (R:=But (fun q=>w1.heap.size≤q)) 20 rfl (by kernel_rfl) ?_;have ld:Later w1 w1.drew:=Later.drew w1;have hsd:w1.heap.size≤w1.drew.heap.size:=ld.size;have hsd2:w1.drew.heap.size=w1.heap.size:=rfl;generalize w1.drew=wd at*;have LD:=l0.trans ld;have D0:=zAc (zAb ld C0.out);have D1:=zAc (zAb ld C1.out);have FD:=zAc (HF.out wd LD);have hlt0:gx<w1.heap.size:=(eS C0.out);have hlt1:gx+1<w1.heap.size:=(eS C1.out);have hltf:f.blk<w1.heap.size:=by rw[←hsd2];exact(eS FD.out)
 clear hsd2;have q0:∀v,But (fun q=>w1.heap.size≤q) wd v→∀j,v.cell? ⟨gx,j,none⟩=_:=fun v hv=>zAa ((hv.block gx (by omega) (fun e=>by have e':w1.heap.size≤gx:=e;omega)).trans D0.out);have q1:∀v,But (fun q=>w1.heap.size≤q) wd v→∀j,v.cell? ⟨gx+1,j,none⟩=_:=fun v hv=>zAa ((hv.block (gx+1) (by omega) (fun e=>by have e':w1.heap.size≤gx+1:=e;omega)).trans D1.out);have q2:∀v,But (fun q=>w1.heap.size≤q) wd v→∀j,v.cell? ⟨f.blk,j,none⟩=_:=fun v hv=>zAa ((hv.block f.blk (by omega) (fun e=>by have e':w1.heap.size≤f.blk:=e;omega)).trans FD.out);unfold flc at q2;rw[HOO.out.1,HOO.out.2]at q2;refine tX (But.pre _) 0 ?_;refine tX (But.pre _) 1 ?_;refine tX (But.pre _) 2 ?_;refine tX (But.pre _) 3 ?_;refine tX (But.pre _) 4 ?_;refine tX (But.pre _) 5 ?_;refine tX (But.pre _) 6 ?_;refine tX (But.pre _) 7 ?_;refine tX (But.pre _) 8 ?_;refine tX (But.pre _) 9 ?_;refine tX (But.pre _) 10 ?_;refine tX (But.pre _) 11 ?_;refine tX (But.pre _) 12 ?_;refine tX (But.pre _) 13 ?_;refine tX (But.pre _) 14 ?_;refine tX (But.pre _) 15 ?_;refine tX (But.pre _) 16 ?_;refine tX (But.pre _) 17 ?_;clear q0 q1 q2;have la:=zAe wd (.cells #[.int .u8 0,.int .u32 0,.int .u32 0,.int .u16 0,.int .u16 0] 103);have ca:=zAc (heap_alloc_new wd (.cells #[.int .u8 0,.int .u32 0,.int .u32 0,.int .u16 0,.int .u16 0] 103));have LAx:=zAc la;clear la;refine tO 18 ?_;unfold Oper.wp;go_simp;refine⟨But.of LAx.out,?_⟩;have hslx:=LAx.out.size;generalize hqx:wd.alloc _=wda at*
 generalize hgx:wd.heap.size=gn at*;clear hqx;have kA:=zAa ca.out;have fA:=zAd ca.out;refine tO 19 ?_;unfold Oper.wp;go_simp;generalize hV:World.setCell _ ⟨gn,4,none⟩ _=w3;have hV9:w3=zAj wda gn 0 [.int .u8 47,.int .u32 167772162,.int .u32 134744072,.int .u16 c,.int .u16 d]:=hV.symm;have hbx:But (fun q=>q=gn) wda w3:=by rw[hV9];exact zAf (E:=fun q=>q=gn) (n:=gn) rfl _ _ _ _ (But.refl _ _)
 have p6:=zAg [.int .u8 47,.int .u32 167772162,.int .u32 134744072,.int .u16 c,.int .u16 d] ca.out rfl;rw[←hV9]at p6;clear hV hV9 kA fA;refine⟨⟨hbx.os,hbx.tape,hbx.output,hbx.size,fun q hq hn=>hbx.block q hq (fun e=>hn (by have e':q=gn:=e;show w1.heap.size≤q;omega))⟩,?_⟩;refine tD ?_;have Lx:Later wd w3:=Below.trans LAx.out (hbx.below LAx.out.size (fun k hk e=>by have e':k=gn:=e;omega));have L3:Later w w3:=LD.trans Lx;have E0:=zAc (zAb Lx D0.out);have E1:=zAc (zAb Lx D1.out);have EO:=zAc p6;clear p6 hbx LAx D0 D1 FD ca Lx LD C0 C1 ld hsd hslx;go_upto_region 2 with fail;refine zAk (R:=But (fun q=>w3.heap.size≤q)) 21 rfl (by kernel_rfl) ?_;have ld:Later w3 w3.drew:=Later.drew w3;have hsd:w3.heap.size≤w3.drew.heap.size:=ld.size;have hsd2:w3.drew.heap.size=w3.heap.size:=rfl;generalize w3.drew=wd2 at*;have LD:=L3.trans ld;have D0:=zAc (zAb ld E0.out);have D1:=zAc (zAb ld E1.out);have DO:=zAc (zAb ld EO.out);have FD:=zAc (HF.out wd2 LD);have hlt0:gx<w3.heap.size:=(eS E0.out);have hlt1:gx+1<w3.heap.size:=(eS E1.out);have hltf:f.blk<w3.heap.size:=by rw[←hsd2];exact(eS FD.out)
 clear hsd2;have q0:∀v,But (fun q=>w3.heap.size≤q) wd2 v→∀j,v.cell? ⟨gx,j,none⟩=_:=fun v hv=>zAa ((hv.block gx (by omega) (fun e=>by have e':w3.heap.size≤gx:=e;omega)).trans D0.out);have q1:∀v,But (fun q=>w3.heap.size≤q) wd2 v→∀j,v.cell? ⟨gx+1,j,none⟩=_:=fun v hv=>zAa ((hv.block (gx+1) (by omega) (fun e=>by have e':w3.heap.size≤gx+1:=e;omega)).trans D1.out);have q2:∀v,But (fun q=>w3.heap.size≤q) wd2 v→∀j,v.cell? ⟨f.blk,j,none⟩=_:=fun v hv=>zAa ((hv.block f.blk (by omega) (fun e=>by have e':w3.heap.size≤f.blk:=e;omega)).trans FD.out);unfold flc at q2;rw[HOO.out.2,HRR.out]at q2;refine tX (But.pre _) 0 ?_;refine tX (But.pre _) 1 ?_;refine tX (But.pre _) 2 ?_;refine tX (But.pre _) 3 ?_;refine tX (But.pre _) 4 ?_;refine tX (But.pre _) 5 ?_;refine tX (But.pre _) 6 ?_;refine tX (But.pre _) 7 ?_;refine tX (But.pre _) 8 ?_;refine tX (But.pre _) 9 ?_;refine tX (But.pre _) 10 ?_;refine tX (But.pre _) 11 ?_;refine tX (But.pre _) 12 ?_;refine tX (But.pre _) 13 ?_;refine tX (But.pre _) 14 ?_;refine tX (But.pre _) 15 ?_;refine tX (But.pre _) 16 ?_;refine tX (But.pre _) 17 ?_;refine tX (But.pre _) 18 ?_;clear q0 q1 q2;have la:=zAe wd2 (.cells #[.int .u8 0,.int .u32 0,.int .u32 0,.int .u16 0,.int .u16 0] 103);have ca:=zAc (heap_alloc_new wd2 (.cells #[.int .u8 0,.int .u32 0,.int .u32 0,.int .u16 0,.int .u16 0] 103));have LAy:=zAc la;clear la;refine tO 19 ?_;unfold Oper.wp;go_simp;refine⟨But.of LAy.out,?_⟩;have hsly:=LAy.out.size
 generalize hqy:wd2.alloc _=wd2a at*;generalize hgy:wd2.heap.size=gm at*;clear hqy;have kA:=zAa ca.out;have fA:=zAd ca.out;refine tO 20 ?_;unfold Oper.wp;go_simp;generalize hV:World.setCell _ ⟨gm,4,none⟩ _=w4;have hV9:w4=zAj wd2a gm 0 [.int .u8 47,.int .u32 134744072,.int .u32 16909060,.int .u16 d,.int .u16 m]:=hV.symm;have hby:But (fun q=>q=gm) wd2a w4:=by rw[hV9];exact zAf (E:=fun q=>q=gm) (n:=gm) rfl _ _ _ _ (But.refl _ _)
 have p6:=zAg [.int .u8 47,.int .u32 134744072,.int .u32 16909060,.int .u16 d,.int .u16 m] ca.out rfl;rw[←hV9]at p6;clear hV hV9 kA fA;refine⟨⟨hby.os,hby.tape,hby.output,hby.size,fun q hq hn=>hby.block q hq (fun e=>hn (by have e':q=gm:=e;show w3.heap.size≤q;omega))⟩,?_⟩;refine tD ?_;have Ly:Later wd2 w4:=Below.trans LAy.out (hby.below LAy.out.size (fun k hk e=>by have e':k=gm:=e;omega));have L4:Later w w4:=LD.trans Ly;have F0:=zAc (zAb Ly D0.out);have F1:=zAc (zAb Ly D1.out);have FO:=zAc (zAb Ly DO.out);have FR:=zAc p6;clear p6 hby LAy D0 D1 DO FD ca Ly LD E0 E1 EO ld hsd hsly;have HRG:=zAc (zAw (xs:=[.pointer (some ⟨g,0,none⟩),.int .u8 0,.int .u16 0,.bool false,.int .u8 64,.int .u8 6,.int .u32 src,.int .u32 dst,so,sd,.int .i64 side,.pointer (some ⟨f.blk,0,none⟩),.bool bk,.int .u8 t0,.int .u32 t1,.int .u32 t2,.int .u16 t3,.int .u16 t4,.int .u8 i0,.int .u32 i1,.int .u32 i2,.int .u16 i3,.int .u16 i4]) F1.out);have k0:=zAa F0.out;have kO:=zAa FO.out;have kR:=zAa FR.out;go_upto_region 3 with fail;go_wp2_with (refine wpList_load_mid rfl 242 (.tmp 4) rfl (gx+1) 0 rfl _ _ HRG.out Tryz.underlying242 rfl zBs ?_)
 refine(HC.out w4 L4).mono ?_;rintro e w5 ⟨rfl,l5⟩;have l5':Later w4 w5:=l5;have L5:Later w w5:=L4.trans l5';have G0:=zAc (zAb l5' F0.out);have G1:=zAc (zAb l5' F1.out);have GO:=zAc (zAb l5' FO.out);have GR:=zAc (zAb l5' FR.out);clear HC k0 kO kR HRG F0 F1 FO FR l5 l5' L4;have HRG:=zAc (zAw (xs:=[.pointer (some ⟨g,0,none⟩),.int .u8 0,.int .u16 0,.bool false,.int .u8 64,.int .u8 6,.int .u32 src,.int .u32 dst,so,sd,.int .i64 side,.pointer (some ⟨f.blk,0,none⟩),.bool bk,.int .u8 t0,.int .u32 t1,.int .u32 t2,.int .u16 t3,.int .u16 t4,.int .u8 i0,.int .u32 i1,.int .u32 i2,.int .u16 i3,.int .u16 i4]) G1.out);have k1:=zAa G1.out;have kO:=zAa GO.out;have kR:=zAa GR.out;go_wp2_with (refine wpList_load_mid rfl 242 (.tmp 4) rfl (gx+1) 0 rfl _ _ HRG.out Tryz.underlying242 rfl zBs ?_)
 refine(HR.out w5 L5).mono ?_;rintro e w6 ⟨rfl,l6⟩;have l6':Later w5 w6:=l6;have L6:Later w w6:=L5.trans l6';have H1:=zAc (zAb l6' G1.out);have HOb:=zAc (zAb l6' GO.out);have HRb:=zAc (zAb l6' GR.out);clear HR k1 kO kR HRG G0 G1 GO GR l6 l6' L5;go_upto_region 4 with fail;refine zA6 (R1:=Later) (R2:=fun _ _=>True) (D:=[12]) 13 rfl (by kernel_rfl) ?_;have ld:Later w6 w6.drew:=Later.drew w6;generalize w6.drew=wd3 at*;have LD:Later w wd3:=L6.trans ld;have FD:=zAc (HF.out wd3 LD);have q1:∀v,Later wd3 v→∀j,v.cell? ⟨gx+1,j,none⟩=_:=fun v hv=>zAa (zAb (ld.trans hv) H1.out);have qO:∀v,Later wd3 v→∀j,v.cell? ⟨gn,j,none⟩=_:=fun v hv=>zAa (zAb (ld.trans hv) HOb.out);have qR:∀v,Later wd3 v→∀j,v.cell? ⟨gm,j,none⟩=_:=fun v hv=>zAa (zAb (ld.trans hv) HRb.out);have q2:∀v,Later wd3 v→∀j,v.cell? ⟨f.blk,j,none⟩=_:=fun v hv=>zAa (zAb hv FD.out);unfold flc at q2;rw[HID.out]at q2;refine uX Later.pre 0 [1,2,12] ?_;refine uX Later.pre 1 [2,12] ?_;refine uX Later.pre 2 [12] ?_;refine uX Later.pre 3 [11,12] ?_;refine uX Later.pre 4 [11,12] ?_;refine uX Later.pre 5 [6,7,8,9,10,11,12] ?_;refine uX Later.pre 6 [7,8,9,10,11,12] ?_;refine uX Later.pre 7 [8,9,10,11,12] ?_;refine uX Later.pre 8 [9,10,11,12] ?_;refine uX Later.pre 9 [10,11,12] ?_;refine uX Later.pre 10 [11,12] ?_;refine uX Later.pre 11 [12] ?_;clear q1 qO qR q2;refine uO 12 ?_
 refine zAi 284 #[.pointer (some ⟨g,0,none⟩),.agg #[.int .i64 0,.int .u8 47,.int .u32 167772162,.int .u32 134744072,.int .u16 c,.int .u16 d,.int .u8 47,.int .u32 134744072,.int .u32 16909060,.int .u16 d,.int .u16 m,.int .i64 0,.int .i64 0,.int .i64 0,.int .i64 0],.slice none 0 0] (by go_simp) ?_;refine(HO.out wd3 LD).mono ?_;rintro e w7 ⟨f2,hb2,rfl,k7,e1,e2,e3,e4,e5,e6,e7,hG7⟩;refine⟨zEf (by rfl) trivial,?_⟩;simp only[Act.put,sA,sB,sC];refine uD ?_;have HFIN:Hid (GrQ base g s c d m w w7):=⟨f2,Nat.le_trans LD.size hb2,(KG.of_later LD).trans k7,e1,e2,e3,e4,e5,e6,e7,hG7⟩;clear hb2 k7 e1 e2 e3 e4 e5 e6 e7 hG7;go_wp2_with fail;go_end0
 exact⟨rfl,HFIN.out⟩
theorem HpD.hpc {base:Nat} {W:World} {hb:Nat} {c m:Int} (h:HpD base W hb c m):HpC W hb c m:=by
 obtain⟨v,h1,h2,⟨_,h0⟩|⟨g,cap,cur,rfl,hg,hh,hc1,hc2,hc3,hc4⟩⟩:=h
 ·cases h0
 ·have hm:cap≤9223372036854775807:=by simpa[maxLen]using hc2
  have hq:∀(j:Nat) (x:Value),j<4→([Value.int .u16 c,.int .u8 47,.int .u32 16909060,.int .u16 m]:List Value)[j]? =some x→cur[j]? =some x:=fun j x hj hx=>by
   have:=congrArg (fun l=>l[j]?) hc4;simp only[Nat.one_mul]at this;rw[List.getElem?_take_of_lt hj,hx]at this;rw[←Array.getElem?_toList];exact this
  exact⟨g,cap,h1,hc1,hm,cur,hh,hq 0 _ (by omega) rfl,hq 1 _ (by omega) rfl,hq 2 _ (by omega) rfl,hq 3 _ (by omega) rfl⟩
theorem eg_srv(args:Array Value)(w:World):(callFunc 408 args).run Tryz.prog w= .ok (.enter 408 args) w:=enters_of Tryz.func408 (by kernel_rfl) rfl args w
theorem srv1(gm:Nat)(c d m:Int)(w:World)(h:w.heap[gm]? =some (.cells #[.int .i64 8,.int .u16 d,.int .u16 m,.int .u8 1] 52 (0,0))):
  Calls Tryz.prog 408 (#[.agg #[.int .u16 c,.int .u8 47,.int .u32 16909060,.int .u16 m]]++ #[.pointer (some ⟨gm,0,none⟩)]) w fun e w'=>e= .returned (.bool true)∧Later w w':=by
 have la:=zAe w (.cells #[.int .u16 c,.int .u8 47,.int .u32 16909060,.int .u16 m] 533);have C0:=zAc (heap_alloc_new w (.cells #[.int .u16 c,.int .u8 47,.int .u32 16909060,.int .u16 m] 533));have M0:=zAc (zAb la h);clear h;show Calls Tryz.prog 408 #[.agg #[.int .u16 c,.int .u8 47,.int .u32 16909060,.int .u16 m],.pointer (some ⟨gm,0,none⟩)] w _
 go_enter Tryz.func408,Tryz.ntmps408;go_upto_region 1 with fail;generalize w.alloc _=w1 at*;have k0:=zAa C0.out;have k1:=zAa M0.out;go_wp2_with fail;go_ret
 exact⟨rfl,la⟩
theorem GrQ.later {base g:Nat} {s:Gf} {c d m:Int} {w A B:World} (h:GrQ base g s c d m w A)(l:Later A B):GrQ base g s c d m w B:=by
 obtain⟨f2,h1,h2,e1,e2,e3,e4,e5,e6,e7,h3⟩:=h;exact⟨f2,h1,h2.trans (KG.of_later l),e1,e2,e3,e4,e5,e6,e7,h3.later l⟩
theorem GrQ.from {base g:Nat} {s:Gf} {c d m:Int} {w A B:World} (h:GrQ base g s c d m A B)(l:Later w A):GrQ base g s c d m w B:=by
 obtain⟨f2,h1,h2,h3⟩:=h;exact⟨f2,Nat.le_trans l.size h1,(KG.of_later l).trans h2,h3⟩
theorem GrQ.kg {base g:Nat} {s:Gf} {c d m:Int} {w w':World} (h:GrQ base g s c d m w w'):KG base w w':=by
 obtain⟨f2,h1,h2,h3⟩:=h;exact h2
theorem zLr(base g:Nat)(s:Gf)(f:Fl)(hb:Nat)(c d m:Int)(src dst:Int)(so sd:Value)(side:Int)(bk:Bool)(t0 t1 t2 t3 t4 i0 i1 i2 i3 i4:Int)(da:Option Addr)(dc:Nat)(zs:List Int)(w:World)(h:GF base w g s)(hes:EsI s.fe s.cf)(hsz:s.fs.length≤12)(hu:IdE s)(hf:f∈s.fs)(hms:∀x∈s.fs,(x.ms==f.id)=false)(hid:f.id=0)(ho:f.o.src=167772162∧f.o.dst=134744072)(hr:f.r.dst=16909060)(hbs:base≤w.heap.size)(hc:0≤c∧c≤65535)(hd:0≤d∧d≤65535)(hm:0≤m∧m≤65535)(hk1:kxT (oG c d) s.rw=none)(hk2:kxT (rG d m) s.rw=none)(htr:0≤s.trn∧s.trn≤900000)(hnw:0≤s.now∧s.now≤549755813888)(hbg:0≤s.bg∧s.bg≤1000000)(hidb:∀x∈s.fs,x.id≠s.bg)(hcn:0≤s.cnt∧s.cnt≤1000)(hln:∀i,(s.rw i).length≤4000)(hH:HpD base w hb c m)(hB:Mt.By zs)(hl:zs.length≤500)(n0:Nat)(hn0:base≤n0∧n0≤w.heap.size)(hI:Ow n0 w (.slice da zs.length dc) zs):
  Calls Tryz.prog 402 #[.pointer (some ⟨hb,0,none⟩),.agg #[.pointer (some ⟨g,0,none⟩),.int .u8 0,.int .u16 0,.bool false,.int .u8 64,.int .u8 6,.int .u32 src,.int .u32 dst,so,sd,.int .i64 side,.pointer (some ⟨f.blk,0,none⟩),.bool bk,.int .u8 t0,.int .u32 t1,.int .u32 t2,.int .u16 t3,.int .u16 t4,.int .u8 i0,.int .u32 i1,.int .u32 i2,.int .u16 i3,.int .u16 i4],.agg #[.int .i64 8,.int .u16 d,.int .u16 m,.int .u8 1],.slice da zs.length dc] w fun e w'=>GrQ base g s c d m w w'∧∃a,e= .returned (.slice a zs.length zs.length)∧Ow w.heap.size w' (.slice a zs.length zs.length) (zAq zs (lyP zs) c):=by
 obtain⟨l0,c0,c1⟩:=zBj w (.cells #[.pointer (some ⟨g,0,none⟩),.int .u8 0,.int .u16 0,.bool false,.int .u8 64,.int .u8 6,.int .u32 src,.int .u32 dst,so,sd,.int .i64 side,.pointer (some ⟨f.blk,0,none⟩),.bool bk,.int .u8 t0,.int .u32 t1,.int .u32 t2,.int .u16 t3,.int .u16 t4,.int .u8 i0,.int .u32 i1,.int .u32 i2,.int .u16 i3,.int .u16 i4] 242) (.cells #[.int .i64 8,.int .u16 d,.int .u16 m,.int .u8 1] 52);have C0:=zAc c0;have C1:=zAc c1;have I1:=zAc (hI.kg (KG.of_later (base:=base) l0));have HCN:=zAc (fun W (l:Later w W)=>zLq base g s f c d m src dst so sd side bk t0 t1 t2 t3 t4 i0 i1 i2 i3 i4 W (h.later l) hes hsz hu hf hms hid ho hr (Nat.le_trans hbs l.size) hc hd hm hk1 hk2 htr hnw hbg hidb hcn hln);have HFD:=zAc (find_yes hb 408 #[.pointer (some ⟨w.heap.size+1,0,none⟩)] c m _ (hH.hpc.later l0) eg_srv (fun W l=>srv1 (w.heap.size+1) c d m W (zAb l c1)));clear c0 c1 h hes hsz hu hf hms hid ho hr hk1 hk2 hidb hln hH hI;go_enter Tryz.func402,Tryz.ntmps402;go_upto_region 1 with fail;change Code.wp _ _ _ _ ((w.alloc (.cells #[.pointer (some ⟨g,0,none⟩),.int .u8 0,.int .u16 0,.bool false,.int .u8 64,.int .u8 6,.int .u32 src,.int .u32 dst,so,sd,.int .i64 side,.pointer (some ⟨f.blk,0,none⟩),.bool bk,.int .u8 t0,.int .u32 t1,.int .u32 t2,.int .u16 t3,.int .u16 t4,.int .u8 i0,.int .u32 i1,.int .u32 i2,.int .u16 i3,.int .u16 i4] 242)).alloc (.cells #[.int .i64 8,.int .u16 d,.int .u16 m,.int .u8 1] 52))
 generalize (w.alloc (.cells #[.pointer (some ⟨g,0,none⟩),.int .u8 0,.int .u16 0,.bool false,.int .u8 64,.int .u8 6,.int .u32 src,.int .u32 dst,so,sd,.int .i64 side,.pointer (some ⟨f.blk,0,none⟩),.bool bk,.int .u8 t0,.int .u32 t1,.int .u32 t2,.int .u16 t3,.int .u16 t4,.int .u8 i0,.int .u32 i1,.int .u32 i2,.int .u16 i3,.int .u16 i4] 242)).alloc (.cells #[.int .i64 8,.int .u16 d,.int .u16 m,.int .u8 1] 52)=w1 at*;generalize hgx:w.heap.size=gx at*;have k1:=zAa C1.out;go_upto_region 4 with fail;go_wp2_with fail;refine HFD.out.mono ?_;rintro e w2 ⟨rfl,l2⟩;have l2':Later w1 w2:=l2;have hs12:w1.heap.size≤w2.heap.size:=l2'.size;have la:=zAe w2 (.cells #[.int .u16 c,.int .u8 47,.int .u32 16909060,.int .u16 m] 533);have D2:=zAc (heap_alloc_new w2 (.cells #[.int .u16 c,.int .u8 47,.int .u32 16909060,.int .u16 m] 533));have L3:Later w (w2.alloc (.cells #[.int .u16 c,.int .u8 47,.int .u32 16909060,.int .u16 m] 533)):=l0.trans (l2'.trans la);have E0:=zAc (zAb (l2'.trans la) C0.out);have E1:=zAc (zAb (l2'.trans la) C1.out);have I3:=zAc (I1.out.kg (KG.of_later (base:=base) (l2'.trans la)));clear k1 C0 C1 I1 l2 l2' la HFD;go_upto_region 5 with fail;change Code.wp _ _ _ _ (w2.alloc (.cells #[.int .u16 c,.int .u8 47,.int .u32 16909060,.int .u16 m] 533));generalize w2.alloc (.cells #[.int .u16 c,.int .u8 47,.int .u32 16909060,.int .u16 m] 533)=w3 at*;generalize hg3:w2.heap.size=g3 at*;have HA:=zAc (HCN.out w3 L3);clear HCN;have k1:=zAa E1.out
 have k3:=zAa D2.out;have HRG:=zAc (zAw (xs:=[.pointer (some ⟨g,0,none⟩),.int .u8 0,.int .u16 0,.bool false,.int .u8 64,.int .u8 6,.int .u32 src,.int .u32 dst,so,sd,.int .i64 side,.pointer (some ⟨f.blk,0,none⟩),.bool bk,.int .u8 t0,.int .u32 t1,.int .u32 t2,.int .u16 t3,.int .u16 t4,.int .u8 i0,.int .u32 i1,.int .u32 i2,.int .u16 i3,.int .u16 i4]) E0.out);go_upto_region 8 with fail;go_wp2_with (refine wpList_load_mid rfl 242 (.tmp 5) rfl gx 0 rfl _ _ HRG.out Tryz.underlying242 rfl zBs ?_)
 refine HA.out.mono ?_;rintro e w4 ⟨rfl,hG4⟩;have F3:=zAc (hG4.kg.cells D2.out (by decide));have I4:=zAc (I3.out.kg hG4.kg);have hs4:w3.heap.size≤w4.heap.size:=hG4.kg.size;have hs3:w.heap.size≤w3.heap.size:=L3.size;have GQ:=zAc (hG4.from L3);clear k1 k3 HRG HA hG4 D2 E0 E1 I3;have HWC:=zAc (zI8 (.slice da zs.length dc) zs hB c hc w4 (by omega) (I4.out.rd));have k3:=zAa F3.out;go_upto_region 9 with fail;go_wp2_with fail;refine HWC.out.mono ?_;rintro e w6 ⟨a,rfl,hO6,l6⟩;have HF:Hid (GrQ base g s c d m w w6):=GQ.out.later l6;have HO:=zAc (hO6.mono (show w.heap.size≤w4.heap.size by omega));clear k3 HWC hO6 l6 GQ;go_wp2_with fail;go_ret
 exact⟨HF.out,a,rfl,HO.out⟩
theorem num_eq(m:Int)(w:World):(binOp .eql 230 (.agg #[.int .u8 47,.int .u32 16909060,.int .u16 m]) (.agg #[.int .u8 47,.int .u32 16909060,.int .u16 m])).run Tryz.prog w= .ok (.bool true) w:=by
 go_simp
theorem num_ne(m nn:Int)(w:World):(binOp .eql 230 (.agg #[.int .u8 6,.int .u32 16909060,.int .u16 nn]) (.agg #[.int .u8 47,.int .u32 16909060,.int .u16 m])).run Tryz.prog w= .ok (.bool false) w:=by
 go_simp
theorem num_ne2(m nn:Int)(w:World):(binOp .eql 230 (.agg #[.int .u8 47,.int .u32 16909060,.int .u16 m]) (.agg #[.int .u8 6,.int .u32 16909060,.int .u16 nn])).run Tryz.prog w= .ok (.bool false) w:=by
 go_simp
theorem eg_hup(args:Array Value)(w:World):(callFunc 413 args).run Tryz.prog w= .ok (.enter 413 args) w:=enters_of Tryz.func413 (by kernel_rfl) rfl args w
theorem eg_rel(args:Array Value)(w:World):(callFunc 417 args).run Tryz.prog w= .ok (.enter 417 args) w:=enters_of Tryz.func417 (by kernel_rfl) rfl args w
theorem hup1(gn:Nat)(c m:Int)(w:World)(h:w.heap[gn]? =some (.cells #[.int .u8 47,.int .u32 16909060,.int .u16 m] 230 (0,0))):
  Calls Tryz.prog 413 (#[.agg #[.int .u16 c,.int .u8 47,.int .u32 16909060,.int .u16 m]]++ #[.pointer (some ⟨gn,0,none⟩)]) w fun e w'=>e= .returned (.bool true)∧Later w w':=by
 have la:=zAe w (.cells #[.int .u16 c,.int .u8 47,.int .u32 16909060,.int .u16 m] 533);have C0:=zAc (heap_alloc_new w (.cells #[.int .u16 c,.int .u8 47,.int .u32 16909060,.int .u16 m] 533));have M0:=zAc (zAb la h);have hne:=num_eq m;clear h;show Calls Tryz.prog 413 #[.agg #[.int .u16 c,.int .u8 47,.int .u32 16909060,.int .u16 m],.pointer (some ⟨gn,0,none⟩)] w _
 go_enter Tryz.func413,Tryz.ntmps413;go_upto_region 1 with fail;generalize w.alloc _=w1 at*;have k0:=zAa C0.out;have k1:=zAa M0.out;go_wp2_with fail;go_ret
 exact⟨rfl,la⟩
theorem rel1(gn:Nat)(m:Int)(w:World)(h:w.heap[gn]? =some (.cells #[.int .u8 47,.int .u32 16909060,.int .u16 m] 230 (0,0))):
  Calls Tryz.prog 417 #[.agg #[.int .u8 47,.int .u32 16909060,.int .u16 m],.pointer (some ⟨gn,0,none⟩)] w fun e w'=>e= .returned (.bool true)∧Later w w':=by
 have la:=zAe w (.cells #[.int .u8 47,.int .u32 16909060,.int .u16 m] 230);have C0:=zAc (heap_alloc_new w (.cells #[.int .u8 47,.int .u32 16909060,.int .u16 m] 230));have M0:=zAc (zAb la h);have hne:=num_eq m;clear h;go_enter Tryz.func417,Tryz.ntmps417;go_upto_region 1 with fail;generalize w.alloc _=w1 at*;have k0:=zAa C0.out;have k1:=zAa M0.out;go_wp2_with fail;go_ret
 exact⟨rfl,la⟩
theorem rel0(gn:Nat)(m nn:Int)(w:World)(h:w.heap[gn]? =some (.cells #[.int .u8 47,.int .u32 16909060,.int .u16 m] 230 (0,0))):
  Calls Tryz.prog 417 #[.agg #[.int .u8 6,.int .u32 16909060,.int .u16 nn],.pointer (some ⟨gn,0,none⟩)] w fun e w'=>e= .returned (.bool false)∧Later w w':=by
 have la:=zAe w (.cells #[.int .u8 6,.int .u32 16909060,.int .u16 nn] 230);have C0:=zAc (heap_alloc_new w (.cells #[.int .u8 6,.int .u32 16909060,.int .u16 nn] 230));have M0:=zAc (zAb la h);have hne:=num_ne m nn;have hne2:=num_ne2 m nn;clear h;go_enter Tryz.func417,Tryz.ntmps417;go_upto_region 1 with fail;generalize w.alloc _=w1 at*;have k0:=zAa C0.out;have k1:=zAa M0.out;go_wp2_with fail;go_ret
 exact⟨rfl,la⟩
theorem clearC(w:World)(ty:TypeId)(g c:Nat)(cur:Array Value)(hh:w.heap[g]? =some (.cells cur 533 (0,0)))(ho:4≤cur.size):
  (Builtin.clear_ #[460] ty #[.slice (some ⟨g,0,none⟩) 1 c]).run Tryz.prog w= .ok (.tuple #[]) (zAj w g 0 [.int .u16 0,.int .u8 0,.int .u32 0,.int .u16 0]):=by
 have hc:=zAa hh;have hf:=zAd hh;have hk:∀j,j<4→∃u,w.cell? ⟨g,j,none⟩=some u:=fun j hj=>⟨cur[j]'(by omega),by rw[hc];simp⟩;obtain⟨u0,k0⟩:=hk 0 (by omega);obtain⟨u1,k1⟩:=hk 1 (by omega);obtain⟨u2,k2⟩:=hk 2 (by omega);obtain⟨u3,k3⟩:=hk 3 (by omega);clear hk hc;unfold Builtin.clear_;go_simp;have e:(Builtin.zeroCells #[Value.int .u16 0,.int .u8 0,.int .u32 0,.int .u16 0] 1).toList=[Value.int .u16 0,.int .u8 0,.int .u32 0,.int .u16 0]:=by kernel_rfl
 rw[e];simp only[storeCells];go_simp;rfl
theorem clearN(w:World)(ty:TypeId)(g c:Nat)(cur:Array Value)(hh:w.heap[g]? =some (.cells cur 230 (0,0)))(ho:6≤cur.size):
  (Builtin.clear_ #[107] ty #[.slice (some ⟨g,3,none⟩) 1 c]).run Tryz.prog w= .ok (.tuple #[]) (zAj w g 3 [.int .u8 0,.int .u32 0,.int .u16 0]):=by
 have hc:=zAa hh;have hf:=zAd hh;have hk:∀j,j<6→∃u,w.cell? ⟨g,j,none⟩=some u:=fun j hj=>⟨cur[j]'(by omega),by rw[hc];simp⟩;obtain⟨u0,k0⟩:=hk 3 (by omega);obtain⟨u1,k1⟩:=hk 4 (by omega);obtain⟨u2,k2⟩:=hk 5 (by omega);clear hk hc;unfold Builtin.clear_;go_simp;have e:(Builtin.zeroCells #[Value.int .u8 0,.int .u32 0,.int .u16 0] 1).toList=[Value.int .u8 0,.int .u32 0,.int .u16 0]:=by kernel_rfl
 rw[e];simp only[storeCells];go_simp;rfl
theorem zLs(gn:Nat)(ab cap:Nat)(c m:Int)(cur:Array Value)(w:World)(hcap:1≤cap∧cap≤9223372036854775807)(ha:w.heap[ab]? =some (.cells cur 533 (0,0)))(hz:4≤cur.size)(h0:cur[0]? =some (.int .u16 c))(h1:cur[1]? =some (.int .u8 47))(h2:cur[2]? =some (.int .u32 16909060))(h3:cur[3]? =some (.int .u16 m))(hn:w.heap[gn]? =some (.cells #[.int .u8 47,.int .u32 16909060,.int .u16 m] 230 (0,0))):
  Calls Tryz.prog 412 #[.slice (some ⟨ab,0,none⟩) 1 cap,.func (.func 413) #[] #[.pointer (some ⟨gn,0,none⟩)]] w fun e w'=>e= .returned (.slice (some ⟨ab,0,none⟩) 0 cap)∧But (fun q=>q=ab) w w':=by
 have HX:=zAc (zGv 413 #[.pointer (some ⟨gn,0,none⟩)] ab cap c m cur w hcap ha h0 h1 h2 h3 eg_hup (fun W l=>hup1 gn c m W (zAb l hn)));have HA:=zAc ha;clear ha hn h0 h1 h2 h3;go_enter Tryz.func412,Tryz.ntmps412;go_wp2_with fail;refine HX.out.mono ?_;rintro e w2 ⟨rfl,l2⟩;have l2':Later w w2:=l2;have H2:=zAc (zAb l2' HA.out);clear HX HA l2;go_wp2_with fail;go_loopw [5,6] (fun i j wr=>i= .int .i64 0∧j= .int .i64 1∧wr=w2) (fun i j _=>0)
 case atStart=>exact⟨rfl,rfl,rfl⟩
 case round=>
  obtain⟨rfl,rfl,rfl⟩:=hrel;rename World=>wr
  have HCR:=zAc (fun ty c=>clearC wr ty ab c cur H2.out hz);have j5:¬cap=0:=by omega
  have j6:1≤cap:=hcap.1;have HBF:Hid (But (fun q=>q=ab) w (zAj wr ab 0 [.int .u16 0,.int .u8 0,.int .u32 0,.int .u16 0])):=zAf (E:=fun q=>q=ab) rfl _ _ _ _ (But.of l2');clear l2' H2;go_wp2_with fail;rw[HCR.out];go_wp2_with fail;go_ret
  exact⟨rfl,HBF.out⟩
theorem zRq(gn ab cap:Nat)(nn m:Int)(cur:Array Value)(w:World)(hcap:2≤cap∧cap≤9223372036854775807)(ha:w.heap[ab]? =some (.cells cur 230 (0,0)))(h0:cur[0]? =some (.int .u8 6))(h1:cur[1]? =some (.int .u32 16909060))(h2:cur[2]? =some (.int .u16 nn))(h3:cur[3]? =some (.int .u8 47))(h4:cur[4]? =some (.int .u32 16909060))(h5:cur[5]? =some (.int .u16 m))(hn:w.heap[gn]? =some (.cells #[.int .u8 47,.int .u32 16909060,.int .u16 m] 230 (0,0))):
  Calls Tryz.prog 420 #[.slice (some ⟨ab,0,none⟩) 2 cap,.func (.func 417) #[] #[.pointer (some ⟨gn,0,none⟩)]] w fun e w'=>e= .returned (.int .i64 1)∧Later w w':=by
 have HA:=zAc ha;have HN:=zAc hn;have HEG:=zAc eg_rel;clear ha hn;go_enter Tryz.func420,Tryz.ntmps420;go_wp2_with fail;go_loopw [8] (fun i wr=>(i= .int .i64 0∨i= .int .i64 1)∧Later w wr) (fun i _=>1-(intOf i).toNat)
 case atStart=>exact⟨.inl rfl,Later.refl _⟩
 case round=>
  obtain⟨hi,lr⟩:=hrel;rename World=>wr
  have kb:=zAa (zAb lr HA.out);rcases hi with rfl|rfl
  ·have c0:=(kb 0).trans h0
   have c1:=(kb 1).trans h1;have c2:=(kb 2).trans h2;clear kb;go_wp2_with fail;refine(rel0 gn m nn wr (zAb lr HN.out)).mono ?_;rintro e w1 ⟨rfl,l1⟩;have L1:=lr.trans l1;clear c0 c1 c2;go_wp2_with fail;go_roundw
   case rel=>exact⟨.inr rfl,L1⟩
   case measure=>decide
  ·have c3:=(kb 3).trans h3
   have c4:=(kb 4).trans h4;have c5:=(kb 5).trans h5;clear kb;go_wp2_with fail;refine(rel1 gn m wr (zAb lr HN.out)).mono ?_;rintro e w1 ⟨rfl,l1⟩;have L1:=lr.trans l1;clear c3 c4 c5;go_wp2_with fail;go_ret
   exact⟨rfl,L1⟩
theorem zOq(gn ab cap:Nat)(nn m:Int)(cur:Array Value)(w:World)(hcap:2≤cap∧cap≤9223372036854775807)(ha:w.heap[ab]? =some (.cells cur 230 (0,0)))(hz:6≤cur.size)(h0:cur[0]? =some (.int .u8 6))(h1:cur[1]? =some (.int .u32 16909060))(h2:cur[2]? =some (.int .u16 nn))(h3:cur[3]? =some (.int .u8 47))(h4:cur[4]? =some (.int .u32 16909060))(h5:cur[5]? =some (.int .u16 m))(hn:w.heap[gn]? =some (.cells #[.int .u8 47,.int .u32 16909060,.int .u16 m] 230 (0,0))):
  Calls Tryz.prog 416 #[.slice (some ⟨ab,0,none⟩) 2 cap,.func (.func 417) #[] #[.pointer (some ⟨gn,0,none⟩)]] w fun e w'=>e= .returned (.slice (some ⟨ab,0,none⟩) 1 cap)∧But (fun q=>q=ab) w w':=by
 have HX:=zAc (zRq gn ab cap nn m cur w hcap ha h0 h1 h2 h3 h4 h5 hn);have HA:=zAc ha;clear ha hn h0 h1 h2 h3 h4 h5;go_enter Tryz.func416,Tryz.ntmps416;go_wp2_with fail;refine HX.out.mono ?_;rintro e w2 ⟨rfl,l2⟩;have l2':Later w w2:=l2;have H2:=zAc (zAb l2' HA.out);clear HX HA l2;go_wp2_with fail;go_loopw [5,6] (fun i j wr=>i= .int .i64 1∧j= .int .i64 2∧wr=w2) (fun i j _=>0)
 case atStart=>exact⟨rfl,rfl,rfl⟩
 case round=>
  obtain⟨rfl,rfl,rfl⟩:=hrel;rename World=>wr
  have HCR:=zAc (fun ty c=>clearN wr ty ab c cur H2.out hz);have j5:¬cap=1:=by omega
  have j6:2≤cap:=hcap.1;have j7:1≤cap:=by omega
  have HBF:Hid (But (fun q=>q=ab) w (zAj wr ab 3 [.int .u8 0,.int .u32 0,.int .u16 0])):=zAf (E:=fun q=>q=ab) rfl _ _ _ _ (But.of l2');clear l2' H2;go_wp2_with fail;rw[HCR.out];go_wp2_with fail;go_ret
  exact⟨rfl,HBF.out⟩
theorem HvT.row {base:Nat} {W:World} {nv:Value} {nn m:Int} (h:HvT base W nv nn m):∃ab cap cur,nv= .slice (some ⟨ab,0,none⟩) 2 cap∧base≤ab∧W.heap[ab]? =some (.cells cur 230 (0,0))∧(2≤cap∧cap≤9223372036854775807)∧6≤cur.size∧cur[0]? =some (.int .u8 6)∧cur[1]? =some (.int .u32 16909060)∧cur[2]? =some (.int .u16 nn)∧cur[3]? =some (.int .u8 47)∧cur[4]? =some (.int .u32 16909060)∧cur[5]? =some (.int .u16 m):=by
 obtain⟨h2,⟨_,h0⟩|⟨g,cap,cur,e,hg,hh,hc1,hc2,hc3,hc4⟩⟩:=h
 ·cases h0
 ·have hm:cap≤9223372036854775807:=by simpa[maxLen]using hc2
  have hq:∀(j:Nat) (x:Value),j<6→([Value.int .u8 6,.int .u32 16909060,.int .u16 nn,.int .u8 47,.int .u32 16909060,.int .u16 m]:List Value)[j]? =some x→cur[j]? =some x:=fun j x hj hx=>by
   have:(cur.toList.take (2*3))[j]? =_:=congrArg (fun l=>l[j]?) hc4;rw[List.getElem?_take_of_lt (by omega),hx]at this;rw[←Array.getElem?_toList];exact this
  exact⟨g,cap,cur,e,hg,hh,⟨hc1,hm⟩,by rw[hc3];omega,hq 0 _ (by omega) rfl,hq 1 _ (by omega) rfl,hq 2 _ (by omega) rfl,hq 3 _ (by omega) rfl,hq 4 _ (by omega) rfl,hq 5 _ (by omega) rfl⟩
theorem HpD.row {base:Nat} {W:World} {hb:Nat} {c m:Int} (h:HpD base W hb c m):∃ab cap cur,W.heap[hb]? =some (.cells #[.slice (some ⟨ab,0,none⟩) 1 cap] 462 (0,0))∧base≤ab∧W.heap[ab]? =some (.cells cur 533 (0,0))∧(1≤cap∧cap≤9223372036854775807)∧4≤cur.size∧cur[0]? =some (.int .u16 c)∧cur[1]? =some (.int .u8 47)∧cur[2]? =some (.int .u32 16909060)∧cur[3]? =some (.int .u16 m):=by
 obtain⟨v,h1,h2,⟨_,h0⟩|⟨g,cap,cur,rfl,hg,hh,hc1,hc2,hc3,hc4⟩⟩:=h
 ·cases h0
 ·have hm:cap≤9223372036854775807:=by simpa[maxLen]using hc2
  have hq:∀(j:Nat) (x:Value),j<4→([Value.int .u16 c,.int .u8 47,.int .u32 16909060,.int .u16 m]:List Value)[j]? =some x→cur[j]? =some x:=fun j x hj hx=>by
   have:=congrArg (fun l=>l[j]?) hc4;simp only[Nat.one_mul]at this;rw[List.getElem?_take_of_lt hj,hx]at this;rw[←Array.getElem?_toList];exact this
  exact⟨g,cap,cur,h1,hg,hh,⟨hc1,hm⟩,by rw[hc3];omega,hq 0 _ (by omega) rfl,hq 1 _ (by omega) rfl,hq 2 _ (by omega) rfl,hq 3 _ (by omega) rfl⟩
theorem zLt(base g:Nat)(s:Gf)(f:Fl)(nn m:Int)(w:World)(h:GF base w g s)(hf:f∈s.fs)(huq:∀x∈s.fs,x.blk=f.blk→x=f)(hv:HvT base w f.hv nn m)(hbs:base≤w.heap.size):
  Calls Tryz.prog 414 #[.pointer (some ⟨f.blk,0,none⟩),.agg #[.int .u8 47,.int .u32 16909060,.int .u16 m]] w fun e w'=>e= .returned (.tuple #[])∧Kgl base w w'∧(∀(k:Nat) (o:Obj),w.heap[k]? =some o→f.hv.ownBlock≠some k→k≠f.blk→w'.heap[k]? =some o)∧∃nv,GF base w' g (zHk s { f with hv:=nv }):=by
 obtain⟨ab,cap,cur,hve,hab,hh,hcap,hz,q0,q1,q2,q3,q4,q5⟩:=hv.row;have la:=zAe w (.cells #[.int .u8 47,.int .u32 16909060,.int .u16 m] 230);have ca:=heap_alloc_new w (.cells #[.int .u8 47,.int .u32 16909060,.int .u16 m] 230);have hfB:=h.fb f hf;have F1:=zAc (zAb la hfB.2);have G1:=zAc (h.later la);have HX:=zAc (zOq w.heap.size ab cap nn m cur _ hcap (zAb la hh) hz q0 q1 q2 q3 q4 q5 ca);have H1:=zAc (zAb la hh);have HUQ:=zAc huq;have HVE:=zAc hve;have hbl:base≤f.blk:=hfB.1
 have hne:f.blk≠ab:=fun e=>by
  have h1:=hfB.2;rw[e,hh]at h1;have:=(Obj.cells.inj (Option.some.inj h1)).2.1;revert this
  decide
 clear hh ca q0 q1 q2 q3 q4 q5 hfB hve huq h;go_enter Tryz.func414,Tryz.ntmps414;go_upto_region 1 with fail;change Code.wp _ _ _ _ (w.alloc (.cells #[.int .u8 47,.int .u32 16909060,.int .u16 m] 230));generalize w.alloc (.cells #[.int .u8 47,.int .u32 16909060,.int .u16 m] 230)=w1 at*;have k1:=zAa F1.out;unfold flc at k1;rw[HVE.out]at k1;go_wp2_with fail;refine HX.out.mono ?_;rintro e w2 ⟨rfl,hb2⟩;have F2:=zAc ((hb2.block f.blk (eS F1.out) (fun e=>hne e)).trans F1.out);have HB2:=zAc hb2;have G2:=zAc (G1.out.other (TE.one H1.out) hb2 (by decide));clear k1 HX hb2 G1;have k2:=zAa F2.out;have f2:=zAd F2.out;unfold flc at k2;go_wp2_with fail;clear k2 f2;have hb3:But (fun q=>q=f.blk) w2 (w2.setCell ⟨f.blk,15,none⟩ (.slice (some ⟨ab,0,none⟩) 1 cap)):=(But.refl (fun q=>q=f.blk) _).setCell (p:=⟨f.blk,15,none⟩) (show _=_ from rfl) _;have F3:=zAh F2.out 15 (.slice (some ⟨ab,0,none⟩) 1 cap);have G3:=G2.out.flow f { f with hv:= .slice (some ⟨ab,0,none⟩) 1 cap } hf (fun x hx e=>HUQ.out x hx e) hb3 rfl rfl F3
 have K:Kgl base w (w2.setCell ⟨f.blk,15,none⟩ (.slice (some ⟨ab,0,none⟩) 1 cap)):=(Kgl.of_kg (KG.of_later la)).trans ((Kgl.of_but HB2.out (fun k e o ho=>by
  have e':k=ab:=e;rw[e']at ho⊢;refine⟨hab,fun cur t fz hq=> ?_⟩;subst hq;rw[H1.out]at ho;rw[←(Obj.cells.inj (Option.some.inj ho)).2.1];decide)).trans (Kgl.of_but hb3 (fun k e o ho=>by
  have e':k=f.blk:=e;rw[e']at ho⊢;refine⟨hbl,fun cur t fz hq=> ?_⟩;subst hq;rw[F2.out]at ho;rw[←(Obj.cells.inj (Option.some.inj ho)).2.1];decide)))
 have HK:=zAc K;have HG3:=zAc G3
 have HKT:Hid (∀(k:Nat) (o:Obj),w.heap[k]? =some o→f.hv.ownBlock≠some k→k≠f.blk→(w2.setCell ⟨f.blk,15,none⟩ (.slice (some ⟨ab,0,none⟩) 1 cap)).heap[k]? =some o):=fun k o hk h1 h2=>by
  have e1:=zAb la hk
  have e2:=(HB2.out.block k (eS e1) (fun e=>by
   have e':k=ab:=e;rw[HVE.out,e']at h1;exact h1 rfl)).trans e1
  exact(hb3.block k (eS e2) (fun e=>h2 e)).trans e2
 clear K G3 hb3 F3;go_end0
 exact⟨rfl,HK.out,HKT.out,_,HG3.out⟩
end Go.Proofs.YteaeilghamjjkaaGreatDoor
