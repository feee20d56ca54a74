import Derived.Test.YteaeilghamjjkaaGreatDoorX4
import Derived.Laws.Append
namespace Go.Proofs.YteaeilghamjjkaaGreatDoor
set_option maxHeartbeats 16000000
open Go.RowKit Go.Shelf
set_option maxRecDepth 100000
set_option linter.unusedVariables false
set_option linter.unusedSimpArgs false
def TX (W:World):Prop:=Tb W∧Dz W∧TabR W∧TabI W
def StN (side sq sq2 ak ak2 fl:Int) (l0 l1:List Pa):Prop:=(side=0∧zD0 l0 sq=sq2∧zGv fl ak l1=ak2)∨(side=1∧zD0 l1 sq=sq2∧zGv fl ak l0=ak2)
theorem HfS.st {base hb:Nat} {V:World} {l0 l1:List Pa} {tx:List Int} {side sq sq2 ak ak2 fl:Int} (h:HfS base V hb l0 l1 tx)(hl0:l0.length≤1000)(hl1:l1.length≤1000)(hs:StN side sq sq2 ak ak2 fl l0 l1):StQ base V hb side sq sq2 ak ak2 fl:=by
 obtain⟨b0,b1,v0,v1,_,h2,h3,h4,_⟩:=h;exact⟨b0,b1,v0,v1,l0,l1,h2,h3,h4,hl0,hl1,hs⟩
theorem zDh(bk:Bool):zDt [] bk=fdN∧Kd1 [] bk:=⟨rfl,fun h=>by cases h⟩
theorem chgN {base n1:Nat} {src0 dst0 sp dp sq ak sq2 ak2 fl:Int} {zm z:List Int} (hT0:TG src0 dst0 sp dp sq ak fl zm z)(q:Tu)(hq:TuB q)(hl:zm.length≤500)(hBm:Mt.By zm)(hsq:0≤sq∧sq≤4294967295)(hak:0≤ak∧ak≤4294967295)(hsq2:0≤sq2∧sq2≤4294967295)(hak2:0≤ak2∧ak2≤4294967295)(hfl:0≤fl∧fl≤255)(g hb:Nat)(f:Fl)(l0 l1:List Pa)(tx:List Int)(hl0:l0.length≤1000)(hl1:l1.length≤1000)(VQ:World→Prop)(src dst side:Int)(hsd:side=0∨side=1)(hst:StN side sq sq2 ak ak2 fl l0 l1)(so sd:Value)(bk:Bool)(hfn:zDt zm bk=fdN∧Kd1 zm bk)(t0 t1 t2 t3 t4 i0 i1 i2 i3 i4:Int)(ao ad:Option Addr)(co cd:Nat)(W:World)(hz:∀V,Later W V→TabR V)
  (hV:VQ W)(hL:∀A B,VQ A→Later A B→VQ B)(hS:∀(A B:World) (k:Nat) (cur:Array Value) (t:TypeId) (fz:Nat × Nat),VQ A→A.heap[k]? =some (.cells cur t fz)→AsT t→But (fun q=>q=k) A B→VQ B)
  (hH:∀V,VQ V→HfS base V hb l0 l1 tx)(hn:base≤n1∧n1≤W.heap.size)
  (hO:Ow n1 W (.slice ao 0 co) [])(hD:Ow n1 W (.slice ad z.length cd) (rwD 6 q.dst q.src q.dp q.sp z)):
  Calls Tryz.prog 356 #[.pointer (some ⟨hb,0,none⟩),.agg #[.pointer (some ⟨g,0,none⟩),.int .u8 0,.int .u16 0,.bool false,.int .u8 64,.int .u8 6,.int .u32 src,.int .u32 dst,so,sd,.int .i64 side,.pointer (some ⟨f.blk,0,none⟩),.bool bk,.int .u8 t0,.int .u32 t1,.int .u32 t2,.int .u16 t3,.int .u16 t4,.int .u8 i0,.int .u32 i1,.int .u32 i2,.int .u16 i3,.int .u16 i4],.agg #[.int .u8 0,.int .u16 0,.bool false,.int .u8 64,.int .u8 6,.int .u32 q.dst,.int .u32 q.src,.slice ao 0 co,.slice ad z.length cd]] W fun e w'=>ChT base n1 W w' 0 0 64 6 q false [] (fun y W'=>VQ W'∧TG q.dst q.src q.dp q.sp sq2 ak2 fl zm y) e:=by
 refine zJj hT0 q hq hl hl hBm hBm hsq hak hsq2 hak2 hfl g hb f.blk VQ VQ src dst side so sd bk t0 t1 t2 t3 t4 i0 i1 i2 i3 i4 ao ad co cd W hV hL hL (fun A B k cur t fz h1 h2 h3 h4=>hS A B k cur t fz h1 h2 (by rcases h3 with h|h;exact .inl h;exact .inr (.inr h)) h4) (fun V h=>(hH V h).st hl0 hl1 hst) hn hO hD ?_;intro V n0 aO cO am cm l hV0 hn0 hn0V hm
 refine(zU3 g hb f 0 0 64 src dst false so sd side bk t0 t1 t2 t3 t4 i0 i1 i2 i3 i4 q.dp q.sp sq ak fl 0 0 aO am zm.length cO cm V hsd (fun U lu=>(zCz _ zm bk U (hz U (l.trans lu)) hBm ((hm.later lu).rd) hfn.2).mono (fun e w' h=>⟨h.1.trans (by rw[hfn.1];rfl),h.2⟩))).mono ?_;rintro e w' ⟨rfl,l2⟩;exact⟨am,cm,rfl,Kgl.of_kg (KG.of_later l2),hL _ _ hV0 l2,hm.later l2⟩
theorem oF_tub:TuB oF:=by unfold TuB oF;simp
theorem zVo {nn:Nat} (h:1000≤nn∧nn≤1063):TuB (rF nn):=by unfold TuB rF;simp;omega
theorem passN(base g:Nat)(f:Fl)(hb nn:Nat)(st st2:Int)(ws:Nat→Nat)(ex:List Ex)(l0 l1:List Pa)(tx:List Int)(now tr nw side:Int)(bk:Bool)(q:Tu)(src dst sp dp sq ak sq2 ak2 fl:Int)(zm z:List Int)(sb:Value)(w:World)(h:VF base g w f hb nn st ws ex l0 l1 tx now tr)(hl0:l0.length≤1000)(hl1:l1.length≤1000)(hs:StN side sq sq2 ak ak2 fl l0 l1)(hBm:Mt.By zm)(hsq:0≤sq∧sq≤4294967295)(hak:0≤ak∧ak≤4294967295)(hsq2:0≤sq2∧sq2≤4294967295)(hak2:0≤ak2∧ak2≤4294967295)(hfl:0≤fl∧fl≤255)(hfn:zDt zm bk=fdN∧Kd1 zm bk)(hbs:base≤w.heap.size)(hT:TG src dst sp dp sq ak fl zm z)(hl:zm.length≤500)(nI:Nat)(hI:Ow nI w sb (tgB 64 src dst z))(hcm:zUj side bk)(hq:q=if bk then oF else rF nn)(hu:(⟨6,src,dst,sp,dp⟩:Tu)=if bk then rF nn else oF)(hnw:nw≤9)(htr:tr≤98)(hst:nx st bk fl=st2)(h2:st2≠0)(h9:9<tm 6 st2)(hz:∀W,KG base w W→TX W):
  Calls Tryz.prog 7 #[.pointer (some ⟨g,0,none⟩),.int .i64 nw,.int .i64 side,sb] w fun e w'=>TpQ base w w' nw now q (fun n v y W=>(∃f2,f2.blk=f.blk∧VF base g W f2 hb nn st2 ws ex l0 l1 tx n (tr+1+1))∧TG q.dst q.src q.dp q.sp sq2 ak2 fl zm y) e:=by
 have hqb:TuB q:=by
  obtain⟨s,_,hS,_,_⟩:=h.gf;cases bk
  ·rw[hq];exact zVo hS.n9
  ·rw[hq];exact oF_tub
 refine passF base g f hb nn st st2 ws ex l0 l1 tx now tr nw side bk q src dst sp dp sq ak fl zm z sb w (fun n y W=>(∃f2,f2.blk=f.blk∧VF base g W f2 hb nn st2 ws ex l0 l1 tx n (tr+1+1))∧TG q.dst q.src q.dp q.sp sq2 ak2 fl zm y) h hbs hT hl nI hI hcm hq hu hnw htr hst h2 h9 (fun W k=>(hz W k).1) ?hCH ?hCS ?hCL ?hCT
 case hCH=>
  intro n f2 n1 W so sd ao co ad cd hn1 hn2 hw1 hw2 k hfb hv ho hd
  exact chgN hT q hqb hl hBm hsq hak hsq2 hak2 hfl g hb f l0 l1 tx hl0 hl1 (fun W=>∃f2,f2.blk=f.blk∧VF base g W f2 hb nn st2 ws ex l0 l1 tx n (tr+1+1)) src dst side (by rcases hcm with⟨e,_⟩|⟨e,_⟩<;>simp[e]) hs so sd bk hfn 6 src dst sp dp 6 q.dst q.src q.dp q.sp ao ad co cd W (fun V l=>(hz V (k.trans (KG.of_later l))).2.2.1) ⟨f2,hfb,hv⟩ (fun A B ⟨f3,e3,h5⟩ l=>⟨f3,e3,h5.later l⟩) (fun A B k cur t fz ⟨f3,e3,h5⟩ hk ht hB=>⟨f3,e3,h5.aside hk ht hB⟩) (fun V ⟨f3,e3,h5⟩=>h5.hn) ⟨by omega,hw2⟩ ho hd
 case hCS=>
  rintro n y A B k cur t fz ⟨⟨f3,e3,h5⟩,h6⟩ hk ht hB;exact⟨⟨f3,e3,h5.aside hk (by rcases ht with h|h;exact .inl h;exact .inr (.inl h)) hB⟩,h6⟩
 case hCL=>
  rintro n y W ⟨_,h6⟩;have:=h6.len;omega
 case hCT=>
  rintro n y A B ⟨⟨f3,e3,h5⟩,h6⟩ l;exact⟨⟨f3,e3,h5.later l⟩,h6⟩
def ownN (m:Int) (l:List Ex):Nat:=(l.filter (fun x=>decide (x.ms=m))).length
def zJ6 (l:List Ex) (x:Ex):Int:=if rtX x=false then 2 else if l.any (alX x)=true then 10 else if 32≤l.length∨4≤ownN x.ms l then 9 else 0
def adLz (l:List Ex) (x:Ex):List Ex:=if zJ6 l x=0 then l++[x]else l
theorem zJu {l:List Ex} {x:Ex} (h:zJ6 l x≠0):adLz l x=l:=by unfold adLz;rw[if_neg h]
theorem zP8 {l:List Ex} {x:Ex} (h:zJ6 l x=0):adLz l x=l++[x]:=by unfold adLz;rw[if_pos h]
theorem zVp(base b:Nat)(v:Value)(l:List Ex)(x:Ex)(w:World)(hT:BL 174 base w b v l)(hl:l.length≤1000)(hbs:base≤w.heap.size):
  Calls Tryz.prog 388 #[.pointer (some ⟨b,0,none⟩),.agg (exc x).toArray] w fun e w'=>e= .returned (.int .i64 (zJ6 l x))∧BLq 174 base w w' b v (adLz l x):=by
 have HR9:=zAd (fun W=>zL9 x W);have lb0:Later w (w.alloc (.cells (exc x).toArray 172)):=bA _ _;have rb:=heap_alloc_new w (.cells (exc x).toArray 172);obtain⟨av,cv,rfl,_,_⟩:=(zBm hT.2.2).slice;have hli:(l.length:Int)≤1000:=by omega
 have HNE:Hid (some b≠Value.ownBlock (.slice av l.length cv)):=fun e=>hT.ne hT.2.1 (by decide) e.symm;go_enter Tryz.func388,Tryz.ntmps388;unfold exc at rb;have rk:=zAa rb;unfold exc;go_wp2_with fail;change Calls _ _ #[.agg (exc x).toArray] (w.alloc (.cells (exc x).toArray 172)) _;unfold exc at lb0;unfold exc;generalize w.alloc _=w0 at*;refine(HR9.out w0).mono ?_;rintro e w1 ⟨rfl,l1⟩;clear rk;cases hrt:rtX x with
 |false=>
  have hae:zJ6 l x=2:=by unfold zJ6;rw[if_pos hrt]
  have HAE:=zAd hae;have HAL:=zAd (zJu (l:=l) (x:=x) (by rw[hae];omega));have lz:=lb0.trans l1;clear hae;go_wp2_with fail;go_ret
  exact⟨by rw[HAE.out];rfl,by rw[HAL.out];exact BLq.same hT lz⟩
 | true =>
  have r1:=zAb l1 rb;have Lz:=lb0.trans l1;clear l1 rb lb0;go_upto_region 5 with fail;refine zAl (R:=But (fun _=>False)) 8 rfl (by kernel_rfl) ?_;have ld:Later w1 w1.drew:=Later.drew w1;have LD:=Lz.trans ld;have rd:=zAb ld r1;generalize w1.drew=Wd at*;have hTd:=hT.later LD;have ha:∀v1,But (fun _=>False) Wd v1→∀j,v1.cell? ⟨b,j,none⟩=#[Value.slice av l.length cv][j]? :=fun v1 hv=>zAa ((hv.block b (eS hTd.2.1) (fun h=>h)).trans hTd.2.1);have hb:∀v1,But (fun _=>False) Wd v1→∀j,v1.cell? ⟨w.heap.size,j,none⟩=#[Value.int .u8 x.pr,.int .u32 x.src,.int .u32 x.dst,.int .u16 x.sp,.int .u16 x.dp,.int .u32 x.host,.int .u16 x.hp,.int .i64 x.ms,.int .i64 x.dl][j]? :=fun v1 hv=>zAa ((hv.block w.heap.size (eS rd) (fun h=>h)).trans rd);refine tX (But.pre _) 0 ?_;refine tX (But.pre _) 1 ?_;refine tX (But.pre _) 2 ?_;refine tX (But.pre _) 3 ?_;refine tX (But.pre _) 4 ?_;clear ha hb;refine tO 5 ?_;refine zAj 395 #[.agg (exc x).toArray] (by unfold exc;go_simp) ?_;refine(zMa x Wd).mono ?_;rintro e w2 ⟨rfl,hw2⟩;have l2:Later Wd w2:=by rw[hw2];exact bA _ _
  have c2:w2.heap[Wd.heap.size]? =some (.cells (exc x).toArray 172):=by rw[hw2];exact heap_alloc_new Wd _
  clear hw2;refine⟨But.of l2,?_⟩;simp only[Act.put,sA,sB,sC];generalize Wd.heap.size=xb at*;have hT2:=hTd.later l2;refine tO 6 ?_;refine zAj 394 #[.slice av l.length cv,.func (.func 398) #[] #[.pointer (some ⟨xb,0,none⟩)]] (by go_simp) ?_;refine(zIy w2.heap.size 398 #[.pointer (some ⟨xb,0,none⟩)] _ l (alX x) w2 (zBm hT2.2.2) (Nat.le_refl _) (by omega) (enters_of Tryz.func398 (by kernel_rfl) rfl) (fun y _ W hW=>zQr y x xb W (zAb hW c2))).mono ?_;rintro e w3 ⟨rfl,l3⟩;have L3:=(LD.trans l2).trans l3;have r3:=zAb l3 (zAb l2 rd);refine⟨But.of l3,?_⟩;simp only[Act.put,sA,sB,sC];clear hT2 c2 l2 l3 hTd rd LD ld r1 Lz;refine tX (But.pre _) 7 ?_;refine tD ?_;have hT3:=hT.later L3;have k3:=zAa hT3.2.1;have rk:=zAa r3;cases hhs:l.any (alX x) with
  |true=>
   have hae:zJ6 l x=10:=by unfold zJ6;rw[hrt,hhs];simp
   have HAE:=zAd hae;have HAL:=zAd (zJu (l:=l) (x:=x) (by rw[hae];omega));clear hae rk hrt hhs k3;go_wp2_with fail;go_ret
   exact⟨by rw[HAE.out];rfl,by rw[HAL.out];exact BLq.same hT L3⟩
  | false=>
   by_cases hfull:32≤l.length
   ·have hae:zJ6 l x=9:=by unfold zJ6;rw[hrt,hhs,if_neg (by simp),if_neg (by simp),if_pos (.inl hfull)]
    have HAE:=zAd hae;have HAL:=zAd (zJu (l:=l) (x:=x) (by rw[hae];omega));have hf':(32:Int)≤l.length:=by omega
    clear hae rk hrt hhs;go_wp2_with fail;go_ret
    exact⟨by rw[HAE.out];rfl,by rw[HAL.out];exact BLq.same hT L3⟩
   ·have hf':¬(32:Int)≤l.length:=by omega
    have HOW:=zAd (zMb base b _ l x.ms w3 hT3 hl);have hon:(l.filter (fun y=>decide (y.ms=x.ms))).length=ownN x.ms l:=rfl;rw[hon]at HOW;clear hon;go_wp2_with fail;refine HOW.out.mono ?_;rintro e w4 ⟨rfl,l4⟩;have L4:=L3.trans l4;have r4:=zAb l4 r3;clear k3 rk HOW;by_cases hown:4≤ownN x.ms l
    ·have hae:zJ6 l x=9:=by unfold zJ6;rw[hrt,hhs,if_neg (by simp),if_neg (by simp),if_pos (.inr hown)]
     have HAE:=zAd hae;have HAL:=zAd (zJu (l:=l) (x:=x) (by rw[hae];omega));have hf2:(4:Int)≤ownN x.ms l:=by omega
     clear hae hrt hhs;go_wp2_with fail;go_ret
     exact⟨by rw[HAE.out];rfl,by rw[HAL.out];exact BLq.same hT L4⟩
    ·have hae:zJ6 l x=0:=by unfold zJ6;rw[hrt,hhs,if_neg (by simp),if_neg (by simp),if_neg (by omega)]
     have HAE:=zAd hae;have HAL:=zAd (zP8 (l:=l) (x:=x) hae);have hf2:¬(4:Int)≤ownN x.ms l:=by omega
     clear hae hrt hhs;go_upto_region 9 with fail;have lbx:=L4;have rb:=r4;clear L3 L4 r3 r4 hT3 l4;generalize hwx:w4=wx at*;clear hwx;refine zAl (R:=But (fun g=>g=b∨Value.ownBlock (.slice av l.length cv)=some g)) 11 rfl (by kernel_rfl) ?_;have ld:Later wx wx.drew:=Later.drew wx;have LD:=lbx.trans ld;have rd0:=zAb ld rb;generalize wx.drew=Wd at*;have hTd:=hT.later LD;have hnb:w.heap.size≠b:=fun e=>by have:=hT.blt;omega
     have hnv:Value.ownBlock (.slice av l.length cv)≠some w.heap.size:=fun e=>by have:=(hT.lt e).2;omega
     have ha:∀v1,But (fun g=>g=b∨Value.ownBlock (.slice av l.length cv)=some g) Wd v1→∀j,v1.cell? ⟨w.heap.size,j,none⟩=#[Value.int .u8 x.pr,.int .u32 x.src,.int .u32 x.dst,.int .u16 x.sp,.int .u16 x.dp,.int .u32 x.host,.int .u16 x.hp,.int .i64 x.ms,.int .i64 x.dl][j]? :=fun v1 hv=>zAa ((hv.block w.heap.size (eS rd0) (fun hE=>hE.elim hnb hnv)).trans rd0);refine tX (But.pre _) 0 ?_;refine tX (But.pre _) 1 ?_;refine tX (But.pre _) 2 ?_;refine tX (But.pre _) 3 ?_;refine tX (But.pre _) 5 ?_;clear ha;have kd:=zAa hTd.2.1;have l1:Later Wd (Wd.alloc (.cells (exc x).toArray 172)):=bA _ _;have LL:=LD.trans l1;have k1:=zAa (zAb l1 hTd.2.1);refine zBv 4 6 rfl rfl (by kernel_rfl) rfl rfl ?_ ?_
     ·clear k1
      unfold Oper.wp;go_simp;refine⟨But.refl _ _,?_⟩;clear kd;refine tO 6 ?_;unfold Oper.wp;go_simp;refine⟨But.of l1,?_⟩;change zAy _ _ _ _ _ _ _ _ (Wd.alloc (.cells (exc x).toArray 172));have hT1:=hT.later LL;obtain⟨g',cap',W6,hrun,hrow6,hbt6,hob6,hg6⟩:=app1E Wd 47 base (.slice av l.length cv) l x hTd.2.2 (Nat.le_trans hbs LD.size) (by omega);refine tO 7 ?_;refine zC9 (.tmp 38) (.tmp 40) 47 rfl _ _ rfl rfl _ W6 hrun ?_;have hb6:But (fun g=>g=b∨Value.ownBlock (.slice av l.length cv)=some g) (Wd.alloc (.cells (exc x).toArray 172)) W6:=⟨hg6.os,hg6.tape,hg6.output,hg6.size,fun k hk he=>hg6.block k hk (fun e=>he (.inr e.symm))⟩;refine⟨hb6,?_⟩;simp only[Act.put,sA,sB,sC];have h6:W6.heap[b]? =some (.cells #[.slice av l.length cv] 174 (0,0)):=(hg6.block b (eS hT1.2.1) HNE.out).trans hT1.2.1;have k6:=zAa h6;have f6:=zAc h6;refine tX (But.pre _) 8 ?_;refine tX (But.pre _) 9 ?_;refine tO 10 ?_;unfold Oper.wp;go_simp;generalize hV:W6.setCell ⟨b,0,none⟩ _=V;have hV3:=zAh h6 0 (.slice (some ⟨g',0,none⟩) (l.length+1) cap');rw[hV]at hV3;have hbV2:But (fun g=>g=b∨Value.ownBlock (.slice av l.length cv)=some g) W6 V:=by rw[←hV];exact(But.refl (fun g=>g=b∨Value.ownBlock (.slice av l.length cv)=some g) _).setCell (p:=⟨b,0,none⟩) (.inl rfl) _
      have hbV1:But (fun g=>g=b) W6 V:=by rw[←hV];exact(But.refl (fun g=>g=b) _).setCell (p:=⟨b,0,none⟩) rfl _
      refine⟨hbV2,?_⟩;clear hV k6 f6;refine tD ?_
      have hfin:BLq 174 base w V b (.slice av l.length cv) (l++[x]):=by
       refine⟨.slice (some ⟨g',0,none⟩) (l.length+1) cap',⟨hT.1,hV3,?_⟩,(But.of LL).trans (hb6.trans hbV2),?_⟩
       ·refine zC3 hrow6 hbV1 (fun g hg e=> ?_)
        rw[e]at hg;have e2:g'=b:=by simpa[Value.ownBlock]using hg
        obtain⟨q1,⟨q2,q3⟩|⟨g2,cap,cur,hv,hgb,hh,q⟩⟩:=hrow6
        ·simp at q2
        ·have e1:g'=g2:=by have:=congrArg Value.ownBlock hv;simpa[Value.ownBlock]using this
         rw[←e1,e2,h6]at hh
         simp at hh
       ·rcases hob6 with h|h
        ·exact .inl h.symm
        ·refine .inr (fun g hg=> ?_)
         have:g'=g:=by simpa[Value.ownBlock]using hg
         subst this;have:=LD.size;omega
      have HF:=zAd hfin;clear hfin;go_wp2_with fail;go_ret
      exact⟨by rw[HAE.out];rfl,by rw[HAL.out];exact HF.out⟩
     ·clear kd
      unfold Oper.wp;go_simp;refine⟨But.of l1,?_⟩;change zAy _ _ _ _ _ _ _ _ (Wd.alloc (.cells (exc x).toArray 172));refine tO 4 ?_;generalize hgg:Wd.alloc (.cells (exc x).toArray 172)=W1 at*;unfold Oper.wp;go_simp;refine⟨But.refl _ _,?_⟩;clear k1;subst hgg;have hT1:=hT.later LL;obtain⟨g',cap',W6,hrun,hrow6,hbt6,hob6,hg6⟩:=app1E Wd 47 base (.slice av l.length cv) l x hTd.2.2 (Nat.le_trans hbs LD.size) (by omega);refine tO 7 ?_;refine zC9 (.tmp 38) (.tmp 40) 47 rfl _ _ rfl rfl _ W6 hrun ?_;have hb6:But (fun g=>g=b∨Value.ownBlock (.slice av l.length cv)=some g) (Wd.alloc (.cells (exc x).toArray 172)) W6:=⟨hg6.os,hg6.tape,hg6.output,hg6.size,fun k hk he=>hg6.block k hk (fun e=>he (.inr e.symm))⟩;refine⟨hb6,?_⟩;simp only[Act.put,sA,sB,sC];have h6:W6.heap[b]? =some (.cells #[.slice av l.length cv] 174 (0,0)):=(hg6.block b (eS hT1.2.1) HNE.out).trans hT1.2.1;have k6:=zAa h6;have f6:=zAc h6;refine tX (But.pre _) 8 ?_;refine tX (But.pre _) 9 ?_;refine tO 10 ?_;unfold Oper.wp;go_simp;generalize hV:W6.setCell ⟨b,0,none⟩ _=V;have hV3:=zAh h6 0 (.slice (some ⟨g',0,none⟩) (l.length+1) cap');rw[hV]at hV3;have hbV2:But (fun g=>g=b∨Value.ownBlock (.slice av l.length cv)=some g) W6 V:=by rw[←hV];exact(But.refl (fun g=>g=b∨Value.ownBlock (.slice av l.length cv)=some g) _).setCell (p:=⟨b,0,none⟩) (.inl rfl) _
      have hbV1:But (fun g=>g=b) W6 V:=by rw[←hV];exact(But.refl (fun g=>g=b) _).setCell (p:=⟨b,0,none⟩) rfl _
      refine⟨hbV2,?_⟩;clear hV k6 f6;refine tD ?_
      have hfin:BLq 174 base w V b (.slice av l.length cv) (l++[x]):=by
       refine⟨.slice (some ⟨g',0,none⟩) (l.length+1) cap',⟨hT.1,hV3,?_⟩,(But.of LL).trans (hb6.trans hbV2),?_⟩
       ·refine zC3 hrow6 hbV1 (fun g hg e=> ?_)
        rw[e]at hg;have e2:g'=b:=by simpa[Value.ownBlock]using hg
        obtain⟨q1,⟨q2,q3⟩|⟨g2,cap,cur,hv,hgb,hh,q⟩⟩:=hrow6
        ·simp at q2
        ·have e1:g'=g2:=by have:=congrArg Value.ownBlock hv;simpa[Value.ownBlock]using this
         rw[←e1,e2,h6]at hh
         simp at hh
       ·rcases hob6 with h|h
        ·exact .inl h.symm
        ·refine .inr (fun g hg=> ?_)
         have:g'=g:=by simpa[Value.ownBlock]using hg
         subst this;have:=LD.size;omega
      have HF:=zAd hfin;clear hfin;go_wp2_with fail;go_ret
      exact⟨by rw[HAE.out];rfl,by rw[HAL.out];exact HF.out⟩
def bookS (s:Gf) (b:Nat) (v:Value) (l:List Ex):Gf:= { s with gb:=b,ve:=v,ex:=l }
theorem GF.bookS {base g:Nat} {W:World} {s:Gf} (h:GF base W g s)(b:Nat)(v:Value)(l:List Ex)(hl:BL 174 base W b v l):GF base (W.setCell ⟨g,7,none⟩ (.pointer (some ⟨b,0,none⟩))) g (bookS s b v l):=by
 have hb:But (fun q=>q=g) W (W.setCell ⟨g,7,none⟩ (.pointer (some ⟨b,0,none⟩))):=(But.refl (fun q=>q=g) _).setCell (p:=⟨g,7,none⟩) (show _=_ from rfl) _;have hE:=TE.one h.gc;exact⟨h.bs,zAh h.gc 7 (.pointer (some ⟨b,0,none⟩)),⟨h.rl.1,hE.keep hb h.rl.2.1 (zAr (by decide) _ _),hE.own hb h.rl.2.2 (zAr (by decide))⟩,hE.table hb h.tb (zAr (by decide)) (zAr (by decide)),⟨hl.1,hE.keep hb hl.2.1 (zAr (by decide) _ _),hE.own hb hl.2.2 (zAr (by decide))⟩,hE.keep hb h.fl (zBw _ _),hE.keep hb h.pl (zBw _ _),h.ne,h.bf,h.fm,h.pm,fun f hf=>⟨(h.fb f hf).1,hE.keep hb (h.fb f hf).2 (zAr (by decide) _ _)⟩,fun p hp=>⟨(h.pb p hp).1,(h.pb p hp).2.1,hE.keep hb (h.pb p hp).2.2 (zAr (by decide) _ _)⟩⟩
theorem BL.baseX {base base':Nat} {W:World} {b:Nat} {v:Value} {l:List Ex} (h:BL 174 base W b v l)(k:base'≤base):BL 174 base' W b v l:=
 ⟨Nat.le_trans k h.1,h.2.1,BL.mono' (t:=0) (b:=0) h.2.2 k⟩
theorem zNo(base g:Nat)(s:Gf)(x:Ex)(q:Nat)(w:World)(h:GF base w g s)(hq:w.heap[q]? =some (.cells (exc x).toArray 172 (0,0)))(hbs:base≤w.heap.size)(hl:s.ex.length≤1000)(hok:zJ6 s.ex x=0):
  Calls Tryz.prog 374 #[.pointer (some ⟨g,0,none⟩),.slice (some ⟨q,0,none⟩) 1 1] w fun e w'=>e= .returned (.bool true)∧But (fun b=>b=g) w w'∧∃b v,GF base w' g (bookS s b v (s.ex++[x])):=by
 have k0:=zAa h.gc;unfold gfc at k0;have hgl:g<w.heap.size:=(eS h.gc);have HFK:=zAd (zQv base s.gb s.ve s.ex w h.bl hl);have HQ:=zAd hq;have HG:=zAd h;have HOK:=zAd hok;clear hq h hok;go_enter Tryz.func374,Tryz.ntmps374;go_wp2_with fail;refine HFK.out.mono ?_;rintro e w1 ⟨l1,b1,v1,rfl,hb1⟩;have l1':Later w w1:=l1;have H1:=zAd (HG.out.later l1');have Q1:=zAd (zAb l1' HQ.out)
 have hgb:b1≠g:=by
  have:=hb1.1;omega
 have HB1:=zAd hb1;have hs1:w.heap.size≤w1.heap.size:=l1'.size;clear k0 HFK l1 hb1 HQ;go_upto_region 3 with fail;go_loopw [15] (fun iv wr=>(iv= .int .i64 0∧wr=w1)∨(iv= .int .i64 1∧Later w wr∧(∃v,BL 174 base wr b1 v (s.ex++[x]))∧GF base wr g s)) (fun iv _=>1-(intOf iv).toNat)
 case atStart=>exact .inl ⟨rfl,rfl⟩
 case round=>
  rcases hrel with⟨rfl,hw⟩|⟨rfl,hM,⟨v2,hB2⟩,hG2⟩
  ·subst hw
   have kq:=zAa Q1.out;unfold exc at kq;have HAD:=zAd (fun W (l:Later wr W)=>zVp w.heap.size b1 v1 s.ex x W (HB1.out.later l) hl (Nat.le_trans hs1 l.size));have la:=zAg wr (.cells #[.int .u8 x.pr,.int .u32 x.src,.int .u32 x.dst,.int .u16 x.sp,.int .u16 x.dp,.int .u32 x.host,.int .u16 x.hp,.int .i64 x.ms,.int .i64 x.dl] 172);have C2:=zAd (heap_alloc_new wr (.cells #[.int .u8 x.pr,.int .u32 x.src,.int .u32 x.dst,.int .u16 x.sp,.int .u16 x.dp,.int .u32 x.host,.int .u16 x.hp,.int .i64 x.ms,.int .i64 x.dl] 172));have LA:=zAd la;clear la;go_upto_region 5 with fail;change Code.wp _ _ _ _ (wr.alloc (.cells #[.int .u8 x.pr,.int .u32 x.src,.int .u32 x.dst,.int .u16 x.sp,.int .u16 x.dp,.int .u32 x.host,.int .u16 x.hp,.int .i64 x.ms,.int .i64 x.dl] 172));generalize wr.alloc (.cells #[.int .u8 x.pr,.int .u32 x.src,.int .u32 x.dst,.int .u16 x.sp,.int .u16 x.dp,.int .u32 x.host,.int .u16 x.hp,.int .i64 x.ms,.int .i64 x.dl] 172)=w2 at*;generalize hgx:wr.heap.size=gx at C2⊢;clear kq;have k2:=zAa C2.out;have HA2:=zAd (HAD.out w2 LA.out);unfold exc at HA2;rw[HOK.out]at HA2;go_wp2_with fail;refine HA2.out.mono ?_;rintro e w3 ⟨rfl,v3,hb3,hbut,_⟩
   have LB:Later w w3:=Below.trans (l1'.trans LA.out) (hbut.below (Nat.le_trans hs1 LA.out.size) (fun k hk e=>by
    rcases e with e|e
    ·have:=HB1.out.1;omega
    ·have:=(HB1.out.lt e).1;omega))
   have HREL:Hid ((Value.int .i64 ((0:Int)+1)= .int .i64 0∧w3=wr)∨(Value.int .i64 ((0:Int)+1)= .int .i64 1∧Later w w3∧(∃v,BL 174 base w3 b1 v (s.ex++[x]))∧GF base w3 g s)):= .inr ⟨rfl,LB,⟨v3,by rw[←zP8 HOK.out];exact hb3.baseX hbs⟩,HG.out.later LB⟩;clear k2 hbut HA2;go_wp2_with fail;go_roundw
   case rel=>exact HREL.out
   case measure=>decide
  ·have k0:=zAa hG2.gc
   have f0:=zAc hG2.gc;unfold gfc at k0;have hbut:But (fun b=>b=g) wr (wr.setCell ⟨g,7,none⟩ (.pointer (some ⟨b1,0,none⟩))):=(But.refl (fun b=>b=g) _).setCell (p:=⟨g,7,none⟩) (show _=_ from rfl) _;have HF:=zAd (hG2.bookS b1 v2 (s.ex++[x]) hB2);have HM:=zAd ((But.of hM).trans hbut);clear hbut hM hB2 hG2;go_wp2_with fail;go_ret
   exact⟨rfl,HM.out,b1,v2,HF.out⟩
theorem Ow.butT {base:Nat} {E:Nat→Prop} {W W':World} {v:Value} {zs:List Int} (h:Ow base W v zs)(hb:But E W W')(hE:∀g cur,W.heap[g]? =some (.cells cur 5 (0,0))→¬E g):Ow base W' v zs:=by
 rcases h with h|⟨g,cap,cur,e,hg,hl,hc,hm,hh,ht⟩
 ·exact .inl h
 ·exact .inr ⟨g,cap,cur,e,hg,hl,hc,hm,(hb.block g (eS hh) (hE g cur hh)).trans hh,ht⟩
theorem sadd_txt(base b:Nat)(v:Value)(l:List Pa)(s was:Int)(tv:Value)(zs:List Int)(w:World)(hT:SL 479 base w b v l)(hbs:base≤w.heap.size)(hs:0≤s∧s≤4294967295)(hI:Rd w.heap.size w tv zs)(ha:adS l s was zs.length=0):
  Calls Tryz.prog 373 #[.pointer (some ⟨b,0,none⟩),.int .u32 s,.int .i64 was,tv] w fun e w'=>e= .returned (.int .i64 0)∧∃ta tc,SLq 479 base w w' b v (l++[npP l s was zs.length ta tc])∧Ow base w' (.slice ta zs.length tc) zs:=by
 obtain⟨h1,h2,h3,h8⟩:=adS_yes ha;obtain⟨at0,ct0,rfl,_,_⟩:=hI.slice;have k0:=zAa hT.2.1;obtain⟨av,cv,rfl,_,_⟩:=(zBx hT.2.2).slice;have HMB:=zAd (zId was w);have HMT:=zAd (zId zs.length w);have HPS:=zAd (zRk base b _ l s w hT (by omega));have HSH:=zAd (zUx base b _ l w hT (by omega));rw[h1]at HMB;rw[h2]at HMT;rw[h3]at HPS;have hw:=zUy h1;have hz:=zUy h2;have h8':¬(8:Int)≤l.length:=by omega
 have hsr:=shf_rng l;have HCL:=zAd (fun W (lw:Later w W)=>zAx (.slice at0 zs.length ct0) zs W (by omega) (Rd.later hI lw));have HNE:Hid (some b≠Value.ownBlock (.slice av l.length cv)):=fun e=>hT.ne hT.2.1 (by decide) e.symm;obtain⟨hs1,hs2⟩:=hs;obtain⟨hw1,hw2⟩:=hw;obtain⟨hz1,hz2⟩:=hz;obtain⟨hr1,hr2⟩:=hsr;clear h1 h2 h3 ha hI;go_enter Tryz.func373,Tryz.ntmps373;go_wp2_with fail;refine HMB.out.mono ?_;rintro e w1 ⟨rfl,rfl⟩;go_wp2_with fail;refine HMT.out.mono ?_;rintro e w1 ⟨rfl,rfl⟩;go_wp2_with fail;refine HPS.out.mono ?_;rintro e w1 ⟨rfl,rfl⟩;go_wp2_with fail;refine HSH.out.mono ?_;rintro e wx ⟨rfl,lx⟩;clear k0 HMB HMT HPS HSH;go_upto_region 8 with fail;refine zAl (R:=But (fun g=>g=b∨Value.ownBlock (.slice av l.length cv)=some g)) 26 rfl (by kernel_rfl) ?_;have ld:Later wx wx.drew:=Later.drew wx;have LD:=lx.trans ld;generalize wx.drew=Wd at*;have hTd:=hT.later LD;refine tX (But.pre _) 0 ?_;refine tX (But.pre _) 1 ?_;refine tX (But.pre _) 2 ?_;refine tX (But.pre _) 3 ?_;refine tX (But.pre _) 5 ?_;refine tX (But.pre _) 6 ?_;refine tX (But.pre _) 7 ?_;refine tX (But.pre _) 8 ?_;refine tX (But.pre _) 9 ?_;refine tX (But.pre _) 10 ?_;refine tX (But.pre _) 11 ?_;refine tX (But.pre _) 12 ?_;refine tX (But.pre _) 13 ?_;refine tX (But.pre _) 14 ?_;refine tX (But.pre _) 15 ?_;refine tX (But.pre _) 16 ?_;refine tX (But.pre _) 17 ?_;refine tX (But.pre _) 18 ?_;have e1:(s+was % 4294967296) % 4294967296=(s+was) % 4294967296:=by omega
 have e2:((s+shf l) % 4294967296+(zs.length:Int) % 4294967296) % 4294967296=((s+shf l) % 4294967296+(zs.length:Int)) % 4294967296:=by omega
 simp only[IntKind.wrap_u32,e1,e2];clear e1 e2;have kd:=zAa hTd.2.1;refine zBv 4 19 rfl rfl (by kernel_rfl) rfl rfl ?_ ?_
 ·unfold Oper.wp
  go_simp;refine⟨But.refl _ _,?_⟩;clear kd;refine tO 19 ?_;refine zAj 71 #[.slice at0 zs.length ct0] (by go_simp) ?_;refine(HCL.out Wd LD).mono ?_;rintro e W1 ⟨ta,tc,rfl,hOw,hbc⟩;have lc:Later Wd W1:=hbc;refine⟨But.of lc,?_⟩;simp only[Act.put,sA,sB,sC];have LC:=LD.trans lc;have hT1:=hT.later LC;have HOW:=zAd (hOw.mono (Nat.le_trans hbs LD.size):Ow base W1 (.slice ta zs.length tc) zs);clear hOw;refine tX (But.pre _) 20 ?_;refine tO 21 ?_;unfold Oper.wp;go_simp;have la:Later W1 (W1.alloc (.cells (pac (npP l s was zs.length ta tc)).toArray 509)):=bA _ _;have LL:=LC.trans la;refine⟨But.of la,?_⟩;change zAy _ _ _ _ _ _ _ _ (W1.alloc (.cells (pac (npP l s was zs.length ta tc)).toArray 509));obtain⟨g',cap',W6,hrun,hrow6,hbt6,hob6,hg6⟩:=app1P W1 477 base (.slice av l.length cv) l (npP l s was zs.length ta tc) hT1.2.2 (Nat.le_trans hbs LC.size) (by omega);have hT2:=hT.later LL;refine tO 22 ?_;refine zC9 (.tmp 43) (.tmp 60) 477 rfl _ _ rfl rfl _ W6 hrun ?_;have hb6:But (fun g=>g=b∨Value.ownBlock (.slice av l.length cv)=some g) (W1.alloc (.cells (pac (npP l s was zs.length ta tc)).toArray 509)) W6:=⟨hg6.os,hg6.tape,hg6.output,hg6.size,fun k hk he=>hg6.block k hk (fun e=>he (.inr e.symm))⟩;refine⟨hb6,?_⟩;simp only[Act.put,sA,sB,sC];have h6:W6.heap[b]? =some (.cells #[.slice av l.length cv] 479 (0,0)):=(hg6.block b (eS hT2.2.1) HNE.out).trans hT2.2.1;have k6:=zAa h6;have f6:=zAc h6;refine tX (But.pre _) 23 ?_;refine tX (But.pre _) 24 ?_;refine tO 25 ?_
  unfold Oper.wp;go_simp;generalize hV:W6.setCell ⟨b,0,none⟩ _=V;have hV3:=zAh h6 0 (.slice (some ⟨g',0,none⟩) (l.length+1) cap');rw[hV]at hV3;have hbV2:But (fun g=>g=b∨Value.ownBlock (.slice av l.length cv)=some g) W6 V:=by rw[←hV];exact(But.refl (fun g=>g=b∨Value.ownBlock (.slice av l.length cv)=some g) _).setCell (p:=⟨b,0,none⟩) (.inl rfl) _
  have hbV1:But (fun g=>g=b) W6 V:=by rw[←hV];exact(But.refl (fun g=>g=b) _).setCell (p:=⟨b,0,none⟩) rfl _
  refine⟨hbV2,?_⟩;clear hV k6 f6;refine tD ?_
  have hfin:SLq 479 base w1 V b (.slice av l.length cv) (l++[npP l s was zs.length ta tc]):=by
   refine⟨.slice (some ⟨g',0,none⟩) (l.length+1) cap',⟨hT.1,hV3,?_⟩,(But.of LL).trans (hb6.trans hbV2),?_⟩
   ·refine zJe hrow6 hbV1 (fun g hg e=> ?_)
    rw[e]at hg;have e2:g'=b:=by simpa[Value.ownBlock]using hg
    obtain⟨q1,⟨q2,q3⟩|⟨g2,cap,cur,hv,hgb,hh,q⟩⟩:=hrow6
    ·simp at q2
    ·have e1:g'=g2:=by have:=congrArg Value.ownBlock hv;simpa[Value.ownBlock]using this
     rw[←e1,e2,h6]at hh
     simp at hh
   ·rcases hob6 with h|h
    ·exact .inl h.symm
    ·refine .inr (fun g hg=> ?_)
     have:g'=g:=by simpa[Value.ownBlock]using hg
     subst this;have:=LC.size;omega
  have HF:=zAd hfin;have HTX:=zAd (((HOW.out.later la).butT hb6 (fun g cur hg e=>by rcases e with e|e;(· rw[e,hT2.2.1]at hg;simp at hg);(· exact hT2.ne hg (by decide) e))).butT hbV1 (fun g cur hg e=>by rw[e,h6]at hg;simp at hg));clear hfin;go_wp2_with fail;go_ret
  exact⟨rfl,ta,tc,HF.out,HTX.out⟩
 ·clear kd
  refine zAj 71 #[.slice at0 zs.length ct0] (by go_simp) ?_;refine(HCL.out Wd LD).mono ?_;rintro e W1 ⟨ta,tc,rfl,hOw,hbc⟩;have lc:Later Wd W1:=hbc;refine⟨But.of lc,?_⟩;simp only[Act.put,sA,sB,sC];have LC:=LD.trans lc;have hT1:=hT.later LC;have HOW:=zAd (hOw.mono (Nat.le_trans hbs LD.size):Ow base W1 (.slice ta zs.length tc) zs);clear hOw;have kd:=zAa hT1.2.1;refine tX (But.pre _) 20 ?_;refine zBv 4 21 rfl rfl (by kernel_rfl) rfl rfl ?_ ?_
  ·unfold Oper.wp
   go_simp;refine⟨But.refl _ _,?_⟩;clear kd;refine tO 21 ?_;unfold Oper.wp;go_simp;have la:Later W1 (W1.alloc (.cells (pac (npP l s was zs.length ta tc)).toArray 509)):=bA _ _;have LL:=LC.trans la;refine⟨But.of la,?_⟩;change zAy _ _ _ _ _ _ _ _ (W1.alloc (.cells (pac (npP l s was zs.length ta tc)).toArray 509));obtain⟨g',cap',W6,hrun,hrow6,hbt6,hob6,hg6⟩:=app1P W1 477 base (.slice av l.length cv) l (npP l s was zs.length ta tc) hT1.2.2 (Nat.le_trans hbs LC.size) (by omega);have hT2:=hT.later LL;refine tO 22 ?_;refine zC9 (.tmp 43) (.tmp 60) 477 rfl _ _ rfl rfl _ W6 hrun ?_;have hb6:But (fun g=>g=b∨Value.ownBlock (.slice av l.length cv)=some g) (W1.alloc (.cells (pac (npP l s was zs.length ta tc)).toArray 509)) W6:=⟨hg6.os,hg6.tape,hg6.output,hg6.size,fun k hk he=>hg6.block k hk (fun e=>he (.inr e.symm))⟩;refine⟨hb6,?_⟩;simp only[Act.put,sA,sB,sC];have h6:W6.heap[b]? =some (.cells #[.slice av l.length cv] 479 (0,0)):=(hg6.block b (eS hT2.2.1) HNE.out).trans hT2.2.1;have k6:=zAa h6;have f6:=zAc h6;refine tX (But.pre _) 23 ?_;refine tX (But.pre _) 24 ?_;refine tO 25 ?_;unfold Oper.wp;go_simp;generalize hV:W6.setCell ⟨b,0,none⟩ _=V;have hV3:=zAh h6 0 (.slice (some ⟨g',0,none⟩) (l.length+1) cap');rw[hV]at hV3;have hbV2:But (fun g=>g=b∨Value.ownBlock (.slice av l.length cv)=some g) W6 V:=by rw[←hV];exact(But.refl (fun g=>g=b∨Value.ownBlock (.slice av l.length cv)=some g) _).setCell (p:=⟨b,0,none⟩) (.inl rfl) _
   have hbV1:But (fun g=>g=b) W6 V:=by rw[←hV];exact(But.refl (fun g=>g=b) _).setCell (p:=⟨b,0,none⟩) rfl _
   refine⟨hbV2,?_⟩;clear hV k6 f6;refine tD ?_
   have hfin:SLq 479 base w1 V b (.slice av l.length cv) (l++[npP l s was zs.length ta tc]):=by
    refine⟨.slice (some ⟨g',0,none⟩) (l.length+1) cap',⟨hT.1,hV3,?_⟩,(But.of LL).trans (hb6.trans hbV2),?_⟩
    ·refine zJe hrow6 hbV1 (fun g hg e=> ?_)
     rw[e]at hg;have e2:g'=b:=by simpa[Value.ownBlock]using hg
     obtain⟨q1,⟨q2,q3⟩|⟨g2,cap,cur,hv,hgb,hh,q⟩⟩:=hrow6
     ·simp at q2
     ·have e1:g'=g2:=by have:=congrArg Value.ownBlock hv;simpa[Value.ownBlock]using this
      rw[←e1,e2,h6]at hh
      simp at hh
    ·rcases hob6 with h|h
     ·exact .inl h.symm
     ·refine .inr (fun g hg=> ?_)
      have:g'=g:=by simpa[Value.ownBlock]using hg
      subst this;have:=LC.size;omega
   have HF:=zAd hfin;have HTX:=zAd (((HOW.out.later la).butT hb6 (fun g cur hg e=>by rcases e with e|e;(· rw[e,hT2.2.1]at hg;simp at hg);(· exact hT2.ne hg (by decide) e))).butT hbV1 (fun g cur hg e=>by rw[e,h6]at hg;simp at hg));clear hfin;go_wp2_with fail;go_ret
   exact⟨rfl,ta,tc,HF.out,HTX.out⟩
  ·clear kd
   unfold Oper.wp;go_simp;have la:Later W1 (W1.alloc (.cells (pac (npP l s was zs.length ta tc)).toArray 509)):=bA _ _;have LL:=LC.trans la;refine⟨But.of la,?_⟩;change zAy _ _ _ _ _ _ _ _ (W1.alloc (.cells (pac (npP l s was zs.length ta tc)).toArray 509));refine tO 4 ?_;have kd:=zAa (zAb la hT1.2.1);generalize hgg:W1.alloc (.cells (pac (npP l s was zs.length ta tc)).toArray 509)=Wz at*;unfold Oper.wp;go_simp;refine⟨But.refl _ _,?_⟩;clear kd;subst hgg;obtain⟨g',cap',W6,hrun,hrow6,hbt6,hob6,hg6⟩:=app1P W1 477 base (.slice av l.length cv) l (npP l s was zs.length ta tc) hT1.2.2 (Nat.le_trans hbs LC.size) (by omega);have hT2:=hT.later LL;refine tO 22 ?_;refine zC9 (.tmp 43) (.tmp 60) 477 rfl _ _ rfl rfl _ W6 hrun ?_;have hb6:But (fun g=>g=b∨Value.ownBlock (.slice av l.length cv)=some g) (W1.alloc (.cells (pac (npP l s was zs.length ta tc)).toArray 509)) W6:=⟨hg6.os,hg6.tape,hg6.output,hg6.size,fun k hk he=>hg6.block k hk (fun e=>he (.inr e.symm))⟩;refine⟨hb6,?_⟩;simp only[Act.put,sA,sB,sC];have h6:W6.heap[b]? =some (.cells #[.slice av l.length cv] 479 (0,0)):=(hg6.block b (eS hT2.2.1) HNE.out).trans hT2.2.1;have k6:=zAa h6;have f6:=zAc h6;refine tX (But.pre _) 23 ?_;refine tX (But.pre _) 24 ?_;refine tO 25 ?_;unfold Oper.wp;go_simp;generalize hV:W6.setCell ⟨b,0,none⟩ _=V;have hV3:=zAh h6 0 (.slice (some ⟨g',0,none⟩) (l.length+1) cap');rw[hV]at hV3
   have hbV2:But (fun g=>g=b∨Value.ownBlock (.slice av l.length cv)=some g) W6 V:=by rw[←hV];exact(But.refl (fun g=>g=b∨Value.ownBlock (.slice av l.length cv)=some g) _).setCell (p:=⟨b,0,none⟩) (.inl rfl) _
   have hbV1:But (fun g=>g=b) W6 V:=by rw[←hV];exact(But.refl (fun g=>g=b) _).setCell (p:=⟨b,0,none⟩) rfl _
   refine⟨hbV2,?_⟩;clear hV k6 f6;refine tD ?_
   have hfin:SLq 479 base w1 V b (.slice av l.length cv) (l++[npP l s was zs.length ta tc]):=by
    refine⟨.slice (some ⟨g',0,none⟩) (l.length+1) cap',⟨hT.1,hV3,?_⟩,(But.of LL).trans (hb6.trans hbV2),?_⟩
    ·refine zJe hrow6 hbV1 (fun g hg e=> ?_)
     rw[e]at hg;have e2:g'=b:=by simpa[Value.ownBlock]using hg
     obtain⟨q1,⟨q2,q3⟩|⟨g2,cap,cur,hv,hgb,hh,q⟩⟩:=hrow6
     ·simp at q2
     ·have e1:g'=g2:=by have:=congrArg Value.ownBlock hv;simpa[Value.ownBlock]using this
      rw[←e1,e2,h6]at hh
      simp at hh
    ·rcases hob6 with h|h
     ·exact .inl h.symm
     ·refine .inr (fun g hg=> ?_)
      have:g'=g:=by simpa[Value.ownBlock]using hg
      subst this;have:=LC.size;omega
   have HF:=zAd hfin;have HTX:=zAd (((HOW.out.later la).butT hb6 (fun g cur hg e=>by rcases e with e|e;(· rw[e,hT2.2.1]at hg;simp at hg);(· exact hT2.ne hg (by decide) e))).butT hbV1 (fun g cur hg e=>by rw[e,h6]at hg;simp at hg));clear hfin;go_wp2_with fail;go_ret
   exact⟨rfl,ta,tc,HF.out,HTX.out⟩
theorem zVq(base a:Nat)(v:Value)(lp:List Pa)(w:World)(h1:SL 479 base w a v lp)(hl:lp.length≤5000):
  Calls Tryz.prog 372 #[.pointer (some ⟨a,0,none⟩)] w fun e w'=>Later w w'∧∃g v',e= .returned (.pointer (some ⟨g,0,none⟩))∧SL 479 w.heap.size w' g v' lp:=by
 have k0:=zAa h1.2.1;have HC:=zAd (zRh base v lp w h1.2.2 hl);clear h1;go_enter Tryz.func372,Tryz.ntmps372;go_wp2_with fail;refine HC.out.mono ?_;rintro e w1 ⟨l1,v',rfl,ho⟩;have la:Later w1 (w1.alloc (.cells #[v'] 479)):=bA _ _;have hn:=heap_alloc_new w1 (.cells #[v'] 479);have hsz:w.heap.size≤w1.heap.size:=Below.size l1;obtain⟨xa,xc,rfl,_,_⟩:=(zBx ho).slice;have HO:=zAd (zFd ho la);clear k0 ho;go_wp2_with fail;go_ret
 exact⟨l1.trans la,_,_,rfl,hsz,hn,HO.out⟩
theorem zRw(base b:Nat)(v:Value)(s was:Int)(w:World)(hT:SL 479 base w b v []):
  Calls Tryz.prog 362 #[.pointer (some ⟨b,0,none⟩),.int .u32 s,.int .i64 was] w fun e w'=>e= .returned (.tuple #[.slice none 0 0,.bool false])∧w'=w:=by
 obtain⟨za,zc,hv,_,_⟩:=(zBx hT.2.2).slice;simp only[List.length_nil]at hv;subst hv;have k0:=zAa hT.2.1;go_enter Tryz.func362,Tryz.ntmps362;go_wp2_with fail;go_loopw [17] (fun i wr=>i= .int .i64 0∧wr=w) (fun i _=>0)
 case atStart=>exact⟨rfl,rfl⟩
 case round=>
  obtain⟨rfl,rfl⟩:=hrel;go_wp2_with fail;exact bodyPost_ret (v:= .tuple #[.slice none 0 0,.bool false]) (by simp[results,Tryz.results362,go_sem]) rfl ⟨rfl,rfl⟩
theorem zNp(a b:Int)(w:World):Calls Tryz.prog 371 #[.agg #[.int .u32 a,.int .u32 b]] w fun e w'=>e= .returned (.int .i64 ((b-a) % 4294967296))∧Later w w':=by
 have la:Later w (w.alloc (.cells #[.int .u32 a,.int .u32 b] 507)):=bA _ _;have hn:=heap_alloc_new w (.cells #[.int .u32 a,.int .u32 b] 507);go_enter Tryz.func371,Tryz.ntmps371;go_upto_region 1 with fail;generalize w.alloc _=w0 at*;have k0:=zAa hn;go_wp2_with fail;go_ret
 exact⟨by first|rfl|(simp;done)|(simp;omega),la⟩
theorem zVr(base a:Nat)(va:Value)(p:Pa)(s wz:Int)(zs:List Int)(w:World)(h1:SL 479 base w a va [p])(hws:p.ws=s)(hwe:p.we=(s+wz) % 4294967296)(hs:0≤s∧s≤4294967295)(hw:1≤wz∧wz≤128)(hO:Ow base w (.slice p.ta p.tn p.tc) zs)(hz:zs.length≤1000):
  Calls Tryz.prog 362 #[.pointer (some ⟨a,0,none⟩),.int .u32 s,.int .i64 wz] w fun e w'=>Later w w'∧∃av cv,e= .returned (.tuple #[.slice av zs.length cv,.bool true])∧Ow w.heap.size w' (.slice av zs.length cv) zs:=by
 have k0:=zAa h1.2.1;have HO:=zAd hO;obtain⟨g,off,cp,rfl,_,_,hgn,hcs⟩:=(zBx h1.2.2).cells (by simp);have d0:=hcs 0 (by simp) 0 (by omega);have d1:=hcs 0 (by simp) 1 (by omega);have d2:=hcs 0 (by simp) 2 (by omega);have d3:=hcs 0 (by simp) 3 (by omega);have d4:=hcs 0 (by simp) 4 (by omega);simp only[pac,List.getElem_cons_zero,List.getElem?_cons_zero,List.getElem?_cons_succ,Nat.add_zero,Nat.zero_mul]at d0 d1 d2 d3 d4;rw[hws]at d0;rw[hwe]at d1;have HLN:=zAd (zNp s ((s+wz) % 4294967296));rw[show ((s+wz) % 4294967296-s) % 4294967296=wz by omega]at HLN;generalize hwe2:(s+wz) % 4294967296=we at*;clear hcs hO hws hwe hwe2 h1;go_enter Tryz.func362,Tryz.ntmps362;go_wp2_with fail;clear k0;go_loopw [17] (fun i wr=>i= .int .i64 0∧wr=w) (fun i _=>0)
 case atStart=>exact⟨rfl,rfl⟩
 case round=>
  obtain⟨rfl,hwr⟩:=hrel;obtain rfl:=hwr.symm;have la:Later w (w.alloc (.cells #[.int .u32 s,.int .u32 we,.int .u32 p.is,.int .u32 p.ie,.slice p.ta p.tn p.tc] 509)):=bA _ _;have hn1:=heap_alloc_new w (.cells #[.int .u32 s,.int .u32 we,.int .u32 p.is,.int .u32 p.ie,.slice p.ta p.tn p.tc] 509);go_upto_region 6 with fail;generalize hw1:w.alloc _=w1 at*;have K1:=zAa hn1;generalize w.heap.size=pb at*;clear d0 d1 d2 d3 d4 hw1;have hb1:(s==s)=true:=by simp
  go_wp2_with fail;refine(HLN.out w1).mono ?_;rintro e w2 ⟨rfl,l2⟩;have K2:=zAa (zAb l2 hn1);clear K1;have hb2:(wz==wz)=true:=by simp
  have HCL:=zAd (zAx (.slice p.ta p.tn p.tc) zs w2 (by omega) ((HO.out.later (la.trans l2)).rd));go_wp2_with fail;refine HCL.out.mono ?_;rintro e w3 ⟨xa,xc,rfl,hOw,hb3⟩;have L3:Later w w3:=(la.trans l2).trans hb3;clear K2;go_wp2_with fail;exact bodyPost_ret (v:= .tuple #[.slice xa zs.length xc,.bool true]) (by simp[results,Tryz.results362,go_sem]) rfl ⟨L3,xa,xc,rfl,hOw.mono (la.trans l2).size⟩
theorem srE_6:SrE 6 16909060:=fun w=>by kernel_rfl
def KRf (base g:Nat) (L:List Nat) (a b:World):Prop:=Kgl base a b∧(∀j,j≠7→b.cell? ⟨g,j,none⟩=a.cell? ⟨g,j,none⟩)∧∀q∈L,∀j,b.cell? ⟨q,j,none⟩=a.cell? ⟨q,j,none⟩
theorem Kgl.refl(base:Nat)(a:World):Kgl base a a:=⟨rfl,rfl,rfl,Nat.le_refl _,fun _ _ h _=>h⟩
theorem KRf.pre(base g:Nat)(L:List Nat):Pre (KRf base g L):=⟨fun a=>⟨Kgl.refl base a,fun _ _=>rfl,fun _ _ _=>rfl⟩,fun a b c h k=>⟨h.1.trans k.1,fun j hj=>(k.2.1 j hj).trans (h.2.1 j hj),fun q hq j=>(k.2.2 q hq j).trans (h.2.2 q hq j)⟩⟩
theorem zLl {a b:World} {q:Nat} {o:Obj} (h:Later a b)(hq:a.heap[q]? =some o)(j:Nat):b.cell? ⟨q,j,none⟩=a.cell? ⟨q,j,none⟩:=by
 unfold World.cell?;rw[hq,zAb h hq]
theorem KRf.of {base g:Nat} {L:List Nat} {a b:World} {og:Obj} (h:Later a b)(hg:a.heap[g]? =some og)(hf:∀q∈L,∃o:Obj,a.heap[q]? =some o):KRf base g L a b:=
 ⟨Kgl.of_kg (KG.of_later h),fun j _=>zLl h hg j,fun q hq j=>by
  obtain⟨o,ho⟩:=hf q hq;exact zLl h ho j⟩
theorem KRf.sl {base base' g:Nat} {L:List Nat} {a b:World} {q:Nat} {v:Value} {l:List Pa} (h:SL 479 base' a q v l)(hB:But (fun k=>k=q∨v.ownBlock=some k) a b)(hb:base≤base')(hg:g<base')(hL:∀k∈L,k<base')(hba:base'≤a.heap.size):KRf base g L a b:=by
 have hn:∀k,(k=q∨v.ownBlock=some k)→base'≤k:=fun k e=>by
  rcases e with rfl|e
  ·exact h.1
  ·exact (h.lt e).1
 have hc:∀k,k<base'→∀j,b.cell? ⟨k,j,none⟩=a.cell? ⟨k,j,none⟩:=fun k hk j=>by
  unfold World.cell?;rw[hB.block k (by omega) (fun e=>by have:=hn k e;omega)]
 refine⟨⟨hB.os,hB.tape,hB.output,hB.size,fun k o h1 h2=> ?_⟩,fun j _=>hc g hg j,fun k hk j=>hc k (hL k hk) j⟩;refine(hB.block k (eS h1) (fun e=> ?_)).trans h1;rcases h2 with hlt|⟨cur,t,fz,rfl,ht⟩
 ·have:=hn k e
  omega
 ·rcases e with rfl|e
  ·rw[h.2.1]at h1
   cases h1
   revert ht
   decide
  ·obtain ⟨_,⟨rfl,_⟩|⟨b2,cap,cur',rfl,hb',hh,r⟩⟩:=h.2.2
   ·cases e
   ·obtain rfl:b2=k:=by simpa[Value.ownBlock]using e
    rw[hh]at h1;cases h1
    revert ht
    decide
theorem KG.bookF {base g:Nat} {a b:World} {s:Gf} (hG:GF base a g s)(hB:But (fun q=>q=g) a b):KG base a b:=KG.of_but hB (fun k e=>by
 have e':k=g:=e;rw[e'];refine⟨hG.bs,fun ob ho=> ?_⟩;rw[hG.gc]at ho;cases ho
 show gTs.contains _=true
 decide)
theorem KRf.book {base g:Nat} {L:List Nat} {a b:World} {s:Gf} {bb:Nat} {v:Value} {l:List Ex} (hG:GF base a g s)(hB:But (fun q=>q=g) a b)(hG2:GF base b g (bookS s bb v l))(hL:∀k∈L,k<a.heap.size∧k≠g):KRf base g L a b:=by
 refine⟨Kgl.of_kg (KG.bookF hG hB),fun j hj=> ?_,fun k hk j=> ?_⟩
 ·refine (zAa hG2.gc j).trans (Eq.trans ?_ (zAa hG.gc j).symm)
  match j,hj with
  |0,_=>rfl
  |1,_=>rfl
  |2,_=>rfl
  |3,_=>rfl
  |4,_=>rfl
  |5,_=>rfl
  |6,_=>rfl
  |7,h=>exact absurd rfl h
  |8,_=>rfl
  |n+9,_=>rfl
 ·unfold World.cell?
  rw[hB.block k (hL k hk).1 (hL k hk).2]
theorem SL.offG {base:Nat} {A B:World} {b mb:Nat} {v:Value} {l:List Pa} {cur:Array Value} {t:TypeId} {fz:Nat × Nat} (h:SL 479 base A b v l)(hm:A.heap[mb]? =some (.cells cur t fz))(ht:t=91∨t=476)(hB:But (fun q=>q=mb) A B):SL 479 base B b v l:=
 ⟨h.1,zCd h.2.1 hm (by rcases ht with rfl|rfl<;>decide) hB,zPi h.2.2 hB hm (by rcases ht with rfl|rfl<;>decide)⟩
theorem SL.baseF {base base':Nat} {A:World} {b:Nat} {v:Value} {l:List Pa} (h:SL 479 base A b v l)(k:base'≤base):SL 479 base' A b v l:=by
 obtain⟨h1,h2,h3,h4|⟨b2,cap,cur',e',hb',hh,r⟩⟩:=h
 ·exact ⟨Nat.le_trans k h1,h2,h3,.inl h4⟩
 ·exact ⟨Nat.le_trans k h1,h2,h3,.inr ⟨b2,cap,cur',e',Nat.le_trans k hb',hh,r⟩⟩
theorem Rd.off {n0 q:Nat} {A B:World} {v:Value} {zs:List Int} (h:Rd n0 A v zs)(hq:∀j z,A.cell? ⟨q,j,none⟩≠some (.int .u8 z))(hB:But (fun k=>k=q) A B):Rd n0 B v zs:=by
 rcases h with⟨a,c,rfl,rfl,hc⟩|⟨bb,off,cp,rfl,hne,hl,hm,hb,hcell⟩
 ·exact .inl ⟨a,c,rfl,rfl,hc⟩
 ·refine .inr ⟨bb,off,cp,rfl,hne,hl,hm,hb,fun j hj=> ?_⟩
  have h1:=hcell j hj
  have hbq:bb≠q:=fun e=>by
   rw[e]at h1;exact hq _ _ h1
  have hlt:bb<A.heap.size:=by
   rcases Nat.lt_or_ge bb A.heap.size with h'|h'
   ·exact h'
   ·unfold World.cell? at h1
    rw[Array.getElem?_eq_none h']at h1;cases h1
  unfold World.cell? at h1⊢;rw[hB.block bb hlt hbq];exact h1
theorem Kgl.hold {base hb:Nat} {a b:World} {cur:Array Value} {t:TypeId} {fz:Nat × Nat} (h:a.heap[hb]? =some (.cells cur t fz))(hB:But (fun q=>q=hb) a b)(hbb:base≤hb)(ht:gL.contains t=true):Kgl base a b:=
 ⟨hB.os,hB.tape,hB.output,hB.size,fun k o h1 h2=>(hB.block k (eS h1) (fun e=>by
  have e':k=hb:=e;rw[e']at h1 h2;rcases h2 with h2|⟨cur2,t2,f2,e2,h2⟩
  ·omega
  ·rw[h,e2]at h1
   cases h1
   rw[ht]at h2;cases h2)).trans h1⟩
def FxQ (base g hb b1:Nat) (v1:Value) (l0 l1:List Pa) (s:Gf) (pb m:Nat) (ws:Nat→Nat) (x:Ex) (start wz:Int) (tx:List Int) (w w':World) (e:Ending):Prop:=∃xa xc,e= .returned (.tuple #[.slice xa tx.length xc,.bool true])∧Rd w'.heap.size w' (.slice xa tx.length xc) tx∧(∃wm cur,KG base w wm∧wm.heap[hb]? =some (.cells cur 476 (0,0))∧But (fun q=>q=hb) wm w')∧(∃b v,GF base w' g (bookS (oldP s 6 16909060 pb (wsR ws m)) b v (s.ex++[x])))∧∃b0 v0 ta tc,HfC w' hb b0 b1∧SL 479 base w' b0 v0 (l0++[npP l0 start wz tx.length ta tc])∧SL 479 base w' b1 v1 l1∧Ow base w' (.slice ta tx.length tc) tx
theorem zNq(base g hb b0 b1:Nat)(v0 v1:Value)(l0 l1:List Pa)(s:Gf)(f:Fl)(pb m po:Nat)(ws:Nat→Nat)(kd st en fa start wz:Int)(src dst:Int)(so sd:Value)(bk:Bool)(t0 t1 t2 t3 t4 i2 i3 i4:Int)(tx:List Int)(w:World)(hG:GF base w g s)(hf:f∈s.fs)(hps:s.ps=[⟨6,16909060,pb,ws⟩])(hgz:6≤pb)(hbs:base≤w.heap.size)(hbb:base≤hb)
  (hC:HfC w hb b0 b1)(h0:SL 479 base w b0 v0 l0)(h1:SL 479 base w b1 v1 l1)(hl0:l0.length≤8)(hkd:kd≠0)(hpo:po<65536)(hst:0≤start∧start≤4294967295)(hwz:IntKind.i64.wrap (en-st)=wz)(hnw:0≤s.now∧s.now≤549755813888)
  (hfs:fsb (fr ws po) (els ws)=true)(hm:fsn (fr ws po) po (els ws)=m)(hm9:m≤65535)(htx:zBe (zB0 kd 16909060 m)=tx)(had:adS l0 start wz tx.length=0)(hexl:s.ex.length≤1000)(hok:zJ6 s.ex ⟨6,i2,16909060,0,m,t1,po,f.id,s.now+60⟩=0)(hz:∀W,KG base w W→TX W):
  Calls Tryz.prog 363 #[.pointer (some ⟨hb,0,none⟩),.agg #[.pointer (some ⟨g,0,none⟩),.int .u8 0,.int .u16 0,.bool false,.int .u8 64,.int .u8 6,.int .u32 src,.int .u32 dst,so,sd,.int .i64 0,.pointer (some ⟨f.blk,0,none⟩),.bool bk,.int .u8 t0,.int .u32 t1,.int .u32 t2,.int .u16 t3,.int .u16 t4,.int .u8 6,.int .u32 16909060,.int .u32 i2,.int .u16 i3,.int .u16 i4],.agg #[.int .i64 kd,.int .i64 st,.int .i64 en,.int .u32 fa,.int .u16 (po:Int)],.int .u32 start] w fun e w'=>FxQ base g hb b1 v1 l0 l1 s pb m ws ⟨6,i2,16909060,0,m,t1,po,f.id,s.now+60⟩ start wz tx w w' e:=by
 obtain⟨l0',c0,c1⟩:=zBa w (.cells #[.pointer (some ⟨g,0,none⟩),.int .u8 0,.int .u16 0,.bool false,.int .u8 64,.int .u8 6,.int .u32 src,.int .u32 dst,so,sd,.int .i64 0,.pointer (some ⟨f.blk,0,none⟩),.bool bk,.int .u8 t0,.int .u32 t1,.int .u32 t2,.int .u16 t3,.int .u16 t4,.int .u8 6,.int .u32 16909060,.int .u32 i2,.int .u16 i3,.int .u16 i4] 242) (.cells #[.int .i64 kd,.int .i64 st,.int .i64 en,.int .u32 fa,.int .u16 (po:Int)] 44);have C0:=zAd c0;have C1:=zAd c1;have HTK:=zAd (fun W (l:Later w W)=>zUl base g s 6 16909060 pb ws po W (hG.later l) hps srE_6 hpo (Nat.le_trans hbs l.size) (fun V lv=>(hz V ((KG.of_later l).trans (KG.of_later lv))).2.1) hgz);have HTX:=zAd (fun W (k:KG base w W)=>zP7 kd 16909060 hkd (by omega) m W (hz W k).2.2.2 hm9);rw[htx]at HTX;have HG:=zAd hG;have HPB:=zAd (hG.pb ⟨6,16909060,pb,ws⟩ (by rw[hps];simp));have HC:=zAd hC;have H0:=zAd h0;have H1:=zAd h1;have HWZ:=zAd hwz;have HAD:=zAd had;have HOK:=zAd hok;have HFS:=zAd hfs;have HM:=zAd hm;have hfb:=hG.fb f hf;have HFB:=zAd hfb.2;have HNW:=zAd (show IntKind.i64.wrap (s.now+60)=s.now+60 from zPo hnw.1 hnw.2 (by omega));clear c0 c1 hG hps hC h0 h1 hwz had hok hfs hm htx hz hfb;go_enter Tryz.func363,Tryz.ntmps363;go_upto_region 1 with fail
 change Code.wp _ _ _ _ ((w.alloc (.cells #[.pointer (some ⟨g,0,none⟩),.int .u8 0,.int .u16 0,.bool false,.int .u8 64,.int .u8 6,.int .u32 src,.int .u32 dst,so,sd,.int .i64 0,.pointer (some ⟨f.blk,0,none⟩),.bool bk,.int .u8 t0,.int .u32 t1,.int .u32 t2,.int .u16 t3,.int .u16 t4,.int .u8 6,.int .u32 16909060,.int .u32 i2,.int .u16 i3,.int .u16 i4] 242)).alloc (.cells #[.int .i64 kd,.int .i64 st,.int .i64 en,.int .u32 fa,.int .u16 (po:Int)] 44));generalize (w.alloc (.cells #[.pointer (some ⟨g,0,none⟩),.int .u8 0,.int .u16 0,.bool false,.int .u8 64,.int .u8 6,.int .u32 src,.int .u32 dst,so,sd,.int .i64 0,.pointer (some ⟨f.blk,0,none⟩),.bool bk,.int .u8 t0,.int .u32 t1,.int .u32 t2,.int .u16 t3,.int .u16 t4,.int .u8 6,.int .u32 16909060,.int .u32 i2,.int .u16 i3,.int .u16 i4] 242)).alloc (.cells #[.int .i64 kd,.int .i64 st,.int .i64 en,.int .u32 fa,.int .u16 (po:Int)] 44)=w1 at*;generalize hgx:w.heap.size=gx at C0 C1⊢;have k0:=zAa C0.out;have k1:=zAa C1.out;go_wp2_with fail;refine(HTK.out w1 l0').mono ?_;rintro e w2 (⟨_,rfl,hb2,hG2⟩|⟨hf2,_⟩)
 ·rw[HM.out]at hG2⊢
  have K2:KG base w1 w2:=KG.of_but hb2 (fun k e=>by
   have e':k=pb:=e;rw[e'];refine⟨(HPB.out.later l0').1,fun ob ho=> ?_⟩;have h9:=(HPB.out.later l0').2.2;rw[h9]at ho;cases ho
   show gTs.contains _=true
   decide)
  have G2:=zAd hG2;clear k0 k1 HTK hG2 hb2 HG HPB;have D0:=zAd (K2.cells C0.out (by decide));have D1:=zAd (K2.cells C1.out (by decide));have la:=zAg w2 (.cells #[.int .u8 6,.int .u32 16909060,.int .u16 (m:Int)] 230);have C2:=zAd (heap_alloc_new w2 (.cells #[.int .u8 6,.int .u32 16909060,.int .u16 (m:Int)] 230));have KK:=zAd ((KG.of_later (base:=base) l0').trans (K2.trans (KG.of_later la)));have E0:=zAd (zAb la D0.out);have E1:=zAd (zAb la D1.out);have G3:=zAd (G2.out.later la);clear C0 C1 D0 D1 G2 la K2;go_upto_region 2 with fail;change Code.wp _ _ _ _ (w2.alloc (.cells #[.int .u8 6,.int .u32 16909060,.int .u16 (m:Int)] 230));generalize w2.alloc (.cells #[.int .u8 6,.int .u32 16909060,.int .u16 (m:Int)] 230)=w3 at*;generalize hg3:w2.heap.size=g3 at*;have k0:=zAa E0.out;have k1:=zAa E1.out;have k2:=zAa C2.out;go_wp2_with fail;refine(HTX.out w3 KK.out).mono ?_;rintro e w4 ⟨xa,xc,rfl,hR4,l4⟩;have l4':Later w3 w4:=l4;clear k0 k1 k2 HTX l4;have K4:=zAd (KK.out.trans (KG.of_later l4'));have F0:=zAd (zAb l4' E0.out);have F1:=zAd (zAb l4' E1.out);have F2:=zAd (zAb l4' C2.out);have G4:=zAd (G3.out.later l4');have R4:=zAd hR4;have hg3l:g3<w4.heap.size:=(eS F2.out);clear E0 E1 C2 G3 KK l4' hR4;have CC:=zAd (K4.out.cells HC.out (by decide));have S0:=zAd (H0.out.kgF K4.out (by decide));have S1:=zAd (H1.out.kgF K4.out (by decide));clear HC H0 H1;go_upto_region 5 with fail
  refine zAl (R:=Later) 10 rfl (by kernel_rfl) ?_;have ld:Later w4 w4.drew:=Later.drew w4;generalize w4.drew=w5 at*;have q0:∀v,Later w5 v→∀j,v.cell? ⟨gx,j,none⟩=_:=fun v hv=>zAa (zAb (ld.trans hv) F0.out);have q1:∀v,Later w5 v→∀j,v.cell? ⟨hb,j,none⟩=_:=fun v hv=>zAa (zAb (ld.trans hv) CC.out);refine gX Later.pre 0 ?_;refine gX Later.pre 1 ?_;refine gX Later.pre 2 ?_;refine gX Later.pre 3 ?_;refine gX Later.pre 4 ?_;refine gX Later.pre 5 ?_;refine gX Later.pre 6 ?_;refine gX Later.pre 7 ?_;clear q0 q1;refine tO 8 ?_;refine zAj 372 #[.pointer (some ⟨b0,0,none⟩)] (by go_simp) ?_;refine(zVq base b0 v0 l0 w5 (S0.out.later ld) (by omega)).mono ?_;rintro e w6 ⟨l6,g6,v6,rfl,hS6⟩;have l6':Later w5 w6:=l6;refine⟨l6',?_⟩;simp only[Act.put,sA,sB,sC];refine gX Later.pre 9 ?_;refine tD ?_;have L6:=ld.trans l6';have K5:=zAd (K4.out.trans (KG.of_later (base:=base) ld));have G5:=zAd (G4.out.later ld);have R5:=zAd (Rd.later R4.out ld);have CC5:=zAd (zAb ld CC.out);have S15:=zAd (S1.out.later ld);have L56:=zAd l6';have J0:=zAd (zAb L6 F0.out);have J1:=zAd (zAb L6 F1.out);have J2:=zAd (zAb L6 F2.out);have G6:=zAd (G4.out.later L6);have R6:=zAd (Rd.later R4.out L6);have SF:=zAd hS6;have hs5:w4.heap.size≤w5.heap.size:=ld.size;clear F0 F1 F2 G4 R4 CC S0 S1 K4 hS6 l6 l6' ld L6;go_upto_region 6 with fail;refine zAl (R:=KRf base g [f.blk,g3]) 48 rfl (by kernel_rfl) ?_;have hfb6:=(G6.out.fb f hf).2
  have ld:KRf base g [f.blk,g3] w6 w6.drew:=KRf.of (Later.drew w6) G6.out.gc (fun q hq=>by
   rcases List.mem_cons.1 hq with e|hq
   ·exact ⟨_,e▸hfb6⟩
   ·exact ⟨_,(List.mem_singleton.1 hq)▸J2.out⟩)
  have LD:Later w6 w6.drew:=Later.drew w6;have L57:=zAd (L56.out.trans LD);generalize w6.drew=w7 at*;have q0:∀v,KRf base g [f.blk,g3] w7 v→∀j,v.cell? ⟨gx,j,none⟩=_:=fun v hv=>zAa ((ld.1.trans hv.1).cells J0.out (by decide));have q1:∀v,KRf base g [f.blk,g3] w7 v→∀j,v.cell? ⟨gx+1,j,none⟩=_:=fun v hv=>zAa ((ld.1.trans hv.1).cells J1.out (by decide));have q2:∀v,KRf base g [f.blk,g3] w7 v→∀j,v.cell? ⟨g3,j,none⟩=_:=fun v hv j=>(hv.2.2 g3 (by simp) j).trans (zAa (zAb LD J2.out) j);have q3:∀v,KRf base g [f.blk,g3] w7 v→v.cell? ⟨f.blk,0,none⟩=some (.int .i64 f.id):=fun v hv=>(hv.2.2 f.blk (by simp) 0).trans (zAa (zAb LD hfb6) 0);have q4:∀v,KRf base g [f.blk,g3] w7 v→v.cell? ⟨g,2,none⟩=some (.int .i64 s.now):=fun v hv=>(hv.2.1 2 (by omega)).trans (zAa (zAb LD G6.out.gc) 2);clear hfb6;refine gX (KRf.pre base g [f.blk,g3]) 0 ?_;refine gX (KRf.pre base g [f.blk,g3]) 1 ?_;refine gX (KRf.pre base g [f.blk,g3]) 2 ?_;refine gX (KRf.pre base g [f.blk,g3]) 3 ?_;refine gX (KRf.pre base g [f.blk,g3]) 4 ?_;refine gX (KRf.pre base g [f.blk,g3]) 5 ?_;refine gX (KRf.pre base g [f.blk,g3]) 6 ?_;rw[HWZ.out];refine gX (KRf.pre base g [f.blk,g3]) 7 ?_;clear q0 q1 q2 q3 q4;refine tO 8 ?_;refine zAj 373 #[.pointer (some ⟨g6,0,none⟩),.int .u32 start,.int .i64 wz,.slice xa tx.length xc] (by go_simp) ?_
  refine(sadd_txt w5.heap.size g6 v6 l0 start wz (.slice xa tx.length xc) tx w7 (SF.out.later LD) L57.out.size hst (Rd.later R6.out LD) HAD.out).mono ?_;rintro e w8 ⟨rfl,ta,tc,⟨v8,hS8,hB8,_⟩,hO8⟩
  have kr8:KRf base g [f.blk,g3] w7 w8:=KRf.sl (SF.out.later LD) hB8 (by have:=K5.out.size;omega) (eS G5.out.gc) (fun q hq=>by
   rcases List.mem_cons.1 hq with e|hq
   ·rw[e];exact(Array.getElem?_eq_some_iff.1 (G5.out.fb f hf).2).1
   ·rw[List.mem_singleton.1 hq];omega) L57.out.size
  have L58:=zAd (Below.trans L57.out (hB8.below L57.out.size (fun k hk e=>by
   rcases e with e|e
   ·have:=SF.out.1;omega
   ·have:=((SF.out.later LD).lt e).1;omega)))
  have kr68:=(KRf.pre base g [f.blk,g3]).2 _ _ _ ld kr8;refine⟨kr8,?_⟩;clear hB8 kr8 ld LD;simp only[Act.put,sA,sB,sC];have hfb6:=(G5.out.later L56.out).fb f hf;have q0:∀v,KRf base g [f.blk,g3] w8 v→∀j,v.cell? ⟨gx,j,none⟩=_:=fun v hv=>zAa ((kr68.1.trans hv.1).cells J0.out (by decide));have q1:∀v,KRf base g [f.blk,g3] w8 v→∀j,v.cell? ⟨gx+1,j,none⟩=_:=fun v hv=>zAa ((kr68.1.trans hv.1).cells J1.out (by decide));have q2:∀v,KRf base g [f.blk,g3] w8 v→∀j,v.cell? ⟨g3,j,none⟩=_:=fun v hv j=>((hv.2.2 g3 (by simp) j).trans (kr68.2.2 g3 (by simp) j)).trans (zAa J2.out j);have q3:∀v,KRf base g [f.blk,g3] w8 v→v.cell? ⟨f.blk,0,none⟩=some (.int .i64 f.id):=fun v hv=>((hv.2.2 f.blk (by simp) 0).trans (kr68.2.2 f.blk (by simp) 0)).trans (zAa hfb6.2 0);have q4:∀v,KRf base g [f.blk,g3] w8 v→v.cell? ⟨g,2,none⟩=some (.int .i64 s.now):=fun v hv=>((hv.2.1 2 (by omega)).trans (kr68.2.1 2 (by omega))).trans (zAa (G5.out.later L56.out).gc 2);clear hfb6;refine gX (KRf.pre base g [f.blk,g3]) 9 ?_;refine gX (KRf.pre base g [f.blk,g3]) 10 ?_;refine gX (KRf.pre base g [f.blk,g3]) 11 ?_;refine gX (KRf.pre base g [f.blk,g3]) 12 ?_;refine gX (KRf.pre base g [f.blk,g3]) 13 ?_;refine gX (KRf.pre base g [f.blk,g3]) 14 ?_;refine gX (KRf.pre base g [f.blk,g3]) 15 ?_;refine gX (KRf.pre base g [f.blk,g3]) 16 ?_;refine gX (KRf.pre base g [f.blk,g3]) 17 ?_;refine gX (KRf.pre base g [f.blk,g3]) 18 ?_;refine gX (KRf.pre base g [f.blk,g3]) 19 ?_
  refine gX (KRf.pre base g [f.blk,g3]) 20 ?_;refine gX (KRf.pre base g [f.blk,g3]) 21 ?_;refine gX (KRf.pre base g [f.blk,g3]) 22 ?_;refine gX (KRf.pre base g [f.blk,g3]) 23 ?_;refine gX (KRf.pre base g [f.blk,g3]) 24 ?_;refine gX (KRf.pre base g [f.blk,g3]) 25 ?_;refine gX (KRf.pre base g [f.blk,g3]) 26 ?_;refine gX (KRf.pre base g [f.blk,g3]) 27 ?_;refine gX (KRf.pre base g [f.blk,g3]) 28 ?_;refine gX (KRf.pre base g [f.blk,g3]) 29 ?_;refine gX (KRf.pre base g [f.blk,g3]) 30 ?_;refine gX (KRf.pre base g [f.blk,g3]) 31 ?_;refine gX (KRf.pre base g [f.blk,g3]) 32 ?_;refine gX (KRf.pre base g [f.blk,g3]) 33 ?_;refine gX (KRf.pre base g [f.blk,g3]) 34 ?_;refine gX (KRf.pre base g [f.blk,g3]) 35 ?_;refine gX (KRf.pre base g [f.blk,g3]) 36 ?_;refine gX (KRf.pre base g [f.blk,g3]) 37 ?_;refine gX (KRf.pre base g [f.blk,g3]) 38 ?_;refine gX (KRf.pre base g [f.blk,g3]) 39 ?_;refine gX (KRf.pre base g [f.blk,g3]) 40 ?_;refine gX (KRf.pre base g [f.blk,g3]) 41 ?_;refine gX (KRf.pre base g [f.blk,g3]) 42 ?_;rw[HNW.out];refine gX (KRf.pre base g [f.blk,g3]) 43 ?_;clear q0 q1 q2 q3 q4;have G8:=zAd (G5.out.later L58.out);have LA:=zAd (zAg w8 (.cells #[.int .u8 6,.int .u32 i2,.int .u32 16909060,.int .u16 0,.int .u16 (m:Int),.int .u32 t1,.int .u16 (po:Int),.int .i64 f.id,.int .i64 (s.now+60)] 172))
  have CX:=zAd (heap_alloc_new w8 (.cells #[.int .u8 6,.int .u32 i2,.int .u32 16909060,.int .u16 0,.int .u16 (m:Int),.int .u32 t1,.int .u16 (po:Int),.int .i64 f.id,.int .i64 (s.now+60)] 172))
  have hL8:∀q∈ [f.blk,g3],q<w5.heap.size:=fun q hq=>by
   rcases List.mem_cons.1 hq with e|hq
   ·rw[e];exact(Array.getElem?_eq_some_iff.1 (G5.out.fb f hf).2).1
   ·rw[List.mem_singleton.1 hq];omega
  have hs58:w5.heap.size≤w8.heap.size:=L58.out.size;refine zKp 44 rfl (by kernel_rfl) (by rfl) ?_;unfold Oper.wp;go_simp;refine⟨KRf.of LA.out G8.out.gc (fun q hq=>⟨_,Array.getElem?_eq_getElem (Nat.lt_of_lt_of_le (hL8 q hq) hs58)⟩),?_⟩;change zAy _ _ _ _ _ _ _ _ (w8.alloc (.cells #[.int .u8 6,.int .u32 i2,.int .u32 16909060,.int .u16 0,.int .u16 (m:Int),.int .u32 t1,.int .u16 (po:Int),.int .i64 f.id,.int .i64 (s.now+60)] 172));have hs89:w8.heap.size≤(w8.alloc (.cells #[.int .u8 6,.int .u32 i2,.int .u32 16909060,.int .u16 0,.int .u16 (m:Int),.int .u32 t1,.int .u16 (po:Int),.int .i64 f.id,.int .i64 (s.now+60)] 172)).heap.size:=LA.out.size;generalize w8.alloc (.cells #[.int .u8 6,.int .u32 i2,.int .u32 16909060,.int .u16 0,.int .u16 (m:Int),.int .u32 t1,.int .u16 (po:Int),.int .i64 f.id,.int .i64 (s.now+60)] 172)=w9 at*;generalize hgq:w8.heap.size=gq at*;have G9:=zAd (G8.out.later LA.out);refine zKp 45 rfl (by kernel_rfl) (by rfl) ?_;refine zAj 374 #[.pointer (some ⟨g,0,none⟩),.slice (some ⟨gq,0,none⟩) 1 1] (by go_simp) ?_;refine(zNo base g (oldP s 6 16909060 pb (wsR ws m)) ⟨6,i2,16909060,0,m,t1,po,f.id,s.now+60⟩ gq w9 G9.out CX.out (by have:=K5.out.size;omega) hexl HOK.out).mono ?_;rintro e w10 ⟨rfl,hb10,b10,v10,hG10⟩
  have kr10:KRf base g [f.blk,g3] w9 w10:=KRf.book G9.out hb10 hG10 (fun q hq=>⟨by have:=hL8 q hq;omega,fun e=>by
   rcases List.mem_cons.1 hq with e1|hq
   ·have h1:=(G9.out.fb f hf).2
    rw[←e1,e,G9.out.gc]at h1;exact absurd (Obj.cells.inj (Option.some.inj h1)).2.1 (by decide)
   ·have h1:=J2.out
    rw[←List.mem_singleton.1 hq,e,(G5.out.later L56.out).gc]at h1;exact absurd (Obj.cells.inj (Option.some.inj h1)).2.1 (by decide)⟩)
  refine⟨kr10,?_⟩;simp only[Act.put,sA,sB,sC];refine gX (KRf.pre base g [f.blk,g3]) 46 ?_;refine gX (KRf.pre base g [f.blk,g3]) 47 ?_;refine tD ?_;have L59:=zAd (Below.trans L58.out (LA.out.mono L58.out.size));have K610:=kr68.1.trans ((Kgl.of_kg (KG.of_later (base:=base) LA.out)).trans kr10.1);have J0':=zAd (K610.cells J0.out (by decide));have CC9:=zAb L59.out CC5.out;have CCx:=zAd (zCd CC9 G9.out.gc (by decide) hb10);have S1x:=zAd ((S15.out.later L59.out).offG G9.out.gc (.inl rfl) hb10);have S0x:=zAd (((hS8.later LA.out).baseF (show base≤w5.heap.size by have:=K5.out.size;omega)).offG G9.out.gc (.inl rfl) hb10);have Ox:=zAd (((hO8.mono (show base≤w5.heap.size by have:=K5.out.size;omega)).later LA.out).asideF G9.out.gc (by decide) hb10)
  have Rx:=zAd ((Rd.later R5.out L59.out).off (fun j z hc=>by
   rw[zAa G9.out.gc j]at hc;match j,hc with
   |0,h=>cases h
   |1,h=>cases h
   |2,h=>cases h
   |3,h=>cases h
   |4,h=>cases h
   |5,h=>cases h
   |6,h=>cases h
   |7,h=>cases h
   |8,h=>cases h
   |n+9,h=>cases h) hb10|>.mono hb10.size)
  have Gx:=zAd hG10;have Kx:=zAd ((K5.out.trans (KG.of_later (base:=base) L59.out)).trans (KG.bookF G9.out hb10));have hsx:w5.heap.size≤w10.heap.size:=Nat.le_trans hs58 (Nat.le_trans hs89 hb10.size);clear J0 J1 J2 G5 R5 R6 CC5 S15 SF K5 L56 L57 L58 L59 G8 LA CX G9 hb10 hG10 kr68 kr10 K610 CC9 hS8 hO8 hL8 G6;go_upto_region 9 with fail;refine zAl (R:=But (fun q=>q=hb)) 9 rfl (by kernel_rfl) ?_;have ld:Later w10 w10.drew:=Later.drew w10;generalize w10.drew=w11 at*;have C11:=zAd (zAb ld CCx.out);have J11:=zAd (zAb ld J0'.out);have q0:∀v,But (fun q=>q=hb) w11 v→∀j,v.cell? ⟨gx,j,none⟩=_:=fun v hv=>zAa (zCd J11.out C11.out (by decide) hv);refine gX (But.pre (fun q=>q=hb)) 0 ?_;refine gX (But.pre (fun q=>q=hb)) 1 ?_;refine gX (But.pre (fun q=>q=hb)) 2 ?_;refine gX (But.pre (fun q=>q=hb)) 3 ?_;refine gX (But.pre (fun q=>q=hb)) 4 ?_;refine gX (But.pre (fun q=>q=hb)) 5 ?_;refine gX (But.pre (fun q=>q=hb)) 6 ?_;refine gX (But.pre (fun q=>q=hb)) 7 ?_;clear q0;have kc:=zAa C11.out;have fc:=zAc C11.out;refine tO 8 ?_;unfold Oper.wp;go_simp;have hB:But (fun q=>q=hb) w11 (w11.setCell ⟨hb,0,none⟩ (.pointer (some ⟨g6,0,none⟩))):=(But.refl (fun q=>q=hb) _).setCell (p:=⟨hb,0,none⟩) (show _=_ from rfl) _;refine⟨hB,?_⟩;refine tD ?_;have HX:=zAd (zAh C11.out 0 (.pointer (some ⟨g6,0,none⟩)));have GX:=zAd ((Gx.out.later ld).other (TE.one C11.out) hB (by decide));have S1X:=zAd ((S1x.out.later ld).offG C11.out (.inr rfl) hB)
  have S0X:=zAd ((S0x.out.later ld).offG C11.out (.inr rfl) hB);have OX:=zAd ((Ox.out.later ld).asideF C11.out (by decide) hB)
  have RX:=zAd (((Rd.later Rx.out ld).off (fun j z hc=>by
   rw[zAa C11.out j]at hc;match j,hc with
   |0,h=>cases h
   |1,h=>cases h
   |n+2,h=>cases h) hB).mono hB.size)
  have KX:Hid (∃wm cur,KG base w wm∧wm.heap[hb]? =some (.cells cur 476 (0,0))∧But (fun q=>q=hb) wm (w11.setCell ⟨hb,0,none⟩ (.pointer (some ⟨g6,0,none⟩)))):=⟨w11,_,Kx.out.trans (KG.of_later (base:=base) ld),C11.out,hB⟩;clear kc fc hB ld C11 J11 Gx S1x S0x Ox Rx Kx CCx J0' hsx;generalize w11.setCell ⟨hb,0,none⟩ _=w12 at*;go_wp2_with fail;exact bodyPost_ret (v:= .tuple #[.slice xa tx.length xc,.bool true]) (by simp[results,Tryz.results363,go_sem]) rfl ⟨xa,xc,rfl,RX.out,KX.out,⟨_,_,GX.out⟩,g6,v8,ta,tc,HX.out,S0X.out,S1X.out,OX.out⟩
 ·rw[HFS.out]at hf2
  cases hf2
theorem FxQ.kgl {base hb:Nat} {w w':World} (hbb:base≤hb)(h:∃wm cur,KG base w wm∧wm.heap[hb]? =some (.cells cur 476 (0,0))∧But (fun q=>q=hb) wm w'):Kgl base w w':=by
 obtain⟨wm,cur,k,hc,hB⟩:=h;exact(Kgl.of_kg k).trans (Kgl.hold hc hB hbb (by decide))
theorem FxQ.hv {base hb nn:Nat} {w w':World} {f:Fl} (h:∃wm cur,KG base w wm∧wm.heap[hb]? =some (.cells cur 476 (0,0))∧But (fun q=>q=hb) wm w')(hv:HvP w f 6 16909060 nn):HvP w' f 6 16909060 nn:=by
 obtain⟨wm,cur,k,hc,hB⟩:=h;exact(hv.kg k).asideF hc (by decide) hB
theorem zP9(base n0 g hb b0 b1:Nat)(f:Fl)(fd bk:Bool)(zm tx zm2:List Int)(en po wz:Int)(src dst:Int)(so sd:Value)(t0 t2 t3 t4 i0 i1 i2 i3 i4 sp dp ak fl wn ur:Int)(aO am:Option Addr)(cO cm:Nat)(VQ:World→Prop)(w:World)(hC:HfC w hb b0 b1)(hBm:Mt.By zm)(hl:zm.length≤500)(hlt:tx.length≤500)(hfn:zDt zm bk=fdY 1 5 en 167772162 po∧Kd1 zm bk)(hen:5≤en∧en≤1000)(hwz:IntKind.i64.wrap (en-5)=wz)(hzm2:rpl 5 en zm tx=zm2)(hn0:n0≤w.heap.size)(hM:Ow n0 w (.slice am zm.length cm) zm)(hz:∀W,Later w W→TabR W)(hVL:∀A B,VQ A→Later A B→VQ B)
  (hFD:∀W,Later w W→Calls Tryz.prog 362 #[.pointer (some ⟨b0,0,none⟩),.int .u32 105,.int .i64 wz] W fun e w'=>Later W w'∧∃av n cv,e= .returned (.tuple #[.slice av n cv,.bool fd])∧(fd=true→n=tx.length∧Rd w'.heap.size w' (.slice av n cv) tx∧VQ w'))
  (hEX:fd=false→∀W,Later w W→Calls Tryz.prog 363 #[.pointer (some ⟨hb,0,none⟩),.agg #[.pointer (some ⟨g,0,none⟩),.int .u8 0,.int .u16 0,.bool false,.int .u8 64,.int .u8 6,.int .u32 src,.int .u32 dst,so,sd,.int .i64 0,.pointer (some ⟨f.blk,0,none⟩),.bool bk,.int .u8 t0,.int .u32 167772162,.int .u32 t2,.int .u16 t3,.int .u16 t4,.int .u8 i0,.int .u32 i1,.int .u32 i2,.int .u16 i3,.int .u16 i4],.agg #[.int .i64 1,.int .i64 5,.int .i64 en,.int .u32 167772162,.int .u16 po],.int .u32 105] W fun e w'=>∃xa xc,e= .returned (.tuple #[.slice xa tx.length xc,.bool true])∧Rd w'.heap.size w' (.slice xa tx.length xc) tx∧Kgl base W w'∧VQ w'):
  Calls Tryz.prog 358 #[.pointer (some ⟨hb,0,none⟩),.agg #[.pointer (some ⟨g,0,none⟩),.int .u8 0,.int .u16 0,.bool false,.int .u8 64,.int .u8 6,.int .u32 src,.int .u32 dst,so,sd,.int .i64 0,.pointer (some ⟨f.blk,0,none⟩),.bool bk,.int .u8 t0,.int .u32 167772162,.int .u32 t2,.int .u16 t3,.int .u16 t4,.int .u8 i0,.int .u32 i1,.int .u32 i2,.int .u16 i3,.int .u16 i4],.agg #[.int .u16 sp,.int .u16 dp,.int .u32 100,.int .u32 ak,.int .u8 fl,.int .u16 wn,.int .u16 ur,.slice aO 0 cO,.slice am zm.length cm]] w fun e w'=>∃am2 cm2,e= .returned (.slice am2 zm2.length cm2)∧Kgl base w w'∧VQ w'∧Ow n0 w' (.slice am2 zm2.length cm2) zm2:=by
 obtain⟨l0,c0,c1⟩:=zBa w (.cells #[.pointer (some ⟨g,0,none⟩),.int .u8 0,.int .u16 0,.bool false,.int .u8 64,.int .u8 6,.int .u32 src,.int .u32 dst,so,sd,.int .i64 0,.pointer (some ⟨f.blk,0,none⟩),.bool bk,.int .u8 t0,.int .u32 167772162,.int .u32 t2,.int .u16 t3,.int .u16 t4,.int .u8 i0,.int .u32 i1,.int .u32 i2,.int .u16 i3,.int .u16 i4] 242) (.cells #[.int .u16 sp,.int .u16 dp,.int .u32 100,.int .u32 ak,.int .u8 fl,.int .u16 wn,.int .u16 ur,.slice aO 0 cO,.slice am zm.length cm] 32);have C0:=zAd c0;have C1:=zAd c1;have HF:=zAd (fun W (l:Later w W)=>zCz (.slice am zm.length cm) zm bk W (hz W l) hBm ((hM.later l).rd) hfn.2);rw[hfn.1]at HF;unfold fdY at HF;have HC:=zAd hC;have HM:=zAd hM;have HFD:=zAd hFD;have HEX:=zAd hEX;have HWZ:=zAd hwz;have HZ2:=zAd hzm2;clear c0 c1 hfn hC hM hFD hEX hwz hz hzm2;go_enter Tryz.func358,Tryz.ntmps358;go_upto_region 1 with fail;change Code.wp _ _ _ _ ((w.alloc (.cells #[.pointer (some ⟨g,0,none⟩),.int .u8 0,.int .u16 0,.bool false,.int .u8 64,.int .u8 6,.int .u32 src,.int .u32 dst,so,sd,.int .i64 0,.pointer (some ⟨f.blk,0,none⟩),.bool bk,.int .u8 t0,.int .u32 167772162,.int .u32 t2,.int .u16 t3,.int .u16 t4,.int .u8 i0,.int .u32 i1,.int .u32 i2,.int .u16 i3,.int .u16 i4] 242)).alloc (.cells #[.int .u16 sp,.int .u16 dp,.int .u32 100,.int .u32 ak,.int .u8 fl,.int .u16 wn,.int .u16 ur,.slice aO 0 cO,.slice am zm.length cm] 32))
 generalize (w.alloc (.cells #[.pointer (some ⟨g,0,none⟩),.int .u8 0,.int .u16 0,.bool false,.int .u8 64,.int .u8 6,.int .u32 src,.int .u32 dst,so,sd,.int .i64 0,.pointer (some ⟨f.blk,0,none⟩),.bool bk,.int .u8 t0,.int .u32 167772162,.int .u32 t2,.int .u16 t3,.int .u16 t4,.int .u8 i0,.int .u32 i1,.int .u32 i2,.int .u16 i3,.int .u16 i4] 242)).alloc (.cells #[.int .u16 sp,.int .u16 dp,.int .u32 100,.int .u32 ak,.int .u8 fl,.int .u16 wn,.int .u16 ur,.slice aO 0 cO,.slice am zm.length cm] 32)=w1 at*;generalize hgx:w.heap.size=gx at C0 C1⊢;have k0:=zAa C0.out;have k1:=zAa C1.out;go_wp2_with fail;refine(HF.out w1 l0).mono ?_;rintro e w2 ⟨rfl,l2⟩;have l2':Later w1 w2:=l2;have E0:=zAd (zAb l2' C0.out);have E1:=zAd (zAb l2' C1.out);clear k0 k1 l2 HF;have la:=zAg w2 (.cells #[.int .i64 1,.int .i64 5,.int .i64 en,.int .u32 167772162,.int .u16 po] 44);have F2:=zAd (heap_alloc_new w2 (.cells #[.int .i64 1,.int .i64 5,.int .i64 en,.int .u32 167772162,.int .u16 po] 44));go_upto_region 2 with fail;change Code.wp _ _ _ _ (w2.alloc (.cells #[.int .i64 1,.int .i64 5,.int .i64 en,.int .u32 167772162,.int .u16 po] 44));generalize w2.alloc (.cells #[.int .i64 1,.int .i64 5,.int .i64 en,.int .u32 167772162,.int .u16 po] 44)=w3 at*;generalize w2.heap.size=g2 at*;have L3:Later w w3:=l0.trans (l2'.trans la);have F0:=zAd (zAb la E0.out);have F1:=zAd (zAb la E1.out);clear E0 E1 l0 la l2' C0 C1
 have HRG:=zAd (zC5 (xs:=[.pointer (some ⟨g,0,none⟩),.int .u8 0,.int .u16 0,.bool false,.int .u8 64,.int .u8 6,.int .u32 src,.int .u32 dst,so,sd,.int .i64 0,.pointer (some ⟨f.blk,0,none⟩),.bool bk,.int .u8 t0,.int .u32 167772162,.int .u32 t2,.int .u16 t3,.int .u16 t4,.int .u8 i0,.int .u32 i1,.int .u32 i2,.int .u16 i3,.int .u16 i4]) F0.out);go_wp2_with (refine wpList_load_mid rfl 242 (.tmp 4) rfl gx 0 rfl _ _ HRG.out Tryz.underlying242 rfl zFu ?_)
 refine(zIg #[] w3 g 0 0 64 src dst false so sd 0 (.inl rfl) f.blk bk t0 167772162 t2 t3 t4 i0 i1 i2 i3 i4).mono ?_;rintro e w4 ⟨rfl,l4⟩;have l4':Later w3 w4:=l4;have G0:=zAd (zAb l4' F0.out);have G1:=zAd (zAb l4' F1.out);have G2:=zAd (zAb l4' F2.out);have L4:Later w w4:=L3.trans l4';clear F0 F1 F2 HRG l4 L3 l4';have k0:=zAa G0.out;have k1:=zAa G1.out;have k2:=zAa G2.out;rw[show ((0:Int)==0)=true from rfl];go_upto_region 5 with fail;clear k0 k1 k2;refine zAl (R:=Later) 20 rfl (by kernel_rfl) ?_;have ld:Later w4 w4.drew:=Later.drew w4;generalize w4.drew=w5 at*;have L5:=L4.trans ld;have q0:∀v,Later w5 v→∀j,v.cell? ⟨gx,j,none⟩=_:=fun v hv=>zAa (zAb (ld.trans hv) G0.out);have q2:∀v,Later w5 v→∀j,v.cell? ⟨g2,j,none⟩=_:=fun v hv=>zAa (zAb (ld.trans hv) G2.out);have q3:∀v,Later w5 v→∀j,v.cell? ⟨hb,j,none⟩=_:=fun v hv=>zAa (zAb (L5.trans hv) HC.out);refine gX Later.pre 0 ?_;refine gX Later.pre 1 ?_;refine gX Later.pre 2 ?_;refine gX Later.pre 3 ?_;refine gX Later.pre 4 ?_;refine gX Later.pre 5 ?_;refine gX Later.pre 6 ?_;refine gX Later.pre 7 ?_;refine gX Later.pre 8 ?_;refine gX Later.pre 9 ?_;refine gX Later.pre 10 ?_;refine gX Later.pre 11 ?_;refine gX Later.pre 12 ?_;refine gX Later.pre 13 ?_;rw[HWZ.out];clear q0 q2 q3;refine tO 14 ?_;refine zAj 362 #[.pointer (some ⟨b0,0,none⟩),.int .u32 105,.int .i64 wz] (by go_simp) ?_;refine(HFD.out w5 L5).mono ?_
 rintro e w6 ⟨l6,av,n,cv,rfl,hfd⟩;have l6':Later w5 w6:=l6;refine⟨l6',?_⟩;simp only[Act.put,sA,sB,sC];refine gX Later.pre 15 ?_;refine gX Later.pre 16 ?_;refine gX Later.pre 17 ?_;refine gX Later.pre 18 ?_;refine gX Later.pre 19 ?_;refine tD ?_;have L6:=L5.trans l6';have J0:=zAd (zAb (ld.trans l6') G0.out);have J1:=zAd (zAb (ld.trans l6') G1.out);have J2:=zAd (zAb (ld.trans l6') G2.out);clear G0 G1 G2 l6 l6' ld L5 L4;cases fd
 case false=>
  have HEY:=zAd (HEX.out rfl w6 L6);clear hfd;have HRG:=zAd (zC5 (xs:=[.pointer (some ⟨g,0,none⟩),.int .u8 0,.int .u16 0,.bool false,.int .u8 64,.int .u8 6,.int .u32 src,.int .u32 dst,so,sd,.int .i64 0,.pointer (some ⟨f.blk,0,none⟩),.bool bk,.int .u8 t0,.int .u32 167772162,.int .u32 t2,.int .u16 t3,.int .u16 t4,.int .u8 i0,.int .u32 i1,.int .u32 i2,.int .u16 i3,.int .u16 i4]) J0.out);have k2:=zAa J2.out;go_wp2_with (refine wpList_load_mid rfl 242 (.tmp 4) rfl gx 0 rfl _ _ HRG.out Tryz.underlying242 rfl zFu ?_)
  refine HEY.out.mono ?_;rintro e W9 ⟨xa,xc,rfl,hRx,hKx,hVx⟩;have RX:=zAd hRx;have V9:=zAd hVx;have KW:=zAd ((Kgl.of_kg (KG.of_later (base:=base) L6)).trans hKx);have Q1:=zAd (hKx.cells J1.out (by decide));have Q2:=zAd (hKx.cells J2.out (by decide));have M9:=zAd (Kgl.ow8 (HM.out.later L6) hKx);clear k2 HRG HEY J0 J1 J2 hRx hKx hVx HM HC;have k8:=zAa Q1.out;have k9:=zAa Q2.out;have HRP:=zAd (zG2 1 5 en 167772162 po (.slice am zm.length cm) (.slice xa tx.length xc) zm tx W9 M9.out.rd RX.out (by omega) (by omega) (by omega));clear HFD HEX;go_wp2_with fail;refine HRP.out.mono ?_;rintro e w9 ⟨x9,c9,rfl,hO9,l9⟩;have l9':Later W9 w9:=l9;clear k8 k9 HRP l9;go_wp2_with fail;refine bodyPost_ret (v:= .slice x9 (rpl 5 en zm tx).length c9) (by simp[results,Tryz.results358,go_sem]) rfl ?_;rw[HZ2.out]at hO9⊢;exact⟨x9,c9,rfl,KW.out.trans (Kgl.of_kg (KG.of_later l9')),hVL _ _ V9.out l9',hO9.mono (by have:=KW.out.size;omega)⟩
 case true=>
  obtain⟨rfl,hRx,hVx⟩:=hfd rfl;have RX:=zAd hRx;have V9:=zAd hVx;have KW:=zAd (Kgl.of_kg (KG.of_later (base:=base) L6));have Q1:=zAd J1.out;have Q2:=zAd J2.out;have M9:=zAd (HM.out.later L6);clear J0 J1 J2 hRx hVx HM HC hfd;generalize av=xa at*;generalize cv=xc at*;obtain⟨W9,hW9⟩:∃W,W=w6:=⟨_,rfl⟩;subst hW9;have k8:=zAa Q1.out;have k9:=zAa Q2.out;have HRP:=zAd (zG2 1 5 en 167772162 po (.slice am zm.length cm) (.slice xa tx.length xc) zm tx W9 M9.out.rd RX.out (by omega) (by omega) (by omega));clear HFD HEX;go_wp2_with fail;refine HRP.out.mono ?_;rintro e w9 ⟨x9,c9,rfl,hO9,l9⟩;have l9':Later W9 w9:=l9;clear k8 k9 HRP l9;go_wp2_with fail;refine bodyPost_ret (v:= .slice x9 (rpl 5 en zm tx).length c9) (by simp[results,Tryz.results358,go_sem]) rfl ?_;rw[HZ2.out]at hO9⊢;exact⟨x9,c9,rfl,KW.out.trans (Kgl.of_kg (KG.of_later l9')),hVL _ _ V9.out l9',hO9.mono (by have:=KW.out.size;omega)⟩
def dg (n:Nat):List Int:=zBe (zC8 n)
theorem dg_eq(n:Nat):dg n=(Lib.decDigits n).map fun b=>(b.toNat:Int):=rfl
theorem zEv {n:Nat} (h:n<10):dg n=[48+(n:Int)]:=by
 rw[dg_eq,Lib.decDigits,dif_pos h];simp
 omega
theorem zQa {n:Nat} (h:10≤n):dg n=dg (n/10)++[48+((n % 10:Nat):Int)]:=by
 rw[dg_eq,Lib.decDigits,dif_neg (by omega),List.map_append,←dg_eq];simp
 omega
theorem zVs(n:Nat):0<(dg n).length:=by
 by_cases h:n<10
 ·rw[zEv h];simp
 ·rw[zQa (by omega)];simp
theorem zVt:∀(n:Nat),∀z∈dg n,dgt z=true:=by
 intro n
 induction n using Nat.strongRecOn with
 | ind n ih=>
  intro z hz
  by_cases h:n<10
  ·rw[zEv h]at hz
   simp at hz
   subst hz;unfold dgt;simp
   omega
  ·rw[zQa (by omega)]at hz
   rcases List.mem_append.1 hz with hz|hz
   ·exact ih (n/10) (by omega) z hz
   ·simp only[List.mem_singleton]at hz
    subst hz;unfold dgt;simp
    omega
theorem zG7(s:ByteArray)(i:Nat)(h:i<s.size):bAt s i=(zBe s)[i]?.getD 0:=by
 unfold bAt zBe;have h':i<s.data.toList.length:=by rw[Array.length_toList];exact h
 rw[List.getElem?_map,List.getElem?_eq_getElem h'];simp only[Option.map_some,Option.getD_some,ByteArray.get!];rw[getElem!_pos s.data i h];simp
theorem zJv(s:ByteArray):strOfNums (zBe s)=s:=by
 cases s with
 | mk d=>
  unfold strOfNums zBe;congr 1
  rw[List.map_map]
  have:((fun n:Int=>UInt8.ofNat n.toNat) ∘ fun b:UInt8=>(b.toNat:Int))=id:=by
   funext b
   simp
  rw[this];simp
theorem zLm {s:ByteArray} {most:Int} {pos:Nat} {n:Int} (h:pos<s.size)(hd:dgt (bAt s pos)=true)(h0:¬(0<pos∧n=0))(hm:n*10+(bAt s pos-48)≤most):
  zFv s most (s.size-pos) pos n=zFv s most (s.size-(pos+1)) (pos+1) (n*10+(bAt s pos-48)):=by
 rw[show s.size-pos=(s.size-(pos+1))+1 by omega];show(if _ then _ else if _ then _ else if _ then _ else _)=_
 rw[if_neg (by rw[hd];simp),if_neg h0,if_neg (by omega)]
theorem zVu {l:List Int} {k i:Nat} {r:List Int} (h:l.take k=r)(hi:i<r.length):l[i]?.getD 0=r[i]?.getD 0:=by
 have hk:i<k:=by rw[←h,List.length_take]at hi;omega
 rw[←h,List.getElem?_take,if_pos hk]
theorem reads_dg(s:ByteArray)(most:Int):∀n:Nat,(zBe s).take (dg n).length=dg n→(n:Int)≤most→zFv s most s.size 0 0=zFv s most (s.size-(dg n).length) (dg n).length n:=by
 intro n
 induction n using Nat.strongRecOn with
 | ind n ih=>
  intro h hm
  have hsz:(dg n).length≤s.size:=by
   have:=congrArg List.length h;rw[List.length_take,zAz]at this;omega
  by_cases hn:n<10
  ·have hl:(dg n).length=1:=by rw[zEv hn];rfl
   have h0:=zVu h (i:=0) (by omega);rw[←zG7 _ _ (by omega),zEv hn]at h0;simp only[List.getElem?_cons_zero,Option.getD_some]at h0;rw[hl];have:=zLm (s:=s) (most:=most) (pos:=0) (n:=0) (by omega) (by rw[h0];unfold dgt;simp;omega) (by omega) (by rw[h0];omega);rw[Nat.sub_zero,h0]at this;rw[this];congr 1
   omega
  ·have hb:=zQa (n:=n) (by omega)
   have hl:(dg n).length=(dg (n/10)).length+1:=by rw[hb,List.length_append];rfl
   have h1:(zBe s).take (dg (n/10)).length=dg (n/10):=by
    have h2:=congrArg (List.take (dg (n/10)).length) h;rw[List.take_take,Nat.min_eq_left (by omega)]at h2;rw[h2,hb,List.take_left]
   rw[ih (n/10) (by omega) h1 (by omega)];have h0:=zVu h (i:=(dg (n/10)).length) (by omega);rw[←zG7 _ _ (by omega)]at h0
   have h3:(dg n)[(dg (n/10)).length]?.getD 0=48+((n % 10:Nat):Int):=by
    rw[hb,List.getElem?_append_right (Nat.le_refl _)];simp
   rw[h3]at h0;have:=zLm (s:=s) (most:=most) (pos:=(dg (n/10)).length) (n:=((n/10:Nat):Int)) (by omega) (by rw[h0];unfold dgt;simp;omega) (by omega) (by rw[h0];omega);rw[this,h0,hl];congr 1
   omega
theorem numV_dg(n:Nat)(most:Int)(h:(n:Int)≤most):zC6 (zC8 n) most=some (n:Int):=by
 unfold zC6;have hs:(zC8 n).size=(dg n).length:=(zAz _).symm;have hp:=zVs n;rw[if_neg (by omega),reads_dg (zC8 n) most n (by show(dg n).take _=_;rw[List.take_length]) h,hs,Nat.sub_self];rfl
theorem dgZ_at(pre l suf:List Int)(hd:∀z∈l,dgt z=true)(hs:dgt (suf[0]?.getD 0)=false):dgZ (pre++(l++suf)) pre.length=pre.length+l.length:=by
 induction l generalizing pre with
 | nil=>
  simp only[List.nil_append,List.length_nil,Nat.add_zero];cases suf with
  |nil=>exact zVc (by simp)
  |cons c r=>
   refine zPx (by simp) ?_;rw[List.getElem?_append_right (Nat.le_refl _),Nat.sub_self];exact hs
 |cons c r ih=>
  have h1:pre++((c::r)++suf)=(pre++[c])++(r++suf):=by simp
  have h2:=ih (pre++[c]) (fun z hz=>hd z (by simp[hz]));rw[dgZ_go (by simp) (by rw[List.getElem?_append_right (Nat.le_refl _),Nat.sub_self];exact hd c (by simp)),h1];rw[show pre.length+1=(pre++[c]).length by simp,h2];simp
  omega
theorem dgS_at2(pre l suf:List Int)(hB:Mt.By l)(hd:∀z∈l,dgt z=true)(hs:dgt (suf[0]?.getD 0)=false):dgS (pre++(l++suf)) pre.length=strOfNums l:=by
 unfold dgS;rw[dgZ_at pre l suf hd hs,List.drop_left,Nat.add_sub_cancel_left,List.take_left]
theorem zVx(n:Nat):Mt.By (dg n):=zJs _
theorem num_at(pre suf:List Int)(n:Nat)(most:Int)(h:(n:Int)≤most)(hs:dgt (suf[0]?.getD 0)=false):zC6 (dgS (pre++(dg n++suf)) pre.length) most=some (n:Int)∧dgZ (pre++(dg n++suf)) pre.length=pre.length+(dg n).length:=by
 refine⟨?_,dgZ_at _ _ _ (zVt n) hs⟩;rw[dgS_at2 _ _ _ (zVx n) (zVt n) hs];show zC6 (strOfNums (zBe (zC8 n))) most=_
 rw[zJv];exact numV_dg n most h
theorem tk_one(zs:List Int)(hz:Mt.By zs)(p:Nat)(c:UInt8)(hc:c.toNat<65):tkB zs p ⟨#[c]⟩=true↔zs.drop p=(c.toNat:Int)::zs.drop (p+1):=by
 unfold tkB swV;have hsz:(⟨#[c]⟩:ByteArray).size=1:=rfl;rw[hsz,strOfNums_size];by_cases hp:p<zs.length
 ·have h1:(zs.drop p).take 1=[zs[p]]:=by rw[List.drop_eq_getElem_cons hp];rfl
  rw[h1];have hb:=hz zs[p] (List.getElem_mem hp)
  have h2:bAt (strOfNums [zs[p]]) 0=zs[p]:=by
   have:=zFy [zs[p]] (fun z h=>by simp at h;subst h;exact hb) 0 (by simp);simpa using this
  have h3:bAt ⟨#[c]⟩ 0=(c.toNat:Int):=rfl;simp only[List.length_singleton,decide_true,Bool.true_and,swP,h2,h3,Nat.zero_add];rw[List.drop_eq_getElem_cons hp];simp only[List.cons.injEq,and_true];have h4:sml (c.toNat:Int)=(c.toNat:Int):=by unfold sml;rw[if_neg (by omega)]
  rw[h4];have h5:decide (p+1≤zs.length)=true:=by simp;omega
  rw[h5];simp only[Bool.true_and];constructor
  ·intro h
   split at h
   ·rename_i h6
    unfold sml at h6;split at h6<;>omega
   ·cases h
  ·intro h
   rw[if_pos (by rw[h,h4])]
 ·have h5:decide (p+1≤zs.length)=false:=by simp;omega
  rw[h5];simp only[Bool.false_and,Bool.false_eq_true,false_iff];rw[List.drop_of_length_le (by omega)];simp
def zBz (c:UInt8):Nat→List Int→List Int
 |_,[]=>[]
 |i,v::r=>(if i=0 then []else [(c.toNat:Int)])++(dg v.toNat++zBz c (i+1) r)
theorem zBk(c:UInt8)(i:Nat)(v:Int)(r:List Int):zBz c i (v::r)=(if i=0 then []else [(c.toNat:Int)])++(dg v.toNat++zBz c (i+1) r):=rfl
theorem zNr(c:UInt8)(hc:c.toNat<48):∀(x:List Int) (i:Nat),Mt.By x→Mt.By (zBz c i x)
 | [],i,_=>Mt.By.nil
 | v::r,i,h=>by
  intro z hz
  rw[zBk]at hz;simp only[List.mem_append]at hz;rcases hz with hz|hz|hz
  ·split at hz
   ·simp at hz
   ·simp at hz;omega
  ·exact zVx _ z hz
  ·exact zNr c hc r (i+1) (fun z hz=>h z (by simp[hz])) z hz
theorem zQb(c:UInt8)(hc:c.toNat<48):∀(x:List Int) (i:Nat) (pre suf:List Int),Mt.By pre→Mt.By suf→Mt.By x→dgt (suf[0]?.getD 0)=false→
  zFe (pre++(zBz c i x++suf)) ⟨#[c]⟩ x.length i pre.length=some (x,pre.length+(zBz c i x).length)
 | [],i,pre,suf,_,_,_,_=>by simp[zFe,zBz]
 | v ::r,i,pre,suf,hp,hs,hx,hd=>by
  have hv:=hx v (by simp);have hr:Mt.By r:=fun z hz=>hx z (by simp[hz]);have hrw:Mt.By (zBz c (i+1) r):=zNr c hc r (i+1) hr;obtain⟨m,hm⟩:∃m,m=(if i=0 then []else [(c.toNat:Int)]:List Int):=⟨_,rfl⟩;have hmb:Mt.By m:=by rw[hm];split;(· exact Mt.By.nil);(· intro z hz;simp at hz;omega)
  have e:pre++(zBz c i (v::r)++suf)=(pre++m)++(dg v.toNat++(zBz c (i+1) r++suf)):=by rw[zBk,←hm];simp
  have hd2:dgt ((zBz c (i+1) r++suf)[0]?.getD 0)=false:=by
   cases r with
   |nil=>exact hd
   |cons a b=>rw[zBk];simp;unfold dgt;simp;omega
  obtain⟨n1,n2⟩:=num_at (pre++m) (zBz c (i+1) r++suf) v.toNat 255 (by omega) hd2
  have hall:Mt.By (pre++(zBz c i (v::r)++suf)):=by
   rw[e];intro z hz
   simp only[List.mem_append]at hz;rcases hz with(hz|hz)|hz|hz|hz
   ·exact hp z hz
   ·exact hmb z hz
   ·exact zVx _ z hz
   ·exact hrw z hz
   ·exact hs z hz
  have hnx:nxP (pre++(zBz c i (v::r)++suf)) ⟨#[c]⟩ i pre.length=some (pre++m).length:=by
   unfold nxP;by_cases h0:i=0
   ·rw[if_pos h0,hm,if_pos h0];simp
   ·rw[if_neg h0,if_pos]
    ·rw[hm,if_neg h0];simp;rfl
    ·rw[tk_one _ hall _ _ (by omega)]
     rw[List.drop_left];rw[zBk,if_neg h0];rw[List.drop_append];simp
  show(nxP _ _ _ _).bind _=_
  rw[hnx,Option.bind_some];rw[e]at*;rw[n1,Option.bind_some,n2]
  have ih:=zQb c hc r (i+1) (pre++m++dg v.toNat) suf (fun z hz=>by
   simp only[List.mem_append]at hz;rcases hz with(hz|hz)|hz
   ·exact hp z hz
   ·exact hmb z hz
   ·exact zVx _ z hz) hs hr hd
  rw[show (pre++m)++(dg v.toNat++(zBz c (i+1) r++suf))=(pre++m++dg v.toNat)++(zBz c (i+1) r++suf) by simp];rw[show (pre++m).length+(dg v.toNat).length=(pre++m++dg v.toNat).length from(List.length_append).symm,ih];have hvv:((v.toNat:Nat):Int)=v:=by omega
  simp only[Option.map_some,hvv];congr 2
  rw[zBk,←hm];simp only[List.length_append];omega
theorem zVz(c:UInt8):∀(r:List Int) (i j:Nat),i≠0→j≠0→zBz c i r=zBz c j r
 | [],_,_,_,_=>rfl
 |v::r,i,j,hi,hj=>by rw[zBk,zBk,if_neg hi,if_neg hj,zVz c r (i+1) (j+1) (by omega) (by omega)]
theorem zV0(c:UInt8):∀x:List Int,zBe (zG6 ⟨#[c]⟩ x)=zBz c 0 x
 | []=>rfl
 | v::r=>by
  have key:∀(r:List Int) (v:Int),(Lib.join (((v::r).map fun z=>zC8 z.toNat).map (·.data.toList)) [c]).map (fun b:UInt8=>(b.toNat:Int))=dg v.toNat++zBz c 1 r:=by
   intro r
   induction r with
   |nil=>intro v;simp[Lib.join,zBz,dg,zBe]
   |cons u r ih=>
    intro v
    have h1:=ih u;simp only[List.map_cons]at h1⊢;rw[zP5,List.map_append,List.map_append,h1,zBk];have h2:zBz c 2 r=zBz c 1 r:=zVz c r 2 1 (by omega) (by omega);rw[if_neg (by omega),h2];rfl
  have h0:zBe (zG6 ⟨#[c]⟩ (v::r))=(Lib.join (((v::r).map fun z=>zC8 z.toNat).map (·.data.toList)) [c]).map (fun b:UInt8=>(b.toNat:Int)):=by
   unfold zBe zG6;simp
  rw[h0,key,zBk,if_pos rfl];rfl
theorem oneL_mk(l:List Int):zJ5 (l++[13,10])=(decide (l.length≤126) && !(crl l)):=by
 unfold zJ5 zJ4;have e1:(l++[13,10]).length-2=l.length:=by simp
 simp only[List.length_cons,List.length_nil,e1,List.drop_left,List.take_left,List.length_append];have e2:decide (l.length+2≤128)=decide (l.length≤126):=by congr 1;simp
 simp[e2]
theorem zJw(a b:List Int):crl (a++b)=(crl a||crl b):=by unfold crl;rw[List.any_append]
end Go.Proofs.YteaeilghamjjkaaGreatDoor
