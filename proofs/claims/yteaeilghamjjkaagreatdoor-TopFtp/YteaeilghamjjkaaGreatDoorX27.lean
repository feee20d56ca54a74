import Derived.Test.YteaeilghamjjkaaGreatDoorX28
import Derived.Deep.DeepCutAuto
import Derived.Deep.CutBlock
namespace Go.Proofs.YteaeilghamjjkaaGreatDoor
set_option maxHeartbeats 8000000
open Go.RowKit Go.Shelf
set_option maxRecDepth 100000
set_option linter.unusedVariables false
set_option linter.unusedSimpArgs false
structure Tu where
 pr:Int
 src:Int
 dst:Int
 sp:Int
 dp:Int
deriving DecidableEq
def tuc (t:Tu):List Value:=[.int .u8 t.pr,.int .u32 t.src,.int .u32 t.dst,.int .u16 t.sp,.int .u16 t.dp]
def crX (e:Ex):Bool:=(decide (e.pr=6)||decide (e.pr=17)) && decide (e.sp=0)||decide (e.pr=47)
def rtX (e:Ex):Bool:=crX e && (decide (e.dst≠0) && (decide (e.dp≠0) && (decide (e.host≠0) && (decide (e.hp≠0) && (decide (0≤e.ms) && (decide (0≤e.dl) && decide (e.dl≤1099511627776)))))))
def alX (e x:Ex):Bool:=decide (x.pr=e.pr) && (decide (x.dst=e.dst) && decide (x.dp=e.dp))
def ftX (t:Tu) (e:Ex):Bool:=decide (t.pr=e.pr) && (decide (t.dst=e.dst) && (decide (t.dp=e.dp) && (decide (e.src=0)||decide (t.src=e.src))))
def pkX (t:Tu) (now:Int) (e:Ex):Bool:=ftX t e && decide (now<e.dl)
theorem zIx(e:Ex)(w:World):Calls Tryz.prog 397 #[.agg (exc e).toArray] w fun en w'=>en= .returned (.bool (crX e))∧Later w w':=by
 obtain⟨pr,src,dst,sp,dp,host,hp,ms,dl⟩:=e;unfold exc crX;simp only;have lb0:Later w (w.alloc (.cells #[.int .u8 pr,.int .u32 src,.int .u32 dst,.int .u16 sp,.int .u16 dp,.int .u32 host,.int .u16 hp,.int .i64 ms,.int .i64 dl] 172)):=bA _ _;have c0:=zAa (heap_alloc_new w (.cells #[.int .u8 pr,.int .u32 src,.int .u32 dst,.int .u16 sp,.int .u16 dp,.int .u32 host,.int .u16 hp,.int .i64 ms,.int .i64 dl] 172));go_enter Tryz.func397,Tryz.ntmps397;go_upto_region 1 with fail;generalize w.alloc (.cells #[.int .u8 pr,.int .u32 src,.int .u32 dst,.int .u16 sp,.int .u16 dp,.int .u32 host,.int .u16 hp,.int .i64 ms,.int .i64 dl] 172)=w0 at*;by_cases h6:pr=6
 ·subst h6
  go_wp2_with fail
  all_goals go_ret
  all_goals exact⟨by simp_all<;>rfl,lb0⟩
 ·by_cases h17:pr=17
  ·subst h17
   go_wp2_with fail
   all_goals go_ret
   all_goals exact⟨by simp_all<;>rfl,lb0⟩
  ·by_cases h47:pr=47
   ·subst h47
    go_wp2_with fail;go_ret
    exact⟨by simp_all,lb0⟩
   ·go_wp2_with fail
    go_ret
    exact⟨by simp_all,lb0⟩
theorem zL9(e:Ex)(w:World):Calls Tryz.prog 393 #[.agg (exc e).toArray] w fun en w'=>en= .returned (.bool (rtX e))∧Later w w':=by
 have HCR:=zAd (fun W=>zIx e W);generalize hcr:crX e=cr at*;have HQ:Hid (rtX e=(cr && (decide (e.dst≠0) && (decide (e.dp≠0) && (decide (e.host≠0) && (decide (e.hp≠0) && (decide (0≤e.ms) && (decide (0≤e.dl) && decide (e.dl≤1099511627776))))))))):=by show _=_;unfold rtX;rw[hcr]
 rw[HQ.out];clear HQ hcr;obtain⟨pr,src,dst,sp,dp,host,hp,ms,dl⟩:=e;unfold exc at*;simp only at*;have lb0:Later w (w.alloc (.cells #[.int .u8 pr,.int .u32 src,.int .u32 dst,.int .u16 sp,.int .u16 dp,.int .u32 host,.int .u16 hp,.int .i64 ms,.int .i64 dl] 172)):=bA _ _;have c0:=heap_alloc_new w (.cells #[.int .u8 pr,.int .u32 src,.int .u32 dst,.int .u16 sp,.int .u16 dp,.int .u32 host,.int .u16 hp,.int .i64 ms,.int .i64 dl] 172);have k0:=zAa c0;go_enter Tryz.func393,Tryz.ntmps393;go_wp2_with fail;generalize w.alloc (.cells #[.int .u8 pr,.int .u32 src,.int .u32 dst,.int .u16 sp,.int .u16 dp,.int .u32 host,.int .u16 hp,.int .i64 ms,.int .i64 dl] 172)=w0 at*;refine(HCR.out w0).mono ?_;rintro e w1 ⟨rfl,l1⟩;have L1:Later w w1:=lb0.trans l1;have k1:=zAa (zAb l1 c0);clear k0 c0 HCR;cases cr with
 |false=>
  go_wp2_with fail;go_ret
  exact⟨by simp,L1⟩
 | true=>
  by_cases h1:dst=0
  ·subst h1
   go_wp2_with fail;go_ret
   exact⟨by simp,L1⟩
  by_cases h2:dp=0
  ·subst h2
   go_wp2_with fail;go_ret
   exact⟨by simp,L1⟩
  by_cases h3:host=0
  ·subst h3
   go_wp2_with fail;go_ret
   exact⟨by simp,L1⟩
  by_cases h4:hp=0
  ·subst h4
   go_wp2_with fail;go_ret
   exact⟨by simp,L1⟩
  by_cases h5:0≤ms
  ·by_cases h6:0≤dl
   ·by_cases h7:dl≤1099511627776
    ·go_wp2_with fail
     go_ret
     exact⟨by first|(simp[*];done)|(simp[*];omega),L1⟩
    ·go_wp2_with fail
     go_ret
     exact⟨by first|(simp[*];done)|(simp[*];omega),L1⟩
   ·go_wp2_with fail
    go_ret
    exact⟨by first|(simp[*];done)|(simp[*];omega),L1⟩
  ·go_wp2_with fail
   go_ret
   exact⟨by first|(simp[*];done)|(simp[*];omega),L1⟩
theorem zQr(x e:Ex)(eb:Nat)(w:World)(hc:w.heap[eb]? =some (.cells (exc e).toArray 172 (0,0))):
  Calls Tryz.prog 398 #[.agg (exc x).toArray,.pointer (some ⟨eb,0,none⟩)] w fun en w'=>en= .returned (.bool (alX e x))∧Later w w':=by
 obtain⟨pr,src,dst,sp,dp,host,hp,ms,dl⟩:=x;obtain⟨p2,s2,d2,sp2,dp2,h2,hp2,m2,l2⟩:=e;unfold exc alX at*;simp only at*;have lb0:Later w (w.alloc (.cells #[.int .u8 pr,.int .u32 src,.int .u32 dst,.int .u16 sp,.int .u16 dp,.int .u32 host,.int .u16 hp,.int .i64 ms,.int .i64 dl] 172)):=bA _ _;have c0:=zAa (heap_alloc_new w (.cells #[.int .u8 pr,.int .u32 src,.int .u32 dst,.int .u16 sp,.int .u16 dp,.int .u32 host,.int .u16 hp,.int .i64 ms,.int .i64 dl] 172));have cx:=zAa (zAb lb0 hc);clear hc;go_enter Tryz.func398,Tryz.ntmps398;go_upto_region 1 with fail;generalize w.alloc (.cells #[.int .u8 pr,.int .u32 src,.int .u32 dst,.int .u16 sp,.int .u16 dp,.int .u32 host,.int .u16 hp,.int .i64 ms,.int .i64 dl] 172)=w0 at*;by_cases e1:pr=p2
 ·subst e1
  by_cases e2:dst=d2
  ·subst e2
   by_cases e3:dp=dp2
   ·subst e3
    go_wp2_with fail;go_ret
    exact⟨by simp,lb0⟩
   ·go_wp2_with fail
    go_ret
    exact⟨by simp[*],lb0⟩
  ·go_wp2_with fail
   go_ret
   exact⟨by simp[*],lb0⟩
 ·go_wp2_with fail
  go_ret
  exact⟨by simp[*],lb0⟩
theorem zQs(t:Tu)(e:Ex)(w:World):Calls Tryz.prog 318 #[.agg (tuc t).toArray,.agg (exc e).toArray] w fun en w'=>en= .returned (.bool (ftX t e))∧Later w w':=by
 obtain⟨tp,ts,td,ta,tb⟩:=t;obtain⟨pr,src,dst,sp,dp,host,hp,ms,dl⟩:=e;unfold exc tuc ftX;simp only;have lb0:Later w ((w.alloc (.cells #[.int .u8 tp,.int .u32 ts,.int .u32 td,.int .u16 ta,.int .u16 tb] 103)).alloc (.cells #[.int .u8 pr,.int .u32 src,.int .u32 dst,.int .u16 sp,.int .u16 dp,.int .u32 host,.int .u16 hp,.int .i64 ms,.int .i64 dl] 172)):=(bA _ _).alloc (by simp) _;have c0:((w.alloc (.cells #[.int .u8 tp,.int .u32 ts,.int .u32 td,.int .u16 ta,.int .u16 tb] 103)).alloc (.cells #[.int .u8 pr,.int .u32 src,.int .u32 dst,.int .u16 sp,.int .u16 dp,.int .u32 host,.int .u16 hp,.int .i64 ms,.int .i64 dl] 172)).heap[w.heap.size]? =_:=(Below.heap_alloc _ _ _ (by simp)).trans (heap_alloc_new w _)
 have c1:((w.alloc (.cells #[.int .u8 tp,.int .u32 ts,.int .u32 td,.int .u16 ta,.int .u16 tb] 103)).alloc (.cells #[.int .u8 pr,.int .u32 src,.int .u32 dst,.int .u16 sp,.int .u16 dp,.int .u32 host,.int .u16 hp,.int .i64 ms,.int .i64 dl] 172)).heap[w.heap.size+1]? =some (.cells #[.int .u8 pr,.int .u32 src,.int .u32 dst,.int .u16 sp,.int .u16 dp,.int .u32 host,.int .u16 hp,.int .i64 ms,.int .i64 dl] 172):=by
  have:=heap_alloc_new (w.alloc (.cells #[.int .u8 tp,.int .u32 ts,.int .u32 td,.int .u16 ta,.int .u16 tb] 103)) (.cells #[.int .u8 pr,.int .u32 src,.int .u32 dst,.int .u16 sp,.int .u16 dp,.int .u32 host,.int .u16 hp,.int .i64 ms,.int .i64 dl] 172);rwa [World.size_alloc]at this
 have k0:=zAa c0;have k1:=zAa c1;clear c0 c1;go_enter Tryz.func318,Tryz.ntmps318;go_upto_region 1 with fail;generalize (w.alloc _).alloc _=w0 at*;by_cases e1:tp=pr
 ·subst e1
  by_cases e2:td=dst
  ·subst e2
   by_cases e3:tb=dp
   ·subst e3
    by_cases e4:src=0
    ·subst e4
     go_wp2_with fail;go_ret
     exact⟨by simp,lb0⟩
    ·by_cases e5:ts=src
     ·subst e5
      go_wp2_with fail;go_ret
      exact⟨by simp,lb0⟩
     ·go_wp2_with fail
      go_ret
      exact⟨by simp[*],lb0⟩
   ·go_wp2_with fail
    go_ret
    exact⟨by simp[*],lb0⟩
  ·go_wp2_with fail
   go_ret
   exact⟨by simp[*],lb0⟩
 ·go_wp2_with fail
  go_ret
  exact⟨by simp[*],lb0⟩
theorem zSy(x:Ex)(t:Tu)(now:Int)(tb nb:Nat)(w:World)(hc1:w.heap[tb]? =some (.cells (tuc t).toArray 103 (0,0)))(hc2:w.cell? ⟨nb,0,none⟩=some (.int .i64 now)):
  Calls Tryz.prog 317 #[.agg (exc x).toArray,.pointer (some ⟨tb,0,none⟩),.pointer (some ⟨nb,0,none⟩)] w fun en w'=>en= .returned (.bool (pkX t now x))∧Later w w':=by
 have HF:=zAd (fun W=>zQs t x W);have HQ:Hid (pkX t now x=(ftX t x && decide (now<x.dl))):=rfl;rw[HQ.out];clear HQ;generalize ftX t x=q at*;obtain⟨tp,ts,td,ta,tq⟩:=t;obtain⟨pr,src,dst,sp,dp,host,hp,ms,dl⟩:=x;unfold exc tuc at*;simp only at*;have lb0:Later w (w.alloc (.cells #[.int .u8 pr,.int .u32 src,.int .u32 dst,.int .u16 sp,.int .u16 dp,.int .u32 host,.int .u16 hp,.int .i64 ms,.int .i64 dl] 172)):=bA _ _;have c0:=heap_alloc_new w (.cells #[.int .u8 pr,.int .u32 src,.int .u32 dst,.int .u16 sp,.int .u16 dp,.int .u32 host,.int .u16 hp,.int .i64 ms,.int .i64 dl] 172);have k0:=zAa c0;have d1:=zAa (zAb lb0 hc1);have d2:=lb0.cell hc2;clear hc1 hc2;go_enter Tryz.func317,Tryz.ntmps317;go_wp2_with fail;generalize w.alloc (.cells #[.int .u8 pr,.int .u32 src,.int .u32 dst,.int .u16 sp,.int .u16 dp,.int .u32 host,.int .u16 hp,.int .i64 ms,.int .i64 dl] 172)=w0 at*;refine(HF.out w0).mono ?_;rintro e w1 ⟨rfl,l1⟩;have L1:Later w w1:=lb0.trans l1;have k1:=zAa (zAb l1 c0);have d3:=l1.cell d2;clear k0 c0 HF d1 d2;cases q with
 |false=>
  go_wp2_with fail;go_ret
  exact⟨by simp,L1⟩
 |true=>
  go_wp2_with fail;go_ret
  exact⟨by simp,L1⟩
theorem zQt(y x:Ex)(xb:Nat)(w:World)(hc:w.heap[xb]? =some (.cells (exc x).toArray 172 (0,0))):
  Calls Tryz.prog 319 #[.agg (exc y).toArray,.pointer (some ⟨xb,0,none⟩)] w fun e w'=>e= .returned (.bool (decide (y=x)))∧Later w w':=by
 obtain⟨pr,src,dst,sp,dp,host,hp,ms,dl⟩:=y;obtain⟨p2,s2,d2,sp2,dp2,h2,hp2,m2,l2⟩:=x;unfold exc at*;simp only at*;have lb0:Later w (w.alloc (.cells #[.int .u8 pr,.int .u32 src,.int .u32 dst,.int .u16 sp,.int .u16 dp,.int .u32 host,.int .u16 hp,.int .i64 ms,.int .i64 dl] 172)):=bA _ _;have c0:=zAa (heap_alloc_new w (.cells #[.int .u8 pr,.int .u32 src,.int .u32 dst,.int .u16 sp,.int .u16 dp,.int .u32 host,.int .u16 hp,.int .i64 ms,.int .i64 dl] 172));have cx:=zAa (zAb lb0 hc);clear hc;go_enter Tryz.func319,Tryz.ntmps319;go_upto_region 1 with fail;generalize w.alloc (.cells #[.int .u8 pr,.int .u32 src,.int .u32 dst,.int .u16 sp,.int .u16 dp,.int .u32 host,.int .u16 hp,.int .i64 ms,.int .i64 dl] 172)=w0 at*;go_wp2_with fail
 all_goals go_ret
 all_goals exact⟨by simp_all<;>rfl,lb0⟩
theorem of1_any(y:Ex)(m:Int)(mb:Nat)(w:World)(hc:w.cell? ⟨mb,0,none⟩=some (.int .i64 m)):
  Calls Tryz.prog 223 #[.agg (exc y).toArray,.pointer (some ⟨mb,0,none⟩)] w fun e w'=>e= .returned (.bool (decide (y.ms=m)))∧Later w w':=by
 obtain⟨pr,src,dst,sp,dp,host,hp,ms,dl⟩:=y;unfold exc at*;simp only at*;have lb0:Later w (w.alloc (.cells #[.int .u8 pr,.int .u32 src,.int .u32 dst,.int .u16 sp,.int .u16 dp,.int .u32 host,.int .u16 hp,.int .i64 ms,.int .i64 dl] 172)):=bA _ _;have c0:=zAa (heap_alloc_new w (.cells #[.int .u8 pr,.int .u32 src,.int .u32 dst,.int .u16 sp,.int .u16 dp,.int .u32 host,.int .u16 hp,.int .i64 ms,.int .i64 dl] 172));have cx:=lb0.cell hc;clear hc;go_enter Tryz.func223,Tryz.ntmps223;go_upto_region 1 with fail;generalize w.alloc (.cells #[.int .u8 pr,.int .u32 src,.int .u32 dst,.int .u16 sp,.int .u16 dp,.int .u32 host,.int .u16 hp,.int .i64 ms,.int .i64 dl] 172)=w0 at*;go_wp2_with fail
 all_goals go_ret
 all_goals exact⟨by first|rfl|simp_all,lb0⟩
theorem due1_any(y:Ex)(m:Int)(mb:Nat)(w:World)(hc:w.cell? ⟨mb,0,none⟩=some (.int .i64 m)):
  Calls Tryz.prog 111 #[.agg (exc y).toArray,.pointer (some ⟨mb,0,none⟩)] w fun e w'=>e= .returned (.bool (decide (y.dl≤m)))∧Later w w':=by
 obtain⟨pr,src,dst,sp,dp,host,hp,ms,dl⟩:=y;unfold exc at*;simp only at*;have lb0:Later w (w.alloc (.cells #[.int .u8 pr,.int .u32 src,.int .u32 dst,.int .u16 sp,.int .u16 dp,.int .u32 host,.int .u16 hp,.int .i64 ms,.int .i64 dl] 172)):=bA _ _;have c0:=zAa (heap_alloc_new w (.cells #[.int .u8 pr,.int .u32 src,.int .u32 dst,.int .u16 sp,.int .u16 dp,.int .u32 host,.int .u16 hp,.int .i64 ms,.int .i64 dl] 172));have cx:=lb0.cell hc;clear hc;go_enter Tryz.func111,Tryz.ntmps111;go_upto_region 1 with fail;generalize w.alloc (.cells #[.int .u8 pr,.int .u32 src,.int .u32 dst,.int .u16 sp,.int .u16 dp,.int .u32 host,.int .u16 hp,.int .i64 ms,.int .i64 dl] 172)=w0 at*;go_wp2_with fail
 all_goals go_ret
 all_goals exact⟨by first|rfl|simp_all,lb0⟩
def ixP (q:Ex→Bool) (l:List Ex) (e:Ending):Prop:=(∃k,∃h:k<l.length,e= .returned (.int .i64 (k:Int))∧q l[k]=true∧∀x∈l.take k,q x=false)∨(e= .returned (.int .i64 (-1))∧∀x∈l,q x=false)
theorem zGb(n₀ cf:Nat)(lb:Array Value)(v:Value)(l:List Ex)(q:Ex→Bool)(w:World)(hR:RdV n₀ w v l)(hn:n₀≤w.heap.size)(hl:l.length≤5000)
  (eg:∀args w,(callFunc cf args).run Tryz.prog w= .ok (.enter cf args) w)
  (hcl:∀x∈l,∀W,Later w W→Calls Tryz.prog cf (#[.agg (exc x).toArray]++lb) W fun e W'=>e= .returned (.bool (q x))∧Later W W'):
  Calls Tryz.prog 316 #[v,.func (.func cf) #[] lb] w fun e w'=>ixP q l e∧Later w w':=by
 obtain⟨sa,cap,rfl,hc1,hc2⟩:=hR.slice;have HR:=zAd hR;have HCL:=zAd hcl;have HEG:=zAd eg;have hli:(l.length:Int)≤5000:=by omega
 clear hR hcl eg;go_enter Tryz.func316,Tryz.ntmps316;go_wp2_with fail;go_loopw [8] (fun i wr=>∃k:Nat,k≤l.length∧i= .int .i64 (k:Int)∧(∀x∈l.take k,q x=false)∧Later w wr) (fun i _=>l.length-(intOf i).toNat)
 case atStart=>exact⟨0,by omega,rfl,by simp,Later.refl _⟩
 case round=>
  obtain⟨k,hk,rfl,hno,lr⟩:=hrel;have HNO:=zAd hno;clear hno;by_cases hkl:k<l.length
  ·obtain ⟨g,off,cp,e,_,_,hgn,hcs⟩:=(HR.out.below (lr.mono hn)).cells (by omega)
   simp at e
   obtain⟨rfl,rfl⟩:=e;have c0:=hcs k hkl 0 (by omega);have c1:=hcs k hkl 1 (by omega);have c2:=hcs k hkl 2 (by omega);have c3:=hcs k hkl 3 (by omega);have c4:=hcs k hkl 4 (by omega);have c5:=hcs k hkl 5 (by omega);have c6:=hcs k hkl 6 (by omega);have c7:=hcs k hkl 7 (by omega);have c8:=hcs k hkl 8 (by omega);have hkl':(k:Int)<l.length:=by omega
   have htk:l.take (k+1)=l.take k++[l[k]]:=(List.take_append_getElem hkl).symm;have HTK:=zAd htk;have HAT:Hid (∃h:k<l.length,l[k]=l[k]):=⟨hkl,rfl⟩;have HC:=zAd (HCL.out l[k] (List.getElem_mem hkl) wr lr);have HG:Hid (∀b,q l[k]=b→q l[k]=b):=fun b h=>h;clear hcs htk;cases hq:q l[k] with
   |true=>
    rw[hq]at HC;have HF:Hid (ixP q l (.returned (.int .i64 (k:Int)))):= .inl ⟨k,hkl,rfl,hq,HNO.out⟩;clear HTK HAT HG hq;generalize l[k]=r at*;simp only[exc,List.getElem?_cons_zero,List.getElem?_cons_succ,Nat.add_zero]at c0 c1 c2 c3 c4 c5 c6 c7 c8;go_wp2_with fail;rw[HEG.out];simp only[Oper.upon];refine HC.out.mono ?_;rintro e w1 ⟨rfl,l1⟩;have L1:=lr.trans l1;clear c0 c1 c2 c3 c4 c5 c6 c7 c8;go_wp2_with fail;go_ret
    exact⟨HF.out,L1⟩
   | false=>
    rw[hq]at HC
    have HF:Hid (∀x∈l.take (k+1),q x=false):=fun x hx=>by
     rw[HTK.out]at hx;rcases List.mem_append.1 hx with h|h
     ·exact HNO.out x h
     ·rw[show x=l[k]from by simpa using h];exact hq
    clear HTK HAT HG hq;generalize l[k]=r at*;simp only[exc,List.getElem?_cons_zero,List.getElem?_cons_succ,Nat.add_zero]at c0 c1 c2 c3 c4 c5 c6 c7 c8;go_wp2_with fail;rw[HEG.out];simp only[Oper.upon];refine HC.out.mono ?_;rintro e w1 ⟨rfl,l1⟩;have L1:=lr.trans l1;clear c0 c1 c2 c3 c4 c5 c6 c7 c8;go_wp2_with fail;go_roundw
    case rel=>exact⟨k+1,by omega,by go_num,HF.out,L1⟩
    case measure=>simp[intOf];omega
  ·obtain rfl:k=l.length:=by omega
   have HF:Hid (ixP q l (.returned (.int .i64 (-1)))):= .inr ⟨rfl,fun x hx=>HNO.out x (by rw[List.take_length];exact hx)⟩;go_wp2_with fail;go_ret
   exact⟨HF.out,lr⟩
theorem zIy(n₀ cf:Nat)(lb:Array Value)(v:Value)(l:List Ex)(q:Ex→Bool)(w:World)(hR:RdV n₀ w v l)(hn:n₀≤w.heap.size)(hl:l.length≤5000)
  (eg:∀args w,(callFunc cf args).run Tryz.prog w= .ok (.enter cf args) w)
  (hcl:∀x∈l,∀W,Later w W→Calls Tryz.prog cf (#[.agg (exc x).toArray]++lb) W fun e W'=>e= .returned (.bool (q x))∧Later W W'):
  Calls Tryz.prog 394 #[v,.func (.func cf) #[] lb] w fun e w'=>e= .returned (.bool (l.any q))∧Later w w':=by
 have HIX:=zAd (zGb n₀ cf lb v l q w hR hn hl eg hcl);obtain⟨sa,cap,rfl,hc1,hc2⟩:=hR.slice;clear hR hcl eg;go_enter Tryz.func394,Tryz.ntmps394;go_wp2_with fail;refine HIX.out.mono ?_;rintro e w1 ⟨⟨k,hk,rfl,hq,_⟩|⟨rfl,hno⟩,l1⟩
 ·have HF:Hid (l.any q=true):=by show _=_;rw[List.any_eq_true];exact⟨l[k],List.getElem_mem hk,hq⟩
  clear hq hk;go_wp2_with fail;go_ret
  exact⟨by rw[HF.out];first|rfl|simp,l1⟩
 ·have HF:Hid (l.any q=false):=by show _=_;rw[List.any_eq_false];intro x hx;rw[hno x hx];simp
  clear hno;go_wp2_with fail;go_ret
  exact⟨by rw[HF.out];first|rfl|simp,l1⟩
theorem app1E(W:World)(ty:TypeId)(base:Nat)(v:Value)(xs:List Ex)(x:Ex)(hown:W.ownsRow base 172 9 v xs.length (exs xs))(hb:base≤W.heap.size)(hs:xs.length≤5000):
  ∃g cap W',(Builtin.append_ #[47,47] ty #[v,.slice (some ⟨W.heap.size,0,none⟩) 1 1]).run Tryz.prog (W.alloc (.cells (exc x).toArray 172))= .ok (.slice (some ⟨g,0,none⟩) (xs.length+1) cap) W'∧W'.ownsRow base 172 9 (.slice (some ⟨g,0,none⟩) (xs.length+1) cap) (xs++[x]).length (exs (xs++[x]))∧But (fun b=>v.ownBlock=some b) W W'∧(v.ownBlock=some g∨W.heap.size≤g)∧(W.alloc (.cells (exc x).toArray 172)).grownBy W' v.ownBlock:=by
 have la:Later W (W.alloc (.cells (exc x).toArray 172)):=bA _ _;have hn:=heap_alloc_new W (.cells (exc x).toArray 172)
 have hI:RdV (W.heap.size+1) (W.alloc (.cells (exc x).toArray 172)) (.slice (some ⟨W.heap.size,0,none⟩) 1 1) [x]:= .inr ⟨W.heap.size,0,1,rfl,by simp,by simp,by omega,by omega,fun j hj i hi=>by
  obtain rfl:j=0:=by simpa using hj
  rw[show 0+0*9+i=i from by omega,zAa hn i];simp⟩
 obtain⟨v',w',h1,h2,h3,h4⟩:=appE (W.alloc (.cells (exc x).toArray 172)) ty base (W.heap.size+1) v xs _ [x] (zCs hown la) hI (by have:=la.size;omega) (by simp;omega);have h2':=h2;rw[show (xs++[x]).length=xs.length+1 from by simp]at h2';obtain⟨g,cap,rfl⟩:=ownsRow_succ h2';refine⟨g,cap,w',h1,h2,(But.of la).trans ⟨h3.os,h3.tape,h3.output,h3.size,fun k hk he=>h3.block k hk (fun e=>he e.symm)⟩,?_,h3⟩;rcases h4 with h4|h4
 ·exact .inl h4.symm
 ·right
  simp[Value.ownBlock]at h4
  omega
theorem zC3 {E:Nat→Prop} {base:Nat} {A B:World} {v:Value} {n:Nat} {xs:List Value} (h:A.ownsRow base 172 9 v n xs)(k:But E A B)(hE:∀g,v.ownBlock=some g→¬E g):B.ownsRow base 172 9 v n xs:=by
 obtain⟨h1,h2|⟨g,cap,cur,hv,hg,hh,r⟩⟩:=h
 ·exact ⟨h1,.inl h2⟩
 ·exact ⟨h1,.inr ⟨g,cap,cur,hv,hg,(k.block g (eS hh) (hE g (by rw[hv];rfl))).trans hh,r⟩⟩
theorem zD7 {base:Nat} {W:World} {v:Value} {n:Nat} {xs:List Value} (h:W.ownsRow base 172 9 v n xs) {g:Nat} (e:v.ownBlock=some g):base≤g∧g<W.heap.size:=h.lt g e
theorem zBj {base:Nat} {A:World} {v:Value} {n:Nat} {xs:List Value} (h:A.ownsRow base 172 9 v n xs):∃sa cap,v= .slice sa n cap:=by
 obtain⟨h1,⟨rfl,rfl⟩|⟨g,cap,cur,hv,hg,r⟩⟩:=h
 ·exact ⟨_,_,rfl⟩
 ·exact ⟨_,_,hv⟩
def Two (base:Nat) (W:World) (u v:Value) (xs ys:List Ex):Prop:=W.ownsRow base 172 9 u xs.length (exs xs)∧W.ownsRow base 172 9 v ys.length (exs ys)∧∀g,u.ownBlock=some g→v.ownBlock≠some g
theorem Two.later {base:Nat} {A B:World} {u v:Value} {xs ys:List Ex} (h:Two base A u v xs ys)(k:Later A B):Two base B u v xs ys:=⟨zCs h.1 k,zCs h.2.1 k,h.2.2⟩
theorem zGc(n₀ cf:Nat)(lb:Array Value)(v:Value)(l:List Ex)(q:Ex→Bool)(w:World)(hR:RdV n₀ w v l)(hn:n₀≤w.heap.size)(hl:l.length≤1000)
  (eg:∀args w,(callFunc cf args).run Tryz.prog w= .ok (.enter cf args) w)
  (hcl:∀x∈l,∀W,Later w W→Calls Tryz.prog cf (#[.agg (exc x).toArray]++lb) W fun e W'=>e= .returned (.bool (q x))∧Later W W'):
  Calls Tryz.prog 166 #[v,.func (.func cf) #[] lb] w fun e w'=>Later w w'∧∃u1 u2,e= .returned (.tuple #[u1,u2])∧Two w.heap.size w' u1 u2 (l.filter q) (l.filter (fun x=> !q x)):=by
 obtain⟨sa,cap,rfl,hc1,hc2⟩:=hR.slice;have HR:=zAd hR;have HCL:=zAd hcl;have HEG:=zAd eg;have hli:(l.length:Int)≤1000:=by omega
 clear hR hcl eg;go_enter Tryz.func166,Tryz.ntmps166;go_wp2_with fail;go_loopw [4,5,10] (fun u1 u2 i wr=>∃k:Nat,k≤l.length∧i= .int .i64 (k:Int)∧Two w.heap.size wr u1 u2 ((l.take k).filter q) ((l.take k).filter (fun x=> !q x))∧Later w wr) (fun _ _ i _=>l.length-(intOf i).toNat)
 case atStart=>exact⟨0,by omega,rfl,⟨World.ownsRow_nil _ _ _ _,World.ownsRow_nil _ _ _ _,fun g h=>by cases h⟩,Later.refl _⟩
 case round=>
  obtain⟨k,hk,rfl,hTw,lr⟩:=hrel;obtain⟨s1,k1,rfl⟩:=zBj hTw.1;obtain⟨s2,k2,rfl⟩:=zBj hTw.2.1;have HTW:=zAd hTw;clear hTw;have hlA:((l.take k).filter q).length≤1000:=Nat.le_trans (List.length_filter_le _ _) (by simp;omega);have hlB:((l.take k).filter (fun x=> !q x)).length≤1000:=Nat.le_trans (List.length_filter_le _ _) (by simp;omega);by_cases hkl:k<l.length
  ·obtain ⟨g,off,cp,e,_,_,hgn,hcs⟩:=(HR.out.below (lr.mono hn)).cells (by omega)
   simp at e
   obtain⟨rfl,rfl⟩:=e;have c0:=hcs k hkl 0 (by omega);have c1:=hcs k hkl 1 (by omega);have c2:=hcs k hkl 2 (by omega);have c3:=hcs k hkl 3 (by omega);have c4:=hcs k hkl 4 (by omega);have c5:=hcs k hkl 5 (by omega);have c6:=hcs k hkl 6 (by omega);have c7:=hcs k hkl 7 (by omega);have c8:=hcs k hkl 8 (by omega);have hkl':(k:Int)<l.length:=by omega
   have htk:l.take (k+1)=l.take k++[l[k]]:=(List.take_append_getElem hkl).symm;have HFA:Hid (∀b,q l[k]=b→(l.take (k+1)).filter q=if b then(l.take k).filter q++[l[k]]else(l.take k).filter q):=fun b h=>by rw[htk,List.filter_append];cases b<;>simp[h]
   have HFB:Hid (∀b,q l[k]=b→(l.take (k+1)).filter (fun x=> !q x)=if b then(l.take k).filter (fun x=> !q x)else(l.take k).filter (fun x=> !q x)++[l[k]]):=fun b h=>by rw[htk,List.filter_append];cases b<;>simp[h]
   have HC:=zAd (HCL.out l[k] (List.getElem_mem hkl));clear hcs htk;generalize hFq:(l.take k).filter q=FA at*;generalize hFn:(l.take k).filter (fun x=> !q x)=FB at*;clear hFq hFn;generalize l[k]=r at*;simp only[exc,List.getElem?_cons_zero,List.getElem?_cons_succ,Nat.add_zero]at c0 c1 c2 c3 c4 c5 c6 c7 c8;have la:Later wr (wr.alloc (.cells #[.int .u8 r.pr,.int .u32 r.src,.int .u32 r.dst,.int .u16 r.sp,.int .u16 r.dp,.int .u32 r.host,.int .u16 r.hp,.int .i64 r.ms,.int .i64 r.dl] 172)):=bA _ _;have cB:=heap_alloc_new wr (.cells #[.int .u8 r.pr,.int .u32 r.src,.int .u32 r.dst,.int .u16 r.sp,.int .u16 r.dp,.int .u32 r.host,.int .u16 r.hp,.int .i64 r.ms,.int .i64 r.dl] 172);have kB:=zAa cB;have hws:w.heap.size≤wr.heap.size:=lr.size;go_wp2_with fail;generalize wr.alloc (.cells #[.int .u8 r.pr,.int .u32 r.src,.int .u32 r.dst,.int .u16 r.sp,.int .u16 r.dp,.int .u32 r.host,.int .u16 r.hp,.int .i64 r.ms,.int .i64 r.dl] 172)=w1 at*;clear c0 c1 c2 c3 c4 c5 c6 c7 c8 kB;rw[HEG.out];simp only[Oper.upon];have L1:Later w w1:=lr.trans la;refine(HC.out w1 L1).mono ?_;rintro e w2 ⟨rfl,l2⟩;have L2:Later w w2:=L1.trans l2;have kB:=zAa (zAb l2 cB);have HTW2:=zAd (HTW.out.later (la.trans l2));have hs2:=L2.size;clear la l2 cB HTW HC;cases hq:q r with
   | true=>
    obtain⟨g2,cp2,W3,hrun,hrow,hbt,hob,_⟩:=app1E w2 47 w.heap.size (.slice s1 FA.length k1) FA r HTW2.out.1 hs2 (by omega);have HRUN:=zAd hrun;have HE1:=zAd (HFA.out true hq);have HE2:=zAd (HFB.out true hq)
    have HN:Hid (Two w.heap.size W3 (.slice (some ⟨g2,0,none⟩) (FA.length+1) cp2) (.slice s2 FB.length k2) (FA++[r]) FB∧Later w W3):=⟨⟨hrow,zC3 HTW2.out.2.1 hbt (fun g hg e=>HTW2.out.2.2 g e hg),fun g hg e=>by
     cases hg
     rcases hob with h|h
     ·exact HTW2.out.2.2 _ h e
     ·have:g2<w2.heap.size:=(zD7 HTW2.out.2.1 e).2
      omega⟩,Below.trans L2 (hbt.below hs2 (fun x hx e=>by have:=(zD7 HTW2.out.1 e).1;omega))⟩
    clear hq hrun hrow hbt hob HFA HFB;go_wp2_with (at_builtin;refine zD6 rfl (.tmp 17) (.tmp 19) 47 rfl _ _ rfl rfl _ W3 HRUN.out ?_)
    go_roundw
    case rel=>exact⟨k+1,by omega,by go_num,by rw[HE1.out,HE2.out];exact HN.out.1,HN.out.2⟩
    case measure=>simp[intOf];omega
   | false=>
    obtain⟨g2,cp2,W3,hrun,hrow,hbt,hob,_⟩:=app1E w2 47 w.heap.size (.slice s2 FB.length k2) FB r HTW2.out.2.1 hs2 (by omega);have HRUN:=zAd hrun;have HE1:=zAd (HFA.out false hq);have HE2:=zAd (HFB.out false hq)
    have HN:Hid (Two w.heap.size W3 (.slice s1 FA.length k1) (.slice (some ⟨g2,0,none⟩) (FB.length+1) cp2) FA (FB++[r])∧Later w W3):=⟨⟨zC3 HTW2.out.1 hbt (fun g hg e=>HTW2.out.2.2 g hg e),hrow,fun g hg e=>by
     cases e
     rcases hob with h|h
     ·exact HTW2.out.2.2 _ hg h
     ·have:g2<w2.heap.size:=(zD7 HTW2.out.1 hg).2
      omega⟩,Below.trans L2 (hbt.below hs2 (fun x hx e=>by have:=(zD7 HTW2.out.2.1 e).1;omega))⟩
    clear hq hrun hrow hbt hob HFA HFB;go_wp2_with (at_builtin;refine zD6 rfl (.tmp 21) (.tmp 23) 47 rfl _ _ rfl rfl _ W3 HRUN.out ?_)
    go_roundw
    case rel=>exact⟨k+1,by omega,by go_num,by rw[HE1.out,HE2.out];exact HN.out.1,HN.out.2⟩
    case measure=>simp[intOf];omega
  ·obtain rfl:k=l.length:=by omega
   rw[List.take_length]at HTW;simp only[List.take_length]at*;go_wp2_with fail;refine bodyPost_ret (v:= .tuple #[.slice s1 (l.filter q).length k1,.slice s2 (l.filter (fun x=> !q x)).length k2]) (by simp[results,Tryz.results166,go_sem]) rfl ?_;exact⟨lr,_,_,rfl,HTW.out⟩
theorem BL.mono' {t:TypeId} {base base':Nat} {W:World} {b:Nat} {v:Value} {l:List Ex} (h:W.ownsRow base 172 9 v l.length (exs l))(hb:base'≤base):W.ownsRow base' 172 9 v l.length (exs l):=by
 obtain⟨h1,h2|⟨g,cap,cur,hv,hg,r⟩⟩:=h
 ·exact ⟨h1,.inl h2⟩
 ·exact ⟨h1,.inr ⟨g,cap,cur,hv,by omega,r⟩⟩
theorem of12_any(m:Int)(w:World):Calls Tryz.prog 165 #[.int .i64 m] w fun e w'=>e= .returned (.func (.func 223) #[] #[.pointer (some ⟨w.heap.size,0,none⟩)])∧w'=w.alloc (.cells #[.int .i64 m] 3):=by
 go_enter Tryz.func165,Tryz.ntmps165;go_wp2_with fail;go_ret
 exact⟨rfl,rfl⟩
theorem zMa(x:Ex)(w:World):Calls Tryz.prog 395 #[.agg (exc x).toArray] w fun e w'=>e= .returned (.func (.func 398) #[] #[.pointer (some ⟨w.heap.size,0,none⟩)])∧w'=w.alloc (.cells (exc x).toArray 172):=by
 unfold exc;go_enter Tryz.func395,Tryz.ntmps395;go_wp2_with fail;go_ret
 exact⟨rfl,rfl⟩
theorem zSz(w:World):Calls Tryz.prog 94 #[] w fun e w'=>e= .returned (.pointer (some ⟨w.heap.size,0,none⟩))∧Later w w'∧BL 174 w.heap.size w' w.heap.size (.slice none 0 0) []:=by
 have la:Later w (w.alloc (.cells #[.slice none 0 0] 174)):=bA _ _;have hn:=heap_alloc_new w (.cells #[.slice none 0 0] 174);go_enter Tryz.func94,Tryz.ntmps94;go_wp2_with fail;go_ret
 exact⟨rfl,la,Nat.le_refl _,hn,rfl,.inl ⟨rfl,rfl⟩⟩
def TkO (t:TypeId) (base:Nat) (w w':World) (b:Nat) (l1 l2:List Ex) (u:Value):Prop:=∃v',BL t base w' b v' l2∧w'.ownsRow w.heap.size 172 9 u l1.length (exs l1)∧But (fun g=>g=b) w w'∧∀g,v'.ownBlock=some g→w.heap.size≤g
theorem zGd(base b cf:Nat)(lb:Array Value)(v:Value)(l:List Ex)(q:Ex→Bool)(w:World)(hT:BL 174 base w b v l)(hbs:base≤w.heap.size)(hl:l.length≤1000)
  (eg:∀args w,(callFunc cf args).run Tryz.prog w= .ok (.enter cf args) w)
  (hcl:∀x∈l,∀W,Later w W→Calls Tryz.prog cf (#[.agg (exc x).toArray]++lb) W fun e W'=>e= .returned (.bool (q x))∧Later W W'):
  Calls Tryz.prog 110 #[.pointer (some ⟨b,0,none⟩),.func (.func cf) #[] lb] w fun e w'=>∃u,e= .returned u∧TkO 174 base w w' b (l.filter q) (l.filter (fun x=> !q x)) u:=by
 have HSP:=zAd (zGc w.heap.size cf lb v l q w (zBm hT.2.2) (Nat.le_refl _) hl eg hcl);have k0:=zAa hT.2.1;obtain⟨av,cv,rfl,_,_⟩:=(zBm hT.2.2).slice;clear eg hcl;go_enter Tryz.func110,Tryz.ntmps110;go_wp2_with fail;refine HSP.out.mono ?_;rintro e w1 ⟨l1,u1,u2,rfl,hTw⟩;have h1:=zAb l1 hT.2.1;have hbl:=hT.blt;clear k0 HSP;have k1:=zAa h1;have f1:=zAc h1;obtain⟨s1,c1,rfl⟩:=zBj hTw.1;obtain⟨s2,c2,rfl⟩:=zBj hTw.2.1;have HTW:=zAd hTw;clear hTw;go_wp2_with fail;go_ret
 have hbt:But (fun g=>g=b) w1 (w1.setCell ⟨b,0,none⟩ (.slice s2 (l.filter (fun x=> !q x)).length c2)):=(But.refl (fun g=>g=b) _).setCell (p:=⟨b,0,none⟩) rfl _;have hsz:w.heap.size≤w1.heap.size:=l1.size;refine⟨_,rfl,.slice s2 (l.filter (fun x=> !q x)).length c2,⟨hT.1,by simpa using zAh h1 0 (.slice s2 (l.filter (fun x=> !q x)).length c2),?_⟩,?_,(But.of l1).trans hbt,fun g hg=>(zD7 HTW.out.2.1 hg).1⟩
 ·exact BL.mono' (t:=0) (b:=0) (zC3 HTW.out.2.1 hbt (fun g hg e=>by have:=(zD7 HTW.out.2.1 hg).1;omega)) hbs
 ·exact zC3 HTW.out.1 hbt (fun g hg e=>by have:=(zD7 HTW.out.1 hg).1;omega)
theorem zS0(base b:Nat)(v:Value)(l:List Ex)(m:Int)(w:World)(hT:BL 174 base w b v l)(hbs:base≤w.heap.size)(hl:l.length≤1000):
  Calls Tryz.prog 52 #[.pointer (some ⟨b,0,none⟩),.int .i64 m] w fun e w'=>∃u,e= .returned u∧TkO 174 base w w' b (l.filter (fun x=>decide (x.dl≤m))) (l.filter (fun x=> !decide (x.dl≤m))) u:=by
 have l1:Later w (w.alloc (.cells #[.int .i64 m] 3)):=bA _ _;have c1:=heap_alloc_new w (.cells #[.int .i64 m] 3);go_enter Tryz.func52,Tryz.ntmps52;go_wp2_with fail;generalize w.alloc _=w1 at*;have HTO:=zAd (zGd base b 111 #[.pointer (some ⟨w.heap.size,0,none⟩)] v l (fun x=>decide (x.dl≤m)) w1 (hT.later l1) (Nat.le_trans hbs l1.size) hl (enters_of Tryz.func111 (by kernel_rfl) rfl) (fun x _ W hW=>due1_any x m w.heap.size W ((zAa (zAb hW c1) 0).trans rfl)));refine HTO.out.mono ?_;rintro e w2 ⟨u,rfl,v',h1,h2,h3,h4⟩;have hs:w.heap.size≤w1.heap.size:=l1.size;obtain⟨s2,c2,rfl⟩:=zBj h2;have H2:=zAd h2;clear h2;go_wp2_with fail;go_ret
 exact⟨_,rfl,v',h1,BL.mono' (t:=0) (b:=0) H2.out hs,(But.of l1).trans h3,fun g hg=>Nat.le_trans hs (h4 g hg)⟩
theorem zQu(base b:Nat)(v:Value)(l:List Ex)(w:World)(hT:BL 174 base w b v l)(hl:l.length≤1000):
  Calls Tryz.prog 35 #[.pointer (some ⟨b,0,none⟩)] w fun e w'=>Later w w'∧∃u,e= .returned u∧w'.ownsRow w.heap.size 172 9 u l.length (exs l):=by
 have k0:=zAa hT.2.1;obtain⟨av,cv,rfl,_,_⟩:=(zBm hT.2.2).slice;go_enter Tryz.func35,Tryz.ntmps35;go_wp2_with fail;refine(zGa base _ l w hT.2.2 (by omega)).mono ?_;rintro e w1 ⟨l1,u,rfl,hu⟩;obtain⟨s2,c2,rfl⟩:=zBj hu;have HU:=zAd hu;clear hu k0;go_wp2_with fail;go_ret
 exact⟨l1,_,rfl,HU.out⟩
theorem zQv(base b:Nat)(v:Value)(l:List Ex)(w:World)(hT:BL 174 base w b v l)(hl:l.length≤1000):
  Calls Tryz.prog 387 #[.pointer (some ⟨b,0,none⟩)] w fun e w'=>Later w w'∧∃b' v',e= .returned (.pointer (some ⟨b',0,none⟩))∧BL 174 w.heap.size w' b' v' l:=by
 have k0:=zAa hT.2.1;obtain⟨av,cv,rfl,_,_⟩:=(zBm hT.2.2).slice;go_enter Tryz.func387,Tryz.ntmps387;go_wp2_with fail;refine(zGa base _ l w hT.2.2 (by omega)).mono ?_;rintro e w1 ⟨l1,v',rfl,hv⟩;obtain⟨au,cu,rfl,_,_⟩:=(zBm hv).slice;have la:Later w1 (w1.alloc (.cells #[.slice au l.length cu] 174)):=bA _ _;have hn:=heap_alloc_new w1 (.cells #[.slice au l.length cu] 174);have HR:=zAd (zCs hv la);clear hv k0;go_wp2_with fail;go_ret
 exact⟨l1.trans la,_,_,rfl,l1.size,hn,HR.out⟩
theorem zMb(base b:Nat)(v:Value)(l:List Ex)(m:Int)(w:World)(hT:BL 174 base w b v l)(hl:l.length≤1000):
  Calls Tryz.prog 352 #[.pointer (some ⟨b,0,none⟩),.int .i64 m] w fun e w'=>e= .returned (.int .i64 ((l.filter (fun x=>decide (x.ms=m))).length:Int))∧Later w w':=by
 obtain⟨av,cv,rfl,_,_⟩:=(zBm hT.2.2).slice;go_enter Tryz.func352,Tryz.ntmps352;go_upto_region 1 with fail;refine zAl (R:=But (fun _=>False)) 12 rfl (by kernel_rfl) ?_;have ld:Later w w.drew:=Later.drew w;have hTd:=hT.later ld;generalize w.drew=Wd at*;have ha:∀v1,But (fun _=>False) Wd v1→∀j,v1.cell? ⟨b,j,none⟩=#[Value.slice av l.length cv][j]? :=fun v1 hv=>zAa ((hv.block b (eS hTd.2.1) (fun h=>h)).trans hTd.2.1);refine tX (But.pre _) 0 ?_;refine tX (But.pre _) 1 ?_;refine tX (But.pre _) 2 ?_;refine tX (But.pre _) 3 ?_;refine tX (But.pre _) 4 ?_;clear ha;refine tO 5 ?_;refine zAj 165 #[.int .i64 m] (by go_simp) ?_;refine(of12_any m Wd).mono ?_;rintro e w1 ⟨rfl,hw1⟩;have l1:Later Wd w1:=by rw[hw1];exact bA _ _
 have c1:w1.heap[Wd.heap.size]? =some (.cells #[.int .i64 m] 3):=by rw[hw1];exact heap_alloc_new Wd _
 clear hw1;have hT1:=hTd.later l1;refine⟨But.of l1,?_⟩;simp only[Act.put,sA,sB,sC];generalize Wd.heap.size=mb at*;refine tO 6 ?_;refine zAj 166 #[.slice av l.length cv,.func (.func 223) #[] #[.pointer (some ⟨mb,0,none⟩)]] (by go_simp) ?_;refine(zGc w1.heap.size 223 #[.pointer (some ⟨mb,0,none⟩)] _ l (fun x=>decide (x.ms=m)) w1 (zBm hT1.2.2) (Nat.le_refl _) hl (enters_of Tryz.func223 (by kernel_rfl) rfl) (fun x _ W hW=>of1_any x m mb W ((zAa (zAb hW c1) 0).trans rfl))).mono ?_;rintro e w2 ⟨l2,u1,u2,rfl,hTw⟩;have L2:=(ld.trans l1).trans l2;obtain⟨s1,k1,rfl⟩:=zBj hTw.1;obtain⟨s2,k2,rfl⟩:=zBj hTw.2.1;refine⟨But.of l2,?_⟩;simp only[Act.put,sA,sB,sC];clear hTw hT1 c1 l1 l2;refine tX (But.pre _) 7 ?_;refine tX (But.pre _) 8 ?_;refine tX (But.pre _) 9 ?_;refine tX (But.pre _) 10 ?_;refine tX (But.pre _) 11 ?_;refine tD ?_;go_wp2_with fail;go_ret
 exact⟨rfl,L2⟩
theorem zBa(w:World)(A B:Obj):Later w ((w.alloc A).alloc B)∧((w.alloc A).alloc B).heap[w.heap.size]? =some A∧((w.alloc A).alloc B).heap[w.heap.size+1]? =some B:=by
 refine⟨(bA _ _).alloc (by simp) _,(Below.heap_alloc _ _ _ (by simp)).trans (heap_alloc_new w _),?_⟩;have:=heap_alloc_new (w.alloc A) B;rwa [World.size_alloc]at this
theorem zO0(w:World)(A B C:Obj):Later w (((w.alloc A).alloc B).alloc C)∧(((w.alloc A).alloc B).alloc C).heap[w.heap.size]? =some A∧(((w.alloc A).alloc B).alloc C).heap[w.heap.size+1]? =some B∧(((w.alloc A).alloc B).alloc C).heap[w.heap.size+1+1]? =some C:=by
 obtain⟨h1,h2,h3⟩:=zBa w A B;refine⟨h1.trans (bA _ _),(Below.heap_alloc _ _ _ (by simp<;>omega)).trans h2,(Below.heap_alloc _ _ _ (by simp)).trans h3,?_⟩;have:=heap_alloc_new ((w.alloc A).alloc B) C;simpa only[World.size_alloc]using this
def zO1 (p:Ex→Bool) (l:List Ex):Ex:=(l.find? p).getD zEx
def zMc (p:Ex→Bool) (l:List Ex):Bool:=(l.find? p).isSome
theorem find_at {p:Ex→Bool} {l:List Ex} {k:Nat} (hk:k<l.length)(hp:p l[k]=true)(hno:∀x∈l.take k,p x=false):l.find? p=some l[k]:=by
 have e:l=l.take k++l[k]::l.drop (k+1):=by rw[←List.drop_eq_getElem_cons hk,List.take_append_drop]
 have h1:(l.take k).find? p=none:=by rw[List.find?_eq_none];intro x hx;rw[hno x hx];simp
 conv=>lhs;rw[e]
 rw[List.find?_append,h1,Option.none_or,List.find?_cons_of_pos hp]
theorem find_no {p:Ex→Bool} {l:List Ex} (hno:∀x∈l,p x=false):l.find? p=none:=by rw[List.find?_eq_none];intro x hx;rw[hno x hx];simp
theorem zHp(base b:Nat)(v:Value)(l:List Ex)(t:Tu)(now:Int)(w:World)(hT:BL 174 base w b v l)(hl:l.length≤1000):
  Calls Tryz.prog 285 #[.pointer (some ⟨b,0,none⟩),.agg (tuc t).toArray,.int .i64 now] w fun e w'=>e= .returned (.tuple #[.agg (exc (zO1 (pkX t now) l)).toArray,.bool (zMc (pkX t now) l)])∧Later w w':=by
 obtain⟨av,cv,rfl,hcl,hcm⟩:=(zBm hT.2.2).slice;obtain⟨lb0,c0,c1,c2⟩:=zO0 w (.cells (tuc t).toArray 103) (.cells #[.int .i64 now] 3) (.cells (exc zEx).toArray 172);have hli:(l.length:Int)≤1000:=by omega
 go_enter Tryz.func285,Tryz.ntmps285;have k0:=zAa (zAb lb0 hT.2.1);unfold tuc exc zEx at*;simp only at*;go_wp2_with fail;generalize ((w.alloc _).alloc _).alloc _=w0 at*;have hT0:=hT.later lb0;have HIX:=zAd (zGb w0.heap.size 317 #[.pointer (some ⟨w.heap.size,0,none⟩),.pointer (some ⟨w.heap.size+1,0,none⟩)] _ l (pkX t now) w0 (zBm hT0.2.2) (Nat.le_refl _) (by omega) (enters_of Tryz.func317 (by kernel_rfl) rfl) (fun x _ W hW=>zSy x t now w.heap.size (w.heap.size+1) W (by unfold tuc;exact zAb hW c0) ((zAa (zAb hW c1) 0).trans rfl)));refine HIX.out.mono ?_;rintro e w1 ⟨⟨k,hk,rfl,hq,hno⟩|⟨rfl,hno⟩,l1⟩
 ·have hfi:=find_at hk hq hno
  have L1:=lb0.trans l1;have d2:=zAb l1 c2;have hT1:=hT0.later l1;obtain⟨g,off,cp,e,_,_,hgn,hcs⟩:=(zBm hT1.2.2).cells (by omega)
  simp at e
  obtain⟨rfl,rfl⟩:=e;have e0:=hcs k hk 0 (by omega);have e1:=hcs k hk 1 (by omega);have e2:=hcs k hk 2 (by omega);have e3:=hcs k hk 3 (by omega);have e4:=hcs k hk 4 (by omega);have e5:=hcs k hk 5 (by omega);have e6:=hcs k hk 6 (by omega);have e7:=hcs k hk 7 (by omega);have e8:=hcs k hk 8 (by omega);have HF1:Hid (zO1 (pkX t now) l=l[k]):=by show _=_;unfold zO1;rw[hfi];rfl
  have HF2:Hid (zMc (pkX t now) l=true):=by show _=_;unfold zMc;rw[hfi];rfl
  have hki:(k:Int)<l.length:=by omega
  clear hcs hfi hq hno HIX;generalize l[k]=r at*;simp only[exc,List.getElem?_cons_zero,List.getElem?_cons_succ,Nat.add_zero]at e0 e1 e2 e3 e4 e5 e6 e7 e8;clear k0;have k1:=zAa hT1.2.1;have K2:=zAa d2;have F2:=zAc d2;go_wp2_with fail;change bodyPost _ _ _ _ _ (zAi w1 (w.heap.size+1+1) 0 (exc r));have v1:=zAe (exc r) d2 rfl;have hbl:Below w.heap.size w1 (zAi w1 (w.heap.size+1+1) 0 (exc r)):=(zA1 (rb:=w.heap.size+1+1) (exc r) w1).below L1.size (fun k hk e=>by omega);generalize zAi w1 (w.heap.size+1+1) 0 (exc r)=V at*;have kk:=zAa v1;simp only[exc]at kk;refine bodyPost_ret (v:= .tuple #[.agg #[.int .u8 r.pr,.int .u32 r.src,.int .u32 r.dst,.int .u16 r.sp,.int .u16 r.dp,.int .u32 r.host,.int .u16 r.hp,.int .i64 r.ms,.int .i64 r.dl],.bool true]) (by simp[results,Tryz.results285,go_sem,kk]) rfl ⟨by rw[HF1.out,HF2.out],Below.trans L1 hbl⟩
 ·have hfi:=find_no hno
  have L1:=lb0.trans l1;have d2:=zAb l1 c2;have HF1:Hid (zO1 (pkX t now) l=zEx):=by show _=_;unfold zO1;rw[hfi];rfl
  have HF2:Hid (zMc (pkX t now) l=false):=by show _=_;unfold zMc;rw[hfi];rfl
  clear hfi hno HIX k0;have K2:=zAa d2;have F2:=zAc d2;go_wp2_with fail;change bodyPost _ _ _ _ _ (zAi w1 (w.heap.size+1+1) 0 (exc zEx));have v1:=zAe (exc zEx) d2 rfl;have hbl:Below w.heap.size w1 (zAi w1 (w.heap.size+1+1) 0 (exc zEx)):=(zA1 (rb:=w.heap.size+1+1) (exc zEx) w1).below L1.size (fun k hk e=>by omega);generalize zAi w1 (w.heap.size+1+1) 0 (exc zEx)=V at*;have kk:=zAa v1;simp only[exc,zEx]at kk;refine bodyPost_ret (v:= .tuple #[.agg #[.int .u8 0,.int .u32 0,.int .u32 0,.int .u16 0,.int .u16 0,.int .u32 0,.int .u16 0,.int .i64 0,.int .i64 0],.bool false]) (by simp[results,Tryz.results285,go_sem,kk]) rfl ⟨by rw[HF1.out,HF2.out];rfl,Below.trans L1 hbl⟩
def mtL (q:Ex→Bool) (l:List Ex):List Ex:=if zMc q l then l.filter (fun x=> !decide (x=zO1 q l))else l
theorem zS1 {q:Ex→Bool} {l:List Ex} (h:zMc q l=true):mtL q l=l.filter (fun x=> !decide (x=zO1 q l)):=by unfold mtL;rw[if_pos h]
theorem mtL_no {q:Ex→Bool} {l:List Ex} (h:zMc q l=false):mtL q l=l:=by unfold mtL;rw[if_neg (by rw[h];simp)]
theorem zMd(base b:Nat)(v:Value)(l:List Ex)(t:Tu)(now:Int)(w:World)(hT:BL 174 base w b v l)(hbs:base≤w.heap.size)(hl:l.length≤1000):
  Calls Tryz.prog 287 #[.pointer (some ⟨b,0,none⟩),.agg (tuc t).toArray,.int .i64 now] w fun e w'=>e= .returned (.tuple #[.agg (exc (zO1 (pkX t now) l)).toArray,.bool (zMc (pkX t now) l)])∧BLq 174 base w w' b v (mtL (pkX t now) l):=by
 obtain⟨lb0,c0,c1⟩:=zBa w (.cells (tuc t).toArray 103) (.cells (exc zEx).toArray 172);have k0:=zAa c0;have HPK:=zAd (fun W (h:Later w W)=>zHp base b v l t now W (hT.later h) hl);have hbl:=hT.blt;go_enter Tryz.func287,Tryz.ntmps287;unfold tuc at*;have e0:(exc zEx).toArray=#[.int .u8 0,.int .u32 0,.int .u32 0,.int .u16 0,.int .u16 0,.int .u32 0,.int .u16 0,.int .i64 0,.int .i64 0]:=rfl;rw[e0]at lb0 c0 c1 k0;clear e0;go_wp2_with fail;generalize (w.alloc _).alloc _=w0 at*;refine(HPK.out w0 lb0).mono ?_;rintro e w1 ⟨rfl,l1⟩;have L1:=lb0.trans l1;have d1:=zAb l1 c1;have hs1:w.heap.size+1<w1.heap.size:=(eS d1);clear k0 c0 c1 HPK;generalize hr:zO1 (pkX t now) l=r at*;generalize hq:zMc (pkX t now) l=q at*;have HR:=zAd hr;have HQ:=zAd hq;unfold exc;have la:Later w1 (w1.alloc (.cells #[.int .u8 r.pr,.int .u32 r.src,.int .u32 r.dst,.int .u16 r.sp,.int .u16 r.dp,.int .u32 r.host,.int .u16 r.hp,.int .i64 r.ms,.int .i64 r.dl] 172)):=bA _ _;have cr:=heap_alloc_new w1 (.cells #[.int .u8 r.pr,.int .u32 r.src,.int .u32 r.dst,.int .u16 r.sp,.int .u16 r.dp,.int .u32 r.host,.int .u16 r.hp,.int .i64 r.ms,.int .i64 r.dl] 172);have d2:=zAb la d1;cases q with
 |false=>
  have HL:=zAd (mtL_no hq);clear hr hq;have L2:=L1.trans la;go_upto_region 2 with fail;generalize w1.alloc _=w2 at*;have kr:=zAa cr;have K2:=zAa d2;have F2:=zAc d2;go_wp2_with fail;change bodyPost _ _ _ _ _ (zAi w2 (w.heap.size+1) 0 (exc r));have v1:=zAe (exc r) d2 rfl;have hbt:But (fun g=>g=w.heap.size+1) w2 (zAi w2 (w.heap.size+1) 0 (exc r)):=zA1 (rb:=w.heap.size+1) (exc r) w2;generalize zAi w2 (w.heap.size+1) 0 (exc r)=V at*;have kk:=zAa v1;simp only[exc]at kk;refine bodyPost_ret (v:= .tuple #[.agg #[.int .u8 r.pr,.int .u32 r.src,.int .u32 r.dst,.int .u16 r.sp,.int .u16 r.dp,.int .u32 r.host,.int .u16 r.hp,.int .i64 r.ms,.int .i64 r.dl],.bool false]) (by simp[results,Tryz.results287,go_sem,kk]) rfl ⟨by rw[HR.out,HQ.out];rfl,?_⟩;rw[HL.out];exact BLq.same hT (Below.trans L2 (hbt.below L2.size (fun k hk e=>by omega)))
 | true=>
  have HL:=zAd (zS1 hq);rw[hr]at HL;clear hr hq;have kr:=zAa cr;have L2:=L1.trans la;have hTO:=zGd base b 319 #[.pointer (some ⟨w1.heap.size,0,none⟩)] v l (fun x=>decide (x=r)) _ (hT.later L2) (Nat.le_trans hbs L2.size) hl (enters_of Tryz.func319 (by kernel_rfl) rfl) (fun x _ W hW=>zQt x r w1.heap.size W (zAb hW cr));have HTO:=zAd hTO;clear hTO;go_wp2_with fail;generalize w1.alloc _=w2 at*;refine HTO.out.mono ?_;rintro e w3 ⟨u,rfl,v',h1,h2,h3,h4⟩;have hs2:w1.heap.size<w2.heap.size:=(eS cr);have d3:=(h3.block (w.heap.size+1) (by omega) (by omega)).trans d2;have cr3:=(h3.block w1.heap.size (by omega) (by omega)).trans cr;clear kr HTO h2;have kr:=zAa cr3;have K2:=zAa d3;have F2:=zAc d3;go_wp2_with fail;change bodyPost _ _ _ _ _ (zAi w3 (w.heap.size+1) 0 (exc r));have v1:=zAe (exc r) d3 rfl;have hbt:But (fun g=>g=w.heap.size+1) w3 (zAi w3 (w.heap.size+1) 0 (exc r)):=zA1 (rb:=w.heap.size+1) (exc r) w3;generalize zAi w3 (w.heap.size+1) 0 (exc r)=V at*;have kk:=zAa v1;simp only[exc]at kk;refine bodyPost_ret (v:= .tuple #[.agg #[.int .u8 r.pr,.int .u32 r.src,.int .u32 r.dst,.int .u16 r.sp,.int .u16 r.dp,.int .u32 r.host,.int .u16 r.hp,.int .i64 r.ms,.int .i64 r.dl],.bool true]) (by simp[results,Tryz.results287,go_sem,kk]) rfl ⟨by rw[HR.out,HQ.out];rfl,?_⟩;rw[HL.out];have hw2:w.heap.size≤w2.heap.size:=L2.size
  refine⟨v',⟨h1.1,(hbt.block b h1.blt (by omega)).trans h1.2.1,zC3 h1.2.2 hbt (fun g hg e=>by have:=h4 g hg;omega)⟩,?_,.inr (fun g hg=>Nat.le_trans hw2 (h4 g hg))⟩;have hbq:Below w.heap.size w w2:=L2
  exact⟨hbt.os.trans (h3.os.trans hbq.os),hbt.tape.trans (h3.tape.trans hbq.tape),hbt.output.trans (h3.output.trans hbq.output),Nat.le_trans hbq.size (Nat.le_trans h3.size hbt.size),fun k hk he=>by
   have:=h3.size;rw[hbt.block k (by omega) (by omega),h3.block k (by omega) (fun e=>he (.inl e)),hbq.block k hk]⟩
open Go.RowKit
theorem zMe(p s d a b:Int)(w:World):Calls Tryz.prog 115 #[.agg #[.int .u8 p,.int .u32 s,.int .u32 d,.int .u16 a,.int .u16 b]] w fun e w'=>e= .returned (.agg #[.int .u8 p,.int .u32 d,.int .u32 s,.int .u16 b,.int .u16 a])∧Below w.heap.size w w':=by
 go_enter Tryz.func115,Tryz.ntmps115;go_wp2_with fail;exact bodyPost_ret (v:= .agg #[.int .u8 p,.int .u32 d,.int .u32 s,.int .u16 b,.int .u16 a]) (by simp[results,Tryz.results115,go_sem]) rfl ⟨rfl,(bA _ _).alloc (by simp) _⟩
def kyp (p a:Int):Int:=if p==47 then 0 else a
theorem zD8(p s d a b:Int)(w:World):Calls Tryz.prog 104 #[.agg #[.int .u8 p,.int .u32 s,.int .u32 d,.int .u16 a,.int .u16 b]] w fun e w'=>e= .returned (.agg #[.int .u8 p,.int .u32 s,.int .u32 d,.int .u16 (kyp p a),.int .u16 b])∧Below w.heap.size w w':=by
 rcases Bool.eq_false_or_eq_true (p==47)with h|h
 ·rw[show kyp p a=0 from by unfold kyp;rw[h];rfl]
  go_enter Tryz.func104,Tryz.ntmps104;go_wp2_with fail;exact bodyPost_ret (v:= .agg #[.int .u8 p,.int .u32 s,.int .u32 d,.int .u16 0,.int .u16 b]) (by simp[results,Tryz.results104,go_sem]) rfl ⟨rfl,(bA _ _).alloc (by simp) _⟩
 ·rw[show kyp p a=a from by unfold kyp;rw[h];rfl]
  go_enter Tryz.func104,Tryz.ntmps104;go_wp2_with fail;exact bodyPost_ret (v:= .agg #[.int .u8 p,.int .u32 s,.int .u32 d,.int .u16 a,.int .u16 b]) (by simp[results,Tryz.results104,go_sem]) rfl ⟨rfl,(bA _ _).alloc (by simp) _⟩
def tb (p s d a b:Int):List Int:=[p,s/16777216,s/65536 % 256,s/256 % 256,s % 256,d/16777216,d/65536 % 256,d/256 % 256,d % 256,a/256,a % 256,b/256,b % 256]
theorem zMf(p s d a b:Int)(w:World)(hs:0≤s∧s≤4294967295)(hd:0≤d∧d≤4294967295)(ha:0≤a∧a≤65535)(hb:0≤b∧b≤65535):Calls Tryz.prog 219 #[.agg #[.int .u8 p,.int .u32 s,.int .u32 d,.int .u16 a,.int .u16 b]] w fun e w'=>e= .returned (.agg ((tb p s d a b).map (.int .u8)).toArray)∧Below w.heap.size w w':=by
 go_enter Tryz.func219,Tryz.ntmps219;go_wp2_with fail;exact bodyPost_ret (v:= .agg #[.int .u8 (p),.int .u8 (s/16777216),.int .u8 (s/65536 % 256),.int .u8 (s/256 % 256),.int .u8 (s % 256),.int .u8 (d/16777216),.int .u8 (d/65536 % 256),.int .u8 (d/256 % 256),.int .u8 (d % 256),.int .u8 (a/256),.int .u8 (a % 256),.int .u8 (b/256),.int .u8 (b % 256)]) (by simp[results,Tryz.results219,go_sem]) rfl ⟨rfl,(bA _ _).alloc (by simp) _⟩
def zBs (h x:Int):Int:=bits .xor .u32 h (x % 4294967296)*16777619 % 4294967296
def hsh (zs:List Int):Int:=zs.foldl zBs 2166136261
theorem zO2(p s d a b:Int)(w:World)(hs:0≤s∧s≤4294967295)(hd:0≤d∧d≤4294967295)(ha:0≤a∧a≤65535)(hb:0≤b∧b≤65535):Calls Tryz.prog 161 #[.agg #[.int .u8 p,.int .u32 s,.int .u32 d,.int .u16 a,.int .u16 b]] w fun e w'=>e= .returned (.int .u32 (hsh (tb p s d (kyp p a) b)))∧Below w.heap.size w w':=by
 have hk:0≤kyp p a∧kyp p a≤65535:=by unfold kyp;split<;>omega
 have hb0:Below w.heap.size w (w.alloc (.cells #[.int .u8 p,.int .u32 s,.int .u32 d,.int .u16 a,.int .u16 b] 103)):=bA _ _;go_enter Tryz.func161,Tryz.ntmps161;go_wp2_with fail;generalize w.alloc (.cells #[.int .u8 p,.int .u32 s,.int .u32 d,.int .u16 a,.int .u16 b] 103)=w0 at*;refine(zD8 p s d a b _).mono ?_;rintro e w1 ⟨rfl,hb1⟩;have hw1:=hb0.trans (hb1.mono hb0.size);generalize hkk0:kyp p a=ka at*;have HKA:=zAd hkk0;clear hkk0;go_wp2_with fail;refine(zMf p s d ka b _ hs hd hk hb).mono ?_;rintro e w2 ⟨rfl,hb2⟩;have hw2:=hw1.trans (hb2.mono hw1.size);obtain⟨x0,x1,x2,x3,x4,x5,x6,x7,x8,x9,xa,xb,xc,hx⟩:∃x0 x1 x2 x3 x4 x5 x6 x7 x8 x9 xa xb xc,tb p s d ka b=[x0,x1,x2,x3,x4,x5,x6,x7,x8,x9,xa,xb,xc]:=⟨_,_,_,_,_,_,_,_,_,_,_,_,_,rfl⟩;have HX:=zAd hx;rw[hx];simp only[List.map_cons,List.map_nil];clear hx;go_wp2_with fail;go_loopw [3,9] (fun h i wr=>∃k hv:Int,(0≤k∧k≤13)∧i= .int .i64 k∧h= .int .u32 hv∧(0≤hv∧hv≤4294967295)∧Hid (hv=hsh ([x0,x1,x2,x3,x4,x5,x6,x7,x8,x9,xa,xb,xc].take k.toNat))∧wr=w2) (fun _ i _=>13-(intOf i).toNat)
 case atStart=>exact⟨0,2166136261,by omega,rfl,rfl,by omega,rfl,rfl⟩
 case round=>
  obtain⟨k,hv,hk13,rfl,rfl,hvb,HV,rfl⟩:=hrel;have hkk:k=0∨k=1∨k=2∨k=3∨k=4∨k=5∨k=6∨k=7∨k=8∨k=9∨k=10∨k=11∨k=12∨k=13:=by omega
  rcases hkk with rfl|rfl|rfl|rfl|rfl|rfl|rfl|rfl|rfl|rfl|rfl|rfl|rfl|rfl
  ·have hix:∀W:World,(Instr.index 371 (.agg #[.int .u8 x0,.int .u8 x1,.int .u8 x2,.int .u8 x3,.int .u8 x4,.int .u8 x5,.int .u8 x6,.int .u8 x7,.int .u8 x8,.int .u8 x9,.int .u8 xa,.int .u8 xb,.int .u8 xc]) (.int .i64 0)).run Tryz.prog W= .ok (.int .u8 x0) W:=fun W=>by kernel_rfl
   go_wp2_with fail;exact⟨⟨1,zBs hv x0,by omega,rfl,rfl,by unfold zBs;omega,by show _=_;rw[HV.out];rfl,trivial⟩,by simp[intOf]⟩
  ·have hix:∀W:World,(Instr.index 371 (.agg #[.int .u8 x0,.int .u8 x1,.int .u8 x2,.int .u8 x3,.int .u8 x4,.int .u8 x5,.int .u8 x6,.int .u8 x7,.int .u8 x8,.int .u8 x9,.int .u8 xa,.int .u8 xb,.int .u8 xc]) (.int .i64 1)).run Tryz.prog W= .ok (.int .u8 x1) W:=fun W=>by kernel_rfl
   go_wp2_with fail;exact⟨⟨2,zBs hv x1,by omega,rfl,rfl,by unfold zBs;omega,by show _=_;rw[HV.out];rfl,trivial⟩,by simp[intOf]⟩
  ·have hix:∀W:World,(Instr.index 371 (.agg #[.int .u8 x0,.int .u8 x1,.int .u8 x2,.int .u8 x3,.int .u8 x4,.int .u8 x5,.int .u8 x6,.int .u8 x7,.int .u8 x8,.int .u8 x9,.int .u8 xa,.int .u8 xb,.int .u8 xc]) (.int .i64 2)).run Tryz.prog W= .ok (.int .u8 x2) W:=fun W=>by kernel_rfl
   go_wp2_with fail;exact⟨⟨3,zBs hv x2,by omega,rfl,rfl,by unfold zBs;omega,by show _=_;rw[HV.out];rfl,trivial⟩,by simp[intOf]⟩
  ·have hix:∀W:World,(Instr.index 371 (.agg #[.int .u8 x0,.int .u8 x1,.int .u8 x2,.int .u8 x3,.int .u8 x4,.int .u8 x5,.int .u8 x6,.int .u8 x7,.int .u8 x8,.int .u8 x9,.int .u8 xa,.int .u8 xb,.int .u8 xc]) (.int .i64 3)).run Tryz.prog W= .ok (.int .u8 x3) W:=fun W=>by kernel_rfl
   go_wp2_with fail;exact⟨⟨4,zBs hv x3,by omega,rfl,rfl,by unfold zBs;omega,by show _=_;rw[HV.out];rfl,trivial⟩,by simp[intOf]⟩
  ·have hix:∀W:World,(Instr.index 371 (.agg #[.int .u8 x0,.int .u8 x1,.int .u8 x2,.int .u8 x3,.int .u8 x4,.int .u8 x5,.int .u8 x6,.int .u8 x7,.int .u8 x8,.int .u8 x9,.int .u8 xa,.int .u8 xb,.int .u8 xc]) (.int .i64 4)).run Tryz.prog W= .ok (.int .u8 x4) W:=fun W=>by kernel_rfl
   go_wp2_with fail;exact⟨⟨5,zBs hv x4,by omega,rfl,rfl,by unfold zBs;omega,by show _=_;rw[HV.out];rfl,trivial⟩,by simp[intOf]⟩
  ·have hix:∀W:World,(Instr.index 371 (.agg #[.int .u8 x0,.int .u8 x1,.int .u8 x2,.int .u8 x3,.int .u8 x4,.int .u8 x5,.int .u8 x6,.int .u8 x7,.int .u8 x8,.int .u8 x9,.int .u8 xa,.int .u8 xb,.int .u8 xc]) (.int .i64 5)).run Tryz.prog W= .ok (.int .u8 x5) W:=fun W=>by kernel_rfl
   go_wp2_with fail;exact⟨⟨6,zBs hv x5,by omega,rfl,rfl,by unfold zBs;omega,by show _=_;rw[HV.out];rfl,trivial⟩,by simp[intOf]⟩
  ·have hix:∀W:World,(Instr.index 371 (.agg #[.int .u8 x0,.int .u8 x1,.int .u8 x2,.int .u8 x3,.int .u8 x4,.int .u8 x5,.int .u8 x6,.int .u8 x7,.int .u8 x8,.int .u8 x9,.int .u8 xa,.int .u8 xb,.int .u8 xc]) (.int .i64 6)).run Tryz.prog W= .ok (.int .u8 x6) W:=fun W=>by kernel_rfl
   go_wp2_with fail;exact⟨⟨7,zBs hv x6,by omega,rfl,rfl,by unfold zBs;omega,by show _=_;rw[HV.out];rfl,trivial⟩,by simp[intOf]⟩
  ·have hix:∀W:World,(Instr.index 371 (.agg #[.int .u8 x0,.int .u8 x1,.int .u8 x2,.int .u8 x3,.int .u8 x4,.int .u8 x5,.int .u8 x6,.int .u8 x7,.int .u8 x8,.int .u8 x9,.int .u8 xa,.int .u8 xb,.int .u8 xc]) (.int .i64 7)).run Tryz.prog W= .ok (.int .u8 x7) W:=fun W=>by kernel_rfl
   go_wp2_with fail;exact⟨⟨8,zBs hv x7,by omega,rfl,rfl,by unfold zBs;omega,by show _=_;rw[HV.out];rfl,trivial⟩,by simp[intOf]⟩
  ·have hix:∀W:World,(Instr.index 371 (.agg #[.int .u8 x0,.int .u8 x1,.int .u8 x2,.int .u8 x3,.int .u8 x4,.int .u8 x5,.int .u8 x6,.int .u8 x7,.int .u8 x8,.int .u8 x9,.int .u8 xa,.int .u8 xb,.int .u8 xc]) (.int .i64 8)).run Tryz.prog W= .ok (.int .u8 x8) W:=fun W=>by kernel_rfl
   go_wp2_with fail;exact⟨⟨9,zBs hv x8,by omega,rfl,rfl,by unfold zBs;omega,by show _=_;rw[HV.out];rfl,trivial⟩,by simp[intOf]⟩
  ·have hix:∀W:World,(Instr.index 371 (.agg #[.int .u8 x0,.int .u8 x1,.int .u8 x2,.int .u8 x3,.int .u8 x4,.int .u8 x5,.int .u8 x6,.int .u8 x7,.int .u8 x8,.int .u8 x9,.int .u8 xa,.int .u8 xb,.int .u8 xc]) (.int .i64 9)).run Tryz.prog W= .ok (.int .u8 x9) W:=fun W=>by kernel_rfl
   go_wp2_with fail;exact⟨⟨10,zBs hv x9,by omega,rfl,rfl,by unfold zBs;omega,by show _=_;rw[HV.out];rfl,trivial⟩,by simp[intOf]⟩
  ·have hix:∀W:World,(Instr.index 371 (.agg #[.int .u8 x0,.int .u8 x1,.int .u8 x2,.int .u8 x3,.int .u8 x4,.int .u8 x5,.int .u8 x6,.int .u8 x7,.int .u8 x8,.int .u8 x9,.int .u8 xa,.int .u8 xb,.int .u8 xc]) (.int .i64 10)).run Tryz.prog W= .ok (.int .u8 xa) W:=fun W=>by kernel_rfl
   go_wp2_with fail;exact⟨⟨11,zBs hv xa,by omega,rfl,rfl,by unfold zBs;omega,by show _=_;rw[HV.out];rfl,trivial⟩,by simp[intOf]⟩
  ·have hix:∀W:World,(Instr.index 371 (.agg #[.int .u8 x0,.int .u8 x1,.int .u8 x2,.int .u8 x3,.int .u8 x4,.int .u8 x5,.int .u8 x6,.int .u8 x7,.int .u8 x8,.int .u8 x9,.int .u8 xa,.int .u8 xb,.int .u8 xc]) (.int .i64 11)).run Tryz.prog W= .ok (.int .u8 xb) W:=fun W=>by kernel_rfl
   go_wp2_with fail;exact⟨⟨12,zBs hv xb,by omega,rfl,rfl,by unfold zBs;omega,by show _=_;rw[HV.out];rfl,trivial⟩,by simp[intOf]⟩
  ·have hix:∀W:World,(Instr.index 371 (.agg #[.int .u8 x0,.int .u8 x1,.int .u8 x2,.int .u8 x3,.int .u8 x4,.int .u8 x5,.int .u8 x6,.int .u8 x7,.int .u8 x8,.int .u8 x9,.int .u8 xa,.int .u8 xb,.int .u8 xc]) (.int .i64 12)).run Tryz.prog W= .ok (.int .u8 xc) W:=fun W=>by kernel_rfl
   go_wp2_with fail;exact⟨⟨13,zBs hv xc,by omega,rfl,rfl,by unfold zBs;omega,by show _=_;rw[HV.out];rfl,trivial⟩,by simp[intOf]⟩
  ·go_wp2_with fail
   exact bodyPost_ret (v:= .int .u32 hv) (by simp[results,Tryz.results161,go_sem]) rfl ⟨by rw[HKA.out,HX.out,HV.out];rfl,hw2⟩
structure Rw where
 p:Int
 s:Int
 d:Int
 a:Int
 b:Int
 id:Int
 till:Int
 turn:Int
deriving DecidableEq
def rwc (r:Rw):List Value:=[.int .u8 r.p,.int .u32 r.s,.int .u32 r.d,.int .u16 r.a,.int .u16 r.b,.int .i64 r.id,.int .i64 r.till,.int .i64 r.turn]
def rwk (r:Rw):List Value:=[.int .u8 r.p,.int .u32 r.s,.int .u32 r.d,.int .u16 r.a,.int .u16 r.b]
def rws (l:List Rw):List Value:=l.flatMap rwc
theorem zCt(r:Rw):(rwc r).length=8:=rfl
theorem rws_at:∀(l:List Rw) (j i:Nat) (hj:j<l.length),i<8→(rws l)[j*8+i]? =(rwc l[j])[i]?
 |r::l,0,i,_,hi=>by
  unfold rws;rw[List.flatMap_cons,Nat.zero_mul,Nat.zero_add,List.getElem?_append_left (by rw[zCt];exact hi)];rfl
 |r::l,j+1,i,hj,hi=>by
  have ih:=rws_at l j i (by simpa using hj) hi;unfold rws at ih⊢;rw[List.flatMap_cons,List.getElem?_append_right (by rw[zCt];omega),zCt,show(j+1)*8+i-8=j*8+i from by omega,ih];rfl
def RdR (n₀:Nat) (W:World) (sv:Value) (l:List Rw):Prop:=
 (∃a cap,sv= .slice a 0 cap∧l=[]∧cap≤9223372036854775807∧(a=none→cap=0))∨
 ∃b off cap,sv= .slice (some ⟨b,off,none⟩) l.length cap∧l≠ []∧l.length≤cap∧cap≤9223372036854775807∧b<n₀∧∀j (hj:j<l.length),∀i,i<8→W.cell? ⟨b,off+j*8+i,none⟩=(rwc l[j])[i]?
theorem RdR.below {n₀:Nat} {A B:World} (h:Below n₀ A B) {sv:Value} {l:List Rw} :RdR n₀ A sv l→RdR n₀ B sv l
 | .inl e=> .inl e
 | .inr ⟨b,off,cap,e,hne,hl,hm,hb,hc⟩=> .inr ⟨b,off,cap,e,hne,hl,hm,hb,fun j hj i hi=>(h.cell (p:=⟨b,off+j*8+i,none⟩) hb).trans (hc j hj i hi)⟩
theorem RdR.slice {n₀:Nat} {A:World} {sv:Value} {l:List Rw} :RdR n₀ A sv l→∃a cap,sv= .slice a l.length cap∧l.length≤cap∧cap≤9223372036854775807
 | .inl ⟨a,cap,e,hz,hm,_⟩=>⟨a,cap,by rw[e,hz];rfl,by rw[hz];exact Nat.zero_le _,hm⟩
 | .inr ⟨b,off,cap,e,_,hl,hm,_⟩=>⟨_,cap,e,hl,hm⟩
theorem RdR.cells {n₀:Nat} {W:World} {sv:Value} {l:List Rw} (h:RdR n₀ W sv l)(hne:0<l.length):∃b off cap,sv= .slice (some ⟨b,off,none⟩) l.length cap∧l.length≤cap∧cap≤9223372036854775807∧b<n₀∧∀j (hj:j<l.length),∀i,i<8→W.cell? ⟨b,off+j*8+i,none⟩=(rwc l[j])[i]? :=by
 rcases h with⟨a,cap,_,rfl,_⟩|⟨b,off,cap,e,_,hl,hm,hb,hc⟩
 ·simp at hne
 ·exact ⟨b,off,cap,e,hl,hm,hb,hc⟩
theorem zDd {base:Nat} {W:World} {v:Value} {l:List Rw} (h:W.ownsRow base 220 8 v l.length (rws l)):RdR W.heap.size W v l:=by
 obtain⟨h1,⟨rfl,h0⟩|⟨g,cap,cur,rfl,hg,hh,hl,hm,hs,hc⟩⟩:=h
 ·have:l=[]:=List.eq_nil_of_length_eq_zero h0
  subst this;exact .inl ⟨none,0,rfl,rfl,by omega,fun _=>rfl⟩
 ·by_cases hn:l=[]
  ·subst hn
   exact .inl ⟨_,cap,rfl,rfl,by simpa[maxLen]using hm,fun h=>by cases h⟩
  ·refine .inr ⟨g,0,cap,rfl,hn,hl,by simpa[maxLen]using hm,(eS hh),fun j hj i hi=> ?_⟩
   rw[Nat.zero_add,zAa hh,←rws_at l j i hj hi,←hc,List.getElem?_take_of_lt (by omega)];simp
def isK (kp ks kd ka kb:Int) (r:Rw):Bool:=r.p==kp && (r.s==ks && (r.d==kd && (r.a==ka && r.b==kb)))
theorem of_key(p s d a b:Int)(w:World):Calls Tryz.prog 162 #[.agg #[.int .u8 p,.int .u32 s,.int .u32 d,.int .u16 a,.int .u16 b]] w fun e w'=>∃g,e= .returned (.func (.func 220) #[] #[.pointer (some ⟨g,0,none⟩)])∧Below w.heap.size w w'∧w.heap.size≤g∧w'.heap[g]? =some (.cells #[.int .u8 p,.int .u32 s,.int .u32 d,.int .u16 (kyp p a),.int .u16 b] 103 (0,0)):=by
 have hb0:Below w.heap.size w (w.alloc (.cells #[.int .u8 p,.int .u32 s,.int .u32 d,.int .u16 a,.int .u16 b] 103)):=bA _ _;go_enter Tryz.func162,Tryz.ntmps162;go_wp2_with fail;generalize w.alloc (.cells #[.int .u8 p,.int .u32 s,.int .u32 d,.int .u16 a,.int .u16 b] 103)=w0 at*;refine(zD8 p s d a b w0).mono ?_;rintro e w1 ⟨rfl,hb1⟩;generalize hk:kyp p a=ka at*;have HK:=zAd hk;clear hk;have hw1:=hb0.trans (hb1.mono hb0.size);have la:Later w1 (w1.alloc (.cells #[.int .u8 p,.int .u32 s,.int .u32 d,.int .u16 ka,.int .u16 b] 103)):=bA _ _;have gk:=heap_alloc_new w1 (.cells #[.int .u8 p,.int .u32 s,.int .u32 d,.int .u16 ka,.int .u16 b] 103);have hw2:=hw1.trans (la.mono hw1.size);have hsz:=hw1.size;go_wp2_with fail;go_ret
 exact⟨w1.heap.size,rfl,hw2,hsz,by rw[HK.out];exact gk⟩
theorem is_any(r:Rw)(g:Nat)(kp ks kd ka kb:Int)(w:World)(hg:w.heap[g]? =some (.cells #[.int .u8 kp,.int .u32 ks,.int .u32 kd,.int .u16 ka,.int .u16 kb] 103 (0,0))):
  Calls Tryz.prog 220 #[.agg (rwc r).toArray,.pointer (some ⟨g,0,none⟩)] w fun e w'=>e= .returned (.bool (isK kp ks kd ka kb r))∧Below w.heap.size w w':=by
 obtain⟨p,s,d,a,b,id,till,turn⟩:=r;unfold rwc isK;have hb0:Below w.heap.size w (w.alloc (.cells #[.int .u8 p,.int .u32 s,.int .u32 d,.int .u16 a,.int .u16 b,.int .i64 id,.int .i64 till,.int .i64 turn] 220)):=bA _ _;have kg:=zAa (zAb hb0 hg);go_enter Tryz.func220,Tryz.ntmps220;go_wp2_with fail
 all_goals go_ret
 all_goals exact⟨by simp_all,bA _ _⟩
def kix (kp ks kd ka kb:Int) (l:List Rw):Option Nat:=l.findIdx? (isK kp ks kd ka kb)
theorem kix_none {kp ks kd ka kb:Int} {l:List Rw} (h:∀j (hj:j<l.length),isK kp ks kd ka kb l[j]=false):kix kp ks kd ka kb l=none:=by
 unfold kix;rw[List.findIdx?_eq_none_iff];intro r hr
 obtain⟨j,hj,rfl⟩:=List.getElem_of_mem hr;exact h j hj
theorem kix_some {kp ks kd ka kb:Int} {l:List Rw} {k:Nat} (hk:k<l.length)(h:∀j (hj:j<l.length),j<k→isK kp ks kd ka kb l[j]=false)(ht:isK kp ks kd ka kb l[k]=true):kix kp ks kd ka kb l=some k:=by
 unfold kix;rw[List.findIdx?_eq_some_iff_getElem];exact⟨hk,ht,fun j hj=>by simpa using h j (by omega) hj⟩
theorem zS2(n₀ g:Nat)(sv:Value)(l:List Rw)(kp ks kd ka kb:Int)(w:World)(hn:n₀≤w.heap.size)(hI:RdR n₀ w sv l)(hg:w.heap[g]? =some (.cells #[.int .u8 kp,.int .u32 ks,.int .u32 kd,.int .u16 ka,.int .u16 kb] 103 (0,0))):
  Calls Tryz.prog 274 #[sv,.func (.func 220) #[] #[.pointer (some ⟨g,0,none⟩)]] w fun e w'=>Below w.heap.size w w'∧((kix kp ks kd ka kb l=none∧e= .returned (.int .i64 (-1)))∨∃k:Nat,kix kp ks kd ka kb l=some k∧k<l.length∧e= .returned (.int .i64 (k:Int))):=by
 obtain⟨a,cap,rfl,hc1,hc2⟩:=hI.slice;have hlb:(l.length:Int)≤9223372036854775807:=by omega
 go_enter Tryz.func274,Tryz.ntmps274;go_wp2_with fail;go_loopw [8] (fun i wr=>∃k:Nat,k≤l.length∧i= .int .i64 (k:Int)∧(∀j (hj:j<l.length),j<k→isK kp ks kd ka kb l[j]=false)∧Below w.heap.size w wr) (fun i _=>l.length-(intOf i).toNat)
 case atStart=>exact⟨0,by omega,rfl,fun j _ h=>by omega,Below.refl _ _⟩
 case round=>
  obtain⟨k,hk,rfl,hz,hbw⟩:=hrel;have HZ:=zAd hz;clear hz;by_cases hlt:k<l.length
  ·obtain ⟨b,off,cp,e,_,_,hbb,hcs⟩:=(hI.below (hbw.mono hn)).cells (by omega)
   simp at e
   obtain⟨rfl,rfl⟩:=e;have hgr:=zAb hbw hg;have c0:=hcs k hlt 0 (by omega);have c1:=hcs k hlt 1 (by omega);have c2:=hcs k hlt 2 (by omega);have c3:=hcs k hlt 3 (by omega);have c4:=hcs k hlt 4 (by omega);have c5:=hcs k hlt 5 (by omega);have c6:=hcs k hlt 6 (by omega);have c7:=hcs k hlt 7 (by omega);have hlt':(k:Int)<l.length:=by omega
   clear hcs;generalize hgo:l[k]=r at*;have HGO:=zAd hgo;clear hgo;have HR:Hid (Value.agg (rwc r).toArray= .agg #[.int .u8 r.p,.int .u32 r.s,.int .u32 r.d,.int .u16 r.a,.int .u16 r.b,.int .i64 r.id,.int .i64 r.till,.int .i64 r.turn]):=rfl;have hci:=is_any r g kp ks kd ka kb wr hgr;rw[HR.out]at hci;simp only[rwc,List.getElem?_cons_zero,List.getElem?_cons_succ,Nat.add_zero]at c0 c1 c2 c3 c4 c5 c6 c7;have HCI:=zAd hci;clear hci;go_wp2_with fail;refine HCI.out.mono ?_;rintro e w' ⟨rfl,hb'⟩;have hw':=hbw.trans (hb'.mono hbw.size);cases ht:isK kp ks kd ka kb r with
   |true=>
    have HTT:=zAd ht;clear ht c0 c1 c2 c3 c4 c5 c6 c7;go_wp2_with fail;go_ret
    exact⟨hw',.inr ⟨k,kix_some hlt HZ.out (by rw[HGO.out];exact HTT.out),hlt,rfl⟩⟩
   |false=>
    have HTT:=zAd ht;clear ht c0 c1 c2 c3 c4 c5 c6 c7;go_wp2_with fail;go_roundw
    case rel=>exact⟨k+1,by omega,by go_num,fun j hj hjk=>by by_cases h:j=k;(subst h;rw[HGO.out];exact HTT.out);exact HZ.out j hj (by omega),hw'⟩
    case measure=>simp[intOf];omega
  ·obtain rfl:k=l.length:=by omega
   go_wp2_with fail;go_ret
   exact⟨hbw,.inl ⟨kix_none (fun j hj=>HZ.out j hj hj),rfl⟩⟩
def TBv (base:Nat) (W:World) (b:Nat) (lim cnt trn:Int) (vs:List Value) (ls:Nat→List Rw):Prop:=
 vs.length=256∧base≤b∧W.heap[b]? =some (.cells (.int .i64 lim:: .int .i64 cnt:: .int .i64 trn::vs).toArray 217 (0,0))∧
 (∀i,i<256→W.ownsRow base 220 8 (vs[i]?.getD undef) (ls i).length (rws (ls i)))∧
 ∀i j,i<256→j<256→i≠j→∀g,(vs[i]?.getD undef).ownBlock=some g→(vs[j]?.getD undef).ownBlock≠some g
def TB (base:Nat) (W:World) (b:Nat) (lim cnt trn:Int) (ls:Nat→List Rw):Prop:=∃vs,TBv base W b lim cnt trn vs ls
theorem zCu {base:Nat} {A B:World} {v:Value} {n:Nat} {xs:List Value} (h:A.ownsRow base 220 8 v n xs)(l:Later A B):B.ownsRow base 220 8 v n xs:=by
 obtain⟨h1,h2|⟨g,cap,cur,hv,hg,hh,r⟩⟩:=h
 ·exact ⟨h1,.inl h2⟩
 ·exact ⟨h1,.inr ⟨g,cap,cur,hv,hg,zAb l hh,r⟩⟩
theorem TBv.later {base:Nat} {A B:World} {b:Nat} {lim cnt trn:Int} {vs:List Value} {ls:Nat→List Rw} (h:TBv base A b lim cnt trn vs ls)(l:Later A B):TBv base B b lim cnt trn vs ls:=
 ⟨h.1,h.2.1,zAb l h.2.2.1,fun i hi=>zCu (h.2.2.2.1 i hi) l,h.2.2.2.2⟩
theorem TBv.cell {base:Nat} {W:World} {b:Nat} {lim cnt trn:Int} {vs:List Value} {ls:Nat→List Rw} (h:TBv base W b lim cnt trn vs ls)(i:Nat)(hi:i<256):W.cell? ⟨b,3+i,none⟩=some (vs[i]?.getD undef):=by
 rw[zAa h.2.2.1];simp only[List.getElem?_toArray];rw[show 3+i=i+1+1+1 from by omega];simp[show i<vs.length from by rw[h.1];exact hi]
theorem zO3(b:Nat)(h:Int)(w:World)(hh:0≤h∧h≤4294967295):
  Calls Tryz.prog 217 #[.pointer (some ⟨b,3,none⟩),.int .u32 h] w fun e w'=>e= .returned (.pointer (some ⟨b,3+(h % 256).toNat,none⟩))∧w'=w:=by
 obtain⟨r,hr⟩:∃r:Nat,h % 256=(r:Int):=⟨(h % 256).toNat,by omega⟩;have hrt:h.tmod 256=(r:Int):=by rw[Int.tmod_eq_emod_of_nonneg hh.1];exact hr
 have hr3:(r:Int)<256:=by omega
 rw[hr,Int.toNat_natCast];have HR:=zAd hr;clear hr;go_enter Tryz.func217,Tryz.ntmps217;go_wp2_with fail;go_ret
 exact⟨by simp,rfl⟩
theorem zS3(base b g:Nat)(lim cnt trn:Int)(vs:List Value)(ls:Nat→List Rw)(h:Int)(kp ks kd ka kb:Int)(w:World)(hT:TBv base w b lim cnt trn vs ls)(hh:0≤h∧h≤4294967295)(hg:w.heap[g]? =some (.cells #[.int .u8 kp,.int .u32 ks,.int .u32 kd,.int .u16 ka,.int .u16 kb] 103 (0,0))):
  Calls Tryz.prog 216 #[.pointer (some ⟨b,3,none⟩),.int .u32 h,.func (.func 220) #[] #[.pointer (some ⟨g,0,none⟩)]] w fun e w'=>Below w.heap.size w w'∧
   ((kix kp ks kd ka kb (ls (h % 256).toNat)=none∧e= .returned (.pointer none))∨∃k g2 cap,kix kp ks kd ka kb (ls (h % 256).toNat)=some k∧k<(ls (h % 256).toNat).length∧vs[(h % 256).toNat]?.getD undef= .slice (some ⟨g2,0,none⟩) (ls (h % 256).toNat).length cap∧e= .returned (.pointer (some ⟨g2,k*8,none⟩))):=by
 have hi:(h % 256).toNat<256:=by omega
 have hc:=hT.cell _ hi;have hO:=hT.2.2.2.1 _ hi;generalize hii:(h % 256).toNat=i at*;have HI:=zAd hii;clear hii;generalize hvs:vs[i]?.getD undef=v at*;have HVS:=zAd hvs;clear hvs;have hR:=zDd hO;have HO:=zAd hO;clear hO;obtain⟨a,cap,rfl,hcp,hcm⟩:=hR.slice;go_enter Tryz.func216,Tryz.ntmps216;go_wp2_with fail;refine(zO3 b h w hh).mono ?_;rw[HI.out];rintro e w1 ⟨rfl,rfl⟩;go_wp2_with fail;refine(zS2 w1.heap.size g _ (ls i) kp ks kd ka kb w1 (Nat.le_refl _) hR hg).mono ?_;rintro e w2 ⟨hb2,⟨hk,rfl⟩|⟨k,hk,hkl,rfl⟩⟩
 ·have HK:=zAd hk
  clear hk hc;go_wp2_with fail;go_ret
  exact⟨hb2,.inl ⟨HK.out,rfl⟩⟩
 ·have HK:=zAd hk
  clear hk hc;obtain⟨_,⟨_,h0⟩|⟨g2,cap2,cur,e2,_⟩⟩:=HO.out
  ·omega
  simp at e2
  obtain⟨rfl,rfl⟩:=e2;have hkl':(k:Int)<(ls i).length:=by omega
  go_wp2_with fail;go_ret
  exact⟨hb2,.inr ⟨k,g2,cap,HK.out,hkl,rfl,rfl⟩⟩
def bki (p s d a b:Int):Nat:=(hsh (tb p s d (kyp p a) b) % 256).toNat
theorem hstep_bd(h x:Int):0≤zBs h x∧zBs h x≤4294967295:=by unfold zBs;omega
theorem hsh_bd(x:Int)(zs:List Int):0≤hsh (zs++[x])∧hsh (zs++[x])≤4294967295:=by
 unfold hsh;rw[List.foldl_append];exact hstep_bd _ _
theorem zS4(p s d a b:Int):0≤hsh (tb p s d a b)∧hsh (tb p s d a b)≤4294967295:=hsh_bd (b % 256) [p,s/16777216,s/65536 % 256,s/256 % 256,s % 256,d/16777216,d/65536 % 256,d/256 % 256,d % 256,a/256,a % 256,b/256]
theorem zDz(p s d a b:Int):bki p s d a b<256:=by have:=zS4 p s d (kyp p a) b;unfold bki;omega
def kx (p s d a b:Int) (ls:Nat→List Rw):Option Nat:=kix p s d (kyp p a) b (ls (bki p s d a b))
theorem zGe(base bt:Nat)(lim cnt trn:Int)(vs:List Value)(ls:Nat→List Rw)(p s d a b:Int)(w:World)(hT:TBv base w bt lim cnt trn vs ls)(hs:0≤s∧s≤4294967295)(hd:0≤d∧d≤4294967295)(ha:0≤a∧a≤65535)(hb:0≤b∧b≤65535):
  Calls Tryz.prog 159 #[.pointer (some ⟨bt,0,none⟩),.agg #[.int .u8 p,.int .u32 s,.int .u32 d,.int .u16 a,.int .u16 b]] w fun e w'=>Below w.heap.size w w'∧
   ((kx p s d a b ls=none∧e= .returned (.pointer none))∨∃k g2 cap,kx p s d a b ls=some k∧k<(ls (bki p s d a b)).length∧vs[bki p s d a b]?.getD undef= .slice (some ⟨g2,0,none⟩) (ls (bki p s d a b)).length cap∧e= .returned (.pointer (some ⟨g2,k*8,none⟩))):=by
 have hb0:Below w.heap.size w (w.alloc (.cells #[.int .u8 p,.int .u32 s,.int .u32 d,.int .u16 a,.int .u16 b] 103)):=bA _ _;have t0:=heap_alloc_new w (.cells #[.int .u8 p,.int .u32 s,.int .u32 d,.int .u16 a,.int .u16 b] 103);have hhb:=zS4 p s d (kyp p a) b;go_enter Tryz.func159,Tryz.ntmps159;go_upto_region 1 with fail;generalize w.alloc (.cells #[.int .u8 p,.int .u32 s,.int .u32 d,.int .u16 a,.int .u16 b] 103)=w0 at*;go_cut [4] (fun v wx=>Later w0 wx∧((kx p s d a b ls=none∧v= .pointer none)∨∃k g2 cap,kx p s d a b ls=some k∧k<(ls (bki p s d a b)).length∧vs[bki p s d a b]?.getD undef= .slice (some ⟨g2,0,none⟩) (ls (bki p s d a b)).length cap∧v= .pointer (some ⟨g2,k*8,none⟩)))
 case first=>
  refine zAn (R:=Later) Later.pre Later.drew 9 rfl (by kernel_rfl) (fun V1 hV1=> ?_);have q0:∀v1,Later V1 v1→∀i,v1.cell? ⟨w.heap.size,i,none⟩=#[Value.int .u8 p,.int .u32 s,.int .u32 d,.int .u16 a,.int .u16 b][i]? :=fun v1 h=>zAa (zAb (hV1.trans h) t0);refine rX Later.pre 0 ?_;refine rX Later.pre 1 ?_;refine rX Later.pre 2 ?_;refine rX Later.pre 3 ?_;refine rX Later.pre 5 ?_;clear q0;refine zAq Later.pre 4 (.int .u32 (hsh (tb p s d (kyp p a) b))) rfl (by kernel_rfl) (by kernel_rfl) (by kernel_rfl) (fun _ _ _ h=>h) rfl (fun w1 hw1=>zAo 161 #[.agg #[.int .u8 p,.int .u32 s,.int .u32 d,.int .u16 a,.int .u16 b]] (by go_simp) ((zO2 p s d a b w1 hs hd ha hb).mono fun e w2 h=>h)) ?_;simp only[Act.put,sA,sB,sC];refine rO 6 (fun V2 hV2=> ?_);refine zAj 162 #[.agg #[.int .u8 p,.int .u32 s,.int .u32 d,.int .u16 a,.int .u16 b]] (by go_simp) ?_;refine(of_key p s d a b V2).mono ?_;rintro e V3 ⟨g,rfl,hb3,hgz,hg3⟩;have l3:Later V2 V3:=hb3;refine⟨l3,?_⟩;simp only[Act.put,sA,sB,sC];refine rO 7 (fun V4 hV4=> ?_);refine zAj 216 #[.pointer (some ⟨bt,3,none⟩),.int .u32 (hsh (tb p s d (kyp p a) b)),.func (.func 220) #[] #[.pointer (some ⟨g,0,none⟩)]] (by go_simp) ?_;have lw:Later w w0:=hb0;have l4:=(hV1.trans hV2).trans (l3.trans hV4);refine(zS3 base bt g lim cnt trn vs ls (hsh (tb p s d (kyp p a) b)) p s d (kyp p a) b V4 (hT.later (lw.trans l4)) hhb (zAb hV4 hg3)).mono ?_
  rw[show (hsh (tb p s d (kyp p a) b) % 256).toNat=bki p s d a b from rfl];rintro e V5 ⟨hb5,hres⟩;have l5:Later V4 V5:=hb5;rcases hres with⟨hk,rfl⟩|⟨k,g2,cap,hk,hkl,hv,rfl⟩
  ·refine ⟨l5,?_⟩
   simp only[Act.put,sA,sB,sC];refine rX Later.pre 8 ?_;refine rD (fun V6 hV6=> ?_);have hl6:=l4.trans (l5.trans hV6);have HK:Hid (kx p s d a b ls=none):=hk;clear hk;go_wp2_with fail;go_meet
   exact⟨hl6,.inl ⟨HK.out,rfl⟩⟩
  ·refine ⟨l5,?_⟩
   simp only[Act.put,sA,sB,sC];refine rX Later.pre 8 ?_;refine rD (fun V6 hV6=> ?_);have hl6:=l4.trans (l5.trans hV6);have HK:Hid (kx p s d a b ls=some k):=hk;have HV:=zAd hv;clear hk hv;go_wp2_with fail;go_meet
   exact⟨hl6,.inr ⟨k,g2,cap,HK.out,hkl,HV.out,rfl⟩⟩
 case rest=>
  obtain⟨lc,hres⟩:=hcut;have hwc:=hb0.trans (lc.mono hb0.size);rcases hres with⟨hk,rfl⟩|⟨k,g2,cap,hk,hkl,hv,rfl⟩
  ·have HK:=zAd hk
   clear hk;go_wp2_with fail;go_ret
   exact⟨hwc,.inl ⟨HK.out,rfl⟩⟩
  ·have HK:=zAd hk
   have HV:=zAd hv;clear hk hv;go_wp2_with fail;go_ret
   exact⟨hwc,.inr ⟨k,g2,cap,HK.out,hkl,HV.out,rfl⟩⟩
theorem TBv.row {base:Nat} {W:World} {b:Nat} {lim cnt trn:Int} {vs:List Value} {ls:Nat→List Rw} (h:TBv base W b lim cnt trn vs ls)(i:Nat)(hi:i<256) {g cap k:Nat} (hv:vs[i]?.getD undef= .slice (some ⟨g,0,none⟩) (ls i).length cap)(hk:k<(ls i).length):∀j,j<8→W.cell? ⟨g,k*8+j,none⟩=(rwc (ls i)[k])[j]? :=by
 have hO:=zDd (h.2.2.2.1 i hi);rw[hv]at hO;obtain⟨b',off,cp,e,_,_,_,hc⟩:=hO.cells (by omega)
 simp at e
 obtain⟨⟨rfl,rfl⟩,rfl⟩:=e;intro j hj
 have:=hc k hk j hj;rwa [Nat.zero_add]at this
def gtv (p s d a b:Int) (ls:Nat→List Rw):Value:=match kx p s d a b ls with|none=> .tuple #[.int .i64 0,.int .i64 0,.bool false]|some k=>match (ls (bki p s d a b))[k]? with|some r=> .tuple #[.int .i64 r.id,.int .i64 r.till,.bool true]|none=>undef
theorem zS5(base bt:Nat)(lim cnt trn:Int)(ls:Nat→List Rw)(p s d a b:Int)(w:World)(hT:TB base w bt lim cnt trn ls)(hs:0≤s∧s≤4294967295)(hd:0≤d∧d≤4294967295)(ha:0≤a∧a≤65535)(hb:0≤b∧b≤65535):
  Calls Tryz.prog 103 #[.pointer (some ⟨bt,0,none⟩),.agg #[.int .u8 p,.int .u32 s,.int .u32 d,.int .u16 a,.int .u16 b]] w fun e w'=>Below w.heap.size w w'∧e= .returned (gtv p s d a b ls):=by
 obtain⟨vs,hT⟩:=hT;have hb0:Below w.heap.size w (w.alloc (.cells #[.int .u8 p,.int .u32 s,.int .u32 d,.int .u16 a,.int .u16 b] 103)):=bA _ _;go_enter Tryz.func103,Tryz.ntmps103;go_wp2_with fail;generalize w.alloc (.cells #[.int .u8 p,.int .u32 s,.int .u32 d,.int .u16 a,.int .u16 b] 103)=w0 at*;have lw:Later w w0:=hb0;refine(zGe base bt lim cnt trn vs ls p s d a b w0 (hT.later lw) hs hd ha hb).mono ?_;rintro e w1 ⟨hb1,⟨hk,rfl⟩|⟨k,g2,cap,hk,hkl,hv,rfl⟩⟩
 ·have l1:Later w0 w1:=hb1
  have hw1:=hb0.trans (hb1.mono hb0.size);have HG:Hid (gtv p s d a b ls= .tuple #[.int .i64 0,.int .i64 0,.bool false]):=by show _=_;unfold gtv;rw[hk]
  clear hk;go_wp2_with fail;exact bodyPost_ret (v:= .tuple #[.int .i64 0,.int .i64 0,.bool false]) (by simp[results,Tryz.results103,go_sem]) rfl ⟨hw1,by rw[HG.out]⟩
 ·have l1:Later w0 w1:=hb1
  have hw1:=hb0.trans (hb1.mono hb0.size);have hT1:=hT.later (lw.trans l1);have hrow:=hT1.row _ (zDz p s d a b) hv hkl;have c5:=hrow 5 (by omega);have c6:=hrow 6 (by omega);have HG:Hid (gtv p s d a b ls= .tuple #[.int .i64 (ls (bki p s d a b))[k].id,.int .i64 (ls (bki p s d a b))[k].till,.bool true]):=by show _=_;unfold gtv;rw[hk];simp[hkl]
  clear hk hrow hv;generalize (ls (bki p s d a b))[k]=r at*;simp only[rwc,List.getElem?_cons_zero,List.getElem?_cons_succ]at c5 c6;go_upto_region 6 with fail;refine zAn (R:=Later) Later.pre Later.drew 11 rfl (by kernel_rfl) (fun V1 hV1=> ?_);have q5:∀v1,Later V1 v1→v1.cell? ⟨g2,k*8+5,none⟩=some (.int .i64 r.id):=fun v1 h=>(hV1.trans h).cell c5;have q6:∀v1,Later V1 v1→v1.cell? ⟨g2,k*8+6,none⟩=some (.int .i64 r.till):=fun v1 h=>(hV1.trans h).cell c6;clear c5 c6;refine rX Later.pre 0 ?_;refine rX Later.pre 1 ?_;refine rX Later.pre 2 ?_;refine rX Later.pre 3 ?_;refine rX Later.pre 4 ?_;refine rX Later.pre 5 ?_;refine rX Later.pre 6 ?_;refine rX Later.pre 7 ?_;refine rX Later.pre 8 ?_;refine rX Later.pre 9 ?_;refine rX Later.pre 10 ?_;refine rD (fun V2 hV2=> ?_);have hw2:=hw1.trans ((hV1.trans hV2).mono hw1.size);clear q5 q6;go_wp2_with fail;exact bodyPost_ret (v:= .tuple #[.int .i64 r.id,.int .i64 r.till,.bool true]) (by simp[results,Tryz.results103,go_sem]) rfl ⟨hw2,by rw[HG.out]⟩
theorem zO4(base bt:Nat)(lim cnt trn:Int)(vs:List Value)(ls:Nat→List Rw)(w:World)(hT:TBv base w bt lim cnt trn vs ls)(htr:0≤trn∧trn≤1000000):
  Calls Tryz.prog 292 #[.pointer (some ⟨bt,0,none⟩)] w fun e w'=>e= .returned (.int .i64 (trn+1))∧But (fun g=>g=bt) w w'∧TBv base w' bt lim cnt (trn+1) vs ls:=by
 have hh:=hT.2.2.1;have k2:w.cell? ⟨bt,2,none⟩=some (.int .i64 trn):=by rw[zAa hh];rfl
 have f2:=zAc hh 2;have hst:=zAh hh 2 (.int .i64 (trn+1));have hbs:But (fun g=>g=bt) w (w.setCell ⟨bt,2,none⟩ (.int .i64 (trn+1))):=(But.refl (fun g=>g=bt) _).setCell (p:=⟨bt,2,none⟩) rfl _
 have hT2:TBv base (w.setCell ⟨bt,2,none⟩ (.int .i64 (trn+1))) bt lim cnt (trn+1) vs ls:=by
  refine⟨hT.1,hT.2.1,by simpa using hst,fun i hi=> ?_,hT.2.2.2.2⟩;obtain⟨h1,h2|⟨g,cap,cur,hv,hg,hh2,r⟩⟩:=hT.2.2.2.1 i hi
  ·exact ⟨h1,.inl h2⟩
  ·have hne:g≠bt:=fun e=>by subst e;rw[hh2]at hh;simp at hh
   exact⟨h1,.inr ⟨g,cap,cur,hv,hg,(hbs.block g (eS hh2) hne).trans hh2,r⟩⟩
 have k3:(w.setCell ⟨bt,2,none⟩ (.int .i64 (trn+1))).cell? ⟨bt,2,none⟩=some (.int .i64 (trn+1)):=by rw[zAa hT2.2.2.1];rfl
 have HT2:=zAd hT2;have HB:=zAd hbs;clear hT2 hbs hst hT hh;go_enter Tryz.func292,Tryz.ntmps292;go_wp2_with fail;go_ret
 exact⟨rfl,HB.out,HT2.out⟩
def zEw (till:Int):Bool:=decide (0≤till∧till≤1099511627776)
theorem zKh(till:Int)(w:World):Calls Tryz.prog 291 #[.int .i64 till] w fun e w'=>e= .returned (.bool (zEw till))∧w'=w:=by
 by_cases h1:0≤till
 ·by_cases h2:till≤1099511627776
  ·have HM:Hid (zEw till=true):=by show _=_;unfold zEw;exact decide_eq_true ⟨h1,h2⟩
   go_enter Tryz.func291,Tryz.ntmps291;go_wp2_with fail;go_ret
   exact⟨by rw[HM.out];simp[h1,h2],rfl⟩
  ·have HM:Hid (zEw till=false):=by show _=_;unfold zEw;exact decide_eq_false (fun h=>h2 h.2)
   go_enter Tryz.func291,Tryz.ntmps291;go_wp2_with fail;go_ret
   exact⟨by rw[HM.out];simp[h1,h2],rfl⟩
 ·have HM:Hid (zEw till=false):=by show _=_;unfold zEw;exact decide_eq_false (fun h=>h1 h.1)
  have h1':¬0≤till:=h1;go_enter Tryz.func291,Tryz.ntmps291;go_wp2_with fail;go_ret
  exact⟨by rw[HM.out];simp[h1'],rfl⟩
end Go.Proofs.YteaeilghamjjkaaGreatDoor
