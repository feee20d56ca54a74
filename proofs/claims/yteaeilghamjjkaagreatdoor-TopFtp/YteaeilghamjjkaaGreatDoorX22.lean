import Derived.Test.YteaeilghamjjkaaGreatDoorX23
import Derived.Laws.Cover3
import Derived.Deep.OwnRows
namespace Go.Proofs.YteaeilghamjjkaaGreatDoor
set_option maxHeartbeats 4000000
open Go.RowKit Go.Shelf
set_option maxRecDepth 100000
set_option linter.unusedVariables false
set_option linter.unusedSimpArgs false
def ghd (n:Nat):Nat:=if n=0 then 8 else if n=3 then 16 else 12
def bgz (zs:List Int):Nat:=bgo (zs[0]?.getD 0) (zs[1]?.getD 0) (zs[2]?.getD 0) (zs[3]?.getD 0)
def pge (proto:Int) (zs:List Int):Int:=if proto≠47 then 12 else if zs.length<8 then 3 else if bgz zs=4 then 4 else if(zs.length:Int)<ghd (bgz zs)+wat zs 4 then 3 else if(ghd (bgz zs):Int)+wat zs 4<zs.length then 4 else 0
theorem zTm(tos id ttl proto src dst:Int)(keep:Bool)(so sd:Value)(zd:List Int)(w:World)(hB:Mt.By zd)(hI:Rd w.heap.size w sd zd)(hl:12+zd.length≤140737488355328)(hsr:0≤src∧src≤4294967295)(hds:0≤dst∧dst≤4294967295):
  Calls Tryz.prog 224 #[.agg #[.int .u8 tos,.int .u16 id,.bool keep,.int .u8 ttl,.int .u8 proto,.int .u32 src,.int .u32 dst,so,sd]] w fun e w'=>Below w.heap.size w w'∧∃a b:Int,e= .returned (.tuple #[.agg #[.int .u16 a,.int .u16 b],.int .i64 (pte proto src dst zd)])∧(pte proto src dst zd=0→a=wat zd 0∧b=wat zd 2):=by
 obtain⟨ad,cd,rfl,_,_⟩:=hI.slice;have hb0:Below w.heap.size w ((w.alloc (.cells #[.int .u8 tos,.int .u16 id,.bool keep,.int .u8 ttl,.int .u8 proto,.int .u32 src,.int .u32 dst,so,.slice ad zd.length cd] 40)).alloc (.cells #[.int .u16 0,.int .u16 0] 317)):=(bA _ _).alloc (by simp) _;have r0:=heap_alloc_new (w.alloc (.cells #[.int .u8 tos,.int .u16 id,.bool keep,.int .u8 ttl,.int .u8 proto,.int .u32 src,.int .u32 dst,so,.slice ad zd.length cd] 40)) (.cells #[.int .u16 0,.int .u16 0] 317);rw[World.size_alloc]at r0;have R0:=zAd r0;clear r0;go_enter Tryz.func224,Tryz.ntmps224;go_wp2_with fail;generalize (w.alloc (.cells #[.int .u8 tos,.int .u16 id,.bool keep,.int .u8 ttl,.int .u8 proto,.int .u32 src,.int .u32 dst,so,.slice ad zd.length cd] 40)).alloc (.cells #[.int .u16 0,.int .u16 0] 317)=w0 at*;refine(zCk tos id ttl proto src dst keep _ _ zd w0 hB ((hI.below hb0).mono hb0.size) (by omega) hsr hds).mono ?_;rintro e w1 ⟨hb1,⟨hf,rfl⟩|⟨hf,os,aO,cO,a1,c1,_,rfl,hO,_⟩⟩
 ·rw[show zsg.toArray=#[.int .u16 0,.int .u16 0,.int .u32 0,.int .u32 0,.int .u8 0,.int .u16 0,.int .u16 0,.slice none 0 0,.slice none 0 0]from rfl]
  generalize hpu:pte proto src dst zd=f at*;have HPU:=zAd hpu;have HF:=zAd hf;clear hf hpu;have lq:Later w1 (w1.alloc (.cells #[.int .u16 0,.int .u16 0,.int .u32 0,.int .u32 0,.int .u8 0,.int .u16 0,.int .u16 0,.slice none 0 0,.slice none 0 0] 32)):=bA _ _;have l1:=Later.trans hb1 lq;have r1:=(l1.block _ (eS R0.out)).trans R0.out;have hw1:=hb0.trans (l1.mono hb0.size);have kX:=zAa r1;have fX:=zAc r1;go_wp2_with fail;generalize w1.alloc (.cells #[.int .u16 0,.int .u16 0,.int .u32 0,.int .u32 0,.int .u8 0,.int .u16 0,.int .u16 0,.slice none 0 0,.slice none 0 0] 32)=W at*;generalize hV:World.setCell _ ⟨w.heap.size+1,1,none⟩ _=V;have hV8:V=zAi W (w.heap.size+1) 0 [.int .u16 (0),.int .u16 (0)]:=hV.symm;have hbV:But (fun b=>b=w.heap.size+1) W V:=by rw[hV8];exact zAf (E:=fun b=>b=w.heap.size+1) (n:=w.heap.size+1) rfl _ _ _ _ (But.refl _ _)
  have pV:=zAe [Value.int .u16 (0),.int .u16 (0)] r1 rfl;rw[←hV8]at pV;clear hV hV8 kX fX;have PV:=zAa pV;have hwV:Below w.heap.size w V:=hw1.trans (hbV.below hw1.size (fun k hk e=>by omega));exact bodyPost_ret (v:= .tuple #[.agg #[.int .u16 (0),.int .u16 (0)],.int .i64 f]) (by simp[results,Tryz.results224,go_sem,PV]) rfl ⟨hwV,_,_,by rw[HPU.out],fun h=>absurd (HPU.out.symm.trans h) HF.out⟩
 ·have HF:=zAd hf
  clear hf;have lq:Later w1 (w1.alloc (.cells #[.int .u16 (wat zd 0),.int .u16 (wat zd 2),.int .u32 (zAs zd 4),.int .u32 (zAs zd 8),.int .u8 (zd[13]?.getD 0),.int .u16 (wat zd 14),.int .u16 (wat zd 18),.slice aO os.length cO,.slice a1 (zd.length-(thd zd).toNat) c1] 32)):=bA _ _;have l1:=Later.trans hb1 lq;have r1:=(l1.block _ (eS R0.out)).trans R0.out;have hw1:=hb0.trans (l1.mono hb0.size);have kX:=zAa r1;have fX:=zAc r1;go_wp2_with fail;generalize w1.alloc (.cells #[.int .u16 (wat zd 0),.int .u16 (wat zd 2),.int .u32 (zAs zd 4),.int .u32 (zAs zd 8),.int .u8 (zd[13]?.getD 0),.int .u16 (wat zd 14),.int .u16 (wat zd 18),.slice aO os.length cO,.slice a1 (zd.length-(thd zd).toNat) c1] 32)=W at*;generalize hV:World.setCell _ ⟨w.heap.size+1,1,none⟩ _=V;have hV8:V=zAi W (w.heap.size+1) 0 [.int .u16 (wat zd 0),.int .u16 (wat zd 2)]:=hV.symm;have hbV:But (fun b=>b=w.heap.size+1) W V:=by rw[hV8];exact zAf (E:=fun b=>b=w.heap.size+1) (n:=w.heap.size+1) rfl _ _ _ _ (But.refl _ _)
  have pV:=zAe [Value.int .u16 (wat zd 0),.int .u16 (wat zd 2)] r1 rfl;rw[←hV8]at pV;clear hV hV8 kX fX;have PV:=zAa pV;have hwV:Below w.heap.size w V:=hw1.trans (hbV.below hw1.size (fun k hk e=>by omega));exact bodyPost_ret (v:= .tuple #[.agg #[.int .u16 (wat zd 0),.int .u16 (wat zd 2)],.int .i64 0]) (by simp[results,Tryz.results224,go_sem,PV]) rfl ⟨hwV,_,_,by rw[HF.out],fun _=>⟨rfl,rfl⟩⟩
def ecb (ty cde:Int):Bool:=(ty==8||ty==0) && cde==0
def oie (zs:List Int):Int:=if pie 1 zs≠0 then pie 1 zs else if ecb (zs[0]?.getD 0) (zs[1]?.getD 0)=true then 0 else 12
def zLx (k:Int) (len:Nat):Bool:=decide (k=5∧len % 8=0∧1≤len/8∧len/8≤4)
theorem zTo(k:Int)(a:Option Addr)(len cap:Nat)(w:World)(hl:len≤140737488355328):
  Calls Tryz.prog 379 #[.agg #[.int .u8 k,.slice a len cap]] w fun e w'=>e= .returned (.bool (zLx k len))∧Below w.heap.size w w':=by
 have hbox:Below w.heap.size w (w.alloc (.cells #[.int .u8 k,.slice a len cap] 244)):=bA _ _;by_cases h1:k=5
 ·have t1:(k==5)=true:=by simp[h1]
  by_cases h2:len % 8=0
  ·have t2:((len:Int) % 8==0)=true:=by simp;omega
   by_cases h3:(1:Int)≤(len:Int)/8
   ·by_cases h4:(len:Int)/8≤4
    ·have HR:Hid (zLx k len=true):=by show _=_;unfold zLx;exact decide_eq_true ⟨h1,h2,by omega,by omega⟩
     clear h1 h2;go_enter Tryz.func379,Tryz.ntmps379;go_wp2
     go_ret
     exact⟨by rw[HR.out];rfl,hbox⟩
    ·have HR:Hid (zLx k len=false):=by show _=_;unfold zLx;exact decide_eq_false (fun h=>by omega)
     clear h1 h2;go_enter Tryz.func379,Tryz.ntmps379;go_wp2
     go_ret
     exact⟨by rw[HR.out];rfl,hbox⟩
   ·have HR:Hid (zLx k len=false):=by show _=_;unfold zLx;exact decide_eq_false (fun h=>by omega)
    clear h1 h2;go_enter Tryz.func379,Tryz.ntmps379;go_wp2
    go_ret
    exact⟨by rw[HR.out];rfl,hbox⟩
  ·have t2:((len:Int) % 8==0)=false:=by simp;omega
   have HR:Hid (zLx k len=false):=by show _=_;unfold zLx;exact decide_eq_false (fun h=>by omega)
   clear h1 h2;go_enter Tryz.func379,Tryz.ntmps379;go_wp2
   go_ret
   exact⟨by rw[HR.out];rfl,hbox⟩
 ·have t1:(k==5)=false:=by simp[h1]
  have HR:Hid (zLx k len=false):=by show _=_;unfold zLx;exact decide_eq_false (fun h=>h1 h.1)
  clear h1;go_enter Tryz.func379,Tryz.ntmps379;go_wp2
  go_ret
  exact⟨by rw[HR.out];rfl,hbox⟩
def tlo (o:Opt):Bool:=zLx o.1 o.2.length
def skx (os:List Opt):Option Nat:=os.findIdx? tlo
theorem skx_none {os:List Opt} (h:∀j,j<os.length→tlo (os[j]?.getD (0,[]))=false):skx os=none:=by
 unfold skx;rw[List.findIdx?_eq_none_iff];intro o ho
 obtain⟨j,hj,rfl⟩:=List.getElem_of_mem ho;have:=h j hj;simpa[hj]using this
theorem skx_some {os:List Opt} {k:Nat} (hk:k<os.length)(h:∀j,j<k→tlo (os[j]?.getD (0,[]))=false)(ht:tlo (os[k]?.getD (0,[]))=true):skx os=some k:=by
 unfold skx;rw[List.findIdx?_eq_some_iff_getElem];refine⟨hk,by simpa[hk]using ht,fun j hj=> ?_⟩;have:=h j hj;simpa[show j<os.length from by omega]using this
theorem zPf(n₀:Nat)(sv:Value)(os:List Opt)(w:World)(hn:n₀≤w.heap.size)(hI:RdO n₀ w sv os)(hl:∀o∈os,o.2.length≤140737488355328):
  Calls Tryz.prog 378 #[sv,.func (.func 379) #[] #[]] w fun e w'=>Below w.heap.size w w'∧((skx os=none∧e= .returned (.int .i64 (-1)))∨∃k:Nat,skx os=some k∧e= .returned (.int .i64 (k:Int))):=by
 obtain⟨a,cap,rfl,hc1,hc2⟩:=hI.slice;go_enter Tryz.func378,Tryz.ntmps378;go_wp2
 go_loopw [8] (fun i wr=>∃k:Nat,k≤os.length∧i= .int .i64 (k:Int)∧(∀j,j<k→tlo (os[j]?.getD (0,[]))=false)∧Below w.heap.size w wr) (fun i _=>os.length-(intOf i).toNat)
 case atStart=>exact⟨0,by omega,rfl,fun j h=>by omega,Below.refl _ _⟩
 case round=>
  obtain⟨k,hk,rfl,hz,hbw⟩:=hrel;have HZ:=zAd hz;clear hz;by_cases hlt:k<os.length
  ·obtain ⟨b,off,cp,e,_,_,hbb,hcs⟩:=(hI.below (hbw.mono hn)).cells (by omega)
   simp at e
   obtain⟨rfl,rfl⟩:=e;obtain⟨s,c0,c1,hRs⟩:=hcs k hlt;obtain⟨sa,sc,rfl,_,_⟩:=hRs.slice;have hol:=hl (os[k]?.getD (0,[])) (by simp[hlt]);have HT:Hid (tlo (os[k]?.getD (0,[]))=zLx (os[k]?.getD (0,[])).1 (os[k]?.getD (0,[])).2.length):=rfl;have hlt':(k:Int)<os.length:=by omega
   clear hcs hRs;generalize hgo:os[k]?.getD (0,[])=o at*;have HGO:=zAd hgo;clear hgo;obtain⟨kd,dt⟩:=o;dsimp only at c0 c1 hol HT
   go_wp2_with fail;refine(zTo kd sa dt.length sc wr hol).mono ?_;rintro e w' ⟨rfl,hb'⟩;have hw':=hbw.trans (hb'.mono hbw.size);cases ht:zLx kd dt.length with
   |true=>
    have HTT:=zAd (HT.out.trans ht);clear ht;go_wp2_with fail;go_ret
    exact⟨hw',.inr ⟨k,skx_some hlt HZ.out (by rw[HGO.out];exact HTT.out),rfl⟩⟩
   |false=>
    have HTT:=zAd (HT.out.trans ht);clear ht;go_wp2_with fail;go_roundw
    case rel=>exact⟨k+1,by omega,by go_num,fun j hj=>by by_cases h:j=k;(subst h;rw[HGO.out];exact HTT.out);exact HZ.out j (by omega),hw'⟩
    case measure=>simp[intOf];omega
  ·obtain rfl:k=os.length:=by omega
   go_wp2_with fail;go_ret
   exact⟨hbw,.inl ⟨skx_none HZ.out,rfl⟩⟩
theorem Rd.below' {n₀:Nat} {w A B:World} {v:Value} {zs:List Int} (h:Rd n₀ A v zs)(ha:Below n₀ w A)(hb:Below n₀ w B):Rd n₀ B v zs:=by
 rcases h with h|⟨b,off,cap,e,hne,hl,hm,hlt,hc⟩
 ·exact .inl h
 ·exact .inr ⟨b,off,cap,e,hne,hl,hm,hlt,fun j hj=>(hb.cell (p:=⟨b,off+j,none⟩) hlt).trans ((ha.cell (p:=⟨b,off+j,none⟩) hlt).symm.trans (hc j hj))⟩
end Go.Proofs.YteaeilghamjjkaaGreatDoor
