import Derived.Test.YteaeilghamjjkaaGreatDoorX30
import Derived.Deep.Cut
import Derived.Laws.BytesArg
import Derived.RangeFuncNested
namespace Go.Proofs.YteaeilghamjjkaaGreatDoor
set_option maxHeartbeats 4000000
open Go.RowKit Go.Shelf
set_option maxRecDepth 100000
set_option linter.unusedVariables false
set_option linter.unusedSimpArgs false
abbrev zc:List Value:=[.int .u8 0,.int .u16 0,.bool false,.int .u8 0,.int .u8 0,.int .u32 0,.int .u32 0,.slice none 0 0,.slice none 0 0]
theorem zQj(pb eb:Nat)(w:World):
  CallsD Tryz.prog 127 #[.pointer (some ⟨pb,0,none⟩),.pointer (some ⟨eb,0,none⟩)] .returning w fun e u' w'=>e= .returned (.tuple #[])∧u'= .returning∧w'=w:=by
 refine callsD_of_wpS Tryz.func127 rfl fun c₀ cs hu=> ?_;apply wpS_seq
 apply wpS_region
 simp[wpOpsS,go_sem,recoverD,hu,Tryz.ntmps127,Exit.thenS]
 refine wpS_of_wp ?_;go_wp2
 cases c₀
 simp_all [bodyPostS,results,Tryz.results127]
theorem ta_yes(c:Int)(w:World):(Instr.typeAssert (rfs c) 20 260 true).run Tryz.prog w= .ok (.tuple #[.agg #[.int .i64 c],.bool true]) w:=by kernel_rfl
theorem zIt(n pb eb:Nat)(c x:Int)(cur:Array Value)(w:World)(hp:w.heap[pb]? =some (.cells cur 40 (0,0)))(hs:cur.size=9)(he:w.heap[eb]? =some (.cells #[.int .i64 x] 53 (0,0)))(hpe:pb≠eb)(hn:n≤pb)(hn2:n≤eb):
  CallsD Tryz.prog 127 #[.pointer (some ⟨pb,0,none⟩),.pointer (some ⟨eb,0,none⟩)] (.panicking (rfp c)) w fun e u' w'=>
   e= .returned (.tuple #[])∧u'= .panicking [{ v:=rfs c,recovered:=true }]∧w'.heap[pb]? =some (.cells zc.toArray 40 (0,0))∧w'.heap[eb]? =some (.cells #[.int .i64 c] 53 (0,0))∧Below n w w':=by
 have hpl:=(eS hp);have hel:=(eS he);refine callsD_of_wpS Tryz.func127 rfl fun c₀ cs hu=> ?_;apply wpS_seq
 apply wpS_region
 simp[wpOpsS,go_sem,recoverD,hu,Tryz.ntmps127,Exit.thenS]
 simp only[Array.replicate_succ,Array.replicate_zero,List.push_toArray,List.append_toArray,List.nil_append,List.cons_append,List.setIfInBounds_toArray,List.set_cons_zero,List.set_cons_succ];have hta:=ta_yes c;refine wpS_of_wp ?_;go_wp2
 have hb0:Later w (w.alloc (.cells #[.int .i64 c] 260)):=bA _ _;have q3:(w.alloc (.cells #[.int .i64 c] 260)).cell? ⟨w.heap.size,0,none⟩=some (.int .i64 c):=zDp w _ _ 0;have hp0:=(hb0.block pb hpl).trans hp;have he0:=(hb0.block eb hel).trans he;have hwp:w.heap.size≠pb:=by omega
 have hwe:w.heap.size≠eb:=by omega
 have hpw:¬pb=w.heap.size:=by omega
 have hew:¬eb=w.heap.size:=by omega
 generalize w.alloc (.cells #[.int .i64 c] 260)=W0 at*;have k6:∀j,W0.cell? ⟨pb,j,none⟩=cur[j]? :=zAa hp0;have f6:∀j,W0.frozen? ⟨pb,j,none⟩=false:=zAc hp0;have k7:∀j,W0.cell? ⟨eb,j,none⟩=#[Value.int .i64 x][j]? :=zAa he0;have f7:∀j,W0.frozen? ⟨eb,j,none⟩=false:=zAc he0;go_region
 all_goals
  generalize hV7:World.setCell _ ⟨pb,8,none⟩ _=V7;have hV8:V7=zAi W0 pb 0 zc:=hV7.symm;have hbp:But (fun b=>b=pb) W0 V7:=by rw[hV8];exact zAf (E:=fun b=>b=pb) (n:=pb) rfl zc 0 W0 W0 (But.refl _ _)
  have hP:=zAe zc hp0 hs;rw[←hV8]at hP;clear hV7 hV8;have hE:=zAh ((hbp.block eb (Nat.lt_of_lt_of_le hel hb0.size) (fun e=>hpe e.symm)).trans he0) 0 (.int .i64 c);have hP2:=(Below.heap_setCell V7 ⟨eb,0,none⟩ (.int .i64 c) pb hpe).trans hP;have hB2:Below n w ((V7.setCell ⟨eb,0,none⟩ (.int .i64 c)).drew):=(((hb0.mono (by omega)).trans (hbp.below (Nat.le_trans (Nat.le_trans hn (Nat.le_of_lt hpl)) hb0.size) (fun k h e=>by omega))).setCell (p:=⟨eb,0,none⟩) hn2 _).drew;refine⟨rfl,_,rfl,.tuple #[],by simp[results,Tryz.results127],rfl,rfl,hP2,hE,hB2⟩
abbrev dfr (pb:Nat):List Deferred:=[{ target:= .fn (.func 127) #[.pointer (some ⟨pb,0,none⟩),.pointer (some ⟨pb+1,0,none⟩)],args:=#[] }]
theorem zOw(tm:Array Value)(pb:Nat)(c:Int)(v0 v1 v2 v3 v4 v5 v6 v7 v8:Value)(w:World)(h4:tm[4]? =some (.pointer (some ⟨pb,0,none⟩)))(h5:tm[5]? =some (.pointer (some ⟨pb+1,0,none⟩)))
  (hp:w.heap[pb]? =some (.cells #[v0,v1,v2,v3,v4,v5,v6,v7,v8] 40 (0,0)))(he:w.heap[pb+1]? =some (.cells #[.int .i64 c] 53 (0,0))):
  (results Tryz.f67 tm).run Tryz.prog w= .ok (.tuple #[.agg #[v0,v1,v2,v3,v4,v5,v6,v7,v8],.int .i64 c]) w:=by
 have kP:=zAa hp;have kE:=zAa he;simp[results,Tryz.results67,go_sem,h4,h5,kP,kE]
theorem zBf {R:Ending→World→Prop} (tm:Array Value)(n pb:Nat)(c x:Int)(cur:Array Value)(w:World)(hp:w.heap[pb]? =some (.cells cur 40 (0,0)))(hs:cur.size=9)(he:w.heap[pb+1]? =some (.cells #[.int .i64 x] 53 (0,0)))(hn:n≤pb)
  (h4:tm[4]? =some (.pointer (some ⟨pb,0,none⟩)))(h5:tm[5]? =some (.pointer (some ⟨pb+1,0,none⟩)))
  (hR:∀w',Below n w w'→R (.returned (.tuple #[.agg zc.toArray,.int .i64 c])) w'):
  bodyPostD Tryz.prog Tryz.f67 R (.panic (rfp c)) { tmps:=tm,defers:=dfr pb } w:=by
 refine leaves_cons (f:=127) (args:=#[.pointer (some ⟨pb,0,none⟩),.pointer (some ⟨pb+1,0,none⟩)]) (by simp) (by simp[go_sem]) ?_;refine(zIt n pb (pb+1) c x cur w hp hs he (by omega) hn (by omega)).mono ?_;rintro e u' w'' ⟨rfl,rfl,hP,hE,hb⟩;exact⟨_,zOw tm pb c _ _ _ _ _ _ _ _ _ w'' h4 h5 hP hE,hR w'' hb⟩
theorem zF7 {R:Ending→World→Prop} (tm:Array Value)(pb:Nat)(c:Int)(v0 v1 v2 v3 v4 v5 v6 v7 v8:Value)(w:World)
  (hp:w.heap[pb]? =some (.cells #[v0,v1,v2,v3,v4,v5,v6,v7,v8] 40 (0,0)))(he:w.heap[pb+1]? =some (.cells #[.int .i64 c] 53 (0,0)))
  (h4:tm[4]? =some (.pointer (some ⟨pb,0,none⟩)))(h5:tm[5]? =some (.pointer (some ⟨pb+1,0,none⟩)))
  (hR:R (.returned (.tuple #[.agg #[v0,v1,v2,v3,v4,v5,v6,v7,v8],.int .i64 c])) w):
  bodyPostD Tryz.prog Tryz.f67 R .ret { tmps:=tm,defers:=dfr pb } w:=by
 refine leaves_cons (f:=127) (args:=#[.pointer (some ⟨pb,0,none⟩),.pointer (some ⟨pb+1,0,none⟩)]) (by simp) (by simp[go_sem]) ?_;refine(zQj pb (pb+1) w).mono ?_;rintro e u' w'' ⟨rfl,rfl,rfl⟩;exact⟨_,zOw tm pb c _ _ _ _ _ _ _ _ _ w'' h4 h5 hp he,hR⟩
def ral (q:Bool) (zs:List Int):Int:=if q then min (wat zs 2) zs.length else wat zs 2
def rde (q:Bool) (zs:List Int):Int:=
 if msr zs≠0 then msr zs else if(zs.length:Int)<ral q zs then 3 else if chk zs≠0 then chk zs else if q=true∧ral q zs-hl4 zs<8 then 3 else 0
theorem read_any(q:Bool)(sv:Value)(zs:List Int)(w:World)(hB:Mt.By zs)(hl:zs.length≤225000000000000)(hI:Rd w.heap.size w sv zs):
  Calls Tryz.prog 67 #[sv,.bool q] w fun e w'=>Below w.heap.size w w'∧
   ((rde q zs≠0∧e= .returned (.tuple #[.agg zc.toArray,.int .i64 (rde q zs)]))∨
    (rde q zs=0∧∃so sd,e= .returned (.tuple #[pkt zs so sd,.int .i64 0])∧Ow w.heap.size w' so ((zs.take (hl4 zs).toNat).drop 20)∧Ow w.heap.size w' sd ((zs.take (ral q zs).toNat).drop (hl4 zs).toNat))):=by
 have hmf:∀(fn:Fn) (first cap:Array Value) (w:World),(Instr.makeFunc fn first cap).run Tryz.prog w= .ok (.func fn first cap) w:=fun _ _ _ _=>rfl;obtain⟨a,cap,rfl,hl1,hm1⟩:=hI.slice;have HM:Hid (rde q zs=if msr zs≠0 then msr zs else if(zs.length:Int)<ral q zs then 3 else if chk zs≠0 then chk zs else if q=true∧ral q zs-hl4 zs<8 then 3 else 0):=rfl;generalize rde q zs=m at*;go_enter_defers Tryz.func67,Tryz.ntmps67
 go_wp2_with fail;have a1:=heap_alloc_new w (.cells zc.toArray 40);have s1:(w.alloc (.cells zc.toArray 40)).heap.size=w.heap.size+1:=by simp
 have hb1:Below w.heap.size w (w.alloc (.cells zc.toArray 40)):=bA _ _;generalize w.alloc (.cells zc.toArray 40)=W1 at*;have a2:=heap_alloc_new W1 (.cells #[.int .i64 0] 53);rw[s1]at a2;have l2:Later W1 (W1.alloc (.cells #[.int .i64 0] 53)):=bA _ _;have a3:=(l2.block _ (by omega)).trans a1;have s2:(W1.alloc (.cells #[.int .i64 0] 53)).heap.size=w.heap.size+1+1:=by simp[s1]
 generalize W1.alloc (.cells #[.int .i64 0] 53)=W2 at*;have a4:=heap_alloc_new W2 (.cells #[.int .i64 0,.int .i64 0,.slice a zs.length cap] 262);rw[s2]at a4;have l3:Later W2 (W2.alloc (.cells #[.int .i64 0,.int .i64 0,.slice a zs.length cap] 262)):=bA _ _;have a5:=(l3.block _ (by omega)).trans a2;have a6:=(l3.block _ (by omega)).trans a3;have s3:(W2.alloc (.cells #[.int .i64 0,.int .i64 0,.slice a zs.length cap] 262)).heap.size=w.heap.size+1+1+1:=by simp[s2]
 generalize W2.alloc (.cells #[.int .i64 0,.int .i64 0,.slice a zs.length cap] 262)=W3 at*;have hb3:=(hb1.trans (l2.mono (by omega))).trans (l3.mono (by omega));clear a1 a2 a3 l2 l3 hb1 s1 s2;refine(zL3 w.heap.size (w.heap.size+1+1) 0 0 _ zs W3 hB hl (hI.below hb3) (by omega) (zAa a4 0) (zAa a4 1) (zAa a4 2) (zAc a4 0) (zAc a4 1)).mono ?_;rintro e w4 ⟨hb4,⟨h1,rfl⟩|⟨h1,rfl,k0,k1,k2,f1⟩⟩
 ·have:=HM.out
  rw[if_pos h1]at this;subst this;exact zBf _ w.heap.size w.heap.size _ 0 _ w4 ((hb4.block _ (by omega)).trans a6) rfl ((hb4.block _ (by omega)).trans a5) (Nat.le_refl _) rfl rfl (fun w' hb'=>⟨(hb3.trans (hb4.mono (by omega))).trans hb',.inl ⟨h1,rfl⟩⟩)
 have hfit:20≤hl4 zs∧hl4 zs≤zs.length∧hl4 zs≤wat zs 2∧20≤zs.length:=by
  unfold msr at h1;split at h1
  ·omega
  ·split at h1
   ·omega
   ·split at h1
    ·omega
    ·split at h1
     ·omega
     ·split at h1<;>omega
 have hn2:=zCp hB 2;cases q
 ·go_wp2_with fail
  by_cases h2:(zs.length:Int)<wat zs 2
  ·rw[show decide ((zs.length:Int)<wat zs 2)=true from by simpa using h2]
   refine(zA9 3 _).mono ?_;rintro e w' ⟨rfl,rfl⟩;have:=HM.out;rw[if_neg (by simp[h1]),if_pos (by simpa[ral]using h2)]at this;subst this;exact zBf _ w.heap.size w.heap.size _ 0 _ w4 ((hb4.block _ (by omega)).trans a6) rfl ((hb4.block _ (by omega)).trans a5) (Nat.le_refl _) rfl rfl (fun w' hb'=>⟨(hb3.trans (hb4.mono (by omega))).trans hb',.inl ⟨by omega,rfl⟩⟩)
  rw[show decide ((zs.length:Int)<wat zs 2)=false from by simpa using h2];refine(zA7 3 _).mono ?_;rintro e w' ⟨rfl,rfl⟩;have hb5:=hb4;have K0:=k0;have K1:=k1;have K2:=k2;clear hb4 k0 k1 k2;have hz5:=hb5.size;go_wp2_with fail;refine(zF6 (w.heap.size+1+1) _ zs w4 hB hl ((hI.below (hb3.trans (hb5.mono (by omega)))).mono (by omega)) hfit.1 hfit.2.1 K0 K2).mono ?_;rintro e w6 ⟨l6,⟨h3,rfl⟩|⟨h3,rfl⟩⟩
  ·have:=HM.out
   rw[if_neg (by simp[h1]),if_neg (by simp[ral];omega),if_pos h3]at this;subst this;exact zBf _ w.heap.size w.heap.size _ 0 _ w6 ((l6.block _ (by omega)).trans ((hb5.block _ (by omega)).trans a6)) rfl ((l6.block _ (by omega)).trans ((hb5.block _ (by omega)).trans a5)) (Nat.le_refl _) rfl rfl (fun w' hb'=>⟨((hb3.trans (hb5.mono (by omega))).trans (l6.mono (by omega))).trans hb',.inl ⟨h3,rfl⟩⟩)
  obtain⟨k,hk⟩:=Int.eq_ofNat_of_zero_le (show 0≤hl4 zs by omega);obtain⟨n,hn⟩:=Int.eq_ofNat_of_zero_le (show 0≤wat zs 2 by omega);rw[hk]at K0;rw[hn]at K1;have c6:=l6.cell K0;have d6:=l6.cell K1;have e6:=l6.cell K2;have p6:=(l6.block _ (by omega)).trans ((hb5.block _ (by omega)).trans a6);have q6:=(l6.block _ (by omega)).trans ((hb5.block _ (by omega)).trans a5);have hb6:=hb5.trans (l6.mono (by omega));have HK:=zAd hk;have HN:=zAd hn;have hkn:20≤k∧k≤n∧n≤zs.length∧n≤65535:=by omega
  clear hk hn;go_wp2_with fail;refine(zE3 (w.heap.size+1+1) _ zs k n w6 hB hl ((hI.below (hb3.trans (hb6.mono (by omega)))).mono (Nat.le_trans hb3.size hb6.size)) hkn.1 hkn.2.1 hkn.2.2.1 hkn.2.2.2 c6 d6 e6).mono ?_;rintro e w7 ⟨so,sd,rfl,hOo,hOd,l7⟩;have p7:=(l7.block _ (eS p6)).trans p6;have q7:=(l7.block _ (eS q6)).trans q6;have hb7:=hb6.trans (l7.mono (Nat.le_trans (by omega) hb6.size));obtain⟨aso,cso,rfl,_,_⟩:=hOo.slice;obtain⟨asd,csd,rfl,_,_⟩:=hOd.slice;have hlo:((zs.take k).drop 20).length=min k zs.length-20:=by simp
  have hld:((zs.take n).drop k).length=n-k:=by simp;omega
  rw[hlo]at hOo⊢;rw[hld]at hOd⊢;clear hlo hld;have P7:=zAa p7;have F7:=zAc p7;unfold pkt;go_wp2_with fail;clear P7 F7;generalize hV8:World.setCell _ ⟨w.heap.size,8,none⟩ _=V8;have hV9:V8=zAi w7 w.heap.size 0 [.int .u8 (zs[1]?.getD 0),.int .u16 (wat zs 4),.bool (decide (16384≤wat zs 6 % 32768)),.int .u8 (zs[8]?.getD 0),.int .u8 (zs[9]?.getD 0),.int .u32 (zAs zs 12),.int .u32 (zAs zs 16),.slice aso (min k zs.length-20) cso,.slice asd (n-k) csd]:=hV8.symm;have hb8:But (fun b=>b=w.heap.size) w7 V8:=by rw[hV9];exact zAf (E:=fun b=>b=w.heap.size) (n:=w.heap.size) rfl _ _ _ _ (But.refl _ _)
  have p8:=zAe [.int .u8 (zs[1]?.getD 0),.int .u16 (wat zs 4),.bool (decide (16384≤wat zs 6 % 32768)),.int .u8 (zs[8]?.getD 0),.int .u8 (zs[9]?.getD 0),.int .u32 (zAs zs 12),.int .u32 (zAs zs 16),.slice aso (min k zs.length-20) cso,.slice asd (n-k) csd] p7 rfl;rw[←hV9]at p8;clear hV8 hV9;have q8:=(hb8.block _ (eS q7) (by omega)).trans q7;have P8:=zAa p8;have F8:=zAc p8;have E8:=zAa q8;have G8:=zAc q8;have hs7:w.heap.size≤w7.heap.size:=Nat.le_trans hb3.size hb7.size;have hbW8:=(hb3.trans (hb7.mono (by omega))).trans (hb8.below hs7 (fun j h e=>by omega));have hOo8:=hOo.but hb8 (fun b h e=>by have:=hb6.size;omega);have hOd8:=hOd.but hb8 (fun b h e=>by have:=hb6.size;omega);refine(zA7 3 _).mono ?_;rintro e w' ⟨rfl,rfl⟩;go_wp2_with fail;generalize hV9:World.setCell _ ⟨w.heap.size,8,none⟩ _=V9;have hV10:V9=zAi V8 w.heap.size 0 [.int .u8 (zs[1]?.getD 0),.int .u16 (wat zs 4),.bool (decide (16384≤wat zs 6 % 32768)),.int .u8 (zs[8]?.getD 0),.int .u8 (zs[9]?.getD 0),.int .u32 (zAs zs 12),.int .u32 (zAs zs 16),.slice aso (min k zs.length-20) cso,.slice asd (n-k) csd]:=hV9.symm;have hb9:But (fun b=>b=w.heap.size) V8 V9:=by rw[hV10];exact zAf (E:=fun b=>b=w.heap.size) (n:=w.heap.size) rfl _ _ _ _ (But.refl _ _)
  have p9:=zAe [.int .u8 (zs[1]?.getD 0),.int .u16 (wat zs 4),.bool (decide (16384≤wat zs 6 % 32768)),.int .u8 (zs[8]?.getD 0),.int .u8 (zs[9]?.getD 0),.int .u32 (zAs zs 12),.int .u32 (zAs zs 16),.slice aso (min k zs.length-20) cso,.slice asd (n-k) csd] p8 rfl;rw[←hV10]at p9;clear hV9 hV10;have q9:=(hb9.block _ (eS q8) (by omega)).trans q8;have q10:=zAh q9 0 (.int .i64 0);have p10:=(Below.heap_setCell V9 ⟨w.heap.size+1,0,none⟩ (.int .i64 0) w.heap.size (by simp)).trans p9;have hs8:w.heap.size≤V8.heap.size:=Nat.le_trans hs7 hb8.size;have hb10:Below w.heap.size w (V9.setCell ⟨w.heap.size+1,0,none⟩ (.int .i64 0)):=(hbW8.trans (hb9.below hs8 (fun j h e=>by omega))).setCell (p:=⟨w.heap.size+1,0,none⟩) (Nat.le_succ _) _;have hbb:But (fun b=>b=w.heap.size∨b=w.heap.size+1) V8 (V9.setCell ⟨w.heap.size+1,0,none⟩ (.int .i64 0)):=But.setCell (⟨hb9.os,hb9.tape,hb9.output,hb9.size,fun j hj he=>hb9.block j hj (fun e=>he (.inl e))⟩) (.inr rfl) _;have:=HM.out;rw[if_neg (by simp[h1]),if_neg (by simp[ral];omega),if_neg (by simp[h3]),if_neg (by simp)]at this;refine zF7 _ w.heap.size 0 _ _ _ _ _ _ _ _ _ _ p10 q10 rfl rfl ⟨hb10,.inr ⟨this,_,_,rfl,?_,?_⟩⟩
  ·rw[HK.out]
   exact(hOo8.but hbb (fun b h e=>by have:=hb6.size;omega)).mono (Nat.le_trans hb3.size hb6.size)
  ·rw[HK.out,show ral false zs=(n:Int)from by simp[ral];exact HN.out]
   exact(hOd8.but hbb (fun b h e=>by have:=hb6.size;omega)).mono (Nat.le_trans hb3.size hb6.size)
 ·by_cases hmn:(zs.length:Int)<wat zs 2
  ·go_wp2_with fail
   have hb5:Below (w.heap.size+1+1) W3 (w4.setCell ⟨w.heap.size+1+1,1,none⟩ (.int .i64 (zs.length:Int))):=hb4.setCell (p:=⟨w.heap.size+1+1,1,none⟩) (Nat.le_refl _) _;have K0:(w4.setCell ⟨w.heap.size+1+1,1,none⟩ (.int .i64 (zs.length:Int))).cell? ⟨w.heap.size+1+1,0,none⟩=some (.int .i64 (hl4 zs)):=(World.cell?_setCell_other _ _ _ _ (by simp)).trans k0;have K1:(w4.setCell ⟨w.heap.size+1+1,1,none⟩ (.int .i64 (zs.length:Int))).cell? ⟨w.heap.size+1+1,1,none⟩=some (.int .i64 (zs.length:Int)):=World.cell?_setCell_same _ _ _ k1;have K2:(w4.setCell ⟨w.heap.size+1+1,1,none⟩ (.int .i64 (zs.length:Int))).cell? ⟨w.heap.size+1+1,2,none⟩=some (.slice a zs.length cap):=(World.cell?_setCell_other _ _ _ _ (by simp)).trans k2;generalize w4.setCell ⟨w.heap.size+1+1,1,none⟩ (.int .i64 (zs.length:Int))=W5 at*;clear hb4 k0 k1 k2;refine(zA7 3 _).mono ?_;rintro e w' ⟨rfl,rfl⟩;have hz5:=hb5.size;go_wp2_with fail;refine(zF6 (w.heap.size+1+1) _ zs W5 hB hl ((hI.below (hb3.trans (hb5.mono (by omega)))).mono (by omega)) hfit.1 hfit.2.1 K0 K2).mono ?_;rintro e w6 ⟨l6,⟨h3,rfl⟩|⟨h3,rfl⟩⟩
   ·have:=HM.out
    rw[if_neg (by simp[h1]),if_neg (by simp[ral];omega),if_pos h3]at this;subst this;exact zBf _ w.heap.size w.heap.size _ 0 _ w6 ((l6.block _ (by omega)).trans ((hb5.block _ (by omega)).trans a6)) rfl ((l6.block _ (by omega)).trans ((hb5.block _ (by omega)).trans a5)) (Nat.le_refl _) rfl rfl (fun w' hb'=>⟨((hb3.trans (hb5.mono (by omega))).trans (l6.mono (by omega))).trans hb',.inl ⟨h3,rfl⟩⟩)
   obtain⟨k,hk⟩:=Int.eq_ofNat_of_zero_le (show 0≤hl4 zs by omega);obtain⟨n,hn⟩:=Int.eq_ofNat_of_zero_le (show 0≤(zs.length:Int) by omega);rw[hk]at K0;rw[hn]at K1;have c6:=l6.cell K0;have d6:=l6.cell K1;have e6:=l6.cell K2;have p6:=(l6.block _ (by omega)).trans ((hb5.block _ (by omega)).trans a6);have q6:=(l6.block _ (by omega)).trans ((hb5.block _ (by omega)).trans a5);have hb6:=hb5.trans (l6.mono (by omega));have HK:=zAd hk;have HN:=zAd hn;have hkn:20≤k∧k≤n∧n≤zs.length∧n≤65535:=by omega
   clear hk hn;go_wp2_with fail;refine(zE3 (w.heap.size+1+1) _ zs k n w6 hB hl ((hI.below (hb3.trans (hb6.mono (by omega)))).mono (Nat.le_trans hb3.size hb6.size)) hkn.1 hkn.2.1 hkn.2.2.1 hkn.2.2.2 c6 d6 e6).mono ?_;rintro e w7 ⟨so,sd,rfl,hOo,hOd,l7⟩;have p7:=(l7.block _ (eS p6)).trans p6;have q7:=(l7.block _ (eS q6)).trans q6;have hb7:=hb6.trans (l7.mono (Nat.le_trans (by omega) hb6.size));obtain⟨aso,cso,rfl,_,_⟩:=hOo.slice;obtain⟨asd,csd,rfl,_,_⟩:=hOd.slice;have hlo:((zs.take k).drop 20).length=min k zs.length-20:=by simp
   have hld:((zs.take n).drop k).length=n-k:=by simp;omega
   rw[hlo]at hOo⊢;rw[hld]at hOd⊢;clear hlo hld;have P7:=zAa p7;have F7:=zAc p7;unfold pkt;go_wp2_with fail;clear P7 F7;generalize hV8:World.setCell _ ⟨w.heap.size,8,none⟩ _=V8;have hV9:V8=zAi w7 w.heap.size 0 [.int .u8 (zs[1]?.getD 0),.int .u16 (wat zs 4),.bool (decide (16384≤wat zs 6 % 32768)),.int .u8 (zs[8]?.getD 0),.int .u8 (zs[9]?.getD 0),.int .u32 (zAs zs 12),.int .u32 (zAs zs 16),.slice aso (min k zs.length-20) cso,.slice asd (n-k) csd]:=hV8.symm;have hb8:But (fun b=>b=w.heap.size) w7 V8:=by rw[hV9];exact zAf (E:=fun b=>b=w.heap.size) (n:=w.heap.size) rfl _ _ _ _ (But.refl _ _)
   have p8:=zAe [.int .u8 (zs[1]?.getD 0),.int .u16 (wat zs 4),.bool (decide (16384≤wat zs 6 % 32768)),.int .u8 (zs[8]?.getD 0),.int .u8 (zs[9]?.getD 0),.int .u32 (zAs zs 12),.int .u32 (zAs zs 16),.slice aso (min k zs.length-20) cso,.slice asd (n-k) csd] p7 rfl;rw[←hV9]at p8;clear hV8 hV9;have q8:=(hb8.block _ (eS q7) (by omega)).trans q7;have P8:=zAa p8;have F8:=zAc p8;have E8:=zAa q8;have G8:=zAc q8;have hs7:w.heap.size≤w7.heap.size:=Nat.le_trans hb3.size hb7.size;have hbW8:=(hb3.trans (hb7.mono (by omega))).trans (hb8.below hs7 (fun j h e=>by omega));have hOo8:=hOo.but hb8 (fun b h e=>by have:=hb6.size;omega);have hOd8:=hOd.but hb8 (fun b h e=>by have:=hb6.size;omega);have hw8:Later w7 w7:=Later.refl _;by_cases h4:n-k<8
   ·rw[show decide (((n-k:Nat):Int)<8)=true from by simp;omega]
    refine(zA9 3 _).mono ?_;rintro e w' ⟨rfl,rfl⟩;have:=HM.out;rw[if_neg (by simp[h1]),if_neg (by simp[ral];omega),if_neg (by simp[h3]),if_pos ⟨by simp,by have h5:=HK.out;have h6:=HN.out;simp[ral];omega⟩]at this;subst this;exact zBf _ w.heap.size w.heap.size _ 0 _ V8 p8 rfl q8 (Nat.le_refl _) rfl rfl (fun w' hb'=>⟨hbW8.trans hb',.inl ⟨by omega,rfl⟩⟩)
   rw[show decide (((n-k:Nat):Int)<8)=false from by simp;omega];refine(zA7 3 _).mono ?_;rintro e w' ⟨rfl,rfl⟩;go_wp2_with fail;generalize hV9:World.setCell _ ⟨w.heap.size,8,none⟩ _=V9;have hV10:V9=zAi V8 w.heap.size 0 [.int .u8 (zs[1]?.getD 0),.int .u16 (wat zs 4),.bool (decide (16384≤wat zs 6 % 32768)),.int .u8 (zs[8]?.getD 0),.int .u8 (zs[9]?.getD 0),.int .u32 (zAs zs 12),.int .u32 (zAs zs 16),.slice aso (min k zs.length-20) cso,.slice asd (n-k) csd]:=hV9.symm;have hb9:But (fun b=>b=w.heap.size) V8 V9:=by rw[hV10];exact zAf (E:=fun b=>b=w.heap.size) (n:=w.heap.size) rfl _ _ _ _ (But.refl _ _)
   have p9:=zAe [.int .u8 (zs[1]?.getD 0),.int .u16 (wat zs 4),.bool (decide (16384≤wat zs 6 % 32768)),.int .u8 (zs[8]?.getD 0),.int .u8 (zs[9]?.getD 0),.int .u32 (zAs zs 12),.int .u32 (zAs zs 16),.slice aso (min k zs.length-20) cso,.slice asd (n-k) csd] p8 rfl;rw[←hV10]at p9;clear hV9 hV10;have q9:=(hb9.block _ (eS q8) (by omega)).trans q8;have q10:=zAh q9 0 (.int .i64 0);have p10:=(Below.heap_setCell V9 ⟨w.heap.size+1,0,none⟩ (.int .i64 0) w.heap.size (by simp)).trans p9;have hs8:w.heap.size≤V8.heap.size:=Nat.le_trans hs7 hb8.size;have hb10:Below w.heap.size w (V9.setCell ⟨w.heap.size+1,0,none⟩ (.int .i64 0)):=(hbW8.trans (hb9.below hs8 (fun j h e=>by omega))).setCell (p:=⟨w.heap.size+1,0,none⟩) (Nat.le_succ _) _;have hbb:But (fun b=>b=w.heap.size∨b=w.heap.size+1) V8 (V9.setCell ⟨w.heap.size+1,0,none⟩ (.int .i64 0)):=But.setCell (⟨hb9.os,hb9.tape,hb9.output,hb9.size,fun j hj he=>hb9.block j hj (fun e=>he (.inl e))⟩) (.inr rfl) _;have:=HM.out;rw[if_neg (by simp[h1]),if_neg (by simp[ral];omega),if_neg (by simp[h3]),if_neg (by have h5:=HK.out;have h6:=HN.out;simp[ral];omega)]at this;refine zF7 _ w.heap.size 0 _ _ _ _ _ _ _ _ _ _ p10 q10 rfl rfl ⟨hb10,.inr ⟨this,_,_,rfl,?_,?_⟩⟩
   ·rw[HK.out]
    exact(hOo8.but hbb (fun b h e=>by have:=hb6.size;omega)).mono (Nat.le_trans hb3.size hb6.size)
   ·rw[HK.out,show ral true zs=(n:Int)from by simp[ral];have h6:=HN.out;omega]
    exact(hOd8.but hbb (fun b h e=>by have:=hb6.size;omega)).mono (Nat.le_trans hb3.size hb6.size)
  ·go_wp2_with fail
   rw[show decide ((zs.length:Int)<wat zs 2)=false from by simpa using hmn];have hb5:Below (w.heap.size+1+1) W3 (w4.setCell ⟨w.heap.size+1+1,1,none⟩ (.int .i64 (wat zs 2))):=hb4.setCell (p:=⟨w.heap.size+1+1,1,none⟩) (Nat.le_refl _) _;have K0:(w4.setCell ⟨w.heap.size+1+1,1,none⟩ (.int .i64 (wat zs 2))).cell? ⟨w.heap.size+1+1,0,none⟩=some (.int .i64 (hl4 zs)):=(World.cell?_setCell_other _ _ _ _ (by simp)).trans k0;have K1:(w4.setCell ⟨w.heap.size+1+1,1,none⟩ (.int .i64 (wat zs 2))).cell? ⟨w.heap.size+1+1,1,none⟩=some (.int .i64 (wat zs 2)):=World.cell?_setCell_same _ _ _ k1;have K2:(w4.setCell ⟨w.heap.size+1+1,1,none⟩ (.int .i64 (wat zs 2))).cell? ⟨w.heap.size+1+1,2,none⟩=some (.slice a zs.length cap):=(World.cell?_setCell_other _ _ _ _ (by simp)).trans k2;generalize w4.setCell ⟨w.heap.size+1+1,1,none⟩ (.int .i64 (wat zs 2))=W5 at*;clear hb4 k0 k1 k2;refine(zA7 3 _).mono ?_;rintro e w' ⟨rfl,rfl⟩;have hz5:=hb5.size;go_wp2_with fail;refine(zF6 (w.heap.size+1+1) _ zs W5 hB hl ((hI.below (hb3.trans (hb5.mono (by omega)))).mono (by omega)) hfit.1 hfit.2.1 K0 K2).mono ?_;rintro e w6 ⟨l6,⟨h3,rfl⟩|⟨h3,rfl⟩⟩
   ·have:=HM.out
    rw[if_neg (by simp[h1]),if_neg (by simp[ral];omega),if_pos h3]at this;subst this;exact zBf _ w.heap.size w.heap.size _ 0 _ w6 ((l6.block _ (by omega)).trans ((hb5.block _ (by omega)).trans a6)) rfl ((l6.block _ (by omega)).trans ((hb5.block _ (by omega)).trans a5)) (Nat.le_refl _) rfl rfl (fun w' hb'=>⟨((hb3.trans (hb5.mono (by omega))).trans (l6.mono (by omega))).trans hb',.inl ⟨h3,rfl⟩⟩)
   obtain⟨k,hk⟩:=Int.eq_ofNat_of_zero_le (show 0≤hl4 zs by omega);obtain⟨n,hn⟩:=Int.eq_ofNat_of_zero_le (show 0≤wat zs 2 by omega);rw[hk]at K0;rw[hn]at K1;have c6:=l6.cell K0;have d6:=l6.cell K1;have e6:=l6.cell K2;have p6:=(l6.block _ (by omega)).trans ((hb5.block _ (by omega)).trans a6);have q6:=(l6.block _ (by omega)).trans ((hb5.block _ (by omega)).trans a5);have hb6:=hb5.trans (l6.mono (by omega));have HK:=zAd hk;have HN:=zAd hn;have hkn:20≤k∧k≤n∧n≤zs.length∧n≤65535:=by omega
   clear hk hn;go_wp2_with fail;refine(zE3 (w.heap.size+1+1) _ zs k n w6 hB hl ((hI.below (hb3.trans (hb6.mono (by omega)))).mono (Nat.le_trans hb3.size hb6.size)) hkn.1 hkn.2.1 hkn.2.2.1 hkn.2.2.2 c6 d6 e6).mono ?_;rintro e w7 ⟨so,sd,rfl,hOo,hOd,l7⟩;have p7:=(l7.block _ (eS p6)).trans p6;have q7:=(l7.block _ (eS q6)).trans q6;have hb7:=hb6.trans (l7.mono (Nat.le_trans (by omega) hb6.size));obtain⟨aso,cso,rfl,_,_⟩:=hOo.slice;obtain⟨asd,csd,rfl,_,_⟩:=hOd.slice;have hlo:((zs.take k).drop 20).length=min k zs.length-20:=by simp
   have hld:((zs.take n).drop k).length=n-k:=by simp;omega
   rw[hlo]at hOo⊢;rw[hld]at hOd⊢;clear hlo hld;have P7:=zAa p7;have F7:=zAc p7;unfold pkt;go_wp2_with fail;clear P7 F7;generalize hV8:World.setCell _ ⟨w.heap.size,8,none⟩ _=V8;have hV9:V8=zAi w7 w.heap.size 0 [.int .u8 (zs[1]?.getD 0),.int .u16 (wat zs 4),.bool (decide (16384≤wat zs 6 % 32768)),.int .u8 (zs[8]?.getD 0),.int .u8 (zs[9]?.getD 0),.int .u32 (zAs zs 12),.int .u32 (zAs zs 16),.slice aso (min k zs.length-20) cso,.slice asd (n-k) csd]:=hV8.symm;have hb8:But (fun b=>b=w.heap.size) w7 V8:=by rw[hV9];exact zAf (E:=fun b=>b=w.heap.size) (n:=w.heap.size) rfl _ _ _ _ (But.refl _ _)
   have p8:=zAe [.int .u8 (zs[1]?.getD 0),.int .u16 (wat zs 4),.bool (decide (16384≤wat zs 6 % 32768)),.int .u8 (zs[8]?.getD 0),.int .u8 (zs[9]?.getD 0),.int .u32 (zAs zs 12),.int .u32 (zAs zs 16),.slice aso (min k zs.length-20) cso,.slice asd (n-k) csd] p7 rfl;rw[←hV9]at p8;clear hV8 hV9;have q8:=(hb8.block _ (eS q7) (by omega)).trans q7;have P8:=zAa p8;have F8:=zAc p8;have E8:=zAa q8;have G8:=zAc q8;have hs7:w.heap.size≤w7.heap.size:=Nat.le_trans hb3.size hb7.size;have hbW8:=(hb3.trans (hb7.mono (by omega))).trans (hb8.below hs7 (fun j h e=>by omega));have hOo8:=hOo.but hb8 (fun b h e=>by have:=hb6.size;omega);have hOd8:=hOd.but hb8 (fun b h e=>by have:=hb6.size;omega);have hw8:Later w7 w7:=Later.refl _;by_cases h4:n-k<8
   ·rw[show decide (((n-k:Nat):Int)<8)=true from by simp;omega]
    refine(zA9 3 _).mono ?_;rintro e w' ⟨rfl,rfl⟩;have:=HM.out;rw[if_neg (by simp[h1]),if_neg (by simp[ral];omega),if_neg (by simp[h3]),if_pos ⟨by simp,by have h5:=HK.out;have h6:=HN.out;simp[ral];omega⟩]at this;subst this;exact zBf _ w.heap.size w.heap.size _ 0 _ V8 p8 rfl q8 (Nat.le_refl _) rfl rfl (fun w' hb'=>⟨hbW8.trans hb',.inl ⟨by omega,rfl⟩⟩)
   rw[show decide (((n-k:Nat):Int)<8)=false from by simp;omega];refine(zA7 3 _).mono ?_;rintro e w' ⟨rfl,rfl⟩;go_wp2_with fail;generalize hV9:World.setCell _ ⟨w.heap.size,8,none⟩ _=V9;have hV10:V9=zAi V8 w.heap.size 0 [.int .u8 (zs[1]?.getD 0),.int .u16 (wat zs 4),.bool (decide (16384≤wat zs 6 % 32768)),.int .u8 (zs[8]?.getD 0),.int .u8 (zs[9]?.getD 0),.int .u32 (zAs zs 12),.int .u32 (zAs zs 16),.slice aso (min k zs.length-20) cso,.slice asd (n-k) csd]:=hV9.symm;have hb9:But (fun b=>b=w.heap.size) V8 V9:=by rw[hV10];exact zAf (E:=fun b=>b=w.heap.size) (n:=w.heap.size) rfl _ _ _ _ (But.refl _ _)
   have p9:=zAe [.int .u8 (zs[1]?.getD 0),.int .u16 (wat zs 4),.bool (decide (16384≤wat zs 6 % 32768)),.int .u8 (zs[8]?.getD 0),.int .u8 (zs[9]?.getD 0),.int .u32 (zAs zs 12),.int .u32 (zAs zs 16),.slice aso (min k zs.length-20) cso,.slice asd (n-k) csd] p8 rfl;rw[←hV10]at p9;clear hV9 hV10;have q9:=(hb9.block _ (eS q8) (by omega)).trans q8;have q10:=zAh q9 0 (.int .i64 0);have p10:=(Below.heap_setCell V9 ⟨w.heap.size+1,0,none⟩ (.int .i64 0) w.heap.size (by simp)).trans p9;have hs8:w.heap.size≤V8.heap.size:=Nat.le_trans hs7 hb8.size;have hb10:Below w.heap.size w (V9.setCell ⟨w.heap.size+1,0,none⟩ (.int .i64 0)):=(hbW8.trans (hb9.below hs8 (fun j h e=>by omega))).setCell (p:=⟨w.heap.size+1,0,none⟩) (Nat.le_succ _) _;have hbb:But (fun b=>b=w.heap.size∨b=w.heap.size+1) V8 (V9.setCell ⟨w.heap.size+1,0,none⟩ (.int .i64 0)):=But.setCell (⟨hb9.os,hb9.tape,hb9.output,hb9.size,fun j hj he=>hb9.block j hj (fun e=>he (.inl e))⟩) (.inr rfl) _;have:=HM.out;rw[if_neg (by simp[h1]),if_neg (by simp[ral];omega),if_neg (by simp[h3]),if_neg (by have h5:=HK.out;have h6:=HN.out;simp[ral];omega)]at this;refine zF7 _ w.heap.size 0 _ _ _ _ _ _ _ _ _ _ p10 q10 rfl rfl ⟨hb10,.inr ⟨this,_,_,rfl,?_,?_⟩⟩
   ·rw[HK.out]
    exact(hOo8.but hbb (fun b h e=>by have:=hb6.size;omega)).mono (Nat.le_trans hb3.size hb6.size)
   ·rw[HK.out,show ral true zs=(n:Int)from by simp[ral];have h6:=HN.out;omega]
    exact(hOd8.but hbb (fun b h e=>by have:=hb6.size;omega)).mono (Nat.le_trans hb3.size hb6.size)
theorem zAg(w:World)(o:Obj):Later w (w.alloc o):=bA _ _
abbrev dps (c:Int):Value:= .iface 136 (.agg #[.int .i64 c])
abbrev dpp (c:Int):List PanicEntry:=[{ v:=dps c,recovered:=false }]
theorem zA0(c:Int)(w:World):
  Calls Tryz.prog 54 #[.bool false,.int .i64 c] w fun e w'=>e= .returned (.tuple #[])∧w=w':=by
 go_enter Tryz.func54,Tryz.ntmps54;go_wp2
 go_end0
 exact⟨rfl,rfl⟩
theorem zL4(c:Int)(w:World):
  Calls Tryz.prog 54 #[.bool true,.int .i64 c] w fun e w'=>e= .panicked (dpp c)∧w=w':=by
 go_enter Tryz.func54,Tryz.ntmps54;go_wp2
 exact⟨rfl,rfl,rfl⟩
abbrev oc (c:Int):List Value:=[.int .i64 c,.int .i64 0,.slice none 0 0]
theorem gta_yes(c:Int)(w:World):(Instr.typeAssert (dps c) 20 136 true).run Tryz.prog w= .ok (.tuple #[.agg #[.int .i64 c],.bool true]) w:=by kernel_rfl
theorem zL5(ob:Nat)(w:World):
  CallsD Tryz.prog 53 #[.pointer (some ⟨ob,0,none⟩)] .returning w fun e u' w'=>e= .returned (.tuple #[])∧u'= .returning∧w'=w:=by
 refine callsD_of_wpS Tryz.func53 rfl fun c₀ cs hu=> ?_;apply wpS_seq
 apply wpS_region
 simp[wpOpsS,go_sem,recoverD,hu,Tryz.ntmps53,Exit.thenS]
 refine wpS_of_wp ?_;go_wp2
 cases c₀
 simp_all [bodyPostS,results,Tryz.results53]
theorem zHb(n ob:Nat)(c:Int)(u0 u1 u2:Value)(w:World)(hp:w.heap[ob]? =some (.cells #[u0,u1,u2] 36 (0,0)))(hn:n≤ob):
  CallsD Tryz.prog 53 #[.pointer (some ⟨ob,0,none⟩)] (.panicking (dpp c)) w fun e u' w'=>
   e= .returned (.tuple #[])∧u'= .panicking [{ v:=dps c,recovered:=true }]∧w'.heap[ob]? =some (.cells (oc c).toArray 36 (0,0))∧Below n w w':=by
 have hpl:=(eS hp);refine callsD_of_wpS Tryz.func53 rfl fun c₀ cs hu=> ?_;apply wpS_seq
 apply wpS_region
 simp[wpOpsS,go_sem,recoverD,hu,Tryz.ntmps53,Exit.thenS]
 simp only[Array.replicate_succ,Array.replicate_zero,List.push_toArray,List.append_toArray,List.nil_append,List.cons_append,List.setIfInBounds_toArray,List.set_cons_zero,List.set_cons_succ];have hta:=gta_yes c;refine wpS_of_wp ?_;have hb0:Later w (w.alloc (.cells #[.int .i64 c] 136)):=bA _ _;have q3:(w.alloc (.cells #[.int .i64 c] 136)).cell? ⟨w.heap.size,0,none⟩=some (.int .i64 c):=zDp w _ _ 0;have hp0:=(hb0.block ob hpl).trans hp;have hwp:w.heap.size≠ob:=by omega
 have hpw:¬ob=w.heap.size:=by omega
 go_upto_region 7 with fail;generalize w.alloc (.cells #[.int .i64 c] 136)=W0 at*;generalize hgd:w.heap.size=gd at*;have hb0s:gd≤W0.heap.size:=by rw[←hgd];exact hb0.size
 have k6:=zAa hp0;have f6:=zAc hp0;go_wp2
 generalize hV7:World.setCell _ ⟨ob,2,none⟩ _=V7;have hV8:V7=zAi W0 ob 0 (oc c):=hV7.symm;have hbp:But (fun b=>b=ob) W0 V7:=by rw[hV8];exact zAf (E:=fun b=>b=ob) (n:=ob) rfl (oc c) 0 W0 W0 (But.refl _ _)
 have hP:=zAe (oc c) hp0 rfl;rw[←hV8]at hP;clear hV7 hV8;have hB2:Below n w V7:=(hb0.mono (by omega)).trans (hbp.below (by omega) (fun k h e=>by omega));refine⟨rfl,_,rfl,.tuple #[],by simp[results,Tryz.results53],rfl,rfl,hP,hB2⟩
abbrev gdfr (ob:Nat):List Deferred:=[{ target:= .fn (.func 53) #[.pointer (some ⟨ob,0,none⟩)],args:=#[] }]
theorem zHk(tm:Array Value)(ob:Nat)(v0 v1 v2:Value)(w:World)(h4:tm[6]? =some (.pointer (some ⟨ob,0,none⟩)))(hp:w.heap[ob]? =some (.cells #[v0,v1,v2] 36 (0,0))):
  (results Tryz.f22 tm).run Tryz.prog w= .ok (.agg #[v0,v1,v2]) w:=by
 have kP:=zAa hp;simp[results,Tryz.results22,go_sem,h4,kP]
theorem zIu {R:Ending→World→Prop} (tm:Array Value)(n ob:Nat)(c:Int)(u0 u1 u2:Value)(w:World)(hp:w.heap[ob]? =some (.cells #[u0,u1,u2] 36 (0,0)))(hn:n≤ob)
  (h4:tm[6]? =some (.pointer (some ⟨ob,0,none⟩)))
  (hR:∀w',Below n w w'→R (.returned (.agg (oc c).toArray)) w'):
  bodyPostD Tryz.prog Tryz.f22 R (.panic (dpp c)) { tmps:=tm,defers:=gdfr ob } w:=by
 refine leaves_cons (f:=53) (args:=#[.pointer (some ⟨ob,0,none⟩)]) (by simp) (by simp[go_sem]) ?_;refine(zHb n ob c u0 u1 u2 w hp hn).mono ?_;rintro e u' w'' ⟨rfl,rfl,hP,hb⟩;exact⟨_,zHk tm ob _ _ _ w'' h4 hP,hR w'' hb⟩
theorem zQk {R:Ending→World→Prop} (tm:Array Value)(ob:Nat)(v0 v1 v2:Value)(w:World)(hp:w.heap[ob]? =some (.cells #[v0,v1,v2] 36 (0,0)))
  (h4:tm[6]? =some (.pointer (some ⟨ob,0,none⟩)))(hR:R (.returned (.agg #[v0,v1,v2])) w):
  bodyPostD Tryz.prog Tryz.f22 R .ret { tmps:=tm,defers:=gdfr ob } w:=by
 refine leaves_cons (f:=53) (args:=#[.pointer (some ⟨ob,0,none⟩)]) (by simp) (by simp[go_sem]) ?_;refine(zL5 ob w).mono ?_;rintro e u' w'' ⟨rfl,rfl,rfl⟩;exact⟨_,zHk tm ob _ _ _ w'' h4 hp,hR⟩
section
variable {P:Program} {l:List Oper} {Q:Exit→Act→World→Prop} {fuel:Nat} {listed:Array Bool} {a:Act} {w:World} {R:World→World→Prop}
theorem zB3(hp:Pre R)(i:Nat) {oi:Oper} (v:Value)(hi:zBp l i=some oi)
  (hs:Region.noSelect l.toArray=true)(hf:Region.free .any l.toArray listed i=true)(hr:(Region.ready .any l.toArray listed).contains i=true)
  (hQ:∀c a w,Q (.panic c) (a.put oi.dst v) w→Q (.panic c) a w)(hg:Region.wanted oi (yielded l.toArray a.tmps)=true)
  (hy:∀w',R w w'→zF4 P R w' v ((execOp a.eval oi).run P w'))
  (h:zA2 P .any l.toArray Q R fuel (listed.setIfInBounds i true) (a.put oi.dst v) w):zA2 P .any l.toArray Q R (fuel+1) listed a w:=by
 have hi':l.toArray[i]? =some oi:=by rw[←hi,zA6];simp
 exact zCi hp.1 hp.2 hi' (Region.noSelect_spec hs) hQ fuel listed a w (Region.free_spec hi' hf) (by simpa using hr) (.inl ⟨hg,hy⟩) h
theorem zKd(hp:Pre R)(i:Nat) {oi:Oper} (hi:zBp l i=some oi)
  (hs:Region.noSelect l.toArray=true)(hf:Region.free .any l.toArray listed i=true)(hr:(Region.ready .any l.toArray listed).contains i=true)
  (hQ:∀v c a w,Q (.panic c) (a.put oi.dst v) w→Q (.panic c) a w)(hg:Region.wanted oi (yielded l.toArray a.tmps)=true)
  (h:∃v,(∀w',R w w'→(execOp a.eval oi).run P w'= .ok (.value v) w')∧zA2 P .any l.toArray Q R fuel (listed.setIfInBounds i true) (a.put oi.dst v) w):zA2 P .any l.toArray Q R (fuel+1) listed a w:=
 let⟨v,h1,h2⟩:=h
 zB3 hp i v hi hs hf hr (hQ v) hg (fun w' hw'=>zIr hp (h1 w' hw')) h2
theorem qX(hp:Pre R)(i:Nat) {oi:Oper} {v:Value} {p:Prop} (h:p)(hi:zBp l i=some oi:=by exact rfl)(hg:Region.wanted oi (yielded l.toArray a.tmps)=true:=by rfl)(h1:∀w',R w w'→(execOp a.eval oi).run P w'= .ok (.value v) w':=by intro v h;go_simp;rfl)(hn:zA2 P .any l.toArray Q R fuel (listed.setIfInBounds i true) (a.put oi.dst v) w=p:=by conv=>lhs;simp only[Act.put,sA,sB,sC])(hs:Region.noSelect l.toArray=true:=by kernel_rfl)(hf:Region.free .any l.toArray listed i=true:=by kernel_rfl)(hr:(Region.ready .any l.toArray listed).contains i=true:=by kernel_rfl)(hQ:∀v c a w,Q (.panic c) (a.put oi.dst v) w→Q (.panic c) a w:=by intro _ _ _ _ h;first|exact h|cases h.1):zA2 P .any l.toArray Q R (fuel+1) listed a w:=zKd hp i hi hs hf hr hQ hg ⟨v,h1,Eq.mpr hn h⟩
end
theorem Rd.later {A B:World} {v:Value} {zs:List Int} (h:Rd A.heap.size A v zs)(l:Later A B):Rd B.heap.size B v zs:=(h.below l).mono l.size
theorem Ow.later {A B:World} {base:Nat} {v:Value} {zs:List Int} (h:Ow base A v zs)(l:Later A B):Ow base B v zs:=h.below l (Nat.le_refl _)
def zQl (Φ:Array Value→World→Prop):Prop:=∀arr w w',Later w w'→Φ arr w→Φ arr w'
def FinA (rb:Nat) (t:TypeId) (Φ:Array Value→World→Prop) (w:World):Prop:=∃arr,w.heap[rb]? =some (.cells arr t (0,0))∧Φ arr w
theorem FinA.later {rb:Nat} {t:TypeId} {Φ:Array Value→World→Prop} (hΦ:zQl Φ) {w w':World} (l:Later w w')(h:FinA rb t Φ w):FinA rb t Φ w':=by
 obtain⟨arr,h1,h2⟩:=h;exact⟨arr,(l.block rb (eS h1)).trans h1,hΦ _ _ _ l h2⟩
abbrev KR (rb k:Nat) (t:TypeId) (Φ:Array Value→World→Prop):World→World→Prop:=Keep (fun b=>b=rb) (Wr rb k t) (FinA rb t Φ)
theorem KR.of {rb k:Nat} {t:TypeId} {Φ:Array Value→World→Prop} (hΦ:zQl Φ) {w w':World} (l:Later w w'):KR rb k t Φ w w':=Keep.of (fun _ _ l h=>h.later l) (fun _ _ l h=>h.later hΦ l) l
theorem KR.store {rb k:Nat} {t:TypeId} {Φ:Array Value→World→Prop} {w:World} (vs:List Value)(hw:Wr rb k t w)(hk:vs.length=k)(hΦ:Φ vs.toArray (zAi w rb 0 vs)):KR rb k t Φ w (zAi w rb 0 vs)∧FinA rb t Φ (zAi w rb 0 vs):=by
 obtain⟨cur,hc,hs⟩:=hw;have hall:=zAe vs hc (by omega);have hF:FinA rb t Φ (zAi w rb 0 vs):=⟨_,hall,hΦ⟩;exact⟨⟨zAf (E:=fun b=>b=rb) (n:=rb) rfl vs 0 w w (But.refl _ _),fun _=>⟨_,hall,by simpa using hk⟩,fun _=>hF⟩,hF⟩
theorem zA1 {rb:Nat} (vs:List Value)(w:World):But (fun b=>b=rb) w (zAi w rb 0 vs):=zAf (E:=fun b=>b=rb) (n:=rb) rfl vs 0 w w (But.refl _ _)
section
variable {P:Program} {ops:Array Oper} {Q:Exit→Act→World→Prop} {md:Region.Mode} {R:World→World→Prop}
def zAy (P:Program) (md:Region.Mode) (ops:Array Oper) (Q:Exit→Act→World→Prop) (R:World→World→Prop):Nat→Array Bool→Act→World→Prop
 |0,listed,a,w=>Region.ready md ops listed=[]∧Q .normal a w
 |fuel+1,listed,a,w=>
  (Region.ready md ops listed=[]→Q .normal a w)∧
  ∀i∈Region.ready md ops listed,wpOp P ops Q i (fun a' w''=>R w w''∧zAy P md ops Q R fuel (listed.setIfInBounds i true) a' w'') a w
theorem zHl:∀(fuel:Nat) (listed:Array Bool) (a:Act) (w:World),zAy P md ops Q R fuel listed a w→wpAny P md ops Q fuel listed a w
 |0,_,_,_,h=>h
 |fuel+1,_,_,_,h=>⟨h.1,fun i hi=>wpOp_mono (fun a' w' h'=>zHl fuel _ a' w' h'.2) (h.2 i hi)⟩
def GivesP (P:Program) (R:World→World→Prop) (o:Oper) (v:Value) (a:Act) (w:World):Prop:=
 o.guard=none∧∀w',R w w'→(execOp a.eval o).run P w'= .ok (.value v) w'
theorem GivesP.up {o:Oper} {v:Value} {a:Act} {w w':World} (ht:∀a b c,R a b→R b c→R a c)(hy:GivesP P R o v a w)(h:R w w'):GivesP P R o v a w':=⟨hy.1,fun w'' h'=>hy.2 w'' (ht _ _ _ h h')⟩
theorem zSn {j:Nat} {oi oj:Oper} {v:Value} (hj:ops[j]? =some oj)(hap:oi.apart ops oj=true)
  (hsi:∀cs b,oi.op≠ .select cs b)(hsj:∀cs b,oj.op≠ .select cs b)
  (hQ:∀c a w,Q (.panic c) (a.put oi.dst v) w→Q (.panic c) a w) {K:Act→World→Prop} {a:Act} {w w₀:World}
  (hy:GivesP P R oi v a w₀)(h:wpOp P ops Q j K (a.put oi.dst v) w):
  wpOp P ops Q j (fun a' w'=>GivesP P R oi v a' w₀∧K (a'.put oi.dst v) w') a w:=by
 obtain⟨h1,h2,h3⟩:=Oper.apart_spec hap
 have keep:∀(a:Act),GivesP P R oi v a w₀→∀u,GivesP P R oi v (a.put oj.dst u) w₀:=fun a hy u=>by
  unfold GivesP at*;rw[execOp_put oi hsi a oj.dst u h3];exact hy
 have keepD:∀d,GivesP P R oi v { a with defers:=d::a.defers } w₀:=fun d=>hy;unfold wpOp at*;simp only[hj]at*;rw[wanted_put oj a oi.dst v h1]at h;split
 ·rename_i hw
  simp only[hw,if_true]at h;rcases h with h|⟨hasks,hlets⟩
  case inr=>exact .inr ⟨by unfold Oper.asks at*;rw[execOp_put oj hsj a oi.dst v h1]at hasks;exact hasks,hlets⟩
  refine .inl ?_;unfold Oper.wp at*;rw[execOp_put oj hsj a oi.dst v h1]at h;generalize (execOp a.eval oj).run P w=r at*;cases r with
  | ok n w'=>
   cases n<;>simp only[Oper.upon]at h⊢
   case value u=>exact⟨keep a hy u,by rw[←Act.put_comm a v u h2];exact h⟩
   case skip=>exact⟨keep a hy _,by rw[←Act.put_comm a v undef h2];exact h⟩
   case defer d=>
    refine⟨keep _ (keepD d) _,?_⟩;rw[←Act.put_comm _ v undef h2,←Act.put_defers];exact h
   case enter f args=>
    refine Calls.mono h fun e w'' he=> ?_;cases e with
    |returned u=>exact⟨keep a hy u,by rw[←Act.put_comm a v u h2];exact he⟩
    |panicked c=>exact hQ _ _ _ he
    |outgrown=>exact he
   case row row args=>exact Rows.mono h fun u w'' he=>⟨keep a hy u,by rw[←Act.put_comm a v u h2];exact he⟩
  |halt x w'=>
   cases x<;>simp only[Oper.upon]at h⊢
   case panic u=>exact hQ _ _ _ h
 ·rename_i hw
  simp only[hw]at h;exact⟨keep a hy _,by rw[←Act.put_comm a v undef h2];exact h⟩
theorem GivesP.wpOp {i:Nat} {o:Oper} {v:Value} {a:Act} {w:World} (hr:∀a,R a a)(hi:ops[i]? =some o)(hy:GivesP P R o v a w)
  {K:Act→World→Prop} (h:K (a.put o.dst v) w):Go.wpOp P ops Q i K a w:=by
 unfold Go.wpOp;simp only[hi];have hw:Region.wanted o (yielded ops a.tmps)=true:=by simp[Region.wanted,hy.1]
 simp only[hw,if_true];refine .inl ?_;unfold Oper.wp;rw[hy.2 w (hr w)];exact h
theorem zKe(hre:∀a,R a a)(ht:∀a b c,R a b→R b c→R a c) {i:Nat} {oi:Oper} {v:Value} (hi:ops[i]? =some oi)(hsel:∀(j:Nat) (o:Oper) cs b,ops[j]? =some o→o.op≠ .select cs b)
  (hQ:∀c a w,Q (.panic c) (a.put oi.dst v) w→Q (.panic c) a w):
  ∀(fuel:Nat) (listed:Array Bool) (a:Act) (w:World),
   (∀j oj,ops[j]? =some oj→j≠i→listed.getD j true=false→(∀e∈oj.after,Region.binds md e=true→e.on≠i)→oi.apart ops oj=true)→
   i∈Region.ready md ops listed→GivesP P R oi v a w→
   zAy P md ops Q R fuel (listed.setIfInBounds i true) (a.put oi.dst v) w→zAy P md ops Q R (fuel+1) listed a w:=by
 intro fuel
 induction fuel with
 | zero=>
  intro listed a w _ hr hy H
  refine⟨fun h=>(by rw[h]at hr;cases hr),fun j hj=> ?_⟩;by_cases hji:j=i
  ·subst hji;exact hy.wpOp hre hi ⟨hre _,H⟩
  ·have:=ready_mono hj hji
   rw[H.1]at this;cases this
 | succ fuel ih=>
  intro listed a w hfree hr hy H
  refine⟨fun h=>(by rw[h]at hr;cases hr),fun j hj=> ?_⟩;by_cases hji:j=i
  ·subst hji;exact hy.wpOp hre hi ⟨hre _,H⟩
  ·have h1:=H.2 j (ready_mono hj hji)
   obtain⟨hjun,oj,hoj,hall⟩:=mem_ready.1 hj
   have hnot:∀e∈oj.after,Region.binds md e=true→e.on≠i:=fun e he hb heq=>by
    have h1:=hall e he hb;have h0:=(mem_ready.1 hr).1;rw[heq]at h1;rcases Nat.lt_or_ge i listed.size with h'|h'
    ·simp[h']at h0 h1;rw[h0]at h1;cases h1
    ·simp[Array.getElem?_eq_none h']at h1
   have h2:=zSn hoj (hfree j oj hoj hji hjun hnot) (fun cs b=>hsel i oi cs b hi) (fun cs b=>hsel j oj cs b hoj) hQ hy h1
   have hfree':∀k ok,ops[k]? =some ok→k≠i→(listed.setIfInBounds j true).getD k true=false→
     (∀e∈ok.after,Region.binds md e=true→e.on≠i)→oi.apart ops ok=true:=fun k ok hk hki hun hno=>by
    refine hfree k ok hk hki ?_ hno;by_cases hjk:j=k
    ·subst hjk;exact hjun
    ·rw[getD_set_ne true hjk]at hun;exact hun
   refine wpOp_mono (fun a' w'' h3=>⟨h3.2.1,ih (listed.setIfInBounds j true) a' w'' hfree' (ready_mono hr (Ne.symm hji)) (h3.1.up ht h3.2.1) ?_⟩) h2;rw[Array.setIfInBounds_comm _ _ hji];exact h3.2.2
end
section
variable {P:Program} {l:List Oper} {Q:Exit→Act→World→Prop} {fuel:Nat} {listed:Array Bool} {a:Act} {w:World} {R:World→World→Prop}
theorem zOx(hp:Pre R)(i:Nat) {oi:Oper} (hi:zBp l i=some oi)
  (hs:Region.noSelect l.toArray=true)(hf:Region.free .any l.toArray listed i=true)(hr:(Region.ready .any l.toArray listed).contains i=true)
  (hQ:∀v c a w,Q (.panic c) (a.put oi.dst v) w→Q (.panic c) a w)(hg:oi.guard=none)
  (h:∃v,(∀w',R w w'→(execOp a.eval oi).run P w'= .ok (.value v) w')∧zAy P .any l.toArray Q R fuel (listed.setIfInBounds i true) (a.put oi.dst v) w):zAy P .any l.toArray Q R (fuel+1) listed a w:=by
 obtain⟨v,h1,h2⟩:=h;have hi':l.toArray[i]? =some oi:=by rw[←hi,zA6];simp
 exact zKe hp.1 hp.2 hi' (Region.noSelect_spec hs) (hQ v) fuel listed a w (Region.free_spec hi' hf) (by simpa using hr) ⟨hg,h1⟩ h2
theorem tV(hp:Pre R)(i:Nat) {oi:Oper} (hi:zBp l i=some oi)(hg:oi.guard=none)
  (h:∃v,(∀w',R w w'→(execOp a.eval oi).run P w'= .ok (.value v) w')∧zAy P .any l.toArray Q R fuel (listed.setIfInBounds i true) (a.put oi.dst v) w)
  (hs:Region.noSelect l.toArray=true:=by kernel_rfl)(hf:Region.free .any l.toArray listed i=true:=by kernel_rfl)(hr:(Region.ready .any l.toArray listed).contains i=true:=by kernel_rfl)
  (hQ:∀v c a w,Q (.panic c) (a.put oi.dst v) w→Q (.panic c) a w:=by intro _ _ _ _ h;exact h):zAy P .any l.toArray Q R (fuel+1) listed a w:=zOx hp i hi hs hf hr hQ hg h
theorem zAl {id:Nat} (n:Nat)(hn:l.length=n)(hm:P.follows .mixedOrders=true)
  (h:zAy P .any l.toArray Q R n (Array.replicate n false) a w.drew):(Code.region id l.toArray true).wp P Q a w:=by
 subst hn;refine wp_region_any hm (zHl (R:=R) _ _ _ _ ?_);simpa using h
theorem zKf(hr:Region.ready .any l.toArray listed=[])(h:Q .normal a w):zAy P .any l.toArray Q R fuel listed a w:=by
 cases fuel with
 |zero=>exact⟨hr,h⟩
 |succ n=>exact⟨fun _=>h,by rw[hr];simp⟩
theorem anyT_one(i:Nat) {oi:Oper} (hi:zBp l i=some oi)(hr:Region.ready .any l.toArray listed=[i])(gi:oi.guard=none)
  (h1:oi.wp P a w (fun a' w''=>R w w''∧zAy P .any l.toArray Q R fuel (listed.setIfInBounds i true) a' w'') Q):
  zAy P .any l.toArray Q R (fuel+1) listed a w:=by
 have hi':l.toArray[i]? =some oi:=by rw[←hi,zA6];simp
 refine⟨fun h0=>(by rw[hr]at h0;cases h0),fun k hk=> ?_⟩;rw[hr]at hk;unfold wpOp;obtain rfl:k=i:=by simpa using hk
 rw[hi'];simp only[Region.wanted,gi];exact .inl h1
theorem tX(hp:Pre R)(i:Nat) {oi:Oper} {v:Value} {p:Prop} (h:p)(hi:zBp l i=some oi:=by exact rfl)(hg:oi.guard=none:=by exact rfl)(h1:∀w',R w w'→(execOp a.eval oi).run P w'= .ok (.value v) w':=by intro v h;go_simp;rfl)(hn:zAy P .any l.toArray Q R fuel (listed.setIfInBounds i true) (a.put oi.dst v) w=p:=by conv=>lhs;simp only[Act.put,sA,sB,sC])(hs:Region.noSelect l.toArray=true:=by kernel_rfl)(hf:Region.free .any l.toArray listed i=true:=by kernel_rfl)(hr:(Region.ready .any l.toArray listed).contains i=true:=by kernel_rfl)(hQ:∀v c a w,Q (.panic c) (a.put oi.dst v) w→Q (.panic c) a w:=by intro _ _ _ _ h;first|exact h|cases h.1):zAy P .any l.toArray Q R (fuel+1) listed a w:=zOx hp i hi hs hf hr hQ hg ⟨v,h1,Eq.mpr hn h⟩
theorem tO(i:Nat) {oi:Oper} (h1:oi.wp P a w (fun a' w''=>R w w''∧zAy P .any l.toArray Q R fuel (listed.setIfInBounds i true) a' w'') Q)(hi:zBp l i=some oi:=by exact rfl)(hr:Region.ready .any l.toArray listed=[i]:=by kernel_rfl)(gi:oi.guard=none:=by exact rfl):zAy P .any l.toArray Q R (fuel+1) listed a w:=anyT_one i hi hr gi h1
theorem tD(h:Q .normal a w)(hr:Region.ready .any l.toArray listed=[]:=by kernel_rfl):zAy P .any l.toArray Q R fuel listed a w:=zKf hr h
theorem zBv(i j:Nat) {oi oj:Oper} (hi:zBp l i=some oi)(hj:zBp l j=some oj)(hr:Region.ready .any l.toArray listed=[i,j])(gi:oi.guard=none)(gj:oj.guard=none)
  (h1:oi.wp P a w (fun a' w''=>R w w''∧zAy P .any l.toArray Q R fuel (listed.setIfInBounds i true) a' w'') Q)
  (h2:oj.wp P a w (fun a' w''=>R w w''∧zAy P .any l.toArray Q R fuel (listed.setIfInBounds j true) a' w'') Q):
  zAy P .any l.toArray Q R (fuel+1) listed a w:=by
 have hi':l.toArray[i]? =some oi:=by rw[←hi,zA6];simp
 have hj':l.toArray[j]? =some oj:=by rw[←hj,zA6];simp
 refine⟨fun h0=>(by rw[hr]at h0;cases h0),fun k hk=> ?_⟩;rw[hr]at hk;unfold wpOp;have hk':k=i∨k=j:=by simpa using hk
 rcases hk' with rfl|rfl
 ·rw[hi'];simp only[Region.wanted,gi];exact .inl h1
 ·rw[hj'];simp only[Region.wanted,gj];exact .inl h2
end
theorem zDc {P:Program} {n₀:Nat} {w:World} {sv:Value} {zs:List Int} (src dst e:TypeId)(hs:P.underlying src=some (.slice e))(he:P.underlying e=some (.int .u8))(hd:P.underlying dst=some .string)(hI:Rd n₀ w sv zs):
  (convert src dst sv).run P w= .ok (.string (strOfNums zs)) w:=by
 rcases hI with⟨a,cap,rfl,rfl,_,hn⟩|⟨b,off,cap,rfl,_,_,_,_,hc⟩
 ·cases a with
  |none=>rw[run_convert_bytes_nil w src e hs he 0 cap dst hd];rfl
  |some ad=>
   rw[run_convert_bytes_string w src dst e _ 0 cap hs he hd,run_bytesToString w ad 0 cap [] (by simp[loadCells];rfl)];rfl
 ·exact run_convert_bytes_arg w src e hs he b off zs.length cap zs rfl (fun i hi=>by rw[hc i hi];rfl) dst hd
def psd (s d p n:Int):List Int:=[s/16777216,s/65536 % 256,s/256 % 256,s % 256,d/16777216,d/65536 % 256,d/256 % 256,d % 256,0,p,n/256 % 256,n % 256]
theorem psd_eq(s d p n:Int):Mt.put2 ((zLw (zLw (List.replicate 12 0) 0 s) 4 d).set 9 p) 10 (n % 65536)=psd s d p n:=by
 have e:∀v:Int,v/65536/256=v/16777216∧v % 65536/256=v/256 % 256∧v % 65536 % 256=v % 256:=fun v=>by omega
 simp[Mt.put2,zLw,psd,List.replicate,e]
theorem zHm(s d p n:Int)(hs:0≤s∧s≤4294967295)(hd:0≤d∧d≤4294967295)(w:World):
  Calls Tryz.prog 124 #[.int .u32 s,.int .u32 d,.int .u8 p,.int .i64 n] w fun e w'=>∃a,e= .returned (.slice a 12 12)∧Ow w.heap.size w' (.slice a 12 12) (psd s d p n)∧Below w.heap.size w w':=by
 obtain⟨i0,hi,hz0,hz1,hz2⟩:=info_parts zBt;have hn0:0≤n % 65536∧n % 65536≤65535:=by omega
 go_enter Tryz.func124,Tryz.ntmps124;go_wp2_with (at_make;go_must (refine wpList_make_full _ rfl _ _ 26 rfl w.heap.size 5 i0 (.int .u8 0) 1 Tryz.underlying26 hi hz0 hz1 _ _ _ _ 12 rfl rfl (by rfl) (by rfl) (by rw[hz2];omega) (by unfold maxLen;omega) (Nat.le_refl _) ?_);intro w2 hown2 hg2;go_must (have hz:=Ow.of_row (own_made hown2));clear hown2;have hb2:Below w.heap.size w w2:=(Below.refl _ w).grown hg2 (Nat.le_refl _) (fun _ e=>by cases e);clear hg2)
 refine(zIp w.heap.size _ 12 12 _ 0 s _ hz (by simp) hs).mono ?_;rintro e w3 ⟨rfl,hO3,hb3⟩;go_wp2_with fail;refine(zIp w.heap.size _ 12 12 _ 4 d _ hO3 (by simp[zB5]) hd).mono ?_;rintro e w4 ⟨rfl,hO4,hb4⟩;have hl4:9<(zLw (zLw (List.replicate 12 0) 0 s) 4 d).length:=by simp[zB5]
 have HL:=zAd (psd_eq s d p n);generalize zLw (zLw (List.replicate 12 0) 0 s) 4 d=l4 at*;obtain⟨g,hg,hle,_,hcf,hset⟩:=hO4.at (by omega);obtain⟨c9,f9⟩:=hcf 9 hl4;have hO5:=hset 9 p hl4;cases hg
 have hl5:10+1<(l4.set 9 p).length:=by simp;omega
 generalize l4.set 9 p=l5 at*;generalize l4[9]?.getD 0=y9 at*;clear hcf hset hO3 hO4 hz hle hl4;have hb5:=((hb2.trans hb3).trans hb4).setCell (p:=⟨w.heap.size,9,none⟩) (Nat.le_refl _) (.int .u8 p);go_wp2_with fail;rw[IntKind.wrap_u16];refine(zFq w.heap.size _ 12 12 _ 10 _ _ hO5 hl5 hn0).mono ?_;rintro e w6 ⟨rfl,hO6,hb6⟩;rw[HL.out]at hO6;go_wp2
 go_ret
 exact⟨_,rfl,hO6,hb5.trans hb6⟩
theorem Rd.new2(x y:Int)(e:TypeId)(w:World):Rd (w.heap.size+1) (w.alloc (.cells #[.int .u8 x,.int .u8 y] e)) (.slice (some ⟨w.heap.size,0,none⟩) 2 2) [x,y]:=Rd.new [x,y] e w (by simp) (by simp)
theorem str_inj {a b:List Int} (ha:Mt.By a)(hb:Mt.By b)(h:strOfNums a=strOfNums b):a=b:=by
 have h1:(strOfNums a).data.toList=(strOfNums b).data.toList:=by rw[h]
 rw[strOfNums_data,strOfNums_data]at h1;have h2:=congrArg (List.map (fun c:UInt8=>(c.toNat:Int))) h1
 have e:∀l:List Int,Mt.By l→(l.map fun n=>UInt8.ofNat n.toNat).map (fun c:UInt8=>(c.toNat:Int))=l:=by
  intro l hl
  rw[List.map_map];conv=>rhs;rw[←List.map_id l]
  refine List.map_congr_left (fun z hz=> ?_);have:=hl z hz;simp
  omega
 rw[e a ha,e b hb]at h2;exact h2
theorem str_eq {a b:List Int} (ha:Mt.By a)(hb:Mt.By b):((strOfNums a).toList==(strOfNums b).toList)=decide (a=b):=by
 by_cases h:a=b
 ·subst h;simp
 ·rw[decide_eq_false h]
  refine beq_eq_false_iff_ne.2 (fun e=>h (str_inj ha hb ?_));rw[ByteArray.toList_eq,ByteArray.toList_eq]at e;unfold strOfNums at*;simpa using e
theorem zF8 {n₀ n₁:Nat} (sa sb:Value)(za zb:List Int)(w:World)(hA:Mt.By za)(hB:Mt.By zb)(hIa:Rd n₀ w sa za)(hIb:Rd n₁ w sb zb):
  Calls Tryz.prog 181 #[sa,sb] w fun e w'=>e= .returned (.bool (decide (za=zb)))∧w'=w:=by
 have ca:=zDc 26 9 5 Tryz.underlying26 Tryz.underlying5 Tryz.underlying9 hIa;have cb:=zDc 26 9 5 Tryz.underlying26 Tryz.underlying5 Tryz.underlying9 hIb;go_enter Tryz.func181,Tryz.ntmps181;have HE:=zAd (str_eq hA hB);go_wp2
 rw[HE.out];go_ret
 exact⟨rfl,rfl⟩
theorem zD5(w:World):Rd w.heap.size w (.slice none 0 0) []:= .inl ⟨none,0,rfl,rfl,by omega,fun _=>rfl⟩
def GenX {α:Type} (F:Fence) (n:Nat) (P:Program) (g:Nat) (lb:Array Value) (encs:α→Array Value) (Kp:World→World→Prop) (X:List α→α→World→Prop) (S Sp:List α→Prop) (w:World):Prop:=
 ∀(l:Nat) (J Jx:List α→World→Prop) (W:World),Below w.heap.size w W→(∀s A B,J s A→Later A B→J s B)→
  (∀pre x V,J pre V→X pre x V→YieldAt F (n-1) P l (encs x) V fun e V'=>(e= .returned (.bool true)∧J (pre++[x]) V'∧Kp V V')∨(e= .returned (.bool false)∧Jx (pre++[x]) V'))→
  J [] W→CallsIn F n P g (#[.func (.yield l) #[] #[]]++lb) W fun e W'=>(∃v,e= .returned v)∧((∃xs,S xs∧J xs W')∨∃pre,Sp pre∧Jx pre W')
def postX {α:Type} (B:Nat) (Kp:World→World→Prop) (I Ix:List α→World→Prop) (xs:List α) (W:World):Exit→Act→World→Prop
 | .normal,_,V=>KeepsFrom B W V∧Kp W V∧I xs V
 | .ret,_,V=>KeepsFrom B W V∧Ix xs V
 |_,_,_=>False
theorem zAb {A B:World} (h:Later A B) {k:Nat} {o:Obj} (ho:A.heap[k]? =some o):B.heap[k]? =some o:=(h.block k (eS ho)).trans ho
theorem zB7 {F:Fence} {n:Nat} {P:Program} {α:Type} {g:Operand} {ps:Array Tmp} {assign body:Code} {Q:Exit→Act→World→Prop} {a:Act} {w:World}
  (hro:F.round=none)(h1:1≤n) {gf:Nat} {lb:Array Value} (hg:a.eval g= .func (.func gf) #[] lb)(hFg:F.fn gf)(eg:∀args w,(callFunc gf args).run P w= .ok (.enter gf args) w)
  {encs:α→Array Value} {Kp:World→World→Prop} {X:List α→α→World→Prop} {S Sp:List α→Prop} (hseq:GenX F (n-1) P gf lb encs Kp X S Sp w)
  (hKt:∀ {A B C:World},Kp A B→Kp B C→Kp A C)(hKb:∀(W:World) (l:Nat) (o o':Obj),w.heap.size≤l→W.heap[l]? =some o→o.isCells=false→o.isWalk=false→Kp W (W.putObj l o'))
  (hKl:∀ {A B:World},w.heap.size≤A.heap.size→Later A B→Kp A B)(hXl:∀pre x A B,X pre x A→Later A B→X pre x B)
  (hXb:∀pre x (W:World) (l:Nat) (o o':Obj),w.heap.size≤l→W.heap[l]? =some o→o.isCells=false→X pre x W→X pre x (W.putObj l o'))(hps:∀x,(encs x).size=ps.size)
  (I Ix:List α→World→Prop)(hI:OwnFrom w.heap.size I)(hIl:∀s A B,I s A→Later A B→I s B)(hIx:OwnFrom w.heap.size Ix)(h0:I [] w)
  (A:α→Act→World→Prop)(hA:∀x a' (W:World) (l:Nat) (o o':Obj),w.heap.size≤l→W.heap[l]? =some o→o.isCells=false→A x a' W→A x a' (W.putObj l o'))
  (hassign:∀(l:Nat) (pre:List α) (x:α) (W:World) (K:Act→World→Prop),w.heap.size≤W.heap.size→I pre W→X pre x W→(∀a' W',Later W W'→A x a' W'→K a' W')→
   assign.wpIn (F.inRound l) (n-1-1) P (Exit.then K (fun _ _ _=>False)) { tmps:=(ps.zip (encs x)).foldl (fun t (p,v)=>t.setIfInBounds p v) a.tmps,defers:=[] } W)
  (hbody:∀(l:Nat) (pre:List α) (x:α) (a':Act) (W:World),I pre W→X pre x W→A x a' W→body.wpIn (F.inRound l) (n-1-1) P (postX w.heap.size Kp I Ix (pre++[x]) W) a' W)
  (hdone:∀(D:Nat) (xs:List α) (W:World),w.heap.size≤D→S xs→I xs W→W.heap[D]? =some (.deferred (some []))→Q .normal { a with defers:= { target:= .collected D,args:=#[] } ::a.defers } W)
  (hstop:∀(D:Nat) (pre:List α) (W:World),w.heap.size≤D→Sp pre→Ix pre W→W.heap[D]? =some (.deferred (some []))→Code.ret.wpIn F n P Q { a with defers:= { target:= .collected D,args:=#[] } ::a.defers } W):
  (Code.rangeFunc g ps assign body).wpIn F n P Q a w:=by
 refine wpIn_rangeFunc fun fn hfn=> ?_;rw[hro];obtain⟨rec,hrec⟩:∃rec:LoopState→Option Code→Loop,rec=fun st pe=> { state:=st,pending:=pe,fn,tmps:=a.tmps,params:=ps,assign,body,defers:=w.heap.size } :=⟨_,rfl⟩;obtain⟨V,hV⟩:∃V,(w.alloc (.deferred (some []))).alloc (.loop (rec .ready none))=V:=⟨_,rfl⟩
 have hl:V.heap[w.heap.size+1]? =some (.loop (rec .ready none)):=by
  have:=World.alloc_heap_new (w.alloc (.deferred (some []))) (.loop (rec .ready none));rw[World.size_alloc]at this;rw[←hV];exact this
 have hk:V.heap[w.heap.size]? =some (.deferred (some [])):=by
  rw[←hV];exact(Below.heap_alloc _ _ _ (by simp)).trans (World.alloc_heap_new w _)
 have hi:I [] V:=by rw[←hV];exact hI.alloc _ (hI.alloc _ h0)
 have hb:Below w.heap.size w V:=by rw[←hV];exact((Below.refl _ w).alloc (Nat.le_refl _) _).alloc (by simp) _
 refine⟨w.heap.size+1,[{ target:= .collected w.heap.size,args:=#[] }],V, { target:= .fn (.func gf) lb,args:=#[.func (.yield (w.heap.size+1)) #[] #[]] },V,gf,#[.func (.yield (w.heap.size+1)) #[] #[]]++lb,V,?_,?_,?_,?_,fun _=>h1,?_⟩
 ·rw[←hV,hrec];exact run_enterLoop_outer _ _ _ _ _
 ·simp only[resolve,hg]
  simp[go_sem]
 ·intro f' hf';simp[Target.leads]at hf';subst hf';exact hFg
 ·simp[invoke,go_sem,eg]
 refine(hseq (w.heap.size+1) (fun pre W=>I pre W∧W.heap[w.heap.size+1]? =some (.loop (rec .ready none))∧W.heap[w.heap.size]? =some (.deferred (some [])))
  (fun pre W=>Ix pre W∧W.heap[w.heap.size+1]? =some (.loop (rec .done (some .ret)))∧W.heap[w.heap.size]? =some (.deferred (some []))) V hb
  (fun s A B hs h=>⟨hIl s A B hs.1 h,zAb h hs.2.1,zAb h hs.2.2⟩) ?_ ⟨hi,hl,hk⟩).mono ?_
 ·rintro pre x W ⟨ji,jl,jk⟩ hx
  have hlt:w.heap.size+1<W.heap.size:=(eS jl);have hy:=run_yield (P:=P) (args:=encs x) jl (by rw[hrec];exact hps x);rw[hrec]at hy;refine⟨fn,_,assign,body,hy,roundIn_of_wpIn hfn (hassign _ pre x W _ (by omega) ji hx fun a' W' hL hAx=> ?_)⟩;have pL:Kp W W':=hKl (by omega) hL;replace ji:=hIl _ _ _ ji hL
  replace jl:=zAb hL jl
  replace jk:=zAb hL jk
  replace hx:=hXl _ _ _ _ hx hL
  replace hlt:w.heap.size+1<W'.heap.size:=(eS jl)
  refine⟨_,run_beginRound jl (by rw[hrec]),?_⟩;obtain⟨U,hU⟩:∃U,W'.putObj (w.heap.size+1) (.loop { rec .ready none with state:= .busy })=U:=⟨_,rfl⟩;have l2:U.heap[w.heap.size+1]? =some (.loop { rec .ready none with state:= .busy }):=by rw[←hU];exact World.putObj_heap_same hlt
  have k2:U.heap[w.heap.size]? =some (.deferred (some [])):=by rw[←hU];exact(World.putObj_heap_other (by omega)).trans jk
  have p2:Kp W U:=by rw[←hU];exact hKt pL (hKb _ _ _ _ (by omega) jl rfl rfl)
  have a2:A x a' U:=by rw[←hU];exact hA _ _ _ _ _ _ (by omega) jl rfl hAx
  have i2:I pre U:=by rw[←hU];exact hI.putObj _ ji (by omega) jl rfl
  have x2:X pre x U:=by rw[←hU];exact hXb _ _ _ _ _ _ (by omega) jl rfl hx
  rw[hU];refine wpIn_mono (hbody _ pre x a' U i2 x2 a2) ?_
  have fin:∀(jump:Option Code) (Z:World),KeepsFrom w.heap.size U Z→
    (Instr.endRound (w.heap.size+1) jump).run P Z= .ok (.bool jump.isNone) (Z.putObj (w.heap.size+1) (.loop (rec (if jump.isNone then .ready else .done) jump)))∧Z.heap[w.heap.size+1]? =some (.loop { rec .ready none with state:= .busy })∧
    (Z.putObj (w.heap.size+1) (.loop (rec (if jump.isNone then .ready else .done) jump))).heap[w.heap.size+1]? =some (.loop (rec (if jump.isNone then .ready else .done) jump))∧
    (Z.putObj (w.heap.size+1) (.loop (rec (if jump.isNone then .ready else .done) jump))).heap[w.heap.size]? =some (.deferred (some [])):=fun jump Z hZ=>by
   have l3:=hZ.same _ _ (by omega) l2 rfl;have r3:=run_endRound (P:=P) jump l3;rw[hrec]at r3⊢;exact⟨r3,by rw[hrec]at l3;exact l3,World.putObj_heap_same (eS l3),(World.putObj_heap_other (by omega)).trans (hZ.same _ _ (Nat.le_refl _) k2 rfl)⟩
  rintro e a3 Z hp;cases e with
  |normal=>
   obtain⟨hZ,hp3,hi3⟩:=hp;obtain⟨hr,l3,l4,k4⟩:=fin none Z hZ;exact⟨_,_,hr,.inl ⟨rfl,⟨hI.putObj _ hi3 (by omega) l3 rfl,l4,k4⟩,hKt (hKt p2 hp3) (hKb _ _ _ _ (by omega) l3 rfl rfl)⟩⟩
  |ret=>
   obtain⟨hZ,hi3⟩:=hp;obtain⟨hr,l3,l4,k4⟩:=fin (some .ret) Z hZ;exact⟨_,_,hr,.inr ⟨rfl,hIx.putObj _ hi3 (by omega) l3 rfl,l4,k4⟩⟩
  |exit id=>exact hp.elim
  |goto t=>exact hp.elim
  |panic ch=>exact hp.elim
  |outgrown=>exact hp.elim
 ·rintro e W2 ⟨⟨v,rfl⟩,(⟨xs,hS,ji,jl,jk⟩|⟨pre,hSp,ji,jl,jk⟩)⟩
  ·exact ⟨none,_,by have:=run_endLoop (P:=P) jl (by rw[hrec];simp);rw[hrec]at this;exact this,hdone _ xs _ (Nat.le_refl _) hS (hI.putObj _ ji (by omega) jl rfl) ((World.putObj_heap_other (by omega)).trans jk)⟩
  ·exact ⟨some .ret,_,by have:=run_endLoop (P:=P) jl (by rw[hrec];simp);rw[hrec]at this;exact this,hstop _ pre _ (Nat.le_refl _) hSp (hIx.putObj _ ji (by omega) jl rfl) ((World.putObj_heap_other (by omega)).trans jk)⟩
end Go.Proofs.YteaeilghamjjkaaGreatDoor
