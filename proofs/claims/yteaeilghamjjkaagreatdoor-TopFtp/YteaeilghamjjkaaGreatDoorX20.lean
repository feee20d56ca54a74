import Derived.Test.YteaeilghamjjkaaGreatDoorX21
import Derived.Laws.Cover3
import Derived.MapKept
import Derived.Deep.DeepCutAuto
import Derived.Deep.CutBlock
import Derived.OrdersIn
import Derived.RangeFuncCalls
namespace Go.Proofs.YteaeilghamjjkaaGreatDoor
open Go.RowKit Go.Shelf
set_option maxRecDepth 100000
set_option linter.unusedVariables false
set_option linter.unusedSimpArgs false
set_option maxHeartbeats 1000000 in
theorem zGl(sv:Value)(zs:List Int)(w:World)(hB:Mt.By zs)(hl:zs.length≤225000000000000)(hI:Rd w.heap.size w sv zs):
  Calls Tryz.prog 25 #[sv] w fun e w'=>Below w.heap.size w w'∧
   ((rde false zs≠0∧e= .returned (.tuple #[.agg zc.toArray,.int .i64 (rde false zs)]))∨
    (rde false zs=0∧∃so sd,e= .returned (.tuple #[pkt zs so sd,.int .i64 0])∧Ow w.heap.size w' so ((zs.take (hl4 zs).toNat).drop 20)∧Ow w.heap.size w' sd ((zs.take (ral false zs).toNat).drop (hl4 zs).toNat))):=by
 obtain⟨a,cap,rfl,hl1,hm1⟩:=hI.slice;have hb1:Below w.heap.size w (w.alloc (.cells zc.toArray 40)):=bA _ _;have p1:=heap_alloc_new w (.cells zc.toArray 40);have H:=zAd (read_any false _ zs (w.alloc (.cells zc.toArray 40)) hB hl ((hI.below hb1).mono (by simp)));go_enter Tryz.func25,Tryz.ntmps25;go_wp2_with fail;refine H.out.mono ?_;rintro e w2 ⟨hb2,⟨h,rfl⟩|⟨h,so,sd,rfl,hO1,hO2⟩⟩
 ·have p2:=(hb2.block w.heap.size (by simp)).trans p1
  have P2:=zAa p2;have F2:=zAc p2;go_wp2_with fail;generalize hV:World.setCell _ ⟨w.heap.size,8,none⟩ _=V;have hV9:V=zAi w2 w.heap.size 0 zc:=hV.symm;have hb8:But (fun b=>b=w.heap.size) w2 V:=by rw[hV9];exact zAf (E:=fun b=>b=w.heap.size) (n:=w.heap.size) rfl _ _ _ _ (But.refl _ _)
  have p8:=zAe zc p2 rfl;rw[←hV9]at p8;clear hV hV9 P2 F2 H;have P8:=zAa p8;have hbW:=(hb1.trans (hb2.mono (by simp))).trans (hb8.below (by have:=hb2.size;simp at this;omega) (fun j h e=>by omega));exact bodyPost_ret (v:= .tuple #[.agg zc.toArray,.int .i64 (rde false zs)]) (by simp[results,Tryz.results25,go_sem,P8]) rfl ⟨hbW,.inl ⟨h,rfl⟩⟩
 ·have p2:=(hb2.block w.heap.size (by simp)).trans p1
  have P2:=zAa p2;have F2:=zAc p2;obtain⟨aso,cso,rfl,_,_⟩:=hO1.slice;obtain⟨asd,csd,rfl,_,_⟩:=hO2.slice;generalize hL1:((zs.take (hl4 zs).toNat).drop 20).length=lo at*;generalize hL2:((zs.take (ral false zs).toNat).drop (hl4 zs).toNat).length=ld at*;have HL1:=zAd hL1;have HL2:=zAd hL2;clear hL1 hL2;unfold pkt;go_wp2_with fail;generalize hV:World.setCell _ ⟨w.heap.size,8,none⟩ _=V;have hV9:V=zAi w2 w.heap.size 0 [.int .u8 (zs[1]?.getD 0),.int .u16 (wat zs 4),.bool (decide (16384≤wat zs 6 % 32768)),.int .u8 (zs[8]?.getD 0),.int .u8 (zs[9]?.getD 0),.int .u32 (zAs zs 12),.int .u32 (zAs zs 16),.slice aso lo cso,.slice asd ld csd]:=hV.symm;have hb8:But (fun b=>b=w.heap.size) w2 V:=by rw[hV9];exact zAf (E:=fun b=>b=w.heap.size) (n:=w.heap.size) rfl _ _ _ _ (But.refl _ _)
  have p8:=zAe [.int .u8 (zs[1]?.getD 0),.int .u16 (wat zs 4),.bool (decide (16384≤wat zs 6 % 32768)),.int .u8 (zs[8]?.getD 0),.int .u8 (zs[9]?.getD 0),.int .u32 (zAs zs 12),.int .u32 (zAs zs 16),.slice aso lo cso,.slice asd ld csd] p2 rfl;rw[←hV9]at p8;clear hV hV9 P2 F2 H;have P8:=zAa p8;have hbW:=(hb1.trans (hb2.mono (by simp))).trans (hb8.below (by have:=hb2.size;simp at this;omega) (fun j h e=>by omega));exact bodyPost_ret (v:= .tuple #[pkt zs (.slice aso lo cso) (.slice asd ld csd),.int .i64 0]) (by simp[results,Tryz.results25,go_sem,P8,pkt]) rfl ⟨hbW,.inr ⟨h,_,_,rfl,(hO1.but hb8 (fun b h e=>by simp at h;omega)).mono (by simp),(hO2.but hb8 (fun b h e=>by simp at h;omega)).mono (by simp)⟩⟩
section
variable (tos id:Int) (keep:Bool) (ttl proto src dst:Int) (zo zd:List Int) (all:Int)
theorem hdr_0:(hdr tos id keep ttl proto src dst zo all++zd)[0]?.getD 0=64+(20+(zo.length:Int))/4:=by
 rw[zCr];unfold h20;simp
theorem hdr_1:(hdr tos id keep ttl proto src dst zo all++zd)[1]?.getD 0=tos:=by
 rw[zCr];unfold h20;simp
theorem hdr_8:(hdr tos id keep ttl proto src dst zo all++zd)[8]?.getD 0=ttl:=by
 rw[zCr];unfold h20;simp
theorem hdr_9:(hdr tos id keep ttl proto src dst zo all++zd)[9]?.getD 0=proto:=by
 rw[zCr];unfold h20;simp
theorem zTq(h1:zo.length≤40)(h2:zo.length % 4=0):hl4 (hdr tos id keep ttl proto src dst zo all++zd)=((20+zo.length:Nat):Int):=by
 unfold hl4;rw[hdr_0];omega
theorem zPg:(hdr tos id keep ttl proto src dst zo all++zd).take (20+zo.length)=hdr tos id keep ttl proto src dst zo all:=by
 rw[←zIs tos id keep ttl proto src dst zo all,List.take_left]
theorem hdr_opts:(hdr tos id keep ttl proto src dst zo all).drop 20=zo:=by
 rw[zCr,←zDr tos id keep ttl proto src dst zo.length all (hsum tos id keep ttl proto src dst zo all),List.drop_left]
theorem hdr_drop:(hdr tos id keep ttl proto src dst zo all++zd).drop (20+zo.length)=zd:=by
 rw[←zIs tos id keep ttl proto src dst zo all,List.drop_left]
theorem zTr(more:List Int):((hdr tos id keep ttl proto src dst zo all++(zd++more)).take (20+zo.length+zd.length)).drop (20+zo.length)=zd:=by
 rw[List.drop_take,hdr_drop,show 20+zo.length+zd.length-(20+zo.length)=zd.length from by omega,List.take_left]
end
theorem zTs(tos id:Int)(keep:Bool)(ttl proto src dst:Int)(zo zd more:List Int)(h1:zo.length≤40)(h2:zo.length % 4=0)(hall:20+zo.length+zd.length≤65535)
  (hB:Mt.By (h20 tos id keep ttl proto src dst zo.length (20+zo.length+zd.length) 0++zo)):
  rde false (hdr tos id keep ttl proto src dst zo (20+zo.length+zd.length)++(zd++more))=0:=by
 have hlen:(hdr tos id keep ttl proto src dst zo (20+zo.length+zd.length)++(zd++more)).length=20+zo.length+(zd.length+more.length):=by rw[List.length_append,zIs,List.length_append]
 have e0:=hdr_0 tos id keep ttl proto src dst zo (zd++more) (20+zo.length+zd.length);have e2:=zOu tos id keep ttl proto src dst zo (zd++more) (20+zo.length+zd.length);have e3:=zTq tos id keep ttl proto src dst zo (zd++more) (20+zo.length+zd.length) h1 h2;have e6:=zOv tos id keep ttl proto src dst zo (zd++more) (20+zo.length+zd.length);have et:=zPg tos id keep ttl proto src dst zo (zd++more) (20+zo.length+zd.length);have eg:=hdr_good tos id keep ttl proto src dst zo (20+zo.length+zd.length) hB;rw[←et]at eg;generalize hdr tos id keep ttl proto src dst zo (20+zo.length+zd.length)++(zd++more)=bb at*;have hm0:msr bb=0:=by unfold msr;rw[hlen,e0,e3,e2,if_neg (by omega),if_neg (by omega),if_neg (by omega),if_neg (by omega),if_neg (by omega)]
 have hr:ral false bb=20+zo.length+zd.length:=by simp[ral,e2]
 have hc:chk bb=0:=by unfold chk;rw[e3,e6,Int.toNat_natCast,if_neg (by simp[eg]),if_neg (by cases keep<;>simp),if_neg (by cases keep<;>simp)]
 unfold rde;rw[hm0,hr,hlen,hc,if_neg (by simp),if_neg (by omega),if_neg (by simp),if_neg (by simp)]
theorem zEl {P:Program} {t kt et:TypeId} (ht:P.underlying t=some (.map kt et))(hk:P.underlying kt=some (.int .i64)) {w:World} {b:Nat} {es:Array MapEntry} {c:Nat} (hb:w.heap[b]? =some (.map es c))(z:Int)(v:Value)(hf:Instr.findNow (.int .i64) (.int .i64 z) es.toList 0=some none):
  ∃w',(Instr.mapUpdate t (.map (some b)) (.int .i64 z) v).run P w= .ok () w'∧w'.heap[b]? =some (.map (es.push ⟨.int .i64 z,v,c⟩) (c+1))∧∀n,n≤b→Below n w w':=by
 have hc:(Instr.checkKey false 10000 kt (.int .i64 z)).run P w= .ok () w:=MapKept.run_checkKey (k:= .int .i64 z) hk (by simp[MapKept.IsKey]) false 9999;have hlt:=(eS hb);refine⟨{ w with heap:=w.heap.setIfInBounds b (.map (es.push ⟨.int .i64 z,v,c⟩) (c+1)) },?_,?_,fun n hn=>⟨rfl,rfl,rfl,by simp,fun i hi=> ?_⟩⟩
 ·simp[Instr.mapUpdate,run_underlying ht,MapKept.run_getObj_map hb,hc,MapKept.run_findKey hk hf,MapKept.run_setObj_map _ hb,Result.andThen]
 ·simp[hlt]
 ·rw[Array.getElem?_setIfInBounds_ne (by omega)]
def rv (l:List Int):Value:= .agg (l.map (.int .i64)).toArray
def tabE:Array MapEntry:=#[⟨.int .i64 0,rv [0,0,1,0,0,0,0],0⟩,⟨.int .i64 1,rv [0,7,1,2,0,0,0],1⟩,⟨.int .i64 2,rv [0,7,2,2,2,4,3],2⟩,⟨.int .i64 3,rv [0,7,0,0,0,4,3],3⟩,⟨.int .i64 4,rv [0,7,0,0,0,5,4],4⟩,⟨.int .i64 5,rv [0,7,0,0,0,5,6],5⟩,⟨.int .i64 6,rv [0,7,1,0,0,6,6],6⟩,⟨.int .i64 7,rv [0,7,1,0,0,0,0],7⟩]
set_option maxHeartbeats 2000000 in
theorem zMu(w:World):Calls Tryz.prog 293 #[] w fun e w'=>∃b,e= .returned (.map (some b))∧Below w.heap.size w w'∧w'.heap[b]? =some (.map tabE 8):=by
 have hmm:= @run_makeMap Tryz.prog;have hb0:Below w.heap.size w (w.alloc (.map #[] 0)):=bA _ _;have hM0:=heap_alloc_new w (.map #[] 0);obtain⟨w1,r1,m1,l1⟩:=zEl (P:=Tryz.prog) Tryz.underlying426 Tryz.underlying104 hM0 0 (.agg #[.int .i64 0,.int .i64 0,.int .i64 1,.int .i64 0,.int .i64 0,.int .i64 0,.int .i64 0]) (by kernel_rfl);obtain⟨w2,r2,m2,l2⟩:=zEl (P:=Tryz.prog) Tryz.underlying426 Tryz.underlying104 m1 1 (.agg #[.int .i64 0,.int .i64 7,.int .i64 1,.int .i64 2,.int .i64 0,.int .i64 0,.int .i64 0]) (by kernel_rfl);obtain⟨w3,r3,m3,l3⟩:=zEl (P:=Tryz.prog) Tryz.underlying426 Tryz.underlying104 m2 2 (.agg #[.int .i64 0,.int .i64 7,.int .i64 2,.int .i64 2,.int .i64 2,.int .i64 4,.int .i64 3]) (by kernel_rfl);obtain⟨w4,r4,m4,l4⟩:=zEl (P:=Tryz.prog) Tryz.underlying426 Tryz.underlying104 m3 3 (.agg #[.int .i64 0,.int .i64 7,.int .i64 0,.int .i64 0,.int .i64 0,.int .i64 4,.int .i64 3]) (by kernel_rfl);obtain⟨w5,r5,m5,l5⟩:=zEl (P:=Tryz.prog) Tryz.underlying426 Tryz.underlying104 m4 4 (.agg #[.int .i64 0,.int .i64 7,.int .i64 0,.int .i64 0,.int .i64 0,.int .i64 5,.int .i64 4]) (by kernel_rfl);obtain⟨w6,r6,m6,l6⟩:=zEl (P:=Tryz.prog) Tryz.underlying426 Tryz.underlying104 m5 5 (.agg #[.int .i64 0,.int .i64 7,.int .i64 0,.int .i64 0,.int .i64 0,.int .i64 5,.int .i64 6]) (by kernel_rfl)
 obtain⟨w7,r7,m7,l7⟩:=zEl (P:=Tryz.prog) Tryz.underlying426 Tryz.underlying104 m6 6 (.agg #[.int .i64 0,.int .i64 7,.int .i64 1,.int .i64 0,.int .i64 0,.int .i64 6,.int .i64 6]) (by kernel_rfl);obtain⟨w8,r8,m8,l8⟩:=zEl (P:=Tryz.prog) Tryz.underlying426 Tryz.underlying104 m7 7 (.agg #[.int .i64 0,.int .i64 7,.int .i64 1,.int .i64 0,.int .i64 0,.int .i64 0,.int .i64 0]) (by kernel_rfl);have hb8:Below w.heap.size w w8:=((((((((hb0).trans (l1 _ (Nat.le_refl _))).trans (l2 _ (Nat.le_refl _))).trans (l3 _ (Nat.le_refl _))).trans (l4 _ (Nat.le_refl _))).trans (l5 _ (Nat.le_refl _))).trans (l6 _ (Nat.le_refl _))).trans (l7 _ (Nat.le_refl _))).trans (l8 _ (Nat.le_refl _));clear m1 m2 m3 m4 m5 m6 m7 l1 l2 l3 l4 l5 l6 l7 l8 hM0 hb0;have M8:=zAd m8;clear m8;go_enter Tryz.func293,Tryz.ntmps293;go_wp2_with fail;go_ret
 exact⟨_,rfl,hb8,M8.out⟩
theorem zPh {P:Program} {t kt et:TypeId} (ht:P.underlying t=some (.map kt et))(hk:P.underlying kt=some (.int .i64)) {w:World} {b:Nat} {es:Array MapEntry} {c:Nat} (hb:w.heap[b]? =some (.map es c))(z:Int)(v:Value)
  (hf:((∃j,Instr.findNow (.int .i64) (.int .i64 z) es.toList 0=some (some (j,v)))∨(Instr.findNow (.int .i64) (.int .i64 z) es.toList 0=some none∧(zeroValue et).run P w= .ok v w))):(Instr.lookup t (.map (some b)) (.int .i64 z) false).run P w= .ok v w:=by
 have hc:(Instr.checkKey es.isEmpty 10000 kt (.int .i64 z)).run P w= .ok () w:=MapKept.run_checkKey (k:= .int .i64 z) hk (by simp[MapKept.IsKey]) _ 9999;rcases hf with⟨j,hf⟩|⟨hf,hz⟩
 ·simp[Instr.lookup,run_underlying ht,MapKept.run_getObj_map hb,hc,MapKept.run_findKey hk hf,Result.andThen]
 ·simp[Instr.lookup,run_underlying ht,MapKept.run_getObj_map hb,hc,MapKept.run_findKey hk hf,hz,Result.andThen]
def row7 (s:Int):List Int:=if s=0 then [0,0,1,0,0,0,0]else if s=1 then [0,7,1,2,0,0,0]else if s=2 then [0,7,2,2,2,4,3]else if s=3 then [0,7,0,0,0,4,3]else if s=4 then [0,7,0,0,0,5,4]else if s=5 then [0,7,0,0,0,5,6]else if s=6 then [0,7,1,0,0,6,6]else if s=7 then [0,7,1,0,0,0,0]else [0,0,0,0,0,0,0]
theorem zero7(w:World):(zeroValue 425).run Tryz.prog w= .ok (rv [0,0,0,0,0,0,0]) w:=by kernel_rfl
theorem look7 {w:World} {b:Nat} (hb:w.heap[b]? =some (.map tabE 8))(s:Int):(Instr.lookup 426 (.map (some b)) (.int .i64 s) false).run Tryz.prog w= .ok (rv (row7 s)) w:=by
 refine zPh Tryz.underlying426 Tryz.underlying104 hb s _ ?_;by_cases h0:s=0
 ·subst h0;exact .inl ⟨0,by kernel_rfl⟩
 by_cases h1:s=1
 ·subst h1;exact .inl ⟨1,by kernel_rfl⟩
 by_cases h2:s=2
 ·subst h2;exact .inl ⟨2,by kernel_rfl⟩
 by_cases h3:s=3
 ·subst h3;exact .inl ⟨3,by kernel_rfl⟩
 by_cases h4:s=4
 ·subst h4;exact .inl ⟨4,by kernel_rfl⟩
 by_cases h5:s=5
 ·subst h5;exact .inl ⟨5,by kernel_rfl⟩
 by_cases h6:s=6
 ·subst h6;exact .inl ⟨6,by kernel_rfl⟩
 by_cases h7:s=7
 ·subst h7;exact .inl ⟨7,by kernel_rfl⟩
 refine .inr ⟨?_,?_⟩
 ·simp only[tabE,Instr.findNow,Instr.sameNow,if_true,(show(s==0)=false from by simp[h0]),(show(s==1)=false from by simp[h1]),(show(s==2)=false from by simp[h2]),(show(s==3)=false from by simp[h3]),(show(s==4)=false from by simp[h4]),(show(s==5)=false from by simp[h5]),(show(s==6)=false from by simp[h6]),(show(s==7)=false from by simp[h7])]
 ·rw[zero7];simp[row7,h0,h1,h2,h3,h4,h5,h6,h7]
def fb (fl k:Int):Int:=bits .and .u8 fl k
def bgn (fl:Int):Bool:=bits .and .u8 fl 23==2
theorem zE9(fl:Int)(w:World):Calls Tryz.prog 236 #[.int .u8 fl] w fun e w'=>e= .returned (.bool (bgn fl))∧w'=w:=by
 go_enter Tryz.func236,Tryz.ntmps236;go_wp2_with fail;go_ret
 exact⟨rfl,rfl⟩
def nwsS (b:Bool) (fl:Int):Int:=if b then 3 else if bgn fl then 2 else 4
theorem zI3(b:Bool)(fl:Int)(w:World):Calls Tryz.prog 321 #[.bool b,.int .u8 fl] w fun e w'=>e= .returned (.int .i64 (nwsS b fl))∧w'=w:=by
 cases b
 ·go_enter Tryz.func321,Tryz.ntmps321
  go_wp2_with fail;refine(zE9 fl _).mono ?_;rintro e w1 ⟨rfl,rfl⟩;rcases Bool.eq_false_or_eq_true (bgn fl)with h|h
  ·rw[h];go_wp2_with fail;go_ret;exact⟨by simp[nwsS,h],rfl⟩
  ·rw[h];go_wp2_with fail;go_ret;exact⟨by simp[nwsS,h],rfl⟩
 ·go_enter Tryz.func321,Tryz.ntmps321
  go_wp2_with fail;go_ret
  exact⟨rfl,rfl⟩
def nws (b:Bool) (fl:Int):Int:=if(fb fl 4 !=0)then 1 else if(fb fl 2 !=0)then nwsS b fl else if(fb fl 1 !=0)then 5 else if(fb fl 16 !=0)then 6 else 0
theorem nws_bd(b:Bool)(fl:Int):nws b fl=0∨nws b fl=1∨nws b fl=2∨nws b fl=3∨nws b fl=4∨nws b fl=5∨nws b fl=6:=by
 unfold nws nwsS;repeat' split
 all_goals simp
theorem zQ7(b:Bool)(fl:Int)(w:World):Calls Tryz.prog 294 #[.bool b,.int .u8 fl] w fun e w'=>e= .returned (.int .i64 (nws b fl))∧w'=w:=by
 unfold nws fb;rcases Bool.eq_false_or_eq_true (bits .and .u8 fl 4 !=0)with h4|h4
 ·rw[h4]
  go_enter Tryz.func294,Tryz.ntmps294;go_wp2_with fail;go_ret
  exact⟨rfl,rfl⟩
 rcases Bool.eq_false_or_eq_true (bits .and .u8 fl 2 !=0)with h2|h2
 ·rw[h4,h2]
  go_enter Tryz.func294,Tryz.ntmps294;go_wp2_with fail;refine(zI3 b fl _).mono ?_;rintro e w1 ⟨rfl,rfl⟩;go_wp2_with fail;go_ret
  exact⟨rfl,rfl⟩
 rcases Bool.eq_false_or_eq_true (bits .and .u8 fl 1 !=0)with h1|h1
 ·rw[h4,h2,h1]
  go_enter Tryz.func294,Tryz.ntmps294;go_wp2_with fail;go_ret
  exact⟨rfl,rfl⟩
 rcases Bool.eq_false_or_eq_true (bits .and .u8 fl 16 !=0)with h16|h16
 ·rw[h4,h2,h1,h16]
  go_enter Tryz.func294,Tryz.ntmps294;go_wp2_with fail;go_ret
  exact⟨rfl,rfl⟩
 ·rw[h4,h2,h1,h16]
  go_enter Tryz.func294,Tryz.ntmps294;go_wp2_with fail;go_ret
  exact⟨rfl,rfl⟩
def nx (s:Int) (b:Bool) (fl:Int):Int:=if(fb fl 7==3)then 0 else(row7 s)[(nws b fl).toNat]?.getD 0
theorem zMv(s:Int):(row7 s).length=7:=by unfold row7;repeat' (first|rfl|split)
theorem row7_eq(s:Int):∃a0 a1 a2 a3 a4 a5 a6,row7 s=[a0,a1,a2,a3,a4,a5,a6]:=by
 have:=zMv s;match row7 s,this with
 | [a0,a1,a2,a3,a4,a5,a6],_=>exact⟨_,_,_,_,_,_,_,rfl⟩
set_option maxHeartbeats 4000000 in
theorem next_any(s:Int)(b:Bool)(fl:Int)(w:World):Calls Tryz.prog 243 #[.int .i64 s,.bool b,.int .u8 fl] w fun e w'=>e= .returned (.tuple #[.int .i64 (nx s b fl),.bool (nx s b fl !=0)])∧Below w.heap.size w w':=by
 unfold nx fb;rcases Bool.eq_false_or_eq_true (bits .and .u8 fl 7==3)with h7|h7
 ·rw[h7]
  go_enter Tryz.func243,Tryz.ntmps243;go_wp2_with fail;exact bodyPost_ret (v:= .tuple #[.int .i64 0,.bool false]) (by simp[results,Tryz.results243,go_sem]) rfl ⟨rfl,Below.refl _ _⟩
 ·rw[h7]
  obtain⟨a0,a1,a2,a3,a4,a5,a6,hrow⟩:=row7_eq s;have hL:∀(W:World) (b:Nat),W.heap[b]? =some (.map tabE 8)→(Instr.lookup 426 (.map (some b)) (.int .i64 s) false).run Tryz.prog W= .ok (.agg #[.int .i64 a0,.int .i64 a1,.int .i64 a2,.int .i64 a3,.int .i64 a4,.int .i64 a5,.int .i64 a6]) W:=fun W b hb=>by rw[look7 hb s,hrow];rfl
  go_enter Tryz.func243,Tryz.ntmps243;go_upto_region 3 with fail;go_cut [8] (fun v wx=>v= .int .i64 ((row7 s)[(nws b fl).toNat]?.getD 0)∧Below w.heap.size w wx)
  case first=>
   refine zAn (R:=Later) Later.pre Later.drew 8 rfl (by kernel_rfl) (fun W1 hW1=> ?_);refine rX Later.pre 1 ?_;refine rX Later.pre 3 ?_;refine rX Later.pre 4 ?_;refine rO 0 (fun W2 hW2=> ?_);refine zAj 293 #[] (by go_simp) ?_;refine(zMu W2).mono ?_;rintro e W3 ⟨m,rfl,hb3,hM3⟩;refine⟨hb3,?_⟩;simp only[Act.put,sA,sB,sC];refine rV Later.pre 2 rfl rfl ?_;refine⟨.agg #[.int .i64 a0,.int .i64 a1,.int .i64 a2,.int .i64 a3,.int .i64 a4,.int .i64 a5,.int .i64 a6],fun w1 hw1=> ?_,?_⟩
   ·have:=hL w1 m ((hw1.block m (eS hM3)).trans hM3)
    go_simp
   simp only[Act.put,sA,sB,sC];refine rO 5 (fun W4 hW4=> ?_);refine zAj 294 #[.bool b,.int .u8 fl] (by go_simp) ?_;refine(zQ7 b fl W4).mono ?_;rintro e W5 ⟨rfl,rfl⟩;refine⟨Later.refl _,?_⟩;simp only[Act.put,sA,sB,sC];have hbel:∀W6,Later W5 W6→Below w.heap.size w W6:=fun W6 h=>(((hW1.trans hW2).trans hb3).trans hW4).trans h;clear hL;rcases nws_bd b fl with h|h|h|h|h|h|h<;>
   ·rw[h]
    refine rX Later.pre 6 ?_;refine rX Later.pre 7 ?_;refine rD (fun W6 hW6=> ?_);have hB6:=hbel W6 hW6;clear hbel;go_wp2_with fail;go_meet
    rw[hrow,h];refine⟨?_,hB6⟩;first|rfl|kernel_rfl
  case rest=>
   obtain⟨rfl,hbx⟩:=hcut;clear hL hrow;generalize hr:(row7 s)[(nws b fl).toNat]?.getD 0=r;have HR:=zAd hr;clear hr;go_wp2_with fail;exact bodyPost_ret (v:= .tuple #[.int .i64 r,.bool (r !=0)]) (by simp[results,Tryz.results243,go_sem]) rfl ⟨by rw[HR.out],hbx⟩
structure Gs where
 lo:Int
 hi:Int
 now:Int
 ls:List Ru
 gr:Nat
 gf:Nat
 gt:Nat
 gb:Nat
 gp:Nat
 vr:Value
 ve:Value
 cf:Nat
 cp:Nat
def gtc (s:Gs):List Value:=[.int .u16 s.lo,.int .u16 s.hi,.int .i64 s.now,.int .i64 0,.pointer (some ⟨s.gr,0,none⟩),.map (some s.gf),.pointer (some ⟨s.gt,0,none⟩),.pointer (some ⟨s.gb,0,none⟩),.map (some s.gp)]
structure GI (base:Nat) (W:World) (g:Nat) (s:Gs):Prop where
 bs:base≤g
 gc:W.heap[g]? =some (.cells (gtc s).toArray 91 (0,0))
 rl:RL 285 base W s.gr s.vr s.ls
 tb:TB base W s.gt 128 0 0 (fun _=>[])
 bl:BL 174 base W s.gb s.ve []
 fl:W.heap[s.gf]? =some (.map #[] s.cf)
 pl:W.heap[s.gp]? =some (.map #[] s.cp)
theorem TB.laterD {base:Nat} {A B:World} {b:Nat} {lim cnt trn:Int} {ls:Nat→List Rw} (h:TB base A b lim cnt trn ls)(l:Later A B):TB base B b lim cnt trn ls:=let⟨vs,h⟩:=h;⟨vs,h.later l⟩
theorem GI.later {base:Nat} {A B:World} {g:Nat} {s:Gs} (h:GI base A g s)(l:Later A B):GI base B g s:=
 ⟨h.bs,zAb l h.gc,h.rl.later l,h.tb.laterD l,h.bl.later l,zAb l h.fl,zAb l h.pl⟩
def calmQ (Q:Act→World→Prop):Exit→Act→World→Prop:=fun e a w=>e= .normal∧Q a w
variable {P:Program} {R:World→World→Prop} {w:World} {a:Act} {ops:List Oper}
theorem zI4 {R1 R2:World→World→Prop} {D:List Nat} {fuel:Nat} {listed:Array Bool} {Q:Exit→Act→World→Prop} (i j:Nat) {oi oj:Oper} (hi:zBp ops i=some oi)(hj:zBp ops j=some oj)(hr:Region.ready .any ops.toArray listed=[i,j])(gi:Region.wanted oi (yielded ops.toArray a.tmps)=true)(gj:Region.wanted oj (yielded ops.toArray a.tmps)=true)
  (h1:oi.wp P a w (fun a' w''=>Rj R1 R2 D i w w''∧zA8 P .any ops.toArray Q R1 R2 D fuel (listed.setIfInBounds i true) a' w'') Q)
  (h2:oj.wp P a w (fun a' w''=>Rj R1 R2 D j w w''∧zA8 P .any ops.toArray Q R1 R2 D fuel (listed.setIfInBounds j true) a' w'') Q):
  zA8 P .any ops.toArray Q R1 R2 D (fuel+1) listed a w:=by
 have hi':ops.toArray[i]? =some oi:=by rw[←hi,zA6];simp
 have hj':ops.toArray[j]? =some oj:=by rw[←hj,zA6];simp
 refine⟨fun h0=>(by rw[hr]at h0;cases h0),fun k hk=> ?_⟩;rw[hr]at hk;unfold wpOp;rcases List.mem_cons.1 hk with rfl|hk
 ·rw[hi'];simp only[gi,if_true];exact .inl h1
 ·obtain rfl:k=j:=by simpa using hk
  rw[hj'];simp only[gj,if_true];exact .inl h2
end Go.Proofs.YteaeilghamjjkaaGreatDoor
namespace Go.Proofs.YteaeilghamjjkaaGreatDoor
open Go.RowKit Go.Shelf
set_option maxRecDepth 100000
set_option linter.unusedVariables false
set_option linter.unusedSimpArgs false
theorem zEo {P:Program} {c:Code} {Q:Exit→Act→World→Prop} {a:Act} {w:World} (h:c.wp P (calmQ (Q .normal)) a w):c.wp P Q a w:=wp_mono h (fun e a w h=>by obtain⟨rfl,h⟩:=h;exact h)
theorem zTt(base gr:Nat)(vr:Value)(ls:List Ru)(p d b:Int)(W:World)(h:RL 285 base W gr vr ls)(hn:∀y∈ls,y.kind≠2):
  Calls Tryz.prog 288 #[.pointer (some ⟨gr,0,none⟩),.int .u8 p,.int .u32 d,.int .u16 b] W fun e w'=>e= .returned (.tuple #[.agg #[.int .i64 0,.int .u8 0,.int .u32 0,.int .i64 0,.int .u32 0,.int .u16 0,.int .u32 0,.int .u16 0],.bool false])∧Later W w':=by
 have hf:=fnd_no (p:=dnB p d b) (l:=ls) (fun y hy=>by unfold dnB;simp[hn y hy]);have:=dnat_any base (some ⟨gr,0,none⟩) ls p d b W (.inr ⟨gr,vr,rfl,h⟩);rw[hf.1,hf.2]at this;exact this
end Go.Proofs.YteaeilghamjjkaaGreatDoor
