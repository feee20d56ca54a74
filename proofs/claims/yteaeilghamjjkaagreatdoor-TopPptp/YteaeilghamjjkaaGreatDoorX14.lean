import Derived.Test.YteaeilghamjjkaaGreatDoorX15
import Derived.Laws.Cover3
import Derived.MapKept
namespace Go.Proofs.YteaeilghamjjkaaGreatDoor
set_option maxHeartbeats 2000000
open Go.RowKit Go.Shelf
set_option maxRecDepth 100000
set_option linter.unusedVariables false
set_option linter.unusedSimpArgs false
def ofe (proto src dst:Int) (zd:List Int):Int:=if proto=6 then pte 6 src dst zd else if proto=17 then pue 17 src dst zd else if proto=1 then oie zd else if proto=47 then pge 47 zd else 12
def ofa (proto:Int) (zd:List Int):Int:=if proto=6 then wat zd 0 else if proto=17 then wat zd 0 else if proto=1 then wat zd 4 else 0
def ofb (proto:Int) (zd:List Int):Int:=if proto=6 then wat zd 2 else if proto=17 then wat zd 2 else if proto=1 then wat zd 4 else zAl zd 6
theorem zP8(tos id ttl proto src dst:Int)(keep:Bool)(so sd:Value)(zd:List Int)(w:World)(hT:Tb w)(hB:Mt.By zd)(hI:Rd w.heap.size w sd zd)(hl:12+zd.length≤140737488355328)(hsr:0≤src∧src≤4294967295)(hds:0≤dst∧dst≤4294967295)(hp:proto=6∨proto=47):
  Calls Tryz.prog 112 #[.agg #[.int .u8 tos,.int .u16 id,.bool keep,.int .u8 ttl,.int .u8 proto,.int .u32 src,.int .u32 dst,so,sd]] w fun e w'=>Below w.heap.size w w'∧e= .returned (.tuple #[otv (ofe proto src dst zd) proto src dst (ofa proto zd) (ofb proto zd),.int .i64 (ofe proto src dst zd)]):=by
 obtain⟨ad,cd,rfl,_,_⟩:=hI.slice;rcases hp with rfl|rfl
 ·exact of_gen 6 (wat zd 0) (wat zd 2) (pte 6 src dst zd) _ _ tos id ttl src dst keep so ad zd.length cd w (fun _ _ h=>look_tcp h) cf_tcp (fun w' hb=>zP6 tos id ttl 6 src dst keep so _ zd w' hB ((hI.below hb).mono hb.size) hl hsr hds)
 ·exact of_gen 47 0 (zAl zd 6) (pge 47 zd) _ _ tos id ttl src dst keep so ad zd.length cd w (fun _ _ h=>look_gre h) cf_gre (fun w' hb=>zP7 tos id ttl 47 src dst keep so _ zd w' (hT.below hb hT.pos) hB ((hI.below hb).mono hb.size) hl hsr hds)
theorem zFh(sv:Value)(zs:List Int)(w:World)(hB:Mt.By zs)(hl:zs.length≤225000000000000)(hI:Rd w.heap.size w sv zs):
  Calls Tryz.prog 25 #[sv] w fun e w'=>Below w.heap.size w w'∧
   ((rde false zs≠0∧e= .returned (.tuple #[.agg zc.toArray,.int .i64 (rde false zs)]))∨
    (rde false zs=0∧∃so sd,e= .returned (.tuple #[pkt zs so sd,.int .i64 0])∧Ow w.heap.size w' so ((zs.take (hl4 zs).toNat).drop 20)∧Ow w.heap.size w' sd ((zs.take (ral false zs).toNat).drop (hl4 zs).toNat))):=by
 obtain⟨a,cap,rfl,hl1,hm1⟩:=hI.slice;have hb1:Below w.heap.size w (w.alloc (.cells zc.toArray 40)):=bA _ _;have p1:=heap_alloc_new w (.cells zc.toArray 40);have H:=zAc (read_any false _ zs (w.alloc (.cells zc.toArray 40)) hB hl ((hI.below hb1).mono (by simp)));go_enter Tryz.func25,Tryz.ntmps25;go_wp2_with fail;refine H.out.mono ?_;rintro e w2 ⟨hb2,⟨h,rfl⟩|⟨h,so,sd,rfl,hO1,hO2⟩⟩
 ·have p2:=(hb2.block w.heap.size (by simp)).trans p1
  have P2:=zAa p2;have F2:=zAd p2;go_wp2_with fail;generalize hV:World.setCell _ ⟨w.heap.size,8,none⟩ _=V;have hV9:V=zAj w2 w.heap.size 0 zc:=hV.symm;have hb8:But (fun b=>b=w.heap.size) w2 V:=by rw[hV9];exact zAf (E:=fun b=>b=w.heap.size) (n:=w.heap.size) rfl _ _ _ _ (But.refl _ _)
  have p8:=zAg zc p2 rfl;rw[←hV9]at p8;clear hV hV9 P2 F2 H;have P8:=zAa p8;have hbW:=(hb1.trans (hb2.mono (by simp))).trans (hb8.below (by have:=hb2.size;simp at this;omega) (fun j h e=>by omega));exact bodyPost_ret (v:= .tuple #[.agg zc.toArray,.int .i64 (rde false zs)]) (by simp[results,Tryz.results25,go_sem,P8]) rfl ⟨hbW,.inl ⟨h,rfl⟩⟩
 ·have p2:=(hb2.block w.heap.size (by simp)).trans p1
  have P2:=zAa p2;have F2:=zAd p2;obtain⟨aso,cso,rfl,_,_⟩:=hO1.slice;obtain⟨asd,csd,rfl,_,_⟩:=hO2.slice;generalize hL1:((zs.take (hl4 zs).toNat).drop 20).length=lo at*;generalize hL2:((zs.take (ral false zs).toNat).drop (hl4 zs).toNat).length=ld at*;have HL1:=zAc hL1;have HL2:=zAc hL2;clear hL1 hL2;unfold pkt;go_wp2_with fail;generalize hV:World.setCell _ ⟨w.heap.size,8,none⟩ _=V;have hV9:V=zAj w2 w.heap.size 0 [.int .u8 (zs[1]?.getD 0),.int .u16 (wat zs 4),.bool (decide (16384≤wat zs 6 % 32768)),.int .u8 (zs[8]?.getD 0),.int .u8 (zs[9]?.getD 0),.int .u32 (zAx zs 12),.int .u32 (zAx zs 16),.slice aso lo cso,.slice asd ld csd]:=hV.symm;have hb8:But (fun b=>b=w.heap.size) w2 V:=by rw[hV9];exact zAf (E:=fun b=>b=w.heap.size) (n:=w.heap.size) rfl _ _ _ _ (But.refl _ _)
  have p8:=zAg [.int .u8 (zs[1]?.getD 0),.int .u16 (wat zs 4),.bool (decide (16384≤wat zs 6 % 32768)),.int .u8 (zs[8]?.getD 0),.int .u8 (zs[9]?.getD 0),.int .u32 (zAx zs 12),.int .u32 (zAx zs 16),.slice aso lo cso,.slice asd ld csd] p2 rfl;rw[←hV9]at p8;clear hV hV9 P2 F2 H;have P8:=zAa p8;have hbW:=(hb1.trans (hb2.mono (by simp))).trans (hb8.below (by have:=hb2.size;simp at this;omega) (fun j h e=>by omega));exact bodyPost_ret (v:= .tuple #[pkt zs (.slice aso lo cso) (.slice asd ld csd),.int .i64 0]) (by simp[results,Tryz.results25,go_sem,P8,pkt]) rfl ⟨hbW,.inr ⟨h,_,_,rfl,(hO1.but hb8 (fun b h e=>by simp at h;omega)).mono (by simp),(hO2.but hb8 (fun b h e=>by simp at h;omega)).mono (by simp)⟩⟩
section
variable (tos id:Int) (keep:Bool) (ttl proto src dst:Int) (zo zd:List Int) (all:Int)
theorem hdr_0:(hdr tos id keep ttl proto src dst zo all++zd)[0]?.getD 0=64+(20+(zo.length:Int))/4:=by
 rw[zB9];unfold h20;simp
theorem hdr_1:(hdr tos id keep ttl proto src dst zo all++zd)[1]?.getD 0=tos:=by
 rw[zB9];unfold h20;simp
theorem hdr_8:(hdr tos id keep ttl proto src dst zo all++zd)[8]?.getD 0=ttl:=by
 rw[zB9];unfold h20;simp
theorem hdr_9:(hdr tos id keep ttl proto src dst zo all++zd)[9]?.getD 0=proto:=by
 rw[zB9];unfold h20;simp
theorem zK4(h1:zo.length≤40)(h2:zo.length % 4=0):hl4 (hdr tos id keep ttl proto src dst zo all++zd)=((20+zo.length:Nat):Int):=by
 unfold hl4;rw[hdr_0];omega
theorem zHe:(hdr tos id keep ttl proto src dst zo all++zd).take (20+zo.length)=hdr tos id keep ttl proto src dst zo all:=by
 rw[←zE6 tos id keep ttl proto src dst zo all,List.take_left]
theorem zMv:(hdr tos id keep ttl proto src dst zo all).drop 20=zo:=by
 rw[zB9,←zC1 tos id keep ttl proto src dst zo.length all (hsum tos id keep ttl proto src dst zo all),List.drop_left]
theorem hdr_drop:(hdr tos id keep ttl proto src dst zo all++zd).drop (20+zo.length)=zd:=by
 rw[←zE6 tos id keep ttl proto src dst zo all,List.drop_left]
theorem zIl(more:List Int):((hdr tos id keep ttl proto src dst zo all++(zd++more)).take (20+zo.length+zd.length)).drop (20+zo.length)=zd:=by
 rw[List.drop_take,hdr_drop,show 20+zo.length+zd.length-(20+zo.length)=zd.length from by omega,List.take_left]
end
theorem zIm(tos id:Int)(keep:Bool)(ttl proto src dst:Int)(zo zd more:List Int)(h1:zo.length≤40)(h2:zo.length % 4=0)(hall:20+zo.length+zd.length≤65535)
  (hB:Mt.By (h20 tos id keep ttl proto src dst zo.length (20+zo.length+zd.length) 0++zo)):
  rde false (hdr tos id keep ttl proto src dst zo (20+zo.length+zd.length)++(zd++more))=0:=by
 have hlen:(hdr tos id keep ttl proto src dst zo (20+zo.length+zd.length)++(zd++more)).length=20+zo.length+(zd.length+more.length):=by rw[List.length_append,zE6,List.length_append]
 have e0:=hdr_0 tos id keep ttl proto src dst zo (zd++more) (20+zo.length+zd.length);have e2:=zG3 tos id keep ttl proto src dst zo (zd++more) (20+zo.length+zd.length);have e3:=zK4 tos id keep ttl proto src dst zo (zd++more) (20+zo.length+zd.length) h1 h2;have e6:=zG4 tos id keep ttl proto src dst zo (zd++more) (20+zo.length+zd.length);have et:=zHe tos id keep ttl proto src dst zo (zd++more) (20+zo.length+zd.length);have eg:=hdr_good tos id keep ttl proto src dst zo (20+zo.length+zd.length) hB;rw[←et]at eg;generalize hdr tos id keep ttl proto src dst zo (20+zo.length+zd.length)++(zd++more)=bb at*;have hm0:msr bb=0:=by unfold msr;rw[hlen,e0,e3,e2,if_neg (by omega),if_neg (by omega),if_neg (by omega),if_neg (by omega),if_neg (by omega)]
 have hr:ral false bb=20+zo.length+zd.length:=by simp[ral,e2]
 have hc:chk bb=0:=by unfold chk;rw[e3,e6,Int.toNat_natCast,if_neg (by simp[eg]),if_neg (by cases keep<;>simp),if_neg (by cases keep<;>simp)]
 unfold rde;rw[hm0,hr,hlen,hc,if_neg (by simp),if_neg (by omega),if_neg (by simp),if_neg (by simp)]
theorem run_ins {P:Program} {t kt et:TypeId} (ht:P.underlying t=some (.map kt et))(hk:P.underlying kt=some (.int .i64)) {w:World} {b:Nat} {es:Array MapEntry} {c:Nat} (hb:w.heap[b]? =some (.map es c))(z:Int)(v:Value)(hf:Instr.findNow (.int .i64) (.int .i64 z) es.toList 0=some none):
  ∃w',(Instr.mapUpdate t (.map (some b)) (.int .i64 z) v).run P w= .ok () w'∧w'.heap[b]? =some (.map (es.push ⟨.int .i64 z,v,c⟩) (c+1))∧∀n,n≤b→Below n w w':=by
 have hc:(Instr.checkKey false 10000 kt (.int .i64 z)).run P w= .ok () w:=MapKept.run_checkKey (k:= .int .i64 z) hk (by simp[MapKept.IsKey]) false 9999;have hlt:=(eS hb);refine⟨{ w with heap:=w.heap.setIfInBounds b (.map (es.push ⟨.int .i64 z,v,c⟩) (c+1)) },?_,?_,fun n hn=>⟨rfl,rfl,rfl,by simp,fun i hi=> ?_⟩⟩
 ·simp[Instr.mapUpdate,run_underlying ht,MapKept.run_getObj_map hb,hc,MapKept.run_findKey hk hf,MapKept.run_setObj_map _ hb,Result.andThen]
 ·simp[hlt]
 ·rw[Array.getElem?_setIfInBounds_ne (by omega)]
def rv (l:List Int):Value:= .agg (l.map (.int .i64)).toArray
def tabE:Array MapEntry:=#[⟨.int .i64 0,rv [0,0,1,0,0,0,0],0⟩,⟨.int .i64 1,rv [0,7,1,2,0,0,0],1⟩,⟨.int .i64 2,rv [0,7,2,2,2,4,3],2⟩,⟨.int .i64 3,rv [0,7,0,0,0,4,3],3⟩,⟨.int .i64 4,rv [0,7,0,0,0,5,4],4⟩,⟨.int .i64 5,rv [0,7,0,0,0,5,6],5⟩,⟨.int .i64 6,rv [0,7,1,0,0,6,6],6⟩,⟨.int .i64 7,rv [0,7,1,0,0,0,0],7⟩]
theorem zK5(w:World):Calls Tryz.prog 293 #[] w fun e w'=>∃b,e= .returned (.map (some b))∧Below w.heap.size w w'∧w'.heap[b]? =some (.map tabE 8):=by
 have hmm:= @run_makeMap Tryz.prog;have hb0:Below w.heap.size w (w.alloc (.map #[] 0)):=bA _ _;have hM0:=heap_alloc_new w (.map #[] 0);obtain⟨w1,r1,m1,l1⟩:=run_ins (P:=Tryz.prog) Tryz.underlying426 Tryz.underlying104 hM0 0 (.agg #[.int .i64 0,.int .i64 0,.int .i64 1,.int .i64 0,.int .i64 0,.int .i64 0,.int .i64 0]) (by kernel_rfl);obtain⟨w2,r2,m2,l2⟩:=run_ins (P:=Tryz.prog) Tryz.underlying426 Tryz.underlying104 m1 1 (.agg #[.int .i64 0,.int .i64 7,.int .i64 1,.int .i64 2,.int .i64 0,.int .i64 0,.int .i64 0]) (by kernel_rfl);obtain⟨w3,r3,m3,l3⟩:=run_ins (P:=Tryz.prog) Tryz.underlying426 Tryz.underlying104 m2 2 (.agg #[.int .i64 0,.int .i64 7,.int .i64 2,.int .i64 2,.int .i64 2,.int .i64 4,.int .i64 3]) (by kernel_rfl);obtain⟨w4,r4,m4,l4⟩:=run_ins (P:=Tryz.prog) Tryz.underlying426 Tryz.underlying104 m3 3 (.agg #[.int .i64 0,.int .i64 7,.int .i64 0,.int .i64 0,.int .i64 0,.int .i64 4,.int .i64 3]) (by kernel_rfl);obtain⟨w5,r5,m5,l5⟩:=run_ins (P:=Tryz.prog) Tryz.underlying426 Tryz.underlying104 m4 4 (.agg #[.int .i64 0,.int .i64 7,.int .i64 0,.int .i64 0,.int .i64 0,.int .i64 5,.int .i64 4]) (by kernel_rfl);obtain⟨w6,r6,m6,l6⟩:=run_ins (P:=Tryz.prog) Tryz.underlying426 Tryz.underlying104 m5 5 (.agg #[.int .i64 0,.int .i64 7,.int .i64 0,.int .i64 0,.int .i64 0,.int .i64 5,.int .i64 6]) (by kernel_rfl)
 obtain⟨w7,r7,m7,l7⟩:=run_ins (P:=Tryz.prog) Tryz.underlying426 Tryz.underlying104 m6 6 (.agg #[.int .i64 0,.int .i64 7,.int .i64 1,.int .i64 0,.int .i64 0,.int .i64 6,.int .i64 6]) (by kernel_rfl);obtain⟨w8,r8,m8,l8⟩:=run_ins (P:=Tryz.prog) Tryz.underlying426 Tryz.underlying104 m7 7 (.agg #[.int .i64 0,.int .i64 7,.int .i64 1,.int .i64 0,.int .i64 0,.int .i64 0,.int .i64 0]) (by kernel_rfl);have hb8:Below w.heap.size w w8:=((((((((hb0).trans (l1 _ (Nat.le_refl _))).trans (l2 _ (Nat.le_refl _))).trans (l3 _ (Nat.le_refl _))).trans (l4 _ (Nat.le_refl _))).trans (l5 _ (Nat.le_refl _))).trans (l6 _ (Nat.le_refl _))).trans (l7 _ (Nat.le_refl _))).trans (l8 _ (Nat.le_refl _));clear m1 m2 m3 m4 m5 m6 m7 l1 l2 l3 l4 l5 l6 l7 l8 hM0 hb0;have M8:=zAc m8;clear m8;go_enter Tryz.func293,Tryz.ntmps293;go_wp2_with fail;go_ret
 exact⟨_,rfl,hb8,M8.out⟩
theorem zMw {P:Program} {t kt et:TypeId} (ht:P.underlying t=some (.map kt et))(hk:P.underlying kt=some (.int .i64)) {w:World} {b:Nat} {es:Array MapEntry} {c:Nat} (hb:w.heap[b]? =some (.map es c))(z:Int)(v:Value)
  (hf:((∃j,Instr.findNow (.int .i64) (.int .i64 z) es.toList 0=some (some (j,v)))∨(Instr.findNow (.int .i64) (.int .i64 z) es.toList 0=some none∧(zeroValue et).run P w= .ok v w))):(Instr.lookup t (.map (some b)) (.int .i64 z) false).run P w= .ok v w:=by
 have hc:(Instr.checkKey es.isEmpty 10000 kt (.int .i64 z)).run P w= .ok () w:=MapKept.run_checkKey (k:= .int .i64 z) hk (by simp[MapKept.IsKey]) _ 9999;rcases hf with⟨j,hf⟩|⟨hf,hz⟩
 ·simp[Instr.lookup,run_underlying ht,MapKept.run_getObj_map hb,hc,MapKept.run_findKey hk hf,Result.andThen]
 ·simp[Instr.lookup,run_underlying ht,MapKept.run_getObj_map hb,hc,MapKept.run_findKey hk hf,hz,Result.andThen]
def row7 (s:Int):List Int:=if s=0 then [0,0,1,0,0,0,0]else if s=1 then [0,7,1,2,0,0,0]else if s=2 then [0,7,2,2,2,4,3]else if s=3 then [0,7,0,0,0,4,3]else if s=4 then [0,7,0,0,0,5,4]else if s=5 then [0,7,0,0,0,5,6]else if s=6 then [0,7,1,0,0,6,6]else if s=7 then [0,7,1,0,0,0,0]else [0,0,0,0,0,0,0]
theorem zero7(w:World):(zeroValue 425).run Tryz.prog w= .ok (rv [0,0,0,0,0,0,0]) w:=by kernel_rfl
theorem look7 {w:World} {b:Nat} (hb:w.heap[b]? =some (.map tabE 8))(s:Int):(Instr.lookup 426 (.map (some b)) (.int .i64 s) false).run Tryz.prog w= .ok (rv (row7 s)) w:=by
 refine zMw Tryz.underlying426 Tryz.underlying104 hb s _ ?_;by_cases h0:s=0
 ·subst h0;exact .inl ⟨0,by kernel_rfl⟩
 by_cases h1:s=1
 ·subst h1;exact .inl ⟨1,by kernel_rfl⟩
 by_cases h2:s=2
 ·subst h2;exact .inl ⟨2,by kernel_rfl⟩
 by_cases h3:s=3
 ·subst h3;exact .inl ⟨3,by kernel_rfl⟩
 by_cases h4:s=4
 ·subst h4;exact .inl ⟨4,by kernel_rfl⟩
 by_cases h5:s=5
 ·subst h5;exact .inl ⟨5,by kernel_rfl⟩
 by_cases h6:s=6
 ·subst h6;exact .inl ⟨6,by kernel_rfl⟩
 by_cases h7:s=7
 ·subst h7;exact .inl ⟨7,by kernel_rfl⟩
 refine .inr ⟨?_,?_⟩
 ·simp only[tabE,Instr.findNow,Instr.sameNow,if_true,(show(s==0)=false from by simp[h0]),(show(s==1)=false from by simp[h1]),(show(s==2)=false from by simp[h2]),(show(s==3)=false from by simp[h3]),(show(s==4)=false from by simp[h4]),(show(s==5)=false from by simp[h5]),(show(s==6)=false from by simp[h6]),(show(s==7)=false from by simp[h7])]
 ·rw[zero7];simp[row7,h0,h1,h2,h3,h4,h5,h6,h7]
end Go.Proofs.YteaeilghamjjkaaGreatDoor
