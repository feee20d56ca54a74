import Derived.Test.YteaeilghamjjkaaGreatDoorX13
import Derived.MapKept
import Derived.ChangeKeysEq
import Derived.Laws.Cover3
import Derived.Deep.DeepCutAuto
import Derived.Deep.CutBlock
namespace Go.Proofs.YteaeilghamjjkaaGreatDoor
open Go.RowKit Go.Shelf
set_option maxRecDepth 100000
set_option linter.unusedVariables false
set_option linter.unusedSimpArgs false
def gfS (lo hi:Nat) (s:Gs):Gf:= { lo:=lo,hi:=hi,now:=s.now,bg:=0,ls:=s.ls,gr:=s.gr,gf:=s.gf,gt:=s.gt,gb:=s.gb,gp:=s.gp,vr:=s.vr,ve:=s.ve,ex:=[],cnt:=0,trn:=0,rw:=fun _=>[],fs:=[],ps:=[],fe:=#[],pe:=#[],cf:=s.cf,cp:=s.cp }
theorem GI.toF {base g:Nat} {W:World} {s:Gs} {lo hi:Nat} (h:GI base W g s)(hk:GsK base (lo:Int) (hi:Int) s):GF base W g (gfS lo hi s):=by
 obtain⟨e1,e2,e3,e4,e5,e6⟩:=hk;refine⟨h.bs,?_,h.rl,h.tb,h.bl,h.fl,h.pl,e4,⟨e5,e6⟩,rfl,rfl,(fun f hf=>by cases hf),(fun p hp=>by cases hp)⟩;have q:=h.gc;unfold gtc at q;rw[e1,e2]at q;exact q
structure Rdx (lo hi:Nat) (ls:List Ru) (x d:Int) (a:Nat) (b:Int) (mr:Ru):Prop where
 ok:okL ls
 fd:ls.find? (mqB x)=some mr
 hx:0≤x∧x≤4294967295
 hd:0≤d∧d≤4294967295
 ha:a≤65535
 hb:0≤b∧b≤65535
 tt:0≤mr.tt∧mr.tt≤4294967295
 h1:1≤lo
 h2:lo≤hi
 h3:hi<65536
 s1:(b==5060)=false
 s2:((a:Int)==5060)=false
 ne:¬(x=d∧d=mr.tt)
def oppo (side:Int):Int:=if side=0 then 1 else 0
theorem zM8(side:Int)(hs:side=0∨side=1)(w:World):Calls Tryz.prog 56 #[.int .i64 side] w fun e w'=>e= .returned (.int .i64 (oppo side))∧w'=w:=by
 rcases hs with rfl|rfl
 all_goals
  go_enter Tryz.func56,Tryz.ntmps56;go_wp2_with fail;go_ret
  exact⟨rfl,rfl⟩
def gL:List TypeId:=gTs++[459,462,533,230,457,476,479,509]
structure Kgl (base:Nat) (w w':World):Prop where
 os:w'.os=w.os
 tape:w'.tape=w.tape
 output:w'.output=w.output
 size:w.heap.size≤w'.heap.size
 block:∀(k:Nat) (o:Obj),w.heap[k]? =some o→(k<base∨∃cur t f,o= .cells cur t f∧gL.contains t=false)→w'.heap[k]? =some o
theorem Kgl.of_kg {base:Nat} {w w':World} (h:KG base w w'):Kgl base w w':=⟨h.os,h.tape,h.output,h.size,fun k o h1 h2=>h.block k o h1 (h2.imp id (fun⟨cur,t,f,e,ht⟩=>by
 subst e;show ¬(gTs.contains t=true)
 intro hc
 have:gL.contains t=true:=by
  unfold gL;rw[List.contains_iff_mem]at hc⊢;exact List.mem_append_left _ hc
 rw[ht]at this;cases this))⟩
theorem Kgl.trans {base:Nat} {a b c:World} (h:Kgl base a b)(k:Kgl base b c):Kgl base a c:=⟨k.os.trans h.os,k.tape.trans h.tape,k.output.trans h.output,Nat.le_trans h.size k.size,fun i o h1 h2=>k.block i o (h.block i o h1 h2) h2⟩
theorem Kgl.cells {base:Nat} {a b:World} (h:Kgl base a b) {k:Nat} {cur:Array Value} {t:TypeId} {f:Nat × Nat} (hk:a.heap[k]? =some (.cells cur t f))(ht:gL.contains t=false):b.heap[k]? =some (.cells cur t f):=h.block k _ hk (.inr ⟨cur,t,f,rfl,ht⟩)
theorem Kgl.own {base k:Nat} {a b c:World} (h:Kgl base a b)(hb:But (fun q=>q=k) b c)(hk:a.heap.size≤k):Kgl base a c:=⟨hb.os.trans h.os,hb.tape.trans h.tape,hb.output.trans h.output,Nat.le_trans h.size hb.size,fun i o h1 h2=>by
 have hi:=(eS h1);exact(hb.block i (Nat.lt_of_lt_of_le hi h.size) (fun e=>by have e':i=k:=e;omega)).trans (h.block i o h1 h2)⟩
theorem Kgl.below {base:Nat} {a b:World} (h:Kgl base a b)(hb:base≤a.heap.size):Below base a b:=⟨h.os,h.tape,h.output,h.size,fun i hi=>by
 have hi':i<a.heap.size:=Nat.lt_of_lt_of_le hi hb;obtain⟨o,ho⟩:∃o,a.heap[i]? =some o:=⟨_,Array.getElem?_eq_getElem hi'⟩;rw[ho];exact h.block i o ho (.inl hi)⟩
def CqS (CQ:List Int→World→Prop):Prop:=∀y (A B:World) (k:Nat) (cur:Array Value) (t:TypeId) (fz:Nat × Nat),CQ y A→A.heap[k]? =some (.cells cur t fz)→t=40∨t=36→But (fun q=>q=k) A B→CQ y B
def ChT (base n0:Nat) (w w':World) (tos id ttl pr:Int) (q:Tu) (keep:Bool) (zo:List Int) (CQ:List Int→World→Prop) (e:Ending):Prop:=∃(zd2:List Int) (ao2:Option Addr) (co2:Nat) (ad2:Option Addr) (cd2:Nat),e= .returned (.agg #[.int .u8 tos,.int .u16 id,.bool keep,.int .u8 ttl,.int .u8 pr,.int .u32 q.dst,.int .u32 q.src,.slice ao2 zo.length co2,.slice ad2 zd2.length cd2])∧Kgl base w w'∧Ow n0 w' (.slice ao2 zo.length co2) zo∧Ow n0 w' (.slice ad2 zd2.length cd2) zd2∧CQ zd2 w'
def HcQ (base:Nat) (w w':World) (side pr:Int) (q:Tu) (CQ:List Int→World→Prop) (zs:List Int) (e:Ending):Prop:=∃(zd2:List Int) (v:Value),e= .returned (.agg #[.int .i64 0,.int .i64 (oppo side),v])∧Kgl base w w'∧CQ zd2 w'∧Ow w.heap.size w' v (hdr (zs[1]?.getD 0) (wat zs 4) (decide (16384≤wat zs 6 % 32768)) (zs[8]?.getD 0-1) pr q.dst q.src ((zs.take (hl4 zs).toNat).drop 20) (20+((zs.take (hl4 zs).toNat).drop 20).length+zd2.length)++zd2)
set_option maxHeartbeats 8000000 in
theorem handle_C(base g:Nat)(pr side:Int)(q:Tu)(CQ:List Int→World→Prop)(sb:Value)(zs:List Int)(w:World)(hB:Mt.By zs)(hI:Rd w.heap.size w sb zs)(hl:zs.length≤60000)(hprb:0≤pr∧pr≤255)(hsd:side=0∨side=1)(hqb:TuB q)
  (hp:rde false zs=0)(hpr:zs[9]?.getD 0=pr)(htt:(2:Int)≤zs[8]?.getD 0)(hlo:((zs.take (hl4 zs).toNat).drop 20).length≤40)(hlm:((zs.take (hl4 zs).toNat).drop 20).length % 4=0)(hCL:∀y W,CQ y W→20+((zs.take (hl4 zs).toNat).drop 20).length+y.length≤65535)(hCS:CqS CQ)(hCLt:∀y A B,CQ y A→Later A B→CQ y B)
  (hCH:∀W so sd,Later w W→Ow w.heap.size W so ((zs.take (hl4 zs).toNat).drop 20)→Ow w.heap.size W sd ((zs.take (ral false zs).toNat).drop (hl4 zs).toNat)→Calls Tryz.prog 55 #[.agg #[.pointer (some ⟨g,0,none⟩),.int .u8 (zs[1]?.getD 0),.int .u16 (wat zs 4),.bool (decide (16384≤wat zs 6 % 32768)),.int .u8 (zs[8]?.getD 0),.int .u8 pr,.int .u32 (zAs zs 12),.int .u32 (zAs zs 16),so,sd,.int .i64 side]] W fun e w'=>ChT base W.heap.size W w' (zs[1]?.getD 0) (wat zs 4) (zs[8]?.getD 0) pr q (decide (16384≤wat zs 6 % 32768)) ((zs.take (hl4 zs).toNat).drop 20) CQ e):
  Calls Tryz.prog 22 #[.pointer (some ⟨g,0,none⟩),.int .i64 side,sb] w fun e w'=>HcQ base w w' side pr q CQ zs e:=by
 unfold HcQ;have hmf:∀(fn:Fn) (first cap:Array Value) (w:World),(Instr.makeFunc fn first cap).run Tryz.prog w= .ok (.func fn first cap) w:=fun _ _ _ _=>rfl;obtain⟨ia,icap,rfl,hl1,hm1⟩:=hI.slice;have l0:=zAg w (.cells (oc 0).toArray 36);have C0:=zAd (heap_alloc_new w (.cells (oc 0).toArray 36));have HP:=zAd (zGl _ zs _ hB (by omega) (hI.later l0));have HCC:=zAd hCH;have HCS:=zAd hCS;have CqL:=zAd hCLt;have bt:=hB.at 1;have bl:=hB.at 8;have bi:0≤wat zs 4∧wat zs 4≤65535:=zCp hB 4;have hBd:Mt.By ((zs.take (ral false zs).toNat).drop (hl4 zs).toNat):=(hB.take _).drop _;have hBo:Mt.By ((zs.take (hl4 zs).toNat).drop 20):=(hB.take _).drop _;clear hI hCH hCS hCLt;go_enter_defers Tryz.func22,Tryz.ntmps22
 go_wp2_with fail;change Calls _ _ _ (w.alloc (.cells (oc 0).toArray 36)) _;generalize hw1:w.alloc (.cells (oc 0).toArray 36)=w1 at*;clear hw1;refine HP.out.mono ?_;rintro e w2 ⟨l2,⟨h1,rfl⟩|⟨h1,so,sd,rfl,hOo,hOd⟩⟩
 ·exact absurd hp h1
 clear h1 HP hp;have l2':Later w1 w2:=l2;obtain⟨oa,ocp,rfl,_,_⟩:=hOo.slice;obtain⟨da,dcp,rfl,_,_⟩:=hOd.slice;have hld:((zs.take (ral false zs).toNat).drop (hl4 zs).toNat).length≤65535:=by rw[List.length_drop,List.length_take];omega
 generalize hzd:((zs.take (ral false zs).toNat).drop (hl4 zs).toNat)=zd at*;generalize hzo:((zs.take (hl4 zs).toNat).drop 20)=zo at*;unfold pkt;rw[hpr];generalize htos:zs[1]?.getD 0=tos at*;generalize hidd:wat zs 4=id at*;generalize hkp:decide (16384≤wat zs 6 % 32768)=keep at*;generalize httl:zs[8]?.getD 0=ttl at*;clear hpr;generalize hsrc:zAs zs 12=src at*;generalize hdst:zAs zs 16=dst at*;have EQS:=zAd (show(((zs[1]?.getD 0=tos∧wat zs 4=id)∧decide (16384≤wat zs 6 % 32768)=keep)∧zs[8]?.getD 0=ttl)∧(zAs zs 12=src∧zAs zs 16=dst)∧((zs.take (ral false zs).toNat).drop (hl4 zs).toNat)=zd∧((zs.take (hl4 zs).toNat).drop 20)=zo from⟨⟨⟨⟨htos,hidd⟩,hkp⟩,httl⟩,⟨hsrc,hdst⟩,hzd,hzo⟩);clear htos hidd hkp httl hsrc hdst hzd hzo;have la:=zAg w2 (.cells #[.int .u8 tos,.int .u16 id,.bool keep,.int .u8 ttl,.int .u8 pr,.int .u32 src,.int .u32 dst,.slice oa zo.length ocp,.slice da zd.length dcp] 40);have CP:=zAd (heap_alloc_new w2 (.cells #[.int .u8 tos,.int .u16 id,.bool keep,.int .u8 ttl,.int .u8 pr,.int .u32 src,.int .u32 dst,.slice oa zo.length ocp,.slice da zd.length dcp] 40));have D0:=zAd (zAb (l2'.trans la) C0.out);have L3:Later w (w2.alloc (.cells #[.int .u8 tos,.int .u16 id,.bool keep,.int .u8 ttl,.int .u8 pr,.int .u32 src,.int .u32 dst,.slice oa zo.length ocp,.slice da zd.length dcp] 40)):=l0.trans (l2'.trans la);have O3:=zAd (hOo.kg (KG.of_later (base:=base) la));have Q3:=zAd (hOd.kg (KG.of_later (base:=base) la));have hgp:w1.heap.size≤w2.heap.size:=l2'.size
 have hg1:=(eS C0.out);clear hOo hOd la l2 l2';go_upto_region 3 with fail;change Code.wp _ _ _ _ (w2.alloc (.cells #[.int .u8 tos,.int .u16 id,.bool keep,.int .u8 ttl,.int .u8 pr,.int .u32 src,.int .u32 dst,.slice oa zo.length ocp,.slice da zd.length dcp] 40));generalize w2.alloc (.cells #[.int .u8 tos,.int .u16 id,.bool keep,.int .u8 ttl,.int .u8 pr,.int .u32 src,.int .u32 dst,.slice oa zo.length ocp,.slice da zd.length dcp] 40)=w3 at*;generalize w2.heap.size=gp at*;have HCH:=zAd (HCC.out w3 (.slice oa zo.length ocp) (.slice da zd.length dcp) L3 (O3.out.mono (Nat.le_of_lt hg1)) (Q3.out.mono (Nat.le_of_lt hg1)));have btt:=hqb.2.1;have bdd:=hqb.1;have HSD:=zAd hsd;clear O3 Q3 C0 HCC hqb hsd;have kp:=zAa CP.out;have ht2:¬ttl<2:=by omega
 go_wp2_with fail;refine(zA0 1 _).mono ?_;rintro e w4 ⟨rfl,hw4⟩;subst hw4;go_wp2_with fail;refine HCH.out.mono ?_;rintro e w4 ⟨zd2,ao,co,ad,cd,rfl,k4,o4,q4,hC4⟩;have hcl:=hCL zd2 w4 hC4;have C4:=zAd hC4;clear hCL;clear kp HCH;have K4:Kgl base w w4:=(Kgl.of_kg (KG.of_later L3)).trans k4;have E0:=zAd (k4.cells D0.out (by decide));have EP:=zAd (k4.cells CP.out (by decide));have o4':=zAd (o4.mono L3.size);have q4':=zAd (q4.mono L3.size);clear D0 CP o4 q4 k4 hC4;have kp:=zAa EP.out;have fp:=zAc EP.out;go_upto_region 5 with fail;generalize hV:World.setCell _ ⟨_,8,none⟩ _=w5;have hV9:w5=zAi w4 gp 0 [.int .u8 tos,.int .u16 id,.bool keep,.int .u8 ttl,.int .u8 pr,.int .u32 q.dst,.int .u32 q.src,.slice ao zo.length co,.slice ad zd2.length cd]:=hV.symm;have hb5:But (fun b=>b=gp) w4 w5:=by rw[hV9];exact zAf (E:=fun b=>b=gp) (n:=gp) rfl _ _ _ _ (But.refl _ _)
 have p5:=zAe [.int .u8 tos,.int .u16 id,.bool keep,.int .u8 ttl,.int .u8 pr,.int .u32 q.dst,.int .u32 q.src,.slice ao zo.length co,.slice ad zd2.length cd] EP.out rfl;rw[←hV9]at p5;clear hV hV9 kp fp;have C5:=zAd (HCS.out _ _ _ _ _ _ _ C4.out EP.out (.inl rfl) hb5);have O5:=zAd (o4'.out.aside EP.out (by decide) hb5);have Q5:=zAd (q4'.out.aside EP.out (by decide) hb5);have K5:Hid (Kgl base w w5):=K4.own hb5 (by omega);have F0:=zAd ((hb5.block w.heap.size (eS E0.out) (fun e=>by have e':w.heap.size=gp:=e;omega)).trans E0.out);have FP:=zAd p5;clear C4 o4' q4' K4 E0 EP hb5 p5;have kp:=zAa FP.out;have fp:=zAc FP.out;have P6:=zAd (zAh FP.out 3 (.int .u8 (ttl-1)));have hb6:But (fun b=>b=gp) w5 (w5.setCell ⟨gp,3,none⟩ (.int .u8 (ttl-1))):=(But.refl (fun b=>b=gp) w5).setCell (p:=⟨gp,3,none⟩) (show _=_ from rfl) _;have HB6:=zAd hb6;clear hb6;go_upto_region 6 with fail;have hQ6:(w5.setCell ⟨gp,3,none⟩ (.int .u8 (ttl-1))).heap[gp]? =some (.cells #[.int .u8 tos,.int .u16 id,.bool keep,.int .u8 (ttl-1),.int .u8 pr,.int .u32 q.dst,.int .u32 q.src,.slice ao zo.length co,.slice ad zd2.length cd] 40 (0,0)):=P6.out;have C6:=zAd (HCS.out _ _ _ _ _ _ _ C5.out FP.out (.inl rfl) HB6.out);have o6:=O5.out.aside FP.out (by decide) HB6.out;have q6:=Q5.out.aside FP.out (by decide) HB6.out;have O6:=zAd o6;have Q6:=zAd q6;have K6:=zAd (K5.out.own HB6.out (by omega))
 have F6:=zAd ((HB6.out.block w.heap.size (eS F0.out) (fun e=>by have e':w.heap.size=gp:=e;omega)).trans F0.out);have FQ6:=zAd hQ6;clear o6 q6 hQ6 kp fp C5 O5 Q5 K5 F0 FP P6 HB6;generalize w5.setCell ⟨gp,3,none⟩ (.int .u8 (ttl-1))=w6 at*;have HBU:=zAd (zEj tos id (ttl-1) pr q.dst q.src keep (.slice ao zo.length co) (.slice ad zd2.length cd) zo zd2 w6 hBo O6.out.rd Q6.out.rd hlo hlm hcl bt bi (by omega) hprb btt bdd);have k6:=zAa FQ6.out;clear hcl hlm hlo;go_wp2_with fail;refine HBU.out.mono ?_;rintro e w7 ⟨v,rfl,hO7,l7⟩;have l7':Later w6 w7:=l7;obtain⟨va,vc,rfl,_,_⟩:=hO7.slice;have F7:=zAd (zAb l7' F6.out);have C7:=zAd (CqL.out zd2 w6 w7 C6.out l7');have K7:=zAd (K6.out.trans (Kgl.of_kg (KG.of_later l7')));have O7:=zAd (hO7.mono K6.out.size);clear k6 HBU l7 l7' hO7 F6 C6 K6 O6 Q6 FQ6;generalize hob:hdr tos id keep (ttl-1) pr q.dst q.src zo (20+zo.length+zd2.length)++zd2=ob at*;have HOB:=zAd hob;clear hob;go_wp2_with fail;refine(zM8 side HSD.out w7).mono ?_;rintro e w8 ⟨rfl,hw8⟩;subst hw8;have k0:=zAa F7.out;have f0:=zAc F7.out;unfold oc at k0;go_wp2_with fail;generalize hV:World.setCell _ ⟨_,2,none⟩ _=V8;have hV9:V8=zAi w8 w.heap.size 0 [.int .i64 0,.int .i64 (oppo side),.slice va ob.length vc]:=hV.symm;have hb8:But (fun b=>b=w.heap.size) w8 V8:=by rw[hV9];exact zAf (E:=fun b=>b=w.heap.size) (n:=w.heap.size) rfl _ _ _ _ (But.refl _ _)
 have p8:=zAe [.int .i64 0,.int .i64 (oppo side),.slice va ob.length vc] F7.out rfl;rw[←hV9]at p8;clear hV hV9 k0 f0;have c8:=HCS.out _ _ _ _ _ _ _ C7.out F7.out (.inr rfl) hb8;have o8:=O7.out.aside F7.out (by decide) hb8;have k8:=K7.out.own hb8 (Nat.le_refl _);exact zQk _ w.heap.size _ _ _ V8 p8 rfl ⟨zd2,.slice va ob.length vc,rfl,k8,c8,by obtain⟨⟨⟨⟨q1,q2⟩,q3⟩,q4⟩,⟨q5,q6⟩,q7,q8⟩:=EQS.out;rw[q1,q2,q3,q4,q8,HOB.out];exact o8⟩
def HqS (HP:Int→Int→Value→Value→World→Prop):Prop:=∀rc n v sv (A B:World) (k:Nat) (cur:Array Value) (fz:Nat × Nat),HP rc n v sv A→A.heap[k]? =some (.cells cur 36 fz)→But (fun q=>q=k) A B→HP rc n v sv B
def PkS (base:Nat) (w w':World) (nw now:Int) (HP:Int→Int→Value→Value→World→Prop) (e:Ending):Prop:=∃(rc sd:Int) (va:Option Addr) (ln vc:Nat) (n:Int) (v:Value),e= .returned (.agg #[.int .i64 rc,.int .i64 sd,.slice va ln vc])∧Kgl base w w'∧(n≤nw∨n≤now)∧now≤n∧HP rc n v (.slice va ln vc) w'
theorem run_ins {P:Program} {t kt et:TypeId} (ht:P.underlying t=some (.map kt et))(hk:P.underlying kt=some (.int .i64)) {w:World} {b:Nat} {es:Array MapEntry} {c:Nat} (hb:w.heap[b]? =some (.map es c))(z:Int)(v:Value)(hf:Instr.findNow (.int .i64) (.int .i64 z) es.toList 0=some none):
  ∃w',(Instr.mapUpdate t (.map (some b)) (.int .i64 z) v).run P w= .ok () w'∧w'.heap[b]? =some (.map (es.push ⟨.int .i64 z,v,c⟩) (c+1))∧∀n,n≤b→Below n w w':=by
 have hc:(Instr.checkKey false 10000 kt (.int .i64 z)).run P w= .ok () w:=MapKept.run_checkKey (k:= .int .i64 z) hk (by simp[MapKept.IsKey]) false 9999;have hlt:=(eS hb);refine⟨{ w with heap:=w.heap.setIfInBounds b (.map (es.push ⟨.int .i64 z,v,c⟩) (c+1)) },?_,?_,fun n hn=>⟨rfl,rfl,rfl,by simp,fun i hi=> ?_⟩⟩
 ·simp[Instr.mapUpdate,run_underlying ht,MapKept.run_getObj_map hb,hc,MapKept.run_findKey hk hf,MapKept.run_setObj_map _ hb,Result.andThen]
 ·simp[hlt]
 ·rw[Array.getElem?_setIfInBounds_ne (by omega)]
section
variable {P:Program} {l:List Oper} {Q:Exit→Act→World→Prop} {fuel:Nat} {listed:Array Bool} {a:Act} {w:World} {R:World→World→Prop}
theorem zAm(hp:Pre R)(i:Nat) {oi:Oper} (hi:zBp l i=some oi)
  (hs:Region.noSelect l.toArray=true)(hf:Region.free .any l.toArray listed i=true)(hr:(Region.ready .any l.toArray listed).contains i=true)
  (hQ:∀v c a w,Q (.panic c) (a.put oi.dst v) w→Q (.panic c) a w)(hg:Region.wanted oi (yielded l.toArray a.tmps)=false)
  (h:zA2 P .any l.toArray Q R fuel (listed.setIfInBounds i true) (a.put oi.dst undef) w):zA2 P .any l.toArray Q R (fuel+1) listed a w:=by
 have hi':l.toArray[i]? =some oi:=by rw[←hi,zA6];simp
 exact zCi hp.1 hp.2 hi' (Region.noSelect_spec hs) (hQ undef) fuel listed a w (Region.free_spec hi' hf) (by simpa using hr) (.inr ⟨hg,rfl⟩) h
end
end Go.Proofs.YteaeilghamjjkaaGreatDoor
