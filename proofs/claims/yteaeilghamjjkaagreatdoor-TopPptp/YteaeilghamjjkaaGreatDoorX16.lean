import Derived.Test.YteaeilghamjjkaaGreatDoorX17
import Derived.Deep.DeepCutAuto
import Derived.Deep.CutBlock
import Derived.ChangeKeysEq
import Derived.Laws.Cover3
namespace Go.Proofs.YteaeilghamjjkaaGreatDoor
set_option maxHeartbeats 4000000
open Go.RowKit Go.Shelf
set_option maxRecDepth 100000
set_option linter.unusedVariables false
set_option linter.unusedSimpArgs false
abbrev zsg:List Value:=[.int .u16 0,.int .u16 0,.int .u32 0,.int .u32 0,.int .u8 0,.int .u16 0,.int .u16 0,.slice none 0 0,.slice none 0 0]
def hop (zs:List Int):List Int:=(zs.drop 20).take ((thd zs).toNat-20)
def pte (proto src dst:Int) (zs:List Int):Int:=if ptc proto src dst zs≠0 then ptc proto src dst zs else if(zB7 (hop zs)).isNone then 4 else 0
theorem zMs {proto src dst:Int} {zs:List Int} (h:ptc proto src dst zs=0):proto=6∧20≤zs.length∧20≤thd zs∧thd zs≤zs.length∧zs[12]?.getD 0 % 16=0∧Mt.cks (psd src dst 6 zs.length++zs)=0:=by
 unfold ptc at h;split at h
 ·omega
 split at h
 ·omega
 split at h
 ·omega
 split at h
 ·omega
 split at h
 ·omega
 ·omega
theorem thd_le {zs:List Int} (hB:Mt.By zs):thd zs≤60:=by have:=hB.at 12;unfold thd;omega
theorem OwO.later {base:Nat} {A B:World} {v:Value} {os:List Opt} (h:OwO base A v os)(l:Later A B):OwO base B v os:=h.ck (CK.of l)
theorem zKz {P:Program} {ops:Array Oper} {rest:List Oper} {o:Oper} {a:Act} {Q:Exit→Act→World→Prop} {w:World} (k:Nat)(hd:o.dst=some k)(hg:o.guard=none)(v:Value)(h:(execOp a.eval o).run P w= .ok (.value v) w)
  (hk:wpList P ops Q rest (a.put o.dst v) w):wpList P ops Q (o::rest) a w:=wpList_plain hg fun K hK=>by unfold Oper.wp;rw[h];exact hK _ _ hk
theorem zBx(tos id ttl proto src dst:Int)(keep:Bool)(so sd:Value)(zs:List Int)(w:World)(hB:Mt.By zs)(hI:Rd w.heap.size w sd zs)(hl:12+zs.length≤140737488355328)(hsr:0≤src∧src≤4294967295)(hds:0≤dst∧dst≤4294967295):
  Calls Tryz.prog 26 #[.agg #[.int .u8 tos,.int .u16 id,.bool keep,.int .u8 ttl,.int .u8 proto,.int .u32 src,.int .u32 dst,so,sd]] w fun e w'=>Below w.heap.size w w'∧((pte proto src dst zs≠0∧e= .returned (.tuple #[.agg zsg.toArray,.int .i64 (pte proto src dst zs)]))∨
   (pte proto src dst zs=0∧∃os aO cO ad cd,zB7 (hop zs)=some os∧e= .returned (.tuple #[.agg #[.int .u16 (wat zs 0),.int .u16 (wat zs 2),.int .u32 (zAx zs 4),.int .u32 (zAx zs 8),.int .u8 (zs[13]?.getD 0),.int .u16 (wat zs 14),.int .u16 (wat zs 18),.slice aO os.length cO,.slice ad (zs.length-(thd zs).toNat) cd],.int .i64 0])∧OwO w.heap.size w' (.slice aO os.length cO) os∧Ow w.heap.size w' (.slice ad (zs.length-(thd zs).toNat) cd) (zs.drop (thd zs).toNat))):=by
 obtain⟨ad,cd,rfl,hl1,hm1⟩:=hI.slice;have hb0:Below w.heap.size w ((w.alloc (.cells #[.int .u8 tos,.int .u16 id,.bool keep,.int .u8 ttl,.int .u8 proto,.int .u32 src,.int .u32 dst,so,.slice ad zs.length cd] 40)).alloc (.cells zsg.toArray 32)):=(bA _ _).alloc (by simp) _;have p0:((w.alloc (.cells #[.int .u8 tos,.int .u16 id,.bool keep,.int .u8 ttl,.int .u8 proto,.int .u32 src,.int .u32 dst,so,.slice ad zs.length cd] 40)).alloc (.cells zsg.toArray 32)).heap[w.heap.size]? =some (.cells #[.int .u8 tos,.int .u16 id,.bool keep,.int .u8 ttl,.int .u8 proto,.int .u32 src,.int .u32 dst,so,.slice ad zs.length cd] 40):=(Below.heap_alloc _ _ _ (by simp)).trans (heap_alloc_new w _);have r0:((w.alloc (.cells #[.int .u8 tos,.int .u16 id,.bool keep,.int .u8 ttl,.int .u8 proto,.int .u32 src,.int .u32 dst,so,.slice ad zs.length cd] 40)).alloc (.cells zsg.toArray 32)).heap[w.heap.size+1]? =some (.cells zsg.toArray 32 (0,0)):=by have:=heap_alloc_new (w.alloc (.cells #[.int .u8 tos,.int .u16 id,.bool keep,.int .u8 ttl,.int .u8 proto,.int .u32 src,.int .u32 dst,so,.slice ad zs.length cd] 40)) (.cells zsg.toArray 32);simpa using this
 have hs0:((w.alloc (.cells #[.int .u8 tos,.int .u16 id,.bool keep,.int .u8 ttl,.int .u8 proto,.int .u32 src,.int .u32 dst,so,.slice ad zs.length cd] 40)).alloc (.cells zsg.toArray 32)).heap.size=w.heap.size+1+1:=by simp
 have P0:=zAc p0;have R0:=zAc r0;have HS:=zAc hs0;clear p0 r0 hs0;go_enter Tryz.func26,Tryz.ntmps26;go_wp2_with fail;generalize (w.alloc (.cells #[.int .u8 tos,.int .u16 id,.bool keep,.int .u8 ttl,.int .u8 proto,.int .u32 src,.int .u32 dst,so,.slice ad zs.length cd] 40)).alloc (.cells zsg.toArray 32)=W0 at*;refine(zKy tos id ttl proto src dst keep _ _ zs W0 hB ((hI.below hb0).mono hb0.size) hl hsr hds).mono ?_;rintro e w1 ⟨hb1,⟨hf,rfl⟩|⟨hf,rfl⟩⟩
 ·have r1:=zAb hb1 R0.out
  have hw1:=hb0.trans (hb1.mono hb0.size);have t1:(ptc proto src dst zs !=0)=true:=by simp[hf]
  have HF:Hid (pte proto src dst zs=ptc proto src dst zs):=by show _=_;unfold pte;rw[if_pos hf]
  have HN:=zAc hf;clear hf;have R1:=zAa r1;have F1:=zAd r1;go_wp2_with fail;generalize hV:World.setCell _ ⟨w.heap.size+1,8,none⟩ _=V8;have hV9:V8=zAj w1 (w.heap.size+1) 0 zsg:=hV.symm;have hb8:But (fun b=>b=w.heap.size+1) w1 V8:=by rw[hV9];exact zAf (E:=fun b=>b=w.heap.size+1) (n:=w.heap.size+1) rfl _ _ _ _ (But.refl _ _)
  have p8:=zAg zsg r1 rfl;rw[←hV9]at p8;clear hV hV9;have P8:=zAa p8;have hw8:Below w.heap.size w V8:=(hw1).trans (hb8.below (hw1).size (fun k h e=>by omega));exact bodyPost_ret (v:= .tuple #[.agg zsg.toArray,.int .i64 (ptc proto src dst zs)]) (by simp[results,Tryz.results26,go_sem,P8]) rfl (⟨hw8,.inl ⟨by rw[HF.out];exact HN.out,by rw[HF.out]⟩⟩)
 ·have r1:=zAb hb1 R0.out
  have p1:=zAb hb1 P0.out;have hw1:=hb0.trans (hb1.mono hb0.size);have hs1:w.heap.size+1+1≤w1.heap.size:=by have:=hb1.size;have:=HS.out;omega
  obtain⟨z1,z2,z3,z4,z5,z6⟩:=zMs hf;have z7:=thd_le hB;have HPT:Hid (pte proto src dst zs=if(zB7 (hop zs)).isNone then 4 else 0):=by show _=_;unfold pte;rw[if_neg (by simp[hf])]
  have HPC:=zAc hf;have HZ6:=zAc z6;clear hf z1 z5 z6 hb1 hb0 P0 R0 HS;obtain⟨tm,hh⟩:∃tm:Nat,thd zs=(tm:Int):=⟨(thd zs).toNat,by omega⟩;have HHOP:Hid (hop zs=(zs.drop 20).take (tm-20)):=by show _=_;unfold hop;rw[hh];simp
  have HTO:Hid ((thd zs).toNat=tm):=by show _=_;rw[hh];simp
  rw[hh]at z3 z4 z7⊢;have HH:=zAc hh;clear hh;obtain⟨b,off,cap,e0,hlc,hmc,hbb,hcs⟩:=hI.cells (by omega);have hcl:=e0
  simp at hcl
  obtain⟨rfl,rfl⟩:=hcl;have d13:=hcs 13 (by omega);clear e0 hcs;have K1:=zAa p1;have i20:(20:Int)≤tm:=by omega
  have ihl:(tm:Int)≤zs.length:=by omega
  have ilc:(zs.length:Int)≤cd:=by omega
  have hs20:=((hI.below hw1).cutAt 20 (by omega)).take (tm-20) (by omega);obtain⟨a20,hA20⟩:∃a20,(if cd=20 then some (⟨b,off,none⟩:Addr)else some ⟨b,off+20,none⟩)=a20:=⟨_,rfl⟩;rw[hA20]at hs20;have HA20:=zAc hA20;have HS20:=zAc hs20;clear hs20 hA20;go_wp2_with (refine zKz 23 rfl rfl (.slice a20 (tm-20) (cd-20)) (by rw[←HA20.out];go_simp;split<;>first|rfl|(intro _;omega)) ?_)
  have hBh:Mt.By ((zs.drop 20).take (tm-20)):=(hB.drop 20).take _;have hlh:((zs.drop 20).take (tm-20)).length=tm-20:=by simp;omega
  refine(zFg _ ((zs.drop 20).take (tm-20)) hBh (by omega) w1 (HS20.out.mono hw1.size)).mono ?_;clear HS20 HA20 K1;rintro e w2 ⟨hb2,⟨ho,rfl⟩|⟨os,vO,ho,rfl,hOO⟩⟩
  ·have r2:=zAb hb2 r1
   have hw2:=hw1.trans (hb2.mono hw1.size);have HF:Hid (pte proto src dst zs=4):=by show _=_;rw[HPT.out,HHOP.out,ho];rfl
   clear ho;have R1:=zAa r2;have F1:=zAd r2;go_wp2_with fail;generalize hV:World.setCell _ ⟨w.heap.size+1,8,none⟩ _=V8;have hV9:V8=zAj w2 (w.heap.size+1) 0 zsg:=hV.symm;have hb8:But (fun b=>b=w.heap.size+1) w2 V8:=by rw[hV9];exact zAf (E:=fun b=>b=w.heap.size+1) (n:=w.heap.size+1) rfl _ _ _ _ (But.refl _ _)
   have p8:=zAg zsg r2 rfl;rw[←hV9]at p8;clear hV hV9;have P8:=zAa p8;have hw8:Below w.heap.size w V8:=(hw2).trans (hb8.below (hw2).size (fun k h e=>by omega));exact bodyPost_ret (v:= .tuple #[.agg zsg.toArray,.int .i64 4]) (by simp[results,Tryz.results26,go_sem,P8]) rfl (⟨hw8,.inl ⟨by rw[HF.out];decide,by rw[HF.out]⟩⟩)
  ·have r2:=zAb hb2 r1
   have hw2:=hw1.trans (hb2.mono hw1.size);have hs2':w.heap.size+1+1≤w2.heap.size:=by have:=hb2.size;omega
   have HF:Hid (pte proto src dst zs=0):=by show _=_;rw[HPT.out,HHOP.out,ho];rfl
   have HO:Hid (zB7 (hop zs)=some os):=by show _=_;rw[HHOP.out];exact ho
   obtain⟨aO,cO,rfl,_,_⟩:=hOO.slice;have hOO':=hOO.mono (base':=w.heap.size+1+1) hs1;clear ho hOO hb2 r1 p1 hw1 hBh hlh;generalize hx13:zs[13]?.getD 0=x13 at d13;have HX13:=zAc hx13;clear hx13;go_wp2_with fail;obtain⟨Φ,HΦ⟩:∃Φ:Array Value→World→Prop,Hid (Φ=(fun arr W=>∃aO cO ad cd,arr=#[.int .u16 (wat zs 0),.int .u16 (wat zs 2),.int .u32 (zAx zs 4),.int .u32 (zAx zs 8),.int .u8 x13,.int .u16 (wat zs 14),.int .u16 (wat zs 18),.slice aO os.length cO,.slice ad (zs.length-tm) cd]∧OwO (w.heap.size+1+1) W (.slice aO os.length cO) os∧Ow (w.heap.size+1+1) W (.slice ad (zs.length-tm) cd) (zs.drop tm))):=⟨_,rfl⟩
   have hΦ:zPa Φ:=by
    rw[HΦ.out];rintro arr A B l ⟨aO,cO,ad,cd,h1,h2,h3⟩;exact⟨aO,cO,ad,cd,h1,h2.later l,h3.later l⟩
   refine zAn (R:=KR (w.heap.size+1) 9 32 Φ) (Keep.pre _ _ _) (fun w=>KR.of hΦ (Later.drew w)) 23 rfl (by kernel_rfl) (fun W1 hW1=> ?_);have hg1:Wr (w.heap.size+1) 9 32 W1:=hW1.2.1 ⟨_,r2,rfl⟩;have hbut:∀v1,KR (w.heap.size+1) 9 32 Φ W1 v1→But (fun b=>b=w.heap.size+1) w2 v1:=fun v1 h=>hW1.1.trans h.1;have hbel:∀v1,KR (w.heap.size+1) 9 32 Φ W1 v1→Below w.heap.size w v1:=fun v1 h=>hw2.trans ((hbut v1 h).below (by omega) (fun k h e=>by omega));have q13:∀v1,KR (w.heap.size+1) 9 32 Φ W1 v1→v1.cell? ⟨b,off+13,none⟩=some (.int .u8 x13):=fun v1 h=>((hbel v1 h).cell (p:=⟨b,off+13,none⟩) hbb).trans d13;have hr:∀v1,KR (w.heap.size+1) 9 32 Φ W1 v1→Rd w.heap.size v1 (.slice (some ⟨b,off,none⟩) zs.length cd) zs:=fun v1 h=>hI.below (hbel v1 h);have i13:(13:Int)<zs.length:=by omega
   have hOO2:∀v1,KR (w.heap.size+1) 9 32 Φ W1 v1→OwO (w.heap.size+1+1) v1 (.slice aO os.length cO) os:=fun v1 h=>hOO'.but (hbut v1 h) (fun b h e=>by omega);clear d13;refine rX (Keep.pre _ _ _) 0 ?_;refine zAr (Keep.pre _ _ _) 1 (.int .u16 (wat zs 0)) rfl (by kernel_rfl) (by kernel_rfl) (by kernel_rfl) (fun _ _ _ h=>h) rfl (fun v1 hv1=>zAo 39 #[.slice (some ⟨b,off,none⟩) zs.length cd,.int .i64 0] (by go_simp) ?_) ?_
   ·exact (zBh _ zs hB 0 (by omega) v1 (hr v1 hv1)).mono fun e w' ⟨he,q,hw⟩=>⟨he,KR.of hΦ (by rw[hw];exact zAm (Later.refl v1) q)⟩
   simp only[Act.put,sA,sB,sC];refine rX (Keep.pre _ _ _) 2 ?_;refine zAr (Keep.pre _ _ _) 3 (.int .u16 (wat zs 2)) rfl (by kernel_rfl) (by kernel_rfl) (by kernel_rfl) (fun _ _ _ h=>h) rfl (fun v1 hv1=>zAo 39 #[.slice (some ⟨b,off,none⟩) zs.length cd,.int .i64 2] (by go_simp) ?_) ?_
   ·exact (zBh _ zs hB 2 (by omega) v1 (hr v1 hv1)).mono fun e w' ⟨he,q,hw⟩=>⟨he,KR.of hΦ (by rw[hw];exact zAm (Later.refl v1) q)⟩
   simp only[Act.put,sA,sB,sC];refine rX (Keep.pre _ _ _) 4 ?_;refine zAr (Keep.pre _ _ _) 5 (.int .u32 (zAx zs 4)) rfl (by kernel_rfl) (by kernel_rfl) (by kernel_rfl) (fun _ _ _ h=>h) rfl (fun v1 hv1=>zAo 70 #[.slice (some ⟨b,off,none⟩) zs.length cd,.int .i64 4] (by go_simp) ?_) ?_
   ·exact (zDr _ zs hB 4 (by omega) v1 (hr v1 hv1)).mono fun e w' ⟨he,q,hw⟩=>⟨he,KR.of hΦ (by rw[hw];exact zAm (Later.refl v1) q)⟩
   simp only[Act.put,sA,sB,sC];refine rX (Keep.pre _ _ _) 6 ?_;refine zAr (Keep.pre _ _ _) 7 (.int .u32 (zAx zs 8)) rfl (by kernel_rfl) (by kernel_rfl) (by kernel_rfl) (fun _ _ _ h=>h) rfl (fun v1 hv1=>zAo 70 #[.slice (some ⟨b,off,none⟩) zs.length cd,.int .i64 8] (by go_simp) ?_) ?_
   ·exact (zDr _ zs hB 8 (by omega) v1 (hr v1 hv1)).mono fun e w' ⟨he,q,hw⟩=>⟨he,KR.of hΦ (by rw[hw];exact zAm (Later.refl v1) q)⟩
   simp only[Act.put,sA,sB,sC];refine rX (Keep.pre _ _ _) 8 ?_;refine rX (Keep.pre _ _ _) 9 ?_;refine rX (Keep.pre _ _ _) 10 ?_;refine rX (Keep.pre _ _ _) 11 ?_;refine zAr (Keep.pre _ _ _) 12 (.int .u16 (wat zs 14)) rfl (by kernel_rfl) (by kernel_rfl) (by kernel_rfl) (fun _ _ _ h=>h) rfl (fun v1 hv1=>zAo 39 #[.slice (some ⟨b,off,none⟩) zs.length cd,.int .i64 14] (by go_simp) ?_) ?_
   ·exact (zBh _ zs hB 14 (by omega) v1 (hr v1 hv1)).mono fun e w' ⟨he,q,hw⟩=>⟨he,KR.of hΦ (by rw[hw];exact zAm (Later.refl v1) q)⟩
   simp only[Act.put,sA,sB,sC];refine rX (Keep.pre _ _ _) 13 ?_;refine zAr (Keep.pre _ _ _) 14 (.int .u16 (wat zs 18)) rfl (by kernel_rfl) (by kernel_rfl) (by kernel_rfl) (fun _ _ _ h=>h) rfl (fun v1 hv1=>zAo 39 #[.slice (some ⟨b,off,none⟩) zs.length cd,.int .i64 18] (by go_simp) ?_) ?_
   ·exact (zBh _ zs hB 18 (by omega) v1 (hr v1 hv1)).mono fun e w' ⟨he,q,hw⟩=>⟨he,KR.of hΦ (by rw[hw];exact zAm (Later.refl v1) q)⟩
   simp only[Act.put,sA,sB,sC];refine rX (Keep.pre _ _ _) 15 ?_;refine rX (Keep.pre _ _ _) 16 ?_;refine rX (Keep.pre _ _ _) 17 ?_;refine rX (Keep.pre _ _ _) 18 ?_;have hs8:∀v1,KR (w.heap.size+1) 9 32 Φ W1 v1→Rd w.heap.size v1 (.slice (if cd=tm then some (⟨b,off,none⟩:Addr)else some ⟨b,off+tm,none⟩) (zs.length-tm) (cd-tm)) (zs.drop tm):=fun v1 h=>(hr v1 h).cutAt tm (by omega);generalize (if cd=tm then some (⟨b,off,none⟩:Addr)else some ⟨b,off+tm,none⟩)=adh at*;refine rO 19 (fun W2 hW2=> ?_);refine zAi 71 #[.slice adh (zs.length-tm) (cd-tm)] (by go_simp) ?_;refine(zBd _ (zs.drop tm) W2 (by simp;omega) ((hs8 W2 hW2).mono (hbel W2 hW2).size)).mono ?_;rw[List.length_drop];rintro e W5 ⟨a5,c5,rfl,hO5,hb5⟩;have hW15:=hW2.trans (KR.of hΦ hb5);have hs2:w.heap.size+1+1≤W2.heap.size:=Nat.le_trans hs2' (hbut W2 hW2).size;refine⟨KR.of hΦ hb5,?_⟩;simp only[Act.put,sA,sB,sC];refine rX (Keep.pre _ _ _) 20 ?_;refine rO 21 (fun W6 hW6=> ?_);have hW16:=hW15.trans hW6;have hg6:=hW16.2.1 hg1;have hg6':=hg6;obtain⟨cur,hcur,hsz⟩:=hg6';have k6:∀j,W6.cell? ⟨w.heap.size+1,j,none⟩=cur[j]? :=zAa hcur;have f6:∀j,W6.frozen? ⟨w.heap.size+1,j,none⟩=false:=zAd hcur;unfold Oper.wp;go_simp;generalize hV7:World.setCell _ ⟨w.heap.size+1,8,none⟩ _=V7
   have hV8:V7=zAj W6 (w.heap.size+1) 0 [.int .u16 (wat zs 0),.int .u16 (wat zs 2),.int .u32 (zAx zs 4),.int .u32 (zAx zs 8),.int .u8 x13,.int .u16 (wat zs 14),.int .u16 (wat zs 18),.slice aO os.length cO,.slice a5 (zs.length-tm) c5]:=hV7.symm;have hSt:=KR.store (Φ:=Φ) [.int .u16 (wat zs 0),.int .u16 (wat zs 2),.int .u32 (zAx zs 4),.int .u32 (zAx zs 8),.int .u8 x13,.int .u16 (wat zs 14),.int .u16 (wat zs 18),.slice aO os.length cO,.slice a5 (zs.length-tm) c5] hg6 rfl (by rw[HΦ.out];exact⟨aO,cO,a5,c5,rfl,(((hOO2 W6 hW16)).but (zB3 (rb:=w.heap.size+1) _ _) (fun b h e=>by omega)),((hO5.but hW6.1 (fun b h e=>by omega)).but (zB3 (rb:=w.heap.size+1) _ _) (fun b h e=>by omega)).mono hs2⟩);rw[←hV8]at hSt;clear hV7 hV8 k6 f6;refine⟨hSt.1,?_⟩;refine rX (Keep.pre _ _ _) 22 ?_;refine rD (fun W8 hW8=> ?_);obtain⟨arr,hh8,hP8⟩:=hW8.2.2 hSt.2;have hw8:=hbel W8 ((hW16.trans hSt.1).trans hW8);clear hSt hr hs8 hbut q13 hOO2;rw[HΦ.out]at hP8;obtain⟨aO8,cO8,ad8',cd8,rfl,hOO8,hO8⟩:=hP8;have r8:=zAa hh8;go_wp2_with fail;exact bodyPost_ret (v:= .tuple #[.agg #[.int .u16 (wat zs 0),.int .u16 (wat zs 2),.int .u32 (zAx zs 4),.int .u32 (zAx zs 8),.int .u8 x13,.int .u16 (wat zs 14),.int .u16 (wat zs 18),.slice aO8 os.length cO8,.slice ad8' (zs.length-tm) cd8],.int .i64 0]) (by simp[results,Tryz.results26,go_sem,r8]) rfl ⟨hw8,.inr ⟨HF.out,os,aO8,cO8,ad8',cd8,HO.out,by rw[HTO.out,HX13.out],hOO8.mono (by omega),by rw[HTO.out];exact hO8.mono (by omega)⟩⟩
def pie (proto:Int) (zs:List Int):Int:=if proto≠1 then 12 else if zs.length<8 then 3 else if Mt.cks zs≠0 then 5 else 0
abbrev zm:List Value:=[.int .u8 0,.int .u8 0,.int .u32 0,.slice none 0 0]
def tab:List Int:=[32,1,136,11,48,1,136,11,32,129,136,11,48,129,136,11]
def Tb (w:World):Prop:=∀i,i<16→w.cell? ⟨0,i,none⟩=some (.int .u8 (tab[i]?.getD 0))
theorem Tb.pos {w:World} (h:Tb w):0<w.heap.size:=World.block_lt_of_cell? w ⟨0,0,none⟩ (h 0 (by omega))
theorem Tb.below {w w':World} {n:Nat} (h:Tb w)(hb:Below n w w')(hn:0<n):Tb w':=fun i hi=>(hb.cell (p:=⟨0,i,none⟩) hn).trans (h i hi)
theorem Tb.later {w w':World} (h:Tb w)(l:Later w w'):Tb w':=h.below l h.pos
def zGg (b:Bool) (v:Int):List Int:=if b then [v/65536/256,v/65536 % 256,v % 65536/256,v % 65536 % 256]else []
def grb (cl:Int) (hs ha:Bool) (sq ak:Int) (zd:List Int):List Int:=
 [if hs then 48 else 32,if ha then 129 else 1,136,11,(zd.length:Int) % 65536/256,(zd.length:Int) % 65536 % 256,cl/256,cl % 256]++((zGg hs sq++zGg ha ak)++zd)
theorem zDh(b:Bool)(v:Int):(zGg b v).length=if b then 4 else 0:=by cases b<;>rfl
def grn (hs ha:Bool) (n:Nat):Nat:=8+((if hs then 4 else 0)+(if ha then 4 else 0))+n
theorem zC5(cl:Int)(hs ha:Bool)(sq ak:Int)(zd:List Int):(grb cl hs ha sq ak zd).length=grn hs ha zd.length:=by
 unfold grb grn;simp only[List.length_append,zDh,List.length_cons,List.length_nil];omega
theorem zP5(b:Bool)(v:Int)(hv:0≤v∧v≤4294967295):Mt.By (zGg b v):=by
 cases b
 ·exact Mt.By.nil
 ·exact .mk (by omega) (.mk (by omega) (.mk (by omega) (.mk (by omega) .nil)))
theorem By_grb(cl:Int)(hs ha:Bool)(sq ak:Int)(zd:List Int)(h1:0≤cl∧cl≤65535)(h2:0≤sq∧sq≤4294967295)(h3:0≤ak∧ak≤4294967295)(hB:Mt.By zd):Mt.By (grb cl hs ha sq ak zd):=by
 unfold grb;refine Mt.By.append ?_ (Mt.By.append (Mt.By.append (zP5 hs sq h2) (zP5 ha ak h3)) hB);exact .mk (by split<;>omega) (.mk (by split<;>omega) (.mk (by omega) (.mk (by omega) (.mk (by omega) (.mk (by omega) (.mk (by omega) (.mk (by omega) .nil)))))))
theorem zMt(cl:Int)(hs ha:Bool)(sq ak:Int)(zd:List Int):
  [[if hs then 48 else 32,if ha then 129 else 1,136,11],[(zd.length:Int) % 65536/256,(zd.length:Int) % 65536 % 256],[cl/256,cl % 256],zGg hs sq++zGg ha ak,zd].flatten=grb cl hs ha sq ak zd:=by simp[grb]
def bI (b:Bool) (v:Int):Int:=if b then v else 0
def grf (hs ha:Bool) (sq ak:Int):Bool:=(!hs && sq !=0)||(!ha && ak !=0)
theorem Rd.block4 {W:World} {fb:Nat} {t:TypeId} {a b c d:Int} (h:W.heap[fb]? =some (.cells #[.int .u8 a,.int .u8 b,.int .u8 c,.int .u8 d] t (0,0))):Rd W.heap.size W (.slice (some ⟨fb,0,none⟩) 4 4) [a,b,c,d]:=
 .inr ⟨fb,0,4,rfl,by simp,by simp,by omega,(eS h),fun j hj=>by
  rw[Nat.zero_add,zAa h];match j,hj with
  |0,_=>rfl
  |1,_=>rfl
  |2,_=>rfl
  |3,_=>rfl⟩
theorem zIk(tos id ttl proto src dst cl sq ak:Int)(keep hs ha:Bool)(so sd sm:Value)(zo zd:List Int)(w:World)(hT:Tb w)(hBo:Mt.By zo)(hIo:Rd w.heap.size w so zo)(hBd:Mt.By zd)(hIm:Rd w.heap.size w sm zd)
  (h1:zo.length≤140737488355328)(h2:16+zd.length≤140737488355328)(ht:0≤tos∧tos≤255)(hid:0≤id∧id≤65535)(htt:0≤ttl∧ttl≤255)(hsr:0≤src∧src≤4294967295)(hds:0≤dst∧dst≤4294967295)
  (hcl:0≤cl∧cl≤65535)(hsq:0≤sq∧sq≤4294967295)(hak:0≤ak∧ak≤4294967295)(hg:grf hs ha sq ak=false):
  Calls Tryz.prog 41 #[.agg #[.int .u8 tos,.int .u16 id,.bool keep,.int .u8 ttl,.int .u8 proto,.int .u32 src,.int .u32 dst,so,sd],.agg #[.int .u16 cl,.bool hs,.bool ha,.int .u32 sq,.int .u32 ak,sm]] w fun e w'=>Below w.heap.size w w'∧((flt zo.length (grn hs ha zd.length)≠0∧e= .returned (.tuple #[.agg zcc.toArray,.int .i64 (flt zo.length (grn hs ha zd.length))]))∨
   (flt zo.length (grn hs ha zd.length)=0∧∃ao co ad cd,e= .returned (.tuple #[.agg #[.int .u8 tos,.int .u16 id,.bool keep,.int .u8 ttl,.int .u8 47,.int .u32 src,.int .u32 dst,.slice ao zo.length co,.slice ad (grn hs ha zd.length) cd],.int .i64 0])∧Ow w.heap.size w' (.slice ao zo.length co) zo∧Ow w.heap.size w' (.slice ad (grn hs ha zd.length) cd) (grb cl hs ha sq ak zd))):=by
 obtain⟨ao,coo,rfl,hl1,hm1⟩:=hIo.slice;obtain⟨am,cm,rfl,hl2,hm2⟩:=hIm.slice;have hb0:Below w.heap.size w (((w.alloc (.cells #[.int .u8 tos,.int .u16 id,.bool keep,.int .u8 ttl,.int .u8 proto,.int .u32 src,.int .u32 dst,.slice ao zo.length coo,sd] 40)).alloc (.cells #[.int .u16 cl,.bool hs,.bool ha,.int .u32 sq,.int .u32 ak,.slice am zd.length cm] 114)).alloc (.cells zcc.toArray 40)):=((bA _ _).alloc (by simp) _).alloc (by simp;omega) _;have hT0:Tb (((w.alloc (.cells #[.int .u8 tos,.int .u16 id,.bool keep,.int .u8 ttl,.int .u8 proto,.int .u32 src,.int .u32 dst,.slice ao zo.length coo,sd] 40)).alloc (.cells #[.int .u16 cl,.bool hs,.bool ha,.int .u32 sq,.int .u32 ak,.slice am zd.length cm] 114)).alloc (.cells zcc.toArray 40)):=hT.below hb0 hT.pos;have hp:=hT.pos;go_enter Tryz.func41,Tryz.ntmps41;go_upto_region 1 with fail;go_cut [26] (fun z wx=>z= .bool false∧wx=((w.alloc (.cells #[.int .u8 tos,.int .u16 id,.bool keep,.int .u8 ttl,.int .u8 proto,.int .u32 src,.int .u32 dst,.slice ao zo.length coo,sd] 40)).alloc (.cells #[.int .u16 cl,.bool hs,.bool ha,.int .u32 sq,.int .u32 ak,.slice am zd.length cm] 114)).alloc (.cells zcc.toArray 40))
 case first=>
  cases hs
  ·have hq:(sq !=0)=false:=by simp[grf]at hg;simp[hg.1]
   cases ha
   ·have hk:(ak !=0)=false:=by simp[grf]at hg;simp[hg.2]
    clear hg;go_wp2_with fail;go_meet
    case rel=>exact⟨rfl,rfl⟩
   ·clear hg
    go_wp2_with fail;go_meet
    case rel=>exact⟨rfl,rfl⟩
  ·cases ha
   ·have hk:(ak !=0)=false:=by simp[grf]at hg;simp[hg]
    clear hg;go_wp2_with fail;go_meet
    case rel=>exact⟨rfl,rfl⟩
   ·clear hg
    go_wp2_with fail;go_meet
    case rel=>exact⟨rfl,rfl⟩
 case rest=>
  obtain⟨rfl,rfl⟩:=hcut;go_upto_if 29 with fail
  have p0:(((w.alloc (.cells #[.int .u8 tos,.int .u16 id,.bool keep,.int .u8 ttl,.int .u8 proto,.int .u32 src,.int .u32 dst,.slice ao zo.length coo,sd] 40)).alloc (.cells #[.int .u16 cl,.bool hs,.bool ha,.int .u32 sq,.int .u32 ak,.slice am zd.length cm] 114)).alloc (.cells zcc.toArray 40)).heap[w.heap.size]? =some (.cells #[.int .u8 tos,.int .u16 id,.bool keep,.int .u8 ttl,.int .u8 proto,.int .u32 src,.int .u32 dst,.slice ao zo.length coo,sd] 40):=(Below.heap_alloc _ _ _ (by simp;omega)).trans ((Below.heap_alloc _ _ _ (by simp)).trans (heap_alloc_new w _))
  have f0:(((w.alloc (.cells #[.int .u8 tos,.int .u16 id,.bool keep,.int .u8 ttl,.int .u8 proto,.int .u32 src,.int .u32 dst,.slice ao zo.length coo,sd] 40)).alloc (.cells #[.int .u16 cl,.bool hs,.bool ha,.int .u32 sq,.int .u32 ak,.slice am zd.length cm] 114)).alloc (.cells zcc.toArray 40)).heap[w.heap.size+1]? =some (.cells #[.int .u16 cl,.bool hs,.bool ha,.int .u32 sq,.int .u32 ak,.slice am zd.length cm] 114):=by
   have:=heap_alloc_new (w.alloc (.cells #[.int .u8 tos,.int .u16 id,.bool keep,.int .u8 ttl,.int .u8 proto,.int .u32 src,.int .u32 dst,.slice ao zo.length coo,sd] 40)) (.cells #[.int .u16 cl,.bool hs,.bool ha,.int .u32 sq,.int .u32 ak,.slice am zd.length cm] 114);rw[World.size_alloc]at this;exact(Below.heap_alloc _ _ _ (by simp)).trans this
  have r0:(((w.alloc (.cells #[.int .u8 tos,.int .u16 id,.bool keep,.int .u8 ttl,.int .u8 proto,.int .u32 src,.int .u32 dst,.slice ao zo.length coo,sd] 40)).alloc (.cells #[.int .u16 cl,.bool hs,.bool ha,.int .u32 sq,.int .u32 ak,.slice am zd.length cm] 114)).alloc (.cells zcc.toArray 40)).heap[w.heap.size+1+1]? =some (.cells zcc.toArray 40 (0,0)):=by
   have:=heap_alloc_new ((w.alloc (.cells #[.int .u8 tos,.int .u16 id,.bool keep,.int .u8 ttl,.int .u8 proto,.int .u32 src,.int .u32 dst,.slice ao zo.length coo,sd] 40)).alloc (.cells #[.int .u16 cl,.bool hs,.bool ha,.int .u32 sq,.int .u32 ak,.slice am zd.length cm] 114)) (.cells zcc.toArray 40);simpa using this
  have hs0:(((w.alloc (.cells #[.int .u8 tos,.int .u16 id,.bool keep,.int .u8 ttl,.int .u8 proto,.int .u32 src,.int .u32 dst,.slice ao zo.length coo,sd] 40)).alloc (.cells #[.int .u16 cl,.bool hs,.bool ha,.int .u32 sq,.int .u32 ak,.slice am zd.length cm] 114)).alloc (.cells zcc.toArray 40)).heap.size=w.heap.size+3:=by simp
  have HS0:=zAc hs0;have P0:=zAc p0;have F0:=zAc f0;have R0:=zAc r0;clear hs0 p0 f0 r0 hg;generalize ((w.alloc (.cells #[.int .u8 tos,.int .u16 id,.bool keep,.int .u8 ttl,.int .u8 proto,.int .u32 src,.int .u32 dst,.slice ao zo.length coo,sd] 40)).alloc (.cells #[.int .u16 cl,.bool hs,.bool ha,.int .u32 sq,.int .u32 ak,.slice am zd.length cm] 114)).alloc (.cells zcc.toArray 40)=W0 at*;go_cut [6,7] (fun z v wx=>z= .int .i64 (bI hs 1)∧Ow (w.heap.size+3) wx v (zGg hs sq)∧Later W0 wx)
  case first=>
   have K0:=zAa F0.out;cases hs
   ·go_wp2_with fail
    go_meet
    case rel=>exact⟨rfl,.inl ⟨rfl,rfl⟩,Later.refl _⟩
   ·go_wp2_with fail
    refine(zIc sq hsq W0).mono ?_;rintro e w1 ⟨a1,rfl,hO1,hb1⟩;have k1:=heap_alloc_new w1 (.cells [.slice none 0 0,.slice a1 4 4].toArray 26);have hbA:Later w1 (w1.alloc (.cells [.slice none 0 0,.slice a1 4 4].toArray 26)):=bA _ _;clear K0;go_wp2_with fail;generalize w1.alloc (.cells #[.slice none 0 0,.slice a1 4 4] 26)=w2 at*;refine(zEe w1.heap.size 26 [.slice none 0 0,.slice a1 4 4] [[],zGg true sq] w2 k1 ⟨zEb _,hO1.rd.later hbA,trivial⟩ (by simp) (by simp[zGg])).mono ?_;rintro e w3 ⟨v3,rfl,hO3,hb3⟩;have hO4:=Ow.of_row hO3;obtain⟨a3,c3,rfl,_,_⟩:=hO4.slice;go_wp2_with fail;go_meet
    case rel=>exact⟨rfl,(by simpa using hO4.mono (by have:=hb1.size;have:=hbA.size;have:=HS0.out;omega)),Later.trans hb1 (Later.trans hbA hb3)⟩
  case rest=>
   obtain⟨rfl,hO7,hL1⟩:=hcut;have K1:=zAa ((hL1.block (w.heap.size+1) (by have:=HS0.out;omega)).trans F0.out);go_upto_if 39 with fail
   go_cut [6,7] (fun z v wx=>z= .int .i64 (bI hs 1+bI ha 2)∧Ow (w.heap.size+3) wx v (zGg hs sq++zGg ha ak)∧Later W0 wx)
   case first=>
    have hb1:bI hs 1=0∨bI hs 1=1:=by cases hs<;>simp[bI]
    cases ha
    ·go_wp2_with fail
     go_meet
     case rel=>exact⟨by simp[bI],(by simpa[zGg]using hO7),hL1⟩
    ·have hor:bits .or .i64 (bI hs 1) 2=bI hs 1+bI true 2:=by cases hs<;>rfl
     obtain⟨a7,c7,rfl,_,_⟩:=hO7.slice;obtain⟨n7,hn7⟩:∃n,(zGg hs sq).length=n:=⟨_,rfl⟩;rw[hn7]at hO7⊢;have HN7:=zAc hn7;have hn8:n7≤4:=by rw[←hn7,zDh];split<;>omega
     clear hn7;go_wp2_with fail;refine(zIc ak hak wc).mono ?_;rintro e w1 ⟨a1,rfl,hO1,hb1⟩;have k1:=heap_alloc_new w1 (.cells [.slice a7 n7 c7,.slice a1 4 4].toArray 26);have hbA:Later w1 (w1.alloc (.cells [.slice a7 n7 c7,.slice a1 4 4].toArray 26)):=bA _ _;clear K1;go_wp2_with fail;generalize w1.alloc (.cells #[.slice a7 n7 c7,.slice a1 4 4] 26)=w2 at*;refine(zEe w1.heap.size 26 [.slice a7 n7 c7,.slice a1 4 4] [zGg hs sq,zGg true ak] w2 k1 ⟨(hO7.rd.later (Later.trans hb1 hbA)),hO1.rd.later hbA,trivial⟩ (by simp) (by simp only[List.flatten_cons,List.flatten_nil,List.append_nil,List.length_append,HN7.out,zDh];simp;omega)).mono ?_;rintro e w3 ⟨v3,rfl,hO3,hb3⟩;have hO4:=Ow.of_row hO3;obtain⟨a3,c3,rfl,_,_⟩:=hO4.slice;go_wp2_with fail;go_meet
     case rel=>exact⟨rfl,(by simpa using hO4.mono (by have:=hb1.size;have:=hbA.size;have:=hL1.size;have:=HS0.out;omega)),hL1.trans (Later.trans hb1 (Later.trans hbA hb3))⟩
   case rest=>
    obtain⟨rfl,hO7,hL2⟩:=hcut;clear K1;go_upto_region 11 with fail;go_cut [8] (fun p wx=>∃fb,p= .pointer (some ⟨fb,0,none⟩)∧w.heap.size+3≤fb∧wx.heap[fb]? =some (.cells #[.int .u8 (32+bI hs 16),.int .u8 (1+bI ha 128),.int .u8 136,.int .u8 11] 167 (0,0))∧Later W0 wx∧Later wc wx)
    case first=>
     have hTc:=hT0.later hL2;cases hs
     ·cases ha
      ·have T0:=hTc 0 (by omega)
       have T1:=hTc 1 (by omega);have T2:=hTc 2 (by omega);have T3:=hTc 3 (by omega);simp only[show bI false 1+bI false 2=(0:Int)from rfl];simp[tab]at T0 T1 T2 T3
       have k1:=heap_alloc_new wc (.cells #[.int .u8 32,.int .u8 1,.int .u8 136,.int .u8 11] 167);clear hTc;go_wp2_with fail;go_meet
       case rel=>exact⟨wc.heap.size,rfl,(by have:=hL2.size;have:=HS0.out;omega),k1,hL2.trans (bA _ _),bA _ _⟩
      ·have T0:=hTc 8 (by omega)
       have T1:=hTc 9 (by omega);have T2:=hTc 10 (by omega);have T3:=hTc 11 (by omega);simp only[show bI false 1+bI true 2=(2:Int)from rfl];simp[tab]at T0 T1 T2 T3
       have k1:=heap_alloc_new wc (.cells #[.int .u8 32,.int .u8 129,.int .u8 136,.int .u8 11] 167);clear hTc;go_wp2_with fail;go_meet
       case rel=>exact⟨wc.heap.size,rfl,(by have:=hL2.size;have:=HS0.out;omega),k1,hL2.trans (bA _ _),bA _ _⟩
     ·cases ha
      ·have T0:=hTc 4 (by omega)
       have T1:=hTc 5 (by omega);have T2:=hTc 6 (by omega);have T3:=hTc 7 (by omega);simp only[show bI true 1+bI false 2=(1:Int)from rfl];simp[tab]at T0 T1 T2 T3
       have k1:=heap_alloc_new wc (.cells #[.int .u8 48,.int .u8 1,.int .u8 136,.int .u8 11] 167);clear hTc;go_wp2_with fail;go_meet
       case rel=>exact⟨wc.heap.size,rfl,(by have:=hL2.size;have:=HS0.out;omega),k1,hL2.trans (bA _ _),bA _ _⟩
      ·have T0:=hTc 12 (by omega)
       have T1:=hTc 13 (by omega);have T2:=hTc 14 (by omega);have T3:=hTc 15 (by omega);simp only[show bI true 1+bI true 2=(3:Int)from rfl];simp[tab]at T0 T1 T2 T3
       have k1:=heap_alloc_new wc (.cells #[.int .u8 48,.int .u8 129,.int .u8 136,.int .u8 11] 167);clear hTc;go_wp2_with fail;go_meet
       case rel=>exact⟨wc.heap.size,rfl,(by have:=hL2.size;have:=HS0.out;omega),k1,hL2.trans (bA _ _),bA _ _⟩
    case rest=>
     obtain⟨fb,rfl,hfb,hfk,hL3,hL23⟩:=hcut;have hO8:=hO7.later hL23;have pW:=(hL3.block w.heap.size (by have:=HS0.out;omega)).trans P0.out;have fW:=(hL3.block (w.heap.size+1) (by have:=HS0.out;omega)).trans F0.out;have rW:=(hL3.block (w.heap.size+1+1) (by have:=HS0.out;omega)).trans R0.out;have hsW:w.heap.size+3≤wc.heap.size:=by have:=hL3.size;have:=HS0.out;omega
     have hfbW:fb<wc.heap.size:=(eS hfk);have hwc:Below w.heap.size w wc:=hb0.trans (hL3.mono (by have:=HS0.out;omega))
     have hΦ0:zPa (fun arr W=>(flt zo.length (grn hs ha zd.length)≠0∧arr=zcc.toArray)∨(flt zo.length (grn hs ha zd.length)=0∧∃ao co ad cd,arr=#[.int .u8 tos,.int .u16 id,.bool keep,.int .u8 ttl,.int .u8 47,.int .u32 src,.int .u32 dst,.slice ao zo.length co,.slice ad (grn hs ha zd.length) cd]∧Ow (w.heap.size+3) W (.slice ao zo.length co) zo∧Ow (w.heap.size+3) W (.slice ad (grn hs ha zd.length) cd) (grb cl hs ha sq ak zd))):=by
      rintro arr A B l (h|⟨h,ao,co,ad,cd,h1,h2,h3⟩)
      ·exact .inl h
      ·exact .inr ⟨h,ao,co,ad,cd,h1,h2.later l,h3.later l⟩
     obtain⟨Φ,HΦ⟩:∃Φ:Array Value→World→Prop,Hid (Φ=(fun arr W=>(flt zo.length (grn hs ha zd.length)≠0∧arr=zcc.toArray)∨(flt zo.length (grn hs ha zd.length)=0∧∃ao co ad cd,arr=#[.int .u8 tos,.int .u16 id,.bool keep,.int .u8 ttl,.int .u8 47,.int .u32 src,.int .u32 dst,.slice ao zo.length co,.slice ad (grn hs ha zd.length) cd]∧Ow (w.heap.size+3) W (.slice ao zo.length co) zo∧Ow (w.heap.size+3) W (.slice ad (grn hs ha zd.length) cd) (grb cl hs ha sq ak zd)))):=⟨_,rfl⟩;have hΦ:zPa Φ:=by rw[HΦ.out];exact hΦ0
     clear hΦ0;have hLn:=(Ow.rd hO8).slice;obtain⟨an,cn,rfl,_,_⟩:=hO8.slice;generalize hln:(zGg hs sq++zGg ha ak).length=ln at hO8;have HLN:=zAc hln;clear hln hLn;go_wp2_with fail;refine zAn (R:=KR (w.heap.size+1+1) 9 40 Φ) (Keep.pre _ _ _) (fun w=>KR.of hΦ (Later.drew w)) 20 rfl (by kernel_rfl) (fun W1 hW1=> ?_);have hg1:Wr (w.heap.size+1+1) 9 40 W1:=hW1.2.1 ⟨_,rW,rfl⟩;have hbut:∀w1,KR (w.heap.size+1+1) 9 40 Φ W1 w1→But (fun b=>b=w.heap.size+1+1) wc w1:=fun w1 h=>hW1.1.trans h.1;have hbel:∀w1,KR (w.heap.size+1+1) 9 40 Φ W1 w1→Below w.heap.size w w1:=fun w1 h=>hwc.trans ((hbut w1 h).below (by omega) (fun k h e=>by omega));have hq:∀w1,KR (w.heap.size+1+1) 9 40 Φ W1 w1→∀j,w1.cell? ⟨w.heap.size,j,none⟩=#[Value.int .u8 tos,.int .u16 id,.bool keep,.int .u8 ttl,.int .u8 proto,.int .u32 src,.int .u32 dst,.slice ao zo.length coo,sd][j]? :=fun w1 h=>zAa (((hbut w1 h).block w.heap.size (by omega) (by omega)).trans pW);have hfr:∀w1,KR (w.heap.size+1+1) 9 40 Φ W1 w1→∀j,w1.cell? ⟨w.heap.size+1,j,none⟩=#[Value.int .u16 cl,.bool hs,.bool ha,.int .u32 sq,.int .u32 ak,.slice am zd.length cm][j]? :=fun w1 h=>zAa (((hbut w1 h).block (w.heap.size+1) (by omega) (by omega)).trans fW);refine rX (Keep.pre _ _ _) 0 ?_;refine rX (Keep.pre _ _ _) 1 ?_;refine rX (Keep.pre _ _ _) 2 ?_;refine rX (Keep.pre _ _ _) 3 ?_;refine rX (Keep.pre _ _ _) 4 ?_;refine rX (Keep.pre _ _ _) 5 ?_;refine rX (Keep.pre _ _ _) 7 ?_;refine rX (Keep.pre _ _ _) 8 ?_;refine rX (Keep.pre _ _ _) 10 ?_
     refine rX (Keep.pre _ _ _) 11 ?_;refine rX (Keep.pre _ _ _) 12 ?_;refine rO 6 (fun W2 hW2=> ?_);refine zAi 87 #[.int .u16 ((zd.length:Int) % 65536)] (by go_simp;rw[IntKind.wrap_u16]) ?_;refine(zMn ((zd.length:Int) % 65536) (by omega) W2).mono ?_;rintro e W3 ⟨a3,rfl,hO3,hb3⟩;have hW13:=hW2.trans (KR.of hΦ hb3);refine⟨KR.of hΦ hb3,?_⟩;simp only[Act.put,sA,sB,sC];refine rO 9 (fun W3b hW3b=> ?_);refine zAi 87 #[.int .u16 cl] (by go_simp) ?_;refine(zMn cl hcl W3b).mono ?_;rintro e W4 ⟨a4,rfl,hO4,hb4⟩;have hW14:=(hW13.trans hW3b).trans (KR.of hΦ hb4);refine⟨KR.of hΦ hb4,?_⟩;simp only[Act.put,sA,sB,sC];refine rO 13 (fun W5 hW5=> ?_);unfold Oper.wp;go_simp;have k5:=heap_alloc_new W5 (.cells [.slice (some ⟨fb,0,none⟩) 4 4,.slice a3 2 2,.slice a4 2 2,.slice an ln cn,.slice am zd.length cm].toArray 26);have hbA:Later W5 (W5.alloc (.cells [.slice (some ⟨fb,0,none⟩) 4 4,.slice a3 2 2,.slice a4 2 2,.slice an ln cn,.slice am zd.length cm].toArray 26)):=bA _ _;refine⟨KR.of hΦ hbA,?_⟩;have hW15a:=(hW14.trans hW5).trans (KR.of hΦ hbA);have hs5:w.heap.size+3≤W5.heap.size:=Nat.le_trans hsW (hbut W5 (hW14.trans hW5)).size;have hs2:w.heap.size+3≤W2.heap.size:=Nat.le_trans hsW (hbut W2 hW2).size;have hs3:w.heap.size+3≤W3b.heap.size:=Nat.le_trans hsW (hbut W3b (hW13.trans hW3b)).size;generalize W5.alloc (.cells #[.slice (some ⟨fb,0,none⟩) 4 4,.slice a3 2 2,.slice a4 2 2,.slice an ln cn,.slice am zd.length cm] 26)=W5a at*;refine rO 14 (fun W6a hW6a=> ?_)
     have hW16a:=hW15a.trans hW6a;have k6:=(hW6a.1.block W5.heap.size (eS k5) (by omega)).trans k5
     have q1:Rd W6a.heap.size W6a (.slice (some ⟨fb,0,none⟩) 4 4) [if hs then 48 else 32,if ha then 129 else 1,136,11]:=by
      have:=Rd.block4 (((hbut W6a hW16a).block fb hfbW (by omega)).trans hfk);cases hs<;>cases ha<;>exact this
     have q2:=(hO3.but ((hW3b.trans (KR.of hΦ hb4)).trans ((hW5.trans (KR.of hΦ hbA)).trans hW6a)).1 (fun b h e=>by omega)).rd;have q3:=(hO4.but ((hW5.trans (KR.of hΦ hbA)).trans hW6a).1 (fun b h e=>by omega)).rd;have q4:=(hO8.but (hbut W6a hW16a) (fun b h e=>by omega)).rd;have q5:Rd W6a.heap.size W6a (.slice am zd.length cm) zd:=(hIm.below (hbel W6a hW16a)).mono (hbel W6a hW16a).size;refine zAi 84 #[.slice (some ⟨W5.heap.size,0,none⟩) 5 5] (by go_simp) ?_;refine(zEe W5.heap.size 26 [.slice (some ⟨fb,0,none⟩) 4 4,.slice a3 2 2,.slice a4 2 2,.slice an ln cn,.slice am zd.length cm] [[if hs then 48 else 32,if ha then 129 else 1,136,11],[(zd.length:Int) % 65536/256,(zd.length:Int) % 65536 % 256],[cl/256,cl % 256],zGg hs sq++zGg ha ak,zd] W6a k6 ⟨q1,q2,q3,q4,q5,trivial⟩ (by simp) (by rw[zMt,zC5];unfold grn;split<;>split<;>omega)).mono ?_;rintro e W7 ⟨v7,rfl,hO7r,hb7⟩;rw[zMt]at hO7r;have hO7w:=Ow.of_row hO7r;clear hO7r q1 q2 q3 q4 q5;obtain⟨a7,c7,rfl,_,_⟩:=hO7w.slice;rw[zC5]at hO7w⊢;have hW17:=hW16a.trans (KR.of hΦ hb7);have hs6:w.heap.size+3≤W6a.heap.size:=Nat.le_trans hsW (hbut W6a hW16a).size;refine⟨KR.of hΦ hb7,?_⟩;simp only[Act.put,sA,sB,sC];refine rO 15 (fun W8a hW8a=> ?_);have hW18:=hW17.trans hW8a;have hO8w:=hO7w.but hW8a.1 (fun b h e=>by omega)
     refine zAi 86 #[.agg #[.int .u8 tos,.int .u16 id,.bool keep,.int .u8 ttl,.int .u8 proto,.int .u32 src,.int .u32 dst,.slice ao zo.length coo,sd],.int .u8 47,.slice a7 (grn hs ha zd.length) c7] (by go_simp) ?_;refine(zKr tos id ttl proto src dst 47 keep _ _ _ zo (grb cl hs ha sq ak zd) W8a hBo ((hIo.below (hbel W8a hW18)).mono (hbel W8a hW18).size) hO8w.rd h1 (by rw[zC5];unfold grn;split<;>split<;>omega) ht hid htt (by omega) hsr hds).mono ?_;rw[zC5];have hs8:w.heap.size+3≤W8a.heap.size:=Nat.le_trans hsW (hbut W8a hW18).size;rintro e W9 ⟨hb9,⟨hf,rfl⟩|⟨hf,ao5,co5,rfl,hO5⟩⟩
     ·have hW15:=hW18.trans (KR.of hΦ hb9)
      refine⟨KR.of hΦ hb9,?_⟩;have HF:=zAc hf;clear hf;simp only[Act.put,sA,sB,sC];refine rX (Keep.pre _ _ _) 16 ?_;refine rX (Keep.pre _ _ _) 17 ?_;refine rO 18 (fun W6 hW6=> ?_);have hW16:=hW15.trans hW6;have hg6:=hW16.2.1 hg1;have hg6':=hg6;obtain⟨cur,hcur,hsz⟩:=hg6';have k6:∀j,W6.cell? ⟨w.heap.size+1+1,j,none⟩=cur[j]? :=zAa hcur;have f6:∀j,W6.frozen? ⟨w.heap.size+1+1,j,none⟩=false:=zAd hcur;unfold Oper.wp;go_simp;generalize hV7:World.setCell _ ⟨w.heap.size+1+1,8,none⟩ _=V7;have hV8:V7=zAj W6 (w.heap.size+1+1) 0 zcc:=hV7.symm;have hSt:=KR.store (Φ:=Φ) zcc hg6 rfl (by rw[HΦ.out];exact .inl ⟨HF.out,rfl⟩);rw[←hV8]at hSt;clear hV7 hV8 k6 f6;refine⟨hSt.1,?_⟩;refine rX (Keep.pre _ _ _) 19 ?_;refine rD (fun W8 hW8=> ?_);obtain⟨arr,hh8,hP8⟩:=hW8.2.2 hSt.2;have hw8:=hbel W8 ((hW16.trans hSt.1).trans hW8);clear hSt hq hfr hbut;rw[HΦ.out]at hP8;rcases hP8 with⟨hf8,rfl⟩|⟨hf8,ao8,co8,ad8,cd8,rfl,hO8,hD8⟩
      ·have r8:=zAa hh8
       go_wp2_with fail;exact bodyPost_ret (v:= .tuple #[.agg zcc.toArray,.int .i64 (flt zo.length (grn hs ha zd.length))]) (by simp[results,Tryz.results41,go_sem,r8]) rfl ⟨hw8,.inl ⟨hf8,rfl⟩⟩
      ·exact absurd hf8 HF.out
     ·have hW15:=hW18.trans (KR.of hΦ hb9)
      refine⟨KR.of hΦ hb9,?_⟩;have HF:=zAc hf;clear hf;simp only[Act.put,sA,sB,sC];refine rX (Keep.pre _ _ _) 16 ?_;refine rX (Keep.pre _ _ _) 17 ?_;refine rO 18 (fun W6 hW6=> ?_);have hW16:=hW15.trans hW6;have hg6:=hW16.2.1 hg1;have hg6':=hg6;obtain⟨cur,hcur,hsz⟩:=hg6';have k6:∀j,W6.cell? ⟨w.heap.size+1+1,j,none⟩=cur[j]? :=zAa hcur;have f6:∀j,W6.frozen? ⟨w.heap.size+1+1,j,none⟩=false:=zAd hcur;unfold Oper.wp;go_simp;generalize hV7:World.setCell _ ⟨w.heap.size+1+1,8,none⟩ _=V7;have hV8:V7=zAj W6 (w.heap.size+1+1) 0 [.int .u8 tos,.int .u16 id,.bool keep,.int .u8 ttl,.int .u8 47,.int .u32 src,.int .u32 dst,.slice ao5 zo.length co5,.slice a7 (grn hs ha zd.length) c7]:=hV7.symm;have hSt:=KR.store (Φ:=Φ) [.int .u8 tos,.int .u16 id,.bool keep,.int .u8 ttl,.int .u8 47,.int .u32 src,.int .u32 dst,.slice ao5 zo.length co5,.slice a7 (grn hs ha zd.length) c7] hg6 rfl (by rw[HΦ.out];exact .inr ⟨HF.out,ao5,co5,a7,c7,rfl,((hO5.but hW6.1 (fun b h e=>by omega)).but (zB3 (rb:=w.heap.size+1+1) _ _) (fun b h e=>by omega)).mono (by omega),(((hO8w.later hb9).but hW6.1 (fun b h e=>by omega)).but (zB3 (rb:=w.heap.size+1+1) _ _) (fun b h e=>by omega)).mono (by omega)⟩);rw[←hV8]at hSt;clear hV7 hV8 k6 f6;refine⟨hSt.1,?_⟩;refine rX (Keep.pre _ _ _) 19 ?_;refine rD (fun W8 hW8=> ?_);obtain⟨arr,hh8,hP8⟩:=hW8.2.2 hSt.2;have hw8:=hbel W8 ((hW16.trans hSt.1).trans hW8);clear hSt hq hfr hbut;rw[HΦ.out]at hP8;rcases hP8 with⟨hf8,rfl⟩|⟨hf8,ao8,co8,ad8,cd8,rfl,hO8,hD8⟩
      ·exact absurd HF.out hf8
      ·have r8:=zAa hh8
       go_wp2_with fail;exact bodyPost_ret (v:= .tuple #[.agg #[.int .u8 tos,.int .u16 id,.bool keep,.int .u8 ttl,.int .u8 47,.int .u32 src,.int .u32 dst,.slice ao8 zo.length co8,.slice ad8 (grn hs ha zd.length) cd8],.int .i64 0]) (by simp[results,Tryz.results41,go_sem,r8]) rfl ⟨hw8,.inr ⟨hf8,ao8,co8,ad8,cd8,rfl,hO8.mono (by omega),hD8.mono (by omega)⟩⟩
theorem equalIn_u8(dd:Nat)(x y:Int)(w:World):(Op.equalIn (dd+1) 5 (.int .u8 x) (.int .u8 y)).run Tryz.prog w= .ok (x==y) w:=by
 have hu:=Tryz.underlying5;simp[Op.equalIn,run_underlying hu]
theorem eqItems_u8(j:Nat)(is:List Nat)(xs ys:Array Value)(x y:Int)(w:World)(hx:xs[j]? =some (.int .u8 x))(hy:ys[j]? =some (.int .u8 y)):
  (Op.eqItems 9999 5 1 xs ys (j::is)).run Tryz.prog w=if(x==y)=true then(Op.eqItems 9999 5 1 xs ys is).run Tryz.prog w else .ok false w:=by
 obtain⟨i0,hi,hz0,hz1,hz2⟩:=info_parts zBi;have hu:=Tryz.underlying5
 have hpx:(part 5 xs (j*1)).run Tryz.prog w= .ok (.int .u8 x) w:=by
  obtain⟨hlt,hxe⟩:=Array.getElem?_eq_some_iff.1 hx;simp[part,run_sizeOf w hi,hz1,hx,hlt,hxe,go_sem]
 have hpy:(part 5 ys (j*1)).run Tryz.prog w= .ok (.int .u8 y) w:=by
  obtain⟨hlt,hxe⟩:=Array.getElem?_eq_some_iff.1 hy;simp[part,run_sizeOf w hi,hz1,hy,hlt,hxe,go_sem]
 have he:(Op.equalIn 9999 5 (.int .u8 x) (.int .u8 y)).run Tryz.prog w= .ok (x==y) w:=equalIn_u8 9998 x y w;simp only[Op.eqItems,Sem.run_bind,hpx,hpy,he,Result.andThen_ok];cases (x==y)<;>simp
theorem zMu(a b c d x y z u:Int)(w:World):(Op.equalIn 10000 167 (.agg #[.int .u8 a,.int .u8 b,.int .u8 c,.int .u8 d]) (.agg #[.int .u8 x,.int .u8 y,.int .u8 z,.int .u8 u])).run Tryz.prog w= .ok (a==x && (b==y && (c==z && d==u))) w:=by
 obtain⟨i0,hi,hz0,hz1,hz2⟩:=info_parts zBi;have hc:Tryz.prog.cellsOf 5=1:=by kernel_rfl
 have h:=run_equalIn_array (P:=Tryz.prog) (w:=w) 9999 #[.int .u8 a,.int .u8 b,.int .u8 c,.int .u8 d] #[.int .u8 x,.int .u8 y,.int .u8 z,.int .u8 u] Tryz.underlying167 hi;rw[hc,show List.range 4=[0,1,2,3]from rfl,eqItems_u8 0 _ _ _ a x w rfl rfl,eqItems_u8 1 _ _ _ b y w rfl rfl,eqItems_u8 2 _ _ _ c z w rfl rfl,eqItems_u8 3 _ _ _ d u w rfl rfl]at h;rw[h];cases (a==x)<;>cases (b==y)<;>cases (c==z)<;>cases (d==u)<;>simp[Op.eqItems]
theorem idx_0(w:World):(Instr.index 188 (.agg #[.int .u8 32,.int .u8 1,.int .u8 136,.int .u8 11,.int .u8 48,.int .u8 1,.int .u8 136,.int .u8 11,.int .u8 32,.int .u8 129,.int .u8 136,.int .u8 11,.int .u8 48,.int .u8 129,.int .u8 136,.int .u8 11]) (.int .i64 0)).run Tryz.prog w= .ok (.agg #[.int .u8 32,.int .u8 1,.int .u8 136,.int .u8 11]) w:=by kernel_rfl
theorem idx_1(w:World):(Instr.index 188 (.agg #[.int .u8 32,.int .u8 1,.int .u8 136,.int .u8 11,.int .u8 48,.int .u8 1,.int .u8 136,.int .u8 11,.int .u8 32,.int .u8 129,.int .u8 136,.int .u8 11,.int .u8 48,.int .u8 129,.int .u8 136,.int .u8 11]) (.int .i64 1)).run Tryz.prog w= .ok (.agg #[.int .u8 48,.int .u8 1,.int .u8 136,.int .u8 11]) w:=by kernel_rfl
theorem idx_2(w:World):(Instr.index 188 (.agg #[.int .u8 32,.int .u8 1,.int .u8 136,.int .u8 11,.int .u8 48,.int .u8 1,.int .u8 136,.int .u8 11,.int .u8 32,.int .u8 129,.int .u8 136,.int .u8 11,.int .u8 48,.int .u8 129,.int .u8 136,.int .u8 11]) (.int .i64 2)).run Tryz.prog w= .ok (.agg #[.int .u8 32,.int .u8 129,.int .u8 136,.int .u8 11]) w:=by kernel_rfl
theorem idx_3(w:World):(Instr.index 188 (.agg #[.int .u8 32,.int .u8 1,.int .u8 136,.int .u8 11,.int .u8 48,.int .u8 1,.int .u8 136,.int .u8 11,.int .u8 32,.int .u8 129,.int .u8 136,.int .u8 11,.int .u8 48,.int .u8 129,.int .u8 136,.int .u8 11]) (.int .i64 3)).run Tryz.prog w= .ok (.agg #[.int .u8 48,.int .u8 129,.int .u8 136,.int .u8 11]) w:=by kernel_rfl
def zFy (e0 e1 e2 e3:Bool):Nat:=bif e0 then 0 else bif e1 then 1 else bif e2 then 2 else bif e3 then 3 else 4
theorem pick4_le:∀(e0 e1 e2 e3:Bool),zFy e0 e1 e2 e3≤4:=by decide
theorem pick4_0:∀(e0 e1 e2 e3:Bool),0≤zFy e0 e1 e2 e3→e0=decide (zFy e0 e1 e2 e3=0):=by decide
theorem pick4_1:∀(e0 e1 e2 e3:Bool),1≤zFy e0 e1 e2 e3→e1=decide (zFy e0 e1 e2 e3=1):=by decide
theorem pick4_2:∀(e0 e1 e2 e3:Bool),2≤zFy e0 e1 e2 e3→e2=decide (zFy e0 e1 e2 e3=2):=by decide
theorem pick4_3:∀(e0 e1 e2 e3:Bool),3≤zFy e0 e1 e2 e3→e3=decide (zFy e0 e1 e2 e3=3):=by decide
def bgo (a b c d:Int):Nat:=zFy (a==32 && (b==1 && (c==136 && d==11))) (a==48 && (b==1 && (c==136 && d==11))) (a==32 && (b==129 && (c==136 && d==11))) (a==48 && (b==129 && (c==136 && d==11)))
def bgv (n:Nat):Int:=if n=4 then 0 else n
def bgk (n:Nat):Bool:=n !=4
theorem bgo_le(a b c d:Int):bgo a b c d≤4:=pick4_le _ _ _ _
theorem bgo_0(a b c d:Int)(h:0≤bgo a b c d):(a==32 && (b==1 && (c==136 && d==11)))=decide (bgo a b c d=0):=pick4_0 _ _ _ _ h
theorem bgo_1(a b c d:Int)(h:1≤bgo a b c d):(a==48 && (b==1 && (c==136 && d==11)))=decide (bgo a b c d=1):=pick4_1 _ _ _ _ h
theorem bgo_2(a b c d:Int)(h:2≤bgo a b c d):(a==32 && (b==129 && (c==136 && d==11)))=decide (bgo a b c d=2):=pick4_2 _ _ _ _ h
theorem bgo_3(a b c d:Int)(h:3≤bgo a b c d):(a==48 && (b==129 && (c==136 && d==11)))=decide (bgo a b c d=3):=pick4_3 _ _ _ _ h
theorem zN4(a b c d:Int)(w:World)(hT:Tb w):
  Calls Tryz.prog 88 #[.agg #[.int .u8 a,.int .u8 b,.int .u8 c,.int .u8 d]] w fun e w'=>e= .returned (.tuple #[.int .i64 (bgv (bgo a b c d)),.bool (bgk (bgo a b c d))])∧Below w.heap.size w w':=by
 have hb0:Below w.heap.size w (w.alloc (.cells #[.int .u8 a,.int .u8 b,.int .u8 c,.int .u8 d] 167)):=bA _ _;have hk0:=heap_alloc_new w (.cells #[.int .u8 a,.int .u8 b,.int .u8 c,.int .u8 d] 167);have HK:=zAc hk0;clear hk0;have hT0:=hT.below hb0 hT.pos;have t0:=hT0 0 (by omega);have t1:=hT0 1 (by omega);have t2:=hT0 2 (by omega);have t3:=hT0 3 (by omega);have t4:=hT0 4 (by omega);have t5:=hT0 5 (by omega);have t6:=hT0 6 (by omega);have t7:=hT0 7 (by omega);have t8:=hT0 8 (by omega);have t9:=hT0 9 (by omega);have t10:=hT0 10 (by omega);have t11:=hT0 11 (by omega);have t12:=hT0 12 (by omega);have t13:=hT0 13 (by omega);have t14:=hT0 14 (by omega);have t15:=hT0 15 (by omega);simp[tab]at t0 t1 t2 t3 t4 t5 t6 t7 t8 t9 t10 t11 t12 t13 t14 t15
 have hle:=bgo_le a b c d;go_enter Tryz.func88,Tryz.ntmps88;go_wp2
 clear t0 t1 t2 t3 t4 t5 t6 t7 t8 t9 t10 t11 t12 t13 t14 t15
 go_loopw [7] (fun i wr=>∃k:Nat,k≤4∧i= .int .i64 (k:Int)∧k≤bgo a b c d∧wr.heap[w.heap.size]? =some (.cells #[.int .u8 a,.int .u8 b,.int .u8 c,.int .u8 d] 167 (0,0))∧Below w.heap.size w wr)
  (fun i _=>4-(intOf i).toNat)
 case atStart=>exact⟨0,by omega,rfl,by omega,HK.out,hb0⟩
 case round=>
  obtain⟨k,hk4,rfl,hkb,hbk,hnx⟩:=hrel;have hcase:k=4∨k=0∨k=1∨k=2∨k=3:=by omega
  rcases hcase with rfl|rfl|rfl|rfl|rfl
  ·have hd:bgo a b c d=4:=by omega
   have HD:=zAc hd;clear hd hle hkb;go_wp2
   go_ret2
   exact⟨by first|rfl|(rw[HD.out];rfl),hnx⟩
  ·have hE:=bgo_0 a b c d (by omega)
   have hq:=zMu a b c d 32 1 136 11 (wr.alloc (.cells #[.int .u8 32,.int .u8 1,.int .u8 136,.int .u8 11] 167));rw[hE]at hq;have hbA:=hnx.alloc hnx.size (.cells #[.int .u8 32,.int .u8 1,.int .u8 136,.int .u8 11] 167);have hkA:=(Below.heap_alloc wr (.cells #[.int .u8 32,.int .u8 1,.int .u8 136,.int .u8 11] 167) _ (eS hbk)).trans hbk;have K:=zAa hkA;have hix:=idx_0 wr;clear hE;by_cases hd:bgo a b c d=0
   ·rw[decide_eq_true hd]at hq
    have HD:=zAc hd;clear hd;go_wp2
    go_ret2
    exact⟨by first|rfl|(rw[HD.out];rfl),hbA⟩
   ·rw[decide_eq_false hd]at hq
    go_wp2
    go_roundw
    case rel=>exact⟨1,by omega,by go_num,by omega,hkA,hbA⟩
    case measure=>simp[intOf]
  ·have hE:=bgo_1 a b c d (by omega)
   have hq:=zMu a b c d 48 1 136 11 (wr.alloc (.cells #[.int .u8 48,.int .u8 1,.int .u8 136,.int .u8 11] 167));rw[hE]at hq;have hbA:=hnx.alloc hnx.size (.cells #[.int .u8 48,.int .u8 1,.int .u8 136,.int .u8 11] 167);have hkA:=(Below.heap_alloc wr (.cells #[.int .u8 48,.int .u8 1,.int .u8 136,.int .u8 11] 167) _ (eS hbk)).trans hbk;have K:=zAa hkA;have hix:=idx_1 wr;clear hE;by_cases hd:bgo a b c d=1
   ·rw[decide_eq_true hd]at hq
    have HD:=zAc hd;clear hd;go_wp2
    go_ret2
    exact⟨by first|rfl|(rw[HD.out];rfl),hbA⟩
   ·rw[decide_eq_false hd]at hq
    go_wp2
    go_roundw
    case rel=>exact⟨2,by omega,by go_num,by omega,hkA,hbA⟩
    case measure=>simp[intOf]
  ·have hE:=bgo_2 a b c d (by omega)
   have hq:=zMu a b c d 32 129 136 11 (wr.alloc (.cells #[.int .u8 32,.int .u8 129,.int .u8 136,.int .u8 11] 167));rw[hE]at hq;have hbA:=hnx.alloc hnx.size (.cells #[.int .u8 32,.int .u8 129,.int .u8 136,.int .u8 11] 167);have hkA:=(Below.heap_alloc wr (.cells #[.int .u8 32,.int .u8 129,.int .u8 136,.int .u8 11] 167) _ (eS hbk)).trans hbk;have K:=zAa hkA;have hix:=idx_2 wr;clear hE;by_cases hd:bgo a b c d=2
   ·rw[decide_eq_true hd]at hq
    have HD:=zAc hd;clear hd;go_wp2
    go_ret2
    exact⟨by first|rfl|(rw[HD.out];rfl),hbA⟩
   ·rw[decide_eq_false hd]at hq
    go_wp2
    go_roundw
    case rel=>exact⟨3,by omega,by go_num,by omega,hkA,hbA⟩
    case measure=>simp[intOf]
  ·have hE:=bgo_3 a b c d (by omega)
   have hq:=zMu a b c d 48 129 136 11 (wr.alloc (.cells #[.int .u8 48,.int .u8 129,.int .u8 136,.int .u8 11] 167));rw[hE]at hq;have hbA:=hnx.alloc hnx.size (.cells #[.int .u8 48,.int .u8 129,.int .u8 136,.int .u8 11] 167);have hkA:=(Below.heap_alloc wr (.cells #[.int .u8 48,.int .u8 129,.int .u8 136,.int .u8 11] 167) _ (eS hbk)).trans hbk;have K:=zAa hkA;have hix:=idx_3 wr;clear hE;by_cases hd:bgo a b c d=3
   ·rw[decide_eq_true hd]at hq
    have HD:=zAc hd;clear hd;go_wp2
    go_ret2
    exact⟨by first|rfl|(rw[HD.out];rfl),hbA⟩
   ·rw[decide_eq_false hd]at hq
    go_wp2
    go_roundw
    case rel=>exact⟨4,by omega,by go_num,by omega,hkA,hbA⟩
    case measure=>simp[intOf]
abbrev zf:List Value:=[.int .u16 0,.bool false,.bool false,.int .u32 0,.int .u32 0,.slice none 0 0]
theorem zK0(sv:Value)(zs:List Int)(hB:Mt.By zs)(w:World)(hI:Rd w.heap.size w sv zs):
  Calls Tryz.prog 89 #[sv,.int .i64 0] w fun e w'=>e= .returned (.tuple #[.agg #[.int .u16 (zAl zs 6),.bool false,.bool false,.int .u32 0,.int .u32 0,.slice none 0 0],.int .i64 8])∧Below w.heap.size w w':=by
 obtain⟨a,cap,rfl,hl1,hm1⟩:=hI.slice;have hb0:Below w.heap.size w (w.alloc (.cells zf.toArray 114)):=bA _ _;have r0:=heap_alloc_new w (.cells zf.toArray 114);have R0:=zAc r0;clear r0;have a1:bits .and .i64 0 1=0:=by decide+kernel
 have a2:bits .and .i64 0 2=0:=by decide+kernel
 go_enter Tryz.func89,Tryz.ntmps89;go_wp2_with fail;refine(zCo _ zs hB 6 _ (hI.below hb0)).mono ?_;rintro e w1 ⟨rfl,q1,hq1⟩;have hw1:Below w.heap.size w w1:=by rw[hq1];exact zAm hb0 q1
 have r1:w1.heap[w.heap.size]? =some (.cells zf.toArray 114 (0,0)):=by rw[hq1];exact R0.out
 have hs1:w.heap.size<w1.heap.size:=(eS r1);clear hq1 R0;have C1:=zAa r1;have D1:=zAd r1;go_wp2_with fail;generalize hV:World.setCell _ ⟨w.heap.size,5,none⟩ _=V8;have hV9:V8=zAj w1 w.heap.size 0 [.int .u16 (zAl zs 6),.bool false,.bool false,.int .u32 0,.int .u32 0,.slice none 0 0]:=hV.symm;have hb8:But (fun b=>b=w.heap.size) w1 V8:=by rw[hV9];exact zAf (E:=fun b=>b=w.heap.size) (n:=w.heap.size) rfl _ _ _ _ (But.refl _ _)
 have p8:=zAg [.int .u16 (zAl zs 6),.bool false,.bool false,.int .u32 0,.int .u32 0,.slice none 0 0] r1 rfl;rw[←hV9]at p8;clear hV hV9 C1 D1;have hw8:Below w.heap.size w V8:=hw1.trans (hb8.below hw1.size (fun k h e=>by omega));have p9:=(Below.heap_alloc V8 (.cells #[.int .u16 (zAl zs 6),.bool false,.bool false,.int .u32 0,.int .u32 0,.slice none 0 0] 114) _ (eS p8)).trans p8;have P9:=zAa p9;exact bodyPost_ret (v:= .tuple #[.agg #[.int .u16 (zAl zs 6),.bool false,.bool false,.int .u32 0,.int .u32 0,.slice none 0 0],.int .i64 8]) (by simp[results,Tryz.results89,go_sem,P9]) rfl ⟨rfl,hw8.alloc hw8.size _⟩
theorem zK1(sv:Value)(zs:List Int)(hB:Mt.By zs)(w:World)(hI:Rd w.heap.size w sv zs):
  Calls Tryz.prog 89 #[sv,.int .i64 1] w fun e w'=>e= .returned (.tuple #[.agg #[.int .u16 (zAl zs 6),.bool true,.bool false,.int .u32 (zAt zs 8),.int .u32 0,.slice none 0 0],.int .i64 12])∧Below w.heap.size w w':=by
 obtain⟨a,cap,rfl,hl1,hm1⟩:=hI.slice;have hb0:Below w.heap.size w (w.alloc (.cells zf.toArray 114)):=bA _ _;have r0:=heap_alloc_new w (.cells zf.toArray 114);have R0:=zAc r0;clear r0;have a1:bits .and .i64 1 1=1:=by decide+kernel
 have a2:bits .and .i64 1 2=0:=by decide+kernel
 go_enter Tryz.func89,Tryz.ntmps89;go_wp2_with fail;refine(zCo _ zs hB 6 _ (hI.below hb0)).mono ?_;rintro e w1 ⟨rfl,q1,hq1⟩;have hw1:Below w.heap.size w w1:=by rw[hq1];exact zAm hb0 q1
 have r1:w1.heap[w.heap.size]? =some (.cells zf.toArray 114 (0,0)):=by rw[hq1];exact R0.out
 have hs1:w.heap.size<w1.heap.size:=(eS r1);clear hq1 R0;have C1:=zAa r1;have D1:=zAd r1;have hA:=(Below.refl w1.heap.size w1).alloc (Nat.le_refl _) (.cells #[.int .u16 (zAl zs 6),.bool true,.bool false,.int .u32 0,.int .u32 0,.slice none 0 0] 114);have f2:=heap_alloc_new w1 (.cells #[.int .u16 (zAl zs 6),.bool true,.bool false,.int .u32 0,.int .u32 0,.slice none 0 0] 114);go_wp2_with fail;generalize w1.alloc (.cells #[.int .u16 (zAl zs 6),.bool true,.bool false,.int .u32 0,.int .u32 0,.slice none 0 0] 114)=w2 at*;have hw2:=hw1.trans (hA.mono hw1.size);have r2:=(hA.block w.heap.size hs1).trans r1;clear C1 D1;refine(zEv _ zs hB 8 _ (hI.below hw2)).mono ?_;rintro e w3 ⟨rfl,q3,hq3⟩;have hw3:Below w.heap.size w w3:=by rw[hq3];exact zAm hw2 q3
 have r3:w3.heap[w.heap.size]? =some (.cells zf.toArray 114 (0,0)):=by rw[hq3];exact r2
 have f3:w3.heap[w1.heap.size]? =some (.cells #[.int .u16 (zAl zs 6),.bool true,.bool false,.int .u32 0,.int .u32 0,.slice none 0 0] 114 (0,0)):=by rw[hq3];exact f2
 clear hq3;have K3:=zAa f3;have L3:=zAd f3;have f4:=zAh f3 3 (.int .u32 (zAt zs 8));have hw4:=hw3.setCell (p:=⟨w1.heap.size,3,none⟩) (Nat.le_of_lt hs1) (.int .u32 (zAt zs 8));have r4:=(Below.heap_setCell w3 ⟨w1.heap.size,3,none⟩ (.int .u32 (zAt zs 8)) w.heap.size (by simp;omega)).trans r3;have R4:=zAa r4;have S4:=zAd r4;have hne:¬w1.heap.size=w.heap.size:=by omega
 have hne2:¬w.heap.size=w1.heap.size:=by omega
 go_wp2_with fail;generalize w3.setCell ⟨w1.heap.size,3,none⟩ (.int .u32 (zAt zs 8))=w4 at*;clear K3 L3;generalize hV:World.setCell _ ⟨w.heap.size,5,none⟩ _=V8;have hV9:V8=zAj w4 w.heap.size 0 [.int .u16 (zAl zs 6),.bool true,.bool false,.int .u32 (zAt zs 8),.int .u32 0,.slice none 0 0]:=hV.symm;have hb8:But (fun b=>b=w.heap.size) w4 V8:=by rw[hV9];exact zAf (E:=fun b=>b=w.heap.size) (n:=w.heap.size) rfl _ _ _ _ (But.refl _ _)
 have p8:=zAg [.int .u16 (zAl zs 6),.bool true,.bool false,.int .u32 (zAt zs 8),.int .u32 0,.slice none 0 0] r4 rfl;rw[←hV9]at p8;clear hV hV9 R4 S4;have P8:=zAa p8;have hw8:Below w.heap.size w V8:=hw4.trans (hb8.below hw4.size (fun k h e=>by omega));exact bodyPost_ret (v:= .tuple #[.agg #[.int .u16 (zAl zs 6),.bool true,.bool false,.int .u32 (zAt zs 8),.int .u32 0,.slice none 0 0],.int .i64 12]) (by simp[results,Tryz.results89,go_sem,P8]) rfl ⟨rfl,hw8⟩
theorem zK2(sv:Value)(zs:List Int)(hB:Mt.By zs)(w:World)(hI:Rd w.heap.size w sv zs):
  Calls Tryz.prog 89 #[sv,.int .i64 2] w fun e w'=>e= .returned (.tuple #[.agg #[.int .u16 (zAl zs 6),.bool false,.bool true,.int .u32 0,.int .u32 (zAt zs 8),.slice none 0 0],.int .i64 12])∧Below w.heap.size w w':=by
 obtain⟨a,cap,rfl,hl1,hm1⟩:=hI.slice;have hb0:Below w.heap.size w (w.alloc (.cells zf.toArray 114)):=bA _ _;have r0:=heap_alloc_new w (.cells zf.toArray 114);have R0:=zAc r0;clear r0;have a1:bits .and .i64 2 1=0:=by decide+kernel
 have a2:bits .and .i64 2 2=2:=by decide+kernel
 go_enter Tryz.func89,Tryz.ntmps89;go_wp2_with fail;refine(zCo _ zs hB 6 _ (hI.below hb0)).mono ?_;rintro e w1 ⟨rfl,q1,hq1⟩;have hw1:Below w.heap.size w w1:=by rw[hq1];exact zAm hb0 q1
 have r1:w1.heap[w.heap.size]? =some (.cells zf.toArray 114 (0,0)):=by rw[hq1];exact R0.out
 have hs1:w.heap.size<w1.heap.size:=(eS r1);clear hq1 R0;have C1:=zAa r1;have D1:=zAd r1;have hA:=(Below.refl w1.heap.size w1).alloc (Nat.le_refl _) (.cells #[.int .u16 (zAl zs 6),.bool false,.bool true,.int .u32 0,.int .u32 0,.slice none 0 0] 114);have f2:=heap_alloc_new w1 (.cells #[.int .u16 (zAl zs 6),.bool false,.bool true,.int .u32 0,.int .u32 0,.slice none 0 0] 114);go_wp2_with fail;generalize w1.alloc (.cells #[.int .u16 (zAl zs 6),.bool false,.bool true,.int .u32 0,.int .u32 0,.slice none 0 0] 114)=w2 at*;have hw2:=hw1.trans (hA.mono hw1.size);have r2:=(hA.block w.heap.size hs1).trans r1;clear C1 D1;refine(zEv _ zs hB 8 _ (hI.below hw2)).mono ?_;rintro e w3 ⟨rfl,q3,hq3⟩;have hw3:Below w.heap.size w w3:=by rw[hq3];exact zAm hw2 q3
 have r3:w3.heap[w.heap.size]? =some (.cells zf.toArray 114 (0,0)):=by rw[hq3];exact r2
 have f3:w3.heap[w1.heap.size]? =some (.cells #[.int .u16 (zAl zs 6),.bool false,.bool true,.int .u32 0,.int .u32 0,.slice none 0 0] 114 (0,0)):=by rw[hq3];exact f2
 clear hq3;have K3:=zAa f3;have L3:=zAd f3;have f4:=zAh f3 4 (.int .u32 (zAt zs 8));have hw4:=hw3.setCell (p:=⟨w1.heap.size,4,none⟩) (Nat.le_of_lt hs1) (.int .u32 (zAt zs 8));have r4:=(Below.heap_setCell w3 ⟨w1.heap.size,4,none⟩ (.int .u32 (zAt zs 8)) w.heap.size (by simp;omega)).trans r3;have R4:=zAa r4;have S4:=zAd r4;have hne:¬w1.heap.size=w.heap.size:=by omega
 have hne2:¬w.heap.size=w1.heap.size:=by omega
 go_wp2_with fail;generalize w3.setCell ⟨w1.heap.size,4,none⟩ (.int .u32 (zAt zs 8))=w4 at*;clear K3 L3;generalize hV:World.setCell _ ⟨w.heap.size,5,none⟩ _=V8;have hV9:V8=zAj w4 w.heap.size 0 [.int .u16 (zAl zs 6),.bool false,.bool true,.int .u32 0,.int .u32 (zAt zs 8),.slice none 0 0]:=hV.symm;have hb8:But (fun b=>b=w.heap.size) w4 V8:=by rw[hV9];exact zAf (E:=fun b=>b=w.heap.size) (n:=w.heap.size) rfl _ _ _ _ (But.refl _ _)
 have p8:=zAg [.int .u16 (zAl zs 6),.bool false,.bool true,.int .u32 0,.int .u32 (zAt zs 8),.slice none 0 0] r4 rfl;rw[←hV9]at p8;clear hV hV9 R4 S4;have P8:=zAa p8;have hw8:Below w.heap.size w V8:=hw4.trans (hb8.below hw4.size (fun k h e=>by omega));exact bodyPost_ret (v:= .tuple #[.agg #[.int .u16 (zAl zs 6),.bool false,.bool true,.int .u32 0,.int .u32 (zAt zs 8),.slice none 0 0],.int .i64 12]) (by simp[results,Tryz.results89,go_sem,P8]) rfl ⟨rfl,hw8⟩
theorem zK3(sv:Value)(zs:List Int)(hB:Mt.By zs)(w:World)(hI:Rd w.heap.size w sv zs):
  Calls Tryz.prog 89 #[sv,.int .i64 3] w fun e w'=>e= .returned (.tuple #[.agg #[.int .u16 (zAl zs 6),.bool true,.bool true,.int .u32 (zAt zs 8),.int .u32 (zAt zs 12),.slice none 0 0],.int .i64 16])∧Below w.heap.size w w':=by
 obtain⟨a,cap,rfl,hl1,hm1⟩:=hI.slice;have hb0:Below w.heap.size w (w.alloc (.cells zf.toArray 114)):=bA _ _;have r0:=heap_alloc_new w (.cells zf.toArray 114);have R0:=zAc r0;clear r0;have a1:bits .and .i64 3 1=1:=by decide+kernel
 have a2:bits .and .i64 3 2=2:=by decide+kernel
 go_enter Tryz.func89,Tryz.ntmps89;go_wp2_with fail;refine(zCo _ zs hB 6 _ (hI.below hb0)).mono ?_;rintro e w1 ⟨rfl,q1,hq1⟩;have hw1:Below w.heap.size w w1:=by rw[hq1];exact zAm hb0 q1
 have r1:w1.heap[w.heap.size]? =some (.cells zf.toArray 114 (0,0)):=by rw[hq1];exact R0.out
 have hs1:w.heap.size<w1.heap.size:=(eS r1);clear hq1 R0;have C1:=zAa r1;have D1:=zAd r1;have hA:=(Below.refl w1.heap.size w1).alloc (Nat.le_refl _) (.cells #[.int .u16 (zAl zs 6),.bool true,.bool true,.int .u32 0,.int .u32 0,.slice none 0 0] 114);have f2:=heap_alloc_new w1 (.cells #[.int .u16 (zAl zs 6),.bool true,.bool true,.int .u32 0,.int .u32 0,.slice none 0 0] 114);go_wp2_with fail;generalize w1.alloc (.cells #[.int .u16 (zAl zs 6),.bool true,.bool true,.int .u32 0,.int .u32 0,.slice none 0 0] 114)=w2 at*;have hw2:=hw1.trans (hA.mono hw1.size);have r2:=(hA.block w.heap.size hs1).trans r1;clear C1 D1;refine(zEv _ zs hB 8 _ (hI.below hw2)).mono ?_;rintro e w3 ⟨rfl,q3,hq3⟩;have hw3:Below w.heap.size w w3:=by rw[hq3];exact zAm hw2 q3
 have r3:w3.heap[w.heap.size]? =some (.cells zf.toArray 114 (0,0)):=by rw[hq3];exact r2
 have f3:w3.heap[w1.heap.size]? =some (.cells #[.int .u16 (zAl zs 6),.bool true,.bool true,.int .u32 0,.int .u32 0,.slice none 0 0] 114 (0,0)):=by rw[hq3];exact f2
 clear hq3;have K3:=zAa f3;have L3:=zAd f3;have f4:=zAh f3 3 (.int .u32 (zAt zs 8));have hw4:=hw3.setCell (p:=⟨w1.heap.size,3,none⟩) (Nat.le_of_lt hs1) (.int .u32 (zAt zs 8));have r4:=(Below.heap_setCell w3 ⟨w1.heap.size,3,none⟩ (.int .u32 (zAt zs 8)) w.heap.size (by simp;omega)).trans r3;go_wp2_with fail;generalize w3.setCell ⟨w1.heap.size,3,none⟩ (.int .u32 (zAt zs 8))=w4 at*;clear K3 L3;refine(zEv _ zs hB 12 _ (hI.below hw4)).mono ?_;rintro e w5 ⟨rfl,q5,hq5⟩;have hw5:Below w.heap.size w w5:=by rw[hq5];exact zAm hw4 q5
 have r5:w5.heap[w.heap.size]? =some (.cells zf.toArray 114 (0,0)):=by rw[hq5];exact r4
 have f5:w5.heap[w1.heap.size]? =some (.cells #[.int .u16 (zAl zs 6),.bool true,.bool true,.int .u32 (zAt zs 8),.int .u32 0,.slice none 0 0] 114 (0,0)):=by rw[hq5];exact f4
 clear hq5;have K5:=zAa f5;have L5:=zAd f5;have f6:=zAh f5 4 (.int .u32 (zAt zs 12));have hw6:=hw5.setCell (p:=⟨w1.heap.size,4,none⟩) (Nat.le_of_lt hs1) (.int .u32 (zAt zs 12));have r6:=(Below.heap_setCell w5 ⟨w1.heap.size,4,none⟩ (.int .u32 (zAt zs 12)) w.heap.size (by simp;omega)).trans r5;have R6:=zAa r6;have S6:=zAd r6;have hne:¬w1.heap.size=w.heap.size:=by omega
 have hne2:¬w.heap.size=w1.heap.size:=by omega
 go_wp2_with fail;generalize w5.setCell ⟨w1.heap.size,4,none⟩ (.int .u32 (zAt zs 12))=w6 at*;clear K5 L5;generalize hV:World.setCell _ ⟨w.heap.size,5,none⟩ _=V8;have hV9:V8=zAj w6 w.heap.size 0 [.int .u16 (zAl zs 6),.bool true,.bool true,.int .u32 (zAt zs 8),.int .u32 (zAt zs 12),.slice none 0 0]:=hV.symm;have hb8:But (fun b=>b=w.heap.size) w6 V8:=by rw[hV9];exact zAf (E:=fun b=>b=w.heap.size) (n:=w.heap.size) rfl _ _ _ _ (But.refl _ _)
 have p8:=zAg [.int .u16 (zAl zs 6),.bool true,.bool true,.int .u32 (zAt zs 8),.int .u32 (zAt zs 12),.slice none 0 0] r6 rfl;rw[←hV9]at p8;clear hV hV9 R6 S6;have P8:=zAa p8;have hw8:Below w.heap.size w V8:=hw6.trans (hb8.below hw6.size (fun k h e=>by omega));exact bodyPost_ret (v:= .tuple #[.agg #[.int .u16 (zAl zs 6),.bool true,.bool true,.int .u32 (zAt zs 8),.int .u32 (zAt zs 12),.slice none 0 0],.int .i64 16]) (by simp[results,Tryz.results89,go_sem,P8]) rfl ⟨rfl,hw8⟩
def ghs (n:Nat):Bool:=n==1||n==3
def gha (n:Nat):Bool:=n==2||n==3
def ghd (n:Nat):Nat:=if n=0 then 8 else if n=3 then 16 else 12
def gsq (n:Nat) (zs:List Int):Int:=if n=1∨n=3 then zAt zs 8 else 0
def gak (n:Nat) (zs:List Int):Int:=if n=2 then zAt zs 8 else if n=3 then zAt zs 12 else 0
def bgz (zs:List Int):Nat:=bgo (zs[0]?.getD 0) (zs[1]?.getD 0) (zs[2]?.getD 0) (zs[3]?.getD 0)
theorem ghd_bd(n:Nat):8≤ghd n∧ghd n≤16:=by unfold ghd;split<;>(try split)<;>omega
def pge (proto:Int) (zs:List Int):Int:=if proto≠47 then 12 else if zs.length<8 then 3 else if bgz zs=4 then 4 else if(zs.length:Int)<ghd (bgz zs)+wat zs 4 then 3 else if(ghd (bgz zs):Int)+wat zs 4<zs.length then 4 else 0
theorem zHd(n:Nat)(hn:n≤3)(sv:Value)(zs:List Int)(hB:Mt.By zs)(w:World)(hI:Rd w.heap.size w sv zs):
  Calls Tryz.prog 89 #[sv,.int .i64 n] w fun e w'=>e= .returned (.tuple #[.agg #[.int .u16 (zAl zs 6),.bool (ghs n),.bool (gha n),.int .u32 (gsq n zs),.int .u32 (gak n zs),.slice none 0 0],.int .i64 (ghd n)])∧Below w.heap.size w w':=by
 have h:n=0∨n=1∨n=2∨n=3:=by omega
 rcases h with rfl|rfl|rfl|rfl
 ·exact zK0 sv zs hB w hI
 ·exact zK1 sv zs hB w hI
 ·exact zK2 sv zs hB w hI
 ·exact zK3 sv zs hB w hI
theorem zEp(tos id ttl proto src dst:Int)(keep:Bool)(so sd:Value)(zs:List Int)(w:World)(hT:Tb w)(hB:Mt.By zs)(hI:Rd w.heap.size w sd zs)(hl:zs.length≤140737488355328):
  Calls Tryz.prog 42 #[.agg #[.int .u8 tos,.int .u16 id,.bool keep,.int .u8 ttl,.int .u8 proto,.int .u32 src,.int .u32 dst,so,sd]] w fun e w'=>Below w.heap.size w w'∧((pge proto zs≠0∧e= .returned (.tuple #[.agg zf.toArray,.int .i64 (pge proto zs)]))∨
   (pge proto zs=0∧∃ad cd,e= .returned (.tuple #[.agg #[.int .u16 (zAl zs 6),.bool (ghs (bgz zs)),.bool (gha (bgz zs)),.int .u32 (gsq (bgz zs) zs),.int .u32 (gak (bgz zs) zs),.slice ad (zs.length-ghd (bgz zs)) cd],.int .i64 0])∧Ow w.heap.size w' (.slice ad (zs.length-ghd (bgz zs)) cd) (zs.drop (ghd (bgz zs))))):=by
 obtain⟨ad,cd,rfl,hl1,hm1⟩:=hI.slice;have hb0:Below w.heap.size w ((w.alloc (.cells #[.int .u8 tos,.int .u16 id,.bool keep,.int .u8 ttl,.int .u8 proto,.int .u32 src,.int .u32 dst,so,.slice ad zs.length cd] 40)).alloc (.cells zf.toArray 114)):=(bA _ _).alloc (by simp) _;have r0:((w.alloc (.cells #[.int .u8 tos,.int .u16 id,.bool keep,.int .u8 ttl,.int .u8 proto,.int .u32 src,.int .u32 dst,so,.slice ad zs.length cd] 40)).alloc (.cells zf.toArray 114)).heap[w.heap.size+1]? =some (.cells zf.toArray 114 (0,0)):=by have:=heap_alloc_new (w.alloc (.cells #[.int .u8 tos,.int .u16 id,.bool keep,.int .u8 ttl,.int .u8 proto,.int .u32 src,.int .u32 dst,so,.slice ad zs.length cd] 40)) (.cells zf.toArray 114);simpa using this
 have hs0:((w.alloc (.cells #[.int .u8 tos,.int .u16 id,.bool keep,.int .u8 ttl,.int .u8 proto,.int .u32 src,.int .u32 dst,so,.slice ad zs.length cd] 40)).alloc (.cells zf.toArray 114)).heap.size=w.heap.size+1+1:=by simp
 have R0:=zAc r0;have HS:=zAc hs0;clear r0 hs0;by_cases c1:proto=47
 ·have t1:(proto !=47)=false:=by simp[c1]
  have C1:=zAc c1;clear c1;by_cases c2:zs.length<8
  ·have t2:(zs.length:Int)<8:=by omega
   have HF:Hid (pge proto zs=3):=by show _=_;unfold pge;rw[if_neg (by simp[C1.out]),if_pos c2]
   go_enter Tryz.func42,Tryz.ntmps42;go_wp2_with fail;exact bodyPost_ret (v:= .tuple #[.agg zf.toArray,.int .i64 3]) (by simp[results,Tryz.results42,go_sem]) rfl ⟨hb0,.inl ⟨by rw[HF.out];decide,by rw[HF.out]⟩⟩
  ·have t2:¬(zs.length:Int)<8:=by omega
   have hT0:Tb ((w.alloc (.cells #[.int .u8 tos,.int .u16 id,.bool keep,.int .u8 ttl,.int .u8 proto,.int .u32 src,.int .u32 dst,so,.slice ad zs.length cd] 40)).alloc (.cells zf.toArray 114)):=hT.below hb0 hT.pos;go_enter Tryz.func42,Tryz.ntmps42;go_upto_region 6 with fail;generalize (w.alloc (.cells #[.int .u8 tos,.int .u16 id,.bool keep,.int .u8 ttl,.int .u8 proto,.int .u32 src,.int .u32 dst,so,.slice ad zs.length cd] 40)).alloc (.cells zf.toArray 114)=W0 at*;obtain⟨b,off,cap,e0,hlc,hmc,hbb,hcs⟩:=hI.cells (by omega);have hcl:=e0
   simp at hcl
   obtain⟨rfl,rfl⟩:=hcl;clear e0;have d0:=((hb0.cell (p:=⟨b,off+0,none⟩) hbb).trans (hcs 0 (by omega)));have d1:=((hb0.cell (p:=⟨b,off+1,none⟩) hbb).trans (hcs 1 (by omega)));have d2:=((hb0.cell (p:=⟨b,off+2,none⟩) hbb).trans (hcs 2 (by omega)));have d3:=((hb0.cell (p:=⟨b,off+3,none⟩) hbb).trans (hcs 3 (by omega)));rw[Nat.add_zero]at d0;have HZ0:Hid (bgz zs=bgo (zs[0]?.getD 0) (zs[1]?.getD 0) (zs[2]?.getD 0) (zs[3]?.getD 0)):=rfl;clear hcs;generalize zs[0]?.getD 0=z0 at*;generalize zs[1]?.getD 0=z1 at*;generalize zs[2]?.getD 0=z2 at*;generalize zs[3]?.getD 0=z3 at*;have har:=run_arrayAt (P:=Tryz.prog) (w:=W0) 167 5 4 (some ⟨b,off,none⟩) zs.length cd Tryz.underlying167 (by omega);go_wp2_with fail;refine(zN4 z0 z1 z2 z3 W0 hT0).mono ?_;rw[←HZ0.out];obtain⟨n,HN⟩:∃n,Hid (bgz zs=n):=⟨_,rfl⟩;have hn4:n≤4:=by rw[←HN.out,HZ0.out];exact bgo_le _ _ _ _
   rw[HN.out];rintro e w1 ⟨rfl,hb1⟩;have hw1:Below w.heap.size w w1:=hb0.trans (hb1.mono hb0.size);have r1:=(hb1.block (w.heap.size+1) (by have:=HS.out;omega)).trans R0.out;have hs1:w.heap.size+1+1≤w1.heap.size:=by have:=hb1.size;have:=HS.out;omega
   clear d0 d1 d2 d3 har;by_cases c3:n=4
   ·subst c3
    have HF:Hid (pge proto zs=4):=by show _=_;unfold pge;rw[if_neg (by simp[C1.out]),if_neg c2,if_pos HN.out]
    rw[show bgk 4=false from rfl,show bgv 4=0 from rfl];have RR:=zAa r1;have SS:=zAd r1;go_wp2_with fail;generalize hV:World.setCell _ ⟨w.heap.size+1,5,none⟩ _=V8;have hV9:V8=zAj w1 (w.heap.size+1) 0 zf:=hV.symm;have hb8:But (fun b=>b=w.heap.size+1) w1 V8:=by rw[hV9];exact zAf (E:=fun b=>b=w.heap.size+1) (n:=w.heap.size+1) rfl _ _ _ _ (But.refl _ _)
    have p8:=zAg zf r1 rfl;rw[←hV9]at p8;clear hV hV9;have P8:=zAa p8;have hw8:Below w.heap.size w V8:=(hw1).trans (hb8.below (hw1).size (fun k h e=>by omega));exact bodyPost_ret (v:= .tuple #[.agg zf.toArray,.int .i64 4]) (by simp[results,Tryz.results42,go_sem,P8]) rfl (⟨hw8,.inl ⟨by rw[HF.out];decide,by rw[HF.out]⟩⟩)
   ·rw [show bgk n=true from by simp[bgk,c3],show bgv n=(n:Int)from by simp[bgv,c3]]
    have hn3:n≤3:=by omega
    clear c3;go_wp2_with fail;refine(zHd n hn3 _ zs hB w1 ((hI.below hw1).mono hw1.size)).mono ?_;rintro e w2 ⟨rfl,hb2⟩;have hw2:Below w.heap.size w w2:=hw1.trans (hb2.mono hw1.size);have r2:=(hb2.block (w.heap.size+1) (by omega)).trans r1;have hs2:w.heap.size+1+1≤w2.heap.size:=Nat.le_trans hs1 hb2.size;have f3:=heap_alloc_new w2 (.cells #[.int .u16 (zAl zs 6),.bool (ghs n),.bool (gha n),.int .u32 (gsq n zs),.int .u32 (gak n zs),.slice none 0 0] 114);have hA:=(Below.refl w2.heap.size w2).alloc (Nat.le_refl _) (.cells #[.int .u16 (zAl zs 6),.bool (ghs n),.bool (gha n),.int .u32 (gsq n zs),.int .u32 (gak n zs),.slice none 0 0] 114);go_wp2_with fail;generalize w2.alloc (.cells #[.int .u16 (zAl zs 6),.bool (ghs n),.bool (gha n),.int .u32 (gsq n zs),.int .u32 (gak n zs),.slice none 0 0] 114)=w3 at*;have hw3:Below w.heap.size w w3:=hw2.trans (hA.mono hw2.size);have r3:=(hA.block (w.heap.size+1) (by omega)).trans r2;refine(zBh _ zs hB 4 (by omega) w3 (hI.below hw3)).mono ?_;rintro e w4 ⟨rfl,q4,hq4⟩;have hw4:Below w.heap.size w w4:=by rw[hq4];exact zAm hw3 q4
    have r4:w4.heap[w.heap.size+1]? =some (.cells zf.toArray 114 (0,0)):=by rw[hq4];exact r3
    have f4:w4.heap[w2.heap.size]? =some (.cells #[.int .u16 (zAl zs 6),.bool (ghs n),.bool (gha n),.int .u32 (gsq n zs),.int .u32 (gak n zs),.slice none 0 0] 114 (0,0)):=by rw[hq4];exact f3
    clear hq4;have hgd:=ghd_bd n;have hwd:=zDa hB 4;obtain⟨hd,hhd⟩:∃hd,ghd n=hd:=⟨_,rfl⟩;have HHD:=zAc hhd;rw[hhd]at hgd⊢;clear hhd;have HW4:Hid (wat zs 4=wat zs 4):=rfl;obtain⟨wl,HWL⟩:∃wl,Hid (wat zs 4=wl):=⟨_,rfl⟩;rw[HWL.out]at hwd⊢;by_cases c4:(zs.length:Int)<hd+wl
    ·have HF:Hid (pge proto zs=3):=by show _=_;unfold pge;rw[if_neg (by simp[C1.out]),if_neg c2,HN.out,if_neg (by omega),HHD.out,HWL.out,if_pos c4]
     have RR:=zAa r4;have SS:=zAd r4;go_wp2_with fail;generalize hV:World.setCell _ ⟨w.heap.size+1,5,none⟩ _=V8;have hV9:V8=zAj w4 (w.heap.size+1) 0 zf:=hV.symm;have hb8:But (fun b=>b=w.heap.size+1) w4 V8:=by rw[hV9];exact zAf (E:=fun b=>b=w.heap.size+1) (n:=w.heap.size+1) rfl _ _ _ _ (But.refl _ _)
     have p8:=zAg zf r4 rfl;rw[←hV9]at p8;clear hV hV9;have P8:=zAa p8;have hw8:Below w.heap.size w V8:=(hw4).trans (hb8.below (hw4).size (fun k h e=>by omega));exact bodyPost_ret (v:= .tuple #[.agg zf.toArray,.int .i64 3]) (by simp[results,Tryz.results42,go_sem,P8]) rfl (⟨hw8,.inl ⟨by rw[HF.out];decide,by rw[HF.out]⟩⟩)
    ·by_cases c5:(hd:Int)+wl<zs.length
     ·have HF:Hid (pge proto zs=4):=by show _=_;unfold pge;rw[if_neg (by simp[C1.out]),if_neg c2,HN.out,if_neg (by omega),HHD.out,HWL.out,if_neg c4,if_pos c5]
      have RR:=zAa r4;have SS:=zAd r4;go_wp2_with fail;generalize hV:World.setCell _ ⟨w.heap.size+1,5,none⟩ _=V8;have hV9:V8=zAj w4 (w.heap.size+1) 0 zf:=hV.symm;have hb8:But (fun b=>b=w.heap.size+1) w4 V8:=by rw[hV9];exact zAf (E:=fun b=>b=w.heap.size+1) (n:=w.heap.size+1) rfl _ _ _ _ (But.refl _ _)
      have p8:=zAg zf r4 rfl;rw[←hV9]at p8;clear hV hV9;have P8:=zAa p8;have hw8:Below w.heap.size w V8:=(hw4).trans (hb8.below (hw4).size (fun k h e=>by omega));exact bodyPost_ret (v:= .tuple #[.agg zf.toArray,.int .i64 4]) (by simp[results,Tryz.results42,go_sem,P8]) rfl (⟨hw8,.inl ⟨by rw[HF.out];decide,by rw[HF.out]⟩⟩)
     ·have HF:Hid (pge proto zs=0):=by show _=_;unfold pge;rw[if_neg (by simp[C1.out]),if_neg c2,HN.out,if_neg (by omega),HHD.out,HWL.out,if_neg c4,if_neg c5]
      have i1:(hd:Int)≤zs.length:=by omega
      have i1n:hd≤zs.length:=by omega
      have i2:(zs.length:Int)≤cd:=by omega
      have i0:(0:Int)≤hd:=by omega
      by_cases hcd:cd=hd
      ·subst hcd
       have hcut:=(hI.below hw4).cutAt cd i1n;have hz:zs.length-cd=0:=by omega
       have HZZ:=zAc hz;rw[if_pos rfl,Nat.sub_self,hz]at hcut;clear hz;go_wp2_with fail;refine(zBd _ (zs.drop cd) w4 (by simp;omega) (hcut.mono hw4.size)).mono ?_;rw[List.length_drop,HZZ.out];rintro e w5 ⟨a5,c5,rfl,hO5,hb5⟩;have hw5:Below w.heap.size w w5:=hw4.trans (hb5.mono hw4.size);have hlt4:=(eS f4);have r5:=(hb5.block (w.heap.size+1) (by omega)).trans r4;have f5:=(hb5.block w2.heap.size hlt4).trans f4;have K5:=zAa f5;have L5:=zAd f5;have f6:=zAh f5 5 (.slice a5 0 c5);have hw6:=hw5.setCell (p:=⟨w2.heap.size,5,none⟩) (show w.heap.size≤w2.heap.size by omega) (.slice a5 0 c5);have r6:=(Below.heap_setCell w5 ⟨w2.heap.size,5,none⟩ (.slice a5 0 c5) (w.heap.size+1) (by simp;omega)).trans r5;have hE6:But (fun b=>b=w2.heap.size) w5 (w5.setCell ⟨w2.heap.size,5,none⟩ (.slice a5 0 c5)):=(But.refl (fun b=>b=w2.heap.size) w5).setCell (p:=⟨w2.heap.size,5,none⟩) rfl _;have hO6:=hO5.but hE6 (fun b h e=>by omega);have R6:=zAa r6;have S6:=zAd r6;have hne:¬w2.heap.size=w.heap.size+1:=by omega
       have hne2:¬w.heap.size+1=w2.heap.size:=by omega
       go_wp2_with fail;generalize w5.setCell ⟨w2.heap.size,5,none⟩ (.slice a5 0 c5)=w6 at*;clear K5 L5;have r6':w6.heap[w.heap.size+1]? =some (.cells zf.toArray 114 (0,0)):=r6;generalize hV:World.setCell _ ⟨w.heap.size+1,5,none⟩ _=V8;have hV9:V8=zAj w6 (w.heap.size+1) 0 [.int .u16 (zAl zs 6),.bool (ghs n),.bool (gha n),.int .u32 (gsq n zs),.int .u32 (gak n zs),.slice a5 0 c5]:=hV.symm;have hb8:But (fun b=>b=w.heap.size+1) w6 V8:=by rw[hV9];exact zAf (E:=fun b=>b=w.heap.size+1) (n:=w.heap.size+1) rfl _ _ _ _ (But.refl _ _)
       have p8:=zAg [.int .u16 (zAl zs 6),.bool (ghs n),.bool (gha n),.int .u32 (gsq n zs),.int .u32 (gak n zs),.slice a5 0 c5] r6 rfl;rw[←hV9]at p8;clear hV hV9;have P8:=zAa p8;have hw8:Below w.heap.size w V8:=(hw6).trans (hb8.below (hw6).size (fun k h e=>by omega));exact bodyPost_ret (v:= .tuple #[.agg #[.int .u16 (zAl zs 6),.bool (ghs n),.bool (gha n),.int .u32 (gsq n zs),.int .u32 (gak n zs),.slice a5 0 c5],.int .i64 0]) (by simp[results,Tryz.results42,go_sem,P8]) rfl (⟨hw8,.inr ⟨HF.out,a5,c5,by rw[HN.out,HHD.out,HZZ.out],by rw[HN.out,HHD.out,HZZ.out];exact(hO6.but hb8 (fun b h e=>by omega)).mono (by omega)⟩⟩)
      ·have hcut:=(hI.below hw4).cutAt hd i1n
       rw[if_neg hcd]at hcut;go_wp2_with fail;refine(zBd _ (zs.drop hd) w4 (by simp;omega) (hcut.mono hw4.size)).mono ?_;rw[List.length_drop];rintro e w5 ⟨a5,c5,rfl,hO5,hb5⟩;have hw5:Below w.heap.size w w5:=hw4.trans (hb5.mono hw4.size);have hlt4:=(eS f4);have r5:=(hb5.block (w.heap.size+1) (by omega)).trans r4;have f5:=(hb5.block w2.heap.size hlt4).trans f4;have K5:=zAa f5;have L5:=zAd f5;have f6:=zAh f5 5 (.slice a5 (zs.length-hd) c5);have hw6:=hw5.setCell (p:=⟨w2.heap.size,5,none⟩) (show w.heap.size≤w2.heap.size by omega) (.slice a5 (zs.length-hd) c5);have r6:=(Below.heap_setCell w5 ⟨w2.heap.size,5,none⟩ (.slice a5 (zs.length-hd) c5) (w.heap.size+1) (by simp;omega)).trans r5;have hE6:But (fun b=>b=w2.heap.size) w5 (w5.setCell ⟨w2.heap.size,5,none⟩ (.slice a5 (zs.length-hd) c5)):=(But.refl (fun b=>b=w2.heap.size) w5).setCell (p:=⟨w2.heap.size,5,none⟩) rfl _;have hO6:=hO5.but hE6 (fun b h e=>by omega);have R6:=zAa r6;have S6:=zAd r6;have hne:¬w2.heap.size=w.heap.size+1:=by omega
       have hne2:¬w.heap.size+1=w2.heap.size:=by omega
       go_wp2_with fail;generalize w5.setCell ⟨w2.heap.size,5,none⟩ (.slice a5 (zs.length-hd) c5)=w6 at*;clear K5 L5;have r6':w6.heap[w.heap.size+1]? =some (.cells zf.toArray 114 (0,0)):=r6;generalize hV:World.setCell _ ⟨w.heap.size+1,5,none⟩ _=V8;have hV9:V8=zAj w6 (w.heap.size+1) 0 [.int .u16 (zAl zs 6),.bool (ghs n),.bool (gha n),.int .u32 (gsq n zs),.int .u32 (gak n zs),.slice a5 (zs.length-hd) c5]:=hV.symm;have hb8:But (fun b=>b=w.heap.size+1) w6 V8:=by rw[hV9];exact zAf (E:=fun b=>b=w.heap.size+1) (n:=w.heap.size+1) rfl _ _ _ _ (But.refl _ _)
       have p8:=zAg [.int .u16 (zAl zs 6),.bool (ghs n),.bool (gha n),.int .u32 (gsq n zs),.int .u32 (gak n zs),.slice a5 (zs.length-hd) c5] r6 rfl;rw[←hV9]at p8;clear hV hV9;have P8:=zAa p8;have hw8:Below w.heap.size w V8:=(hw6).trans (hb8.below (hw6).size (fun k h e=>by omega));exact bodyPost_ret (v:= .tuple #[.agg #[.int .u16 (zAl zs 6),.bool (ghs n),.bool (gha n),.int .u32 (gsq n zs),.int .u32 (gak n zs),.slice a5 (zs.length-hd) c5],.int .i64 0]) (by simp[results,Tryz.results42,go_sem,P8]) rfl (⟨hw8,.inr ⟨HF.out,a5,c5,by rw[HN.out,HHD.out],by rw[HN.out,HHD.out];exact(hO6.but hb8 (fun b h e=>by omega)).mono (by omega)⟩⟩)
 ·have t1:(proto !=47)=true:=by simp[c1]
  have HF:Hid (pge proto zs=12):=by show _=_;unfold pge;rw[if_pos c1]
  clear c1;go_enter Tryz.func42,Tryz.ntmps42;go_wp2_with fail;exact bodyPost_ret (v:= .tuple #[.agg zf.toArray,.int .i64 12]) (by simp[results,Tryz.results42,go_sem]) rfl ⟨hb0,.inl ⟨by rw[HF.out];decide,by rw[HF.out]⟩⟩
theorem zP6(tos id ttl proto src dst:Int)(keep:Bool)(so sd:Value)(zd:List Int)(w:World)(hB:Mt.By zd)(hI:Rd w.heap.size w sd zd)(hl:12+zd.length≤140737488355328)(hsr:0≤src∧src≤4294967295)(hds:0≤dst∧dst≤4294967295):
  Calls Tryz.prog 224 #[.agg #[.int .u8 tos,.int .u16 id,.bool keep,.int .u8 ttl,.int .u8 proto,.int .u32 src,.int .u32 dst,so,sd]] w fun e w'=>Below w.heap.size w w'∧∃a b:Int,e= .returned (.tuple #[.agg #[.int .u16 a,.int .u16 b],.int .i64 (pte proto src dst zd)])∧(pte proto src dst zd=0→a=wat zd 0∧b=wat zd 2):=by
 obtain⟨ad,cd,rfl,_,_⟩:=hI.slice;have hb0:Below w.heap.size w ((w.alloc (.cells #[.int .u8 tos,.int .u16 id,.bool keep,.int .u8 ttl,.int .u8 proto,.int .u32 src,.int .u32 dst,so,.slice ad zd.length cd] 40)).alloc (.cells #[.int .u16 0,.int .u16 0] 317)):=(bA _ _).alloc (by simp) _;have r0:=heap_alloc_new (w.alloc (.cells #[.int .u8 tos,.int .u16 id,.bool keep,.int .u8 ttl,.int .u8 proto,.int .u32 src,.int .u32 dst,so,.slice ad zd.length cd] 40)) (.cells #[.int .u16 0,.int .u16 0] 317);rw[World.size_alloc]at r0;have R0:=zAc r0;clear r0;go_enter Tryz.func224,Tryz.ntmps224;go_wp2_with fail;generalize (w.alloc (.cells #[.int .u8 tos,.int .u16 id,.bool keep,.int .u8 ttl,.int .u8 proto,.int .u32 src,.int .u32 dst,so,.slice ad zd.length cd] 40)).alloc (.cells #[.int .u16 0,.int .u16 0] 317)=w0 at*;refine(zBx tos id ttl proto src dst keep _ _ zd w0 hB ((hI.below hb0).mono hb0.size) (by omega) hsr hds).mono ?_;rintro e w1 ⟨hb1,⟨hf,rfl⟩|⟨hf,os,aO,cO,a1,c1,_,rfl,hO,_⟩⟩
 ·rw[show zsg.toArray=#[.int .u16 0,.int .u16 0,.int .u32 0,.int .u32 0,.int .u8 0,.int .u16 0,.int .u16 0,.slice none 0 0,.slice none 0 0]from rfl]
  generalize hpu:pte proto src dst zd=f at*;have HPU:=zAc hpu;have HF:=zAc hf;clear hf hpu;have lq:Later w1 (w1.alloc (.cells #[.int .u16 0,.int .u16 0,.int .u32 0,.int .u32 0,.int .u8 0,.int .u16 0,.int .u16 0,.slice none 0 0,.slice none 0 0] 32)):=bA _ _;have l1:=Later.trans hb1 lq;have r1:=(l1.block _ (eS R0.out)).trans R0.out;have hw1:=hb0.trans (l1.mono hb0.size);have kX:=zAa r1;have fX:=zAd r1;go_wp2_with fail;generalize w1.alloc (.cells #[.int .u16 0,.int .u16 0,.int .u32 0,.int .u32 0,.int .u8 0,.int .u16 0,.int .u16 0,.slice none 0 0,.slice none 0 0] 32)=W at*;generalize hV:World.setCell _ ⟨w.heap.size+1,1,none⟩ _=V;have hV8:V=zAj W (w.heap.size+1) 0 [.int .u16 (0),.int .u16 (0)]:=hV.symm;have hbV:But (fun b=>b=w.heap.size+1) W V:=by rw[hV8];exact zAf (E:=fun b=>b=w.heap.size+1) (n:=w.heap.size+1) rfl _ _ _ _ (But.refl _ _)
  have pV:=zAg [Value.int .u16 (0),.int .u16 (0)] r1 rfl;rw[←hV8]at pV;clear hV hV8 kX fX;have PV:=zAa pV;have hwV:Below w.heap.size w V:=hw1.trans (hbV.below hw1.size (fun k hk e=>by omega));exact bodyPost_ret (v:= .tuple #[.agg #[.int .u16 (0),.int .u16 (0)],.int .i64 f]) (by simp[results,Tryz.results224,go_sem,PV]) rfl ⟨hwV,_,_,by rw[HPU.out],fun h=>absurd (HPU.out.symm.trans h) HF.out⟩
 ·have HF:=zAc hf
  clear hf;have lq:Later w1 (w1.alloc (.cells #[.int .u16 (wat zd 0),.int .u16 (wat zd 2),.int .u32 (zAx zd 4),.int .u32 (zAx zd 8),.int .u8 (zd[13]?.getD 0),.int .u16 (wat zd 14),.int .u16 (wat zd 18),.slice aO os.length cO,.slice a1 (zd.length-(thd zd).toNat) c1] 32)):=bA _ _;have l1:=Later.trans hb1 lq;have r1:=(l1.block _ (eS R0.out)).trans R0.out;have hw1:=hb0.trans (l1.mono hb0.size);have kX:=zAa r1;have fX:=zAd r1;go_wp2_with fail;generalize w1.alloc (.cells #[.int .u16 (wat zd 0),.int .u16 (wat zd 2),.int .u32 (zAx zd 4),.int .u32 (zAx zd 8),.int .u8 (zd[13]?.getD 0),.int .u16 (wat zd 14),.int .u16 (wat zd 18),.slice aO os.length cO,.slice a1 (zd.length-(thd zd).toNat) c1] 32)=W at*;generalize hV:World.setCell _ ⟨w.heap.size+1,1,none⟩ _=V;have hV8:V=zAj W (w.heap.size+1) 0 [.int .u16 (wat zd 0),.int .u16 (wat zd 2)]:=hV.symm;have hbV:But (fun b=>b=w.heap.size+1) W V:=by rw[hV8];exact zAf (E:=fun b=>b=w.heap.size+1) (n:=w.heap.size+1) rfl _ _ _ _ (But.refl _ _)
  have pV:=zAg [Value.int .u16 (wat zd 0),.int .u16 (wat zd 2)] r1 rfl;rw[←hV8]at pV;clear hV hV8 kX fX;have PV:=zAa pV;have hwV:Below w.heap.size w V:=hw1.trans (hbV.below hw1.size (fun k hk e=>by omega));exact bodyPost_ret (v:= .tuple #[.agg #[.int .u16 (wat zd 0),.int .u16 (wat zd 2)],.int .i64 0]) (by simp[results,Tryz.results224,go_sem,PV]) rfl ⟨hwV,_,_,by rw[HF.out],fun _=>⟨rfl,rfl⟩⟩
theorem zP7(tos id ttl proto src dst:Int)(keep:Bool)(so sd:Value)(zd:List Int)(w:World)(hT:Tb w)(hB:Mt.By zd)(hI:Rd w.heap.size w sd zd)(hl:12+zd.length≤140737488355328)(hsr:0≤src∧src≤4294967295)(hds:0≤dst∧dst≤4294967295):
  Calls Tryz.prog 229 #[.agg #[.int .u8 tos,.int .u16 id,.bool keep,.int .u8 ttl,.int .u8 proto,.int .u32 src,.int .u32 dst,so,sd]] w fun e w'=>Below w.heap.size w w'∧∃a b:Int,e= .returned (.tuple #[.agg #[.int .u16 a,.int .u16 b],.int .i64 (pge proto zd)])∧(pge proto zd=0→a=0∧b=zAl zd 6):=by
 obtain⟨ad,cd,rfl,_,_⟩:=hI.slice;have hb0:Below w.heap.size w ((w.alloc (.cells #[.int .u8 tos,.int .u16 id,.bool keep,.int .u8 ttl,.int .u8 proto,.int .u32 src,.int .u32 dst,so,.slice ad zd.length cd] 40)).alloc (.cells #[.int .u16 0,.int .u16 0] 317)):=(bA _ _).alloc (by simp) _;have r0:=heap_alloc_new (w.alloc (.cells #[.int .u8 tos,.int .u16 id,.bool keep,.int .u8 ttl,.int .u8 proto,.int .u32 src,.int .u32 dst,so,.slice ad zd.length cd] 40)) (.cells #[.int .u16 0,.int .u16 0] 317);rw[World.size_alloc]at r0;have R0:=zAc r0;clear r0;go_enter Tryz.func229,Tryz.ntmps229;go_wp2_with fail;generalize (w.alloc (.cells #[.int .u8 tos,.int .u16 id,.bool keep,.int .u8 ttl,.int .u8 proto,.int .u32 src,.int .u32 dst,so,.slice ad zd.length cd] 40)).alloc (.cells #[.int .u16 0,.int .u16 0] 317)=w0 at*;refine(zEp tos id ttl proto src dst keep _ _ zd w0 (hT.below hb0 hT.pos) hB ((hI.below hb0).mono hb0.size) (by omega)).mono ?_;rintro e w1 ⟨hb1,⟨hf,rfl⟩|⟨hf,a1,c1,rfl,hO⟩⟩
 ·rw[show zf.toArray=#[.int .u16 0,.bool false,.bool false,.int .u32 0,.int .u32 0,.slice none 0 0]from rfl]
  generalize hpu:pge proto zd=f at*;have HPU:=zAc hpu;have HF:=zAc hf;clear hf hpu;have lq:Later w1 (w1.alloc (.cells #[.int .u16 0,.bool false,.bool false,.int .u32 0,.int .u32 0,.slice none 0 0] 114)):=bA _ _;have l1:=Later.trans hb1 lq;have r1:=(l1.block _ (eS R0.out)).trans R0.out;have hw1:=hb0.trans (l1.mono hb0.size);have kX:=zAa r1;have fX:=zAd r1;go_wp2_with fail;generalize w1.alloc (.cells #[.int .u16 0,.bool false,.bool false,.int .u32 0,.int .u32 0,.slice none 0 0] 114)=W at*;generalize hV:World.setCell _ ⟨w.heap.size+1,1,none⟩ _=V;have hV8:V=zAj W (w.heap.size+1) 0 [.int .u16 (0),.int .u16 (0)]:=hV.symm;have hbV:But (fun b=>b=w.heap.size+1) W V:=by rw[hV8];exact zAf (E:=fun b=>b=w.heap.size+1) (n:=w.heap.size+1) rfl _ _ _ _ (But.refl _ _)
  have pV:=zAg [Value.int .u16 (0),.int .u16 (0)] r1 rfl;rw[←hV8]at pV;clear hV hV8 kX fX;have PV:=zAa pV;have hwV:Below w.heap.size w V:=hw1.trans (hbV.below hw1.size (fun k hk e=>by omega));exact bodyPost_ret (v:= .tuple #[.agg #[.int .u16 (0),.int .u16 (0)],.int .i64 f]) (by simp[results,Tryz.results229,go_sem,PV]) rfl ⟨hwV,_,_,by rw[HPU.out],fun h=>absurd (HPU.out.symm.trans h) HF.out⟩
 ·have HF:=zAc hf
  clear hf;have lq:Later w1 (w1.alloc (.cells #[.int .u16 (zAl zd 6),.bool (ghs (bgz zd)),.bool (gha (bgz zd)),.int .u32 (gsq (bgz zd) zd),.int .u32 (gak (bgz zd) zd),.slice a1 (zd.length-ghd (bgz zd)) c1] 114)):=bA _ _;have l1:=Later.trans hb1 lq;have r1:=(l1.block _ (eS R0.out)).trans R0.out;have hw1:=hb0.trans (l1.mono hb0.size);have kX:=zAa r1;have fX:=zAd r1;go_wp2_with fail;generalize w1.alloc (.cells #[.int .u16 (zAl zd 6),.bool (ghs (bgz zd)),.bool (gha (bgz zd)),.int .u32 (gsq (bgz zd) zd),.int .u32 (gak (bgz zd) zd),.slice a1 (zd.length-ghd (bgz zd)) c1] 114)=W at*;generalize hV:World.setCell _ ⟨w.heap.size+1,1,none⟩ _=V;have hV8:V=zAj W (w.heap.size+1) 0 [.int .u16 0,.int .u16 (zAl zd 6)]:=hV.symm;have hbV:But (fun b=>b=w.heap.size+1) W V:=by rw[hV8];exact zAf (E:=fun b=>b=w.heap.size+1) (n:=w.heap.size+1) rfl _ _ _ _ (But.refl _ _)
  have pV:=zAg [Value.int .u16 0,.int .u16 (zAl zd 6)] r1 rfl;rw[←hV8]at pV;clear hV hV8 kX fX;have PV:=zAa pV;have hwV:Below w.heap.size w V:=hw1.trans (hbV.below hw1.size (fun k hk e=>by omega));exact bodyPost_ret (v:= .tuple #[.agg #[.int .u16 0,.int .u16 (zAl zd 6)],.int .i64 0]) (by simp[results,Tryz.results229,go_sem,PV]) rfl ⟨hwV,_,_,by rw[HF.out],fun _=>⟨rfl,rfl⟩⟩
def ecb (ty cde:Int):Bool:=(ty==8||ty==0) && cde==0
def oie (zs:List Int):Int:=if pie 1 zs≠0 then pie 1 zs else if ecb (zs[0]?.getD 0) (zs[1]?.getD 0)=true then 0 else 12
end Go.Proofs.YteaeilghamjjkaaGreatDoor
