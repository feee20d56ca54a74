import Derived.Deep.DeepCutAuto
import Derived.Deep.CutBlock
import Derived.Test.YteaeilghamjjkaaGreatDoorX19
import Derived.MapKept
namespace Go.Proofs.YteaeilghamjjkaaGreatDoor
set_option maxHeartbeats 4000000
open Go.RowKit Go.Shelf
set_option maxRecDepth 100000
set_option linter.unusedVariables false
set_option linter.unusedSimpArgs false
theorem zBk(s d p n:Int):(psd s d p n).length=12:=rfl
theorem zId(s d p n:Int)(hs:0≤s∧s≤4294967295)(hd:0≤d∧d≤4294967295)(hp:0≤p∧p≤255):Mt.By (psd s d p n):=by
 unfold psd;exact .mk (by omega) (.mk (by omega) (.mk (by omega) (.mk (by omega) (.mk (by omega) (.mk (by omega) (.mk (by omega) (.mk (by omega) (.mk (by omega) (.mk (by omega) (.mk (by omega) (.mk (by omega) .nil)))))))))))
theorem zF9(tos id ttl proto src dst:Int)(keep:Bool)(so sd:Value)(zd:List Int)(w:World)(hI:Rd w.heap.size w sd zd)(hl:12+zd.length≤140737488355328)(hsr:0≤src∧src≤4294967295)(hds:0≤dst∧dst≤4294967295):
  Calls Tryz.prog 64 #[.agg #[.int .u8 tos,.int .u16 id,.bool keep,.int .u8 ttl,.int .u8 proto,.int .u32 src,.int .u32 dst,so,sd]] w fun e w'=>∃a c,e= .returned (.slice a (12+zd.length) c)∧Ow w.heap.size w' (.slice a (12+zd.length) c) (psd src dst proto zd.length++zd)∧Below w.heap.size w w':=by
 obtain⟨i0,hi,hz0,hz1,hz2⟩:=info_parts zBi;obtain⟨ad,cd,rfl,hl1,hm1⟩:=hI.slice;have hb0:Below w.heap.size w (w.alloc (.cells #[.int .u8 tos,.int .u16 id,.bool keep,.int .u8 ttl,.int .u8 proto,.int .u32 src,.int .u32 dst,so,.slice ad zd.length cd] 40)):=bA _ _;have p0:=heap_alloc_new w (.cells #[.int .u8 tos,.int .u16 id,.bool keep,.int .u8 ttl,.int .u8 proto,.int .u32 src,.int .u32 dst,so,.slice ad zd.length cd] 40);have P0:=zAc p0;clear p0;go_enter Tryz.func64,Tryz.ntmps64;go_upto_region 1 with fail;generalize w.alloc (.cells #[.int .u8 tos,.int .u16 id,.bool keep,.int .u8 ttl,.int .u8 proto,.int .u32 src,.int .u32 dst,so,.slice ad zd.length cd] 40)=W0 at*;refine zAk (R:=Later) 14 rfl (by kernel_rfl) ?_;have hd:Later W0 W0.drew:=Later.drew W0;have qp:∀v1,Later W0.drew v1→∀i,v1.cell? ⟨w.heap.size,i,none⟩=#[Value.int .u8 tos,.int .u16 id,.bool keep,.int .u8 ttl,.int .u8 proto,.int .u32 src,.int .u32 dst,so,.slice ad zd.length cd][i]? :=fun v1 h=>zAa (((hd.trans h).block w.heap.size (eS P0.out)).trans P0.out);have hbd:=hb0.trans (hd.mono hb0.size);generalize W0.drew=W1 at*;refine tX Later.pre 0 ?_;refine tX Later.pre 1 ?_;refine tX Later.pre 2 ?_;refine tX Later.pre 3 ?_;refine tX Later.pre 4 ?_;refine tX Later.pre 5 ?_;refine tX Later.pre 6 ?_;refine tX Later.pre 7 ?_;refine tX Later.pre 8 ?_;refine tX Later.pre 10 ?_;refine tX Later.pre 11 ?_;refine tO 9 ?_;refine zAi 124 #[.int .u32 src,.int .u32 dst,.int .u8 proto,.int .i64 zd.length] (by go_simp) ?_
 refine(zF4 src dst proto zd.length hsr hds W1).mono ?_;rintro e w2 ⟨a2,rfl,hO2,hb2⟩;refine⟨hb2,?_⟩;simp only[Act.put,sA,sB,sC];have hw2:=hbd.trans (hb2.mono hbd.size);obtain⟨v3,w3,hr3,hO3,hb3⟩:=zD9 (P:=Tryz.prog) w2 26 26 W1.heap.size i0 Tryz.underlying26 hi hz0 hz1 hz2 a2 12 _ hO2 (by simp[psd]) w.heap.size _ zd (hI.below hw2) (by rw[zBk];omega) hb2.size;refine tO 12 ?_;obtain⟨a3,c3,rfl,_,_⟩:=hO3.slice;rw[List.length_append,zBk]at hr3 hO3;refine zEl (.tmp 12) (.tmp 14) 26 rfl _ _ rfl rfl _ w3 hr3 ⟨hb3,?_⟩;simp only[Act.put,sA,sB,sC];clear qp;refine tX Later.pre 13 ?_;refine tD ?_;go_wp2_with fail;go_ret
 exact⟨a3,c3,rfl,hO3.mono hbd.size,hw2.trans (hb3.mono hw2.size)⟩
theorem But.wk {E E':Nat→Prop} {a b:World} (h:But E a b)(hE:∀k,E k→E' k):But E' a b:=⟨h.os,h.tape,h.output,h.size,fun i hi he=>h.block i hi (fun h'=>he (hE i h'))⟩
theorem Ow.aside {base mb:Nat} {W W':World} {v:Value} {zs:List Int} {cur:Array Value} {t:TypeId} (h:Ow base W v zs)(hm:W.heap[mb]? =some (.cells cur t (0,0)))(ht:t≠5)(hb:But (fun b=>b=mb) W W'):Ow base W' v zs:=by
 rcases h with h|⟨g,cap,c,h1,h2,h3,h4,h5,h6,h7⟩
 ·exact .inl h
 ·refine .inr ⟨g,cap,c,h1,h2,h3,h4,h5,(hb.block g (eS h6) (fun e=> ?_)).trans h6,h7⟩
  subst e;rw[hm]at h6
  simp at h6
  exact ht h6.2
def pue (proto src dst:Int) (zs:List Int):Int:=if proto≠17 then 12 else if zs.length<8 then 3 else if wat zs 4≠zs.length then 4 else if wat zs 6≠0∧Mt.cks (psd src dst 17 zs.length++zs)≠0 then 5 else 0
theorem zCb {P:Program} {q:IntKind} {t kt et:TypeId} (ht:P.underlying t=some (.map kt et))(hk:P.underlying kt=some (.int q)) {w:World} {b:Nat} {es:Array MapEntry} {c:Nat} (hb:w.heap[b]? =some (.map es c))(z:Int)(v:Value)(hf:Instr.findNow (.int q) (.int q z) es.toList 0=some none):
  ∃w',(Instr.mapUpdate t (.map (some b)) (.int q z) v).run P w= .ok () w'∧w'.heap[b]? =some (.map (es.push ⟨.int q z,v,c⟩) (c+1))∧∀n,n≤b→Below n w w':=by
 have hc:(Instr.checkKey false 10000 kt (.int q z)).run P w= .ok () w:=MapKept.run_checkKey (k:= .int q z) hk (by simp[MapKept.IsKey]) false 9999;have hlt:=(eS hb);refine⟨{ w with heap:=w.heap.setIfInBounds b (.map (es.push ⟨.int q z,v,c⟩) (c+1)) },?_,?_,fun n hn=>⟨rfl,rfl,rfl,by simp,fun i hi=> ?_⟩⟩
 ·simp[Instr.mapUpdate,run_underlying ht,MapKept.run_getObj_map hb,hc,MapKept.run_findKey hk hf,MapKept.run_setObj_map _ hb,Result.andThen]
 ·simp[hlt]
 ·rw[Array.getElem?_setIfInBounds_ne (by omega)]
theorem zIe {P:Program} {q:IntKind} {t kt et:TypeId} (ht:P.underlying t=some (.map kt et))(hk:P.underlying kt=some (.int q)) {w:World} {b:Nat} {es:Array MapEntry} {c:Nat} (hb:w.heap[b]? =some (.map es c))(z:Int)(v:Value)(ok:Bool)
  (hf:((∃j,Instr.findNow (.int q) (.int q z) es.toList 0=some (some (j,v)))∧ok=true∨(Instr.findNow (.int q) (.int q z) es.toList 0=some none∧(zeroValue et).run P w= .ok v w∧ok=false))):(Instr.lookup t (.map (some b)) (.int q z) true).run P w= .ok (.tuple #[v,.bool ok]) w:=by
 have hc:(Instr.checkKey es.isEmpty 10000 kt (.int q z)).run P w= .ok () w:=MapKept.run_checkKey (k:= .int q z) hk (by simp[MapKept.IsKey]) _ 9999;rcases hf with⟨⟨j,hf⟩,rfl⟩|⟨hf,hz,rfl⟩
 ·simp[Instr.lookup,run_underlying ht,MapKept.run_getObj_map hb,hc,MapKept.run_findKey hk hf,Result.andThen]
 ·simp[Instr.lookup,run_underlying ht,MapKept.run_getObj_map hb,hc,MapKept.run_findKey hk hf,hz,Result.andThen]
def rdE:Array MapEntry:=#[⟨.int .u8 6,.agg #[.func (.func 224) #[] #[],.func (.func 225) #[] #[]],0⟩,⟨.int .u8 17,.agg #[.func (.func 226) #[] #[],.func (.func 225) #[] #[]],1⟩,⟨.int .u8 1,.agg #[.func (.func 227) #[] #[],.func (.func 228) #[] #[]],2⟩,⟨.int .u8 47,.agg #[.func (.func 229) #[] #[],.func (.func 230) #[] #[]],3⟩]
theorem zFb(w:World):Calls Tryz.prog 167 #[] w fun e w'=>∃b,e= .returned (.map (some b))∧Below w.heap.size w w'∧w'.heap[b]? =some (.map rdE 4):=by
 have hmm:= @run_makeMap Tryz.prog;have hb0:Below w.heap.size w (w.alloc (.map #[] 0)):=bA _ _;have hM0:=heap_alloc_new w (.map #[] 0);obtain⟨w1,r1,m1,l1⟩:=zCb (P:=Tryz.prog) Tryz.underlying314 Tryz.underlying5 hM0 6 (.agg #[.func (.func 224) #[] #[],.func (.func 225) #[] #[]]) (by kernel_rfl);obtain⟨w2,r2,m2,l2⟩:=zCb (P:=Tryz.prog) Tryz.underlying314 Tryz.underlying5 m1 17 (.agg #[.func (.func 226) #[] #[],.func (.func 225) #[] #[]]) (by kernel_rfl);obtain⟨w3,r3,m3,l3⟩:=zCb (P:=Tryz.prog) Tryz.underlying314 Tryz.underlying5 m2 1 (.agg #[.func (.func 227) #[] #[],.func (.func 228) #[] #[]]) (by kernel_rfl);obtain⟨w4,r4,m4,l4⟩:=zCb (P:=Tryz.prog) Tryz.underlying314 Tryz.underlying5 m3 47 (.agg #[.func (.func 229) #[] #[],.func (.func 230) #[] #[]]) (by kernel_rfl);have hb4:Below w.heap.size w w4:=(((hb0.trans (l1 _ (Nat.le_refl _))).trans (l2 _ (Nat.le_refl _))).trans (l3 _ (Nat.le_refl _))).trans (l4 _ (Nat.le_refl _));clear m1 m2 m3 l1 l2 l3 l4 hM0 hb0;have M4:=zAc m4;clear m4;go_enter Tryz.func167,Tryz.ntmps167;go_wp2_with fail;go_ret
 exact⟨_,rfl,hb4,M4.out⟩
theorem look_tcp {w:World} {b:Nat} (hb:w.heap[b]? =some (.map rdE 4)):(Instr.lookup 314 (.map (some b)) (.int .u8 6) true).run Tryz.prog w= .ok (.tuple #[.agg #[.func (.func 224) #[] #[],.func (.func 225) #[] #[]],.bool true]) w:=
 zIe Tryz.underlying314 Tryz.underlying5 hb 6 _ true (.inl ⟨⟨0,by kernel_rfl⟩,rfl⟩)
theorem look_gre {w:World} {b:Nat} (hb:w.heap[b]? =some (.map rdE 4)):(Instr.lookup 314 (.map (some b)) (.int .u8 47) true).run Tryz.prog w= .ok (.tuple #[.agg #[.func (.func 229) #[] #[],.func (.func 230) #[] #[]],.bool true]) w:=
 zIe Tryz.underlying314 Tryz.underlying5 hb 47 _ true (.inl ⟨⟨3,by kernel_rfl⟩,rfl⟩)
theorem told_any(tos id ttl proto src dst a b e0:Int)(keep:Bool)(so sd:Value)(w:World):Calls Tryz.prog 168 #[.agg #[.int .u8 tos,.int .u16 id,.bool keep,.int .u8 ttl,.int .u8 proto,.int .u32 src,.int .u32 dst,so,sd],.agg #[.int .u16 a,.int .u16 b],.int .i64 e0] w fun e w'=>Below w.heap.size w w'∧((e0≠0∧e= .returned (.tuple #[.agg #[.int .u8 0,.int .u32 0,.int .u32 0,.int .u16 0,.int .u16 0],.int .i64 e0]))∨(e0=0∧e= .returned (.tuple #[.agg #[.int .u8 proto,.int .u32 src,.int .u32 dst,.int .u16 a,.int .u16 b],.int .i64 0]))):=by
 by_cases h:e0=0
 ·subst h
  go_enter Tryz.func168,Tryz.ntmps168;go_wp2_with fail;exact bodyPost_ret (v:= .tuple #[.agg #[.int .u8 proto,.int .u32 src,.int .u32 dst,.int .u16 a,.int .u16 b],.int .i64 0]) (by simp[results,Tryz.results168,go_sem]) rfl ⟨((bA _ _).alloc (by simp) _).alloc (by simp;omega) _,.inr ⟨trivial,rfl⟩⟩
 ·have h1:(e0 !=0)=true:=by simp[h]
  have H:=zAc h;clear h;go_enter Tryz.func168,Tryz.ntmps168;go_wp2_with fail;exact bodyPost_ret (v:= .tuple #[.agg #[.int .u8 0,.int .u32 0,.int .u32 0,.int .u16 0,.int .u16 0],.int .i64 e0]) (by simp[results,Tryz.results168,go_sem]) rfl ⟨((bA _ _).alloc (by simp) _).alloc (by simp;omega) _,.inl ⟨H.out,rfl⟩⟩
def otv (e0 proto src dst a b:Int):Value:=if e0=0 then .agg #[.int .u8 proto,.int .u32 src,.int .u32 dst,.int .u16 a,.int .u16 b]else .agg #[.int .u8 0,.int .u32 0,.int .u32 0,.int .u16 0,.int .u16 0]
theorem zCu(P:Program)(w:World)(a:Addr)(m:Mode)(f:Fn)(xs ys:Array Value):(store a (.func f xs ys) m).run P w=stored P w a (.func f xs ys) m:=run_store P w a _ m rfl
theorem otv_ok(proto src dst a b:Int):otv 0 proto src dst a b= .agg #[.int .u8 proto,.int .u32 src,.int .u32 dst,.int .u16 a,.int .u16 b]:=rfl
theorem otv_no {e0:Int} (h:e0≠0)(proto src dst a b:Int):otv e0 proto src dst a b= .agg #[.int .u8 0,.int .u32 0,.int .u32 0,.int .u16 0,.int .u16 0]:=if_neg h
theorem of_gen(pr x y e0:Int)(fw fb:FuncId)(tos id ttl src dst:Int)(keep:Bool)(so:Value)(ad:Option Addr)(ld cd:Nat)(w:World)
  (hlk0:∀(w:World) (b:Nat),w.heap[b]? =some (.map rdE 4)→(Instr.lookup 314 (.map (some b)) (.int .u8 pr) true).run Tryz.prog w= .ok (.tuple #[.agg #[.func (.func fw) #[] #[],.func (.func fb) #[] #[]],.bool true]) w)
  (hcf:∀(args:Array Value) (w:World),(callFunc fw args).run Tryz.prog w= .ok (.enter fw args) w)
  (hf:∀w',Below w.heap.size w w'→Calls Tryz.prog fw #[.agg #[.int .u8 tos,.int .u16 id,.bool keep,.int .u8 ttl,.int .u8 pr,.int .u32 src,.int .u32 dst,so,.slice ad ld cd]] w' fun e w''=>Below w'.heap.size w' w''∧∃a b:Int,e= .returned (.tuple #[.agg #[.int .u16 a,.int .u16 b],.int .i64 e0])∧(e0=0→a=x∧b=y)):
  Calls Tryz.prog 112 #[.agg #[.int .u8 tos,.int .u16 id,.bool keep,.int .u8 ttl,.int .u8 pr,.int .u32 src,.int .u32 dst,so,.slice ad ld cd]] w fun e w'=>Below w.heap.size w w'∧e= .returned (.tuple #[otv e0 pr src dst x y,.int .i64 e0]):=by
 have hb0:Below w.heap.size w ((w.alloc (.cells #[.int .u8 tos,.int .u16 id,.bool keep,.int .u8 ttl,.int .u8 pr,.int .u32 src,.int .u32 dst,so,.slice ad ld cd] 40)).alloc (.cells #[.int .u8 0,.int .u32 0,.int .u32 0,.int .u16 0,.int .u16 0] 103)):=(bA _ _).alloc (by simp) _;have p0:((w.alloc (.cells #[.int .u8 tos,.int .u16 id,.bool keep,.int .u8 ttl,.int .u8 pr,.int .u32 src,.int .u32 dst,so,.slice ad ld cd] 40)).alloc (.cells #[.int .u8 0,.int .u32 0,.int .u32 0,.int .u16 0,.int .u16 0] 103)).heap[w.heap.size]? =some (.cells #[.int .u8 tos,.int .u16 id,.bool keep,.int .u8 ttl,.int .u8 pr,.int .u32 src,.int .u32 dst,so,.slice ad ld cd] 40):=(Below.heap_alloc _ _ _ (by simp)).trans (heap_alloc_new w _);have r0:=heap_alloc_new (w.alloc (.cells #[.int .u8 tos,.int .u16 id,.bool keep,.int .u8 ttl,.int .u8 pr,.int .u32 src,.int .u32 dst,so,.slice ad ld cd] 40)) (.cells #[.int .u8 0,.int .u32 0,.int .u32 0,.int .u16 0,.int .u16 0] 103);rw[World.size_alloc]at r0;have hs0:((w.alloc (.cells #[.int .u8 tos,.int .u16 id,.bool keep,.int .u8 ttl,.int .u8 pr,.int .u32 src,.int .u32 dst,so,.slice ad ld cd] 40)).alloc (.cells #[.int .u8 0,.int .u32 0,.int .u32 0,.int .u16 0,.int .u16 0] 103)).heap.size=w.heap.size+2:=by simp
 have HS0:=zAc hs0;have P0:=zAc p0;have R0:=zAc r0;clear r0 hs0 p0;go_enter Tryz.func112,Tryz.ntmps112;go_upto_region 1 with fail;generalize (w.alloc (.cells #[.int .u8 tos,.int .u16 id,.bool keep,.int .u8 ttl,.int .u8 pr,.int .u32 src,.int .u32 dst,so,.slice ad ld cd] 40)).alloc (.cells #[.int .u8 0,.int .u32 0,.int .u32 0,.int .u16 0,.int .u16 0] 103)=w0 at*;have hlt0:w.heap.size+1<w0.heap.size:=by have:=HS0.out;omega
 have p0:=P0.out;go_cut [4,5] (fun q x wx=>∃g,q= .pointer (some ⟨g,0,none⟩)∧x= .bool true∧wx.heap[g]? =some (.cells #[.func (.func fw) #[] #[],.func (.func fb) #[] #[]] 312 (0,0))∧Below w0.heap.size w0 wx)
 case first=>
  refine zAk (R:=But (fun b=>w0.heap.size≤b)) 10 rfl (by kernel_rfl) ?_;have hd:Later w0 w0.drew:=Later.drew w0;have pd:=(hd.block w.heap.size (eS p0)).trans p0;have bd:Below w0.heap.size w0 w0.drew:=hd;generalize w0.drew=Wd at*;have ha:∀v1,But (fun b=>w0.heap.size≤b) Wd v1→∀i,v1.cell? ⟨w.heap.size,i,none⟩=#[Value.int .u8 tos,.int .u16 id,.bool keep,.int .u8 ttl,.int .u8 pr,.int .u32 src,.int .u32 dst,so,.slice ad ld cd][i]? :=fun v1 h=>zAa ((h.block w.heap.size (eS pd) (by omega)).trans pd);have hz:w0.heap.size≤Wd.heap.size:=bd.size;refine tX (But.pre _) 1 ?_;refine tX (But.pre _) 2 ?_;refine zDs 0 7 rfl rfl (by kernel_rfl) rfl rfl ?_ ?_
  ·skip
   refine zAi 167 #[] (by go_simp) ?_;refine(zFb Wd).mono ?_;rintro e W3 ⟨m,rfl,hb3,hM3⟩;have l3:Later Wd W3:=hb3;refine⟨But.of l3,?_⟩;simp only[Act.put,sA,sB,sC];have hlk:=hlk0 _ _ hM3;refine zDs 3 7 rfl rfl (by kernel_rfl) rfl rfl ?_ ?_
   ·unfold Oper.wp
    go_simp;refine⟨But.refl _ _,?_⟩;clear hlk;refine tX (But.pre _) 4 ?_;refine tX (But.pre _) 5 ?_;refine tX (But.pre _) 6 ?_;refine tO 7 ?_;unfold Oper.wp;go_simp;have l4:Later W3 (W3.alloc (.cells #[.nilFunc,.nilFunc] 312)):=bA _ _;have g4:=heap_alloc_new W3 (.cells #[.nilFunc,.nilFunc] 312);have b4:Below w0.heap.size w0 (W3.alloc (.cells #[.nilFunc,.nilFunc] 312)):=(bd.trans (l3.mono hz)).trans (l4.mono (Nat.le_trans hz l3.size));have hge:w0.heap.size≤W3.heap.size:=Nat.le_trans hz l3.size;refine⟨But.of l4,?_⟩;generalize W3.alloc (.cells #[.nilFunc,.nilFunc] 312)=W4 at*;generalize W3.heap.size=g at*;have kg:=zAa g4;have fg:=zAd g4;have hsf:=zCu Tryz.prog;refine tO 8 ?_;unfold Oper.wp;go_simp;generalize hV:World.setCell _ ⟨g,1,none⟩ _=V;have hV8:V=zAj W4 (g) 0 [.func (.func fw) #[] #[],.func (.func fb) #[] #[]]:=hV.symm;have hbV:But (fun b=>w0.heap.size≤b) W4 V:=by rw[hV8];exact zAf (E:=fun b=>w0.heap.size≤b) (n:=g) hge _ _ _ _ (But.refl _ _)
    have pV:=zAg [Value.func (.func fw) #[] #[],.func (.func fb) #[] #[]] g4 rfl;rw[←hV8]at pV;clear hV hV8 kg fg hsf;refine⟨hbV,?_⟩;refine tO 9 ?_;unfold Oper.wp;go_simp;refine⟨But.refl _ _,?_⟩;refine tD ?_;have hbl:Below w0.heap.size w0 V:=b4.trans (hbV.below b4.size (fun k hk e=>by omega));clear ha;go_wp2_with fail;go_meet
    exact⟨_,rfl,rfl,pV,hbl⟩
   ·unfold Oper.wp
    go_simp;have l4:Later W3 (W3.alloc (.cells #[.nilFunc,.nilFunc] 312)):=bA _ _;have g4:=heap_alloc_new W3 (.cells #[.nilFunc,.nilFunc] 312);have b4:Below w0.heap.size w0 (W3.alloc (.cells #[.nilFunc,.nilFunc] 312)):=(bd.trans (l3.mono hz)).trans (l4.mono (Nat.le_trans hz l3.size));have hge:w0.heap.size≤W3.heap.size:=Nat.le_trans hz l3.size;have hM4:=(l4.block m (eS hM3)).trans hM3;refine⟨But.of l4,?_⟩;clear hlk;generalize W3.alloc (.cells #[.nilFunc,.nilFunc] 312)=W4 at*;generalize W3.heap.size=g at*;have hlk:=hlk0 _ _ hM4;refine tO 3 ?_;unfold Oper.wp;go_simp;refine⟨But.refl _ _,?_⟩;clear hlk;refine tX (But.pre _) 4 ?_;refine tX (But.pre _) 5 ?_;refine tX (But.pre _) 6 ?_;have kg:=zAa g4;have fg:=zAd g4;have hsf:=zCu Tryz.prog;refine tO 8 ?_;unfold Oper.wp;go_simp;generalize hV:World.setCell _ ⟨g,1,none⟩ _=V;have hV8:V=zAj W4 (g) 0 [.func (.func fw) #[] #[],.func (.func fb) #[] #[]]:=hV.symm;have hbV:But (fun b=>w0.heap.size≤b) W4 V:=by rw[hV8];exact zAf (E:=fun b=>w0.heap.size≤b) (n:=g) hge _ _ _ _ (But.refl _ _)
    have pV:=zAg [Value.func (.func fw) #[] #[],.func (.func fb) #[] #[]] g4 rfl;rw[←hV8]at pV;clear hV hV8 kg fg hsf;refine⟨hbV,?_⟩;refine tO 9 ?_;unfold Oper.wp;go_simp;refine⟨But.refl _ _,?_⟩;refine tD ?_;have hbl:Below w0.heap.size w0 V:=b4.trans (hbV.below b4.size (fun k hk e=>by omega));clear ha;go_wp2_with fail;go_meet
    exact⟨_,rfl,rfl,pV,hbl⟩
  ·unfold Oper.wp
   go_simp;have l4:Later Wd (Wd.alloc (.cells #[.nilFunc,.nilFunc] 312)):=bA _ _;have g4:=heap_alloc_new Wd (.cells #[.nilFunc,.nilFunc] 312);have b4:Below w0.heap.size w0 (Wd.alloc (.cells #[.nilFunc,.nilFunc] 312)):=bd.trans (l4.mono hz);refine⟨But.of l4,?_⟩;have hge:w0.heap.size≤Wd.heap.size:=hz;generalize Wd.alloc (.cells #[.nilFunc,.nilFunc] 312)=W4 at*;generalize Wd.heap.size=g at*;refine tO 0 ?_;refine zAi 167 #[] (by go_simp) ?_;refine(zFb W4).mono ?_;rintro e W5 ⟨m,rfl,hb5,hM5⟩;have l5:Later W4 W5:=hb5;have g5:=(l5.block g (eS g4)).trans g4;have b5:Below w0.heap.size w0 W5:=b4.trans (l5.mono b4.size);refine⟨But.of l5,?_⟩;simp only[Act.put,sA,sB,sC];have hlk:=hlk0 _ _ hM5;refine tO 3 ?_;unfold Oper.wp;go_simp;refine⟨But.refl _ _,?_⟩;clear hlk;refine tX (But.pre _) 4 ?_;refine tX (But.pre _) 5 ?_;refine tX (But.pre _) 6 ?_;have kg:=zAa g5;have fg:=zAd g5;have hsf:=zCu Tryz.prog;refine tO 8 ?_;unfold Oper.wp;go_simp;generalize hV:World.setCell _ ⟨g,1,none⟩ _=V;have hV8:V=zAj W5 (g) 0 [.func (.func fw) #[] #[],.func (.func fb) #[] #[]]:=hV.symm;have hbV:But (fun b=>w0.heap.size≤b) W5 V:=by rw[hV8];exact zAf (E:=fun b=>w0.heap.size≤b) (n:=g) hge _ _ _ _ (But.refl _ _)
   have pV:=zAg [Value.func (.func fw) #[] #[],.func (.func fb) #[] #[]] g5 rfl;rw[←hV8]at pV;clear hV hV8 kg fg hsf;refine⟨hbV,?_⟩;refine tO 9 ?_;unfold Oper.wp;go_simp;refine⟨But.refl _ _,?_⟩;refine tD ?_;have hbl:Below w0.heap.size w0 V:=b5.trans (hbV.below b5.size (fun k hk e=>by omega));clear ha;go_wp2_with fail;go_meet
   exact⟨_,rfl,rfl,pV,hbl⟩
 case rest=>
  obtain⟨g,rfl,rfl,hg,hbc⟩:=hcut;have pc:=(hbc.block w.heap.size (eS p0)).trans p0;have rc:=(hbc.block _ (eS R0.out)).trans R0.out;have hwc:=hb0.trans (hbc.mono hb0.size);have kg:=zAa hg;have kp:=zAa pc;go_wp2_with fail;refine(hf wc hwc).mono ?_;rintro e w5 ⟨hb5,u,v,rfl,hab⟩;have HAB:=zAc hab;clear hab;have l6:Later w5 (w5.alloc (.cells #[.int .u16 u,.int .u16 v] 317)):=bA _ _;have l56:=Later.trans hb5 l6;have p6:=(l56.block w.heap.size (eS pc)).trans pc;have r6:=(l56.block _ (eS rc)).trans rc;have hw6:=hwc.trans (l56.mono hwc.size);clear kg kp;have kp:=zAa p6;go_wp2_with fail;generalize w5.alloc (.cells #[.int .u16 u,.int .u16 v] 317)=w6 at*;refine(told_any tos id ttl pr src dst u v e0 keep so _ w6).mono ?_;rintro e w7 ⟨hb7,⟨hx,rfl⟩|⟨hx,rfl⟩⟩
  ·have HX:=zAc hx
   clear hx;have r7:=(Below.block hb7 _ (eS r6)).trans r6;have hw7:=hw6.trans (hb7.mono hw6.size);have k7:=zAa r7;have f7:=zAd r7;clear kp;go_wp2_with fail;generalize hV:World.setCell _ ⟨w.heap.size+1,4,none⟩ _=V;have hV8:V=zAj w7 (w.heap.size+1) 0 [.int .u8 0,.int .u32 0,.int .u32 0,.int .u16 0,.int .u16 0]:=hV.symm;have hbV:But (fun b=>b=w.heap.size+1) w7 V:=by rw[hV8];exact zAf (E:=fun b=>b=w.heap.size+1) (n:=w.heap.size+1) rfl _ _ _ _ (But.refl _ _)
   have pV:=zAg ([.int .u8 0,.int .u32 0,.int .u32 0,.int .u16 0,.int .u16 0]:List Value) r7 rfl;rw[←hV8]at pV;clear hV hV8 k7 f7;have PV:=zAa pV;have hwV:Below w.heap.size w V:=hw7.trans (hbV.below hw7.size (fun k hk e=>by omega));exact bodyPost_ret (v:= .tuple #[.agg #[.int .u8 0,.int .u32 0,.int .u32 0,.int .u16 0,.int .u16 0],.int .i64 e0]) (by simp[results,Tryz.results112,go_sem,PV]) rfl ⟨hwV,by rw[otv_no HX.out]⟩
  ·subst hx
   obtain⟨rfl,rfl⟩:=HAB.out rfl;have r7:=(Below.block hb7 _ (eS r6)).trans r6;have hw7:=hw6.trans (hb7.mono hw6.size);have k7:=zAa r7;have f7:=zAd r7;clear kp;go_wp2_with fail;generalize hV:World.setCell _ ⟨w.heap.size+1,4,none⟩ _=V;have hV8:V=zAj w7 (w.heap.size+1) 0 [.int .u8 pr,.int .u32 src,.int .u32 dst,.int .u16 u,.int .u16 v]:=hV.symm;have hbV:But (fun b=>b=w.heap.size+1) w7 V:=by rw[hV8];exact zAf (E:=fun b=>b=w.heap.size+1) (n:=w.heap.size+1) rfl _ _ _ _ (But.refl _ _)
   have pV:=zAg ([.int .u8 pr,.int .u32 src,.int .u32 dst,.int .u16 u,.int .u16 v]:List Value) r7 rfl;rw[←hV8]at pV;clear hV hV8 k7 f7;have PV:=zAa pV;have hwV:Below w.heap.size w V:=hw7.trans (hbV.below hw7.size (fun k hk e=>by omega));exact bodyPost_ret (v:= .tuple #[.agg #[.int .u8 pr,.int .u32 src,.int .u32 dst,.int .u16 u,.int .u16 v],.int .i64 0]) (by simp[results,Tryz.results112,go_sem,PV]) rfl ⟨hwV,rfl⟩
theorem cf_tcp(args:Array Value)(w:World):(callFunc 224 args).run Tryz.prog w= .ok (.enter 224 args) w:=by kernel_rfl
theorem cf_gre(args:Array Value)(w:World):(callFunc 229 args).run Tryz.prog w= .ok (.enter 229 args) w:=by kernel_rfl
abbrev Opt:=Int × List Int
def ByO (os:List Opt):Prop:=∀o∈os,(0≤o.1∧o.1≤255)∧Mt.By o.2
def ob1 (o:Opt):List Int:=if o.1=1 then [1]else o.1::(2+(o.2.length:Int))::o.2
def okO (o:Opt):Prop:=o.1≠0∧(o.1=1→o.2=[])
instance (o:Opt):Decidable (okO o):=by unfold okO;exact inferInstance
def osz (o:Opt):Nat:=if o.1=1 then 1 else 2+o.2.length
theorem zGa(o:Opt):(ob1 o).length=osz o:=by unfold ob1 osz;split<;>simp;omega
def obs (os:List Opt):List Int:=os.flatMap ob1
theorem obs_nil:obs []=[]:=rfl
theorem zMo(o:Opt)(r:List Opt):obs (o::r)=ob1 o++obs r:=by simp[obs]
theorem zHb(l:List Opt)(o:Opt):obs (l++[o])=obs l++ob1 o:=by simp[obs]
theorem obs_app(l r:List Opt):obs (l++r)=obs l++obs r:=by simp[obs]
def zOy (os:List Opt):Prop:=(∀o∈os,okO o)∧(obs os).length≤40
instance (os:List Opt):Decidable (zOy os):=by unfold zOy;exact inferInstance
theorem zHc:zOy []:=by constructor<;>simp[obs]
def zFx (n:Nat):Nat:=(4-n % 4) % 4
def pad (l:List Int):List Int:=l++List.replicate (zFx l.length) 0
theorem zGb(l:List Int):(pad l).length=l.length+zFx l.length:=by simp[pad]
theorem zKu(l:List Int):(pad l).length % 4=0:=by rw[zGb];unfold zFx;omega
theorem pad_le(l:List Int)(h:l.length≤40):(pad l).length≤40:=by rw[zGb];unfold zFx;omega
theorem By_rep(n:Nat):Mt.By (List.replicate n 0):=by
 induction n with
 |zero=>exact Mt.By.nil
 |succ n ih=>rw[List.replicate_succ];exact .mk (by omega) ih
theorem By_ob1(o:Opt)(h:(0≤o.1∧o.1≤255)∧Mt.By o.2)(hl:osz o≤40):Mt.By (ob1 o):=by
 unfold osz at hl;unfold ob1;split
 ·exact .mk (by omega) .nil
 ·rw[if_neg (by assumption)]at hl
  exact .mk h.1 (.mk (by omega) h.2)
theorem By_obs:∀os:List Opt,ByO os→(obs os).length≤40→Mt.By (obs os)
 | [],_,_=>Mt.By.nil
 |o::r,h,hl=>by
  rw[zMo]at hl⊢;rw[List.length_append,zGa]at hl;exact(By_ob1 o (h o (by simp)) (by omega)).append (By_obs r (fun x hx=>h x (by simp[hx])) (by omega))
theorem By_pad(l:List Int)(h:Mt.By l):Mt.By (pad l):=h.append (By_rep _)
def po:Nat→List Int→Option (List Opt)
 |0,_=>none
 |_+1,[]=>some []
 | n+1,k::r=>
  if k=0 then(if ∀x∈r,x=0 then some []else none)
  else if k=1 then(po n r).map ((1,[]):: ·)
  else match r with
   | []=>none
   |s::r'=>if s<2∨(r'.length:Int)+2<s then none else(po n (r'.drop (s.toNat-2))).map ((k,r'.take (s.toNat-2)):: ·)
theorem zKv:∀(n m:Nat) (l:List Int),l.length<n→l.length<m→po n l=po m l
 |0,_,_,h,_=>by omega
 |_+1,0,_,_,h=>by omega
 |n+1,m+1,[],_,_=>rfl
 | n+1,m+1,k::r,h,h'=>by
  simp at h h'
  unfold po;split
  ·rfl
  split
  ·rw[zKv n m r (by omega) (by omega)]
  cases r with
  |nil=>rfl
  |cons s r'=>
   dsimp only
   split
   ·rfl
   ·rw[zKv n m (r'.drop (s.toNat-2)) (by simp at h⊢;omega) (by simp at h'⊢;omega)]
def zB7 (zs:List Int):Option (List Opt):=po (zs.length+1) zs
theorem zFc(r:List Int):zB7 (0::r)=if ∀x∈r,x=0 then some []else none:=by unfold zB7 po;rw[if_pos rfl]
theorem zMp(r:List Int):zB7 (1::r)=(zB7 r).map ((1,[]):: ·):=by
 show po ((r.length+1)+1) (1::r)=_
 unfold zB7;conv=>lhs;unfold po
 rw[if_neg (by decide),if_pos rfl]
theorem zPu(k:Int)(h0:k≠0)(h1:k≠1):zB7 [k]=none:=by unfold zB7 po;rw[if_neg h0,if_neg h1]
theorem zGc(k s:Int)(r:List Int)(h0:k≠0)(h1:k≠1)(h:s<2∨(r.length:Int)+2<s):zB7 (k::s::r)=none:=by
 unfold zB7 po;rw[if_neg h0,if_neg h1];simp only;rw[if_pos h]
theorem zIf(k s:Int)(r:List Int)(h0:k≠0)(h1:k≠1)(h:2≤s)(h':s≤(r.length:Int)+2):zB7 (k::s::r)=(zB7 (r.drop (s.toNat-2))).map ((k,r.take (s.toNat-2)):: ·):=by
 show po ((k::s::r).length+1) (k::s::r)=_
 unfold zB7;conv=>lhs;unfold po
 rw[if_neg h0,if_neg h1];simp only;rw[if_neg (by omega),zKv _ ((r.drop (s.toNat-2)).length+1) (r.drop (s.toNat-2)) (by simp;omega) (by omega)]
theorem opts_rep(n:Nat):zB7 (List.replicate n 0)=some []:=by
 cases n with
 |zero=>rfl
 |succ n=>rw[List.replicate_succ,zFc,if_pos (fun x hx=>(List.mem_replicate.1 hx).2)]
theorem zMq(m:Nat):∀os:List Opt,(∀o∈os,okO o)→zB7 (obs os++List.replicate m 0)=some os
 | [],_=>by rw[obs_nil,List.nil_append];exact opts_rep m
 | o::r,h=>by
  have ih:=zMq m r (fun x hx=>h x (by simp[hx]));obtain⟨k,d⟩:=o;have ho:=h (k,d) (by simp);unfold okO at ho;dsimp only at ho
  rw[zMo,List.append_assoc];unfold ob1;dsimp only
  split
  ·rename_i hk
   subst hk;rw[List.cons_append,List.nil_append,zMp,ih,ho.2 rfl];rfl
  ·rename_i hk
   simp only[List.cons_append];rw[zIf k _ _ ho.1 hk (by omega) (by simp;omega)];rw[show (2+(d.length:Int)).toNat-2=d.length from by omega,List.drop_left,List.take_left,ih];rfl
theorem opts_pad(os:List Opt)(h:zOy os):zB7 (pad (obs os))=some os:=zMq _ os h.1
def RdO (n₀:Nat) (W:World) (sv:Value) (os:List Opt):Prop:=
 (∃a cap,sv= .slice a 0 cap∧os=[]∧cap≤9223372036854775807∧(a=none→cap=0))∨
 ∃b off cap,sv= .slice (some ⟨b,off,none⟩) os.length cap∧os≠ []∧os.length≤cap∧cap≤9223372036854775807∧b<n₀∧
  ∀j,j<os.length→∃s,W.cell? ⟨b,off+j*2,none⟩=some (.int .u8 (os[j]?.getD (0,[])).1)∧W.cell? ⟨b,off+j*2+1,none⟩=some s∧Rd n₀ W s (os[j]?.getD (0,[])).2
theorem RdO.below {n₀:Nat} {A B:World} (h:Below n₀ A B) {sv:Value} {os:List Opt} :RdO n₀ A sv os→RdO n₀ B sv os
 | .inl e=> .inl e
 | .inr ⟨b,off,cap,e,hne,hl,hm,hb,hc⟩=> .inr ⟨b,off,cap,e,hne,hl,hm,hb,fun j hj=>let⟨s,h1,h2,h3⟩:=hc j hj;⟨s,(h.cell (p:=⟨b,off+j*2,none⟩) hb).trans h1,(h.cell (p:=⟨b,off+j*2+1,none⟩) hb).trans h2,h3.below h⟩⟩
theorem RdO.mono {n₀ n₁:Nat} {A:World} (h:n₀≤n₁) {sv:Value} {os:List Opt} :RdO n₀ A sv os→RdO n₁ A sv os
 | .inl e=> .inl e
 | .inr ⟨b,off,cap,e,hne,hl,hm,hb,hc⟩=> .inr ⟨b,off,cap,e,hne,hl,hm,Nat.lt_of_lt_of_le hb h,fun j hj=>let⟨s,h1,h2,h3⟩:=hc j hj;⟨s,h1,h2,h3.mono h⟩⟩
theorem RdO.slice {n₀:Nat} {A:World} {sv:Value} {os:List Opt} :RdO n₀ A sv os→∃a cap,sv= .slice a os.length cap∧os.length≤cap∧cap≤9223372036854775807
 | .inl ⟨a,cap,e,hz,hm,_⟩=>⟨a,cap,by rw[e,hz];rfl,by rw[hz];exact Nat.zero_le _,hm⟩
 | .inr ⟨b,off,cap,e,_,hl,hm,_⟩=>⟨_,cap,e,hl,hm⟩
theorem RdO.cells {n₀:Nat} {W:World} {sv:Value} {os:List Opt} (h:RdO n₀ W sv os)(hne:0<os.length):∃b off cap,sv= .slice (some ⟨b,off,none⟩) os.length cap∧os.length≤cap∧cap≤9223372036854775807∧b<n₀∧
  ∀j,j<os.length→∃s,W.cell? ⟨b,off+j*2,none⟩=some (.int .u8 (os[j]?.getD (0,[])).1)∧W.cell? ⟨b,off+j*2+1,none⟩=some s∧Rd n₀ W s (os[j]?.getD (0,[])).2:=by
 rcases h with⟨a,cap,_,rfl,_⟩|⟨b,off,cap,e,_,hl,hm,hb,hc⟩
 ·simp at hne
 ·exact ⟨b,off,cap,e,hl,hm,hb,hc⟩
def rob (k:Int) (len:Nat):Bool:=k !=0 && (k !=1||(len:Int)==0)
def oszi (k:Int) (len:Nat):Int:=if k=1 then 1 else 2+(len:Int)
theorem rob_iff(o:Opt):rob o.1 o.2.length=true↔okO o:=by
 unfold rob okO;obtain⟨k,d⟩:=o;by_cases h:k=1<;>cases d<;>simp_all<;>omega
theorem oszi_eq(o:Opt):oszi o.1 o.2.length=(osz o:Int):=by unfold oszi osz;split<;>simp
theorem zN3(k:Int)(a:Option Addr)(len cap:Nat)(w:World):
  Calls Tryz.prog 118 #[.agg #[.int .u8 k,.slice a len cap]] w fun e w'=>e= .returned (.bool (rob k len))∧Below w.heap.size w w':=by
 have hbox:Below w.heap.size w (w.alloc (.cells #[.int .u8 k,.slice a len cap] 244)):=bA _ _;unfold rob;cases h1:(k !=0)
 ·go_enter Tryz.func118,Tryz.ntmps118
  go_wp2
  go_ret
  exact⟨rfl,hbox⟩
 ·cases h2:(k !=1)
  ·go_enter Tryz.func118,Tryz.ntmps118
   go_wp2
   go_ret
   exact⟨rfl,hbox⟩
  ·go_enter Tryz.func118,Tryz.ntmps118
   go_wp2
   go_ret
   exact⟨rfl,hbox⟩
theorem zIg(k:Int)(a:Option Addr)(len cap:Nat)(w:World)(hl:len≤140737488355328):
  Calls Tryz.prog 119 #[.agg #[.int .u8 k,.slice a len cap]] w fun e w'=>e= .returned (.int .i64 (oszi k len))∧Below w.heap.size w w':=by
 have hbox:Below w.heap.size w (w.alloc (.cells #[.int .u8 k,.slice a len cap] 244)):=bA _ _;unfold oszi;by_cases h:k=1
 ·rw[if_pos h]
  have h1:(k==1)=true:=by simp[h]
  clear h;go_enter Tryz.func119,Tryz.ntmps119;go_wp2
  go_ret
  exact⟨rfl,hbox⟩
 ·rw[if_neg h]
  have h1:(k==1)=false:=by simp[h]
  clear h;go_enter Tryz.func119,Tryz.ntmps119;go_wp2
  go_ret
  exact⟨rfl,hbox⟩
section
variable {P:Program} {l:List Oper} {Q:Exit→Act→World→Prop} {fuel:Nat} {listed:Array Bool} {a:Act} {w:World} {R:World→World→Prop}
theorem zB4(hp:Pre R)(i:Nat) {oi:Oper} (hi:zBn l i=some oi)
  (hs:Region.noSelect l.toArray=true)(hf:Region.free .any l.toArray listed i=true)(hr:(Region.ready .any l.toArray listed).contains i=true)
  (hQ:∀c a w,Q (.panic c) (a.put oi.dst undef) w→Q (.panic c) a w)(hg:Region.wanted oi (yielded l.toArray a.tmps)=false)
  (h:zAy P .any l.toArray Q R fuel (listed.setIfInBounds i true) (a.put oi.dst undef) w):zAy P .any l.toArray Q R (fuel+1) listed a w:=by
 have hi':l.toArray[i]? =some oi:=by rw[←hi,zAz];simp
 exact zB8 hp.1 hp.2 hi' (Region.noSelect_spec hs) hQ fuel listed a w (Region.free_spec hi' hf) (by simpa using hr) (.inr ⟨hg,rfl⟩) h
end
theorem HSt.below {tl:List Value} {t:TypeId} {ub:Nat} {N:Nat→Prop} {ys:List Int} {W W':World} (h:HSt tl t ub N ys W)(l:Later W W'):HSt tl t ub N ys W':=by
 obtain⟨v,h1,h2,h3⟩:=h;refine⟨v,(l.block ub (eS h1)).trans h1,⟨h2.1,h2.2.imp id ?_⟩,h3⟩;rintro⟨g,cap,cur,e,hg,hh,r⟩;exact⟨g,cap,cur,e,hg,(l.block g (eS hh)).trans hh,r⟩
theorem HSt.cell {tl:List Value} {t:TypeId} {ub:Nat} {N:Nat→Prop} {ys:List Int} {W:World} (h:HSt tl t ub N ys W):∃a c,W.cell? ⟨ub,0,none⟩=some (.slice a ys.length c)∧Ow (ub+1) W (.slice a ys.length c) ys∧ys.length≤c:=by
 obtain⟨v,h1,h2,h3⟩:=h;have hO:=Ow.of_row h2;obtain⟨a,c,rfl,hc,_⟩:=hO.slice;exact⟨a,c,by have:=zAa h1 0;simpa using this,hO,hc⟩
def hpad (ub:Nat) (W:World):Nat:=match W.cell? ⟨ub,0,none⟩with|some (.slice _ n _)=>zFx n|_=>0
theorem zFd(sv:Value)(os:List Opt)(w:World)(hB:ByO os)(hI:RdO w.heap.size w sv os)(hl:∀o∈os,o.2.length≤140737488355000):
  Calls Tryz.prog 57 #[sv] w fun e w'=>Below w.heap.size w w'∧((¬zOy os∧e= .returned (.tuple #[.slice none 0 0,.bool false]))∨
   (zOy os∧∃a c,e= .returned (.tuple #[.slice a (pad (obs os)).length c,.bool true])∧Ow w.heap.size w' (.slice a (pad (obs os)).length c) (pad (obs os)))):=by
 obtain⟨a,cap,rfl,hc1,hc2⟩:=hI.slice;have h0:HSt [] 145 w.heap.size (fun _=>False) [] (w.alloc (.cells #[.slice none 0 0] 145)):=⟨.slice none 0 0,heap_alloc_new _ _,World.ownsRow_nil _ _ _ _,fun _ h=>by cases h⟩;have hb0:Below w.heap.size w (w.alloc (.cells #[.slice none 0 0] 145)):=bA _ _;go_enter Tryz.func57,Tryz.ntmps57;go_wp2
 generalize w.alloc (.cells #[.slice none 0 0] 145)=W0 at*
 go_loopw [9] (fun i wr=>∃k:Nat,k≤os.length∧i= .int .i64 (k:Int)∧HSt [] 145 w.heap.size (fun _=>False) (obs (os.take k)) wr∧Below w.heap.size w wr∧(∀o∈os.take k,okO o)∧(obs (os.take k)).length≤40)
  (fun i _=>os.length-(intOf i).toNat)
 case atStart=>exact⟨0,by omega,rfl,h0,hb0,by simp,by simp[obs]⟩
 case round=>
  obtain⟨k,hk,rfl,hH,hb,hok,h40⟩:=hrel;have hub:=hH.lt;by_cases hlt:k<os.length
  ·obtain ⟨b,off,cp,e,_,_,hbb,hcs⟩:=(hI.below hb).cells (by omega)
   simp at e
   obtain⟨rfl,rfl⟩:=e;obtain⟨s,c0,c1,hRs⟩:=hcs k hlt;clear hcs;obtain⟨ax,cx,rfl,hs1,hs2⟩:=hRs.slice;have hmem:os[k]?.getD (0,[])∈os:=by simp[hlt]
   have hol:=hl _ hmem;have hoB:=hB _ hmem;have HT:Hid (os.take (k+1)=os.take k++[os[k]?.getD (0,[])]):=by show _=_;rw[List.take_add_one];simp[hlt]
   clear hmem;generalize os[k]?.getD (0,[])=o at*;obtain⟨kd,dt⟩:=o;dsimp only at c0 hRs hs1 hol hoB c1
   have hRo:=(rob_iff (kd,dt));have hOz:=(oszi_eq (kd,dt));have hO1:=zGa (kd,dt);dsimp only at hRo hOz
   have HRo:=zAc hRo;have HOz:=zAc hOz;have HO1:=zAc hO1;clear hRo hOz hO1;have hlt':(k:Int)<os.length:=by omega
   have hbw:Below w.heap.size w (wr.alloc (.cells #[.int .u8 kd,.slice ax dt.length cx] 244)):=hb.trans ((Below.refl _ wr).alloc hb.size _);have hHw:=hH.alloc (.cells #[.int .u8 kd,.slice ax dt.length cx] 244);have ox:(wr.alloc (.cells #[.int .u8 kd,.slice ax dt.length cx] 244)).heap[wr.heap.size]? =some (.cells #[.int .u8 kd,.slice ax dt.length cx] 244):=heap_alloc_new _ _;have hsw:(wr.alloc (.cells #[.int .u8 kd,.slice ax dt.length cx] 244)).heap.size=wr.heap.size+1:=by simp
   have OX:=zAc ox;have HSW:=zAc hsw;clear ox hsw;have hRw:=hRs.below ((Below.refl _ wr).alloc hb.size (.cells #[.int .u8 kd,.slice ax dt.length cx] 244));go_upto_region 5 with fail;generalize wr.alloc (.cells #[.int .u8 kd,.slice ax dt.length cx] 244)=W1 at*;obtain⟨ah,ch,hcell,hOh,hch⟩:=hHw.cell;refine zAn Later.pre Later.drew 12 rfl (by kernel_rfl) (fun W2 hW2=> ?_);have qo:∀v1,Later W2 v1→∀i,v1.cell? ⟨wr.heap.size,i,none⟩=#[Value.int .u8 kd,.slice ax dt.length cx][i]? :=fun v1 h=>zAa (zAb (hW2.trans h) OX.out);have qh:∀v1,Later W2 v1→v1.cell? ⟨w.heap.size,0,none⟩=some (.slice ah (obs (os.take k)).length ch):=fun v1 h=>(hW2.trans h).cell hcell;refine rX Later.pre 0 ?_;refine zAr Later.pre 1 (.bool (rob kd dt.length)) rfl (by kernel_rfl) (by kernel_rfl) (by kernel_rfl) (fun _ _ _ h=>h) rfl (fun v1 hv1=>zAo 118 #[.agg #[.int .u8 kd,.slice ax dt.length cx]] (by go_simp) ?_) ?_
   ·exact (zN3 kd ax dt.length cx v1)
   simp only[Act.put,sA,sB,sC];have hmm:(kd,dt)∈os:=by have h2:(kd,dt)∈os.take (k+1):=(by rw[HT.out];simp);exact List.mem_of_mem_take h2
   have hbad:¬okO (kd,dt)→¬zOy os:=fun h h'=>h (h'.1 _ hmm);clear hmm;cases hro:rob kd dt.length with
   |false=>
    have HN:=zAc (hbad (fun h=>by have:=(HRo.out.2 h);rw[hro]at this;cases this));clear hbad hro;refine rX Later.pre 2 ?_;refine rX Later.pre 3 ?_;refine zB4 Later.pre 4 rfl (by kernel_rfl) (by kernel_rfl) (by kernel_rfl) (fun _ _ _ h=>h) (by rfl) ?_;simp only[Act.put,sA,sB,sC];refine zB4 Later.pre 5 rfl (by kernel_rfl) (by kernel_rfl) (by kernel_rfl) (fun _ _ _ h=>h) (by rfl) ?_;simp only[Act.put,sA,sB,sC];refine zB4 Later.pre 6 rfl (by kernel_rfl) (by kernel_rfl) (by kernel_rfl) (fun _ _ _ h=>h) (by rfl) ?_;simp only[Act.put,sA,sB,sC];refine zB4 Later.pre 7 rfl (by kernel_rfl) (by kernel_rfl) (by kernel_rfl) (fun _ _ _ h=>h) (by rfl) ?_;simp only[Act.put,sA,sB,sC];refine zB4 Later.pre 8 rfl (by kernel_rfl) (by kernel_rfl) (by kernel_rfl) (fun _ _ _ h=>h) (by rfl) ?_;simp only[Act.put,sA,sB,sC];refine zB4 Later.pre 9 rfl (by kernel_rfl) (by kernel_rfl) (by kernel_rfl) (fun _ _ _ h=>h) (by rfl) ?_;simp only[Act.put,sA,sB,sC];refine zB4 Later.pre 10 rfl (by kernel_rfl) (by kernel_rfl) (by kernel_rfl) (fun _ _ _ h=>h) (by rfl) ?_;simp only[Act.put,sA,sB,sC];refine rX Later.pre 11 ?_;refine rD (fun W8 hW8=> ?_);have hw8:Below w.heap.size w W8:=hbw.trans ((hW2.trans hW8).mono hbw.size);clear qo qh;go_wp2_with fail;exact bodyPost_ret (v:= .tuple #[.slice none 0 0,.bool false]) (by simp[results,Tryz.results57,go_sem]) rfl ⟨hw8,.inl ⟨HN.out,rfl⟩⟩
   | true=>
    have hokx:okO (kd,dt):=HRo.out.1 hro;clear hbad hro;refine rX Later.pre 2 ?_;refine rX Later.pre 3 ?_;refine qX Later.pre 4 ?_;refine zBz Later.pre 5 (.int .i64 (oszi kd dt.length)) rfl (by kernel_rfl) (by kernel_rfl) (by kernel_rfl) (fun _ _ _ h=>h) (by rfl) (fun v1 hv1=>zAo 119 #[.agg #[.int .u8 kd,.slice ax dt.length cx]] (by go_simp) ?_) ?_
    ·exact (zIg kd ax dt.length cx v1 (by omega))
    simp only[Act.put,sA,sB,sC];refine qX Later.pre 6 ?_;refine qX Later.pre 7 ?_;refine qX Later.pre 8 ?_;refine qX Later.pre 9 ?_;refine qX Later.pre 10 ?_;refine rX Later.pre 11 ?_;refine rD (fun W8 hW8=> ?_);have hl8:=hW2.trans hW8;have hw8:Below w.heap.size w W8:=hbw.trans (hl8.mono hbw.size);have hH8:=hHw.below hl8;have ox8:=zAb hl8 OX.out;have hs8:wr.heap.size+1≤W8.heap.size:=by have:=hl8.size;have:=HSW.out;omega
    have hR8:=hRw.below (hl8.mono (by have:=HSW.out;have:=hb.size;omega));clear qo qh hOh hcell hRw hHw hbw hW2 hW8 hl8 OX HSW;have hT2:(obs (os.take (k+1))).length=(obs (os.take k)).length+(ob1 (kd,dt)).length:=by rw[HT.out,zHb,List.length_append]
    rw[HO1.out]at hT2;by_cases hbig:(40:Int)-((obs (os.take k)).length:Int)<oszi kd dt.length
    ·have HN:Hid (¬zOy os):=by
      show ¬zOy os
      intro h
      have h2:=h.2;have h3:(obs os).length=(obs (os.take (k+1))).length+(obs (os.drop (k+1))).length:=by rw[←List.length_append,←obs_app,List.take_append_drop]
      have h4:=HOz.out;omega
     rw[show decide (IntKind.i64.wrap (40-((obs (os.take k)).length:Int))<oszi kd dt.length)=true from by rw[IntKind.wrap_i64];simp;omega];go_wp2_with fail;exact bodyPost_ret (v:= .tuple #[.slice none 0 0,.bool false]) (by simp[results,Tryz.results57,go_sem]) rfl ⟨hw8,.inl ⟨HN.out,rfl⟩⟩
    ·have hsm:(obs (os.take (k+1))).length≤40:=by have h4:=HOz.out;omega
     have HSM:=zAc hsm;clear hsm hT2;rw[show decide (IntKind.i64.wrap (40-((obs (os.take k)).length:Int))<oszi kd dt.length)=false from by rw[IntKind.wrap_i64];simp;omega];have K8:=zAa ox8;go_wp2_with fail;have hR9:=Rd.new [kd] 5 W8 (by simp) (by simp);have hH9:=hH8.below ((Below.refl _ W8).alloc (Nat.le_refl _) (.cells #[.int .u8 kd] 5));refine(zCt [] 145 w.heap.size (fun b=>False∨b=wr.heap.size) _ _ [kd] _ _ hH9 (fun b hb=>by rcases hb with h|h;exact h.elim;subst h;exact⟨by first|omega|(simp;omega),by omega⟩) hR9 (by simp;omega)).mono ?_;rintro e W9 ⟨rfl,hH10,hE9⟩;have hE9':But (fun b=>w.heap.size≤b∧¬(False∨b=wr.heap.size)) W8 W9:=(But.of ((Below.refl _ W8).alloc (Nat.le_refl _) _)).trans hE9;have hw9:Below w.heap.size w W9:=hw8.trans (hE9'.below (by omega) (fun k h e=>by omega));have ox9:=(hE9'.block wr.heap.size (by omega) (by simp)).trans ox8;have hR10:=hR8.below (hE9'.below (by omega) (fun k h e=>by omega));have hs9:wr.heap.size+1≤W9.heap.size:=Nat.le_trans hs8 hE9'.size;clear hR9 hH9 hH8 hE9 hE9' ox8 hR8 K8;have K9:=zAa ox9;by_cases hk1:kd=1
     ·have t1:(kd !=1)=false:=by simp[hk1]
      have HO:Hid (obs (os.take (k+1))=obs (os.take k)++[kd]):=by show _=_;rw[HT.out,zHb];unfold ob1;rw[if_pos hk1];simp[hk1]
      have HK:=zAc hk1;clear hk1;go_wp2_with fail;go_roundw
      case rel=>exact⟨k+1,by omega,by go_num,by rw[HO.out];exact hH10.weaken (fun _ h=>h.elim),hw9,by rw[HT.out];intro o ho;rcases List.mem_append.1 ho with h|h;exact hok o h;simp at h;subst h;exact hokx,HSM.out⟩
      case measure=>simp[intOf];omega
     ·have t1:(kd !=1)=true:=by simp[hk1]
      have HO:Hid (obs (os.take (k+1))=obs (os.take k)++[kd]++[2+(dt.length:Int)]++dt):=by show _=_;rw[HT.out,zHb];unfold ob1;rw[if_neg hk1];simp
      have HK:=zAc hk1;have hzz:oszi kd dt.length=2+(dt.length:Int):=by unfold oszi;rw[if_neg hk1]
      have HZ:=zAc hzz;have hd38:dt.length≤38:=by have h:=HSM.out;rw[HO.out]at h;simp at h;omega
      clear hk1 hzz;go_wp2_with fail;refine(zIg kd ax dt.length cx W9 (by omega)).mono ?_;rintro e Wa ⟨rfl,hba⟩;rw[HZ.out];have hwr:IntKind.u8.wrap (2+(dt.length:Int))=2+(dt.length:Int):=by rw[IntKind.wrap_u8];omega
      have hwa:Below w.heap.size w Wa:=hw9.trans (hba.mono hw9.size);have oxa:=zAb hba ox9;have hHa:=hH10.below hba;have hRa:=hR10.below (hba.mono (by omega));have hsa:wr.heap.size+1≤Wa.heap.size:=Nat.le_trans hs9 hba.size;clear K9 ox9 hH10 hR10 hba;go_wp2_with fail;have hRb:=Rd.new [2+(dt.length:Int)] 5 Wa (by simp) (by simp);have hHb:=hHa.below ((Below.refl _ Wa).alloc (Nat.le_refl _) (.cells #[.int .u8 (2+(dt.length:Int))] 5));refine(zCt [] 145 w.heap.size (fun b=>False∨b=wr.heap.size) _ _ [2+(dt.length:Int)] _ _ hHb (fun b hb=>by rcases hb with h|h;exact h.elim;subst h;exact⟨by first|omega|(simp;omega),by omega⟩) hRb (by simp;omega)).mono ?_;rintro e Wb ⟨rfl,hHc,hEb⟩;have hEb':But (fun b=>w.heap.size≤b∧¬(False∨b=wr.heap.size)) Wa Wb:=(But.of ((Below.refl _ Wa).alloc (Nat.le_refl _) _)).trans hEb;have hwb:Below w.heap.size w Wb:=hwa.trans (hEb'.below (by omega) (fun k h e=>by omega));have oxb:=(hEb'.block wr.heap.size (by omega) (by simp)).trans oxa;have hRc:=hRa.below (hEb'.below (by omega) (fun k h e=>by omega));have hsb:wr.heap.size+1≤Wb.heap.size:=Nat.le_trans hsa hEb'.size;clear hRb hHb hHa hEb hEb' oxa hRa;have Kb:=zAa oxb;go_wp2_with fail;refine(zCt [] 145 w.heap.size (fun b=>False∨b=wr.heap.size) _ _ dt _ _ hHc (fun b hb=>by rcases hb with h|h;exact h.elim;subst h;exact⟨by first|omega|(simp;omega),by omega⟩) hRc (by simp;omega)).mono ?_;rintro e Wc ⟨rfl,hHd,hEc⟩
      have hwc:Below w.heap.size w Wc:=hwb.trans (hEc.below (by omega) (fun k h e=>by omega));clear Kb;go_wp2_with fail;go_roundw
      case rel=>exact⟨k+1,by omega,by go_num,by rw[HO.out];exact hHd.weaken (fun _ h=>h.elim),hwc,by rw[HT.out];intro o ho;rcases List.mem_append.1 ho with h|h;exact hok o h;simp at h;subst h;exact hokx,HSM.out⟩
      case measure=>simp[intOf];omega
  ·obtain rfl:k=os.length:=by omega
   rw[List.take_length]at hH hok h40;have HOK:Hid (zOy os):=⟨hok,h40⟩;clear hlt hok;go_wp2_with fail;clear hI hl hB;go_loopw [] (fun wr=>∃m:Nat,m≤zFx (obs os).length∧HSt [] 145 w.heap.size (fun _=>False) (obs os++List.replicate m 0) wr∧Below w.heap.size w wr) (fun wr=>hpad w.heap.size wr)
   case atStart=>exact⟨0,Nat.zero_le _,by simpa using hH,hb⟩
   case round=>
    obtain⟨m,hm,hHm,hbm⟩:=hrel;have hubm:=hHm.lt;have hbw:=hbm.size;obtain⟨ah,ch,hcell,hOh,hch⟩:=hHm.cell;have hln:(obs os++List.replicate m 0).length=(obs os).length+m:=by simp
    have HLN:=zAc hln;clear hln;generalize hgl:(obs os++List.replicate m 0).length=L at*;have hL:L=(obs os).length+m:=HLN.out;clear HLN;by_cases hd:L % 4=0
    ·have t4:((L:Int).tmod 4 !=0)=false:=by
      rw[Int.tmod_eq_emod_of_nonneg (by omega)];simp
      omega
     have hme:m=zFx (obs os).length:=by unfold zFx at*;omega
     subst hme;have hpd:obs os++List.replicate (zFx (obs os).length) 0=pad (obs os):=rfl;rw[hpd]at hOh hgl;subst hgl;have t5:(((pad (obs os)).length:Int) % 4 !=0)=false:=by simp;omega
     have HPD:=zAc hm;clear hL hm hd hpd hHm;generalize hgl:(pad (obs os)).length=L at*;have HGL:=zAc hgl;clear hgl;go_wp2_with fail;exact bodyPost_ret (v:= .tuple #[.slice ah L ch,.bool true]) (by simp[results,Tryz.results57,go_sem]) rfl ⟨hbm,.inr ⟨HOK.out,ah,ch,by rw[HGL.out],by rw[HGL.out];exact hOh.mono (Nat.le_succ _)⟩⟩
    ·have t4:((L:Int).tmod 4 !=0)=true:=by
      rw[Int.tmod_eq_emod_of_nonneg (by omega)];simp
      omega
     have hlt:m+1≤zFx (obs os).length:=by unfold zFx at*;omega
     have t5:((L:Int) % 4 !=0)=true:=by simp;omega
     have h44:L≤44:=by unfold zFx at*;omega
     have HD:=zAc hd;have HL:=zAc hL;have HGL:=zAc hgl;clear hd hL hgl;go_wp2_with fail;have hRb:=Rd.new [0] 5 wr (by simp) (by simp);have hHb:=hHm.below ((Below.refl _ wr).alloc (Nat.le_refl _) (.cells #[.int .u8 0] 5));refine(zCt [] 145 w.heap.size (fun _=>False) _ _ [0] _ _ hHb (fun b hb=>hb.elim) hRb (by have:=HGL.out;simp at this⊢;omega)).mono ?_;rintro e Wb ⟨rfl,hHc,hEb⟩;have hEb':But (fun b=>w.heap.size≤b∧¬False) wr Wb:=(But.of ((Below.refl _ wr).alloc (Nat.le_refl _) _)).trans hEb;have hwb:Below w.heap.size w Wb:=hbm.trans (hEb'.below (by omega) (fun k h e=>by omega));clear hRb hHb hEb hEb' hOh;go_wp2_with fail;obtain⟨ai,ci,hcell2,_,_⟩:=hHc.cell;have HE:Hid (obs os++List.replicate m 0++[0]=obs os++List.replicate (m+1) 0):=by show _=_;rw[List.append_assoc,List.replicate_succ']
     rw[HE.out]at hHc hcell2;go_roundw
     case rel=>exact⟨m+1,hlt,hHc,hwb⟩
     case measure=>
      unfold hpad;rw[hcell,hcell2];have h1:=HL.out;have h2:=HD.out;simp only[List.length_append,List.length_replicate];show zFx _<zFx _
      unfold zFx at*;omega
end Go.Proofs.YteaeilghamjjkaaGreatDoor
