import Derived.Laws.Cover3
import Derived.Deep.DeepCutAuto
import Derived.Deep.CutBlock
import Derived.Test.YteaeilghamjjkaaGreatDoorX5
namespace Go.Proofs.YteaeilghamjjkaaGreatDoor
set_option maxHeartbeats 8000000
open Go.RowKit Go.Shelf
set_option maxRecDepth 100000
set_option linter.unusedVariables false
set_option linter.unusedSimpArgs false
section
variable {P:Program} {l:List Oper} {Q:Exit→Act→World→Prop} {fuel:Nat} {listed:Array Bool} {a:Act} {w:World} {R:World→World→Prop}
theorem zBm(hp:Pre R)(i:Nat) {oi:Oper} (hi:zBn l i=some oi)
  (hs:Region.noSelect l.toArray=true)(hf:Region.free .any l.toArray listed i=true)(hr:(Region.ready .any l.toArray listed).contains i=true)
  (hQ:∀v c a w,Q (.panic c) (a.put oi.dst v) w→Q (.panic c) a w)(hg:Region.wanted oi (yielded l.toArray a.tmps)=false)
  (h:zAy P .any l.toArray Q R fuel (listed.setIfInBounds i true) (a.put oi.dst undef) w):zAy P .any l.toArray Q R (fuel+1) listed a w:=by
 have hi':l.toArray[i]? =some oi:=by rw[←hi,zAz];simp
 exact zB8 hp.1 hp.2 hi' (Region.noSelect_spec hs) (hQ undef) fuel listed a w (Region.free_spec hi' hf) (by simpa using hr) (.inr ⟨hg,rfl⟩) h
end
abbrev a12 (z0 z1 z2 z3 z4 z5 z6 z7 z8 z9 zA zB:Int):Value:= .agg #[.int .u8 z0,.int .u8 z1,.int .u8 z2,.int .u8 z3,.int .u8 z4,.int .u8 z5,.int .u8 z6,.int .u8 z7,.int .u8 z8,.int .u8 z9,.int .u8 zA,.int .u8 zB]
def eqs:List Int→List Int→Bool
 |x::xs,y::ys=>x==y && eqs xs ys
 |_,_=>true
theorem zFq(X Y:Array Value)(w:World):∀(l:List (Nat × Int × Int)),(∀p∈l,X[p.1]? =some (.int .u8 p.2.1)∧Y[p.1]? =some (.int .u8 p.2.2))→
  (Op.eqItems 9999 5 1 X Y (l.map (·.1))).run Tryz.prog w= .ok (eqs (l.map (·.2.1)) (l.map (·.2.2))) w
 | [],_=>by simp[Op.eqItems,eqs]
 |p::r,h=>by
  have h1:=h p (by simp);have ih:=zFq X Y w r (fun q hq=>h q (by simp[hq]));rw[List.map_cons,eqItems_u8 p.1 _ X Y p.2.1 p.2.2 w h1.1 h1.2,ih];simp only[List.map_cons,eqs];cases (p.2.1==p.2.2)<;>simp
theorem equal12(x0 x1 x2 x3 x4 x5 x6 x7 x8 x9 xA xB y0 y1 y2 y3 y4 y5 y6 y7 y8 y9 yA yB:Int)(w:World):
  (Op.equalIn 10000 177 (a12 x0 x1 x2 x3 x4 x5 x6 x7 x8 x9 xA xB) (a12 y0 y1 y2 y3 y4 y5 y6 y7 y8 y9 yA yB)).run Tryz.prog w= .ok (eqs [x0,x1,x2,x3,x4,x5,x6,x7,x8,x9,xA,xB] [y0,y1,y2,y3,y4,y5,y6,y7,y8,y9,yA,yB]) w:=by
 obtain⟨i0,hi,hz0,hz1,hz2⟩:=info_parts zBi;have hc:Tryz.prog.cellsOf 5=1:=by kernel_rfl
 have h:=run_equalIn_array (P:=Tryz.prog) (w:=w) 9999 #[.int .u8 x0,.int .u8 x1,.int .u8 x2,.int .u8 x3,.int .u8 x4,.int .u8 x5,.int .u8 x6,.int .u8 x7,.int .u8 x8,.int .u8 x9,.int .u8 xA,.int .u8 xB] #[.int .u8 y0,.int .u8 y1,.int .u8 y2,.int .u8 y3,.int .u8 y4,.int .u8 y5,.int .u8 y6,.int .u8 y7,.int .u8 y8,.int .u8 y9,.int .u8 yA,.int .u8 yB] Tryz.underlying177 hi
 rw[hc,show List.range 12=[(0,x0,y0),(1,x1,y1),(2,x2,y2),(3,x3,y3),(4,x4,y4),(5,x5,y5),(6,x6,y6),(7,x7,y7),(8,x8,y8),(9,x9,y9),(10,xA,yA),(11,xB,yB)].map (·.1)from rfl,
  zFq _ _ w [(0,x0,y0),(1,x1,y1),(2,x2,y2),(3,x3,y3),(4,x4,y4),(5,x5,y5),(6,x6,y6),(7,x7,y7),(8,x8,y8),(9,x9,y9),(10,xA,yA),(11,xB,yB)] (by intro p hp;simp only[List.mem_cons,List.not_mem_nil,or_false]at hp;rcases hp with rfl|rfl|rfl|rfl|rfl|rfl|rfl|rfl|rfl|rfl|rfl|rfl<;>exact⟨rfl,rfl⟩)]at h
 exact h
theorem zOi(n t:Int)(hn:0≤n∧n≤65535)(ht:0≤t∧t≤65535)(w:World):
  Calls Tryz.prog 80 #[.int .i64 n,.int .i64 t] w fun e w'=>e= .returned (a12 (n/256) (n % 256) 0 1 26 43 60 77 (t/256) (t % 256) 0 0)∧Later w w':=by
 have e1:IntKind.u8.wrap (n/256)=n/256:=by rw[IntKind.wrap_u8];omega
 have e2:IntKind.u8.wrap (t/256)=t/256:=by rw[IntKind.wrap_u8];omega
 go_enter Tryz.func80,Tryz.ntmps80;go_wp2_with fail;exact bodyPost_ret (v:=a12 (n/256) (n % 256) 0 1 26 43 60 77 (t/256) (t % 256) 0 0) (by simp[results,Tryz.results80,go_sem]) rfl ⟨rfl,bA _ _⟩
def hdk (zs:List Int):Bool:=eqs [zs[0]?.getD 0,zs[1]?.getD 0,zs[2]?.getD 0,zs[3]?.getD 0,zs[4]?.getD 0,zs[5]?.getD 0,zs[6]?.getD 0,zs[7]?.getD 0,zs[8]?.getD 0,zs[9]?.getD 0,zs[10]?.getD 0,zs[11]?.getD 0] [(zs.length:Int)/256,(zs.length:Int) % 256,0,1,26,43,60,77,zAl zs 8/256,zAl zs 8 % 256,0,0]
def lye (zs:List Int):Int:=if zs.length<12 then 3 else if 65535<zs.length then 4 else if hdk zs=false then 4 else if lkn (zAl zs 8)=false then 12 else if(zs.length:Int)≠lsz (zAl zs 8)then 4 else 0
def lyS (zs:List Int):Int:=if lye zs=0 then lsz (zAl zs 8)else 0
def lyC (zs:List Int):Int:=if lye zs=0 then lca (zAl zs 8)else-1
def lyP (zs:List Int):Int:=if lye zs=0 then lpe (zAl zs 8)else-1
theorem zI6 {zs:List Int} {c:Int} (h:lye zs=c)(hc:c≠0):lyv (lyS zs) (lyC zs) (lyP zs)=lyv 0 (-1) (-1):=by
 have h':lye zs≠0:=by omega
 unfold lyS lyC lyP;rw[if_neg h',if_neg h',if_neg h']
theorem lyv_yes {zs:List Int} (h:lye zs=0):lyv (lyS zs) (lyC zs) (lyP zs)=lyv (lsz (zAl zs 8)) (lca (zAl zs 8)) (lpe (zAl zs 8)):=by
 unfold lyS lyC lyP;rw[if_pos h,if_pos h,if_pos h]
theorem zCz {n₀:Nat} (sv:Value)(zs:List Int)(hB:Mt.By zs)(w:World)(hn:n₀≤w.heap.size)(hI:Rd n₀ w sv zs):
  Calls Tryz.prog 37 #[sv] w fun e w'=>e= .returned (.tuple #[lyv (lyS zs) (lyC zs) (lyP zs),.int .i64 (lye zs)])∧Later w w':=by
 obtain⟨a,cap,rfl,hl1,hm1⟩:=hI.slice;have hb0:Later w ((w.alloc (.cells #[.int .i64 0,.int .i64 0,.int .i64 0] 94)).alloc (.cells #[.int .i64 0,.int .i64 (-1),.int .i64 (-1)] 94)):=(bA _ _).alloc (by simp) _;by_cases c1:zs.length<12
 ·have t1:(zs.length:Int)<12:=by omega
  have HF:Hid (lye zs=3):=by show _=_;unfold lye;rw[if_pos c1]
  go_enter Tryz.func37,Tryz.ntmps37;go_wp2_with fail;exact bodyPost_ret (v:= .tuple #[lyv 0 (-1) (-1),.int .i64 3]) (by simp[results,Tryz.results37,go_sem]) rfl ⟨by rw[zI6 HF.out (by decide),HF.out],(bA _ _).alloc (by simp) _⟩
 have t1:¬(zs.length:Int)<12:=by omega
 have r0A:((w.alloc (.cells #[.int .i64 0,.int .i64 0,.int .i64 0] 94)).alloc (.cells #[.int .i64 0,.int .i64 (-1),.int .i64 (-1)] 94)).heap[w.heap.size]? =some (.cells #[.int .i64 0,.int .i64 0,.int .i64 0] 94 (0,0)):=(Below.heap_alloc _ _ _ (by simp)).trans (heap_alloc_new w _);have r0B:((w.alloc (.cells #[.int .i64 0,.int .i64 0,.int .i64 0] 94)).alloc (.cells #[.int .i64 0,.int .i64 (-1),.int .i64 (-1)] 94)).heap[w.heap.size+1]? =some (.cells #[.int .i64 0,.int .i64 (-1),.int .i64 (-1)] 94 (0,0)):=by have:=heap_alloc_new (w.alloc (.cells #[.int .i64 0,.int .i64 0,.int .i64 0] 94)) (.cells #[.int .i64 0,.int .i64 (-1),.int .i64 (-1)] 94);simpa using this
 have R0A:=zAc r0A;have R0B:=zAc r0B;clear r0A r0B;go_enter Tryz.func37,Tryz.ntmps37;go_upto_region 4 with fail;generalize (w.alloc _).alloc _=W0 at*;go_wp2_with fail;refine(zGq _ zs hB W0 (hI.below (hb0.mono hn))).mono ?_;have htb:=zI5 hB 8;obtain⟨t,HT⟩:∃t,Hid (zAl zs 8=t):=⟨_,rfl⟩;rw[HT.out]at htb⊢;rintro e w1 ⟨rfl,q1,hq1⟩;have hw1:Later w w1:=by rw[hq1];exact zAm hb0 q1
 have rA:w1.heap[w.heap.size]? =some (.cells #[.int .i64 0,.int .i64 0,.int .i64 0] 94 (0,0)):=by rw[hq1];exact R0A.out
 have rB:w1.heap[w.heap.size+1]? =some (.cells #[.int .i64 0,.int .i64 (-1),.int .i64 (-1)] 94 (0,0)):=by rw[hq1];exact R0B.out
 clear hq1 R0A R0B hb0;have RA:=zAc rA;have RB':=zAc rB;clear rA rB;by_cases c2:65535<zs.length
 ·have t2:(65535:Int)<zs.length:=by omega
  have HF:Hid (lye zs=4):=by show _=_;unfold lye;rw[if_neg c1,if_pos c2]
  clear c2 c1;go_upto_region 5 with fail;refine zAn (R:=Later) Later.pre Later.drew 13 rfl (by kernel_rfl) (fun V1 hV1=> ?_);refine rX Later.pre 0 ?_;refine rX Later.pre 1 ?_;refine rX Later.pre 2 ?_;refine rX Later.pre 3 ?_;refine zBm Later.pre 4 rfl (by kernel_rfl) (by kernel_rfl) (by kernel_rfl) (fun _ _ _ _ h=>h) (by rfl) ?_;simp only[Act.put,sA,sB,sC];refine zBm Later.pre 5 rfl (by kernel_rfl) (by kernel_rfl) (by kernel_rfl) (fun _ _ _ _ h=>h) (by rfl) ?_;simp only[Act.put,sA,sB,sC];refine zBm Later.pre 6 rfl (by kernel_rfl) (by kernel_rfl) (by kernel_rfl) (fun _ _ _ _ h=>h) (by rfl) ?_;simp only[Act.put,sA,sB,sC];refine zBm Later.pre 7 rfl (by kernel_rfl) (by kernel_rfl) (by kernel_rfl) (fun _ _ _ _ h=>h) (by rfl) ?_;simp only[Act.put,sA,sB,sC];refine zBm Later.pre 8 rfl (by kernel_rfl) (by kernel_rfl) (by kernel_rfl) (fun _ _ _ _ h=>h) (by rfl) ?_;simp only[Act.put,sA,sB,sC];refine zBm Later.pre 9 rfl (by kernel_rfl) (by kernel_rfl) (by kernel_rfl) (fun _ _ _ _ h=>h) (by rfl) ?_;simp only[Act.put,sA,sB,sC];refine zBm Later.pre 10 rfl (by kernel_rfl) (by kernel_rfl) (by kernel_rfl) (fun _ _ _ _ h=>h) (by rfl) ?_;simp only[Act.put,sA,sB,sC];refine zBm Later.pre 11 rfl (by kernel_rfl) (by kernel_rfl) (by kernel_rfl) (fun _ _ _ _ h=>h) (by rfl) ?_;simp only[Act.put,sA,sB,sC];refine rX Later.pre 12 ?_;refine rD (fun VD hVD=> ?_);have l2:Later w1 VD:=hV1.trans hVD;have hvD:Below w.heap.size w VD:=hw1.trans l2
  have rA:=(l2.block w.heap.size (eS RA.out)).trans RA.out;have rB:=(l2.block (w.heap.size+1) (Array.getElem?_eq_some_iff.1 RB'.out).1).trans RB'.out;have CA:=zAa rA;have FA:=zAd rA;have CB:=zAa rB;go_wp2_with fail;generalize hV:World.setCell _ ⟨w.heap.size,2,none⟩ _=V8;have hV9:V8=zAj VD w.heap.size 0 [.int .i64 0,.int .i64 (-1),.int .i64 (-1)]:=hV.symm;have hb8:But (fun b=>b=w.heap.size) VD V8:=by { rw[hV9];exact zAf (E:=fun b=>b=w.heap.size) (n:=w.heap.size) rfl _ _ _ _ (But.refl _ _) };have p8:=zAg [.int .i64 0,.int .i64 (-1),.int .i64 (-1)] rA rfl;rw[←hV9]at p8;clear hV hV9;have P8:=zAa p8;have hw8:Below w.heap.size w V8:=(hvD).trans (hb8.below (hvD).size (fun k h e=>by omega));exact bodyPost_ret (v:= .tuple #[lyv 0 (-1) (-1),.int .i64 4]) (by simp[results,Tryz.results37,go_sem,P8]) rfl ⟨by rw[zI6 HF.out (by decide),HF.out],hw8⟩
 have t2:¬(65535:Int)<zs.length:=by omega
 obtain⟨b,off,cp,e0,hlc,hmc,hbb,hcs⟩:=hI.cells (by omega);have hcl:=e0
 simp at hcl
 obtain⟨rfl,rfl⟩:=hcl;clear e0;have HK:Hid (hdk zs=eqs [zs[0]?.getD 0,zs[1]?.getD 0,zs[2]?.getD 0,zs[3]?.getD 0,zs[4]?.getD 0,zs[5]?.getD 0,zs[6]?.getD 0,zs[7]?.getD 0,zs[8]?.getD 0,zs[9]?.getD 0,zs[10]?.getD 0,zs[11]?.getD 0] [(zs.length:Int)/256,(zs.length:Int) % 256,0,1,26,43,60,77,t/256,t % 256,0,0]):=by show _=_;unfold hdk;rw[HT.out]
 have hd:∀j,j<zs.length→∀v,Later w1 v→v.cell? ⟨b,off+j,none⟩=some (.int .u8 (zs[j]?.getD 0)):=fun j hj v hv=>(hw1.trans hv).cell (hcs j hj);have d0:=hd 0 (by omega);have d1:=hd 1 (by omega);have d2:=hd 2 (by omega);have d3:=hd 3 (by omega);have d4:=hd 4 (by omega);have d5:=hd 5 (by omega);have d6:=hd 6 (by omega);have d7:=hd 7 (by omega);have d8:=hd 8 (by omega);have d9:=hd 9 (by omega);have d10:=hd 10 (by omega);have d11:=hd 11 (by omega);simp only[Nat.add_zero]at d0;generalize zs[0]?.getD 0=z0 at*;generalize zs[1]?.getD 0=z1 at*;generalize zs[2]?.getD 0=z2 at*;generalize zs[3]?.getD 0=z3 at*;generalize zs[4]?.getD 0=z4 at*;generalize zs[5]?.getD 0=z5 at*;generalize zs[6]?.getD 0=z6 at*;generalize zs[7]?.getD 0=z7 at*;generalize zs[8]?.getD 0=z8 at*;generalize zs[9]?.getD 0=z9 at*;generalize zs[10]?.getD 0=zA at*;generalize zs[11]?.getD 0=zB at*
 have HLD:Hid (∀v,Later w1 v→(v.cell? ⟨b,off,none⟩=some (.int .u8 z0)∧v.cell? ⟨b,off+1,none⟩=some (.int .u8 z1)∧v.cell? ⟨b,off+2,none⟩=some (.int .u8 z2)∧v.cell? ⟨b,off+3,none⟩=some (.int .u8 z3)∧v.cell? ⟨b,off+4,none⟩=some (.int .u8 z4)∧v.cell? ⟨b,off+5,none⟩=some (.int .u8 z5))∧(v.cell? ⟨b,off+6,none⟩=some (.int .u8 z6)∧v.cell? ⟨b,off+7,none⟩=some (.int .u8 z7)∧v.cell? ⟨b,off+8,none⟩=some (.int .u8 z8)∧v.cell? ⟨b,off+9,none⟩=some (.int .u8 z9)∧v.cell? ⟨b,off+10,none⟩=some (.int .u8 zA)∧v.cell? ⟨b,off+11,none⟩=some (.int .u8 zB))):=fun v hv=>⟨⟨d0 v hv,d1 v hv,d2 v hv,d3 v hv,d4 v hv,d5 v hv⟩,d6 v hv,d7 v hv,d8 v hv,d9 v hv,d10 v hv,d11 v hv⟩;have HN:Hid (0≤(zs.length:Int)∧(zs.length:Int)≤65535):=⟨by omega,by omega⟩;have HTB:=zAc htb;clear d0 d1 d2 d3 d4 d5 d6 d7 d8 d9 d10 d11 hd hcs htb;have har:∀v:World,_:=fun v=>run_arrayAt (P:=Tryz.prog) (w:=v) 177 5 12 (some ⟨b,off,none⟩) zs.length cap Tryz.underlying177 (by omega);have hq:∀v:World,_:=fun v=>equal12 z0 z1 z2 z3 z4 z5 z6 z7 z8 z9 zA zB ((zs.length:Int)/256) ((zs.length:Int) % 256) 0 1 26 43 60 77 (t/256) (t % 256) 0 0 v;simp only[←HK.out]at hq;go_upto_region 5 with fail;refine zAn (R:=Later) Later.pre Later.drew 13 rfl (by kernel_rfl) (fun V1 hV1=> ?_);refine rX Later.pre 0 ?_;refine rX Later.pre 1 ?_;refine rX Later.pre 2 ?_;rw[show decide ((65535:Int)<(zs.length:Int))=false from by simp;omega];refine rX Later.pre 3 ?_;refine qX Later.pre 4 ?_;refine qX Later.pre 5 ?_
 refine zBz Later.pre 6 (a12 z0 z1 z2 z3 z4 z5 z6 z7 z8 z9 zA zB) rfl (by kernel_rfl) (by kernel_rfl) (by kernel_rfl) (fun _ _ _ h=>h) (by rfl) (fun v1 hv1=>zEt Later.pre ?_) ?_
 ·obtain ⟨⟨d0,d1,d2,d3,d4,d5⟩,d6,d7,d8,d9,d10,d11⟩:=HLD.out v1 (hV1.trans hv1)
  go_simp
 simp only[Act.put,sA,sB,sC];refine qX Later.pre 7 ?_;refine qX Later.pre 8 ?_;refine qX Later.pre 9 ?_;refine zBz Later.pre 10 (a12 ((zs.length:Int)/256) ((zs.length:Int) % 256) 0 1 26 43 60 77 (t/256) (t % 256) 0 0) rfl (by kernel_rfl) (by kernel_rfl) (by kernel_rfl) (fun _ _ _ h=>h) (by rfl) (fun v1 hv1=>zAo 80 #[.int .i64 (zs.length:Int),.int .i64 t] (by go_simp) (zOi _ t HN.out HTB.out v1)) ?_;simp only[Act.put,sA,sB,sC];refine qX Later.pre 11 ?_;refine rX Later.pre 12 ?_;refine rD (fun VD hVD=> ?_);have l2:Later w1 VD:=hV1.trans hVD;have hvD:Below w.heap.size w VD:=hw1.trans l2;have rA:=(l2.block w.heap.size (eS RA.out)).trans RA.out;have rB:=(l2.block (w.heap.size+1) (Array.getElem?_eq_some_iff.1 RB'.out).1).trans RB'.out;have hsV:w.heap.size+1<VD.heap.size:=(eS rB);clear har hq HLD HK RA RB' l2 hV1 hVD;obtain⟨k,HKK⟩:∃k,Hid (hdk zs=k):=⟨_,rfl⟩;rw[HKK.out];cases k with
 |false=>
  have HF:Hid (lye zs=4):=by show _=_;unfold lye;rw[if_neg c1,if_neg c2,if_pos HKK.out]
  have CA:=zAa rA;have FA:=zAd rA;have CB:=zAa rB;go_wp2_with fail;generalize hV:World.setCell _ ⟨w.heap.size,2,none⟩ _=V8;have hV9:V8=zAj VD w.heap.size 0 [.int .i64 0,.int .i64 (-1),.int .i64 (-1)]:=hV.symm;have hb8:But (fun b=>b=w.heap.size) VD V8:=by { rw[hV9];exact zAf (E:=fun b=>b=w.heap.size) (n:=w.heap.size) rfl _ _ _ _ (But.refl _ _) };have p8:=zAg [.int .i64 0,.int .i64 (-1),.int .i64 (-1)] rA rfl;rw[←hV9]at p8;clear hV hV9;have P8:=zAa p8;have hw8:Below w.heap.size w V8:=(hvD).trans (hb8.below (hvD).size (fun k h e=>by omega));exact bodyPost_ret (v:= .tuple #[lyv 0 (-1) (-1),.int .i64 4]) (by simp[results,Tryz.results37,go_sem,P8]) rfl ⟨by rw[zI6 HF.out (by decide),HF.out],hw8⟩
 | true=>
  have HF0:Hid (lye zs=if lkn t=false then 12 else if(zs.length:Int)≠lsz t then 4 else 0):=by show _=_;unfold lye;rw[if_neg c1,if_neg c2,if_neg (by rw[HKK.out];simp),HT.out]
  go_wp2_with fail;refine(zFp VD).mono ?_;rintro e w3 ⟨bm,rfl,hb3,hm⟩;have hlk:=look15b hm t;have hlk':(Instr.lookup 175 (.map (some bm)) (.int .i64 t) true).run Tryz.prog w3= .ok (.tuple #[.agg #[.int .i64 (lsz t),.int .i64 (lca t),.int .i64 (lpe t)],.bool (lkn t)]) w3:=hlk;clear hlk hm;have HY:Hid (lye zs=0→lyv (lyS zs) (lyC zs) (lyP zs)=lyv (lsz t) (lca t) (lpe t)):=fun h=>by rw[lyv_yes h,HT.out]
  generalize lsz t=s at*;generalize lca t=c at*;generalize lpe t=p at*;obtain⟨kn,HKN⟩:∃k,Hid (lkn t=k):=⟨_,rfl⟩;rw[HKN.out]at hlk' HF0;have h3:Below w.heap.size w w3:=hvD.trans (hb3.mono hvD.size);have rA3:=(hb3.block w.heap.size (by omega)).trans rA;have rB3:=(hb3.block (w.heap.size+1) hsV).trans rB;have hs3:w.heap.size+1<w3.heap.size:=(eS rB3);have hA:=(Below.refl w3.heap.size w3).alloc (Nat.le_refl _) (.cells #[.int .i64 s,.int .i64 c,.int .i64 p] 94);have rC:=heap_alloc_new w3 (.cells #[.int .i64 s,.int .i64 c,.int .i64 p] 94);have hw4:Below w.heap.size w (w3.alloc (.cells #[.int .i64 s,.int .i64 c,.int .i64 p] 94)):=h3.trans (hA.mono h3.size);have rA4:=(hA.block w.heap.size (by omega)).trans rA3;have rB4:=(hA.block (w.heap.size+1) hs3).trans rB3;have R4A:=zAc rA4;have R4B:=zAc rB4;have R4C:=zAc rC;clear rA rB rA3 rB3 rC hA h3 hb3 hvD rA4 rB4;go_upto_region 8 with fail;generalize w3.alloc _=w4 at*;have rA4:=R4A.out;have rB4:=R4B.out;have rC4:=R4C.out;have CA:=zAa rA4;have FA:=zAd rA4;cases kn with
  |false=>
   have HF:Hid (lye zs=12):=by show _=_;rw[HF0.out,if_pos rfl]
   have CB:=zAa rB4;go_wp2_with fail;generalize hV:World.setCell _ ⟨w.heap.size,2,none⟩ _=V8;have hV9:V8=zAj w4 w.heap.size 0 [.int .i64 0,.int .i64 (-1),.int .i64 (-1)]:=hV.symm;have hb8:But (fun b=>b=w.heap.size) w4 V8:=by { rw[hV9];exact zAf (E:=fun b=>b=w.heap.size) (n:=w.heap.size) rfl _ _ _ _ (But.refl _ _) };have p8:=zAg [.int .i64 0,.int .i64 (-1),.int .i64 (-1)] rA4 rfl;rw[←hV9]at p8;clear hV hV9;have P8:=zAa p8;have hw8:Below w.heap.size w V8:=(hw4).trans (hb8.below (hw4).size (fun k h e=>by omega));exact bodyPost_ret (v:= .tuple #[lyv 0 (-1) (-1),.int .i64 12]) (by simp[results,Tryz.results37,go_sem,P8]) rfl ⟨by rw[zI6 HF.out (by decide),HF.out],hw8⟩
  | true=>
   by_cases c5:(zs.length:Int)=s
   ·have HF:Hid (lye zs=0):=by show _=_;rw[HF0.out,if_neg (by simp),if_neg (by simp[c5])]
    have t5:((zs.length:Int) !=s)=false:=by simp[c5]
    have CC:=zAa rC4;clear c5;go_wp2_with fail;generalize hV:World.setCell _ ⟨w.heap.size,2,none⟩ _=V8;have hV9:V8=zAj w4 w.heap.size 0 [.int .i64 s,.int .i64 c,.int .i64 p]:=hV.symm;have hb8:But (fun b=>b=w.heap.size) w4 V8:=by rw[hV9];exact zAf (E:=fun b=>b=w.heap.size) (n:=w.heap.size) rfl _ _ _ _ (But.refl _ _)
    have p8:=zAg [.int .i64 s,.int .i64 c,.int .i64 p] rA4 rfl;rw[←hV9]at p8;clear hV hV9;have P8:=zAa p8;have hw8:Below w.heap.size w V8:=hw4.trans (hb8.below hw4.size (fun k h e=>by omega));exact bodyPost_ret (v:= .tuple #[lyv s c p,.int .i64 0]) (by simp[results,Tryz.results37,go_sem,P8]) rfl ⟨by rw[HY.out HF.out,HF.out],hw8⟩
   ·have HF:Hid (lye zs=4):=by show _=_;rw[HF0.out,if_neg (by simp),if_pos c5]
    have t5:((zs.length:Int) !=s)=true:=by simp[c5]
    have CC:=zAa rC4;have CB:=zAa rB4;clear c5;go_wp2_with fail;generalize hV:World.setCell _ ⟨w.heap.size,2,none⟩ _=V8;have hV9:V8=zAj w4 w.heap.size 0 [.int .i64 0,.int .i64 (-1),.int .i64 (-1)]:=hV.symm;have hb8:But (fun b=>b=w.heap.size) w4 V8:=by { rw[hV9];exact zAf (E:=fun b=>b=w.heap.size) (n:=w.heap.size) rfl _ _ _ _ (But.refl _ _) };have p8:=zAg [.int .i64 0,.int .i64 (-1),.int .i64 (-1)] rA4 rfl;rw[←hV9]at p8;clear hV hV9;have P8:=zAa p8;have hw8:Below w.heap.size w V8:=(hw4).trans (hb8.below (hw4).size (fun k h e=>by omega));exact bodyPost_ret (v:= .tuple #[lyv 0 (-1) (-1),.int .i64 4]) (by simp[results,Tryz.results37,go_sem,P8]) rfl ⟨by rw[zI6 HF.out (by decide),HF.out],hw8⟩
def pmT (zs:List Int):Int:=if lye zs=0 then zAl zs 8 else 0
def pmR (zs:List Int):Int:=if lye zs=0∧zAl zs 8=8 then zs[16]?.getD 0 else 0
abbrev msg (t c p r:Int):Value:= .agg #[.int .i64 t,.int .u16 c,.int .u16 p,.int .u8 r]
theorem zGr(zs:List Int):zAl zs (-1)=0:=by unfold zAl;rw[if_neg (by omega)]
theorem lyC_no {zs:List Int} (h:lye zs≠0):lyC zs= -1:=by unfold lyC;rw[if_neg h]
theorem lyP_no {zs:List Int} (h:lye zs≠0):lyP zs= -1:=by unfold lyP;rw[if_neg h]
theorem zI7(sv:Value)(zs:List Int)(hB:Mt.By zs)(v:Int)(hv:0≤v∧v≤65535)(w:World)(hl:zs.length≤140737488355328)(hI:Rd w.heap.size w sv zs):
  Calls Tryz.prog 406 #[sv,.int .u16 v] w fun e w'=>∃a,e= .returned (.slice a zs.length zs.length)∧Ow w.heap.size w' (.slice a zs.length zs.length) (zAq zs (lyC zs) v)∧Later w w':=by
 obtain⟨a,cap,rfl,hl1,hm1⟩:=hI.slice;have HL:Hid (Calls Tryz.prog 37 #[.slice a zs.length cap] w fun e w'=>e= .returned (.tuple #[.agg #[.int .i64 (lyS zs),.int .i64 (lyC zs),.int .i64 (lyP zs)],.int .i64 (lye zs)])∧Later w w'):=zCz _ zs hB w (Nat.le_refl _) hI;go_enter Tryz.func406,Tryz.ntmps406;go_wp2_with fail;refine HL.out.mono ?_;rintro e w1 ⟨rfl,l1⟩;go_wp2_with fail;have hb2:Later w (w1.alloc (.cells #[.int .i64 (lyS zs),.int .i64 (lyC zs),.int .i64 (lyP zs)] 94)):=l1.trans (bA _ _);refine(zBf _ zs (lyC zs) v _ hl ((hI.below hb2).mono hb2.size) hv).mono ?_;rintro e w3 ⟨a3,rfl,hO,hb3⟩;go_wp2_with fail;go_ret
 exact⟨_,rfl,hO.mono hb2.size,hb2.trans hb3⟩
theorem zI8(sv:Value)(zs:List Int)(hB:Mt.By zs)(v:Int)(hv:0≤v∧v≤65535)(w:World)(hl:zs.length≤140737488355328)(hI:Rd w.heap.size w sv zs):
  Calls Tryz.prog 410 #[sv,.int .u16 v] w fun e w'=>∃a,e= .returned (.slice a zs.length zs.length)∧Ow w.heap.size w' (.slice a zs.length zs.length) (zAq zs (lyP zs) v)∧Later w w':=by
 obtain⟨a,cap,rfl,hl1,hm1⟩:=hI.slice;have HL:Hid (Calls Tryz.prog 37 #[.slice a zs.length cap] w fun e w'=>e= .returned (.tuple #[.agg #[.int .i64 (lyS zs),.int .i64 (lyC zs),.int .i64 (lyP zs)],.int .i64 (lye zs)])∧Later w w'):=zCz _ zs hB w (Nat.le_refl _) hI;go_enter Tryz.func410,Tryz.ntmps410;go_wp2_with fail;refine HL.out.mono ?_;rintro e w1 ⟨rfl,l1⟩;go_wp2_with fail;have hb2:Later w (w1.alloc (.cells #[.int .i64 (lyS zs),.int .i64 (lyC zs),.int .i64 (lyP zs)] 94)):=l1.trans (bA _ _);refine(zBf _ zs (lyP zs) v _ hl ((hI.below hb2).mono hb2.size) hv).mono ?_;rintro e w3 ⟨a3,rfl,hO,hb3⟩;go_wp2_with fail;go_ret
 exact⟨_,rfl,hO.mono hb2.size,hb2.trans hb3⟩
theorem zBu {n₀:Nat} (sv:Value)(zs:List Int)(hB:Mt.By zs)(w:World)(hn:n₀≤w.heap.size)(hI:Rd n₀ w sv zs):
  Calls Tryz.prog 13 #[sv] w fun e w'=>e= .returned (.tuple #[msg (pmT zs) (zAl zs (lyC zs)) (zAl zs (lyP zs)) (pmR zs),.int .i64 (lye zs)])∧Later w w':=by
 obtain⟨a,cap,rfl,hl1,hm1⟩:=hI.slice;have hb0:Later w (w.alloc (.cells #[.int .i64 0,.int .u16 0,.int .u16 0,.int .u8 0] 52)):=bA _ _;have r0:=heap_alloc_new w (.cells #[.int .i64 0,.int .u16 0,.int .u16 0,.int .u8 0] 52);have R0:=zAc r0;clear r0;go_enter Tryz.func13,Tryz.ntmps13;go_upto_region 1 with fail;generalize w.alloc _=W0 at*;have HL:Hid (Calls Tryz.prog 37 #[.slice a zs.length cap] W0 fun e w'=>e= .returned (.tuple #[.agg #[.int .i64 (lyS zs),.int .i64 (lyC zs),.int .i64 (lyP zs)],.int .i64 (lye zs)])∧Later W0 w'):=zCz _ zs hB W0 (Nat.le_trans hn hb0.size) (hI.below (hb0.mono hn));go_wp2_with fail;refine HL.out.mono ?_;rintro e w1 ⟨rfl,l1⟩;have hA:=(Below.refl w1.heap.size w1).alloc (Nat.le_refl _) (.cells #[.int .i64 (lyS zs),.int .i64 (lyC zs),.int .i64 (lyP zs)] 94);have rL:=heap_alloc_new w1 (.cells #[.int .i64 (lyS zs),.int .i64 (lyC zs),.int .i64 (lyP zs)] 94);have RL:=zAc rL;have hw1:Later w w1:=hb0.trans l1;have r1:=(l1.block w.heap.size (eS R0.out)).trans R0.out;have hs1:w.heap.size<w1.heap.size:=(eS r1);have r2:=(hA.block w.heap.size hs1).trans r1;have R2:=zAc r2;have hw2:Below w.heap.size w (w1.alloc (.cells #[.int .i64 (lyS zs),.int .i64 (lyC zs),.int .i64 (lyP zs)] 94)):=hw1.trans hA;clear rL r1 r2 hA R0 HL l1 hb0;go_upto_region 2 with fail;generalize w1.alloc _=w2 at*;obtain⟨er,HE⟩:∃er,Hid (lye zs=er):=⟨_,rfl⟩;rw[HE.out];by_cases c1:er=0
 ·subst c1
  have HPT:Hid (pmT zs=zAl zs 8):=by show _=_;unfold pmT;rw[if_pos HE.out]
  have HPR:Hid (pmR zs=if zAl zs 8=8 then zs[16]?.getD 0 else 0):=by
   show _=_
   unfold pmR;by_cases h:zAl zs 8=8
   ·rw[if_pos ⟨HE.out,h⟩,if_pos h]
   ·rw[if_neg (fun e=>h e.2),if_neg h]
  have HLN:Hid (zAl zs 8=8→zs.length=32):=fun h=>by
   have:=HE.out;unfold lye at this;rw[h]at this;split at this<;>(try omega)
   split at this<;>(try omega)
   split at this<;>(try omega)
   split at this<;>(try omega)
   split at this<;>(try omega)
   rename_i h5
   have e8:lsz 8=32:=by decide
   rw[e8]at h5;omega
  obtain⟨t,HT⟩:∃t,Hid (zAl zs 8=t):=⟨_,rfl⟩;rw[HT.out]at HPT HPR HLN;obtain⟨cp,HC⟩:∃t,Hid (lyC zs=t):=⟨_,rfl⟩;obtain⟨pp,HP⟩:∃t,Hid (lyP zs=t):=⟨_,rfl⟩;rw[HC.out,HP.out]at RL⊢;obtain⟨mc,HMC⟩:∃t,Hid (zAl zs cp=t):=⟨_,rfl⟩;obtain⟨mp,HMP⟩:∃t,Hid (zAl zs pp=t):=⟨_,rfl⟩;have hs2:w1.heap.size<w2.heap.size:=(eS RL.out);go_upto_region 4 with fail;refine zAn (R:=KI w2.heap.size 52 4 (List.toArray [.int .i64 t,.int .u16 mc,.int .u16 mp,.int .u8 0])) (KI.pre _ _ _ _) (fun w=>KI.of (Later.drew w)) 13 rfl (by kernel_rfl) (fun W5 hW5=> ?_);have ha:∀v1,KI w2.heap.size 52 4 (List.toArray [.int .i64 t,.int .u16 mc,.int .u16 mp,.int .u8 0]) W5 v1→∀j,v1.cell? ⟨w1.heap.size,j,none⟩=#[Value.int .i64 (lyS zs),.int .i64 cp,.int .i64 pp][j]? :=fun v1 h=>zAa (((hW5.trans h).1.block w1.heap.size hs2 (by omega)).trans RL.out);have hrd:∀v1,KI w2.heap.size 52 4 (List.toArray [.int .i64 t,.int .u16 mc,.int .u16 mp,.int .u8 0]) W5 v1→Rd n₀ v1 (.slice a zs.length cap) zs:=fun v1 h=>hI.below ((hw2.trans ((hW5.trans h).1.below (n:=w.heap.size) (by omega) (fun k hk e=>by omega))).mono hn);have HRD:=zAc hrd;clear hrd;refine rX (KI.pre _ _ _ _) 0 ?_;refine zAr (KI.pre _ _ _ _) 1 (.int .i64 t) rfl (by kernel_rfl) (by kernel_rfl) (by kernel_rfl) (fun _ _ _ h=>h) rfl (fun v1 hv1=>zAo 38 #[.slice a zs.length cap] (by go_simp) ((zGq _ zs hB v1 (HRD.out v1 hv1)).mono fun e w' ⟨he,n,hw⟩=>⟨by rw[he,HT.out],by rw[hw];exact KI.of (zAm (Below.refl _ _) n)⟩)) ?_
  simp only[Act.put,sA,sB,sC];refine rX (KI.pre _ _ _ _) 2 ?_;refine rX (KI.pre _ _ _ _) 3 ?_;refine rX (KI.pre _ _ _ _) 4 ?_;refine zAr (KI.pre _ _ _ _) 5 (.int .u16 mc) rfl (by kernel_rfl) (by kernel_rfl) (by kernel_rfl) (fun _ _ _ h=>h) rfl (fun v1 hv1=>zAo 39 #[.slice a zs.length cap,.int .i64 cp] (by go_simp) ((zCo _ zs hB cp v1 (HRD.out v1 hv1)).mono fun e w' ⟨he,n,hw⟩=>⟨by rw[he,HMC.out],by rw[hw];exact KI.of (zAm (Below.refl _ _) n)⟩)) ?_;simp only[Act.put,sA,sB,sC];refine rX (KI.pre _ _ _ _) 6 ?_;refine rX (KI.pre _ _ _ _) 7 ?_;refine rX (KI.pre _ _ _ _) 8 ?_;refine zAr (KI.pre _ _ _ _) 9 (.int .u16 mp) rfl (by kernel_rfl) (by kernel_rfl) (by kernel_rfl) (fun _ _ _ h=>h) rfl (fun v1 hv1=>zAo 39 #[.slice a zs.length cap,.int .i64 pp] (by go_simp) ((zCo _ zs hB pp v1 (HRD.out v1 hv1)).mono fun e w' ⟨he,n,hw⟩=>⟨by rw[he,HMP.out],by rw[hw];exact KI.of (zAm (Below.refl _ _) n)⟩)) ?_;simp only[Act.put,sA,sB,sC];refine rX (KI.pre _ _ _ _) 10 ?_;clear ha HRD;refine rO 11 (fun W6 hW6=> ?_);have hs6:w2.heap.size≤W6.heap.size:=(hW5.trans hW6).1.size;unfold Oper.wp;go_simp;refine⟨KI.of (bA _ _),?_⟩;refine rO 12 (fun W7 hW7=> ?_);have hwr:Wr W6.heap.size 4 52 W7:=hW7.2.1 _ ⟨_,heap_alloc_new W6 _,rfl⟩;have hst:=KI.store (n₁:=w2.heap.size) [.int .i64 t,.int .u16 mc,.int .u16 mp,.int .u8 0] hs6 hwr rfl;obtain⟨cur,hcur,hsz⟩:=hwr;have k7:=zAa hcur;have f7:=zAd hcur;have HS:=zAc hst;clear hst;unfold Oper.wp;go_simp
  generalize hV:World.setCell _ ⟨W6.heap.size,3,none⟩ _=V;have hV9:V=zAj W7 W6.heap.size 0 [.int .i64 t,.int .u16 mc,.int .u16 mp,.int .u8 0]:=hV.symm;have hst:=HS.out;rw[←hV9]at hst;clear hV hV9 HS k7 f7;refine⟨hst.1,zCh (by kernel_rfl) (fun W8 hW8=> ?_)⟩;have p8:=hW8.2.2 _ hst.2;have LW8:Later w2 W8:=((((hW5.trans hW6).trans (KI.of (bA _ _))).trans hW7).trans (hst.1.trans hW8)).1.below (Nat.le_refl _) (fun k hk e=>by omega);have L8:Below w.heap.size w W8:=Later.below hw2 (Nat.le_refl _) LW8;have hne8:w.heap.size<W6.heap.size:=by omega
  have r8:=(LW8.block w.heap.size (by omega)).trans R2.out;generalize W6.heap.size=qb at*;clear hst hW7 hW6 hs6 hcur hsz hW8 hW5 LW8 RL R2;have hI8:=hI.below (L8.mono hn);have C8:=zAa p8;have D8:=zAd p8;have CA:=zAa r8;have FA:=zAd r8;by_cases c8:t=8
  ·have t8:(t==8)=true:=by simp[c8]
   have hl32:=HLN.out c8;obtain⟨b,off,cp0,e0,hlc,hmc,hbb,hcs⟩:=hI8.cells (by omega);have hcl:=e0
   simp at hcl
   obtain⟨rfl,rfl⟩:=hcl;clear e0;have d16:=hcs 16 (by omega);have C8':=zAc c8;have hi16:(16:Int)<zs.length:=by omega
   have HR2:Hid (pmR zs=zs[16]?.getD 0):=by show _=_;rw[HPR.out,if_pos c8]
   clear hcs c8 hl32 HPR;generalize zs[16]?.getD 0=z at*;have p9:=zAh p8 3 (.int .u8 z);have r9:=(Below.heap_setCell W8 ⟨qb,3,none⟩ (.int .u8 z) w.heap.size (by simp;omega)).trans r8;have L9:Below w.heap.size w (W8.setCell ⟨qb,3,none⟩ (.int .u8 z)):=L8.setCell (p:=⟨qb,3,none⟩) (by simp;omega) _;have P9:=zAc p9;have R9:=zAc r9;clear p9 r9;go_upto_region 7 with fail;generalize W8.setCell ⟨qb,3,none⟩ _=W9 at*;clear C8 D8 CA FA p8 r8;have p9:=P9.out;have r9:=R9.out;have C9:=zAa p9;have CA:=zAa r9;have FA:=zAd r9
   simp at C9
   go_wp2_with fail;generalize hV:World.setCell _ ⟨w.heap.size,3,none⟩ _=V8;have hV9:V8=zAj W9 w.heap.size 0 [.int .i64 t,.int .u16 mc,.int .u16 mp,.int .u8 z]:=hV.symm;have hb8:But (fun b=>b=w.heap.size) W9 V8:=by rw[hV9];exact zAf (E:=fun b=>b=w.heap.size) (n:=w.heap.size) rfl _ _ _ _ (But.refl _ _)
   have p8:=zAg [.int .i64 t,.int .u16 mc,.int .u16 mp,.int .u8 z] r9 rfl;rw[←hV9]at p8;clear hV hV9;have P8:=zAa p8;have hw8:Below w.heap.size w V8:=L9.trans (hb8.below L9.size (fun k h e=>by omega));exact bodyPost_ret (v:= .tuple #[msg t mc mp z,.int .i64 0]) (by simp[results,Tryz.results13,go_sem,P8]) rfl ⟨by rw[HPT.out,HC.out,HP.out,HMC.out,HMP.out,HR2.out,HE.out],hw8⟩
  ·have t8:(t==8)=false:=by simp[c8]
   have C8':=zAc c8;clear c8;go_wp2_with fail;generalize hV:World.setCell _ ⟨w.heap.size,3,none⟩ _=V8;have hV9:V8=zAj W8 w.heap.size 0 [.int .i64 t,.int .u16 mc,.int .u16 mp,.int .u8 0]:=hV.symm;have hb8:But (fun b=>b=w.heap.size) W8 V8:=by rw[hV9];exact zAf (E:=fun b=>b=w.heap.size) (n:=w.heap.size) rfl _ _ _ _ (But.refl _ _)
   have p8:=zAg [.int .i64 t,.int .u16 mc,.int .u16 mp,.int .u8 0] r8 rfl;rw[←hV9]at p8;clear hV hV9;have P8:=zAa p8;have hw8:Below w.heap.size w V8:=L8.trans (hb8.below L8.size (fun k h e=>by omega));exact bodyPost_ret (v:= .tuple #[msg t mc mp 0,.int .i64 0]) (by simp[results,Tryz.results13,go_sem,P8]) rfl ⟨by rw[HPT.out,HC.out,HP.out,HMC.out,HMP.out,HPR.out,if_neg C8'.out,HE.out],hw8⟩
 ·have t1:(er !=0)=true:=by simp[c1]
  have C1:=zAc c1;clear c1;have r2:=R2.out;have CA:=zAa r2;have FA:=zAd r2;go_wp2_with fail;generalize hV:World.setCell _ ⟨w.heap.size,3,none⟩ _=V8;have hV9:V8=zAj w2 w.heap.size 0 [.int .i64 0,.int .u16 0,.int .u16 0,.int .u8 0]:=hV.symm;have hb8:But (fun b=>b=w.heap.size) w2 V8:=by rw[hV9];exact zAf (E:=fun b=>b=w.heap.size) (n:=w.heap.size) rfl _ _ _ _ (But.refl _ _)
  have p8:=zAg [.int .i64 0,.int .u16 0,.int .u16 0,.int .u8 0] r2 rfl;rw[←hV9]at p8;clear hV hV9;have P8:=zAa p8;have hw8:Below w.heap.size w V8:=hw2.trans (hb8.below hw2.size (fun k h e=>by omega));have hne:lye zs≠0:=by rw[HE.out];exact C1.out
  exact bodyPost_ret (v:= .tuple #[msg 0 0 0 0,.int .i64 er]) (by simp[results,Tryz.results13,go_sem,P8]) rfl ⟨by rw[lyC_no hne,lyP_no hne,zGr,show pmT zs=0 from by unfold pmT;rw[if_neg hne],show pmR zs=0 from by unfold pmR;rw[if_neg (fun h=>hne h.1)],HE.out],hw8⟩
theorem zI9(hb:Nat)(x:Array Value)(tos id ttl src dst:Int)(keep:Bool)(oa da:Option Addr)(lo co cd:Nat)(zt:List Int)(w:World)(hB:Mt.By zt)(hI:Rd w.heap.size w (.slice da zt.length cd) zt)(hl:zt.length≤70000)(hsr:0≤src∧src≤4294967295)(hds:0≤dst∧dst≤4294967295)(hpe:pte 6 src dst zt=0)(hne:lye (zt.drop (thd zt).toNat)≠0):
  Calls Tryz.prog 399 #[.pointer (some ⟨hb,0,none⟩),.agg x,.agg #[.int .u8 tos,.int .u16 id,.bool keep,.int .u8 ttl,.int .u8 6,.int .u32 src,.int .u32 dst,.slice oa lo co,.slice da zt.length cd]] w fun e w'=>e= .returned (.agg #[.int .u8 tos,.int .u16 id,.bool keep,.int .u8 ttl,.int .u8 6,.int .u32 src,.int .u32 dst,.slice oa lo co,.slice da zt.length cd])∧Later w w':=by
 have la:=zAe w (.cells x 242);have lb:=zAe (w.alloc (.cells x 242)) (.cells #[.int .u8 tos,.int .u16 id,.bool keep,.int .u8 ttl,.int .u8 6,.int .u32 src,.int .u32 dst,.slice oa lo co,.slice da zt.length cd] 40);have lc:=zAe ((w.alloc (.cells x 242)).alloc (.cells #[.int .u8 tos,.int .u16 id,.bool keep,.int .u8 ttl,.int .u8 6,.int .u32 src,.int .u32 dst,.slice oa lo co,.slice da zt.length cd] 40)) (.cells #[.int .u8 0,.int .u16 0,.bool false,.int .u8 0,.int .u8 0,.int .u32 0,.int .u32 0,.slice none 0 0,.slice none 0 0] 40);have c1:=heap_alloc_new (w.alloc (.cells x 242)) (.cells #[.int .u8 tos,.int .u16 id,.bool keep,.int .u8 ttl,.int .u8 6,.int .u32 src,.int .u32 dst,.slice oa lo co,.slice da zt.length cd] 40);have c2:=heap_alloc_new ((w.alloc (.cells x 242)).alloc (.cells #[.int .u8 tos,.int .u16 id,.bool keep,.int .u8 ttl,.int .u8 6,.int .u32 src,.int .u32 dst,.slice oa lo co,.slice da zt.length cd] 40)) (.cells #[.int .u8 0,.int .u16 0,.bool false,.int .u8 0,.int .u8 0,.int .u32 0,.int .u32 0,.slice none 0 0,.slice none 0 0] 40);have hsz1:(w.alloc (.cells x 242)).heap.size=w.heap.size+1:=by simp
 have hsz2:((w.alloc (.cells x 242)).alloc (.cells #[.int .u8 tos,.int .u16 id,.bool keep,.int .u8 ttl,.int .u8 6,.int .u32 src,.int .u32 dst,.slice oa lo co,.slice da zt.length cd] 40)).heap.size=w.heap.size+1+1:=by simp
 rw[hsz1]at c1;rw[hsz2]at c2;have C1:=zAc (zAb lc c1);have C2:=zAc c2;have l0:Later w (((w.alloc (.cells x 242)).alloc (.cells #[.int .u8 tos,.int .u16 id,.bool keep,.int .u8 ttl,.int .u8 6,.int .u32 src,.int .u32 dst,.slice oa lo co,.slice da zt.length cd] 40)).alloc (.cells #[.int .u8 0,.int .u16 0,.bool false,.int .u8 0,.int .u8 0,.int .u32 0,.int .u32 0,.slice none 0 0,.slice none 0 0] 40)):=la.trans (lb.trans lc);have HP:=zAc (zBx tos id ttl 6 src dst keep (.slice oa lo co) (.slice da zt.length cd) zt _ hB (hI.later l0) (by omega) hsr hds);have HPE:=zAc hpe;have HNE:=zAc hne;clear la lb lc c1 c2 hsz1 hsz2 hI hpe hne;go_enter Tryz.func399,Tryz.ntmps399;go_upto_region 1 with fail;generalize hw1:World.alloc _ _=w1 at*;clear hw1;generalize hgx:w.heap.size=g0 at C1 C2⊢;have k1:=zAa C1.out;go_wp2_with fail;refine HP.out.mono ?_;rintro e w2 ⟨l2,⟨h1,rfl⟩|⟨_,os,aO,cO,ad,cdd,ho,rfl,hO,hD⟩⟩
 ·exact absurd HPE.out h1
 clear k1 HP;have l2':Later w1 w2:=l2;have la:=zAe w2 (.cells #[.int .u16 (wat zt 0),.int .u16 (wat zt 2),.int .u32 (zAx zt 4),.int .u32 (zAx zt 8),.int .u8 (zt[13]?.getD 0),.int .u16 (wat zt 14),.int .u16 (wat zt 18),.slice aO os.length cO,.slice ad (zt.length-(thd zt).toNat) cdd] 32);have ca:=heap_alloc_new w2 (.cells #[.int .u16 (wat zt 0),.int .u16 (wat zt 2),.int .u32 (zAx zt 4),.int .u32 (zAx zt 8),.int .u8 (zt[13]?.getD 0),.int .u16 (wat zt 14),.int .u16 (wat zt 18),.slice aO os.length cO,.slice ad (zt.length-(thd zt).toNat) cdd] 32);have hdd:=hD.later la;have CA:=zAc ca;have LA:=zAc (l2'.trans la);have HDD:=zAc hdd;have hBd:=hB.drop (thd zt).toNat;clear la ca hO hD l2 l2' hdd;go_upto_region 2 with fail;change Code.wp _ _ _ _ (w2.alloc (.cells #[.int .u16 (wat zt 0),.int .u16 (wat zt 2),.int .u32 (zAx zt 4),.int .u32 (zAx zt 8),.int .u8 (zt[13]?.getD 0),.int .u16 (wat zt 14),.int .u16 (wat zt 18),.slice aO os.length cO,.slice ad (zt.length-(thd zt).toNat) cdd] 32));generalize w2.alloc (.cells #[.int .u16 (wat zt 0),.int .u16 (wat zt 2),.int .u32 (zAx zt 4),.int .u32 (zAx zt 8),.int .u8 (zt[13]?.getD 0),.int .u16 (wat zt 14),.int .u16 (wat zt 18),.slice aO os.length cO,.slice ad (zt.length-(thd zt).toNat) cdd] 32)=w3 at*;have kn:=zAa CA.out;have HQ:=zAc (zBu (.slice ad (zt.length-(thd zt).toNat) cdd) (zt.drop (thd zt).toNat) hBd w3 (Nat.le_refl _) (by have:=HDD.out.rd;exact this))
 have t1:(lye (zt.drop (thd zt).toNat) !=0)=true:=by simp[HNE.out]
 generalize lye (zt.drop (thd zt).toNat)=er at*;go_wp2_with fail;refine HQ.out.mono ?_;rintro e w4 ⟨rfl,l4⟩;clear kn HQ;have E1:=zAc (zAb (LA.out.trans l4) C1.out);have E2:=zAc (zAb (LA.out.trans l4) C2.out);have L4:Later w w4:=l0.trans (LA.out.trans l4);clear l4;unfold msg;generalize pmT (zt.drop (thd zt).toNat)=m1 at*;generalize zAl (zt.drop (thd zt).toNat) (lyC (zt.drop (thd zt).toNat))=m2 at*;generalize zAl (zt.drop (thd zt).toNat) (lyP (zt.drop (thd zt).toNat))=m3 at*;generalize pmR (zt.drop (thd zt).toNat)=m4 at*;have lm:=zAe w4 (.cells #[.int .i64 m1,.int .u16 m2,.int .u16 m3,.int .u8 m4] 52);have F1:=zAc (zAb lm E1.out);have F2:=zAc (zAb lm E2.out);have L5:=zAc (L4.trans lm);clear E1 E2 lm L4 LA C1 C2 CA;go_upto_region 3 with fail;generalize w4.alloc _=w5 at*;have k1:=zAa F1.out;have k2:=zAa F2.out;have f2:=zAd F2.out;go_wp2_with fail;generalize hV:World.setCell _ ⟨_,8,none⟩ _=V8;have hV9:V8=zAj w5 (g0+1+1) 0 [.int .u8 tos,.int .u16 id,.bool keep,.int .u8 ttl,.int .u8 6,.int .u32 src,.int .u32 dst,.slice oa lo co,.slice da zt.length cd]:=hV.symm;have hb8:But (fun b=>b=g0+1+1) w5 V8:=by rw[hV9];exact zAf (E:=fun b=>b=g0+1+1) (n:=g0+1+1) rfl _ _ _ _ (But.refl _ _)
 have p8:=zAg [.int .u8 tos,.int .u16 id,.bool keep,.int .u8 ttl,.int .u8 6,.int .u32 src,.int .u32 dst,.slice oa lo co,.slice da zt.length cd] F2.out rfl;rw[←hV9]at p8;clear hV hV9;have P8:=zAa p8;exact bodyPost_ret (v:= .agg #[.int .u8 tos,.int .u16 id,.bool keep,.int .u8 ttl,.int .u8 6,.int .u32 src,.int .u32 dst,.slice oa lo co,.slice da zt.length cd]) (by simp[results,Tryz.results399,go_sem,P8]) rfl ⟨rfl,Below.trans L5.out (hb8.below L5.out.size (fun k hk e=>by have e':k=g0+1+1:=e;omega))⟩
section
variable (tos id f ttl proto src dst:Int) (zo zd:List Int) (all s:Int)
end
structure TG (src dst sp dp sq ak fl:Int) (zm z:List Int):Prop where
 by_:Mt.By z
 len:z.length=20+zm.length
 ok:pte 6 src dst z=0
 a:wat z 0=sp
 b:wat z 2=dp
 sq:zAx z 4=sq
 ak:zAx z 8=ak
 fl:z[13]?.getD 0=fl
 wn:wat z 14=0
 ur:wat z 18=0
 th:thd z=20
 dat:z.drop 20=zm
theorem TG.hp {src dst sp dp sq ak fl:Int} {zm z:List Int} (h:TG src dst sp dp sq ak fl zm z):hop z=[]:=by
 unfold hop;rw[h.th];simp
theorem zM9(src dst sp dp sq ak fl:Int)(zm:List Int)(hsr:0≤src∧src≤4294967295)(hds:0≤dst∧dst≤4294967295)(h1:0≤sp∧sp≤65535)(h2:0≤dp∧dp≤65535)(h3:0≤sq∧sq≤4294967295)(h4:0≤ak∧ak≤4294967295)(h5:0≤fl∧fl≤255)(hB:Mt.By zm):TG src dst sp dp sq ak fl zm (tcp sp dp sq ak fl 0 0 [] src dst zm):=by
 have h0:Mt.By (zD6 sp dp sq ak fl 0 0 [] zm):=zPx sp dp sq ak fl 0 0 [] zm h1 h2 h3 h4 h5 (by omega) (by omega) (by simp) Mt.By.nil hB;have hp:=tcp_pte sp dp sq ak fl 0 0 [] src dst zm zHc hsr hds h0;refine⟨By_tcp _ _ _ _ _ _ _ _ _ _ _ h0,by rw[zGe];simp,hp.1,by rw[tcp_w0]<;>omega,by rw[tcp_w2]<;>omega,?_,?_,by rw[tcp_13],by rw[tcp_w14]<;>omega,by rw[tcp_w18]<;>omega,?_,?_⟩
 ·rw[tcp_w4]<;>omega
 ·rw[tcp_w8]<;>omega
 ·rw[zLc _ _ _ _ _ _ _ _ _ _ _ (by simp)]
  simp
 ·exact tcp_drop _ _ _ _ _ _ _ _ _ _ _ 20 (by simp)
theorem zCc {src dst sp dp sq ak fl s d a b:Int} {zm z:List Int} (h:TG src dst sp dp sq ak fl zm z)(hs:0≤s∧s≤4294967295)(hd:0≤d∧d≤4294967295)(ha:0≤a∧a≤65535)(hb:0≤b∧b≤65535):TG s d a b sq ak fl zm (rwD 6 s d a b z):=by
 have hl:=h.len;have ht:=zQk (s:=s) (d:=d) (a:=a) (b:=b) h.by_ h.ok hs hd ha hb;have hlt:(rwT s d a b z).length=z.length:=zBl _ _ _ _ _;have ho:∀j,4≤j→j≠16→j≠17→(rwT s d a b z)[j]? =z[j]? :=fun j h1 h2 h3=>zFj _ _ _ _ _ j h1 h2 h3;show TG s d a b sq ak fl zm (rwT s d a b z)
 refine⟨rwT_by h.by_ ha hb,by rw[hlt];exact hl,by first|exact ht|exact ht.1,rwT_w0 _ _ _ _ _ (by omega) ha.1,rwT_w2 _ _ _ _ _ (by omega) hb.1,?_,?_,?_,?_,?_,?_,?_⟩
 ·rw[←h.sq]
  exact zIu fun j h1 h2=>ho j (by omega) (by omega) (by omega)
 ·rw[←h.ak]
  exact zIu fun j h1 h2=>ho j (by omega) (by omega) (by omega)
 ·rw[←h.fl,ho 13 (by omega) (by omega) (by omega)]
 ·rw[←h.wn]
  exact zDy (ho 14 (by omega) (by omega) (by omega)) (ho 15 (by omega) (by omega) (by omega))
 ·rw[←h.ur]
  exact zDy (ho 18 (by omega) (by omega) (by omega)) (ho 19 (by omega) (by omega) (by omega))
 ·have e:=h.th
  unfold thd at e⊢;rw[ho 12 (by omega) (by omega) (by omega)];exact e
 ·rw[←h.dat]
  exact zIv fun j h1=>ho j (by omega) (by omega) (by omega)
def tgB (ttl src dst:Int) (z:List Int):List Int:=hdr 0 0 false ttl 6 src dst [] (20+([]:List Int).length+z.length)++z
structure TgF (ttl src dst:Int) (zs z:List Int):Prop where
 by_:Mt.By zs
 len:zs.length≤600
 rd:rde false zs=0
 i9:zs[9]?.getD 0=6
 i8:zs[8]?.getD 0=ttl
 i1:zs[1]?.getD 0=0
 w4:wat zs 4=0
 w6:decide (16384≤wat zs 6 % 32768)=false
 src:zAx zs 12=src
 dst:zAx zs 16=dst
 zo:((zs.take (hl4 zs).toNat).drop 20)=[]
 zd:((zs.take (ral false zs).toNat).drop (hl4 zs).toNat)=z
theorem zNa {ttl src dst:Int} {z:List Int} (hB:Mt.By z)(hz:z.length≤550)(htt:0≤ttl∧ttl≤255)(hsr:0≤src∧src≤4294967295)(hds:0≤dst∧dst≤4294967295):TgF ttl src dst (tgB ttl src dst z) z:=by
 have hBh:=(zMf 0 0 false ttl 6 src dst ([]:List Int).length (20+([]:List Int).length+z.length) 0 (by simp) (by omega) (by omega) htt (by omega) hsr hds (by simp;omega) (by omega)).append Mt.By.nil
 have hBy:Mt.By (tgB ttl src dst z):=by
  unfold tgB;rw[zB9];exact((zMf 0 0 false ttl 6 src dst ([]:List Int).length (20+([]:List Int).length+z.length) _ (by simp) (by omega) (by omega) htt (by omega) hsr hds (by simp;omega) (Mt.cks_bd _)).append Mt.By.nil).append hB
 have hr:=zIm 0 0 false ttl 6 src dst [] z [] (by simp) (by simp) (by simp;omega) hBh;rw[List.append_nil]at hr;have e3:=zK4 0 0 false ttl 6 src dst [] z (20+([]:List Int).length+z.length) (by simp) (by simp);have e2:=zG3 0 0 false ttl 6 src dst [] z (20+([]:List Int).length+z.length)
 have hral:ral false (tgB ttl src dst z)=((20+([]:List Int).length+z.length:Nat):Int):=by
  have q0:∀zs:List Int,ral false zs=wat zs 2:=fun zs=>by simp[ral]
  unfold tgB;rw[q0,e2];simp
 refine⟨hBy,by unfold tgB;rw[List.length_append,zE6];simp;omega,hr,hdr_9 _ _ _ _ _ _ _ _ _ _,hdr_8 _ _ _ _ _ _ _ _ _ _,hdr_1 _ _ _ _ _ _ _ _ _ _,zMg _ _ _ _ _ _ _ _ _ _,?_,zO8 _ _ _ _ _ _ _ _ _ _,zO9 _ _ _ _ _ _ _ _ _ _,?_,?_⟩
 ·unfold tgB
  rw[zG4];decide
 ·unfold tgB
  rw[e3,Int.toNat_natCast,zHe,zMv]
 ·rw[hral]
  unfold tgB;rw[e3,Int.toNat_natCast,Int.toNat_natCast];have q:=zIl 0 0 false ttl 6 src dst [] z (20+([]:List Int).length+z.length) [];rw[List.append_nil]at q;exact q
theorem zRe(ttl src dst:Int)(so sd:Value)(z:List Int)(w:World)(hB:Mt.By z)(hz:z.length≤550)(hIo:Rd w.heap.size w so [])(hId:Rd w.heap.size w sd z)(htt:0≤ttl∧ttl≤255)(hsr:0≤src∧src≤4294967295)(hds:0≤dst∧dst≤4294967295):
  Calls Tryz.prog 24 #[.agg #[.int .u8 0,.int .u16 0,.bool false,.int .u8 ttl,.int .u8 6,.int .u32 src,.int .u32 dst,so,sd]] w fun e w'=>Later w w'∧∃v,e= .returned (.tuple #[v,.int .i64 0])∧Ow w.heap.size w' v (tgB ttl src dst z):=by
 refine(zCg 0 0 ttl 6 src dst false so sd [] z w Mt.By.nil hIo hId (by simp) (by simp) (by simp;omega) (by omega) (by omega) htt (by omega) hsr hds).mono ?_;rintro e w' ⟨v,rfl,hO,hb⟩;exact⟨hb,v,rfl,hO⟩
theorem zRf(ttl src dst:Int)(sv:Value)(z:List Int)(w:World)(hB:Mt.By z)(hz:z.length≤550)(hI:Rd w.heap.size w sv (tgB ttl src dst z))(htt:0≤ttl∧ttl≤255)(hsr:0≤src∧src≤4294967295)(hds:0≤dst∧dst≤4294967295):
  Calls Tryz.prog 25 #[sv] w fun e w'=>Later w w'∧∃a7 c7 a8 l8 c8,e= .returned (.tuple #[.agg #[.int .u8 0,.int .u16 0,.bool false,.int .u8 ttl,.int .u8 6,.int .u32 src,.int .u32 dst,.slice a7 0 c7,.slice a8 l8 c8],.int .i64 0])∧Ow w.heap.size w' (.slice a7 0 c7) []∧Ow w.heap.size w' (.slice a8 l8 c8) z:=by
 have hF:=zNa hB hz htt hsr hds;refine(zFh sv _ w hF.by_ (by have:=hF.len;omega) hI).mono ?_;rintro e w' ⟨hb,⟨hx,_⟩|⟨_,so,sd,rfl,hO,hD⟩⟩
 ·exact absurd hF.rd hx
 rw[hF.zo]at hO;rw[hF.zd]at hD;obtain⟨ao,co,rfl,_,_⟩:=hO.slice;obtain⟨ad,cd,rfl,_,_⟩:=hD.slice;refine⟨hb,ao,co,ad,_,cd,?_,hO,hD⟩;unfold pkt;rw[hF.i1,hF.w4,hF.w6,hF.i8,hF.i9,hF.src,hF.dst];rfl
theorem rdo_nil(W:World):RdO W.heap.size W (.slice none 0 0) []:= .inl ⟨none,0,rfl,rfl,by omega,fun _=>rfl⟩
theorem zC9(src dst sp dp sq ak fl:Int)(sm:Value)(zm:List Int)(w:World)(hsr:0≤src∧src≤4294967295)(hds:0≤dst∧dst≤4294967295)(h1:0≤sp∧sp≤65535)(h2:0≤dp∧dp≤65535)(h3:0≤sq∧sq≤4294967295)(h4:0≤ak∧ak≤4294967295)(h5:0≤fl∧fl≤255)(hB:Mt.By zm)(hI:Rd w.heap.size w sm zm)(hl:zm.length≤500):
  Calls Tryz.prog 8 #[.int .u32 src,.int .u32 dst,.agg #[.int .u16 sp,.int .u16 dp,.int .u32 sq,.int .u32 ak,.int .u8 fl,.int .u16 0,.int .u16 0,.slice none 0 0,sm]] w fun e w'=>Later w w'∧∃v z,e= .returned v∧TG src dst sp dp sq ak fl zm z∧Ow w.heap.size w' v (tgB 64 src dst z):=by
 obtain⟨am,cm,rfl,_,_⟩:=hI.slice;have HBT:=zAc (fun W (l:Later w W)=>zEn 0 0 64 0 src dst sp dp sq ak fl 0 0 false (.slice none 0 0) (.slice none 0 0) (.slice none 0 0) (.slice am zm.length cm) [] zm [] W Mt.By.nil (zEb W) hB (hI.later l) (by intro o ho;cases ho) (rdo_nil W) (by intro o ho;cases ho) (by simp) (by omega) (by omega) (by omega) (by omega) hsr hds h1 h2 h3 h4 h5 (by omega) (by omega));have HTG:=zAc (zM9 src dst sp dp sq ak fl zm hsr hds h1 h2 h3 h4 h5 hB)
 have hz0:(bte [] ([]:List Int).length zm.length=0):=by
  unfold bte;rw[if_pos zHc];unfold flt;rw[if_neg (by simp),if_neg (by simp[pad,obs,zFx];omega)]
 have HZ:=zAc hz0;clear hz0;clear hI;go_enter Tryz.func8,Tryz.ntmps8;go_wp2_with fail;generalize hW0:w.alloc _=W0;have L0:Later w W0:=by rw[←hW0];exact(Below.refl _ w).alloc (Nat.le_refl _) _
 clear hW0;refine(HBT.out W0 L0).mono ?_;clear HBT;rintro e w1 ⟨hb1,⟨hx,_⟩|⟨_,a7,c7,a8,c8,rfl,hO,hD⟩⟩
 ·exact absurd HZ.out hx
 clear HZ;have L1:Later w w1:=L0.trans hb1;have hnl:20+(pad (obs [])).length+zm.length=20+zm.length:=by simp[pad,obs,zFx]
 rw[hnl]at hD⊢;have hz6:tcp sp dp sq ak fl 0 0 (pad (obs [])) src dst zm=tcp sp dp sq ak fl 0 0 [] src dst zm:=by simp[pad,obs,zFx]
 rw[hz6]at hD;clear hnl hz6;generalize tcp sp dp sq ak fl 0 0 [] src dst zm=z at*;have hzl:=HTG.out.len;rw[←hzl]at hD⊢;have HO:=zAc hO;have HD:=zAc hD;clear hO hD hzl;go_wp2_with fail;generalize hW2:w1.alloc _=W2;have l2:Later w1 W2:=by rw[←hW2];exact(Below.refl _ w1).alloc (Nat.le_refl _) _
 clear hW2;have LE:w.heap.size≤W0.heap.size:=L0.size;have LE1:w.heap.size≤w1.heap.size:=L1.size;refine(zRe 64 src dst (.slice a7 0 c7) (.slice a8 z.length c8) z W2 HTG.out.by_ (by have:=HTG.out.len;omega) (HO.out.rd.later l2) (HD.out.rd.later l2) (by omega) hsr hds).mono ?_;rintro e w3 ⟨hb3,v,rfl,hV⟩;have L3:Later w w3:=L1.trans (l2.trans hb3);have LS:w.heap.size≤W2.heap.size:=(L1.trans l2).size;go_wp2_with fail;go_ret
 exact⟨L3,_,z,rfl,HTG.out,hV.mono LS⟩
theorem zRg {src dst sp dp sq ak fl:Int} {zm z:List Int} (h:TG src dst sp dp sq ak fl zm z)(tos id ttl:Int)(keep:Bool)(so sd:Value)(w:World)(hI:Rd w.heap.size w sd z)(hl:zm.length≤500)(hsr:0≤src∧src≤4294967295)(hds:0≤dst∧dst≤4294967295):
  Calls Tryz.prog 26 #[.agg #[.int .u8 tos,.int .u16 id,.bool keep,.int .u8 ttl,.int .u8 6,.int .u32 src,.int .u32 dst,so,sd]] w fun e w'=>Later w w'∧∃aO cO am cm,e= .returned (.tuple #[.agg #[.int .u16 sp,.int .u16 dp,.int .u32 sq,.int .u32 ak,.int .u8 fl,.int .u16 0,.int .u16 0,.slice aO 0 cO,.slice am zm.length cm],.int .i64 0])∧Ow w.heap.size w' (.slice am zm.length cm) zm:=by
 refine(zBx tos id ttl 6 src dst keep so sd z w h.by_ hI (by have:=h.len;omega) hsr hds).mono ?_;rintro e w' ⟨hb,⟨hx,_⟩|⟨_,os,aO,cO,ad,cd,ho,rfl,hO,hD⟩⟩
 ·exact absurd h.ok hx
 have hos:os=[]:=by
  rw[h.hp]at ho;have:zB7 ([]:List Int)=some []:=by decide
  rw[this]at ho;exact(Option.some.inj ho).symm
 subst hos;have hn:z.length-(thd z).toNat=zm.length:=by rw[h.th,h.len];simp
 have hd:z.drop (thd z).toNat=zm:=by rw[h.th];exact h.dat
 rw[hd,hn]at hD;rw[hn,h.a,h.b,h.sq,h.ak,h.fl,h.wn,h.ur];exact⟨hb,aO,cO,ad,cd,rfl,hD⟩
def SnQ (w w':World) (ttl src dst sp dp sq ak fl:Int) (zm:List Int) (e:Ending):Prop:=Later w w'∧∃a7 c7 a8 l8 c8 aO cO am cm,e= .returned (.tuple #[.agg #[.int .u8 0,.int .u16 0,.bool false,.int .u8 ttl,.int .u8 6,.int .u32 src,.int .u32 dst,.slice a7 0 c7,.slice a8 l8 c8],.agg #[.int .u16 sp,.int .u16 dp,.int .u32 sq,.int .u32 ak,.int .u8 fl,.int .u16 0,.int .u16 0,.slice aO 0 cO,.slice am zm.length cm],.bool true])∧Ow w.heap.size w' (.slice am zm.length cm) zm
def pz6:List Value:=[.int .u8 0,.int .u16 0,.bool false,.int .u8 0,.int .u8 0,.int .u32 0,.int .u32 0,.slice none 0 0,.slice none 0 0]
def sz6:List Value:=[.int .u16 0,.int .u16 0,.int .u32 0,.int .u32 0,.int .u8 0,.int .u16 0,.int .u16 0,.slice none 0 0,.slice none 0 0]
theorem zFr(ttl src dst sp dp sq ak fl:Int)(sv:Value)(zm z:List Int)(w:World)(h:TG src dst sp dp sq ak fl zm z)(hI:Rd w.heap.size w sv (tgB ttl src dst z))(hl:zm.length≤500)(htt:0≤ttl∧ttl≤255)(hsr:0≤src∧src≤4294967295)(hds:0≤dst∧dst≤4294967295):
  Calls Tryz.prog 9 #[sv] w fun e w'=>SnQ w w' ttl src dst sp dp sq ak fl zm e:=by
 unfold SnQ;have hzl:z.length≤550:=by have:=h.len;omega
 obtain⟨a0,c0,rfl,_,_⟩:=hI.slice;generalize hll:(tgB ttl src dst z).length=ll at*;have HP:=zAc (fun W (l:Later w W)=>zRf ttl src dst (.slice a0 ll c0) z W h.by_ hzl (by have:=hI.later l;exact this) htt hsr hds);have HS:=zAc (fun W so sd hI=>zRg h 0 0 ttl false so sd W hI hl hsr hds);clear hI;go_enter Tryz.func9,Tryz.ntmps9;go_upto_region 1 with fail;have l0:Later w ((w.alloc (.cells pz6.toArray 40)).alloc (.cells sz6.toArray 32)):=((Below.refl _ w).alloc (Nat.le_refl _) _).alloc (by simp) _;have p0:((w.alloc (.cells pz6.toArray 40)).alloc (.cells sz6.toArray 32)).heap[w.heap.size]? =some (.cells pz6.toArray 40 (0,0)):=(Below.heap_alloc _ _ _ (by simp)).trans (heap_alloc_new w _);have s0:((w.alloc (.cells pz6.toArray 40)).alloc (.cells sz6.toArray 32)).heap[w.heap.size+1]? =some (.cells sz6.toArray 32 (0,0)):=by have:=heap_alloc_new (w.alloc (.cells pz6.toArray 40)) (.cells sz6.toArray 32);simpa using this
 change Code.wp _ _ _ _ ((w.alloc (.cells pz6.toArray 40)).alloc (.cells sz6.toArray 32));generalize (w.alloc (.cells pz6.toArray 40)).alloc (.cells sz6.toArray 32)=w2 at*;have P0:=zAc p0;have S0:=zAc s0;clear p0 s0;go_wp2_with fail;refine(HP.out w2 l0).mono ?_;rintro e w3 ⟨l3,a7,c7,a8,l8,c8,rfl,hO,hD⟩;have L3:Later w w3:=l0.trans l3;have P3:=zAc (zAb l3 P0.out);have S3:=zAc (zAb l3 S0.out);clear HP P0 S0 l3;have la:=zAe w3 (.cells #[.int .u8 0,.int .u16 0,.bool false,.int .u8 ttl,.int .u8 6,.int .u32 src,.int .u32 dst,.slice a7 0 c7,.slice a8 l8 c8] 40);have Q4:=zAc (heap_alloc_new w3 (.cells #[.int .u8 0,.int .u16 0,.bool false,.int .u8 ttl,.int .u8 6,.int .u32 src,.int .u32 dst,.slice a7 0 c7,.slice a8 l8 c8] 40));have L4:=L3.trans la;have P4:=zAc (zAb la P3.out);have S4:=zAc (zAb la S3.out);have hlt:w.heap.size+1<w3.heap.size:=(eS S3.out);have hD4:=hD.rd.later la;clear la P3 S3 hO hD;go_upto_region 2 with fail;change Code.wp _ _ _ _ (w3.alloc (.cells #[.int .u8 0,.int .u16 0,.bool false,.int .u8 ttl,.int .u8 6,.int .u32 src,.int .u32 dst,.slice a7 0 c7,.slice a8 l8 c8] 40));generalize w3.alloc (.cells #[.int .u8 0,.int .u16 0,.bool false,.int .u8 ttl,.int .u8 6,.int .u32 src,.int .u32 dst,.slice a7 0 c7,.slice a8 l8 c8] 40)=w4 at*;generalize w3.heap.size=gp at*;have HST:=zAc (HS.out w4 (.slice a7 0 c7) (.slice a8 l8 c8) (hD4.mono (by omega)));have kq:=zAa Q4.out;clear HS hD4;go_wp2_with fail;refine HST.out.mono ?_
 rintro e w5 ⟨l5,aO,cO,am,cm,rfl,hO5⟩;have L5:=L4.trans l5;have la:=zAe w5 (.cells #[.int .u16 sp,.int .u16 dp,.int .u32 sq,.int .u32 ak,.int .u8 fl,.int .u16 0,.int .u16 0,.slice aO 0 cO,.slice am zm.length cm] 32);have R6:=zAc (heap_alloc_new w5 (.cells #[.int .u16 sp,.int .u16 dp,.int .u32 sq,.int .u32 ak,.int .u8 fl,.int .u16 0,.int .u16 0,.slice aO 0 cO,.slice am zm.length cm] 32));have L6:=L5.trans la;have P6:=zAc (zAb (l5.trans la) P4.out);have S6:=zAc (zAb (l5.trans la) S4.out);have Q6:=zAc (zAb (l5.trans la) Q4.out);have O6:=zAc ((hO5.mono L4.size).kg (KG.of_later (base:=w.heap.size) la));have hlt5:gp<w5.heap.size:=(eS (zAb l5 Q4.out));clear HST P4 S4 Q4 l5 la hO5 kq;go_upto_region 3 with fail;change Code.wp _ _ _ _ (w5.alloc (.cells #[.int .u16 sp,.int .u16 dp,.int .u32 sq,.int .u32 ak,.int .u8 fl,.int .u16 0,.int .u16 0,.slice aO 0 cO,.slice am zm.length cm] 32));generalize w5.alloc (.cells #[.int .u16 sp,.int .u16 dp,.int .u32 sq,.int .u32 ak,.int .u8 fl,.int .u16 0,.int .u16 0,.slice aO 0 cO,.slice am zm.length cm] 32)=w6 at*;generalize w5.heap.size=gs at*;refine zAk (R:=But (fun b=>b=w.heap.size∨b=w.heap.size+1)) 11 rfl (by kernel_rfl) ?_;have ld:Later w6 w6.drew:=Later.drew w6;generalize w6.drew=wd at*;have P7:=zAc (zAb ld P6.out);have S7:=zAc (zAb ld S6.out);have Q7:=zAc (zAb ld Q6.out);have R7:=zAc (zAb ld R6.out);have L7:=L6.trans ld
 have O7:=zAc (O6.out.kg (KG.of_later (base:=w.heap.size) ld));have hlg:gp<wd.heap.size:=(eS Q7.out);have hlr:gs<wd.heap.size:=(eS R7.out);clear P6 S6 Q6 R6 O6 L6 ld;have q0:∀v,But (fun b=>b=w.heap.size∨b=w.heap.size+1) wd v→∀j,v.cell? ⟨gp,j,none⟩=_:=fun v hv=>zAa ((hv.block gp hlg (fun e=>by have e':gp=w.heap.size∨gp=w.heap.size+1:=e;omega)).trans Q7.out);have q1:∀v,But (fun b=>b=w.heap.size∨b=w.heap.size+1) wd v→∀j,v.cell? ⟨gs,j,none⟩=_:=fun v hv=>zAa ((hv.block gs hlr (fun e=>by have e':gs=w.heap.size∨gs=w.heap.size+1:=e;omega)).trans R7.out);refine gX (But.pre _) 0 ?_;refine gX (But.pre _) 1 ?_;refine gX (But.pre _) 2 ?_;refine gX (But.pre _) 3 ?_;refine gX (But.pre _) 4 ?_;refine gX (But.pre _) 5 ?_;refine gX (But.pre _) 6 ?_;refine gX (But.pre _) 7 ?_;clear q0 q1;have kp:=zAa P7.out;have fp:=zAd P7.out;unfold pz6 at kp;refine tO 8 ?_;unfold Oper.wp;go_simp;generalize hV:World.setCell _ ⟨_,8,none⟩ _=w8;have hV9:w8=zAj wd w.heap.size 0 [.int .u8 0,.int .u16 0,.bool false,.int .u8 ttl,.int .u8 6,.int .u32 src,.int .u32 dst,.slice a7 0 c7,.slice a8 l8 c8]:=hV.symm;have hb8:But (fun b=>b=w.heap.size) wd w8:=by rw[hV9];exact zAf (E:=fun b=>b=w.heap.size) (n:=w.heap.size) rfl _ _ _ _ (But.refl _ _)
 have p8:=zAg [.int .u8 0,.int .u16 0,.bool false,.int .u8 ttl,.int .u8 6,.int .u32 src,.int .u32 dst,.slice a7 0 c7,.slice a8 l8 c8] P7.out rfl;rw[←hV9]at p8;clear hV hV9 kp fp;refine⟨⟨hb8.os,hb8.tape,hb8.output,hb8.size,fun k h1 h2=>hb8.block k h1 (fun e=>h2 (.inl e))⟩,?_⟩;have P8:=zAc p8;have S8:=zAc ((hb8.block (w.heap.size+1) (eS S7.out) (fun e=>by have e':w.heap.size+1=w.heap.size:=e;omega)).trans S7.out);have O8:=zAc (O7.out.aside P7.out (by decide) hb8);have L8:Later w w8:=Below.trans L7 (hb8.below L7.size (fun k h e=>by have e':k=w.heap.size:=e;omega));clear p8 P7 S7 O7 hb8 Q7 R7;have kp:=zAa S8.out;have fp:=zAd S8.out;unfold sz6 at kp;refine tO 9 ?_;unfold Oper.wp;go_simp;generalize hV:World.setCell _ ⟨_,8,none⟩ _=w9;have hV9:w9=zAj w8 (w.heap.size+1) 0 [.int .u16 sp,.int .u16 dp,.int .u32 sq,.int .u32 ak,.int .u8 fl,.int .u16 0,.int .u16 0,.slice aO 0 cO,.slice am zm.length cm]:=hV.symm;have hb9:But (fun b=>b=w.heap.size+1) w8 w9:=by rw[hV9];exact zAf (E:=fun b=>b=w.heap.size+1) (n:=w.heap.size+1) rfl _ _ _ _ (But.refl _ _)
 have p9:=zAg [.int .u16 sp,.int .u16 dp,.int .u32 sq,.int .u32 ak,.int .u8 fl,.int .u16 0,.int .u16 0,.slice aO 0 cO,.slice am zm.length cm] S8.out rfl;rw[←hV9]at p9;clear hV hV9 kp fp;refine⟨⟨hb9.os,hb9.tape,hb9.output,hb9.size,fun k h1 h2=>hb9.block k h1 (fun e=>h2 (.inr e))⟩,?_⟩;have P9:=(hb9.block w.heap.size (eS P8.out) (fun e=>by have e':w.heap.size=w.heap.size+1:=e;omega)).trans P8.out;have O9:=O8.out.aside S8.out (by decide) hb9;have L9:Later w w9:=Below.trans L8 (hb9.below L8.size (fun k h e=>by have e':k=w.heap.size+1:=e;omega));clear P8 S8 O8 hb9;refine tO 10 ?_;unfold Oper.wp;go_simp;refine⟨(But.pre _).1 _,?_⟩;refine tD ?_;have k9:=zAa P9;have j9:=zAa p9;go_wp2_with fail;exact bodyPost_ret (v:= .tuple #[.agg #[.int .u8 0,.int .u16 0,.bool false,.int .u8 ttl,.int .u8 6,.int .u32 src,.int .u32 dst,.slice a7 0 c7,.slice a8 l8 c8],.agg #[.int .u16 sp,.int .u16 dp,.int .u32 sq,.int .u32 ak,.int .u8 fl,.int .u16 0,.int .u16 0,.slice aO 0 cO,.slice am zm.length cm],.bool true]) (by simp[results,Tryz.results9,go_sem,k9,j9]) rfl ⟨L9,a7,c7,a8,l8,c8,aO,cO,am,cm,rfl,O9⟩
theorem Ow.asideF {base mb:Nat} {W W':World} {v:Value} {zs:List Int} {cur:Array Value} {t:TypeId} {fz:Nat × Nat} (h:Ow base W v zs)(hm:W.heap[mb]? =some (.cells cur t fz))(ht:t≠5)(hb:But (fun b=>b=mb) W W'):Ow base W' v zs:=by
 rcases h with h|⟨g,cap,c,h1,h2,h3,h4,h5,h6,h7⟩
 ·exact .inl h
 ·refine .inr ⟨g,cap,c,h1,h2,h3,h4,h5,(hb.block g (eS h6) (fun e=> ?_)).trans h6,h7⟩
  subst e;rw[hm]at h6
  simp at h6
  exact ht h6.2.1
def TpQ (base:Nat) (w w':World) (nw now:Int) (q:Tu) (CQ:Int→Value→List Int→World→Prop) (e:Ending):Prop:=∃(n:Int) (v:Value) (sd2:Int) (z2:List Int) (sv:Value),e= .returned (.agg #[.int .i64 0,.int .i64 sd2,sv])∧Kgl base w w'∧(n≤nw∨n≤now)∧now≤n∧CQ n v z2 w'∧Ow w.heap.size w' sv (tgB 63 q.dst q.src z2)
def TpH (q:Tu) (CQ:Int→Value→List Int→World→Prop) (n0:Nat) (rc n:Int) (v sv:Value) (W:World):Prop:=rc=0∧∃z2,CQ n v z2 W∧Ow n0 W sv (tgB 63 q.dst q.src z2)
theorem TpH.s {q:Tu} {CQ:Int→Value→List Int→World→Prop} {n0:Nat} (hS:∀n v,CqS (CQ n v)):HqS (TpH q CQ n0):=fun rc n v sv A B k cur fz h hk hb=>by
 obtain⟨e,z2,h1,h2⟩:=h;exact⟨e,z2,hS n v _ _ _ _ _ _ _ h1 hk (.inr rfl) hb,h2.asideF hk (by decide) hb⟩
theorem zD2(base g:Nat)(s:Gf)(side nw:Int)(bk:Bool)(q:Tu)(src dst sp dp sq ak fl:Int)(zm z:List Int)(sb:Value)(OQ:Int→Value→Nat→Fl→Nat→World→Prop)(CQ:Int→Value→List Int→World→Prop)(w:World)(h:GF base w g s)(hbs:base≤w.heap.size)(hT:TG src dst sp dp sq ak fl zm z)(hl:zm.length≤500)(nI:Nat)(hI:Ow nI w sb (tgB 64 src dst z))(hsr:0≤src∧src≤4294967295)(hds:0≤dst∧dst≤4294967295)(hsd:side=0∨side=1)(hqb:TuB q)(hqp:q.pr=6)(hnow:0≤s.now∧s.now≤549755813888)(hex:s.ex=[])(hdu:∀n,n≤nw∨n≤s.now→duR n (zDf s.rw)=[])(hal:(zDf s.rw).length≤5000)(hz:∀W,KG base w W→Tb W)
  (hOW:∀n v W so sd,KG base w W→(0≤n∧n≤549755813888)→(n≤nw∨n≤s.now)→s.now≤n→GF base W g (ltr s n v)→Rd W.heap.size W sd z→Calls Tryz.prog 114 #[.agg #[.pointer (some ⟨g,0,none⟩),.int .u8 0,.int .u16 0,.bool false,.int .u8 64,.int .u8 6,.int .u32 src,.int .u32 dst,so,sd,.int .i64 side],.agg #[.int .u8 6,.int .u32 src,.int .u32 dst,.int .u16 sp,.int .u16 dp]] W fun e w'=>∃(f:Fl) (hb:Nat),e= .returned (.tuple #[.pointer (some ⟨f.blk,0,none⟩),.bool bk])∧KG base W w'∧OQ n v f.blk f hb w')
  (hOF:∀n v fb f hb W,OQ n v fb f hb W→f.blk=fb∧W.heap[fb]? =some (.cells (flc f).toArray 111 (0,0))∧oth f bk=q∧f.hp= .iface 459 (.pointer (some ⟨hb,0,none⟩)))
  (hOL:∀n v fb f hb A B,OQ n v fb f hb A→Later A B→OQ n v fb f hb B)
  (hCH:∀n v fb f hb n1 W so sd ao co ad cd,w.heap.size≤n1→n1≤W.heap.size→KG base w W→OQ n v fb f hb W→Ow n1 W (.slice ao 0 co) []→Ow n1 W (.slice ad z.length cd) (rwD 6 q.dst q.src q.dp q.sp z)→Calls Tryz.prog 399 #[.pointer (some ⟨hb,0,none⟩),.agg #[.pointer (some ⟨g,0,none⟩),.int .u8 0,.int .u16 0,.bool false,.int .u8 64,.int .u8 6,.int .u32 src,.int .u32 dst,so,sd,.int .i64 side,.pointer (some ⟨fb,0,none⟩),.bool bk,.int .u8 6,.int .u32 src,.int .u32 dst,.int .u16 sp,.int .u16 dp,.int .u8 6,.int .u32 q.dst,.int .u32 q.src,.int .u16 q.dp,.int .u16 q.sp],.agg #[.int .u8 0,.int .u16 0,.bool false,.int .u8 64,.int .u8 6,.int .u32 q.dst,.int .u32 q.src,.slice ao 0 co,.slice ad z.length cd]] W fun e w'=>ChT base n1 W w' 0 0 64 6 q false [] (CQ n v) e)
  (hCS:∀n v,CqS (CQ n v))(hCL:∀n v y W,CQ n v y W→y.length≤60000)(hCT:∀n v y A B,CQ n v y A→Later A B→CQ n v y B):
  Calls Tryz.prog 7 #[.pointer (some ⟨g,0,none⟩),.int .i64 nw,.int .i64 side,sb] w fun e w'=>TpQ base w w' nw s.now q CQ e:=by
 have hzl:=hT.len;have hrl:(rwD 6 q.dst q.src q.dp q.sp z).length=z.length:=zBl _ _ _ _ _;have hF:=zNa hT.by_ (by omega) (show(0:Int)≤64∧(64:Int)≤255 by omega) hsr hds;obtain⟨sa,sc,rfl,_,_⟩:=hI.slice;refine(zM7 base g s side nw hsd _ (TpH q CQ w.heap.size) w h hbs ⟨_,_,_,rfl⟩ hnow hex hdu hal (TpH.s hCS) (fun W n v k hn hn1 hn2 hg=> ?_)).mono ?_
 ·refine (zM6 base g 6 side q (CQ n v) _ _ W hF.by_ ((hI.kg k).rd) (by have:=hF.len;omega) (by omega) hsd hqb hF.rd hF.i9 (by rw[hF.i8];omega) (by rw[hF.zo];simp) (by rw[hF.zo];rfl) (fun y W2 hc=>by rw[hF.zo];have:=hCL n v y W2 hc;simp;omega) (hCS n v) (hCT n v) (fun W2 so sd l ho hd=> ?_)).mono ?_
  ·rw[hF.zo]at ho
   rw[hF.zd]at hd;rw[hF.i1,hF.w4,hF.w6,hF.i8,hF.src,hF.dst,hF.zo];have K2:=k.trans (KG.of_later (base:=base) l);have hsz:w.heap.size≤W.heap.size:=k.size;refine(zRb base g bk q 0 0 64 src dst false so sd side [] z sp dp (OQ n v) (CQ n v) W.heap.size W2 hT.ok (by show wat z 0=sp;exact hT.a) (by show wat z 2=dp;exact hT.b) (by unfold flt;rw[if_neg (by simp),if_neg (by simp;omega)]) Mt.By.nil hT.by_ ho hd (by simp) (by omega) (by omega) (by omega) (by omega) hsr hds hqb hqp (fun V k2=>hz V (K2.trans k2)) (fun V l2=>hOW n v V so sd (K2.trans (KG.of_later l2)) hn hn1 hn2 (hg.later (l.trans l2)) ((hd.later l2).rd)) (hOF n v) (hOL n v) (fun fb f hb V ao co ad cd k2 hq ho2 hd2=> ?_) (hCS n v)).mono ?_
   ·exact hCH n v fb f hb _ V so sd ao co ad cd (Nat.le_trans hsz l.size) k2.size (K2.trans k2) hq ho2 (by rw[←hrl];rw[←hrl]at hd2;exact hd2)
   ·rintro e w2 ⟨zd2,ao,co,ad,cd,rfl,k2,ho2,hd2,hc2⟩
    exact⟨zd2,ao,co,ad,cd,rfl,k2,ho2,hd2,hc2⟩
  ·rintro e w2 ⟨zd2,v2,rfl,k2,hc2,ho2⟩
   rw[hF.i1,hF.w4,hF.w6,hF.i8,hF.zo]at ho2;obtain⟨va,vc,rfl,_,_⟩:=ho2.slice;have ho3:Ow w.heap.size w2 _ (tgB 63 q.dst q.src zd2):=ho2.mono k.size;exact⟨0,oppo side,va,_,vc,rfl,k2,rfl,zd2,hc2,ho3⟩
 ·rintro e w' ⟨rc,sd,va,ln,vc,n,v,rfl,hk,hn1,hn2,rfl,z2,hc,ho⟩
  exact⟨n,v,sd,z2,_,rfl,hk,hn1,hn2,hc,ho⟩
def bkR (r:Rw):Nat:=bki r.p r.s r.d r.a r.b
def rwL (L:List Rw):Nat→List Rw:=fun j=>L.filter fun r=>bkR r==j
def zBe (t:Tu) (r:Rw):Bool:=isK t.pr t.src t.dst (kyp t.pr t.sp) t.dp r
def UL (L:List Rw):Prop:=∀(t:Tu),(L.filter (zBe t)).length≤1
theorem zBv {t:Tu} {r:Rw} :zBe t r=true↔r.p=t.pr∧r.s=t.src∧r.d=t.dst∧r.a=kyp t.pr t.sp∧r.b=t.dp:=by
 unfold zBe isK;simp
theorem zNb(p a:Int):kyp p (kyp p a)=kyp p a:=by
 unfold kyp;split<;>simp_all
theorem zNc {t:Tu} {r:Rw} (h:zBe t r=true):bkR r=bkT t:=by
 obtain⟨h1,h2,h3,h4,h5⟩:=zBv.1 h;unfold bkR bkT bki;rw[h1,h2,h3,h4,h5,zNb]
theorem rwL_at(L:List Rw)(t:Tu):(rwL L (bkT t)).filter (zBe t)=L.filter (zBe t):=by
 unfold rwL;rw[List.filter_filter];refine List.filter_congr (fun r _=> ?_);cases hb:zBe t r with
 |false=>rfl
 |true=>simp[zNc hb]
theorem zDi {α:Type} (p:α→Bool):∀(l:List α),(l.findIdx? p=none↔l.filter p=[])
 | []=>by simp
 |x::l=>by
  rw[List.findIdx?_cons];cases hx:p x with
  |true=>simp[hx]
  |false=>simp[hx,zDi p l]
theorem zRh(t:Tu)(ls:Nat→List Rw):kxT t ls=(ls (bkT t)).findIdx? (zBe t):=rfl
theorem zEw(L:List Rw)(t:Tu):kxT t (rwL L)=none↔∀r∈L,zBe t r=false:=by
 rw[zRh,zDi,rwL_at,List.filter_eq_nil_iff];simp
theorem zD3(L:List Rw)(t:Tu)(r:Rw)(hr:r∈L)(ht:zBe t r=true)(hu:UL L):∃k,kxT t (rwL L)=some k∧(rwL L (bkT t))[k]? =some r:=by
 cases hk:kxT t (rwL L) with
 |none=>exact absurd ht (by rw[(zEw L t).1 hk r hr];simp)
 | some k=>
  refine⟨k,rfl,?_⟩;rw[zRh,List.findIdx?_eq_some_iff_getElem]at hk;obtain⟨h1,h2,_⟩:=hk
  have hm:(rwL L (bkT t))[k]∈L.filter (zBe t):=by
   rw[←rwL_at];exact List.mem_filter.2 ⟨List.getElem_mem h1,h2⟩
  have hm2:r∈L.filter (zBe t):=List.mem_filter.2 ⟨hr,ht⟩;have hl:=hu t;rw[List.getElem?_eq_getElem h1];match hq:L.filter (zBe t),hl,hm,hm2 with
  | [],_,hm,_=>cases hm
  | [x],_,hm,hm2=>rw[List.mem_singleton.1 hm,List.mem_singleton.1 hm2]
  |_::_::_,hl,_,_=>simp at hl
theorem rwL_add(L:List Rw)(r:Rw)(i:Nat)(hi:bkR r=i):zOx (rwL L) i r=rwL (L++[r]):=by
 funext j
 unfold zOx rwL;rw[List.filter_append];split
 ·rename_i e
  subst e;simp[hi]
 ·rename_i e
  simp[hi,Ne.symm e]
theorem zGs {α:Type} (p:α→Bool)(f:α→α):∀(l:List α) (k:Nat),l.findIdx? p=some k→(l.filter p).length≤1→l.modify k f=l.map (fun x=>if p x then f x else x)
 | [],_,h,_=>by simp at h
 | x::l,k,h,hu=>by
  rw[List.findIdx?_cons]at h;cases hx:p x with
  | true=>
   rw[hx]at h;simp only[if_true,Option.some.injEq]at h;subst h;rw[List.filter_cons_of_pos hx]at hu
   have hn:l.filter p=[]:=by
    cases hq:l.filter p with
    |nil=>rfl
    |cons _ _=>rw[hq]at hu;simp at hu
   have hm:l.map (fun x=>if p x then f x else x)=l:=by
    rw[List.filter_eq_nil_iff]at hn;conv=>rhs;rw[←List.map_id l]
    exact List.map_congr_left (fun y hy=>by simp[hn y hy])
   simp[hx,hm]
  | false=>
   rw[hx]at h;simp only[Bool.false_eq_true,if_false]at h;cases hk:l.findIdx? p with
   |none=>rw[hk]at h;simp at h
   |some k'=>
    rw[hk]at h;simp only[Option.map_some,Option.some.injEq]at h;subst h;rw[List.filter_cons_of_neg (by simp[hx])]at hu;simp[hx,zGs p f l k' hk hu]
theorem zC0 {α:Type} (p:α→Bool):∀(l:List α) (k:Nat),l.findIdx? p=some k→(l.filter p).length≤1→l.eraseIdx k=l.filter (fun x=> !p x)
 | [],_,h,_=>by simp at h
 | x::l,k,h,hu=>by
  rw[List.findIdx?_cons]at h;cases hx:p x with
  | true=>
   rw[hx]at h;simp only[if_true,Option.some.injEq]at h;subst h;rw[List.filter_cons_of_pos hx]at hu
   have hn:l.filter p=[]:=by
    cases hq:l.filter p with
    |nil=>rfl
    |cons _ _=>rw[hq]at hu;simp at hu
   have hm:l.filter (fun x=> !p x)=l:=by
    rw[List.filter_eq_nil_iff]at hn;exact List.filter_eq_self.2 (fun y hy=>by simp[hn y hy])
   simp[hx,hm]
  | false=>
   rw[hx]at h;simp only[Bool.false_eq_true,if_false]at h;cases hk:l.findIdx? p with
   |none=>rw[hk]at h;simp at h
   |some k'=>
    rw[hk]at h;simp only[Option.map_some,Option.some.injEq]at h;subst h;rw[List.filter_cons_of_neg (by simp[hx])]at hu;simp[hx,zC0 p l k' hk hu]
def reT (till tn:Int) (r:Rw):Rw:= { r with till:=till,turn:=tn }
def mvR (t:Tu) (till tn:Int) (L:List Rw):List Rw:=L.map fun r=>if zBe t r then reT till tn r else r
def dpR (t:Tu) (L:List Rw):List Rw:=L.filter fun r=> !zBe t r
theorem isT'_re(t:Tu)(till tn:Int)(r:Rw):zBe t (reT till tn r)=zBe t r:=rfl
theorem bkR_re(till tn:Int)(r:Rw):bkR (reT till tn r)=bkR r:=rfl
theorem zFs {t:Tu} {till tn:Int} {L:List Rw} {x:Rw} (h:x∈mvR t till tn L):∃r∈L,x=if zBe t r then reT till tn r else r:=by
 obtain⟨r,hr,rfl⟩:=List.mem_map.1 h;exact⟨r,hr,rfl⟩
theorem mvG(bk:Rw→Nat)(p:Rw→Bool)(f:Rw→Rw)(i k:Nat)(L:List Rw)(hb:∀r,bk (f r)=bk r)(hp:∀r,p r=true→bk r=i)(hk:(L.filter (fun r=>bk r==i)).findIdx? p=some k)(hu:(L.filter p).length≤1)(j:Nat):
  (if j=i then(L.filter (fun r=>bk r==i)).modify k f else L.filter (fun r=>bk r==j))=(L.map (fun r=>if p r then f r else r)).filter (fun r=>bk r==j):=by
 have he:(L.map (fun r=>if p r then f r else r)).filter (fun r=>bk r==j)=(L.filter (fun r=>bk r==j)).map (fun r=>if p r then f r else r):=by
  rw[List.filter_map];refine congrArg (List.map _) (List.filter_congr (fun r _=> ?_))
  have h2:bk (if p r then f r else r)=bk r:=by
   split
   ·exact hb _
   ·rfl
  simp only[Function.comp,h2]
 rw[he]
 have hl:((L.filter (fun r=>bk r==i)).filter p).length≤1:=by
  rw[List.filter_filter];refine Nat.le_trans (Nat.le_of_eq ?_) hu;refine congrArg List.length (List.filter_congr (fun r _=> ?_));cases hq:p r with
  |false=>rfl
  |true=>simp[hp r hq]
 split
 ·rename_i e
  rw[e];exact zGs p f _ k hk hl
 ·rename_i e
  refine(List.map_id (L.filter (fun r=>bk r==j))).symm.trans (List.map_congr_left (fun r hr=> ?_))
  have hb:p r=false:=by
   cases hq:p r with
   |false=>rfl
   |true=>
    have:=(List.mem_filter.1 hr).2;simp[hp r hq]at this
    exact absurd this.symm e
  simp[hb]
theorem dpG(bk:Rw→Nat)(p:Rw→Bool)(i k:Nat)(L:List Rw)(hp:∀r,p r=true→bk r=i)(hk:(L.filter (fun r=>bk r==i)).findIdx? p=some k)(hu:(L.filter p).length≤1)(j:Nat):
  (if j=i then(L.filter (fun r=>bk r==i)).eraseIdx k else L.filter (fun r=>bk r==j))=(L.filter (fun r=> !p r)).filter (fun r=>bk r==j):=by
 have he:(L.filter (fun r=> !p r)).filter (fun r=>bk r==j)=(L.filter (fun r=>bk r==j)).filter (fun r=> !p r):=by
  rw[List.filter_filter,List.filter_filter];exact List.filter_congr (fun r _=>Bool.and_comm _ _)
 rw[he]
 have hl:((L.filter (fun r=>bk r==i)).filter p).length≤1:=by
  rw[List.filter_filter];refine Nat.le_trans (Nat.le_of_eq ?_) hu;refine congrArg List.length (List.filter_congr (fun r _=> ?_));cases hq:p r with
  |false=>rfl
  |true=>simp[hp r hq]
 split
 ·rename_i e
  rw[e];exact zC0 p _ k hk hl
 ·rename_i e
  symm
  refine List.filter_eq_self.2 (fun r hr=> ?_)
  have hb:p r=false:=by
   cases hq:p r with
   |false=>rfl
   |true=>
    have:=(List.mem_filter.1 hr).2;simp[hp r hq]at this
    exact absurd this.symm e
  simp[hb]
theorem rwL_mv(L:List Rw)(t:Tu)(till tn:Int)(k:Nat)(hk:kxT t (rwL L)=some k)(hu:UL L):mvL (rwL L) (bkT t) k till tn=rwL (mvR t till tn L):=
 funext (mvG bkR (zBe t) (reT till tn) (bkT t) k L (bkR_re till tn) (fun r h=>zNc h) hk (hu t))
theorem rwL_dp(L:List Rw)(t:Tu)(k:Nat)(hk:kxT t (rwL L)=some k)(hu:UL L):dpL (rwL L) (bkT t) k=rwL (dpR t L):=
 funext (dpG bkR (zBe t) (bkT t) k L (fun r h=>zNc h) hk (hu t))
theorem UL_mv {L:List Rw} (t:Tu)(till tn:Int)(h:UL L):UL (mvR t till tn L):=fun u=>by
 unfold mvR;rw[List.filter_map,List.length_map]
 have:(zBe u ∘ fun r=>if zBe t r=true then reT till tn r else r)=zBe u:=by
  funext r
  show zBe u (if zBe t r=true then reT till tn r else r)=_
  split
  ·rw[isT'_re]
  ·rfl
 rw[this];exact h u
theorem UL_dp {L:List Rw} (t:Tu)(h:UL L):UL (dpR t L):=fun u=>by
 unfold dpR;rw[List.filter_filter];refine Nat.le_trans ?_ (h u);rw[←List.filter_filter];rw[List.filter_filter,show(fun a=>zBe u a && !zBe t a)=(fun a=>(!zBe t a) && zBe u a)from funext fun a=>Bool.and_comm _ _,←List.filter_filter];exact List.length_filter_le _ _
theorem zGt {L:List Rw} (r:Rw)(t:Tu)(hr:zBe t r=true)(hn:∀x∈L,zBe t x=false)(h:UL L):UL (L++[r]):=fun u=>by
 rw[List.filter_append,List.length_append];cases hb:zBe u r with
 |false=>simp[hb];exact h u
 | true=>
  have:L.filter (zBe u)=[]:=by
   rw[List.filter_eq_nil_iff];intro x hx hux
   have h1:=zBv.1 hr;have h2:=zBv.1 hb;have h3:=zBv.1 hux;have:zBe t x=true:=zBv.2 ⟨by rw[h3.1,←h2.1,h1.1],by rw[h3.2.1,←h2.2.1,h1.2.1],by rw[h3.2.2.1,←h2.2.2.1,h1.2.2.1],by rw[h3.2.2.2.1,←h2.2.2.2.1,h1.2.2.2.1],by rw[h3.2.2.2.2,←h2.2.2.2.2,h1.2.2.2.2]⟩;rw[hn x hx]at this;cases this
  simp[this,hb]
theorem UL_nil:UL []:=fun u=>by simp
theorem ptT_L(t:Tu)(id till c tn:Int)(L:List Rw)(hm:zDe till=true)(hc:c<128)(hn:∀r∈L,zBe t r=false):ptT t id till (c,tn,rwL L)=(c+1,tn+1,rwL (L++[roT t id till (tn+1)])):=by
 rw[ptT_yes t id till c tn (rwL L) hm hc ((zEw L t).2 hn)];rw[rwL_add L _ _ (zNc (zBv.2 ⟨rfl,rfl,rfl,rfl,rfl⟩))]
theorem zOj(t:Tu)(till tn:Int)(L:List Rw)(r:Rw)(hm:zDe till=true)(hr:r∈L)(ht:zBe t r=true)(hu:UL L):mvT t till (tn,rwL L)=(tn+1,rwL (mvR t till (tn+1) L)):=by
 obtain⟨k,hk,_⟩:=zD3 L t r hr ht hu;rw[mvT_yes t till tn (rwL L) k hm hk,rwL_mv L t till (tn+1) k hk hu]
theorem allL_mem(L:List Rw)(r:Rw):r∈zDf (rwL L)↔r∈L:=by
 unfold zDf rwL;rw[List.mem_flatMap];constructor
 ·rintro ⟨j,_,h⟩
  exact(List.mem_filter.1 h).1
 ·intro h
  refine⟨bkR r,?_,List.mem_filter.2 ⟨h,by simp⟩⟩;rw[List.mem_range];exact zCa _ _ _ _ _
end Go.Proofs.YteaeilghamjjkaaGreatDoor
