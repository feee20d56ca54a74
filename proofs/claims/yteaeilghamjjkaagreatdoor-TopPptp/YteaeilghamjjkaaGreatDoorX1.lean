import Derived.Test.YteaeilghamjjkaaGreatDoorX2
import Derived.Laws.MakeOwn
namespace Go.Proofs.YteaeilghamjjkaaGreatDoor
set_option maxHeartbeats 8000000
open Go.RowKit Go.Shelf
set_option maxRecDepth 100000
set_option linter.unusedVariables false
set_option linter.unusedSimpArgs false
theorem tdropK(base bt:Nat)(lim cnt trn:Int)(ls:Nat→List Rw)(p s d a b:Int)(w:World)(hT:TB base w bt lim cnt trn ls)(hu:∀i,UQy (ls i))(hs:0≤s∧s≤4294967295)(hd:0≤d∧d≤4294967295)(ha:0≤a∧a≤65535)(hb:0≤b∧b≤65535)(hbs:base≤w.heap.size)(hcn: -4096≤cnt∧cnt≤4096):
  Calls Tryz.prog 105 #[.pointer (some ⟨bt,0,none⟩),.agg #[.int .u8 p,.int .u32 s,.int .u32 d,.int .u16 a,.int .u16 b]] w fun e w'=>e= .returned (.int .i64 (dpe ls p s d a b))∧(Below base w w'∧KT w w'∧KM w w'∧KG base w w')∧
   ((kx p s d a b ls=none∧TB base w' bt lim cnt trn ls)∨∃k,kx p s d a b ls=some k∧TB base w' bt lim (cnt-1) trn (dpL ls (bki p s d a b) k)):=by
 obtain⟨vs,hT⟩:=hT;have lb0:Later w (w.alloc (.cells #[.int .u8 p,.int .u32 s,.int .u32 d,.int .u16 a,.int .u16 b] 103)):=bA _ _;have t0:=heap_alloc_new w (.cells #[.int .u8 p,.int .u32 s,.int .u32 d,.int .u16 a,.int .u16 b] 103);have k0:=zAa t0;go_enter Tryz.func105,Tryz.ntmps105;go_wp2_with fail;generalize w.alloc _=w0 at*;refine(zDt base bt lim cnt trn vs ls p s d a b w0 (hT.later lb0) hs hd ha hb).mono ?_;rintro e w1 ⟨hb1,hor⟩;have l1:Later w0 w1:=hb1;have L1:=lb0.trans l1;clear k0;rcases hor with⟨hn,rfl⟩|⟨k,g2,cap,hk,hkl,hv,rfl⟩
 ·have HN:=zAc hn
  clear hn;go_wp2_with fail;go_ret
  exact⟨by unfold dpe;rw[if_pos HN.out];rfl,⟨L1.mono hbs,KT.of_later L1,KM.of_later L1,KG.of_later L1⟩,.inl ⟨HN.out,vs,hT.later L1⟩⟩
 ·have HK:=zAc hk
  have HV:=zAc hv;clear hk hv;have t1:=zAb l1 t0;have hT1:=hT.later L1;go_upto_region 5 with fail;refine zAk (R:=But (fun g=>g=bt∨(vs[bki p s d a b]?.getD undef).ownBlock=some g)) 8 rfl (by kernel_rfl) ?_;have ld:Later w1 w1.drew:=Later.drew w1;have td:=zAb ld t1;have LD:=L1.trans ld;generalize w1.drew=Wd at*;have hTd:=hT.later LD;have hbtl:=(eS hT.2.2.1);have hvl:∀x,(vs[bki p s d a b]?.getD undef).ownBlock=some x→base≤x∧x<w.heap.size:=fun x hx=>(hT.2.2.2.1 _ (zCa p s d a b)).lt x hx;have hq:∀v1,But (fun g=>g=bt∨(vs[bki p s d a b]?.getD undef).ownBlock=some g) Wd v1→∀j,v1.cell? ⟨w.heap.size,j,none⟩=#[Value.int .u8 p,.int .u32 s,.int .u32 d,.int .u16 a,.int .u16 b][j]? :=fun v1 hv=>zAa ((hv.block w.heap.size (eS td) (fun hE=>by rcases hE with e|e;(· omega);(· have:=(hvl _ e).2;omega))).trans td);refine tX (But.pre _) 0 ?_;refine tX (But.pre _) 1 ?_;refine tX (But.pre _) 2 ?_;refine tX (But.pre _) 3 ?_;refine tX (But.pre _) 5 ?_;clear hq;refine tO 4 ?_;refine zAi 161 #[.agg #[.int .u8 p,.int .u32 s,.int .u32 d,.int .u16 a,.int .u16 b]] (by go_simp) ?_;refine(zG9 p s d a b Wd hs hd ha hb).mono ?_;rintro e W1 ⟨rfl,hbW1⟩;have k1:Later Wd W1:=hbW1;refine⟨But.of k1,?_⟩;simp only[Act.put,sA,sB,sC];refine tO 6 ?_;refine zAi 162 #[.agg #[.int .u8 p,.int .u32 s,.int .u32 d,.int .u16 a,.int .u16 b]] (by go_simp) ?_;refine(of_key p s d a b W1).mono ?_;rintro e W2 ⟨gk,rfl,hbW2,hgk,hgc⟩;have k2:Later W1 W2:=hbW2;refine⟨But.of k2,?_⟩
  simp only[Act.put,sA,sB,sC];have LW2:=LD.trans (k1.trans k2);refine tO 7 ?_;refine zAi 160 #[.pointer (some ⟨bt,3,none⟩),.int .u32 (hsh (tb p s d (kyp p a) b)),.func (.func 220) #[] #[.pointer (some ⟨gk,0,none⟩)]] (by go_simp) ?_;refine(zLg base bt gk lim cnt trn vs ls (hsh (tb p s d (kyp p a) b)) (bki p s d a b) k p s d (kyp p a) b W2 (hT.later LW2) (zMk _ _ _ _ _) rfl (hu _) HK.out hgc).mono ?_;rintro e W4 ⟨rfl,⟨vs4,hT5⟩,hb4⟩;refine⟨hb4,?_⟩;simp only[Act.put,sA,sB,sC];refine tD ?_
  have hE:∀x,(x=bt∨(vs[bki p s d a b]?.getD undef).ownBlock=some x)→base≤x:=fun x e=>by
   rcases e with rfl|e
   ·exact hT.2.1
   ·exact (hvl x e).1
  have hbz:Below base w W4:=(LW2.mono hbs).trans (hb4.below (Nat.le_trans hbs LW2.size) (fun x hx e=>by have:=hE x e;omega));have h6:=hT5.2.2.1;have kk:=zAa h6;have k6:W4.cell? ⟨bt,1,none⟩=some (.int .i64 cnt):=by rw[kk];rfl
  have f6:=zAd h6;clear kk;have hV3:=zAh h6 1 (.int .i64 (cnt-1));have hbV1:But (fun g=>g=bt) W4 (W4.setCell ⟨bt,1,none⟩ (.int .i64 (cnt-1))):=(But.refl (fun g=>g=bt) _).setCell (p:=⟨bt,1,none⟩) rfl _;have hTf:=TBv.but (c2:=cnt-1) hT5 hbV1 (by rw[hV3];rfl);have hbf:Below base w (W4.setCell ⟨bt,1,none⟩ (.int .i64 (cnt-1))):=hbz.trans (hbV1.below (Nat.le_trans hbs hbz.size) (fun x hx e=>by have:=hT.2.1;omega));have hEf:But (fun x=>x=bt∨(vs[bki p s d a b]?.getD undef).ownBlock=some x) w (W4.setCell ⟨bt,1,none⟩ (.int .i64 (cnt-1))):=((But.of LW2).trans hb4).trans ⟨hbV1.os,hbV1.tape,hbV1.output,hbV1.size,fun x hx he=>hbV1.block x hx (fun e=>he (.inl e))⟩;have hkt:=KT.of_but hEf (hT.typed _ (zCa p s d a b));have hkm:=KM.of_but hEf (hT.typed _ (zCa p s d a b))
  have hkg:KG base w (W4.setCell ⟨bt,1,none⟩ (.int .i64 (cnt-1))):=KG.of_but hEf (fun k e=>⟨hE k e,fun ob ho=>by
   obtain⟨cur,tt,fz,hh,ht⟩:=hT.typed _ (zCa p s d a b) k e;rw[hh]at ho;cases ho
   show gTs.contains _=true
   rcases ht with ht|ht<;>(rw[ht];decide)⟩)
  have HTF:=zAc hTf;have HKK:=zAc (And.intro hkt (And.intro hkm hkg));clear hkt hkm hkg;have c1: -9223372036854775808≤cnt-1:=by omega
  have c2:cnt-1≤9223372036854775807:=by omega
  clear hTf hV3 hbV1;go_wp2_with fail;go_ret
  exact⟨by unfold dpe;rw[HK.out,if_neg (by simp)];rfl,⟨hbf,HKK.out.1,HKK.out.2.1,HKK.out.2.2⟩,.inr ⟨k,HK.out,_,HTF.out⟩⟩
theorem zGw {α:Type} (p:α→Bool)(l:List α)(i j:Nat)(hi:i<l.length)(hj:j<l.length)(h:i<j)(h1:p l[i]=true)(h2:p l[j]=true):2≤(l.filter p).length:=by
 have e:l.filter p=(l.take j).filter p++(l.drop j).filter p:=by rw[←List.filter_append,List.take_append_drop]
 rw[e,List.length_append];have m1:l[i]∈(l.take j).filter p:=List.mem_filter.2 ⟨List.mem_take_iff_getElem.2 ⟨i,by omega,rfl⟩,h1⟩;have m2:l[j]∈(l.drop j).filter p:=List.mem_filter.2 ⟨List.mem_drop_iff_getElem.2 ⟨0,by omega,by simp⟩,h2⟩;have q1:=List.length_pos_of_mem m1;have q2:=List.length_pos_of_mem m2;omega
def zD4 (z:Int) (e:MapEntry):Bool:=match e.key with| .int .i64 k=>k==z|_=>false
theorem zJb(z:Int):∀(l:List MapEntry) (i:Nat),(∀e∈l,∃k:Int,e.key= .int .i64 k)→∀j,l.findIdx? (zD4 z)=some j→∃v,Instr.findNow (.int .i64) (.int .i64 z) l i=some (some (i+j,v))
 | [],_,_,j,h=>by simp at h
 | e::l,i,hk,j,h=>by
  obtain⟨k,hk1⟩:=hk e (by simp);rw[List.findIdx?_cons]at h;unfold Instr.findNow;by_cases hz:k=z
  ·have h1:Instr.sameNow (.int .i64) (.int .i64 z) e.key=some true:=by rw[hk1,hz];simp[Instr.sameNow]
   have h2:zD4 z e=true:=by unfold zD4;rw[hk1];simp[hz]
   rw[h2]at h;simp only[if_true,Option.some.injEq]at h;subst h;rw[h1];exact⟨_,rfl⟩
  ·have h1:Instr.sameNow (.int .i64) (.int .i64 z) e.key=some false:=by rw[hk1];simp[Instr.sameNow,hz,Ne.symm hz]
   have h2:zD4 z e=false:=by unfold zD4;rw[hk1];simp[hz]
   rw[h2]at h;simp only[Bool.false_eq_true,if_false]at h;cases hq:l.findIdx? (zD4 z) with
   |none=>rw[hq]at h;simp at h
   |some j'=>
    rw[hq]at h;simp only[Option.map_some,Option.some.injEq]at h;subst h;rw[h1];obtain⟨v,hv⟩:=zJb z l (i+1) (fun e' he'=>hk e' (by simp[he'])) j' hq;exact⟨v,by rw[hv,Nat.add_assoc,Nat.add_comm 1 j']⟩
theorem del_flow {w:World} {b c:Nat} {es:Array MapEntry} (hb:w.heap[b]? =some (.map es c))(z:Int)(j:Nat)(v:Value)(hf:Instr.findNow (.int .i64) (.int .i64 z) es.toList 0=some (some (j,v))):
  ∃w',(∀ty,(Builtin.delete_ #[86,3] ty #[.map (some b),.int .i64 z]).run Tryz.prog w= .ok (.tuple #[]) w')∧w'.heap[b]? =some (.map (es.eraseIdxIfInBounds j) c)∧But (fun g=>g=b) w w':=by
 have hc:∀q,(Instr.checkKey q 10000 3 (.int .i64 z)).run Tryz.prog w= .ok () w:=fun q=>MapKept.run_checkKey (k:= .int .i64 z) Tryz.underlying3 (by simp[MapKept.IsKey]) q 9999;have hlt:=(eS hb);refine⟨{ w with heap:=w.heap.setIfInBounds b (.map (es.eraseIdxIfInBounds j) c) },fun ty=> ?_,?_,rfl,rfl,rfl,by simp,fun i hi he=> ?_⟩
 ·simp[Builtin.delete_,run_underlying Tryz.underlying86,MapKept.run_getObj_map hb,hc,MapKept.run_findKey Tryz.underlying3 hf,MapKept.run_setObj_map _ hb,Result.andThen]
 ·simp[hlt]
 ·have he':i≠b:=he
  rw[Array.getElem?_setIfInBounds_ne (by omega)]
def Gf.ended (s:Gf) (z:Int) (fe:Array MapEntry):Gf:= { s with fs:=s.fs.filter (fun x=> !(x.id==z)),fe:=fe }
theorem zRr(z:Int)(x:Fl)(e:MapEntry)(h:(e.key,e.val)=flE x):zD4 z e=(x.id==z):=by
 have h1:e.key= .int .i64 x.id:=congrArg Prod.fst h;unfold zD4;rw[h1]
theorem zJc(z:Int):∀(l:List MapEntry) (fs:List Fl),l.map (fun e=>(e.key,e.val))=fs.map flE→(l.filter (fun e=> !zD4 z e)).map (fun e=>(e.key,e.val))=(fs.filter (fun x=> !(x.id==z))).map flE∧(l.filter (zD4 z)).length=(fs.filter (fun x=>x.id==z)).length
 | [],[],_=>by simp
 | [],_::_,h=>by simp at h
 |_::_,[],h=>by simp at h
 |e::l,x::fs,h=>by
  rw[List.map_cons,List.map_cons]at h;injection h with h1 h2
  have hk:=zRr z x e h1;obtain⟨q1,q2⟩:=zJc z l fs h2;rw[List.filter_cons,List.filter_cons,List.filter_cons,List.filter_cons,hk];cases hb:(x.id==z) with
  |true=>simp only[Bool.not_true,Bool.false_eq_true,if_false,if_true,List.length_cons];exact⟨q1,by omega⟩
  |false=>simp only[Bool.not_false,if_true,Bool.false_eq_true,if_false,List.map_cons,h1];exact⟨by rw[q1],q2⟩
theorem EsI.erase {es:Array MapEntry} {cf j:Nat} (h:EsI es cf):EsI (es.eraseIdxIfInBounds j) cf:=by
 have hs':(es.eraseIdxIfInBounds j).toList.Sublist es.toList:=by
  unfold Array.eraseIdxIfInBounds;split
  ·simp only[Array.toList_eraseIdx];exact List.eraseIdx_sublist _ _
  ·exact List.Sublist.refl _
 exact⟨fun e he=>h.ki e (hs'.subset he),fun e he=>h.bn e (hs'.subset he),List.Nodup.sublist (hs'.map _) h.nd⟩
theorem GF.dropped {base g:Nat} {W:World} {s:Gf} (h:GF base W g s)(f:Fl)(hf:f∈s.fs)(hN:(s.fs.filter (fun x=>x.id==f.id)).length≤1)(hes:EsI s.fe s.cf):
  ∃W' fe,(∀ty,(Builtin.delete_ #[86,3] ty #[.map (some s.gf),.int .i64 f.id]).run Tryz.prog W= .ok (.tuple #[]) W')∧But (fun b=>b=s.gf) W W'∧EsI fe s.cf∧GF base W' g (s.ended f.id fe):=by
 obtain⟨q1,q2⟩:=zJc f.id s.fe.toList s.fs h.fm
 have hex:∃j,s.fe.toList.findIdx? (zD4 f.id)=some j:=by
  cases hq:s.fe.toList.findIdx? (zD4 f.id) with
  |some j=>exact⟨j,rfl⟩
  |none=>
   rw[zDi]at hq;rw[hq]at q2;have:f∈s.fs.filter (fun x=>x.id==f.id):=List.mem_filter.2 ⟨hf,by simp⟩;have:=List.length_pos_of_mem this
   simp at q2
   omega
 obtain⟨j,hj⟩:=hex;obtain⟨v,hv⟩:=zJb f.id s.fe.toList 0 hes.ki j hj;rw[Nat.zero_add]at hv;obtain⟨W',hrun,hm,hb⟩:=del_flow h.fl f.id j v hv;have her:=zC0 (zD4 f.id) s.fe.toList j hj (by omega)
 have htl:(s.fe.eraseIdxIfInBounds j).toList=s.fe.toList.filter (fun e=> !zD4 f.id e):=by
  rw[←her]
  have hjl:j<s.fe.size:=by
   rw[List.findIdx?_eq_some_iff_getElem]at hj;obtain⟨h1,_⟩:=hj;simpa using h1
  unfold Array.eraseIdxIfInBounds;rw[dif_pos hjl];simp only[Array.toList_eraseIdx]
 refine⟨W',s.fe.eraseIdxIfInBounds j,hrun,hb,hes.erase,?_⟩;have hk:∀(b:Nat) (cur:Array Value) (t:TypeId) (fz:Nat × Nat),W.heap[b]? =some (.cells cur t fz)→W'.heap[b]? =some (.cells cur t fz):=fun b cur t fz hh=>(hb.block b (eS hh) (fun e=>by have e':b=s.gf:=e;have h2:=h.fl;rw[←e',hh]at h2;cases h2)).trans hh
 have ho:∀ {bs:Nat} {e:TypeId} {size:Nat} {v:Value} {n:Nat} {xs:List Value},W.ownsRow bs e size v n xs→W'.ownsRow bs e size v n xs:=fun h=>by
  obtain⟨q1,q2|⟨b,cap,cur',e',hb',hh,r⟩⟩:=h
  ·exact ⟨q1,.inl q2⟩
  ·exact ⟨q1,.inr ⟨b,cap,cur',e',hb',hk _ _ _ _ hh,r⟩⟩
 obtain⟨vs,t1,t2,t3,t4,t5⟩:=h.tb;refine⟨h.bs,hk _ _ _ _ h.gc,⟨h.rl.1,hk _ _ _ _ h.rl.2.1,ho h.rl.2.2⟩,⟨vs,t1,t2,hk _ _ _ _ t3,fun i hi=>ho (t4 i hi),t5⟩,⟨h.bl.1,hk _ _ _ _ h.bl.2.1,ho h.bl.2.2⟩,hm,?_,h.ne,h.bf,?_,h.pm,fun x hx=> ?_,fun p hp=>⟨(h.pb p hp).1,(h.pb p hp).2.1,hk _ _ _ _ (h.pb p hp).2.2⟩⟩
 ·exact (hb.block s.gp (eS h.pl) (fun e=>h.ne e.symm)).trans h.pl
 ·show (s.fe.eraseIdxIfInBounds j).toList.map (fun e=>(e.key,e.val))=(s.fs.filter (fun x=> !(x.id==f.id))).map flE
  rw[htl];exact q1
 ·have hx':=(List.mem_filter.1 hx).1
  exact⟨(h.fb x hx').1,hk _ _ _ _ (h.fb x hx').2⟩
theorem find_two(v1 v2:Value)(b1 b2:Nat)(w:World):(Instr.findKey 119 (.agg #[.int .u8 47,.int .u32 16909060]) [⟨.agg #[.int .u8 6,.int .u32 16909060],v1,b1⟩,⟨.agg #[.int .u8 47,.int .u32 16909060],v2,b2⟩]).run Tryz.prog w= .ok (some (1,v2)) w:=by kernel_rfl
theorem zNg {w:World} {b c b1 b2:Nat} (v1 v2:Value)(hb:w.heap[b]? =some (.map #[⟨.agg #[.int .u8 6,.int .u32 16909060],v1,b1⟩,⟨.agg #[.int .u8 47,.int .u32 16909060],v2,b2⟩] c)):(Instr.lookup 89 (.map (some b)) (.agg #[.int .u8 47,.int .u32 16909060]) false).run Tryz.prog w= .ok v2 w:=by
 simp[Instr.lookup,run_underlying Tryz.underlying89,MapKept.run_getObj_map hb,zIo,find_two,Result.andThen]
theorem pe_two {s:Gf} {base g:Nat} {W:World} (h:GF base W g s) {pa pb:Nat} {wa ws:Nat→Nat} (hp:s.ps=[⟨6,16909060,pa,wa⟩,⟨47,16909060,pb,ws⟩]):∃b1 b2,s.pe=#[⟨.agg #[.int .u8 6,.int .u32 16909060],.pointer (some ⟨pa,0,none⟩),b1⟩,⟨.agg #[.int .u8 47,.int .u32 16909060],.pointer (some ⟨pb,0,none⟩),b2⟩]:=by
 have hm:=h.pm;rw[hp]at hm
 obtain⟨e,e',hq⟩:∃e e',s.pe.toList=[e,e']:=by
  have hl:=congrArg List.length hm;rw[List.length_map]at hl;generalize s.pe.toList=L at hl;rcases L with _|⟨e,_|⟨e',_|⟨e3,L⟩⟩⟩
  ·simp at hl
  ·simp at hl
  ·exact ⟨e,e',rfl⟩
  ·simp at hl
 rw[hq]at hm;have h1:(e.key,e.val)=plE ⟨6,16909060,pa,wa⟩∧(e'.key,e'.val)=plE ⟨47,16909060,pb,ws⟩:=by simpa using hm
 have h2:e.key= .agg #[.int .u8 6,.int .u32 16909060]:=congrArg Prod.fst h1.1;have h3:e.val= .pointer (some ⟨pa,0,none⟩):=congrArg Prod.snd h1.1;have h5:e'.key= .agg #[.int .u8 47,.int .u32 16909060]:=congrArg Prod.fst h1.2;have h6:e'.val= .pointer (some ⟨pb,0,none⟩):=congrArg Prod.snd h1.2;refine⟨e.born,e'.born,?_⟩;have h4:s.pe=#[e,e']:=by rw[←Array.toArray_toList (xs:=s.pe),hq]
 rw[h4,←h2,←h3,←h5,←h6]
def old2 (s:Gf) (pa:Nat) (wa:Nat→Nat) (pb:Nat) (ws:Nat→Nat):Gf:= { s with ps:=[⟨6,16909060,pa,wa⟩,⟨47,16909060,pb,ws⟩] }
theorem GF.poolO2 {base g:Nat} {W W':World} {s:Gf} {pa pb:Nat} {wa ws ws':Nat→Nat} (h:GF base W g s)(hps:s.ps=[⟨6,16909060,pa,wa⟩,⟨47,16909060,pb,ws⟩])(hne:pa≠pb)(hb:But (fun x=>x=pb) W W')(hp:PB base W' pb (s.lo:Int) (s.hi:Int) ws'):GF base W' g (old2 s pa wa pb ws'):=by
 have hP:=h.pb ⟨47,16909060,pb,ws⟩ (by rw[hps];simp);have hE:=TE.one hP.2.2;obtain⟨k1,k2,k3,k4,k5,k6⟩:=h.keep hE hb (by decide);refine⟨h.bs,k1,k2,k3,k4,k5,k6,h.ne,h.bf,h.fm,?_,fun f hf=>⟨(h.fb f hf).1,hE.keep hb (h.fb f hf).2 (zAs (by decide) _ _)⟩,fun p hp'=> ?_⟩
 ·have:=h.pm
  rw[hps]at this;exact this
 ·have e:p=⟨6,16909060,pa,wa⟩∨p=⟨47,16909060,pb,ws'⟩:=by simpa[old2]using hp'
  rcases e with rfl|rfl
  ·have q:=h.pb ⟨6,16909060,pa,wa⟩ (by rw[hps];simp)
   exact⟨q.1,q.2.1,(hb.block pa (eS q.2.2) hne).trans q.2.2⟩
  ·exact hp
theorem zRs(base g:Nat)(s:Gf)(pa pb:Nat)(wa ws:Nat→Nat)(w:World)(h:GF base w g s)(hps:s.ps=[⟨6,16909060,pa,wa⟩,⟨47,16909060,pb,ws⟩]):
  Calls Tryz.prog 163 #[.pointer (some ⟨g,0,none⟩),.agg #[.int .u8 47,.int .u32 16909060]] w fun e w'=>e= .returned (.pointer (some ⟨pb,0,none⟩))∧Later w w':=by
 have l0:=zAe w (.cells #[.int .u8 47,.int .u32 16909060] 119);have C0:=zAc (heap_alloc_new w (.cells #[.int .u8 47,.int .u32 16909060] 119));have H1:=zAc (h.later l0);obtain⟨b1,b2,hpe⟩:=pe_two h hps;have HPE:=zAc hpe;clear h hps hpe;go_enter Tryz.func163,Tryz.ntmps163;go_upto_region 1 with fail;generalize w.alloc _=w1 at*;generalize hgx:w.heap.size=gx at C0⊢;refine zAk (R:=Later) 7 rfl (by kernel_rfl) ?_;have ld:Later w1 w1.drew:=Later.drew w1;generalize w1.drew=w2 at*;have L2:Later w w2:=Later.trans l0 ld;have H2:=zAc (H1.out.later ld);have C2:=zAc (zAb ld C0.out);clear H1 C0 l0 ld;have q0:∀v,Later w2 v→∀j,v.cell? ⟨gx,j,none⟩=#[.int .u8 47,.int .u32 16909060][j]? :=fun v hv=>zAa (zAb hv C2.out);have q1:∀v,Later w2 v→∀j,v.cell? ⟨g,j,none⟩=(gfc s).toArray[j]? :=fun v hv=>zAa (zAb hv H2.out.gc);unfold gfc at q1;have q2:∀v,Later w2 v→(Instr.lookup 89 (.map (some s.gp)) (.agg #[.int .u8 47,.int .u32 16909060]) false).run Tryz.prog v= .ok (.pointer (some ⟨pb,0,none⟩)) v:=fun v hv=>zNg (.pointer (some ⟨pa,0,none⟩)) _ (by rw[←HPE.out];exact zAb hv H2.out.pl);refine tX Later.pre 0 ?_;refine tX Later.pre 1 ?_;refine tX Later.pre 2 ?_;refine tX Later.pre 3 ?_;refine tX Later.pre 4 ?_;refine tX Later.pre 5 ?_;refine tX Later.pre 6 ?_;clear q0 q1 q2;refine tD ?_;go_wp2_with fail;go_ret
 exact⟨rfl,L2⟩
theorem give_two(base g:Nat)(s:Gf)(pa pb:Nat)(wa ws:Nat→Nat)(n hb:Nat)(w:World)(h:GF base w g s)(hps:s.ps=[⟨6,16909060,pa,wa⟩,⟨47,16909060,pb,ws⟩])(hne:pa≠pb)(hn:n<65536)(hh:hsP s.lo s.hi ws n=true)(hv:w.heap[hb]? =some (.cells #[.int .u8 47,.int .u32 16909060,.int .u16 (n:Int)] 230 (0,0))):
  Calls Tryz.prog 106 #[.pointer (some ⟨g,0,none⟩),.slice (some ⟨hb,0,none⟩) 1 1] w fun e w'=>e= .returned (.tuple #[])∧But (fun b=>b=pb) w w'∧GF base w' g (old2 s pa wa pb (wsA ws n)):=by
 have hpbl:pb<w.heap.size:=(h.pb ⟨47,16909060,pb,ws⟩ (by rw[hps];simp)).lt;have HV:=zAc hv;have HPL:=zAc (fun W (l:Later w W)=>zRs base g s pa pb wa ws W (h.later l) hps);have HGV:=zAc (fun W (l:Later w W)=>give_yes base pb s.lo s.hi ws n W ((h.pb ⟨47,16909060,pb,ws⟩ (by rw[hps];simp)).later l) hn hh);have HPO:=zAc (fun W W' (l:Later w W) (hb:But (fun b=>b=pb) W W') (hp:PB base W' pb (s.lo:Int) (s.hi:Int) (wsA ws n))=>(h.later l).poolO2 hps hne hb hp);clear h hps hne hn hh hv;go_enter Tryz.func106,Tryz.ntmps106;go_upto_region 1 with fail;go_loopw [8] (fun iv wr=>(iv= .int .i64 0∧wr=w)∨(iv= .int .i64 1∧But (fun b=>b=pb) w wr∧GF base wr g (old2 s pa wa pb (wsA ws n)))) (fun iv _=>1-(intOf iv).toNat)
 case atStart=>exact .inl ⟨rfl,rfl⟩
 case round=>
  rcases hrel with⟨rfl,hw⟩|⟨rfl,hM,hG⟩
  ·subst hw
   have k0:=zAa HV.out;have la:=zAe wr (.cells #[.int .u8 47,.int .u32 16909060,.int .u16 (n:Int)] 230);have C1:=zAc (heap_alloc_new wr (.cells #[.int .u8 47,.int .u32 16909060,.int .u16 (n:Int)] 230));have LA:=zAc la;clear la;go_upto_region 3 with fail;generalize wr.alloc _=w1 at*;generalize hgx:wr.heap.size=gx at C1⊢;clear k0;refine zAk (R:=But (fun b=>b=pb)) 7 rfl (by kernel_rfl) ?_;have ld:Later w1 w1.drew:=Later.drew w1;generalize w1.drew=w2 at*;have L2:=zAc (LA.out.trans ld);have C2:=zAc (zAb ld C1.out);have hgp:gx≠pb:=by omega
   have q1:∀v,But (fun b=>b=pb) w2 v→∀j,v.cell? ⟨gx,j,none⟩=#[.int .u8 47,.int .u32 16909060,.int .u16 (n:Int)][j]? :=fun v hv=>zAa ((hv.block gx (eS C2.out) (fun e=>hgp e)).trans C2.out);refine tX (But.pre (fun b=>b=pb)) 0 ?_;refine tX (But.pre (fun b=>b=pb)) 1 ?_;refine tX (But.pre (fun b=>b=pb)) 2 ?_;refine tX (But.pre (fun b=>b=pb)) 4 ?_;refine tX (But.pre (fun b=>b=pb)) 5 ?_;clear q1;refine tO 3 ?_;refine zAi 163 #[.pointer (some ⟨g,0,none⟩),.agg #[.int .u8 47,.int .u32 16909060]] (by go_simp) ?_;refine(HPL.out w2 L2.out).mono ?_;rintro e w3 ⟨rfl,l3⟩;have l3':Later w2 w3:=l3;refine⟨But.of l3',?_⟩;simp only[Act.put,sA,sB,sC];refine tO 6 ?_;refine zAi 164 #[.pointer (some ⟨pb,0,none⟩),.int .u16 (n:Int)] (by go_simp) ?_;refine(HGV.out w3 (L2.out.trans l3')).mono ?_;rintro e w4 ⟨rfl,hP4,hb4⟩;refine⟨hb4,?_⟩;simp only[Act.put,sA,sB,sC];refine tD ?_;have HREL:Hid ((Value.int .i64 ((0:Int)+1)= .int .i64 0∧w4=wr)∨(Value.int .i64 ((0:Int)+1)= .int .i64 1∧But (fun b=>b=pb) wr w4∧GF base w4 g (old2 s pa wa pb (wsA ws n)))):= .inr ⟨rfl,(But.of (L2.out.trans l3')).trans hb4,HPO.out w3 w4 (L2.out.trans l3') hb4 hP4⟩;clear hb4 hP4;go_wp2_with fail;go_roundw
   case rel=>exact HREL.out
   case measure=>decide
  ·go_wp2_with fail
   go_end0
   exact⟨rfl,hM,hG⟩
theorem zRt(base g:Nat)(s:Gf)(pa pb:Nat)(wa ws:Nat→Nat)(w:World)(h:GF base w g s)(hps:s.ps=[⟨6,16909060,pa,wa⟩,⟨47,16909060,pb,ws⟩])(hlh:s.lo≤s.hi)(hh:s.hi<65536)(hall:∀n,s.lo≤n→n≤s.hi→fr ws n=true):Calls Tryz.prog 16 #[.pointer (some ⟨g,0,none⟩),.int .u8 47,.int .u32 16909060] w fun e w'=>e= .returned (.slice none 0 0)∧Later w w':=by
 have k0:=zAa h.gc;unfold gfc at k0;obtain⟨b1,b2,hpe⟩:=pe_two h hps;have hlk:=zNg (.pointer (some ⟨pa,0,none⟩)) (.pointer (some ⟨pb,0,none⟩)) (by rw[←hpe];exact h.pl);have HU:=zAc (zQr base pb s.lo s.hi ws hlh hh w (h.pb ⟨47,16909060,pb,ws⟩ (by rw[hps];simp)) hall);clear h hps hpe hlh hh hall;go_enter Tryz.func16,Tryz.ntmps16;go_wp2_with fail;refine HU.out.mono ?_;rintro e w2 ⟨rfl,l2⟩;go_wp2_with fail;go_ret
 exact⟨rfl,l2⟩
theorem KG.ownP {base k:Nat} {a b c:World} (h:KG base a b)(hb:But (fun q=>q=k) b c)(hk:a.heap.size≤k):KG base a c:=⟨hb.os.trans h.os,hb.tape.trans h.tape,hb.output.trans h.output,Nat.le_trans h.size hb.size,fun i o h1 h2=>by
 have hi:=(eS h1);exact(hb.block i (Nat.lt_of_lt_of_le hi h.size) (fun e=>by have e':i=k:=e;omega)).trans (h.block i o h1 h2)⟩
theorem GrQ.aside {base g:Nat} {s:Gf} {c d m:Int} {w A B:World} (h:GrQ base g s c d m w A) {k:Nat} {cur:Array Value} {t:TypeId} {fz:Nat × Nat} (hk:A.heap[k]? =some (.cells cur t fz))(ht:t=40∨t=32)(hB:But (fun q=>q=k) A B)(hw:w.heap.size≤k):GrQ base g s c d m w B:=by
 obtain⟨f2,h1,h2,e1,e2,e3,e4,e5,e6,e7,h3⟩:=h;exact⟨f2,h1,h2.ownP hB hw,e1,e2,e3,e4,e5,e6,e7,h3.other (TE.one hk) hB (by rcases ht with rfl|rfl<;>decide)⟩
theorem chg_rep {base n1:Nat} {src0 dst0 sp dp sq ak fl:Int} {zm z:List Int} (hT0:TG src0 dst0 sp dp sq ak fl zm z)(q:Tu)(hq:TuB q)(hl:zm.length≤500)(hBm:Mt.By zm)(hsq:0≤sq∧sq≤4294967295)(hak:0≤ak∧ak≤4294967295)(hfl:0≤fl∧fl≤255)(g hb:Nat)(c d m:Int)(hok:lye zm=0)(h7:pmT zm=8)(hcc:zAl zm (lyC zm)=d)(hpp:zAl zm (lyP zm)=m)(hrr:pmR zm=1)(s:Gf)(f:Fl)(hlp:(zAq zm (lyP zm) c).length=zm.length)(hBp:Mt.By (zAq zm (lyP zm) c))(W:World)(src dst:Int)(so sd:Value)(bk:Bool)(t0 t1 t2 t3 t4 i0 i1 i2 i3 i4:Int)(ao ad:Option Addr)(co cd:Nat)(h:GF base W g s)(hes:EsI s.fe s.cf)(hsz:s.fs.length≤12)(hu:IdE s)(hf:f∈s.fs)(hms:∀x∈s.fs,(x.ms==f.id)=false)(hid:f.id=0)(ho:f.o.src=167772162∧f.o.dst=134744072)(hr:f.r.dst=16909060)(hc:0≤c∧c≤65535)(hd:0≤d∧d≤65535)(hm:0≤m∧m≤65535)(hk1:kxT (oG c d) s.rw=none)(hk2:kxT (rG d m) s.rw=none)(htr:0≤s.trn∧s.trn≤900000)(hnw:0≤s.now∧s.now≤549755813888)(hbg:0≤s.bg∧s.bg≤1000000)(hidb:∀x∈s.fs,x.id≠s.bg)(hcn:0≤s.cnt∧s.cnt≤1000)(hln:∀i,(s.rw i).length≤4000)(hH:HpD base W hb c m)(hn:base≤n1∧n1≤W.heap.size)(hO:Ow n1 W (.slice ao 0 co) [])(hD:Ow n1 W (.slice ad z.length cd) (rwD 6 q.dst q.src q.dp q.sp z)):
  Calls Tryz.prog 399 #[.pointer (some ⟨hb,0,none⟩),.agg #[.pointer (some ⟨g,0,none⟩),.int .u8 0,.int .u16 0,.bool false,.int .u8 64,.int .u8 6,.int .u32 src,.int .u32 dst,so,sd,.int .i64 1,.pointer (some ⟨f.blk,0,none⟩),.bool bk,.int .u8 t0,.int .u32 t1,.int .u32 t2,.int .u16 t3,.int .u16 t4,.int .u8 i0,.int .u32 i1,.int .u32 i2,.int .u16 i3,.int .u16 i4],.agg #[.int .u8 0,.int .u16 0,.bool false,.int .u8 64,.int .u8 6,.int .u32 q.dst,.int .u32 q.src,.slice ao 0 co,.slice ad z.length cd]] W fun e w'=>∃a7 c7 a8 c8 z2,e= .returned (.agg #[.int .u8 0,.int .u16 0,.bool false,.int .u8 64,.int .u8 6,.int .u32 q.dst,.int .u32 q.src,.slice a7 0 c7,.slice a8 z2.length c8])∧GrQ base g s c d m W w'∧TG q.dst q.src q.dp q.sp sq ak fl (zAq zm (lyP zm) c) z2∧Ow n1 w' (.slice a7 0 c7) []∧Ow n1 w' (.slice a8 z2.length c8) z2:=by
 have hT:=zCc (s:=q.dst) (d:=q.src) (a:=q.dp) (b:=q.sp) hT0 hq.2.1 hq.1 hq.2.2.2 hq.2.2.1;generalize hzt:rwD 6 q.dst q.src q.dp q.sp z=zt at*;have hzl:zt.length=z.length:=by rw[←hzt];exact zBl _ _ _ _ _
 rw[←hzl]at hD⊢;clear hzt hzl hT0;obtain⟨l0,c0,c1,c2⟩:=zH8 W (.cells #[.pointer (some ⟨g,0,none⟩),.int .u8 0,.int .u16 0,.bool false,.int .u8 64,.int .u8 6,.int .u32 src,.int .u32 dst,so,sd,.int .i64 1,.pointer (some ⟨f.blk,0,none⟩),.bool bk,.int .u8 t0,.int .u32 t1,.int .u32 t2,.int .u16 t3,.int .u16 t4,.int .u8 i0,.int .u32 i1,.int .u32 i2,.int .u16 i3,.int .u16 i4] 242) (.cells #[.int .u8 0,.int .u16 0,.bool false,.int .u8 64,.int .u8 6,.int .u32 q.dst,.int .u32 q.src,.slice ao 0 co,.slice ad zt.length cd] 40) (.cells #[.int .u8 0,.int .u16 0,.bool false,.int .u8 0,.int .u8 0,.int .u32 0,.int .u32 0,.slice none 0 0,.slice none 0 0] 40);have C0:=zAc c0;have C1:=zAc c1;have C2:=zAc c2;have HP:=zAc (fun V (l:Later W V)=>zEi hT 0 0 64 false (.slice ao 0 co) (.slice ad zt.length cd) V ((hD.kg (KG.of_later (base:=base) l)).rd) hl hq.2.1 hq.1);have HF:=zAc (fun V (l:Later W V) (da:Option Addr) (dc:Nat) (n0:Nat) (h0:base≤n0∧n0≤V.heap.size) (hI:Ow n0 V (.slice da zm.length dc) zm)=>zLr base g s f hb c d m src dst so sd 1 bk t0 t1 t2 t3 t4 i0 i1 i2 i3 i4 da dc zm V (h.later l) hes hsz hu hf hms hid ho hr (Nat.le_trans hn.1 (Nat.le_trans hn.2 l.size)) hc hd hm hk1 hk2 htr hnw hbg hidb hcn hln (hH.later l) hBm hl n0 h0 hI);have HOK:=zAc hok;have H7:=zAc h7;have HCC:=zAc hcc;have HPP:=zAc hpp;have HRQ:=zAc hrr;have OO:=zAc hO;have ZZ:=zAc hD;clear c0 c1 c2 hD h hes hsz hu hf hms hid ho hr hk1 hk2 hidb hln hH hok h7 hcc hpp hrr hO
 go_enter Tryz.func399,Tryz.ntmps399;go_upto_region 1 with fail;generalize hw1:World.alloc _ _=w1 at*;clear hw1;generalize hgx:W.heap.size=g0 at C0 C1 C2⊢;have k1:=zAa C1.out;go_wp2_with fail;refine(HP.out w1 l0).mono ?_;rintro e w2 ⟨l2,aO,cO,am,cm,rfl,hD2,hRO⟩;have HRO:=zAc hRO;clear hRO;have l2':Later w1 w2:=l2;have la:=zAe w2 (.cells #[.int .u16 q.dp,.int .u16 q.sp,.int .u32 sq,.int .u32 ak,.int .u8 fl,.int .u16 0,.int .u16 0,.slice aO 0 cO,.slice am zm.length cm] 32);have E3:=zAc (heap_alloc_new w2 (.cells #[.int .u16 q.dp,.int .u16 q.sp,.int .u32 sq,.int .u32 ak,.int .u8 fl,.int .u16 0,.int .u16 0,.slice aO 0 cO,.slice am zm.length cm] 32));have L3:Later W (w2.alloc (.cells #[.int .u16 q.dp,.int .u16 q.sp,.int .u32 sq,.int .u32 ak,.int .u8 fl,.int .u16 0,.int .u16 0,.slice aO 0 cO,.slice am zm.length cm] 32)):=l0.trans (l2'.trans la);have E0:=zAc (zAb (l2'.trans la) C0.out);have E1:=zAc (zAb (l2'.trans la) C1.out);have E2:=zAc (zAb (l2'.trans la) C2.out);have D3:=zAc (hD2.later la);have hs1:W.heap.size≤w1.heap.size:=l0.size;clear k1 HP C0 C1 C2 l2 la hD2;go_upto_region 2 with fail;change Code.wp _ _ _ _ (w2.alloc (.cells #[.int .u16 q.dp,.int .u16 q.sp,.int .u32 sq,.int .u32 ak,.int .u8 fl,.int .u16 0,.int .u16 0,.slice aO 0 cO,.slice am zm.length cm] 32));generalize w2.alloc (.cells #[.int .u16 q.dp,.int .u16 q.sp,.int .u32 sq,.int .u32 ak,.int .u8 fl,.int .u16 0,.int .u16 0,.slice aO 0 cO,.slice am zm.length cm] 32)=w3 at*
 generalize hg3:w2.heap.size=g3 at*
 have hg3w:w1.heap.size≤g3:=by
  have h2:=l2'.size;omega
 have hs3:w1.heap.size≤w3.heap.size:=by
  have:=(eS E3.out);have h2:=l2'.size;omega
 have kn:=zAa E3.out;have HQ:=zAc (zBu (.slice am zm.length cm) zm hBm w3 (Nat.le_refl _) (D3.out.rd));go_wp2_with fail;refine HQ.out.mono ?_;rintro e w4 ⟨rfl,l4⟩;unfold msg;rw[HOK.out,H7.out,HCC.out,HPP.out,HRQ.out];have lm:=zAe w4 (.cells #[.int .i64 8,.int .u16 d,.int .u16 m,.int .u8 1] 52);have F4:=zAc (heap_alloc_new w4 (.cells #[.int .i64 8,.int .u16 d,.int .u16 m,.int .u8 1] 52));have L5:=L3.trans (l4.trans lm);have F0:=zAc (zAb (l4.trans lm) E0.out);have F1:=zAc (zAb (l4.trans lm) E1.out);have F2:=zAc (zAb (l4.trans lm) E2.out);have F3:=zAc (zAb (l4.trans lm) E3.out);have D5:=zAc (D3.out.later (l4.trans lm));clear kn HQ E0 E1 E2 E3 D3 l4 lm HOK H7 HCC HPP HRQ;go_upto_region 3 with fail;change Code.wp _ _ _ _ (w4.alloc (.cells #[.int .i64 8,.int .u16 d,.int .u16 m,.int .u8 1] 52));generalize w4.alloc (.cells #[.int .i64 8,.int .u16 d,.int .u16 m,.int .u8 1] 52)=w5 at*;generalize hg4:w4.heap.size=g4 at*;have k3:=zAa F3.out;go_upto_region 5 with fail;go_upto_region 6 with fail;have ln:=zAe w5 (.cells #[.int .u16 q.dp,.int .u16 q.sp,.int .u32 sq,.int .u32 ak,.int .u8 fl,.int .u16 0,.int .u16 0,.slice aO 0 cO,.slice am zm.length cm] 32);have N5:=zAc (heap_alloc_new w5 (.cells #[.int .u16 q.dp,.int .u16 q.sp,.int .u32 sq,.int .u32 ak,.int .u8 fl,.int .u16 0,.int .u16 0,.slice aO 0 cO,.slice am zm.length cm] 32));have L6:=L5.trans ln;have J0:=zAc (zAb ln F0.out)
 have J1:=zAc (zAb ln F1.out);have J2:=zAc (zAb ln F2.out);have J3:=zAc (zAb ln F3.out);have J4:=zAc (zAb ln F4.out);have D6:=zAc (D5.out.later ln);have hgA:g0+1+1<w5.heap.size:=(eS F2.out);have hgB:g3<w5.heap.size:=(eS F3.out);clear k3 F0 F1 F2 F3 F4 D5 ln;change Code.wp _ _ _ _ (w5.alloc (.cells #[.int .u16 q.dp,.int .u16 q.sp,.int .u32 sq,.int .u32 ak,.int .u8 fl,.int .u16 0,.int .u16 0,.slice aO 0 cO,.slice am zm.length cm] 32));generalize w5.alloc (.cells #[.int .u16 q.dp,.int .u16 q.sp,.int .u32 sq,.int .u32 ak,.int .u8 fl,.int .u16 0,.int .u16 0,.slice aO 0 cO,.slice am zm.length cm] 32)=w6 at*;generalize hg5:w5.heap.size=g5 at*
 have hg5W:W.heap.size≤g5:=by
  have:=L5.size;omega
 have HRG:=zAc (zAw (xs:=[.pointer (some ⟨g,0,none⟩),.int .u8 0,.int .u16 0,.bool false,.int .u8 64,.int .u8 6,.int .u32 src,.int .u32 dst,so,sd,.int .i64 1,.pointer (some ⟨f.blk,0,none⟩),.bool bk,.int .u8 t0,.int .u32 t1,.int .u32 t2,.int .u16 t3,.int .u16 t4,.int .u8 i0,.int .u32 i1,.int .u32 i2,.int .u16 i3,.int .u16 i4]) J0.out);go_wp2_with (refine wpList_load_mid rfl 242 (.tmp 4) rfl g0 0 rfl _ _ HRG.out Tryz.underlying242 rfl zBs ?_)
 refine(zEh #[] w6 g 0 0 64 src dst false so sd 1 (.inr rfl) f.blk bk t0 t1 t2 t3 t4 i0 i1 i2 i3 i4).mono ?_;rintro e w7 ⟨rfl,l7⟩;have l7':Later w6 w7:=l7;have L7:=L6.trans l7';have P0:=zAc (zAb l7' J0.out);have P1:=zAc (zAb l7' J1.out);have P2:=zAc (zAb l7' J2.out);have P3:=zAc (zAb l7' J3.out);have P4:=zAc (zAb l7' J4.out);have P5:=zAc (zAb l7' N5.out);have D7:=zAc (D6.out.later l7');clear J0 J1 J2 J3 J4 N5 D6 l7 l7' HRG;have HRG:=zAc (zAw (xs:=[.pointer (some ⟨g,0,none⟩),.int .u8 0,.int .u16 0,.bool false,.int .u8 64,.int .u8 6,.int .u32 src,.int .u32 dst,so,sd,.int .i64 1,.pointer (some ⟨f.blk,0,none⟩),.bool bk,.int .u8 t0,.int .u32 t1,.int .u32 t2,.int .u16 t3,.int .u16 t4,.int .u8 i0,.int .u32 i1,.int .u32 i2,.int .u16 i3,.int .u16 i4]) P0.out);have k3:=zAa P3.out;have k4:=zAa P4.out
 have hs7:w1.heap.size≤w7.heap.size:=by
  have h1:=(eS P3.out);omega
 have HFC:=zAc (HF.out w7 L7 am cm w1.heap.size ⟨by omega,hs7⟩ D7.out);clear HF;go_upto_region 8 with fail;go_wp2_with (refine wpList_load_mid rfl 242 (.tmp 4) rfl g0 0 rfl _ _ HRG.out Tryz.underlying242 rfl zBs ?_)
 refine HFC.out.mono ?_;rintro e w8 ⟨hCG,a9,rfl,hO8⟩;have K8:Kgl base w7 w8:=Kgl.of_kg hCG.kg;have hs8:w7.heap.size≤w8.heap.size:=K8.size;have CG8:=zAc (hCG.from L7);have Q1:=zAc (K8.cells P1.out (by decide));have Q2:=zAc (K8.cells P2.out (by decide));have Q3:=zAc (K8.cells P3.out (by decide));have Q5:=zAc (K8.cells P5.out (by decide));have D8:=zAc (Kgl.ow8 D7.out K8);have O8:=zAc (Kgl.ow8 (OO.out.kg (KG.of_later (base:=base) L7)) K8);have Z8:=zAc (Kgl.ow8 (ZZ.out.kg (KG.of_later (base:=base) L7)) K8);have OM:=zAc hO8;clear k3 k4 HFC HRG P0 P1 P2 P3 P4 P5 D7 OO hCG hO8 K8;have k5:=zAa Q5.out;have f5:=zAd Q5.out;go_upto_region 9 with fail;clear k5 f5;have hb9:But (fun q=>q=g5) w8 (w8.setCell ⟨g5,8,none⟩ (.slice a9 zm.length zm.length)):=(But.refl (fun q=>q=g5) _).setCell (p:=⟨g5,8,none⟩) (show _=_ from rfl) _;have R5:=zAc (zAh Q5.out 8 (.slice a9 zm.length zm.length));have CG9:=zAc (CG8.out.aside Q5.out (.inr rfl) hb9 hg5W);have hg5n:∀ {k:Nat} {o:Obj},w8.heap[k]? =some o→k≠g5→(w8.setCell ⟨g5,8,none⟩ (.slice a9 zm.length zm.length)).heap[k]? =some o:=fun hk hne=>(hb9.block _ (eS hk) hne).trans hk;have R1:=zAc (hg5n Q1.out (by omega));have R2:=zAc (hg5n Q2.out (by omega));have R3:=zAc (hg5n Q3.out (by omega));have D9:=zAc (D8.out.aside Q5.out (by decide) hb9);have O9:=zAc (O8.out.aside Q5.out (by decide) hb9);have Z9:=zAc (Z8.out.aside Q5.out (by decide) hb9);have M9:=zAc (OM.out.aside Q5.out (by decide) hb9)
 clear hg5n hb9 Q1 Q2 Q3 Q5 D8 O8 OM CG8;generalize w8.setCell ⟨g5,8,none⟩ _=w9 at*;have k1:=zAa R1.out;have k3:=zAa R3.out;have k5:=zAa R5.out
 have hsz9:W.heap.size≤w9.heap.size:=by
  have h1:=(eS R5.out);omega
 have HWS:=zAc (zHs n1 q.dst q.src q.dp q.sp sq ak fl zm (zAq zm (lyP zm) c) zt ao ad aO co cd cO am a9 cm zm.length w9 (by omega) hq.2.1 hq.1 hq.2.2.2 hq.2.2.1 hsq hak hfl hBm hBp hl hlp hT O9.out Z9.out (HRO.out _ _) (D9.out.rd) M9.out.rd);generalize hz2:zAq zm (lyP zm) c=zm2 at*;have HZ2:=zAc hz2;clear hz2;go_wp2_with fail;refine HWS.out.mono ?_;rintro e w10 ⟨l10,a7,c7,a8,c8,z2,rfl,hT2,hO2,hD2⟩;have T2:=zAc (zAb l10 R2.out);have CG10:=zAc (CG9.out.later l10);have HT2:=zAc hT2;have HO2:=zAc hO2;have HD2:=zAc hD2;clear k1 k3 k5 HWS R1 R2 R3 R5 D9 O9 M9 CG9 l10 hT2 hO2 hD2;have k2:=zAa T2.out;have f2:=zAd T2.out;go_wp2_with fail;generalize hV:World.setCell _ ⟨_,8,none⟩ _=V8;have hV9:V8=zAj w10 (g0+1+1) 0 [.int .u8 0,.int .u16 0,.bool false,.int .u8 64,.int .u8 6,.int .u32 q.dst,.int .u32 q.src,.slice a7 0 c7,.slice a8 z2.length c8]:=hV.symm;have hb8:But (fun b=>b=g0+1+1) w10 V8:=by rw[hV9];exact zAf (E:=fun b=>b=g0+1+1) (n:=g0+1+1) rfl _ _ _ _ (But.refl _ _)
 have p8:=zAg [.int .u8 0,.int .u16 0,.bool false,.int .u8 64,.int .u8 6,.int .u32 q.dst,.int .u32 q.src,.slice a7 0 c7,.slice a8 z2.length c8] T2.out rfl;rw[←hV9]at p8;clear hV hV9 k2 f2;have P8:=zAa p8;have CG11:=CG10.out.aside T2.out (.inl rfl) hb8 (by omega);exact bodyPost_ret (v:= .agg #[.int .u8 0,.int .u16 0,.bool false,.int .u8 64,.int .u8 6,.int .u32 q.dst,.int .u32 q.src,.slice a7 0 c7,.slice a8 z2.length c8]) (by simp[results,Tryz.results399,go_sem,P8]) rfl ⟨a7,c7,a8,c8,z2,rfl,CG11,by rw[HZ2.out];exact HT2.out,HO2.out.asideF T2.out (by decide) hb8,HD2.out.asideF T2.out (by decide) hb8⟩
theorem S2.fs {s:Gf} {f:Fl} {nn:Nat} {st:Int} {ws ws2:Nat→Nat} (h:S2 s f nn st ws ws2):s.fs=[f]:=by
 obtain⟨pb,b,h1,h2,hpn⟩:=h;exact h2.fs
theorem oG_ne(c d m:Int):¬tuA (rG d m) (oG c d):=fun e=>by
 have:(134744072:Int)=167772162:=e.2.1;omega
theorem oG_oP(c d:Int):¬tuA (oG c d) oP:=fun e=>by
 have:(47:Int)=6:=e.1;omega
theorem oG_rP(c d nn:Int):¬tuA (oG c d) (rP nn):=fun e=>by
 have:(47:Int)=6:=e.1;omega
theorem rG_oP(d m:Int):¬tuA (rG d m) oP:=fun e=>by
 have:(47:Int)=6:=e.1;omega
theorem rG_rP(d m nn:Int):¬tuA (rG d m) (rP nn):=fun e=>by
 have:(47:Int)=6:=e.1;omega
theorem ks2_oG(nn c d:Int):∀p∈ [(oP,(0:Int)),(rP nn,0)],¬tuA (oG c d) p.1:=fun p hp=>by
 have:p=(oP,0)∨p=(rP nn,0):=by simpa using hp
 rcases this with rfl|rfl
 ·exact oG_oP c d
 ·exact oG_rP c d nn
theorem ks2_rG(nn d m:Int):∀p∈ [(oP,(0:Int)),(rP nn,0)],¬tuA (rG d m) p.1:=fun p hp=>by
 have:p=(oP,0)∨p=(rP nn,0):=by simpa using hp
 rcases this with rfl|rfl
 ·exact rG_oP d m
 ·exact rG_rP d m nn
theorem S2.no {s:Gf} {f:Fl} {nn:Nat} {st:Int} {ws ws2:Nat→Nat} (h:S2 s f nn st ws ws2)(c d m:Int):kxT (oG c d) s.rw=none∧kxT (rG d m) s.rw=none:=by
 obtain⟨pb,b,h1,h2,hpn⟩:=h;obtain⟨t,n1,n2,e,h9⟩:=h2.rw;have e':s.rw=_:=e;have hR:=RwsI.two (nn:Int) t n1 n2 h9;rw[e'];exact⟨(zEw _ _).2 (hR.none _ (ks2_oG _ _ _)),(zEw _ _).2 (hR.none _ (ks2_rG _ _ _))⟩
theorem S3.made {s:Gf} {f:Fl} {nn:Nat} {c d m:Int} {ws ws2:Nat→Nat} (h:S2 s f nn 3 ws ws2) {f2:Fl} (hid:f2.id=s.bg)(ho:f2.o=oG c d)(hr:f2.r=rG d m)(hsd:f2.side=0)(hms:f2.ms=0)(hv:f2.hv= .slice none 0 0)(hp:f2.hp=noh)(hbl:f.blk≠f2.blk)(ht:s.trn≤96):S3 (bcS (opS s f2) f2 8) f (f2.at 8 (s.now+tm 47 8)) nn c d m 3 8 ws ws2∧(bcS (opS s f2) f2 8).trn=s.trn+1+1+1+1:=by
 obtain⟨pb,b,hps,h1,hpn⟩:=h;obtain⟨t,n1,n2,e,h9⟩:=h1.rw;have e':s.rw=rwL (rw2 oP (rP nn) 0 t n1 n2):=e;have hn:0≤s.now∧s.now≤9:=h1.now;have hcn:s.cnt=2:=h1.cnt;have hbg:s.bg=1:=h1.bg;have hfs:s.fs=[f]:=h1.fs;have ht0:0≤s.trn∧s.trn≤100:=h1.trn;have hi:f2.id=1:=hid.trans hbg;have htm:=zRj 47 8 (.inr ⟨rfl,.inl rfl⟩);have hbd:=zQy 47 8;have hpr:f2.o.pr=47:=by rw[ho];rfl
 obtain⟨L1,q1,L2,q2,hL2,_⟩:=(RwsI.two (nn:Int) t n1 n2 h9).put (oG c d) (rG d m) 1 s.now (s.now+tm 47 8) 2 s.trn (by unfold zDe;rw[decide_eq_true_eq];omega) (by omega) (by omega) (ks2_oG _ _ _) (ks2_rG _ _ _) (oG_ne c d m) (by simp[rw2]) (by unfold zDe;rw[decide_eq_true_eq];omega)
 have hop:opM s f2=(2+1+1,s.trn+1+1,rwL L1):=by
  unfold opM;rw[hcn,e',ho,hr,hi];exact q1
 have hbc:bcM (opS s f2) f2 (s.now+tm f2.o.pr 8)=(s.trn+1+1+1+1,rwL L2):=by
  unfold bcM opS;simp only[hop];rw[hpr,ho,hr];exact q2
 have hnow:(opS s f2).now=s.now:=rfl;refine⟨⟨?_,⟨L2,by show(bcM (opS s f2) f2 (s.now+tm f2.o.pr 8)).2=_;rw[hbc],hL2⟩,h1.id,h1.o,h1.r,h1.sd,h1.ms,h1.st,hi,ho,hr,hsd,hms,rfl,hv,hp,hbl,h1.ex,by show(opM s f2).1=4;rw[hop];rfl,by show 0≤(bcM (opS s f2) f2 (s.now+tm f2.o.pr 8)).1∧(bcM (opS s f2) f2 (s.now+tm f2.o.pr 8)).1≤100;rw[hbc];show 0≤s.trn+1+1+1+1∧s.trn+1+1+1+1≤100;omega,h1.lo,h1.hi,hn,⟨pb,b,hps,hpn⟩,h1.n9,EsI.pushP h1.es _ _⟩,by show(bcM (opS s f2) f2 (s.now+tm f2.o.pr 8)).1=_;rw[hbc]⟩;show(s.fs++[f2]).map (fun x=>if x.blk=f2.blk then f2.at 8 (s.now+tm f2.o.pr 8)else x)=_
 rw[hfs,hpr];simp[hbl]
structure V3 (base g:Nat) (W:World) (f f2:Fl) (hb nn c:Nat) (d st2:Int) (ws:Nat→Nat) (now tr:Int):Prop where
 gf:∃s,GF base W g s∧S3 s f f2 nn (c:Int) d ((tkn 1000 1063 c:Nat):Int) 3 st2 ws (zJa c)∧s.now=now∧s.trn=tr
 hp:f.hp=hpt hb
 hc:HpD base W hb (c:Int) ((tkn 1000 1063 c:Nat):Int)
 hv:HvT base W f.hv (nn:Int) ((tkn 1000 1063 c:Nat):Int)
 nb:base≤hb
theorem V3.later {base g:Nat} {A B:World} {f f2:Fl} {hb nn c:Nat} {d st2:Int} {ws:Nat→Nat} {now tr:Int} (h:V3 base g A f f2 hb nn c d st2 ws now tr)(l:Later A B):V3 base g B f f2 hb nn c d st2 ws now tr:=by
 obtain⟨s,h1,h2⟩:=h.gf;exact⟨⟨s,h1.later l,h2⟩,h.hp,h.hc.later l,zA4 h.hv l,h.nb⟩
theorem V3.aside {base g:Nat} {A B:World} {f f2:Fl} {hb nn c:Nat} {d st2:Int} {ws:Nat→Nat} {now tr:Int} (h:V3 base g A f f2 hb nn c d st2 ws now tr) {mb:Nat} {cur:Array Value} {t:TypeId} {fz:Nat × Nat} (hm:A.heap[mb]? =some (.cells cur t fz))(ht:t=40∨t=36)(hB:But (fun q=>q=mb) A B):V3 base g B f f2 hb nn c d st2 ws now tr:=by
 obtain⟨s,h1,h2⟩:=h.gf;exact⟨⟨s,h1.other (TE.one hm) hB (by rcases ht with rfl|rfl<;>decide),h2⟩,h.hp,h.hc.aside hm (by rcases ht with rfl|rfl<;>decide) hB,zCp h.hv hB hm (by rcases ht with rfl|rfl<;>decide),h.nb⟩
theorem HpD.kg {base:Nat} {A B:World} {hb:Nat} {c m:Int} (h:HpD base A hb c m)(k:KG base A B):HpD base B hb c m:=by
 obtain⟨v,h1,h2,h3|⟨g,cap,cur,e,hg,hh,r⟩⟩:=h
 ·exact ⟨v,k.cells h1 (by decide),h2,.inl h3⟩
 ·exact ⟨v,k.cells h1 (by decide),h2,.inr ⟨g,cap,cur,e,hg,k.cells hh (by decide),r⟩⟩
theorem HvT.kg {base:Nat} {A B:World} {nv:Value} {nn m:Int} (h:HvT base A nv nn m)(k:KG base A B):HvT base B nv nn m:=by
 obtain⟨h2,h3|⟨g,cap,cur,e,hg,hh,r⟩⟩:=h
 ·exact ⟨h2,.inl h3⟩
 ·exact ⟨h2,.inr ⟨g,cap,cur,e,hg,k.cells hh (by decide),r⟩⟩
theorem V3.made {base g hb nn c:Nat} {d:Int} {s:Gf} {f:Fl} {ws:Nat→Nat} {w w':World} (h:GrQ base g s (c:Int) d ((tkn 1000 1063 c:Nat):Int) w w')(hS:S2 s f nn 3 ws (zJa c))(hp:f.hp=hpt hb)(hc:HpD base w hb (c:Int) ((tkn 1000 1063 c:Nat):Int))(hv:HvT base w f.hv (nn:Int) ((tkn 1000 1063 c:Nat):Int))(hbb:base≤hb)(hfb:f.blk<w.heap.size)(ht:s.trn≤96):∃f2,V3 base g w' f f2 hb nn c d 8 ws s.now (s.trn+1+1+1+1):=by
 obtain⟨f2,h1,k,e1,e2,e3,e4,e5,e6,e7,hG⟩:=h;obtain⟨hS3,htr⟩:=S3.made hS e1 e2 e3 e4 e5 e6 e7 (fun e=>by omega) ht;exact⟨_,⟨_,hG,hS3,rfl,htr⟩,hp,hc.kg k,hv.kg k,hbb⟩
theorem S2.back {s:Gf} {f:Fl} {nn:Nat} {st:Int} {ws ws2:Nat→Nat} (h:S2 s f nn st ws ws2):∃k r,kxT (rP nn) s.rw=some k∧(s.rw (bkT (rP nn)))[k]? =some r∧r.id=f.id:=by
 obtain⟨pb,b,h1,h2,hpn⟩:=h;exact h2.back
theorem rep1(base g:Nat)(f:Fl)(hb nn c:Nat)(d:Int)(ws:Nat→Nat)(now tr nw sq ak:Int)(zm z:List Int)(sb:Value)(w:World)(h:V2 base g w f hb nn c ws now tr)(hbs:base≤w.heap.size)(hT:TG 134744072 16909060 1723 nn sq ak 16 zm z)(hl:zm.length≤500)(hBm:Mt.By zm)(hsq:0≤sq∧sq≤4294967295)(hak:0≤ak∧ak≤4294967295)(hok:lye zm=0)(h7:pmT zm=8)(hcc:zAl zm (lyC zm)=d)(hpp:zAl zm (lyP zm)=((tkn 1000 1063 c:Nat):Int))(hrr:pmR zm=1)(hc:c<65536)(hd:0≤d∧d≤65535)(hlp:(zAq zm (lyP zm) (c:Int)).length=zm.length)(hBp:Mt.By (zAq zm (lyP zm) (c:Int)))(nI:Nat)(hI:Ow nI w sb (tgB 64 134744072 16909060 z))(hnw:nw≤9)(htr:tr≤90)(hz:∀W,KG base w W→Tb W∧Dz W):
  Calls Tryz.prog 7 #[.pointer (some ⟨g,0,none⟩),.int .i64 nw,.int .i64 1,sb] w fun e w'=>TpQ base w w' nw now oP (fun n v y W=>(∃f1 f2,V3 base g W f1 f2 hb nn c d 8 ws n (tr+1+1+1+1+1+1))∧TG 134744072 167772162 1723 5555 sq ak 16 (zAq zm (lyP zm) (c:Int)) y) e:=by
 obtain⟨s,hG,hS0,rfl,rfl⟩:=h.gf;obtain⟨pb,bb,hps,hS,hpn⟩:=hS0;have hS0:S2 s f nn 3 ws (zJa c):=⟨pb,bb,hps,hS,hpn⟩;have hn9:=hS.n9;have hfs:s.fs=[f]:=hS.fs;have hno:0≤s.now∧s.now≤9:=hS.now;have htn:0≤s.trn∧s.trn≤100:=hS.trn;have htk:=zCx (lo:=1000) (hi:=1063) (wish:=c) (by omega);have hqb:TuB oP:=by unfold TuB oP;simp
 have hfo:f.o=oP:=hS.o;have hfr:f.r=rP nn:=hS.r;have hsd0:f.side=0:=hS.sd
 have hqo:oth f true=oP:=by
  unfold oth;rw[hfo];rfl
 refine(zD2 base g s 1 nw true oP 134744072 16909060 1723 nn sq ak 16 zm z sb (fun n v fb f2 hb2 W=>f2.blk=fb∧hb2=hb∧oth f2 true=oP∧V2 base g W f2 hb nn c ws n (s.trn+1+1)) (fun n v y W=>(∃f1 f2,V3 base g W f1 f2 hb nn c d 8 ws n (s.trn+1+1+1+1+1+1))∧TG 134744072 167772162 1723 5555 sq ak 16 (zAq zm (lyP zm) (c:Int)) y) w hG hbs hT hl nI hI (by omega) (by omega) (.inr rfl) hqb rfl ⟨hno.1,by omega⟩ hS.ex (fun n hn=>by have:=hS.quiet n (by omega);exact this) hS.all (fun W k=>(hz W k).1) ?hOW ?hOF ?hOL ?hCH ?hCS ?hCL ?hCT).mono (fun e w' h=>h)
 case hOW=>
  intro n v W so sd k hn hn1 hn2 hg hd2
  have hS2:=hS0.ltr n v ⟨hn.1,by omega⟩;obtain⟨kk,r,hk1,hk2,hk3⟩:=hS2.back;have hst:f.st=3:=hS.st
  refine(zHp base g (ltr s n v) f true 0 0 64 134744072 16909060 false so sd 1 z 6 134744072 16909060 1723 nn kk r W hg (by show f∈s.fs;rw[hfs];simp) (fun x hx y hy _=>by
   have hx':x∈s.fs:=hx;have hy':y∈s.fs:=hy;rw[hfs]at hx' hy';rw[List.mem_singleton.1 hx',List.mem_singleton.1 hy']) (fun x hx _=>by
   have hx':x∈s.fs:=hx;rw[hfs]at hx';exact List.mem_singleton.1 hx') hk1 hk2 hk3 (by omega) (by omega) (by omega) (by omega) (by rw[hfo];simp[oP]) hsd0 (.inl ⟨rfl,rfl⟩) (Nat.le_trans hbs k.size) (by rw[hfo];exact hqb) (by rw[hfr];unfold TuB rP;simp;omega) ⟨htn.1,by show s.trn≤999999;omega⟩ hn hT.by_ hd2 (by have:=hT.len;omega) (by omega) (by omega) hT.ok (by rw[hst,hT.fl];decide)).mono ?_
  rintro e w2 ⟨rfl,k2,hg2⟩;have hnx:nx 3 true 16=3:=by decide
  rw[hst,hT.fl,hnx]at hg2;obtain⟨q1,q2⟩:=hS2.become 3 (by show s.trn≤98;omega) (by decide);exact⟨f.at 3 ((ltr s n v).now+tm 6 3),hb,rfl,k2,rfl,rfl,hqo,⟨_,hg2,q1,rfl,q2⟩,h.hp,h.hc.kg (k.trans k2),HvT.kg (nv:=f.hv) h.hv (k.trans k2),h.nb⟩
 case hOF=>
  rintro n v fb f2 hb2 W ⟨rfl,rfl,h3,hv⟩;obtain⟨s2,hg2,hS2,_⟩:=hv.gf;exact⟨rfl,(hg2.fb f2 (by rw[hS2.fs];simp)).2,h3,hv.hp⟩
 case hOL=>
  rintro n v fb f2 hb2 A B ⟨h1,h2,h3,hv⟩ l;exact⟨h1,h2,h3,hv.later l⟩
 case hCH=>
  rintro n v fb f2 hb2 n1 W so sd ao co ad cd hw1 hw2 k ⟨rfl,rfl,h3,hv⟩ ho hd3;obtain⟨s2,hg2,hS2,rfl,htr2⟩:=hv.gf;obtain⟨pb2,b2,hps2,hS1,hpn2⟩:=hS2;have hS2':S2 s2 f2 nn 3 ws (zJa c):=⟨pb2,b2,hps2,hS1,hpn2⟩;have hfs2:s2.fs=[f2]:=hS1.fs;have hno2:=hS2'.no (c:Int) d ((tkn 1000 1063 c:Nat):Int);have hms2:f2.ms= -1:=hS1.ms;have hid2:f2.id=0:=hS1.id;have hbg2:s2.bg=1:=hS1.bg;have hcn2:s2.cnt=2:=hS1.cnt;have hnw2:0≤s2.now∧s2.now≤9:=hS1.now
  have hrw2:∀i,(s2.rw i).length≤4000:=fun i=>by
   obtain⟨t,n1,n2,e,h9⟩:=hS1.rw;have e':s2.rw=_:=e;rw[e'];exact Nat.le_trans (zLj _ i) (by simp[rw2])
  have hmem:∀x∈s2.fs,x=f2:=fun x hx=>by rw[hfs2]at hx;exact List.mem_singleton.1 hx
  rw[←htr2];refine(chg_rep hT oP hqb hl hBm hsq hak (by omega) g hb2 (c:Int) d ((tkn 1000 1063 c:Nat):Int) hok h7 hcc hpp hrr s2 f2 hlp hBp W 134744072 16909060 so sd true 6 134744072 16909060 1723 nn 6 _ _ _ _ ao ad co cd hg2 hS1.es (by rw[hfs2];simp) (fun x hx y hy _=>by rw[hmem x hx,hmem y hy]) (by rw[hfs2];simp) (fun x hx=>by rw[hmem x hx,hms2,hid2];decide) hid2 (by rw[hS1.o];exact⟨rfl,rfl⟩) (by rw[hS1.r];rfl) (by omega) hd (by omega) hno2.1 hno2.2 (by omega) ⟨hnw2.1,by omega⟩ (by omega) (fun x hx=>by rw[hmem x hx];omega) (by omega) hrw2 hv.hc ⟨Nat.le_trans hbs hw1,hw2⟩ ho hd3).mono ?_;rintro e w2 ⟨a7,c7,a8,c8,z2,rfl,hgr,hT2,hO2,hD2⟩;obtain⟨f3,hV3⟩:=V3.made hgr hS2' hv.hp hv.hc hv.hv hv.nb (Array.getElem?_eq_some_iff.1 (hg2.fb f2 (by rw[hfs2];simp)).2).1 (by omega);exact⟨z2,a7,c7,a8,c8,rfl,Kgl.of_kg hgr.kg,hO2,hD2,⟨f2,f3,hV3⟩,hT2⟩
 case hCS=>
  rintro n v y A B k cur t fz ⟨⟨f1,f3,h5⟩,h6⟩ hk ht hB;exact⟨⟨f1,f3,h5.aside hk ht hB⟩,h6⟩
 case hCL=>
  rintro n v y W ⟨_,h6⟩;have:=h6.len;omega
 case hCT=>
  rintro n v y A B ⟨⟨f1,f3,h5⟩,h6⟩ l;exact⟨⟨f1,f3,h5.later l⟩,h6⟩
theorem UL.uqK {L:List Rw} (h:UL L)(hk:∀r∈L,kyp r.p r.a=r.a)(n:Nat):UQy (rwL L n):=by
 intro kp ks kd ka kb i j hi hj h1 h2
 have hm:(rwL L n)[i]∈L:=(List.mem_filter.1 (List.getElem_mem hi)).1
 have hka:kyp kp ka=ka:=by
  have q:=hk _ hm;unfold isK at h1;simp only[Bool.and_eq_true,beq_iff_eq]at h1;obtain⟨e1,e2,e3,e4,e5⟩:=h1;rw[e1,e4]at q;exact q
 have hl:((rwL L n).filter (isK kp ks kd ka kb)).length≤1:=by
  refine Nat.le_trans ?_ (h ⟨kp,ks,kd,ka,kb⟩);show _≤(L.filter (isK kp ks kd (kyp kp ka) kb)).length
  rw[hka];unfold rwL;rw[List.filter_filter,show(fun a=>isK kp ks kd ka kb a && (bkR a==n))=(fun a=>(bkR a==n) && isK kp ks kd ka kb a)from funext fun a=>Bool.and_comm _ _,←List.filter_filter];exact List.length_filter_le _ _
 rcases Nat.lt_trichotomy i j with q|q|q
 ·have:=zGw _ _ i j hi hj q h1 h2
  omega
 ·exact q
 ·have:=zGw _ _ j i hj hi q h2 h1
  omega
theorem dropG(base gt:Nat)(cnt trn:Int)(L:List Rw)(t:Tu)(r:Rw)(w:World)(hT:TB base w gt 128 cnt trn (rwL L))(hr:r∈L)(ht:zBe t r=true)(hU:UL L)(hky:∀r∈L,kyp r.p r.a=r.a)(hB:TuB t)(hbs:base≤w.heap.size)(hcn:0≤cnt∧cnt≤1000):
  Calls Tryz.prog 105 #[.pointer (some ⟨gt,0,none⟩),.agg #[.int .u8 t.pr,.int .u32 t.src,.int .u32 t.dst,.int .u16 t.sp,.int .u16 t.dp]] w fun e w'=>∃ev:Int,e= .returned (.int .i64 ev)∧TB base w' gt 128 (cnt-1) trn (rwL (dpR t L))∧KT w w'∧KM w w'∧KG base w w':=by
 refine(tdropK base gt 128 cnt trn (rwL L) t.pr t.src t.dst t.sp t.dp w hT (fun i=>hU.uqK hky i) hB.1 hB.2.1 hB.2.2.1 hB.2.2.2 hbs (by omega)).mono ?_;rintro e w' ⟨he,⟨_,hk,hm,hg⟩,hor⟩;obtain⟨k,hk1,_⟩:=zD3 L t r hr ht hU;rcases hor with⟨hn,_⟩|⟨k2,hk2,hT2⟩
 ·exact absurd (hk1.symm.trans hn) (by simp)
 ·refine ⟨_,he,?_,hk,hm,hg⟩
  have e:=rwL_dp L t k2 hk2 hU;rw[←e];exact hT2
def zRv (s:Gf) (f:Fl) (L:List Rw) (v:Value) (fe:Array MapEntry):Gf:= { s with cnt:=s.cnt-1-1,rw:=rwL (dpR f.r (dpR f.o L)),fs:=s.fs.filter (fun x=> !(x.id==f.id)),fe:=fe,ve:=v,ex:=[] }
structure EnG (s:Gf) (f:Fl) (L:List Rw):Prop where
 hf:f∈s.fs
 rw:s.rw=rwL L
 ul:UL L
 ky:∀r∈L,kyp r.p r.a=r.a
 ro:∃r∈L,zBe f.o r=true
 rr:∃r∈L,zBe f.r r=true
 ne:¬tuA f.o f.r
 bo:TuB f.o
 br:TuB f.r
 hN:(s.fs.filter (fun x=>x.id==f.id)).length≤1
 hu:IdE s
 es:EsI s.fe s.cf
 sz:s.fs.length≤12
 ms:∀x∈s.fs,x.ms≠f.id
 cn:0≤s.cnt-1∧s.cnt≤1000
 hv:f.hv= .slice none 0 0
 ex:s.ex=[]
theorem give_nil(g:Nat)(w:World):Calls Tryz.prog 106 #[.pointer (some ⟨g,0,none⟩),.slice none 0 0] w fun e w'=>e= .returned (.tuple #[])∧w'=w:=by
 go_enter Tryz.func106,Tryz.ntmps106;go_wp2_with fail;go_loopw [5,8] (fun _ iv wr=>iv= .int .i64 0∧wr=w) (fun _ _ _=>0)
 case atStart=>exact⟨rfl,rfl⟩
 case round=>
  obtain⟨rfl,rfl⟩:=hrel;go_wp2_with fail;go_end0
  exact⟨rfl,rfl⟩
theorem end_gre(base g:Nat)(s:Gf)(f:Fl)(L:List Rw)(w:World)(h:GF base w g s)(hR:EnG s f L)(hbs:base≤w.heap.size):
  Calls Tryz.prog 50 #[.pointer (some ⟨g,0,none⟩),.pointer (some ⟨f.blk,0,none⟩)] w fun e w'=>e= .returned (.tuple #[])∧KG base w w'∧(∃v fe,EsI fe s.cf∧GF base w' g (zRv s f L v fe))∧w'.heap[f.blk]? =some (.cells (flc f).toArray 111 (0,0)):=by
 obtain⟨r1,hr1,ht1⟩:=hR.ro;obtain⟨r2,hr2,ht2⟩:=hR.rr
 have hr2':r2∈dpR f.o L:=List.mem_filter.2 ⟨hr2,by
  cases hb:zBe f.o r2 with
  |false=>rfl
  |true=>
   have q1:=zBv.1 hb;have q2:=zBv.1 ht2;exact absurd ⟨by rw[←q1.1,q2.1],by rw[←q1.2.1,q2.2.1],by rw[←q1.2.2.1,q2.2.2.1],by rw[←q1.2.2.2.1,q2.2.2.2.1],by rw[←q1.2.2.2.2,q2.2.2.2.2]⟩ hR.ne⟩
 have HR:=zAc hR;have HR1:=zAc (And.intro hr1 ht1);have HR2:=zAc (And.intro hr2' ht2);have HG:=zAc h;have HF:=zAc (h.fb f hR.hf).2;clear hr1 ht1 hr2 ht2 hr2' hR h;go_enter Tryz.func50,Tryz.ntmps50;go_upto_region 0 with fail;refine zAk (R:=KX) 10 rfl (by kernel_rfl) ?_;have ld:Later w w.drew:=Later.drew w;generalize w.drew=wd at*;have HD:=zAc (HG.out.later ld);have MD:Hid (KG base w wd):=KG.of_later ld;have FD:=zAc (zAb ld HF.out);clear HG HF ld;have hbd:base≤wd.heap.size:=Nat.le_trans hbs MD.out.size;have k1:∀v,KX wd v→∀j,v.cell? ⟨g,j,none⟩=(gfc s).toArray[j]? :=fun v hv=>zAa (hv g _ _ _ HD.out.gc (by decide) (by decide));have k2:∀v,KX wd v→∀j,v.cell? ⟨f.blk,j,none⟩=(flc f).toArray[j]? :=fun v hv=>zAa (hv f.blk _ _ _ FD.out (by decide) (by decide));unfold gfc at k1;unfold flc at k2;refine tX KX.pre 0 ?_;refine tX KX.pre 1 ?_;refine tX KX.pre 2 ?_;refine tX KX.pre 3 ?_;refine tX KX.pre 4 ?_;refine tX KX.pre 5 ?_;refine tX KX.pre 6 ?_;refine tX KX.pre 7 ?_;refine tX KX.pre 8 ?_;clear k1 k2;refine tO 9 ?_;refine zAi 105 #[.pointer (some ⟨s.gt,0,none⟩),.agg #[.int .u8 f.o.pr,.int .u32 f.o.src,.int .u32 f.o.dst,.int .u16 f.o.sp,.int .u16 f.o.dp]] (by go_simp) ?_;refine(dropG base s.gt s.cnt s.trn L f.o r1 wd (by rw[←HR.out.rw];exact HD.out.tb) HR1.out.1 HR1.out.2 HR.out.ul HR.out.ky HR.out.bo hbd (by have:=HR.out.cn;omega)).mono ?_;rintro e w3 ⟨ev,rfl,hT,hk,hm,hg⟩;refine⟨KX.of hk,?_⟩;simp only[Act.put,sA,sB,sC];refine tD ?_
 have H2:=zAc (HD.out.tabled hk hm hT);have M2:=zAc (MD.out.trans hg);have F2:=zAc (hk f.blk _ _ _ FD.out (by decide) (by decide));clear HD MD FD hT hk hm hg hbd;go_upto_region 1 with fail;refine zAk (R:=KX) 10 rfl (by kernel_rfl) ?_;have ld:Later w3 w3.drew:=Later.drew w3;generalize w3.drew=w3d at*;have HD2:=zAc (H2.out.later ld);have MD2:=zAc (M2.out.trans (KG.of_later ld));have FD2:=zAc (zAb ld F2.out);clear H2 M2 F2 ld;have hbd:base≤w3d.heap.size:=Nat.le_trans hbs MD2.out.size;have k1:∀v,KX w3d v→∀j,v.cell? ⟨g,j,none⟩=(gfc s).toArray[j]? :=fun v hv=>zAa (hv g _ _ _ HD2.out.gc (by decide) (by decide));have k2:∀v,KX w3d v→∀j,v.cell? ⟨f.blk,j,none⟩=(flc f).toArray[j]? :=fun v hv=>zAa (hv f.blk _ _ _ FD2.out (by decide) (by decide));unfold gfc at k1;unfold flc at k2;refine tX KX.pre 0 ?_;refine tX KX.pre 1 ?_;refine tX KX.pre 2 ?_;refine tX KX.pre 3 ?_;refine tX KX.pre 4 ?_;refine tX KX.pre 5 ?_;refine tX KX.pre 6 ?_;refine tX KX.pre 7 ?_;refine tX KX.pre 8 ?_;clear k1 k2;refine tO 9 ?_;refine zAi 105 #[.pointer (some ⟨s.gt,0,none⟩),.agg #[.int .u8 f.r.pr,.int .u32 f.r.src,.int .u32 f.r.dst,.int .u16 f.r.sp,.int .u16 f.r.dp]] (by go_simp) ?_;refine(dropG base s.gt (s.cnt-1) s.trn (dpR f.o L) f.r r2 w3d HD2.out.tb HR2.out.1 HR2.out.2 (UL_dp _ HR.out.ul) (fun r hr=>HR.out.ky r (List.mem_filter.1 hr).1) HR.out.br hbd (by have:=HR.out.cn;omega)).mono ?_;rintro e w4 ⟨ev,rfl,hT,hk,hm,hg⟩;refine⟨KX.of hk,?_⟩;simp only[Act.put,sA,sB,sC]
 refine tD ?_;have H3:=zAc (HD2.out.tabled hk hm hT);have M3:=zAc (MD2.out.trans hg);have F3:=zAc (hk f.blk _ _ _ FD2.out (by decide) (by decide));clear HD2 MD2 FD2 hT hk hm hg hbd;go_upto_region 2 with fail;refine zAk (R:=But (fun b=>b=s.gf)) 10 rfl (by kernel_rfl) ?_;have ld:Later w4 w4.drew:=Later.drew w4;generalize w4.drew=w5 at*;have HD3:=zAc (H3.out.later ld);have MD3:=zAc (M3.out.trans (KG.of_later ld));have FD3:=zAc (zAb ld F3.out);clear H3 M3 F3 ld;have hnm:∀(b:Nat) (cur:Array Value) (t:TypeId) (f:Nat × Nat),w5.heap[b]? =some (.cells cur t f)→∀v,But (fun b=>b=s.gf) w5 v→v.heap[b]? =some (.cells cur t f):=fun b cur t f hb v hv=>(hv.block b (eS hb) (fun e=>by have e':b=s.gf:=e;have hh:=HD3.out.fl;simp only at hh;rw[←e',hb]at hh;cases hh)).trans hb;have k1:∀v,But (fun b=>b=s.gf) w5 v→∀j,v.cell? ⟨g,j,none⟩=(gfc s).toArray[j]? :=fun v hv=>zAa (hnm _ _ _ _ HD3.out.gc v hv);have k2:∀v,But (fun b=>b=s.gf) w5 v→∀j,v.cell? ⟨f.blk,j,none⟩=(flc f).toArray[j]? :=fun v hv=>zAa (hnm _ _ _ _ FD3.out v hv);unfold gfc at k1;unfold flc at k2;refine tX (But.pre (fun b=>b=s.gf)) 0 ?_;refine tX (But.pre (fun b=>b=s.gf)) 1 ?_;refine tX (But.pre (fun b=>b=s.gf)) 2 ?_;refine tX (But.pre (fun b=>b=s.gf)) 3 ?_;refine tX (But.pre (fun b=>b=s.gf)) 4 ?_;refine tX (But.pre (fun b=>b=s.gf)) 5 ?_;refine tX (But.pre (fun b=>b=s.gf)) 6 ?_;refine tX (But.pre (fun b=>b=s.gf)) 7 ?_;refine tX (But.pre (fun b=>b=s.gf)) 8 ?_;clear k1 k2
 obtain⟨w6,fe,hrun,hb6,hes6,hG6⟩:=HD3.out.dropped f HR.out.hf HR.out.hN HR.out.es;have hrun':∀ty,(Builtin.delete_ #[86,3] ty #[.map (some s.gf),.int .i64 f.id]).run Tryz.prog w5= .ok (.tuple #[]) w6:=hrun;have HB6:=zAc hb6;have H6:=zAc hG6;have HES:=zAc hes6;clear hb6 hG6 hes6 hrun;refine tO 9 ?_;unfold Oper.wp;go_simp;refine⟨HB6.out,?_⟩;refine tD ?_;clear hrun'
 have M6:Hid (KG base w w6):=MD3.out.trans (KG.of_but HB6.out (fun k e=>by
  have e':k=s.gf:=e;rw[e'];refine⟨HD3.out.bf.1,fun ob ho=> ?_⟩;have hh:=HD3.out.fl;simp only at hh;rw[hh]at ho;cases ho
  exact trivial))
 have F6:=zAc (hnm _ _ _ _ FD3.out w6 HB6.out);clear HD3 MD3 FD3 HB6 hnm;have k2:=zAa F6.out;unfold flc at k2;rw[HR.out.hv]at k2;go_wp2_with fail;refine(give_nil g w6).mono ?_;rintro e w7 ⟨rfl,hw7⟩;subst hw7;clear k2;have H7:=H6;have M7:=M6;have F7:=F6;clear H6 M6 F6;have hbd:base≤w7.heap.size:=Nat.le_trans hbs M7.out.size;go_upto_region 4 with fail;refine zAk (R:=But (fun b=>b=s.gb)) 12 rfl (by kernel_rfl) ?_;have ld:Later w7 w7.drew:=Later.drew w7;generalize w7.drew=w8 at*;have HD7:=zAc (H7.out.later ld);have MD7:=zAc (M7.out.trans (KG.of_later ld));have FD7:=zAc (zAb ld F7.out);clear H7 M7 F7 ld;have hbd8:base≤w8.heap.size:=Nat.le_trans hbs MD7.out.size;have k1:∀v,But (fun b=>b=s.gb) w8 v→∀j,v.cell? ⟨g,j,none⟩=(gfc s).toArray[j]? :=fun v hv=>zAa (zC7 hv HD7.out.gc HD7.out.bl.2.1 (by intro e;injection e with e1 e2 e3;exact absurd e2 (by decide)));have k2:∀v,But (fun b=>b=s.gb) w8 v→∀j,v.cell? ⟨f.blk,j,none⟩=(flc f).toArray[j]? :=fun v hv=>zAa (zC7 hv FD7.out HD7.out.bl.2.1 (by intro e;injection e with e1 e2 e3;exact absurd e2 (by decide)));unfold gfc at k1;unfold flc at k2;refine tX (But.pre (fun b=>b=s.gb)) 0 ?_;refine tX (But.pre (fun b=>b=s.gb)) 1 ?_;refine tX (But.pre (fun b=>b=s.gb)) 2 ?_;refine tX (But.pre (fun b=>b=s.gb)) 3 ?_;refine tX (But.pre (fun b=>b=s.gb)) 4 ?_;refine tX (But.pre (fun b=>b=s.gb)) 5 ?_;refine tX (But.pre (fun b=>b=s.gb)) 6 ?_;refine tX (But.pre (fun b=>b=s.gb)) 7 ?_
 refine tX (But.pre (fun b=>b=s.gb)) 8 ?_;refine tX (But.pre (fun b=>b=s.gb)) 9 ?_;clear k1 k2;refine tO 10 ?_;refine zAi 107 #[.pointer (some ⟨s.gb,0,none⟩),.int .i64 f.id] (by go_simp) ?_;refine(zNu base s.gb s.ve [] f.id w8 (by have q:BL 174 base w8 s.gb s.ve s.ex:=HD7.out.bl;rw[HR.out.ex]at q;exact q) hbd8 (by simp)).mono ?_;rintro e w9 ⟨u,rfl,v9,hbl,hrow,hbut,_⟩
 obtain⟨ua,uc,rfl⟩:∃a c,u= .slice a 0 c:=by
  obtain⟨_,⟨rfl,_⟩|⟨b,cap,cur,rfl,_⟩⟩:=hrow
  ·exact ⟨_,_,rfl⟩
  ·exact ⟨_,_,rfl⟩
 have H9:=zAc (HD7.out.book hbut hbl)
 have M9:Hid (KG base w w9):=MD7.out.trans (KG.of_but hbut (fun k e=>by
  have e':k=s.gb:=e;rw[e'];refine⟨HD7.out.bl.1,fun ob ho=> ?_⟩;have hh:w8.heap[s.gb]? =some (.cells _ 174 (0,0)):=HD7.out.bl.2.1;rw[hh]at ho;cases ho
  show gTs.contains _=true
  decide))
 have F9:=zAc (zC7 hbut FD7.out HD7.out.bl.2.1 (by intro e;injection e with e1 e2 e3;exact absurd e2 (by decide)));have HB9:=zAc hbut;clear hbut hrow hbl HD7 MD7 FD7;refine⟨HB9.out,?_⟩;simp only[Act.put,sA,sB,sC];refine tO 11 ?_;refine zAi 51 #[.pointer (some ⟨g,0,none⟩),.slice ua 0 uc] (by go_simp) ?_;refine(zCk _ ua uc w9).mono ?_;rintro e w10 ⟨rfl,hw10⟩;subst hw10;refine⟨But.refl _ _,?_⟩;simp only[Act.put,sA,sB,sC];refine tD ?_;have HFIN:Hid (GF base w10 g (zRv s f L v9 fe)):=H9.out;have hsub:∀x,x∈(zRv s f L v9 fe).fs→x∈s.fs:=fun x hx=>(List.mem_filter.1 hx).1;have HTN:=zAc (zD1 base g (zRv s f L v9 fe) f w10 HFIN.out HES.out (Nat.le_trans (List.length_filter_le _ _) HR.out.sz) (fun x hx y hy e=>HR.out.hu x (hsub x hx) y (hsub y hy) e) F9.out (fun x hx=>by rw[beq_eq_false_iff_ne];exact HR.out.ms x (hsub x hx)));clear hsub H9 HB9;go_wp2_with fail;refine HTN.out.mono ?_;rintro e w11 ⟨rfl,l11⟩;have HF2:Hid (KG base w w11∧GF base w11 g (zRv s f L v9 fe)):=⟨M9.out.trans (KG.of_later l11),HFIN.out.later l11⟩;have FZ:=zAc (zAb l11 F9.out);clear HTN HFIN l11;go_upto_region 6 with fail;go_loopw [5,57] (fun _ iv wr=>iv= .int .i64 0∧wr=w11) (fun _ _ _=>0)
 case atStart=>exact⟨rfl,rfl⟩
 case round=>
  obtain⟨rfl,rfl⟩:=hrel;go_wp2_with fail;go_end0
  exact⟨rfl,HF2.out.1,⟨v9,fe,HES.out,HF2.out.2⟩,FZ.out⟩
theorem S3.eng {s:Gf} {f f2:Fl} {nn:Nat} {c d m st st2:Int} {ws ws2:Nat→Nat} (h:S3 s f f2 nn c d m st st2 ws ws2)(hc:0≤c∧c≤65535)(hd:0≤d∧d≤65535)(hm:0≤m∧m≤65535):∃L,EnG s f2 L:=by
 obtain⟨L,e,hL⟩:=h.rw;obtain⟨r1,a1,a2,_⟩:=hL.mem (oG c d,1) (by simp[ksG]);obtain⟨r2,b1,b2,_⟩:=hL.mem (rG d m,1) (by simp[ksG]);have hid:=h.id;have hid2:=h.id2;refine⟨L,⟨by rw[h.fs];simp,e,hL.ul,hL.ky,⟨r1,a1,by rw[h.o2];exact a2⟩,⟨r2,b1,by rw[h.r2];exact b2⟩,by rw[h.o2,h.r2];exact fun e=>oG_ne c d m (zHq e),by rw[h.o2];unfold TuB oG;simp;omega,by rw[h.r2];unfold TuB rG;simp;omega,?_,fun x hx y hy e=>by rw[h.ide x hx y hy e],h.es,by rw[h.fs];simp,?_,by rw[h.cnt];omega,h.hv2,h.ex⟩⟩
 ·rw[h.fs,hid2]
  simp[hid,hid2]
 ·intro x hx
  rw[h.fs]at hx;have hx':x=f∨x=f2:=by simpa using hx
  have:=h.ms;have:=h.ms2;rcases hx' with rfl|rfl<;>omega
theorem S3.tn {s:Gf} {f f2:Fl} {nn:Nat} {c d m st st2:Int} {ws ws2:Nat→Nat} (h:S3 s f f2 nn c d m st st2 ws ws2):s.fs.filter (zHw f)=[f2]:=by
 have h1:=h.ms;have h2:=h.ms2;have h3:=h.id;have h4:=h.o2;have e1:zHw f f=false:=by unfold zHw;rw[h1,h3];rfl
 have e2:zHw f f2=true:=by unfold zHw;rw[h2,h3,h4];rfl
 rw[h.fs];simp[e1,e2]
theorem S3.rest {s:Gf} {f f2:Fl} {nn:Nat} {c d m st st2:Int} {ws ws2:Nat→Nat} (h:S3 s f f2 nn c d m st st2 ws ws2):s.fs.filter (fun x=> !(x.id==f2.id))=[f]:=by
 have h1:=h.id;have h2:=h.id2;rw[h.fs];simp[h1,h2]
def VE (base g:Nat) (W:World):Prop:=∃s,GF base W g s∧s.fs.length=1∧IdE s∧EsI s.fe s.cf∧s.lo=1000∧s.hi=1063∧∃pa pb wa ws,s.ps=[⟨6,16909060,pa,wa⟩,⟨47,16909060,pb,ws⟩]∧∀n,1000≤n→n≤1063→fr ws n=true
theorem VE.later {base g:Nat} {A B:World} (h:VE base g A)(l:Later A B):VE base g B:=by
 obtain⟨s,h1,h2⟩:=h;exact⟨s,h1.later l,h2⟩
theorem frA47(ws:Nat→Nat)(n m:Nat):fr (wsA ws n) m=(fr ws m||decide (m=n)):=fr_add ws n m
theorem frR47(ws:Nat→Nat)(n m:Nat):fr (wsR ws n) m=(fr ws m && !decide (m=n)):=zQf ws n m
theorem ws47_all(c:Nat)(n:Nat)(h1:1000≤n)(h2:n≤1063):fr (wsA (zJa c) (tkn 1000 1063 c)) n=true:=by
 rw[frA47];unfold zJa;rw[frR47,zQs _ _ _ (by omega)];by_cases e:n=tkn 1000 1063 c
 ·simp[e]
 ·simp[e,h1,h2]
theorem ws47_has(c:Nat):hsP 1000 1063 (zJa c) (tkn 1000 1063 c)=true:=by
 have:=zCx (lo:=1000) (hi:=1063) (wish:=c) (by omega);unfold hsP zJa;rw[frR47];simp
 omega
theorem zOr(base g:Nat)(s:Gf)(f f2:Fl)(hb nn c:Nat)(d st2:Int)(ws:Nat→Nat)(src dst:Int)(so sd:Value)(side:Int)(bk:Bool)(t0 t1 t2 t3 t4 i0 i1 i2 i3 i4:Int)(w:World)(h:GF base w g s)(hS:S3 s f f2 nn (c:Int) d ((tkn 1000 1063 c:Nat):Int) 3 st2 ws (zJa c))(hH:HpD base w hb (c:Int) ((tkn 1000 1063 c:Nat):Int))(hv:HvT base w f.hv (nn:Int) ((tkn 1000 1063 c:Nat):Int))(hbs:base≤w.heap.size)(hbb:base≤hb)(hc:c<65536)(hd:0≤d∧d≤65535):
  Calls Tryz.prog 407 #[.pointer (some ⟨hb,0,none⟩),.agg #[.pointer (some ⟨g,0,none⟩),.int .u8 0,.int .u16 0,.bool false,.int .u8 64,.int .u8 6,.int .u32 src,.int .u32 dst,so,sd,.int .i64 side,.pointer (some ⟨f.blk,0,none⟩),.bool bk,.int .u8 t0,.int .u32 t1,.int .u32 t2,.int .u16 t3,.int .u16 t4,.int .u8 i0,.int .u32 i1,.int .u32 i2,.int .u16 i3,.int .u16 i4],.int .u16 d] w fun e w'=>e= .returned (.tuple #[])∧Kgl base w w'∧VE base g w':=by
 have htk:=zCx (lo:=1000) (hi:=1063) (wish:=c) (by omega);have l0:=zAe w (.cells #[.pointer (some ⟨g,0,none⟩),.int .u8 0,.int .u16 0,.bool false,.int .u8 64,.int .u8 6,.int .u32 src,.int .u32 dst,so,sd,.int .i64 side,.pointer (some ⟨f.blk,0,none⟩),.bool bk,.int .u8 t0,.int .u32 t1,.int .u32 t2,.int .u16 t3,.int .u16 t4,.int .u8 i0,.int .u32 i1,.int .u32 i2,.int .u16 i3,.int .u16 i4] 242);have C0:=zAc (heap_alloc_new w (.cells #[.pointer (some ⟨g,0,none⟩),.int .u8 0,.int .u16 0,.bool false,.int .u8 64,.int .u8 6,.int .u32 src,.int .u32 dst,so,sd,.int .i64 side,.pointer (some ⟨f.blk,0,none⟩),.bool bk,.int .u8 t0,.int .u32 t1,.int .u32 t2,.int .u16 t3,.int .u16 t4,.int .u8 i0,.int .u32 i1,.int .u32 i2,.int .u16 i3,.int .u16 i4] 242));have hfm:f∈s.fs:=by rw[hS.fs];simp
 have hfm2:f2∈s.fs:=by rw[hS.fs];simp
 have HTN:=zAc (zI2 base g s f _ (h.later l0) hS.es (by rw[hS.fs];simp) hS.ide (zAb l0 (h.fb f hfm).2));have HG:=zAc h;have HS:=zAc hS;have HH:=zAc hH;have HV:=zAc hv;have HFM:=zAc hfm;have HFM2:=zAc hfm2;clear h hS hH hv hfm hfm2;go_enter Tryz.func407,Tryz.ntmps407;go_upto_region 1 with fail;change Code.wp _ _ _ _ (w.alloc (.cells #[.pointer (some ⟨g,0,none⟩),.int .u8 0,.int .u16 0,.bool false,.int .u8 64,.int .u8 6,.int .u32 src,.int .u32 dst,so,sd,.int .i64 side,.pointer (some ⟨f.blk,0,none⟩),.bool bk,.int .u8 t0,.int .u32 t1,.int .u32 t2,.int .u16 t3,.int .u16 t4,.int .u8 i0,.int .u32 i1,.int .u32 i2,.int .u16 i3,.int .u16 i4] 242));generalize w.alloc (.cells #[.pointer (some ⟨g,0,none⟩),.int .u8 0,.int .u16 0,.bool false,.int .u8 64,.int .u8 6,.int .u32 src,.int .u32 dst,so,sd,.int .i64 side,.pointer (some ⟨f.blk,0,none⟩),.bool bk,.int .u8 t0,.int .u32 t1,.int .u32 t2,.int .u16 t3,.int .u16 t4,.int .u8 i0,.int .u32 i1,.int .u32 i2,.int .u16 i3,.int .u16 i4] 242)=w1 at*;generalize hgx:w.heap.size=gx at C0⊢;have k0:=zAa C0.out;go_wp2_with fail;refine HTN.out.mono ?_;rintro e w2 ⟨⟨ys,a,cc,rfl,hyp,hyo,_⟩,l2⟩;rw[HS.out.tn]at hyp;have hys:ys=[f2]:=List.perm_singleton.1 hyp;subst hys;have l2':Later w1 w2:=l2;have L2:Later w w2:=l0.trans l2';obtain⟨q,rfl,hq,hcl⟩:=zHn hyo (k:=0) (by simp) (x:= .pointer (some ⟨f2.blk,0,none⟩)) rfl;have C2:=zAc (zAb l2' C0.out);have hqw:q<w2.heap.size:=World.block_lt_of_cell? _ _ hcl
 clear k0 HTN hyp hyo C0 l2;simp only[List.length_cons,List.length_nil];go_upto_region 2 with fail;go_loopw [16] (fun iv wr=>(iv= .int .i64 0∧wr=w2)∨(iv= .int .i64 1∧Kgl base w wr∧VE base g wr)) (fun iv _=>1-(intOf iv).toNat)
 case atStart=>exact .inl ⟨rfl,rfl⟩
 case round=>
  rcases hrel with⟨rfl,hw⟩|⟨rfl,hK,hE⟩
  ·subst hw
   have HF2:=zAc (zAb L2 (HG.out.fb f2 HFM2.out).2);obtain⟨L,hEN⟩:=HS.out.eng (by omega) hd (by omega);have HEND:=zAc (end_gre base g s f2 L wr (HG.out.later L2) hEN (Nat.le_trans hbs L2.size));have d1:(d !=d)=false:=by simp
   have k0:=zAa C2.out;have k2:=zAa HF2.out;unfold flc at k2;rw[HS.out.o2]at k2;simp only[oG]at k2;clear hEN;go_upto_region 4 with fail;go_upto_region 5 with fail;go_wp2_with fail;refine HEND.out.mono ?_;rintro e w3 ⟨rfl,k3,⟨v3,fe3,hes3,hG3⟩,hf3⟩;have K3:=zAc ((KG.of_later (base:=base) L2).trans k3);have G3:=zAc hG3;have F3:=zAc hf3;have ES3:=zAc hes3;have C3:=zAc (k3.cells C2.out (by decide));clear k0 k2 HEND k3 hes3 hG3 hf3 HF2 C2 hcl;go_upto_region 6 with fail;refine zAk (R:=But (fun q=>w3.heap.size≤q)) 16 rfl (by kernel_rfl) ?_;have ld:Later w3 w3.drew:=Later.drew w3;have hsd:w3.heap.size≤w3.drew.heap.size:=ld.size;generalize w3.drew=wd at*;have FD:=zAc (zAb ld F3.out);have hltf:f2.blk<w3.heap.size:=(eS F3.out);have q2:∀v,But (fun q=>w3.heap.size≤q) wd v→∀j,v.cell? ⟨f2.blk,j,none⟩=_:=fun v hv=>zAa ((hv.block f2.blk (by omega) (fun e=>by have e':w3.heap.size≤f2.blk:=e;omega)).trans FD.out);unfold flc at q2;rw[HS.out.r2]at q2;simp only[rG]at q2;refine tX (But.pre _) 0 ?_;refine tX (But.pre _) 1 ?_;refine tX (But.pre _) 2 ?_;refine tX (But.pre _) 3 ?_;refine tX (But.pre _) 4 ?_;refine tX (But.pre _) 5 ?_;refine tX (But.pre _) 6 ?_;refine tX (But.pre _) 7 ?_;refine tX (But.pre _) 8 ?_;refine tX (But.pre _) 9 ?_;refine tX (But.pre _) 10 ?_;refine tX (But.pre _) 11 ?_;refine tX (But.pre _) 12 ?_;refine tX (But.pre _) 13 ?_;clear q2;have la:=zAe wd (.cells #[.int .u8 0,.int .u32 0,.int .u16 0] 230)
   have ca:=zAc (heap_alloc_new wd (.cells #[.int .u8 0,.int .u32 0,.int .u16 0] 230));have LA:=zAc la;clear la;refine tO 14 ?_;unfold Oper.wp;go_simp;refine⟨But.of LA.out,?_⟩;have hsl:=LA.out.size;generalize hqx:wd.alloc _=w4 at*;generalize hgn:wd.heap.size=gn at*;clear hqx;have kA:=zAa ca.out;have fA:=zAd ca.out;refine tO 15 ?_;unfold Oper.wp;go_simp;generalize hV:World.setCell _ ⟨gn,2,none⟩ _=w5;have hV9:w5=zAj w4 gn 0 [.int .u8 47,.int .u32 16909060,.int .u16 ((tkn 1000 1063 c:Nat):Int)]:=hV.symm;have hb5:But (fun q=>q=gn) w4 w5:=by rw[hV9];exact zAf (E:=fun q=>q=gn) (n:=gn) rfl _ _ _ _ (But.refl _ _)
   have p5:=zAg [.int .u8 47,.int .u32 16909060,.int .u16 ((tkn 1000 1063 c:Nat):Int)] ca.out rfl;rw[←hV9]at p5;clear hV hV9 kA fA;refine⟨⟨hb5.os,hb5.tape,hb5.output,hb5.size,fun q hq hn=>hb5.block q hq (fun e=>hn (by have e':q=gn:=e;show w3.heap.size≤q;omega))⟩,?_⟩;refine tD ?_;have L35:Later w3 w5:=ld.trans (Below.trans LA.out (hb5.below LA.out.size (fun k hk e=>by have e':k=gn:=e;omega)));have K5:=zAc (K3.out.trans (KG.of_later L35));have G5:=zAc (G3.out.later L35);have C5:=zAc (zAb L35 C3.out);have N5:=zAc p5;have H5:=zAc (HH.out.kg K5.out);have V5:=zAc (HvT.kg (nv:=f.hv) HV.out K5.out);have LAs:=zAc (show w.heap.size≤gn by have:=K3.out.size;omega);clear p5 hb5 LA ca ld hsd hsl G3 F3 FD C3 K3;obtain⟨ab,cap,cur,hh5,hab,ha5,hcap,hz,c0,c1,c2,c3⟩:=H5.out.row;have HDC:=zAc (zLs gn ab cap (c:Int) ((tkn 1000 1063 c:Nat):Int) cur w5 hcap ha5 hz c0 c1 c2 c3 N5.out)
   have hneH:hb≠ab:=fun e=>by
    rw[e,ha5]at hh5;have:=(Obj.cells.inj (Option.some.inj hh5)).2.1;revert this
    decide
   have A5:=zAc ha5;have HB5:=zAc hh5;clear c0 c1 c2 c3 hz ha5 hh5;have kh:=zAa HB5.out;go_wp2_with fail;refine HDC.out.mono ?_;rintro e w6 ⟨rfl,hb6⟩;have H6:=zAc ((hb6.block hb (eS HB5.out) hneH).trans HB5.out);have B6:=zAc hb6;have G6:=zAc (G5.out.other (TE.one A5.out) hb6 (by decide))
   have N6:=zAc ((hb6.block gn (eS N5.out) (fun e=>by
    have e':gn=ab:=e;have h1:=N5.out;rw[e',A5.out]at h1;have:=(Obj.cells.inj (Option.some.inj h1)).2.1;revert this
    decide)).trans N5.out)
   have C6:=zAc ((hb6.block gx (eS C5.out) (fun e=>by
    have e':gx=ab:=e;have h1:=C5.out;rw[e',A5.out]at h1;have:=(Obj.cells.inj (Option.some.inj h1)).2.1;revert this
    decide)).trans C5.out)
   have V6:Hid (HvT base w6 f.hv (nn:Int) ((tkn 1000 1063 c:Nat):Int)):=zCp V5.out hb6 A5.out (by decide);clear kh HDC hb6 G5 N5 C5 V5;have kh:=zAa H6.out;have fh:=zAd H6.out;go_upto_region 8 with fail;clear kh fh;have hb7:But (fun q=>q=hb) w6 (w6.setCell ⟨hb,0,none⟩ (.slice (some ⟨ab,0,none⟩) 0 cap)):=(But.refl (fun q=>q=hb) _).setCell (p:=⟨hb,0,none⟩) (show _=_ from rfl) _
   have K7:=zAc (((Kgl.of_kg K5.out).trans (Kgl.of_but B6.out (fun k e o ho=>by
    have e':k=ab:=e;rw[e']at ho⊢;refine⟨hab,fun cur t fz hq=> ?_⟩;subst hq;rw[A5.out]at ho;rw[←(Obj.cells.inj (Option.some.inj ho)).2.1];decide))).trans (Kgl.of_but hb7 (fun k e o ho=>by
    have e':k=hb:=e;rw[e']at ho⊢;refine⟨hbb,fun cur t fz hq=> ?_⟩;subst hq;rw[H6.out]at ho;rw[←(Obj.cells.inj (Option.some.inj ho)).2.1];decide)))
   have G7:=zAc (G6.out.other (TE.one H6.out) hb7 (by decide));have V7:Hid (HvT base (w6.setCell ⟨hb,0,none⟩ (.slice (some ⟨ab,0,none⟩) 0 cap)) f.hv (nn:Int) ((tkn 1000 1063 c:Nat):Int)):=zCp V6.out hb7 H6.out (by decide)
   have keep7:∀(k:Nat) (cur:Array Value) (t:TypeId) (fz:Nat × Nat),w6.heap[k]? =some (.cells cur t fz)→t≠462→(w6.setCell ⟨hb,0,none⟩ (.slice (some ⟨ab,0,none⟩) 0 cap)).heap[k]? =some (.cells cur t fz):=fun k cur t fz hk ht=>(hb7.block k (eS hk) (fun e=>by
    have e':k=hb:=e;rw[e',H6.out]at hk;exact ht (Obj.cells.inj (Option.some.inj hk)).2.1.symm)).trans hk
   have N7:=zAc (keep7 _ _ _ _ N6.out (by decide));have C7:=zAc (keep7 _ _ _ _ C6.out (by decide));have hgnw:w.heap.size≤gn:=LAs.out
   have hvo:f.hv.ownBlock≠some gn:=fun e=>by
    have:=(HV.out.lt gn e).2;omega
   clear hb7 keep7 K5 B6 A5 G6 V6 N6 C6 H6 HB5 H5;generalize w6.setCell ⟨hb,0,none⟩ _=w7 at*;have hs1:(zRv s f2 L v3 fe3).fs=[f]:=HS.out.rest;have hmem1:∀x∈(zRv s f2 L v3 fe3).fs,x=f:=fun x hx=>by rw[hs1]at hx;exact List.mem_singleton.1 hx
   have HRL:=zAc (zLt base g (zRv s f2 L v3 fe3) f (nn:Int) ((tkn 1000 1063 c:Nat):Int) w7 G7.out (by rw[hs1];simp) (fun x hx _=>hmem1 x hx) V7.out (Nat.le_trans hbs K7.out.size));have HFB:=zAc ((G7.out.fb f (by rw[hs1];simp)).2);have k0:=zAa C7.out;have k1:=zAa N7.out;go_wp2_with fail;refine HRL.out.mono ?_;rintro e w8 ⟨rfl,k8,hkeep,nv,hG8⟩
   have hfbn:gn≠f.blk:=fun e=>by
    have h1:=N7.out;rw[e,HFB.out]at h1;have:=(Obj.cells.inj (Option.some.inj h1)).2.1;revert this
    decide
   have hfbx:gx≠f.blk:=fun e=>by
    have h1:=C7.out;rw[e,HFB.out]at h1;have:=(Obj.cells.inj (Option.some.inj h1)).2.1;revert this
    decide
   have N8:=zAc (hkeep gn _ N7.out hvo hfbn);have C8:=zAc (k8.cells C7.out (by decide));have K8:=zAc (K7.out.trans k8);have G8:=zAc hG8;have HM1:=zAc hmem1;have HS1:=zAc hs1;clear k0 k1 HRL V7 N7 C7 G7 K7 k8 hkeep hG8 HFB hmem1 hs1;have k0:=zAa C8.out;have k1:=zAa N8.out;have la:=zAe w8 (.cells #[.int .u8 47,.int .u32 16909060,.int .u16 ((tkn 1000 1063 c:Nat):Int)] 230);have N9:=zAc (heap_alloc_new w8 (.cells #[.int .u8 47,.int .u32 16909060,.int .u16 ((tkn 1000 1063 c:Nat):Int)] 230));obtain⟨pa,pb,hps,hpn⟩:=HS.out.ps;have hlo:s.lo=1000:=HS.out.lo;have hhi:s.hi=1063:=HS.out.hi;have HGV:=zAc (give_two base g (zHk (zRv s f2 L v3 fe3) { f with hv:=nv }) pa pb ws (zJa c) (tkn 1000 1063 c) w8.heap.size (w8.alloc (.cells #[.int .u8 47,.int .u32 16909060,.int .u16 ((tkn 1000 1063 c:Nat):Int)] 230)) (G8.out.later la) hps hpn (by omega) (by show hsP s.lo s.hi _ _=true;rw[hlo,hhi];exact ws47_has c) N9.out);have hpbb:=((G8.out.later la).pb ⟨47,16909060,pb,zJa c⟩ (by show _∈s.ps;rw[hps];simp));have HPB:=zAc hpbb;have LA9:=zAc la;have HPS:=zAc hps;clear la hpbb hps hpn;go_wp2_with fail;refine HGV.out.mono ?_;rintro e w10 ⟨rfl,hb10,hG10⟩
   have K10:Kgl base w w10:=(K8.out.trans (Kgl.of_kg (KG.of_later LA9.out))).trans (Kgl.of_but hb10 (fun k e o ho=>by
    have e':k=pb:=e;rw[e']at ho⊢;refine⟨HPB.out.1,fun cur t fz hq=> ?_⟩;subst hq;rw[HPB.out.2.2]at ho;rw[←(Obj.cells.inj (Option.some.inj ho)).2.1];decide))
   have hfs:(old2 (zHk (zRv s f2 L v3 fe3) { f with hv:=nv }) pa ws pb (wsA (zJa c) (tkn 1000 1063 c))).fs=[{ f with hv:=nv }]:=by
    show(zRv s f2 L v3 fe3).fs.map _=_
    rw[HS1.out];simp
   have HFIN:Hid (Kgl base w w10∧VE base g w10):=⟨K10,_,hG10,by rw[hfs];rfl,fun x hx y hy _=>by rw[hfs]at hx hy;rw[List.mem_singleton.1 hx,List.mem_singleton.1 hy],ES3.out,hlo,hhi,pa,pb,ws,wsA (zJa c) (tkn 1000 1063 c),rfl,fun n h1 h2=>ws47_all c n h1 h2⟩;clear k0 k1 HGV hb10 hG10 K10 hfs;go_wp2_with fail;refine⟨?_,by simp[intOf]⟩;repeat (apply Exists.intro)
   exact⟨.inr ⟨rfl,HFIN.out.1,HFIN.out.2⟩,rfl⟩
  ·have HK:=zAc hK
   have HE:=zAc hE;clear hK hE;go_wp2_with fail;go_end0
   exact⟨rfl,HK.out,HE.out⟩
theorem VE.aside {base g:Nat} {A B:World} (h:VE base g A) {k:Nat} {cur:Array Value} {t:TypeId} {fz:Nat × Nat} (hk:A.heap[k]? =some (.cells cur t fz))(ht:t=40∨t=32∨t=36)(hB:But (fun q=>q=k) A B):VE base g B:=by
 obtain⟨s,h1,h2⟩:=h;exact⟨s,h1.other (TE.one hk) hB (by rcases ht with rfl|rfl|rfl<;>decide),h2⟩
def GoQ (base g:Nat) (w w':World):Prop:=Kgl base w w'∧VE base g w'
theorem GoQ.later {base g:Nat} {w A B:World} (h:GoQ base g w A)(l:Later A B):GoQ base g w B:=⟨h.1.trans (Kgl.of_kg (KG.of_later l)),h.2.later l⟩
theorem GoQ.from {base g:Nat} {w A B:World} (h:GoQ base g A B)(l:Later w A):GoQ base g w B:=⟨(Kgl.of_kg (KG.of_later l)).trans h.1,h.2⟩
theorem GoQ.aside {base g:Nat} {w A B:World} (h:GoQ base g w A) {k:Nat} {cur:Array Value} {t:TypeId} {fz:Nat × Nat} (hk:A.heap[k]? =some (.cells cur t fz))(ht:t=40∨t=32)(hB:But (fun q=>q=k) A B)(hw:w.heap.size≤k):GoQ base g w B:=⟨h.1.own hB hw,h.2.aside hk (by rcases ht with rfl|rfl<;>simp) hB⟩
theorem zLu(base g:Nat)(s:Gf)(f f2:Fl)(hb nn c:Nat)(d st2:Int)(ws:Nat→Nat)(src dst:Int)(so sd:Value)(bk:Bool)(t0 t1 t2 t3 t4 i0 i1 i2 i3 i4:Int)(da:Option Addr)(dl dc:Nat)(w:World)(h:GF base w g s)(hS:S3 s f f2 nn (c:Int) d ((tkn 1000 1063 c:Nat):Int) 3 st2 ws (zJa c))(hH:HpD base w hb (c:Int) ((tkn 1000 1063 c:Nat):Int))(hv:HvT base w f.hv (nn:Int) ((tkn 1000 1063 c:Nat):Int))(hbs:base≤w.heap.size)(hbb:base≤hb)(hc:c<65536)(hd:0≤d∧d≤65535):
  Calls Tryz.prog 402 #[.pointer (some ⟨hb,0,none⟩),.agg #[.pointer (some ⟨g,0,none⟩),.int .u8 0,.int .u16 0,.bool false,.int .u8 64,.int .u8 6,.int .u32 src,.int .u32 dst,so,sd,.int .i64 1,.pointer (some ⟨f.blk,0,none⟩),.bool bk,.int .u8 t0,.int .u32 t1,.int .u32 t2,.int .u16 t3,.int .u16 t4,.int .u8 i0,.int .u32 i1,.int .u32 i2,.int .u16 i3,.int .u16 i4],.agg #[.int .i64 13,.int .u16 d,.int .u16 0,.int .u8 0],.slice da dl dc] w fun e w'=>e= .returned (.slice da dl dc)∧GoQ base g w w':=by
 obtain⟨l0,c0,c1⟩:=zBj w (.cells #[.pointer (some ⟨g,0,none⟩),.int .u8 0,.int .u16 0,.bool false,.int .u8 64,.int .u8 6,.int .u32 src,.int .u32 dst,so,sd,.int .i64 1,.pointer (some ⟨f.blk,0,none⟩),.bool bk,.int .u8 t0,.int .u32 t1,.int .u32 t2,.int .u16 t3,.int .u16 t4,.int .u8 i0,.int .u32 i1,.int .u32 i2,.int .u16 i3,.int .u16 i4] 242) (.cells #[.int .i64 13,.int .u16 d,.int .u16 0,.int .u8 0] 52);have C0:=zAc c0;have C1:=zAc c1;have HHU:=zAc (zOr base g s f f2 hb nn c d st2 ws src dst so sd 1 bk t0 t1 t2 t3 t4 i0 i1 i2 i3 i4 _ (h.later l0) hS (hH.later l0) (HvT.kg (nv:=f.hv) hv (KG.of_later (base:=base) l0)) (Nat.le_trans hbs l0.size) hbb hc hd);clear c0 c1 h hS hH hv;go_enter Tryz.func402,Tryz.ntmps402;go_upto_region 1 with fail;change Code.wp _ _ _ _ ((w.alloc (.cells #[.pointer (some ⟨g,0,none⟩),.int .u8 0,.int .u16 0,.bool false,.int .u8 64,.int .u8 6,.int .u32 src,.int .u32 dst,so,sd,.int .i64 1,.pointer (some ⟨f.blk,0,none⟩),.bool bk,.int .u8 t0,.int .u32 t1,.int .u32 t2,.int .u16 t3,.int .u16 t4,.int .u8 i0,.int .u32 i1,.int .u32 i2,.int .u16 i3,.int .u16 i4] 242)).alloc (.cells #[.int .i64 13,.int .u16 d,.int .u16 0,.int .u8 0] 52))
 generalize (w.alloc (.cells #[.pointer (some ⟨g,0,none⟩),.int .u8 0,.int .u16 0,.bool false,.int .u8 64,.int .u8 6,.int .u32 src,.int .u32 dst,so,sd,.int .i64 1,.pointer (some ⟨f.blk,0,none⟩),.bool bk,.int .u8 t0,.int .u32 t1,.int .u32 t2,.int .u16 t3,.int .u16 t4,.int .u8 i0,.int .u32 i1,.int .u32 i2,.int .u16 i3,.int .u16 i4] 242)).alloc (.cells #[.int .i64 13,.int .u16 d,.int .u16 0,.int .u8 0] 52)=w1 at*;generalize hgx:w.heap.size=gx at*;have k1:=zAa C1.out;have HRG:=zAc (zAw (xs:=[.pointer (some ⟨g,0,none⟩),.int .u8 0,.int .u16 0,.bool false,.int .u8 64,.int .u8 6,.int .u32 src,.int .u32 dst,so,sd,.int .i64 1,.pointer (some ⟨f.blk,0,none⟩),.bool bk,.int .u8 t0,.int .u32 t1,.int .u32 t2,.int .u16 t3,.int .u16 t4,.int .u8 i0,.int .u32 i1,.int .u32 i2,.int .u16 i3,.int .u16 i4]) C0.out);go_upto_region 2 with fail;go_wp2_with (refine wpList_load_mid rfl 242 (.tmp 5) rfl gx 0 rfl _ _ HRG.out Tryz.underlying242 rfl zBs ?_)
 refine HHU.out.mono ?_;rintro e w4 ⟨rfl,k4,hE⟩;have HF:Hid (GoQ base g w w4):=⟨(Kgl.of_kg (KG.of_later l0)).trans k4,hE⟩;clear k1 HRG HHU k4 hE;go_wp2_with fail;go_ret
 exact⟨rfl,HF.out⟩
theorem chg_not {base n1:Nat} {src0 dst0 sp dp sq ak fl:Int} {zm z:List Int} (hT0:TG src0 dst0 sp dp sq ak fl zm z)(q:Tu)(hq:TuB q)(hl:zm.length≤500)(hBm:Mt.By zm)(hsq:0≤sq∧sq≤4294967295)(hak:0≤ak∧ak≤4294967295)(hfl:0≤fl∧fl≤255)(g hb nn c:Nat)(d st2:Int)(ws:Nat→Nat)(hok:lye zm=0)(h7:pmT zm=13)(hcc:zAl zm (lyC zm)=d)(hpp:zAl zm (lyP zm)=0)(hrr:pmR zm=0)(s:Gf)(f f2:Fl)(W:World)(src dst:Int)(so sd:Value)(bk:Bool)(t0 t1 t2 t3 t4 i0 i1 i2 i3 i4:Int)(ao ad:Option Addr)(co cd:Nat)(h:GF base W g s)(hS:S3 s f f2 nn (c:Int) d ((tkn 1000 1063 c:Nat):Int) 3 st2 ws (zJa c))(hH:HpD base W hb (c:Int) ((tkn 1000 1063 c:Nat):Int))(hv:HvT base W f.hv (nn:Int) ((tkn 1000 1063 c:Nat):Int))(hbb:base≤hb)(hc:c<65536)(hd:0≤d∧d≤65535)(hn:base≤n1∧n1≤W.heap.size)(hO:Ow n1 W (.slice ao 0 co) [])(hD:Ow n1 W (.slice ad z.length cd) (rwD 6 q.dst q.src q.dp q.sp z)):
  Calls Tryz.prog 399 #[.pointer (some ⟨hb,0,none⟩),.agg #[.pointer (some ⟨g,0,none⟩),.int .u8 0,.int .u16 0,.bool false,.int .u8 64,.int .u8 6,.int .u32 src,.int .u32 dst,so,sd,.int .i64 1,.pointer (some ⟨f.blk,0,none⟩),.bool bk,.int .u8 t0,.int .u32 t1,.int .u32 t2,.int .u16 t3,.int .u16 t4,.int .u8 i0,.int .u32 i1,.int .u32 i2,.int .u16 i3,.int .u16 i4],.agg #[.int .u8 0,.int .u16 0,.bool false,.int .u8 64,.int .u8 6,.int .u32 q.dst,.int .u32 q.src,.slice ao 0 co,.slice ad z.length cd]] W fun e w'=>∃a7 c7 a8 c8 z2,e= .returned (.agg #[.int .u8 0,.int .u16 0,.bool false,.int .u8 64,.int .u8 6,.int .u32 q.dst,.int .u32 q.src,.slice a7 0 c7,.slice a8 z2.length c8])∧GoQ base g W w'∧TG q.dst q.src q.dp q.sp sq ak fl zm z2∧Ow n1 w' (.slice a7 0 c7) []∧Ow n1 w' (.slice a8 z2.length c8) z2:=by
 have hT:=zCc (s:=q.dst) (d:=q.src) (a:=q.dp) (b:=q.sp) hT0 hq.2.1 hq.1 hq.2.2.2 hq.2.2.1;generalize hzt:rwD 6 q.dst q.src q.dp q.sp z=zt at*;have hzl:zt.length=z.length:=by rw[←hzt];exact zBl _ _ _ _ _
 rw[←hzl]at hD⊢;clear hzt hzl hT0;obtain⟨l0,c0,c1,c2⟩:=zH8 W (.cells #[.pointer (some ⟨g,0,none⟩),.int .u8 0,.int .u16 0,.bool false,.int .u8 64,.int .u8 6,.int .u32 src,.int .u32 dst,so,sd,.int .i64 1,.pointer (some ⟨f.blk,0,none⟩),.bool bk,.int .u8 t0,.int .u32 t1,.int .u32 t2,.int .u16 t3,.int .u16 t4,.int .u8 i0,.int .u32 i1,.int .u32 i2,.int .u16 i3,.int .u16 i4] 242) (.cells #[.int .u8 0,.int .u16 0,.bool false,.int .u8 64,.int .u8 6,.int .u32 q.dst,.int .u32 q.src,.slice ao 0 co,.slice ad zt.length cd] 40) (.cells #[.int .u8 0,.int .u16 0,.bool false,.int .u8 0,.int .u8 0,.int .u32 0,.int .u32 0,.slice none 0 0,.slice none 0 0] 40);have C0:=zAc c0;have C1:=zAc c1;have C2:=zAc c2;have HP:=zAc (fun V (l:Later W V)=>zEi hT 0 0 64 false (.slice ao 0 co) (.slice ad zt.length cd) V ((hD.kg (KG.of_later (base:=base) l)).rd) hl hq.2.1 hq.1);have HF:=zAc (fun V (l:Later W V) (da:Option Addr) (dl dc:Nat)=>zLu base g s f f2 hb nn c d st2 ws src dst so sd bk t0 t1 t2 t3 t4 i0 i1 i2 i3 i4 da dl dc V (h.later l) hS (hH.later l) (HvT.kg (nv:=f.hv) hv (KG.of_later (base:=base) l)) (Nat.le_trans hn.1 (Nat.le_trans hn.2 l.size)) hbb hc hd);have HOK:=zAc hok;have H7:=zAc h7;have HCC:=zAc hcc;have HPP:=zAc hpp;have HRQ:=zAc hrr;have OO:=zAc hO;have ZZ:=zAc hD;clear c0 c1 c2 hD h hS hH hv hok h7 hcc hpp hrr hO;go_enter Tryz.func399,Tryz.ntmps399;go_upto_region 1 with fail;generalize hw1:World.alloc _ _=w1 at*;clear hw1
 generalize hgx:W.heap.size=g0 at C0 C1 C2⊢;have k1:=zAa C1.out;go_wp2_with fail;refine(HP.out w1 l0).mono ?_;rintro e w2 ⟨l2,aO,cO,am,cm,rfl,hD2,hRO⟩;have HRO:=zAc hRO;clear hRO;have l2':Later w1 w2:=l2;have la:=zAe w2 (.cells #[.int .u16 q.dp,.int .u16 q.sp,.int .u32 sq,.int .u32 ak,.int .u8 fl,.int .u16 0,.int .u16 0,.slice aO 0 cO,.slice am zm.length cm] 32);have E3:=zAc (heap_alloc_new w2 (.cells #[.int .u16 q.dp,.int .u16 q.sp,.int .u32 sq,.int .u32 ak,.int .u8 fl,.int .u16 0,.int .u16 0,.slice aO 0 cO,.slice am zm.length cm] 32));have L3:Later W (w2.alloc (.cells #[.int .u16 q.dp,.int .u16 q.sp,.int .u32 sq,.int .u32 ak,.int .u8 fl,.int .u16 0,.int .u16 0,.slice aO 0 cO,.slice am zm.length cm] 32)):=l0.trans (l2'.trans la);have E0:=zAc (zAb (l2'.trans la) C0.out);have E1:=zAc (zAb (l2'.trans la) C1.out);have E2:=zAc (zAb (l2'.trans la) C2.out);have D3:=zAc (hD2.later la);have hs1:W.heap.size≤w1.heap.size:=l0.size;clear k1 HP C0 C1 C2 l2 la hD2;go_upto_region 2 with fail;change Code.wp _ _ _ _ (w2.alloc (.cells #[.int .u16 q.dp,.int .u16 q.sp,.int .u32 sq,.int .u32 ak,.int .u8 fl,.int .u16 0,.int .u16 0,.slice aO 0 cO,.slice am zm.length cm] 32));generalize w2.alloc (.cells #[.int .u16 q.dp,.int .u16 q.sp,.int .u32 sq,.int .u32 ak,.int .u8 fl,.int .u16 0,.int .u16 0,.slice aO 0 cO,.slice am zm.length cm] 32)=w3 at*;generalize hg3:w2.heap.size=g3 at*
 have hg3w:w1.heap.size≤g3:=by
  have h2:=l2'.size;omega
 have hs3:w1.heap.size≤w3.heap.size:=by
  have:=(eS E3.out);have h2:=l2'.size;omega
 have kn:=zAa E3.out;have HQ:=zAc (zBu (.slice am zm.length cm) zm hBm w3 (Nat.le_refl _) (D3.out.rd));go_wp2_with fail;refine HQ.out.mono ?_;rintro e w4 ⟨rfl,l4⟩;unfold msg;rw[HOK.out,H7.out,HCC.out,HPP.out,HRQ.out];have lm:=zAe w4 (.cells #[.int .i64 13,.int .u16 d,.int .u16 0,.int .u8 0] 52);have F4:=zAc (heap_alloc_new w4 (.cells #[.int .i64 13,.int .u16 d,.int .u16 0,.int .u8 0] 52));have L5:=L3.trans (l4.trans lm);have F0:=zAc (zAb (l4.trans lm) E0.out);have F1:=zAc (zAb (l4.trans lm) E1.out);have F2:=zAc (zAb (l4.trans lm) E2.out);have F3:=zAc (zAb (l4.trans lm) E3.out);have D5:=zAc (D3.out.later (l4.trans lm));clear kn HQ E0 E1 E2 E3 D3 l4 lm HOK H7 HCC HPP HRQ;go_upto_region 3 with fail;change Code.wp _ _ _ _ (w4.alloc (.cells #[.int .i64 13,.int .u16 d,.int .u16 0,.int .u8 0] 52));generalize w4.alloc (.cells #[.int .i64 13,.int .u16 d,.int .u16 0,.int .u8 0] 52)=w5 at*;generalize hg4:w4.heap.size=g4 at*;have k3:=zAa F3.out;go_upto_region 5 with fail;go_upto_region 6 with fail;have ln:=zAe w5 (.cells #[.int .u16 q.dp,.int .u16 q.sp,.int .u32 sq,.int .u32 ak,.int .u8 fl,.int .u16 0,.int .u16 0,.slice aO 0 cO,.slice am zm.length cm] 32);have N5:=zAc (heap_alloc_new w5 (.cells #[.int .u16 q.dp,.int .u16 q.sp,.int .u32 sq,.int .u32 ak,.int .u8 fl,.int .u16 0,.int .u16 0,.slice aO 0 cO,.slice am zm.length cm] 32));have L6:=L5.trans ln;have J0:=zAc (zAb ln F0.out)
 have J1:=zAc (zAb ln F1.out);have J2:=zAc (zAb ln F2.out);have J3:=zAc (zAb ln F3.out);have J4:=zAc (zAb ln F4.out);have D6:=zAc (D5.out.later ln);have hgA:g0+1+1<w5.heap.size:=(eS F2.out);have hgB:g3<w5.heap.size:=(eS F3.out);clear k3 F0 F1 F2 F3 F4 D5 ln;change Code.wp _ _ _ _ (w5.alloc (.cells #[.int .u16 q.dp,.int .u16 q.sp,.int .u32 sq,.int .u32 ak,.int .u8 fl,.int .u16 0,.int .u16 0,.slice aO 0 cO,.slice am zm.length cm] 32));generalize w5.alloc (.cells #[.int .u16 q.dp,.int .u16 q.sp,.int .u32 sq,.int .u32 ak,.int .u8 fl,.int .u16 0,.int .u16 0,.slice aO 0 cO,.slice am zm.length cm] 32)=w6 at*;generalize hg5:w5.heap.size=g5 at*
 have hg5W:W.heap.size≤g5:=by
  have:=L5.size;omega
 have HRG:=zAc (zAw (xs:=[.pointer (some ⟨g,0,none⟩),.int .u8 0,.int .u16 0,.bool false,.int .u8 64,.int .u8 6,.int .u32 src,.int .u32 dst,so,sd,.int .i64 1,.pointer (some ⟨f.blk,0,none⟩),.bool bk,.int .u8 t0,.int .u32 t1,.int .u32 t2,.int .u16 t3,.int .u16 t4,.int .u8 i0,.int .u32 i1,.int .u32 i2,.int .u16 i3,.int .u16 i4]) J0.out);go_wp2_with (refine wpList_load_mid rfl 242 (.tmp 4) rfl g0 0 rfl _ _ HRG.out Tryz.underlying242 rfl zBs ?_)
 refine(zEh #[] w6 g 0 0 64 src dst false so sd 1 (.inr rfl) f.blk bk t0 t1 t2 t3 t4 i0 i1 i2 i3 i4).mono ?_;rintro e w7 ⟨rfl,l7⟩;have l7':Later w6 w7:=l7;have L7:=L6.trans l7';have P0:=zAc (zAb l7' J0.out);have P1:=zAc (zAb l7' J1.out);have P2:=zAc (zAb l7' J2.out);have P3:=zAc (zAb l7' J3.out);have P4:=zAc (zAb l7' J4.out);have P5:=zAc (zAb l7' N5.out);have D7:=zAc (D6.out.later l7');clear J0 J1 J2 J3 J4 N5 D6 l7 l7' HRG;have HRG:=zAc (zAw (xs:=[.pointer (some ⟨g,0,none⟩),.int .u8 0,.int .u16 0,.bool false,.int .u8 64,.int .u8 6,.int .u32 src,.int .u32 dst,so,sd,.int .i64 1,.pointer (some ⟨f.blk,0,none⟩),.bool bk,.int .u8 t0,.int .u32 t1,.int .u32 t2,.int .u16 t3,.int .u16 t4,.int .u8 i0,.int .u32 i1,.int .u32 i2,.int .u16 i3,.int .u16 i4]) P0.out);have k3:=zAa P3.out;have k4:=zAa P4.out
 have hs7:w1.heap.size≤w7.heap.size:=by
  have h1:=(eS P3.out);omega
 have HFC:=zAc (HF.out w7 L7 am zm.length cm);clear HF;go_upto_region 8 with fail;go_wp2_with (refine wpList_load_mid rfl 242 (.tmp 4) rfl g0 0 rfl _ _ HRG.out Tryz.underlying242 rfl zBs ?_)
 refine HFC.out.mono ?_;rintro e w8 ⟨rfl,hCG⟩;have K8:Kgl base w7 w8:=hCG.1;have hs8:w7.heap.size≤w8.heap.size:=K8.size;have CG8:=zAc (hCG.from L7);have Q1:=zAc (K8.cells P1.out (by decide));have Q2:=zAc (K8.cells P2.out (by decide));have Q3:=zAc (K8.cells P3.out (by decide));have Q5:=zAc (K8.cells P5.out (by decide));have D8:=zAc (Kgl.ow8 D7.out K8);have O8:=zAc (Kgl.ow8 (OO.out.kg (KG.of_later (base:=base) L7)) K8);have Z8:=zAc (Kgl.ow8 (ZZ.out.kg (KG.of_later (base:=base) L7)) K8);have OM:=D8;clear k3 k4 HFC HRG P0 P1 P2 P3 P4 P5 D7 OO hCG K8;have k5:=zAa Q5.out;have f5:=zAd Q5.out;go_upto_region 9 with fail;clear k5 f5;have hb9:But (fun q=>q=g5) w8 (w8.setCell ⟨g5,8,none⟩ (.slice am zm.length cm)):=(But.refl (fun q=>q=g5) _).setCell (p:=⟨g5,8,none⟩) (show _=_ from rfl) _;have R5:=zAc (zAh Q5.out 8 (.slice am zm.length cm));have CG9:=zAc (CG8.out.aside Q5.out (.inr rfl) hb9 hg5W);have hg5n:∀ {k:Nat} {o:Obj},w8.heap[k]? =some o→k≠g5→(w8.setCell ⟨g5,8,none⟩ (.slice am zm.length cm)).heap[k]? =some o:=fun hk hne=>(hb9.block _ (eS hk) hne).trans hk;have R1:=zAc (hg5n Q1.out (by omega));have R2:=zAc (hg5n Q2.out (by omega));have R3:=zAc (hg5n Q3.out (by omega));have D9:=zAc (D8.out.aside Q5.out (by decide) hb9);have O9:=zAc (O8.out.aside Q5.out (by decide) hb9);have Z9:=zAc (Z8.out.aside Q5.out (by decide) hb9);have M9:=zAc (OM.out.aside Q5.out (by decide) hb9);clear hg5n hb9 Q1 Q2 Q3 Q5 D8 O8 OM CG8
 generalize w8.setCell ⟨g5,8,none⟩ _=w9 at*;have k1:=zAa R1.out;have k3:=zAa R3.out;have k5:=zAa R5.out
 have hsz9:W.heap.size≤w9.heap.size:=by
  have h1:=(eS R5.out);omega
 have HWS:=zAc (zHs n1 q.dst q.src q.dp q.sp sq ak fl zm zm zt ao ad aO co cd cO am am cm cm w9 (by omega) hq.2.1 hq.1 hq.2.2.2 hq.2.2.1 hsq hak hfl hBm hBm hl rfl hT O9.out Z9.out (HRO.out _ _) (D9.out.rd) (D9.out.rd));go_wp2_with fail;refine HWS.out.mono ?_;rintro e w10 ⟨l10,a7,c7,a8,c8,z2,rfl,hT2,hO2,hD2⟩;have T2:=zAc (zAb l10 R2.out);have CG10:=zAc (CG9.out.later l10);have HT2:=zAc hT2;have HO2:=zAc hO2;have HD2:=zAc hD2;clear k1 k3 k5 HWS R1 R2 R3 R5 D9 O9 M9 CG9 l10 hT2 hO2 hD2;have k2:=zAa T2.out;have f2:=zAd T2.out;go_wp2_with fail;generalize hV:World.setCell _ ⟨_,8,none⟩ _=V8;have hV9:V8=zAj w10 (g0+1+1) 0 [.int .u8 0,.int .u16 0,.bool false,.int .u8 64,.int .u8 6,.int .u32 q.dst,.int .u32 q.src,.slice a7 0 c7,.slice a8 z2.length c8]:=hV.symm;have hb8:But (fun b=>b=g0+1+1) w10 V8:=by rw[hV9];exact zAf (E:=fun b=>b=g0+1+1) (n:=g0+1+1) rfl _ _ _ _ (But.refl _ _)
 have p8:=zAg [.int .u8 0,.int .u16 0,.bool false,.int .u8 64,.int .u8 6,.int .u32 q.dst,.int .u32 q.src,.slice a7 0 c7,.slice a8 z2.length c8] T2.out rfl;rw[←hV9]at p8;clear hV hV9 k2 f2;have P8:=zAa p8;have CG11:=CG10.out.aside T2.out (.inl rfl) hb8 (by omega);exact bodyPost_ret (v:= .agg #[.int .u8 0,.int .u16 0,.bool false,.int .u8 64,.int .u8 6,.int .u32 q.dst,.int .u32 q.src,.slice a7 0 c7,.slice a8 z2.length c8]) (by simp[results,Tryz.results399,go_sem,P8]) rfl ⟨a7,c7,a8,c8,z2,rfl,CG11,HT2.out,HO2.out.asideF T2.out (by decide) hb8,HD2.out.asideF T2.out (by decide) hb8⟩
theorem zEj {base:Nat} {W:World} {g n cap:Nat} {zs:List Int} (h:Ow base W (.slice (some ⟨g,0,none⟩) n cap) zs)(j:Nat)(hj:j<zs.length)(v:Int):Ow base (W.setCell ⟨g,j,none⟩ (.int .u8 v)) (.slice (some ⟨g,0,none⟩) n cap) (zs.set j v):=by
 rcases h with⟨e,_⟩|⟨g2,cap2,cur,e,hg,hl,hs,hm,hh,hc⟩
 ·cases e
 ·simp at e
  obtain⟨rfl,rfl,rfl⟩:=e;refine .inr ⟨g,cap,cur.setIfInBounds j (.int .u8 v),by simp,hg,by simpa using hl,by simpa using hs,hm,zAh hh j _,?_⟩;simp only[List.length_set,List.map_set,←hc,Array.toList_setIfInBounds,List.take_set]
theorem mk8P(w:World)(n:Nat)(hn:n≤1000):∃o:Obj,(Instr.makeSlice 26 (.int .i64 (n:Int)) (.int .i64 (n:Int))).run Tryz.prog w= .ok (.slice (some ⟨w.heap.size,0,none⟩) n n) (w.alloc o)∧Ow w.heap.size (w.alloc o) (.slice (some ⟨w.heap.size,0,none⟩) n n) (List.replicate n 0):=by
 obtain⟨i0,hi,hz0,hz1,hz2⟩:=info_parts zBi;refine⟨.cells (madeCells (Value.int .u8 0).cells n) 5,?_,?_⟩
 ·have:=run_make (P:=Tryz.prog) w 26 5 i0 _ Tryz.underlying26 hi hz0 .i64 .i64 (n:Int) (n:Int) (by omega) (by omega) (by rw[hz2];omega) (by omega)
  rw[hz1]at this;simpa using this
 ·have ez:madeCells (Value.int .u8 0).cells n=(List.replicate n (Value.int .u8 0)).toArray:=by
   apply Array.ext
   ·rw[size_madeCells];simp
   ·intro i h1 h2
    simp[madeCells,Value.cells,Nat.mod_one]
  rw[ez];exact .inr ⟨_,n,_,by simp,Nat.le_refl _,by simp,by simp,by omega,heap_alloc_new w _,by simp⟩
def zLv (n t:Int):List Int:=[0,n,0,1,26,43,60,77,0,t]
def zGx (l:List Int) (n k:Nat):List Int:=l.take k++List.replicate (n-k) 0
theorem mixP_len(l:List Int)(n k:Nat)(hk:k≤l.length)(hn:k≤n):(zGx l n k).length=n:=by simp[zGx];omega
theorem zRx(l:List Int)(n k:Nat)(hk:k<l.length)(hn:k<n):(zGx l n k).set k (l[k]?.getD 0)=zGx l n (k+1):=by
 unfold zGx;have e1:(l.take k).length=k:=by simp;omega
 rw[List.set_append_right _ _ (by omega),e1,Nat.sub_self,show n-k=(n-(k+1))+1 from by omega,List.replicate_succ,List.set_cons_zero,←List.take_append_getElem hk];simp only[List.getElem?_eq_getElem hk,Option.getD_some,List.append_assoc,List.singleton_append]
def msB (t c p r:Int):List Int:=if t=8 then(((((zGx (zLv 32 8) 32 10).set 12 (c/256)).set 13 (c % 256)).set 14 (p/256)).set 15 (p % 256)).set 16 r else((zGx (zLv (lsz t) t) (lsz t).toNat 10).set 12 (c/256)).set 13 (c % 256)
theorem zDk(t c p r:Int)(ht:t=7∨t=8∨t=13)(hc:0≤c∧c≤65535)(hp:0≤p∧p≤65535)(hr:0≤r∧r≤255)(w:World):
  Calls Tryz.prog 12 #[.int .i64 t,.int .u16 c,.int .u16 p,.int .u8 r] w fun e w'=>Later w w'∧∃v,e= .returned v∧Ow w.heap.size w' v (msB t c p r):=by
 have HSZ:=zAc (zOh t w)
 obtain⟨n,hn,hnb,hns⟩:∃n:Nat,lsz t=(n:Int)∧(n=168∨n=32∨n=148)∧(t=8↔n=32):=by
  rcases ht with rfl|rfl|rfl
  ·exact ⟨168,rfl,.inl rfl,by decide⟩
  ·exact ⟨32,rfl,.inr (.inl rfl),by decide⟩
  ·exact ⟨148,rfl,.inr (.inr rfl),by decide⟩
 rw[hn]at HSZ
 have hM:msB t c p r=if t=8 then(((((zGx (zLv n t) n 10).set 12 (c/256)).set 13 (c % 256)).set 14 (p/256)).set 15 (p % 256)).set 16 r else((zGx (zLv n t) n 10).set 12 (c/256)).set 13 (c % 256):=by
  unfold msB;by_cases h8:t=8
  ·have:=hns.1 h8
   subst this;subst h8;rfl
  ·rw[if_neg h8,if_neg h8,hn,Int.toNat_natCast]
 have HM:=zAc hM;have hn2:(n:Int)≤168∧(32:Int)≤n:=by omega
 have hsh:(n:Int)/256=0:=by omega
 have htb:0≤t∧t≤13:=by omega
 clear hM hn;go_enter Tryz.func12,Tryz.ntmps12;go_wp2_with fail;refine HSZ.out.mono ?_;rintro e w1 ⟨rfl,l1⟩;have l1':Later w w1:=l1;clear HSZ l1;obtain⟨o,hmk,hO2⟩:=mk8P w1 n (by omega);have HO2:=zAc hO2;have l2:Later w1 (w1.alloc o):=zFu _ _;clear hO2;go_upto_region 3 with fail;generalize w1.alloc o=w2 at*;generalize hg:w1.heap.size=g at*;have rH:=heap_alloc_new w2 (.cells #[.int .u8 0,.int .u8 (n:Int),.int .u8 0,.int .u8 1,.int .u8 26,.int .u8 43,.int .u8 60,.int .u8 77,.int .u8 0,.int .u8 t] 5);have l3:=zFu w2 (.cells #[.int .u8 0,.int .u8 (n:Int),.int .u8 0,.int .u8 1,.int .u8 26,.int .u8 43,.int .u8 60,.int .u8 77,.int .u8 0,.int .u8 t] 5)
 have HH:Hid (∀k,k<10→(#[.int .u8 0,.int .u8 (n:Int),.int .u8 0,.int .u8 1,.int .u8 26,.int .u8 43,.int .u8 60,.int .u8 77,.int .u8 0,.int .u8 t]:Array Value)[k]? =some (.int .u8 ((zLv n t)[k]?.getD 0))):=fun k hk=>by
  unfold zLv;rcases k with _|_|_|_|_|_|_|_|_|_|k<;>first|rfl|omega
 have hlen:(zLv n t).length=10:=rfl;have HMS:=zAc (fun k (hk:k<10)=>zRx (zLv n t) n k (by rw[hlen];exact hk) (by omega));have HML:=zAc (fun k (hk:k≤10)=>mixP_len (zLv n t) n k (by rw[hlen];exact hk) (by omega));have HM0:Hid (zGx (zLv n t) n 0=List.replicate n 0):=by show _=_;simp[zGx]
 clear hlen;generalize zLv n t=hd at*;go_upto_region 4 with fail;change Code.wp _ _ _ _ (w2.alloc (.cells #[.int .u8 0,.int .u8 (n:Int),.int .u8 0,.int .u8 1,.int .u8 26,.int .u8 43,.int .u8 60,.int .u8 77,.int .u8 0,.int .u8 t] 5));generalize w2.alloc (.cells #[.int .u8 0,.int .u8 (n:Int),.int .u8 0,.int .u8 1,.int .u8 26,.int .u8 43,.int .u8 60,.int .u8 77,.int .u8 0,.int .u8 t] 5)=w3 at*;generalize hA3:(#[.int .u8 0,.int .u8 (n:Int),.int .u8 0,.int .u8 1,.int .u8 26,.int .u8 43,.int .u8 60,.int .u8 77,.int .u8 0,.int .u8 t]:Array Value)=A3 at*;generalize hh:w2.heap.size=h at*
 have hgh:g<h:=by
  have:=HO2.out;have h2:=(Ow.at this (by simp;omega));obtain⟨g',e,_,_,hc',_⟩:=h2;have:=World.block_lt_of_cell? w2 ⟨g',0,none⟩ (hc' 0 (by simp;omega)).1
  simp at e
  subst e;rw[←hh];exact this
 have hO3:Ow g w3 (.slice (some ⟨g,0,none⟩) n n) (zGx hd n 0):=by rw[HM0.out];exact HO2.out.later l3
 have hb3:Below g w1 w3:=by rw[←hg]at*;exact l2.trans l3
 have HG:=zAc hg;clear hA3 hg hh HO2 HM0;go_wp2_with fail;go_loopw [12] (fun iv wr=>∃k:Nat,k≤10∧iv= .int .i64 (k:Int)∧Ow g wr (.slice (some ⟨g,0,none⟩) n n) (zGx hd n k)∧wr.heap[h]? =some (.cells A3 5 (0,0))∧Below g w1 wr) (fun iv _=>10-(intOf iv).toNat)
 case atStart=>exact⟨0,by omega,rfl,hO3,rH,hb3⟩
 case round=>
  obtain⟨k,hk,rfl,hOk,hHk,hbk⟩:=hrel;by_cases hk14:k<10
  ·have hk':(k:Int)<10:=by omega
   have hkn:(k:Int)<n:=by omega
   have dh:=(zAa hHk k).trans (HH.out k hk14);have hML:=HML.out k hk;obtain⟨g',e,-,-,hcs,-⟩:=hOk.at (by omega)
   simp at e
   subst e;obtain⟨dg,fg⟩:=hcs k (by omega);have hO':=zEj hOk k (by omega) (hd[k]?.getD 0);rw[HMS.out k hk14]at hO';have HO':=zAc hO';have HH':=zAc ((Below.heap_setCell wr ⟨g,k,none⟩ (.int .u8 (hd[k]?.getD 0)) h (by simp;omega)).trans hHk);have hb':=zAc (hbk.setCell (p:=⟨g,k,none⟩) (Nat.le_refl _) (.int .u8 (hd[k]?.getD 0)));clear hcs hOk hHk hO' hML;generalize hd[k]?.getD 0=z at*;generalize (zGx hd n k)[k]?.getD 0=y at*;go_wp2_with fail;go_roundw
   case rel=>exact⟨k+1,by omega,by go_num,HO'.out,HH'.out,hb'.out⟩
   case measure=>simp[intOf];omega
  ·have hke:k=10:=by omega
   subst hke;have hlM:=HML.out 10 (by omega)
   have hw:Below w.heap.size w wr:=by
    have h0:=l1';have h1:=hbk;rw[←HG.out]at h1;exact Below.trans h0 (h1.mono h0.size)
   have HW:=zAc hw;clear hbk hHk hw;have hgs:w.heap.size≤g:=by rw[←HG.out];exact l1'.size
   have HO:=zAc hOk;obtain⟨g',e,-,-,hcs,-⟩:=hOk.at (by omega)
   simp at e
   subst e;obtain⟨d12,f12⟩:=hcs 12 (by omega);obtain⟨d13,f13⟩:=hcs 13 (by omega);obtain⟨d14,f14⟩:=hcs 14 (by omega);obtain⟨d15,f15⟩:=hcs 15 (by omega);obtain⟨d16,f16⟩:=hcs 16 (by omega);clear hcs hOk;generalize (zGx hd n 10)[12]?.getD 0=y12 at*;generalize (zGx hd n 10)[13]?.getD 0=y13 at*;generalize (zGx hd n 10)[14]?.getD 0=y14 at*;generalize (zGx hd n 10)[15]?.getD 0=y15 at*;generalize (zGx hd n 10)[16]?.getD 0=y16 at*;have hc8:c % 65536/256=c/256:=by omega
   have o12:=zEj HO.out 12 (by omega) (c/256);have o13:=zEj o12 13 (by rw[List.length_set];omega) (c % 256);have w13:=(HW.out.setCell (p:=⟨g,12,none⟩) hgs (.int .u8 (c/256))).setCell (p:=⟨g,13,none⟩) hgs (.int .u8 (c % 256));by_cases h8:t=8
   ·have t8:(t==8)=true:=by rw[h8];rfl
    have o14:=zEj o13 14 (by simp only[List.length_set];omega) (p/256);have o15:=zEj o14 15 (by simp only[List.length_set];omega) (p % 256);have o16:=zEj o15 16 (by simp only[List.length_set];omega) r;have w16:=((w13.setCell (p:=⟨g,14,none⟩) hgs (.int .u8 (p/256))).setCell (p:=⟨g,15,none⟩) hgs (.int .u8 (p % 256))).setCell (p:=⟨g,16,none⟩) hgs (.int .u8 r);have HO16:=zAc o16;have HW16:=zAc w16;have HM8:=zAc (HM.out.trans (if_pos h8));clear o12 o13 o14 o15 o16 w13 w16 HO;have h8':=h8;subst h8';go_wp2_with fail;go_ret
    exact⟨HW16.out,_,rfl,by rw[HM8.out];exact HO16.out.mono hgs⟩
   ·have t8:(t==8)=false:=beq_eq_false_iff_ne.2 h8
    have HO13:=zAc o13;have HW13:=zAc w13;have HM8:=zAc (HM.out.trans (if_neg h8));clear o12 o13 w13 HO;go_wp2_with fail;go_ret
    exact⟨HW13.out,_,rfl,by rw[HM8.out];exact HO13.out.mono hgs⟩
structure MsF (t c:Int) (zs:List Int):Prop where
 by_:Mt.By zs
 len:(zs.length:Int)=lsz t
 ok:lye zs=0
 t8:zAl zs 8=t
 c12:zAl zs 12=c
theorem zRy(l:List Int)(n k:Nat)(h:Mt.By l):Mt.By (zGx l n k):=(h.take k).append (fun z hz=>by have:=(List.mem_replicate.1 hz).2;omega)
theorem zRz(n t:Int)(hn:0≤n∧n≤255)(ht:0≤t∧t≤255):Mt.By (zLv n t):=by
 intro z hz
 simp only[zLv,List.mem_cons,List.not_mem_nil,or_false]at hz;rcases hz with rfl|rfl|rfl|rfl|rfl|rfl|rfl|rfl|rfl|rfl<;>omega
theorem zDl {l:List Int} (h:Mt.By l)(j:Nat)(v:Int)(hv:0≤v∧v≤255):Mt.By (l.set j v):=fun z hz=>by
 rcases List.mem_or_eq_of_mem_set hz with h1|rfl
 ·exact h z h1
 ·exact hv
theorem zA7 {t c p r:Int} (ht:t=7∨t=8∨t=13)(j:Nat)(hj:j<17):(msB t c p r)[j]? =([0,lsz t,0,1,26,43,60,77,0,t,0,0,c/256,c % 256,(if t=8 then p/256 else 0),(if t=8 then p % 256 else 0),(if t=8 then r else 0)]:List Int)[j]? :=by
 rcases ht with rfl|rfl|rfl
 all_goals
  rcases j with _|_|_|_|_|_|_|_|_|_|_|_|_|_|_|_|_|j
  all_goals first|rfl|omega
theorem msB_len {t c p r:Int} (ht:t=7∨t=8∨t=13):((msB t c p r).length:Int)=lsz t:=by
 rcases ht with rfl|rfl|rfl<;>rfl
theorem zCd {t c p r:Int} (ht:t=7∨t=8∨t=13)(hc:0≤c∧c≤65535)(hp:0≤p∧p≤65535)(hr:0≤r∧r≤255):MsF t c (msB t c p r)∧(t=8→zAl (msB t c p r) 14=p∧(msB t c p r)[16]?.getD 0=r):=by
 have hl:=msB_len (c:=c) (p:=p) (r:=r) ht;have hls:32≤lsz t∧lsz t≤168∧lkn t=true:=by rcases ht with rfl|rfl|rfl<;>decide
 have h12:17≤(msB t c p r).length:=by omega
 have g8:zAl (msB t c p r) 8=t:=by
  unfold zAl;rw[if_pos (by omega)];show wat _ 8=t
  unfold wat;rw[zA7 ht _ (by omega),zA7 ht _ (by omega)];rcases ht with rfl|rfl|rfl<;>rfl
 have g12:zAl (msB t c p r) 12=c:=by
  unfold zAl;rw[if_pos (by omega)];show wat _ 12=c
  unfold wat;rw[zA7 ht _ (by omega),zA7 ht _ (by omega)];show(c/256)*256+c % 256=c
  omega
 have hk:hdk (msB t c p r)=true:=by
  unfold hdk;rw[g8,hl,zA7 ht _ (by omega),zA7 ht _ (by omega),zA7 ht _ (by omega),zA7 ht _ (by omega),zA7 ht _ (by omega),zA7 ht _ (by omega),zA7 ht _ (by omega),zA7 ht _ (by omega),zA7 ht _ (by omega),zA7 ht _ (by omega),zA7 ht _ (by omega),zA7 ht _ (by omega)];rcases ht with rfl|rfl|rfl<;>rfl
 refine⟨⟨?_,hl,?_,g8,g12⟩,fun h8=> ?_⟩
 ·unfold msB
  split
  ·exact zDl (zDl (zDl (zDl (zDl (zRy _ _ _ (zRz _ _ (by omega) (by omega))) _ _ (by omega)) _ _ (by omega)) _ _ (by omega)) _ _ (by omega)) _ _ hr
  ·exact zDl (zDl (zRy _ _ _ (zRz _ _ (by omega) (by omega))) _ _ (by omega)) _ _ (by omega)
 ·unfold lye
  rw[if_neg (by omega),if_neg (by omega),if_neg (by rw[hk];simp),g8,if_neg (by rw[hls.2.2];simp),if_neg (by rw[hl];simp)]
 ·subst h8
  refine⟨?_,rfl⟩;unfold zAl;rw[if_pos (by omega)];show wat _ 14=p
  unfold wat;rw[zA7 ht _ (by omega),zA7 ht _ (by omega)];show(p/256)*256+p % 256=p
  omega
theorem not1(base g:Nat)(f f2:Fl)(hb nn c:Nat)(d st2:Int)(ws:Nat→Nat)(now tr nw sq ak:Int)(zm z:List Int)(sb:Value)(w:World)(h:V3 base g w f f2 hb nn c d st2 ws now tr)(hbs:base≤w.heap.size)(hT:TG 134744072 16909060 1723 nn sq ak 16 zm z)(hl:zm.length≤500)(hBm:Mt.By zm)(hsq:0≤sq∧sq≤4294967295)(hak:0≤ak∧ak≤4294967295)(hok:lye zm=0)(h7:pmT zm=13)(hcc:zAl zm (lyC zm)=d)(hpp:zAl zm (lyP zm)=0)(hrr:pmR zm=0)(hc:c<65536)(hd:0≤d∧d≤65535)(nI:Nat)(hI:Ow nI w sb (tgB 64 134744072 16909060 z))(hnw:nw≤9)(htr:tr≤90)(hz:∀W,KG base w W→Tb W):
  Calls Tryz.prog 7 #[.pointer (some ⟨g,0,none⟩),.int .i64 nw,.int .i64 1,sb] w fun e w'=>TpQ base w w' nw now oP (fun n v y W=>VE base g W∧TG 134744072 167772162 1723 5555 sq ak 16 zm y) e:=by
 obtain⟨s,hG,hS,rfl,rfl⟩:=h.gf;have hn9:=hS.n9;have hno:=hS.now;have htn:=hS.trn;have hfs:=hS.fs;have hqb:TuB oP:=by unfold TuB oP;simp
 have hfo:=hS.o;have hfr:=hS.r;have hsd0:=hS.sd;have hst:=hS.st;have hfm:f∈s.fs:=by rw[hfs];simp
 have hqo:oth f true=oP:=by
  unfold oth;rw[hfo];rfl
 refine(zD2 base g s 1 nw true oP 134744072 16909060 1723 nn sq ak 16 zm z sb (fun n v fb f1 hb2 W=>f1.blk=fb∧hb2=hb∧oth f1 true=oP∧V3 base g W f1 f2 hb nn c d st2 ws n (s.trn+1+1)) (fun n v y W=>VE base g W∧TG 134744072 167772162 1723 5555 sq ak 16 zm y) w hG hbs hT hl nI hI (by omega) (by omega) (.inr rfl) hqb rfl ⟨hno.1,by omega⟩ hS.ex (fun n hn=>hS.quiet n (by omega)) hS.all hz ?hOW ?hOF ?hOL ?hCH ?hCS ?hCL ?hCT).mono (fun e w' h=>h)
 case hOW=>
  intro n v W so sd k hn hn1 hn2 hg hd2
  have hS2:=hS.ltr n v ⟨hn.1,by omega⟩;obtain⟨kk,r,hk1,hk2,hk3⟩:=hS2.look (t:=rP nn) (u:=rP nn) (id:=0) (by simp[ksG]) ⟨rfl,rfl,rfl,rfl,rfl⟩;refine(zHp base g (ltr s n v) f true 0 0 64 134744072 16909060 false so sd 1 z 6 134744072 16909060 1723 nn kk r W hg hfm (fun x hx y hy e=>by rw[hS.ide x hx y hy e]) (hS.blk f hfm) hk1 hk2 (hk3.trans hS.id.symm) (by omega) (by omega) (by omega) (by omega) (by rw[hfo];simp[oP]) hsd0 (.inl ⟨rfl,rfl⟩) (Nat.le_trans hbs k.size) (by rw[hfo];exact hqb) (by rw[hfr];unfold TuB rP;simp;omega) ⟨htn.1,by show s.trn≤999999;omega⟩ hn hT.by_ hd2 (by have:=hT.len;omega) (by omega) (by omega) hT.ok (by rw[hst,hT.fl];decide)).mono ?_;rintro e w2 ⟨rfl,k2,hg2⟩;have hnx:nx 3 true 16=3:=by decide
  rw[hst,hT.fl,hnx]at hg2;obtain⟨q1,q2⟩:=hS2.bc1 (by show s.trn≤98;omega);exact⟨f.at 3 ((ltr s n v).now+tm 6 3),hb,rfl,k2,rfl,rfl,hqo,⟨_,hg2,q1,rfl,q2⟩,h.hp,h.hc.kg (k.trans k2),HvT.kg (nv:=f.hv) h.hv (k.trans k2),h.nb⟩
 case hOF=>
  rintro n v fb f1 hb2 W ⟨rfl,rfl,h3,hv⟩;obtain⟨s2,hg2,hS2,_⟩:=hv.gf;exact⟨rfl,(hg2.fb f1 (by rw[hS2.fs];simp)).2,h3,hv.hp⟩
 case hOL=>
  rintro n v fb f1 hb2 A B ⟨h1,h2,h3,hv⟩ l;exact⟨h1,h2,h3,hv.later l⟩
 case hCH=>
  rintro n v fb f1 hb2 n1 W so sd ao co ad cd hw1 hw2 k ⟨rfl,rfl,h3,hv⟩ ho hd3;obtain⟨s2,hg2,hS2,_⟩:=hv.gf;refine(chg_not hT oP hqb hl hBm hsq hak (by omega) g hb2 nn c d st2 ws hok h7 hcc hpp hrr s2 f1 f2 W 134744072 16909060 so sd true 6 134744072 16909060 1723 nn 6 _ _ _ _ ao ad co cd hg2 hS2 hv.hc hv.hv hv.nb hc hd ⟨Nat.le_trans hbs hw1,hw2⟩ ho hd3).mono ?_;rintro e w2 ⟨a7,c7,a8,c8,z2,rfl,hgo,hT2,hO2,hD2⟩;exact⟨z2,a7,c7,a8,c8,rfl,hgo.1,hO2,hD2,hgo.2,hT2⟩
 case hCS=>
  rintro n v y A B k cur t fz ⟨h5,h6⟩ hk ht hB;exact⟨h5.aside hk (by rcases ht with rfl|rfl<;>simp) hB,h6⟩
 case hCL=>
  rintro n v y W ⟨_,h6⟩;have:=h6.len;omega
 case hCT=>
  rintro n v y A B ⟨h5,h6⟩ l;exact⟨h5.later l,h6⟩
theorem zJd(c:Nat)(hc:c<65536)(v:Int)(hv:0≤v∧v≤65535):lye (msB 7 (c:Int) 0 0)=0∧pmT (msB 7 (c:Int) 0 0)=7∧zAl (msB 7 (c:Int) 0 0) (lyC (msB 7 (c:Int) 0 0))=(c:Int)∧zAq (msB 7 (c:Int) 0 0) (lyC (msB 7 (c:Int) 0 0)) v=msB 7 v 0 0:=by
 obtain⟨h,_⟩:=zCd (t:=7) (c:=(c:Int)) (p:=0) (r:=0) (.inl rfl) (by omega) (by omega) (by omega);have hC:lyC (msB 7 (c:Int) 0 0)=12:=by unfold lyC;rw[if_pos h.ok,h.t8];rfl
 refine⟨h.ok,by unfold pmT;rw[if_pos h.ok,h.t8],by rw[hC];exact h.c12,?_⟩;rw[hC];unfold zAq;have hl:=h.len;have hz:lsz 7=168:=rfl;rw[if_pos (by omega)];rfl
theorem zJe(d m v:Int)(hd:0≤d∧d≤65535)(hm:0≤m∧m≤65535)(hv:0≤v∧v≤65535):lye (msB 8 d m 1)=0∧pmT (msB 8 d m 1)=8∧zAl (msB 8 d m 1) (lyC (msB 8 d m 1))=d∧zAl (msB 8 d m 1) (lyP (msB 8 d m 1))=m∧pmR (msB 8 d m 1)=1∧zAq (msB 8 d m 1) (lyP (msB 8 d m 1)) v=msB 8 d v 1:=by
 obtain⟨h,h8⟩:=zCd (t:=8) (c:=d) (p:=m) (r:=1) (.inr (.inl rfl)) hd hm (by omega);obtain⟨h14,h16⟩:=h8 rfl;have hC:lyC (msB 8 d m 1)=12:=by unfold lyC;rw[if_pos h.ok,h.t8];rfl
 have hP:lyP (msB 8 d m 1)=14:=by unfold lyP;rw[if_pos h.ok,h.t8];rfl
 refine⟨h.ok,by unfold pmT;rw[if_pos h.ok,h.t8],by rw[hC];exact h.c12,by rw[hP];exact h14,by unfold pmR;rw[if_pos ⟨h.ok,h.t8⟩];exact h16,?_⟩;rw[hP];unfold zAq;have hl:=h.len;have hz:lsz 8=32:=rfl;rw[if_pos (by omega)];rfl
theorem zOs(d:Int)(hd:0≤d∧d≤65535):lye (msB 13 d 0 0)=0∧pmT (msB 13 d 0 0)=13∧zAl (msB 13 d 0 0) (lyC (msB 13 d 0 0))=d∧zAl (msB 13 d 0 0) (lyP (msB 13 d 0 0))=0∧pmR (msB 13 d 0 0)=0:=by
 obtain⟨h,_⟩:=zCd (t:=13) (c:=d) (p:=0) (r:=0) (.inr (.inr rfl)) hd (by omega) (by omega);have hC:lyC (msB 13 d 0 0)=12:=by unfold lyC;rw[if_pos h.ok,h.t8];rfl
 have hP:lyP (msB 13 d 0 0)= -1:=by unfold lyP;rw[if_pos h.ok,h.t8];rfl
 refine⟨h.ok,by unfold pmT;rw[if_pos h.ok,h.t8],by rw[hC];exact h.c12,by rw[hP];exact zGr _,?_⟩;unfold pmR;rw[if_neg (fun e=>by have:=e.2;rw[h.t8]at this;revert this;decide)]
end Go.Proofs.YteaeilghamjjkaaGreatDoor
