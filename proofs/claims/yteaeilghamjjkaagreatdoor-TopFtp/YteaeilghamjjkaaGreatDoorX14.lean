import Derived.Test.YteaeilghamjjkaaGreatDoorX15
namespace Go.Proofs.YteaeilghamjjkaaGreatDoor
open Go.RowKit Go.Shelf
set_option maxRecDepth 100000
attribute [local go_sem] Oper.semAt_some
set_option linter.unusedVariables false
set_option linter.unusedSimpArgs false
theorem zK8(z:Int)(v:Value):∀(l:List MapEntry) (i:Nat),(∀e∈l,∃k:Int,e.key= .int .i64 k∧(k=z→e.val=v))→(∃e∈l,e.key= .int .i64 z)→∃j,Instr.findNow (.int .i64) (.int .i64 z) l i=some (some (j,v))
 | [],_,_,h=>by obtain⟨_,h,_⟩:=h;cases h
 | e::l,i,h,hx=>by
  obtain⟨k,hk,hv⟩:=h e (by simp);by_cases hz:k=z
  ·have h1:Instr.sameNow (.int .i64) (.int .i64 z) e.key=some true:=by rw[hk,hz];simp[Instr.sameNow]
   unfold Instr.findNow;rw[h1];exact⟨i,by rw[hv hz]⟩
  ·have h1:Instr.sameNow (.int .i64) (.int .i64 z) e.key=some false:=by rw[hk];simp[Instr.sameNow,hz,Ne.symm hz]
   unfold Instr.findNow;rw[h1];refine zK8 z v l (i+1) (fun e' he'=>h e' (by simp[he'])) ?_;obtain⟨e',he',hk'⟩:=hx;rcases List.mem_cons.1 he' with q|q
   ·rw[q,hk]at hk'
    injection hk' with _ q2
    exact absurd q2 hz
   ·exact ⟨e',q,hk'⟩
def IdU (s:Gf):Prop:=∀x∈s.fs,∀y∈s.fs,x.id=y.id→x.blk=y.blk
theorem zUh {base g:Nat} {W:World} {s:Gf} (h:GF base W g s) {f:Fl} (hf:f∈s.fs)(hu:IdU s):(Instr.lookup 86 (.map (some s.gf)) (.int .i64 f.id) false).run Tryz.prog W= .ok (.pointer (some ⟨f.blk,0,none⟩)) W:=by
 refine zPh Tryz.underlying86 Tryz.underlying3 h.fl f.id _ (.inl ?_);refine zK8 f.id _ s.fe.toList 0 (fun e he=> ?_) ?_
 ·have h1:(e.key,e.val)∈s.fe.toList.map (fun e=>(e.key,e.val)):=List.mem_map.2 ⟨e,he,rfl⟩
  rw[h.fm]at h1;obtain⟨x,hx,e2⟩:=List.mem_map.1 h1;have e3:(Value.int .i64 x.id)=e.key:=congrArg Prod.fst e2;have e4:(Value.pointer (some ⟨x.blk,0,none⟩))=e.val:=congrArg Prod.snd e2;exact⟨x.id,e3.symm,fun q=>by rw[←e4,hu x hx f hf q]⟩
 ·have h1:flE f∈s.fs.map flE:=List.mem_map.2 ⟨f,hf,rfl⟩
  rw[←h.fm]at h1;obtain⟨e,he,e2⟩:=List.mem_map.1 h1;exact⟨e,he,congrArg Prod.fst e2⟩
open Go.RowKit Go.Shelf Go.ChangeMaps
attribute [local go_sem] Oper.semAt_some
structure EsI (es:Array MapEntry) (cf:Nat):Prop where
 ki:∀e∈es.toList,∃z:Int,e.key= .int .i64 z
 bn:∀e∈es.toList,e.born<cf
 nd:(es.toList.map (·.born)).Nodup
theorem getF_yes(base gt:Nat)(cnt trn:Int)(rw:Nat→List Rw)(p x d a b:Int)(k:Nat)(r:Rw)(W:World)(h:TB base W gt 128 cnt trn rw)(hk:kx p x d a b rw=some k)(hr:(rw (bki p x d a b))[k]? =some r)(hs:0≤x∧x≤4294967295)(hd:0≤d∧d≤4294967295)(ha:0≤a∧a≤65535)(hb:0≤b∧b≤65535):
  Calls Tryz.prog 103 #[.pointer (some ⟨gt,0,none⟩),.agg #[.int .u8 p,.int .u32 x,.int .u32 d,.int .u16 a,.int .u16 b]] W fun e w'=>e= .returned (.tuple #[.int .i64 r.id,.int .i64 r.till,.bool true])∧Later W w':=by
 refine(zS5 base gt 128 cnt trn rw p x d a b W h hs hd ha hb).mono ?_;rintro e w' ⟨h1,rfl⟩;exact⟨by unfold gtv;simp only[hk,hr],h1⟩
theorem tup_ne2(bk:Bool)(p x d a b p2 x2 d2 a2 b2:Int)(w:World)(h:bk=true↔¬(p=p2∧x=x2∧d=d2∧a=a2∧b=b2)):(binOp .neq 103 (.agg #[.int .u8 p,.int .u32 x,.int .u32 d,.int .u16 a,.int .u16 b]) (.agg #[.int .u8 p2,.int .u32 x2,.int .u32 d2,.int .u16 a2,.int .u16 b2])).run Tryz.prog w= .ok (.bool bk) w:=by
 cases bk with
 |true=>exact zUd p x d a b p2 x2 d2 a2 b2 w (h.1 rfl)
 |false=>
  have h2:p=p2∧x=x2∧d=d2∧a=a2∧b=b2:=Classical.byContradiction (fun q=>by have:=h.2 q;cases this);obtain⟨rfl,rfl,rfl,rfl,rfl⟩:=h2;go_simp
set_option maxHeartbeats 4000000 in
theorem zM4(base g:Nat)(s:Gf)(f:Fl)(bk:Bool)(p x d a b:Int)(k:Nat)(r:Rw)(w:World)(h:GF base w g s)(hf:f∈s.fs)(hu:IdU s)(hk:kx p x d a b s.rw=some k)(hr:(s.rw (bki p x d a b))[k]? =some r)(hid:r.id=f.id)(hs:0≤x∧x≤4294967295)(hd:0≤d∧d≤4294967295)(ha:0≤a∧a≤65535)(hb:0≤b∧b≤65535)
  (hbk:bk=true↔¬(p=f.o.pr∧x=f.o.src∧d=f.o.dst∧kyp p a=kyp f.o.pr f.o.sp∧b=f.o.dp)):
  Calls Tryz.prog 49 #[.pointer (some ⟨g,0,none⟩),.agg #[.int .u8 p,.int .u32 x,.int .u32 d,.int .u16 a,.int .u16 b]] w fun e w'=>e= .returned (.tuple #[.pointer (some ⟨f.blk,0,none⟩),.bool bk,.bool true])∧Later w w':=by
 have l0:=zAg w (.cells #[.int .u8 p,.int .u32 x,.int .u32 d,.int .u16 a,.int .u16 b] 103);have C0:=zAd (heap_alloc_new w (.cells #[.int .u8 p,.int .u32 x,.int .u32 d,.int .u16 a,.int .u16 b] 103));have HG:=zAd (h.later l0);have HGT:=zAd (fun W (l:Later w W)=>getF_yes base s.gt s.cnt s.trn s.rw p x d a b k r W (h.tb.laterD l) hk hr hs hd ha hb);rw[hid]at HGT;have HLK:=zAd (fun W (l:Later w W)=>zUh (h.later l) hf hu);have HF:=zAd (zAb l0 (h.fb f hf).2);have HBK:=zAd hbk;clear h hs hd ha hb hk hr hid hf hu hbk;go_enter Tryz.func49,Tryz.ntmps49;go_upto_region 1 with fail;generalize w.alloc _=w1 at*;generalize w.heap.size=gx at*;refine zAn (R:=Later) Later.pre Later.drew 13 rfl (by kernel_rfl) (fun V0 hV0=> ?_);have q0:∀v,Later V0 v→∀j,v.cell? ⟨gx,j,none⟩=#[.int .u8 p,.int .u32 x,.int .u32 d,.int .u16 a,.int .u16 b][j]? :=fun v hv=>zAa (zAb (hV0.trans hv) C0.out);have q1:∀v,Later V0 v→∀j,v.cell? ⟨g,j,none⟩=(gfc s).toArray[j]? :=fun v hv=>zAa (zAb (hV0.trans hv) HG.out.gc);unfold gfc at q1;refine rX Later.pre 0 ?_;refine rX Later.pre 1 ?_;refine rX Later.pre 2 ?_;refine rX Later.pre 3 ?_;refine rX Later.pre 4 ?_;clear q0 q1
 refine zAq Later.pre 5 (.tuple #[.int .i64 f.id,.int .i64 r.till,.bool true]) rfl (by kernel_rfl) (by kernel_rfl) (by kernel_rfl) (fun _ _ _ h=>h) rfl (fun u hu=>zAo 103 #[.pointer (some ⟨s.gt,0,none⟩),.agg #[.int .u8 p,.int .u32 x,.int .u32 d,.int .u16 a,.int .u16 b]] (by go_simp) (HGT.out u (Later.trans l0 (hV0.trans hu)))) ?_;simp only[Act.put,sA,sB,sC];refine rX Later.pre 6 ?_;refine rX Later.pre 7 ?_;refine rX Later.pre 8 ?_;refine rX Later.pre 9 ?_;refine rX Later.pre 10 ?_;refine rX Later.pre 11 ?_;refine rX Later.pre 12 ?_;refine rD (fun V9 hV9=> ?_);have L9:Later w1 V9:=hV0.trans hV9;have k1:=zAa (zAb L9 HG.out.gc);unfold gfc at k1;have hlk:=HLK.out V9 (l0.trans L9);clear hV0 hV9;go_upto_region 5 with fail;clear k1 hlk;refine zAn (R:=Later) Later.pre Later.drew 13 rfl (by kernel_rfl) (fun V1 hV1=> ?_);have q0:∀v,Later V1 v→∀j,v.cell? ⟨gx,j,none⟩=#[.int .u8 p,.int .u32 x,.int .u32 d,.int .u16 a,.int .u16 b][j]? :=fun v hv=>zAa (zAb (L9.trans (hV1.trans hv)) C0.out);have qf:∀v,Later V1 v→∀j,v.cell? ⟨f.blk,j,none⟩=(flc f).toArray[j]? :=fun v hv=>zAa (zAb (L9.trans (hV1.trans hv)) HF.out);unfold flc at qf;refine rX Later.pre 0 ?_;refine rX Later.pre 1 ?_
 refine zAq Later.pre 2 (.agg #[.int .u8 p,.int .u32 x,.int .u32 d,.int .u16 (kyp p a),.int .u16 b]) rfl (by kernel_rfl) (by kernel_rfl) (by kernel_rfl) (fun _ _ _ h=>h) rfl (fun u hu=>zAo 104 #[.agg #[.int .u8 p,.int .u32 x,.int .u32 d,.int .u16 a,.int .u16 b]] (by go_simp) (zD8 p x d a b u)) ?_;simp only[Act.put,sA,sB,sC];refine rX Later.pre 3 ?_;refine rX Later.pre 4 ?_;refine rX Later.pre 5 ?_;refine rX Later.pre 6 ?_;refine rX Later.pre 7 ?_;refine zAq Later.pre 8 (.agg #[.int .u8 f.o.pr,.int .u32 f.o.src,.int .u32 f.o.dst,.int .u16 (kyp f.o.pr f.o.sp),.int .u16 f.o.dp]) rfl (by kernel_rfl) (by kernel_rfl) (by kernel_rfl) (fun _ _ _ h=>h) rfl (fun u hu=>zAo 104 #[.agg #[.int .u8 f.o.pr,.int .u32 f.o.src,.int .u32 f.o.dst,.int .u16 f.o.sp,.int .u16 f.o.dp]] (by go_simp) (zD8 f.o.pr f.o.src f.o.dst f.o.sp f.o.dp u)) ?_;simp only[Act.put,sA,sB,sC];clear q0 qf;generalize kyp p a=ka at*;generalize kyp f.o.pr f.o.sp=ka2 at*;have q5:∀v:World,(binOp .neq 103 (.agg #[.int .u8 p,.int .u32 x,.int .u32 d,.int .u16 ka,.int .u16 b]) (.agg #[.int .u8 f.o.pr,.int .u32 f.o.src,.int .u32 f.o.dst,.int .u16 ka2,.int .u16 f.o.dp])).run Tryz.prog v= .ok (.bool bk) v:=fun v=>tup_ne2 bk p x d ka b f.o.pr f.o.src f.o.dst ka2 f.o.dp v HBK.out
 refine rV Later.pre 9 rfl rfl ⟨.bool bk,fun v1 hv1=>by
  have hb:=HBK.out;clear q5;cases bk with
  |true=>
   have hn:=hb.1 rfl;clear hb;go_simp;by_cases g1:p=f.o.pr<;>by_cases g2:x=f.o.src<;>by_cases g3:d=f.o.dst<;>by_cases g4:ka=ka2<;>by_cases g5:b=f.o.dp<;>simp_all
  |false=>
   have h2:=Classical.byContradiction (fun q=>by have:=hb.2 q;cases this);obtain⟨g1,g2,g3,g4,g5⟩:=h2;rw[g1,g2,g3,g4,g5];go_simp,?_⟩
 simp only[Act.put,sA,sB,sC];refine rX Later.pre 10 ?_;refine rX Later.pre 11 ?_;refine rX Later.pre 12 ?_;refine rD (fun V2 hV2=> ?_);go_wp2_with fail;exact bodyPost_ret (v:= .tuple #[.pointer (some ⟨f.blk,0,none⟩),.bool bk,.bool true]) (by simp[results,Tryz.results49,go_sem]) rfl ⟨rfl,l0.trans (L9.trans (hV1.trans hV2))⟩
theorem zUi(base gr:Nat)(vr:Value)(ls:List Ru)(x:Int)(W:World)(mr:Ru)(h:RL 285 base W gr vr ls)(hok:okL ls)(hx:0≤x∧x≤4294967295)(hn:ls.find? (mqB x)=some mr):
  Calls Tryz.prog 281 #[.pointer (some ⟨gr,0,none⟩),.int .u32 x] W fun e w'=>e= .returned (.tuple #[.agg #[.int .i64 mr.kind,.int .u8 mr.proto,.int .u32 mr.net,.int .i64 mr.bits,.int .u32 mr.tt,.int .u16 mr.port,.int .u32 mr.host,.int .u16 mr.hp],.bool true])∧Later W w':=by
 have:=masq_any base (some ⟨gr,0,none⟩) ls x W (.inr ⟨gr,vr,rfl,h⟩) hok hx;have e1:fnd (mqB x) ls=mr:=by unfold fnd;rw[hn];rfl
 have e2:fdb (mqB x) ls=true:=by unfold fdb;rw[hn];rfl
 rw[e1,e2]at this;exact this
def MqC (v:Value) (n:Nat) (wx:World) (mr:Ru):Prop:=∃gn,v= .pointer (some ⟨gn,0,none⟩)∧n≤gn∧wx.heap[gn]? =some (.cells #[.int .i64 mr.kind,.int .u8 mr.proto,.int .u32 mr.net,.int .i64 mr.bits,.int .u32 mr.tt,.int .u16 mr.port,.int .u32 mr.host,.int .u16 mr.hp] 125 (0,0))
theorem KG.pre(base:Nat):Pre (KG base):=⟨fun a=>KG.refl base a,fun a b c h k=>h.trans k⟩
def zUj (side:Int) (bk:Bool):Prop:=(side=1∧bk=true)∨(side=0∧bk=false)
theorem Ow.kg {base n0:Nat} {W W':World} {v:Value} {zs:List Int} (h:Ow n0 W v zs)(k:KG base W W'):Ow n0 W' v zs:=by
 rcases h with h|⟨g,cap,cur,q1,q2,q3,q4,q5,q6,q7⟩
 ·exact .inl h
 ·exact .inr ⟨g,cap,cur,q1,q2,q3,q4,q5,k.cells q6 (by decide),q7⟩
theorem other_no(f:Fl)(w:World)(h:w.heap[f.blk]? =some (.cells (flc f).toArray 111 (0,0))):
  Calls Tryz.prog 116 #[.pointer (some ⟨f.blk,0,none⟩),.bool false] w fun e w'=>e= .returned (.agg #[.int .u8 f.r.pr,.int .u32 f.r.src,.int .u32 f.r.dst,.int .u16 f.r.sp,.int .u16 f.r.dp])∧Later w w':=by
 have la:=zAg w (.cells #[.int .u8 0,.int .u32 0,.int .u32 0,.int .u16 0,.int .u16 0] 103);have C0:=zAd (heap_alloc_new w (.cells #[.int .u8 0,.int .u32 0,.int .u32 0,.int .u16 0,.int .u16 0] 103));have C1:=zAd (zAb la h);clear h;go_enter Tryz.func116,Tryz.ntmps116;go_upto_region 3 with fail;generalize w.alloc _=w1 at*;generalize hgx:w.heap.size=gx at C0⊢;have k0:=zAa C0.out;have f0:=zAc C0.out;have k1:=zAa C1.out;unfold flc at k1;go_wp2_with fail;generalize hV:World.setCell _ ⟨gx,4,none⟩ _=V8;have hV9:V8=zAi w1 gx 0 [.int .u8 f.r.pr,.int .u32 f.r.src,.int .u32 f.r.dst,.int .u16 f.r.sp,.int .u16 f.r.dp]:=hV.symm;have hb8:But (fun b=>b=gx) w1 V8:=by rw[hV9];exact zAf (E:=fun b=>b=gx) (n:=gx) rfl _ _ _ _ (But.refl _ _)
 have p8:=zAe [.int .u8 f.r.pr,.int .u32 f.r.src,.int .u32 f.r.dst,.int .u16 f.r.sp,.int .u16 f.r.dp] C0.out rfl;rw[←hV9]at p8;clear hV hV9;have P8:=zAa p8;exact bodyPost_ret (v:= .agg #[.int .u8 f.r.pr,.int .u32 f.r.src,.int .u32 f.r.dst,.int .u16 f.r.sp,.int .u16 f.r.dp]) (by simp[results,Tryz.results116,go_sem,P8]) rfl ⟨rfl,Below.trans la (hb8.below la.size (fun k hk e=>by have e':k=gx:=e;omega))⟩
theorem zRe(x:Array Value)(w:World)(tos id ttl pr src dst:Int)(keep:Bool)(ao ad:Option Addr)(lo co ld cd:Nat):
  Calls Tryz.prog 483 #[.agg #[],.agg x,.agg #[.int .u8 tos,.int .u16 id,.bool keep,.int .u8 ttl,.int .u8 pr,.int .u32 src,.int .u32 dst,.slice ao lo co,.slice ad ld cd]] w fun e w'=>e= .returned (.agg #[.int .u8 tos,.int .u16 id,.bool keep,.int .u8 ttl,.int .u8 pr,.int .u32 src,.int .u32 dst,.slice ao lo co,.slice ad ld cd])∧Later w w':=by
 have la:=zAg w (.cells #[] 468);have lb:=zAg (w.alloc (.cells #[] 468)) (.cells x 242);have lc:=zAg ((w.alloc (.cells #[] 468)).alloc (.cells x 242)) (.cells #[.int .u8 tos,.int .u16 id,.bool keep,.int .u8 ttl,.int .u8 pr,.int .u32 src,.int .u32 dst,.slice ao lo co,.slice ad ld cd] 40);have c0:=heap_alloc_new ((w.alloc (.cells #[] 468)).alloc (.cells x 242)) (.cells #[.int .u8 tos,.int .u16 id,.bool keep,.int .u8 ttl,.int .u8 pr,.int .u32 src,.int .u32 dst,.slice ao lo co,.slice ad ld cd] 40);have hsz:((w.alloc (.cells #[] 468)).alloc (.cells x 242)).heap.size=w.heap.size+1+1:=by simp
 rw[hsz]at c0;have L2:=la.trans (lb.trans lc);have ld':=zAg (((w.alloc (.cells #[] 468)).alloc (.cells x 242)).alloc (.cells #[.int .u8 tos,.int .u16 id,.bool keep,.int .u8 ttl,.int .u8 pr,.int .u32 src,.int .u32 dst,.slice ao lo co,.slice ad ld cd] 40)) (.cells #[.int .u8 0,.int .u16 0,.bool false,.int .u8 0,.int .u8 0,.int .u32 0,.int .u32 0,.slice none 0 0,.slice none 0 0] 40);have c1:=heap_alloc_new (((w.alloc (.cells #[] 468)).alloc (.cells x 242)).alloc (.cells #[.int .u8 tos,.int .u16 id,.bool keep,.int .u8 ttl,.int .u8 pr,.int .u32 src,.int .u32 dst,.slice ao lo co,.slice ad ld cd] 40)) (.cells #[.int .u8 0,.int .u16 0,.bool false,.int .u8 0,.int .u8 0,.int .u32 0,.int .u32 0,.slice none 0 0,.slice none 0 0] 40);have hsz2:(((w.alloc (.cells #[] 468)).alloc (.cells x 242)).alloc (.cells #[.int .u8 tos,.int .u16 id,.bool keep,.int .u8 ttl,.int .u8 pr,.int .u32 src,.int .u32 dst,.slice ao lo co,.slice ad ld cd] 40)).heap.size=w.heap.size+1+1+1:=by simp
 rw[hsz2]at c1;have C0:=zAd (zAb ld' c0);have C1:=zAd c1;have LL:=zAd (L2.trans ld');clear la lb lc ld' c0 c1 hsz hsz2 L2;go_enter Tryz.func483,Tryz.ntmps483;go_upto_region 1 with fail;generalize hw1:World.alloc _ _=w1 at*;clear hw1;generalize hgx:w.heap.size=g0 at C0 C1⊢;have k0:=zAa C0.out;have k1:=zAa C1.out;have f1:=zAc C1.out;go_wp2_with fail;generalize hV:World.setCell _ ⟨_,8,none⟩ _=V8;have hV9:V8=zAi w1 (g0+1+1+1) 0 [.int .u8 tos,.int .u16 id,.bool keep,.int .u8 ttl,.int .u8 pr,.int .u32 src,.int .u32 dst,.slice ao lo co,.slice ad ld cd]:=hV.symm;have hb8:But (fun b=>b=g0+1+1+1) w1 V8:=by rw[hV9];exact zAf (E:=fun b=>b=g0+1+1+1) (n:=g0+1+1+1) rfl _ _ _ _ (But.refl _ _)
 have p8:=zAe [.int .u8 tos,.int .u16 id,.bool keep,.int .u8 ttl,.int .u8 pr,.int .u32 src,.int .u32 dst,.slice ao lo co,.slice ad ld cd] C1.out rfl;rw[←hV9]at p8;clear hV hV9;have P8:=zAa p8;exact bodyPost_ret (v:= .agg #[.int .u8 tos,.int .u16 id,.bool keep,.int .u8 ttl,.int .u8 pr,.int .u32 src,.int .u32 dst,.slice ao lo co,.slice ad ld cd]) (by simp[results,Tryz.results483,go_sem,P8]) rfl ⟨rfl,Below.trans LL.out (hb8.below LL.out.size (fun k hk e=>by have e':k=g0+1+1+1:=e;omega))⟩
theorem meth_noh(k:Nat)(W:World):Sem.run Tryz.prog (Go.method (k+1) 468 (.agg #[]) "lychgate/gate.change") W= .ok (483,.agg #[]) W:=by kernel_rfl
end Go.Proofs.YteaeilghamjjkaaGreatDoor
