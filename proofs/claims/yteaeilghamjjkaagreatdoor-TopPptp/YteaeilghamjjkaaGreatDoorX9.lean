import Derived.Test.YteaeilghamjjkaaGreatDoorX10
namespace Go.Proofs.YteaeilghamjjkaaGreatDoor
set_option maxHeartbeats 8000000
open Go.RowKit Go.Shelf
set_option maxRecDepth 100000
set_option linter.unusedVariables false
set_option linter.unusedSimpArgs false
def dpe (ls:Nat→List Rw) (p s d a b:Int):Int:=if kx p s d a b ls=none then 11 else 0
def tmT (s:Int):Int:=if s==1||s==4||s==6 then 120 else if s==2||s==5 then 60 else if s==3 then 432000 else if s==7 then 10 else 0
def tmO (s u e:Int):Int:=if s==8 then u else if s==3 then e else 0
def tm (p s:Int):Int:=if p==6 then tmT s else if p==17||p==47 then tmO s 30 180 else if p==1 then tmO s 30 30 else 0
def ot (s:Int) (b:Bool):Int:=if b||s==3 then 3 else 8
theorem zHi(s:Int)(w:World):Calls Tryz.prog 289 #[.int .i64 s] w fun e w'=>e= .returned (.int .i64 (tmT s))∧w'=w:=by
 by_cases e1:s=1
 ·subst e1
  go_enter Tryz.func289,Tryz.ntmps289;go_wp2_with fail;go_ret
  exact⟨rfl,rfl⟩
 by_cases e2:s=2
 ·subst e2
  clear e1;go_enter Tryz.func289,Tryz.ntmps289;go_wp2_with fail;go_ret
  exact⟨rfl,rfl⟩
 by_cases e3:s=3
 ·subst e3
  clear e1 e2;go_enter Tryz.func289,Tryz.ntmps289;go_wp2_with fail;go_ret
  exact⟨rfl,rfl⟩
 by_cases e4:s=4
 ·subst e4
  clear e1 e2 e3;go_enter Tryz.func289,Tryz.ntmps289;go_wp2_with fail;go_ret
  exact⟨rfl,rfl⟩
 by_cases e5:s=5
 ·subst e5
  clear e1 e2 e3 e4;go_enter Tryz.func289,Tryz.ntmps289;go_wp2_with fail;go_ret
  exact⟨rfl,rfl⟩
 by_cases e6:s=6
 ·subst e6
  clear e1 e2 e3 e4 e5;go_enter Tryz.func289,Tryz.ntmps289;go_wp2_with fail;go_ret
  exact⟨rfl,rfl⟩
 by_cases e7:s=7
 ·subst e7
  clear e1 e2 e3 e4 e5 e6;go_enter Tryz.func289,Tryz.ntmps289;go_wp2_with fail;go_ret
  exact⟨rfl,rfl⟩
 have f1:(s==1)=false:=by simp[e1]
 have f2:(s==2)=false:=by simp[e2]
 have f3:(s==3)=false:=by simp[e3]
 have f4:(s==4)=false:=by simp[e4]
 have f5:(s==5)=false:=by simp[e5]
 have f6:(s==6)=false:=by simp[e6]
 have f7:(s==7)=false:=by simp[e7]
 clear e1 e2 e3 e4 e5 e6 e7;have ht:tmT s=0:=by unfold tmT;rw[f1,f2,f3,f4,f5,f6,f7];rfl
 rw[ht];clear ht;go_enter Tryz.func289,Tryz.ntmps289;go_wp2_with fail;go_ret
 exact⟨rfl,rfl⟩
theorem zB6(s u e:Int)(w:World):Calls Tryz.prog 290 #[.int .i64 s,.int .i64 u,.int .i64 e] w fun e1 w'=>e1= .returned (.int .i64 (tmO s u e))∧w'=w:=by
 rcases Bool.eq_false_or_eq_true (s==8)with f8|f8
 ·rw[show tmO s u e=u from by unfold tmO;rw[f8];rfl]
  go_enter Tryz.func290,Tryz.ntmps290;go_wp2_with fail;go_ret
  exact⟨rfl,rfl⟩
 rcases Bool.eq_false_or_eq_true (s==3)with f3|f3
 ·rw[show tmO s u e=e from by unfold tmO;rw[f8,f3];rfl]
  go_enter Tryz.func290,Tryz.ntmps290;go_wp2_with fail;go_ret
  exact⟨rfl,rfl⟩
 ·rw[show tmO s u e=0 from by unfold tmO;rw[f8,f3];rfl]
  go_enter Tryz.func290,Tryz.ntmps290;go_wp2_with fail;go_ret
  exact⟨rfl,rfl⟩
theorem time_any(p s:Int)(w:World):Calls Tryz.prog 241 #[.int .u8 p,.int .i64 s] w fun e w'=>e= .returned (.int .i64 (tm p s))∧w'=w:=by
 by_cases e6:p=6
 ·subst e6
  go_enter Tryz.func241,Tryz.ntmps241;go_wp2_with fail;refine(zHi s _).mono ?_;rintro e w1 ⟨rfl,rfl⟩;go_wp2_with fail;go_ret
  exact⟨rfl,rfl⟩
 by_cases e17:p=17
 ·subst e17
  go_enter Tryz.func241,Tryz.ntmps241;go_wp2_with fail;refine(zB6 s 30 180 _).mono ?_;rintro e w1 ⟨rfl,rfl⟩;go_wp2_with fail;go_ret
  exact⟨rfl,rfl⟩
 by_cases e47:p=47
 ·subst e47
  go_enter Tryz.func241,Tryz.ntmps241;go_wp2_with fail;refine(zB6 s 30 180 _).mono ?_;rintro e w1 ⟨rfl,rfl⟩;go_wp2_with fail;go_ret
  exact⟨rfl,rfl⟩
 by_cases e1:p=1
 ·subst e1
  go_enter Tryz.func241,Tryz.ntmps241;go_wp2_with fail;refine(zB6 s 30 30 _).mono ?_;rintro e w1 ⟨rfl,rfl⟩;go_wp2_with fail;go_ret
  exact⟨rfl,rfl⟩
 have f6:(p==6)=false:=by simp[e6]
 have f17:(p==17)=false:=by simp[e17]
 have f47:(p==47)=false:=by simp[e47]
 have f1:(p==1)=false:=by simp[e1]
 clear e6 e17 e47 e1;rw[show tm p s=0 from by unfold tm;rw[f6,f17,f47,f1];rfl];go_enter Tryz.func241,Tryz.ntmps241;go_wp2_with fail;go_ret
 exact⟨rfl,rfl⟩
theorem zQo(s:Int)(b:Bool)(w:World):Calls Tryz.prog 244 #[.int .i64 s,.bool b] w fun e w'=>e= .returned (.int .i64 (ot s b))∧w'=w:=by
 cases b
 ·rcases Bool.eq_false_or_eq_true (s==3)with f3|f3
  ·rw[show ot s false=3 from by unfold ot;rw[f3];rfl]
   go_enter Tryz.func244,Tryz.ntmps244;go_wp2_with fail;go_ret
   exact⟨rfl,rfl⟩
  ·rw[show ot s false=8 from by unfold ot;rw[f3];rfl]
   go_enter Tryz.func244,Tryz.ntmps244;go_wp2_with fail;go_ret
   exact⟨rfl,rfl⟩
 ·rw[show ot s true=3 from rfl]
  go_enter Tryz.func244,Tryz.ntmps244;go_wp2_with fail;go_ret
  exact⟨rfl,rfl⟩
structure Fl where
 blk:Nat
 id:Int
 o:Tu
 r:Tu
 side:Int
 st:Int
 till:Int
 ms:Int
 hv:Value
 hp:Value
def flc (f:Fl):List Value:=[.int .i64 f.id,.int .u8 f.o.pr,.int .u32 f.o.src,.int .u32 f.o.dst,.int .u16 f.o.sp,.int .u16 f.o.dp,.int .u8 f.r.pr,.int .u32 f.r.src,.int .u32 f.r.dst,.int .u16 f.r.sp,.int .u16 f.r.dp,.int .i64 f.side,.int .i64 f.st,.int .i64 f.till,.int .i64 f.ms,f.hv,f.hp]
structure Pl where
 pr:Int
 ad:Int
 blk:Nat
 ws:Nat→Nat
structure Gf where
 lo:Nat
 hi:Nat
 now:Int
 bg:Int
 ls:List Ru
 gr:Nat
 gf:Nat
 gt:Nat
 gb:Nat
 gp:Nat
 vr:Value
 ve:Value
 ex:List Ex
 cnt:Int
 trn:Int
 rw:Nat→List Rw
 fs:List Fl
 ps:List Pl
 fe:Array MapEntry
 pe:Array MapEntry
 cf:Nat
 cp:Nat
def gfc (s:Gf):List Value:=[.int .u16 (s.lo:Int),.int .u16 (s.hi:Int),.int .i64 s.now,.int .i64 s.bg,.pointer (some ⟨s.gr,0,none⟩),.map (some s.gf),.pointer (some ⟨s.gt,0,none⟩),.pointer (some ⟨s.gb,0,none⟩),.map (some s.gp)]
def flE (f:Fl):Value × Value:=(.int .i64 f.id,.pointer (some ⟨f.blk,0,none⟩))
def plE (p:Pl):Value × Value:=(.agg #[.int .u8 p.pr,.int .u32 p.ad],.pointer (some ⟨p.blk,0,none⟩))
structure GF (base:Nat) (W:World) (g:Nat) (s:Gf):Prop where
 bs:base≤g
 gc:W.heap[g]? =some (.cells (gfc s).toArray 91 (0,0))
 rl:RL 285 base W s.gr s.vr s.ls
 tb:TB base W s.gt 128 s.cnt s.trn s.rw
 bl:BL 174 base W s.gb s.ve s.ex
 fl:W.heap[s.gf]? =some (.map s.fe s.cf)
 pl:W.heap[s.gp]? =some (.map s.pe s.cp)
 ne:s.gf≠s.gp
 bf:base≤s.gf∧base≤s.gp
 fm:s.fe.toList.map (fun e=>(e.key,e.val))=s.fs.map flE
 pm:s.pe.toList.map (fun e=>(e.key,e.val))=s.ps.map plE
 fb:∀f∈s.fs,base≤f.blk∧W.heap[f.blk]? =some (.cells (flc f).toArray 111 (0,0))
 pb:∀p∈s.ps,PB base W p.blk (s.lo:Int) (s.hi:Int) p.ws
theorem GF.later {base:Nat} {A B:World} {g:Nat} {s:Gf} (h:GF base A g s)(l:Later A B):GF base B g s:=
 ⟨h.bs,zAb l h.gc,h.rl.later l,h.tb.laterD l,h.bl.later l,zAb l h.fl,zAb l h.pl,h.ne,h.bf,h.fm,h.pm,fun f hf=>⟨(h.fb f hf).1,zAb l (h.fb f hf).2⟩,fun p hp=>(h.pb p hp).later l⟩
def TE (W:World) (E:Nat→Prop) (ok:Obj→Prop):Prop:=∀b,E b→∃o,W.heap[b]? =some o∧ok o
theorem TE.keep {W W':World} {E:Nat→Prop} {ok:Obj→Prop} (hE:TE W E ok)(hb:But E W W') {b:Nat} {o:Obj} (h:W.heap[b]? =some o)(ho:¬ok o):W'.heap[b]? =some o:=
 (hb.block b (eS h) (fun e=>by
  obtain⟨o',h1,h2⟩:=hE b e;rw[h]at h1;exact ho (Option.some.inj h1▸h2))).trans h
theorem TE.own {W W':World} {E:Nat→Prop} {ok:Obj→Prop} (hE:TE W E ok)(hb:But E W W') {base:Nat} {e:TypeId} {size:Nat} {v:Value} {n:Nat} {xs:List Value} (h:W.ownsRow base e size v n xs)(ho:∀cur f,¬ok (.cells cur e f)):W'.ownsRow base e size v n xs:=by
 obtain⟨q1,q2|⟨b,cap,cur',e',hb',hh,r⟩⟩:=h
 ·exact ⟨q1,.inl q2⟩
 ·exact ⟨q1,.inr ⟨b,cap,cur',e',hb',hE.keep hb hh (ho _ _),r⟩⟩
theorem TE.table {W W':World} {E:Nat→Prop} {ok:Obj→Prop} (hE:TE W E ok)(hb:But E W W') {base bt:Nat} {lim cnt trn:Int} {ls:Nat→List Rw} (h:TB base W bt lim cnt trn ls)(h1:∀cur f,¬ok (.cells cur 217 f))(h2:∀cur f,¬ok (.cells cur 220 f)):TB base W' bt lim cnt trn ls:=by
 obtain⟨vs,q1,q2,q3,q4,q5⟩:=h;exact⟨vs,q1,q2,hE.keep hb q3 (h1 _ _),fun i hi=>hE.own hb (q4 i hi) h2,q5⟩
def isT (ts:List TypeId) (o:Obj):Prop:=∃cur t f,o= .cells cur t f∧t∈ts
theorem zAs {ts:List TypeId} {t:TypeId} (h:t∉ts)(cur:Array Value)(f:Nat × Nat):¬isT ts (.cells cur t f):=fun⟨_,_,_,e,hm⟩=>by cases e;exact h hm
theorem zCe {ts:List TypeId} (m:Array MapEntry)(c:Nat):¬isT ts (.map m c):=fun⟨_,_,_,e,_⟩=>by cases e
theorem TE.one {W:World} {g:Nat} {cur:Array Value} {t:TypeId} {f:Nat × Nat} (h:W.heap[g]? =some (.cells cur t f)):TE W (fun b=>b=g) (isT [t]):=fun b e=>by
 have e':b=g:=e;exact⟨_,by rw[e'];exact h,_,_,_,rfl,by simp⟩
theorem GF.keep {base g:Nat} {W W':World} {s:Gf} (h:GF base W g s) {E:Nat→Prop} {ts:List TypeId} (hE:TE W E (isT ts))(hb:But E W W')(hts:ts.all (fun t=>t==282||t==111)=true):
  W'.heap[g]? =some (.cells (gfc s).toArray 91 (0,0))∧RL 285 base W' s.gr s.vr s.ls∧TB base W' s.gt 128 s.cnt s.trn s.rw∧BL 174 base W' s.gb s.ve s.ex∧W'.heap[s.gf]? =some (.map s.fe s.cf)∧W'.heap[s.gp]? =some (.map s.pe s.cp):=by
 have hn:∀t:TypeId,(t==282||t==111)=false→t∉ts:=fun t ht hm=>by
  have:=List.all_eq_true.1 hts t hm;rw[ht]at this;cases this
 refine⟨hE.keep hb h.gc (zAs (hn _ (by decide)) _ _),⟨h.rl.1,hE.keep hb h.rl.2.1 (zAs (hn _ (by decide)) _ _),hE.own hb h.rl.2.2 (zAs (hn _ (by decide)))⟩,hE.table hb h.tb (zAs (hn _ (by decide))) (zAs (hn _ (by decide))),⟨h.bl.1,hE.keep hb h.bl.2.1 (zAs (hn _ (by decide)) _ _),hE.own hb h.bl.2.2 (zAs (hn _ (by decide)))⟩,hE.keep hb h.fl (zCe _ _),hE.keep hb h.pl (zCe _ _)⟩
theorem ins_src {w:World} {b c:Nat} (hb:w.heap[b]? =some (.map #[] c))(p a:Int)(v:Value):
  ∃w',(Instr.mapUpdate 89 (.map (some b)) (.agg #[.int .u8 p,.int .u32 a]) v).run Tryz.prog w= .ok () w'∧w'.heap[b]? =some (.map #[⟨.agg #[.int .u8 p,.int .u32 a],v,c⟩] (c+1))∧But (fun g=>g=b) w w':=by
 have hf:(Instr.findKey 119 (.agg #[.int .u8 p,.int .u32 a]) []).run Tryz.prog w= .ok none w:=MapKept.run_findKey Tryz.underlying119 rfl;have hlt:=(eS hb);refine⟨{ w with heap:=w.heap.setIfInBounds b (.map #[⟨.agg #[.int .u8 p,.int .u32 a],v,c⟩] (c+1)) },?_,?_,rfl,rfl,rfl,by simp,fun i hi he=> ?_⟩
 ·simp[Instr.mapUpdate,run_underlying Tryz.underlying89,MapKept.run_getObj_map hb,zIo,hf,MapKept.run_setObj_map _ hb,Result.andThen]
 ·simp[hlt]
 ·have he':i≠b:=he
  rw[Array.getElem?_setIfInBounds_ne (by omega)]
theorem pe_nil {s:Gf} {base g:Nat} {W:World} (h:GF base W g s)(hp:s.ps=[]):s.pe=#[]:=by
 have:=h.pm;rw[hp]at this
 simp at this
 exact this
def zHj (s:Gf) (pr ad:Int) (b:Nat) (ws:Nat→Nat):Gf:= { s with ps:=[⟨pr,ad,b,ws⟩],pe:=#[⟨.agg #[.int .u8 pr,.int .u32 ad],.pointer (some ⟨b,0,none⟩),s.cp⟩],cp:=s.cp+1 }
def PnQ (base:Nat) (w w':World) (g:Nat) (s:Gf) (pr ad:Int) (e:Ending):Prop:=∃b,e= .returned (.pointer (some ⟨b,0,none⟩))∧But (fun b=>b=s.gp) w w'∧w.heap.size≤b∧GF base w' g (zHj s pr ad b (zCr (zBy s.lo s.hi)))
theorem zQp(base g:Nat)(s:Gf)(pr ad:Int)(w:World)(h:GF base w g s)(hps:s.ps=[])(h1:1≤s.lo)(h2:s.lo≤s.hi)(h3:s.hi<65536)(hbs:base≤w.heap.size):
  Calls Tryz.prog 163 #[.pointer (some ⟨g,0,none⟩),.agg #[.int .u8 pr,.int .u32 ad]] w fun e w'=>PnQ base w w' g s pr ad e:=by
 have l0:=zAe w (.cells #[.int .u8 pr,.int .u32 ad] 119);have C0:=zAc (heap_alloc_new w (.cells #[.int .u8 pr,.int .u32 ad] 119));have H1:=zAc (h.later l0);have hpe:=pe_nil h hps;have HPE:=zAc hpe;have HPS:=zAc hps;clear h hps hpe;go_enter Tryz.func163,Tryz.ntmps163;go_upto_region 1 with fail;generalize w.alloc _=w1 at*;generalize hgx:w.heap.size=gx at C0⊢;refine zAk (R:=Later) 7 rfl (by kernel_rfl) ?_;have ld:Later w1 w1.drew:=Later.drew w1;generalize w1.drew=w2 at*;have L2:Later w w2:=Later.trans l0 ld;have H2:=zAc (H1.out.later ld);have C2:=zAc (zAb ld C0.out);clear H1 C0 l0 ld;have q0:∀v,Later w2 v→∀j,v.cell? ⟨gx,j,none⟩=#[.int .u8 pr,.int .u32 ad][j]? :=fun v hv=>zAa (zAb hv C2.out);have q1:∀v,Later w2 v→∀j,v.cell? ⟨g,j,none⟩=(gfc s).toArray[j]? :=fun v hv=>zAa (zAb hv H2.out.gc);unfold gfc at q1;have q2:∀v,Later w2 v→(Instr.lookup 89 (.map (some s.gp)) (.agg #[.int .u8 pr,.int .u32 ad]) false).run Tryz.prog v= .ok (.pointer none) v:=fun v hv=>look_src (c:=s.cp) (by rw[←HPE.out];exact zAb hv H2.out.pl) pr ad;refine tX Later.pre 0 ?_;refine tX Later.pre 1 ?_;refine tX Later.pre 2 ?_;refine tX Later.pre 3 ?_;refine tX Later.pre 4 ?_;refine tX Later.pre 5 ?_;refine tX Later.pre 6 ?_;clear q0 q1 q2;refine tD ?_;go_upto_region 3 with fail;refine zAk (R:=Later) 10 rfl (by kernel_rfl) ?_;have ld:Later w2 w2.drew:=Later.drew w2;generalize w2.drew=w3 at*;have L3:Later w w3:=Later.trans L2 ld
 have H3:=zAc (H2.out.later ld);have C3:=zAc (zAb ld C2.out);clear H2 C2 L2 ld;have q1:∀v,Later w3 v→∀j,v.cell? ⟨g,j,none⟩=(gfc s).toArray[j]? :=fun v hv=>zAa (zAb hv H3.out.gc);unfold gfc at q1;refine tX Later.pre 0 ?_;refine tX Later.pre 1 ?_;refine tX Later.pre 2 ?_;refine tX Later.pre 3 ?_;refine tX Later.pre 4 ?_;refine tX Later.pre 5 ?_;refine tX Later.pre 6 ?_;refine tX Later.pre 7 ?_;clear q1;refine tO 8 ?_;refine zAi 221 #[.int .u16 (s.lo:Int),.int .u16 (s.hi:Int)] (by go_simp) ?_;refine(zMy s.lo s.hi h1 h2 h3 w3).mono ?_;rintro e w4 ⟨rfl,l4,hP4⟩;refine⟨l4,?_⟩;simp only[Act.put,sA,sB,sC];refine tX Later.pre 9 ?_;refine tD ?_;have L4:Later w w4:=Later.trans L3 l4;have H4:=zAc (H3.out.later l4);have C4:=zAc (zAb l4 C3.out);have HP4:=zAc hP4;have hs34:w.heap.size≤w3.heap.size:=L3.size;clear H3 C3 L3 l4 hP4;generalize hpb:w3.heap.size=pb at*;go_upto_region 4 with fail;refine zAk (R:=But (fun b=>b=s.gp)) 7 rfl (by kernel_rfl) ?_;have ld:Later w4 w4.drew:=Later.drew w4;generalize w4.drew=w5 at*;have L5:Later w w5:=Later.trans L4 ld;have H5:=zAc (H4.out.later ld);have C5:=zAc (zAb ld C4.out);have HP5:=zAc (HP4.out.later ld);clear H4 C4 L4 HP4 ld;have q0:∀v,But (fun b=>b=s.gp) w5 v→∀j,v.cell? ⟨gx,j,none⟩=#[.int .u8 pr,.int .u32 ad][j]? :=fun v hv=>zAa ((hv.block gx (eS C5.out) (fun e=>by have e':gx=s.gp:=e;have hh:=H5.out.pl;rw[←e',C5.out]at hh;cases hh)).trans C5.out)
 have q1:∀v,But (fun b=>b=s.gp) w5 v→∀j,v.cell? ⟨g,j,none⟩=(gfc s).toArray[j]? :=fun v hv=>zAa ((hv.block g (eS H5.out.gc) (fun e=>by have e':g=s.gp:=e;have hh:=H5.out.pl;rw[←e',H5.out.gc]at hh;cases hh)).trans H5.out.gc);unfold gfc at q1;refine tX (But.pre (fun b=>b=s.gp)) 0 ?_;refine tX (But.pre (fun b=>b=s.gp)) 1 ?_;refine tX (But.pre (fun b=>b=s.gp)) 2 ?_;refine tX (But.pre (fun b=>b=s.gp)) 3 ?_;refine tX (But.pre (fun b=>b=s.gp)) 4 ?_;refine tX (But.pre (fun b=>b=s.gp)) 5 ?_;clear q0 q1;obtain⟨w6,hrun,hm6,hb6⟩:=ins_src (w:=w5) (b:=s.gp) (c:=s.cp) (by rw[←HPE.out];exact H5.out.pl) pr ad (.pointer (some ⟨pb,0,none⟩));refine tO 6 ?_;have HB6:=zAc hb6;have HM6:=zAc hm6;clear hb6 hm6;unfold Oper.wp;go_simp;refine⟨HB6.out,?_⟩;refine tD ?_;clear hrun;have hk:∀(b:Nat) (cur:Array Value) (t:TypeId) (f:Nat × Nat),w5.heap[b]? =some (.cells cur t f)→w6.heap[b]? =some (.cells cur t f):=fun b cur t f hb=>(HB6.out.block b (eS hb) (fun e=>by have e':b=s.gp:=e;have hh:=H5.out.pl;rw[←e',hb]at hh;cases hh)).trans hb
 have hko:∀ {bs:Nat} {e:TypeId} {size:Nat} {v:Value} {n:Nat} {xs:List Value},w5.ownsRow bs e size v n xs→w6.ownsRow bs e size v n xs:=fun h=>by
  obtain⟨q1,q2|⟨b,cap,cur',e',hb',hh,r⟩⟩:=h
  ·exact ⟨q1,.inl q2⟩
  ·exact ⟨q1,.inr ⟨b,cap,cur',e',hb',hk _ _ _ _ hh,r⟩⟩
 have h6:GF base w6 g (zHj s pr ad pb (zCr (zBy s.lo s.hi))):=by
  have h5:=H5.out;obtain⟨vs,t1,t2,t3,t4,t5⟩:=h5.tb;refine⟨h5.bs,hk _ _ _ _ h5.gc,⟨h5.rl.1,hk _ _ _ _ h5.rl.2.1,hko h5.rl.2.2⟩,⟨vs,t1,t2,hk _ _ _ _ t3,fun i hi=>hko (t4 i hi),t5⟩,⟨h5.bl.1,hk _ _ _ _ h5.bl.2.1,hko h5.bl.2.2⟩,?_,HM6.out,h5.ne,h5.bf,h5.fm,rfl,fun f hf=>⟨(h5.fb f hf).1,hk _ _ _ _ (h5.fb f hf).2⟩,fun p hp=> ?_⟩
  ·exact (HB6.out.block s.gf (eS h5.fl) (fun e=>h5.ne e)).trans h5.fl
  ·have hp':p=⟨pr,ad,pb,zCr (zBy s.lo s.hi)⟩:=by simpa[zHj]using hp
   subst hp';exact⟨Nat.le_trans (Nat.le_trans hbs hs34) HP5.out.1,HP5.out.2.1,hk _ _ _ _ HP5.out.2.2⟩
 have M6:But (fun b=>b=s.gp) w w6:=(But.of L5).trans HB6.out;go_wp2_with fail;go_ret
 exact⟨pb,rfl,M6,by omega,h6⟩
attribute [local go_sem] Oper.semAt_some
theorem zFl(p:Nat→Bool)(N a b:Nat)(hab:a≤b)(hb:b<N)(h:∀m,m<N→p m=decide (a≤m∧m≤b)):(List.range N).filter p=zBy a b:=by
 obtain⟨r,hr⟩:∃r,N=a+(b-a+1)+r:=⟨N-b-1,by omega⟩
 have e1:(List.range a).filter p=[]:=by
  rw[List.filter_eq_nil_iff];intro m hm
  have:m<a:=by simpa using hm
  rw[h m (by omega)];simp
  omega
 have e2:((List.range (b-a+1)).map (fun i=>a+i)).filter p=zBy a b:=by
  unfold zBy;rw[List.filter_eq_self];intro m hm
  obtain⟨i,hi,rfl⟩:=List.mem_map.1 hm;have:i<b-a+1:=by simpa using hi
  rw[h _ (by omega)];simp
  omega
 have e3:((List.range r).map (fun i=>a+(b-a+1)+i)).filter p=[]:=by
  rw[List.filter_eq_nil_iff];intro m hm
  obtain⟨i,hi,rfl⟩:=List.mem_map.1 hm;have:i<r:=by simpa using hi
  rw[h _ (by omega)];simp
  omega
 rw[hr,List.range_add,List.range_add,List.filter_append,List.filter_append,e1,e2,e3];simp
theorem zM3(ws:Nat→Nat):∀i,zEq ws i=(List.range (64*i)).filter (fr ws)
 |0=>by unfold zEq;simp
 |i+1=>by
  rw[zGj,zM3 ws i,show 64*(i+1)=64*i+64 from by omega,List.range_add,List.filter_append];congr 1
  unfold wel Pm.bl;rw[List.filter_map];congr 1
  refine List.filter_congr fun j hj=> ?_;have:j<64:=by simpa using hj
  simp only[Function.comp];unfold fr;rw[show (64*i+j)/64=i from by omega,show(64*i+j) % 64=j from by omega]
theorem els_eq(ws:Nat→Nat):els ws=(List.range 65536).filter (fr ws):=zM3 ws 1024
theorem zIy(ws:Nat→Nat)(a b:Nat)(hab:a≤b)(hb:b<65536)(h:∀m,m<65536→fr ws m=decide (a≤m∧m≤b)):els ws=zBy a b:=by
 rw[els_eq];exact zFl (fr ws) 65536 a b hab hb h
theorem zQq(a b:Nat)(h:a≤b):∃L,zBy a b=a::L:=by
 unfold zBy;rw[List.range_succ_eq_map];exact⟨_,rfl⟩
theorem PB.below {base n₀:Nat} {A B:World} {b:Nat} {low high:Int} {ws:Nat→Nat} (h:PB base A b low high ws)(l:Below n₀ A B)(hb:b<n₀):PB base B b low high ws:=⟨h.1,h.2.1,(l.block b hb).trans h.2.2⟩
def PUd (rb b:Nat) (W:World):Prop:=W.heap[rb]? =some (.cells #[.pointer (some ⟨b,0,none⟩)] 117 (0,0))∧W.heap[rb+1]? =some (.cells #[.slice none 0 0] 59 (0,0))
theorem PUd.ct {rb b:Nat} {A B:World} (h:PUd rb b A)(c:CT A B):PUd rb b B:=⟨c.2 _ _ h.1 rfl,c.2 _ _ h.2 rfl⟩
theorem zQr(base b low high:Nat)(ws:Nat→Nat)(hlh:low≤high)(hh:high<65536)(w:World)(hT:PB base w b (low:Int) (high:Int) ws)(hall:∀n,low≤n→n≤high→fr ws n=true):
  Calls Tryz.prog 43 #[.pointer (some ⟨b,0,none⟩)] w fun e w'=>e= .returned (.slice none 0 0)∧Later w w':=by
 have hbl:=hT.lt;have hb4:Later w (((w.alloc (.cells #[.pointer (some ⟨b,0,none⟩)] 117)).alloc (.cells #[.slice none 0 0] 59)).alloc (.cells #[.pointer (some ⟨b,0,none⟩)] 117)):=((bA _ _).alloc (by simp) _).alloc (by simp<;>omega) _;have c0:(((w.alloc (.cells #[.pointer (some ⟨b,0,none⟩)] 117)).alloc (.cells #[.slice none 0 0] 59)).alloc (.cells #[.pointer (some ⟨b,0,none⟩)] 117)).heap[w.heap.size]? =some (.cells #[.pointer (some ⟨b,0,none⟩)] 117):=(Below.heap_alloc _ _ _ (by simp<;>omega)).trans ((Below.heap_alloc _ _ _ (by simp)).trans (heap_alloc_new w _))
 have c1:(((w.alloc (.cells #[.pointer (some ⟨b,0,none⟩)] 117)).alloc (.cells #[.slice none 0 0] 59)).alloc (.cells #[.pointer (some ⟨b,0,none⟩)] 117)).heap[w.heap.size+1]? =some (.cells #[.slice none 0 0] 59):=by
  have:=heap_alloc_new (w.alloc (.cells #[.pointer (some ⟨b,0,none⟩)] 117)) (.cells #[.slice none 0 0] 59);rw[World.size_alloc]at this;exact(Below.heap_alloc _ _ _ (by simp)).trans this
 have c2:(((w.alloc (.cells #[.pointer (some ⟨b,0,none⟩)] 117)).alloc (.cells #[.slice none 0 0] 59)).alloc (.cells #[.pointer (some ⟨b,0,none⟩)] 117)).heap[w.heap.size+1+1]? =some (.cells #[.pointer (some ⟨b,0,none⟩)] 117):=by
  have:=heap_alloc_new ((w.alloc (.cells #[.pointer (some ⟨b,0,none⟩)] 117)).alloc (.cells #[.slice none 0 0] 59)) (.cells #[.pointer (some ⟨b,0,none⟩)] 117);simpa only[World.size_alloc]using this
 have hs4:(((w.alloc (.cells #[.pointer (some ⟨b,0,none⟩)] 117)).alloc (.cells #[.slice none 0 0] 59)).alloc (.cells #[.pointer (some ⟨b,0,none⟩)] 117)).heap.size=w.heap.size+1+1+1:=by simp
 have C0:=zAc c0;have C1:=zAc c1;have C2:=zAc c2;have HS4:=zAc hs4;have HALL:=zAc hall;clear c0 c1 c2 hs4 hall;refine(callsIn_wide (n:=5)).1 ?_;refine callsIn_of_wp_marks Tryz.func43 rfl trivial ?_ rfl;simp only[Tryz.ntmps43,List.size_toArray,List.length_cons,List.length_nil,Nat.reduceAdd,Nat.reduceSub,Array.replicate_succ,Array.replicate_zero,List.push_toArray,List.append_toArray,List.nil_append,List.cons_append];gi_wp2_with (refine⟨trivial,?_⟩;gi_at_call 90;refine(zGk _ _ _).mono ?_;rintro e w' ⟨rfl,rfl⟩)
 generalize (((w.alloc (.cells #[.pointer (some ⟨b,0,none⟩)] 117)).alloc (.cells #[.slice none 0 0] 59)).alloc (.cells #[.pointer (some ⟨b,0,none⟩)] 117))=w4 at*;have hs4:w4.heap.size=w.heap.size+1+1+1:=HS4.out;have hT4:=hT.later hb4
 refine zBt (w:=w4) rfl (by omega) (gf:=144) (lb:=#[.pointer (some ⟨w.heap.size+1+1,0,none⟩)]) rfl trivial (enters_of Tryz.func144 (by kernel_rfl) rfl)
  (zMx 4 (by omega) (w.heap.size+1+1) b w.heap.size low high hlh hh w4 C2.out (by omega) hT4.low hT4.high)
  (fun h k=>h.trans k) (fun W l o o' hl ho hc hw=>zQh (by omega) (by omega) (by omega) hl ho hc hw) (fun hA hL=>KL.of hL (by omega)) (fun _ _ _ _ h _=>h) (fun _ _ _ _ _ _ _ _ _ h=>h) (fun _=>rfl)
  (fun pre W=>PUd w.heap.size b W∧Below w.heap.size w W) (fun pre W=>False)
  (OwnFrom.and (fun s A B row hs hg hr=>hs.ct (CT.row hg (fun r e=>(hr r e).2))) (ownFrom_below (Nat.le_refl _) (by omega)))
  (fun s A B h l=>⟨h.1.ct (CT.of l),h.2.trans (l.mono h.2.size)⟩)
  (fun s A B row hs hg hr=>hs)
  ⟨⟨C0.out,C1.out⟩,hb4⟩
  (fun x a' W=>a'= { tmps:=#[.pointer (some ⟨b,0,none⟩),.pointer (some ⟨w.heap.size,0,none⟩),.slice none 0 0,.pointer (some ⟨w.heap.size+1,0,none⟩),.int .u16 (x:Int),.pointer (some ⟨b,0,none⟩),.bool false,.pointer (some ⟨b,0,none⟩),.func (.func 144) #[] #[.pointer (some ⟨w.heap.size+1+1,0,none⟩)],.int .u16 (x:Int),undef,undef,undef,undef,undef,undef,undef,undef],defers:=[] })
  (fun x a' W l o o' hl ho hc h=>h) ?assign ?body ?done ?stop
 case assign=>
  rintro l pre x W K hsz _ hX hK;dsimp only[encN]
  gi_wp2
  exact hK _ _ (Later.refl _) rfl
 case body=>
  rintro l pre x a' W ⟨⟨h0,h1⟩,hbW⟩ hX rfl
  have hxm:low≤x∧x≤high:=by
   obtain⟨rest,e⟩:=hX;have:x∈zBy low high:=by rw[←e];simp
   exact(zHg hlh).1 this
  have hno:hsP low high ws x=false:=by unfold hsP;rw[HALL.out x hxm.1 hxm.2];simp
  have hHP:=(((callsIn_wide (n:=2)).2 (zMz base b low high ws x W (hT.below hbW hbl) (by omega))).inRound l);rw[hno]at hHP;have HHP:=zAc hHP;have K0:=zAa h0;have hbsz:=hbW.size;clear hHP hno hxm;gi_wp2
  refine⟨trivial,HHP.out.mono ?_⟩;rintro e W1 ⟨rfl,l1⟩;gi_wp2
  exact⟨⟨l1.size,fun i o hi ho hc=>zAb l1 ho⟩,KL.of l1 hbsz,⟨zAb l1 h0,zAb l1 h1⟩,hbW.trans (l1.mono hbsz)⟩
 case done=>
  rintro D xs W hD rfl ⟨⟨h0,h1⟩,hbW⟩ hK;have K1:=zAa h1;gi_wp2
  refine⟨by simp,.inl ⟨_,_,rfl,run_takeDeferred hK,?_⟩⟩;exact⟨.slice none 0 0,by simp[results,Tryz.results43,go_sem],rfl,hbW.trans (belowK_b (w:=w) (Nat.le_refl _) W D _ _ (by omega) hK rfl rfl)⟩
 case stop=>
  rintro D pre W hD hSp hF hK;exact hF.elim
def tkn (lo hi wish:Nat):Nat:=if lo≤wish∧wish≤hi then wish else lo
theorem zQs(lo hi m:Nat)(h:lo≤hi):fr (zCr (zBy lo hi)) m=decide (lo≤m∧m≤hi):=by
 rw[fr_wsOf,decide_eq_decide];exact zHg h
theorem els_new(lo hi:Nat)(h:lo≤hi)(hh:hi<65536):els (zCr (zBy lo hi))=zBy lo hi:=zIy _ lo hi h hh (fun m _=>zQs lo hi m h)
theorem zQt(lo hi wish:Nat)(h:lo≤hi)(hh:hi<65536):fsn (fr (zCr (zBy lo hi)) wish) wish (els (zCr (zBy lo hi)))=tkn lo hi wish∧fsb (fr (zCr (zBy lo hi)) wish) (els (zCr (zBy lo hi)))=true:=by
 rw[zQs lo hi wish h,els_new lo hi h hh];obtain⟨L,hn⟩:=zQq lo hi h;unfold fsn fsb tkn;by_cases hw:lo≤wish∧wish≤hi
 ·simp[hw]
 ·rw[decide_eq_false hw]
  rw[hn];simp[hw]
theorem zCx {lo hi wish:Nat} (h:lo≤hi):lo≤tkn lo hi wish∧tkn lo hi wish≤hi:=by unfold tkn;split<;>omega
theorem GF.pool {base g:Nat} {W W':World} {s:Gf} {pr ad:Int} {b:Nat} {ws ws':Nat→Nat} (h:GF base W g (zHj s pr ad b ws))(hb:But (fun x=>x=b) W W')(hp:PB base W' b (s.lo:Int) (s.hi:Int) ws'):GF base W' g (zHj s pr ad b ws'):=by
 have hP:=h.pb ⟨pr,ad,b,ws⟩ (by simp[zHj]);have hE:=TE.one hP.2.2;obtain⟨k1,k2,k3,k4,k5,k6⟩:=h.keep hE hb (by decide)
 exact⟨h.bs,k1,k2,k3,k4,k5,k6,h.ne,h.bf,h.fm,rfl,fun f hf=>⟨(h.fb f hf).1,hE.keep hb (h.fb f hf).2 (zAs (by decide) _ _)⟩,fun p hp'=>by
  have e:p=⟨pr,ad,b,ws'⟩:=by simpa[zHj]using hp'
  subst e;exact hp⟩
def gTs:List TypeId:=[91,285,125,217,220,174,172,111,282]
theorem GF.other {base g:Nat} {W W':World} {s:Gf} (h:GF base W g s) {E:Nat→Prop} {ts:List TypeId} (hE:TE W E (isT ts))(hb:But E W W')(hts:ts.all (fun t=> !gTs.contains t)=true):GF base W' g s:=by
 have hn:∀t:TypeId,gTs.contains t=true→t∉ts:=fun t ht hm=>by
  have:=List.all_eq_true.1 hts t hm;rw[ht]at this;cases this
 exact⟨h.bs,hE.keep hb h.gc (zAs (hn _ (by decide)) _ _),⟨h.rl.1,hE.keep hb h.rl.2.1 (zAs (hn _ (by decide)) _ _),hE.own hb h.rl.2.2 (zAs (hn _ (by decide)))⟩,hE.table hb h.tb (zAs (hn _ (by decide))) (zAs (hn _ (by decide))),⟨h.bl.1,hE.keep hb h.bl.2.1 (zAs (hn _ (by decide)) _ _),hE.own hb h.bl.2.2 (zAs (hn _ (by decide)))⟩,hE.keep hb h.fl (zCe _ _),hE.keep hb h.pl (zCe _ _),h.ne,h.bf,h.fm,h.pm,fun f hf=>⟨(h.fb f hf).1,hE.keep hb (h.fb f hf).2 (zAs (hn _ (by decide)) _ _)⟩,fun p hp=>⟨(h.pb p hp).1,(h.pb p hp).2.1,hE.keep hb (h.pb p hp).2.2 (zAs (hn _ (by decide)) _ _)⟩⟩
def TnQ (base:Nat) (w w':World) (g:Nat) (s:Gf) (pr ad:Int) (wish:Nat) (e:Ending):Prop:=∃b,e= .returned (.tuple #[.agg #[.int .u8 pr,.int .u32 ad,.int .u16 (tkn s.lo s.hi wish:Int)],.bool true])∧But (fun b=>b=s.gp) w w'∧w.heap.size≤b∧GF base w' g (zHj s pr ad b (wsR (zCr (zBy s.lo s.hi)) (tkn s.lo s.hi wish)))
theorem zQu(base g:Nat)(s:Gf)(pr ad:Int)(wish:Nat)(w:World)(h:GF base w g s)(hps:s.ps=[])(h1:1≤s.lo)(h2:s.lo≤s.hi)(h3:s.hi<65536)(hw:wish<65536)(hbs:base≤w.heap.size)(hz:∀W,But (fun b=>b=s.gp) w W→Dz W)(hg:6≤w.heap.size):
  Calls Tryz.prog 282 #[.pointer (some ⟨g,0,none⟩),.agg #[.int .u8 pr,.int .u32 ad],.int .u16 (wish:Int)] w fun e w'=>TnQ base w w' g s pr ad wish e:=by
 obtain⟨l0,c0,c1⟩:=zBj w (.cells #[.int .u8 pr,.int .u32 ad] 119) (.cells #[.int .u8 0,.int .u32 0,.int .u16 0] 230);have C0:=zAc c0;have C1:=zAc c1;have HPL:=zAc (zQp base g s pr ad _ (h.later l0) hps h1 h2 h3 (Nat.le_trans hbs l0.size));have hgp:=(eS h.pl);have HGP:=zAc hgp;clear c0 c1 h hps hgp;go_enter Tryz.func282,Tryz.ntmps282;go_upto_region 1 with fail;generalize (w.alloc (.cells #[.int .u8 pr,.int .u32 ad] 119)).alloc (.cells #[.int .u8 0,.int .u32 0,.int .u16 0] 230)=w1 at*;generalize hgx:w.heap.size=gx at C0 C1⊢;have k0:=zAa C0.out;have hs1:w.heap.size≤w1.heap.size:=l0.size;go_wp2_with fail;refine HPL.out.mono ?_;rintro e w2 ⟨b,rfl,m2,hb2,h2'⟩;clear k0 HPL;have hkeep:∀k,k=gx∨k=gx+1→¬(k=s.gp):=fun k hk e=>by have:=HGP.out;omega
 have D0:=zAc ((m2.block gx (eS C0.out) (hkeep gx (.inl rfl))).trans C0.out);have D1:=zAc ((m2.block (gx+1) (eS C1.out) (hkeep (gx+1) (.inr rfl))).trans C1.out);have M2:But (fun b=>b=s.gp) w w2:=(But.of l0).trans m2;have hx1:=(eS C1.out);have hz2:=hz w2 M2;have HTK:=zAc (zIt base b s.lo s.hi (zCr (zBy s.lo s.hi)) wish w2 (h2'.pb ⟨pr,ad,b,zCr (zBy s.lo s.hi)⟩ (by simp[zHj])) hw hz2 (by omega));obtain⟨e1,e2⟩:=zQt s.lo s.hi wish h2 h3;rw[e1,tke_t e2]at HTK;unfold tkP at HTK;rw[e2]at HTK;clear e1 e2;have H2:=zAc h2';clear h2' hz hz2 C0 C1 m2;generalize hn:tkn s.lo s.hi wish=n at*;have HN:=zAc hn;clear hn;go_wp2_with fail;refine HTK.out.mono ?_;rintro e w3 ⟨rfl,hP3,m3⟩
 have hP3':PB base w3 b (s.lo:Int) (s.hi:Int) (wsR (zCr (zBy s.lo s.hi)) n):=by
  rcases hP3 with⟨hf,_⟩|⟨_,hp⟩
  ·cases hf
  ·exact hp
 have h3':=H2.out.pool m3 hP3';have hbx:gx+1<b:=by omega
 have E0:=zAc ((m3.block gx (eS D0.out) (fun e=>by have e':gx=b:=e;omega)).trans D0.out);have E1:=zAc ((m3.block (gx+1) (eS D1.out) (fun e=>by have e':gx+1=b:=e;omega)).trans D1.out);have M3:But (fun b=>b=s.gp) w w3:=⟨m3.os.trans M2.os,m3.tape.trans M2.tape,m3.output.trans M2.output,Nat.le_trans M2.size m3.size,fun i hi he=>(m3.block i (Nat.lt_of_lt_of_le hi M2.size) (fun e=>by have e':i=b:=e;omega)).trans (M2.block i hi he)⟩;clear HTK hP3 m3 D0 D1 H2 M2;have k0:=zAa E0.out;have k1:=zAa E1.out;have f1:=zAd E1.out;go_wp2_with fail;generalize hV:World.setCell _ ⟨gx+1,2,none⟩ _=V8;have hV9:V8=zAj w3 (gx+1) 0 [.int .u8 pr,.int .u32 ad,.int .u16 (n:Int)]:=hV.symm;have hb8:But (fun b=>b=gx+1) w3 V8:=by rw[hV9];exact zAf (E:=fun b=>b=gx+1) (n:=gx+1) rfl _ _ _ _ (But.refl _ _)
 have p8:=zAg [.int .u8 pr,.int .u32 ad,.int .u16 (n:Int)] E1.out rfl;rw[←hV9]at p8;clear hV hV9;have P8:=zAa p8;have h8:=h3'.other (TE.one E1.out) hb8 (by decide);have M8:But (fun b=>b=s.gp) w V8:=⟨hb8.os.trans M3.os,hb8.tape.trans M3.tape,hb8.output.trans M3.output,Nat.le_trans M3.size hb8.size,fun i hi he=>(hb8.block i (Nat.lt_of_lt_of_le hi M3.size) (fun e=>by have e':i=gx+1:=e;omega)).trans (M3.block i hi he)⟩;exact bodyPost_ret (v:= .tuple #[.agg #[.int .u8 pr,.int .u32 ad,.int .u16 (n:Int)],.bool true]) (by simp[results,Tryz.results282,go_sem,P8]) rfl ⟨b,by rw[HN.out],M8,by omega,by rw[HN.out];exact h8⟩
theorem zQv(base gt:Nat)(cnt trn:Int)(rw:Nat→List Rw)(p x d a b:Int)(W:World)(h:TB base W gt 128 cnt trn rw)(hk:kx p x d a b rw=none)(hs:0≤x∧x≤4294967295)(hd:0≤d∧d≤4294967295)(ha:0≤a∧a≤65535)(hb:0≤b∧b≤65535):
  Calls Tryz.prog 103 #[.pointer (some ⟨gt,0,none⟩),.agg #[.int .u8 p,.int .u32 x,.int .u32 d,.int .u16 a,.int .u16 b]] W fun e w'=>e= .returned (.tuple #[.int .i64 0,.int .i64 0,.bool false])∧Later W w':=by
 refine(zPp base gt 128 cnt trn rw p x d a b W h hs hd ha hb).mono ?_;rintro e w' ⟨h1,rfl⟩;exact⟨by unfold gtv;rw[hk],h1⟩
theorem zCy(base g:Nat)(s:Gf)(p x d a b:Int)(w:World)(h:GF base w g s)(hk:kx p x d a b s.rw=none)(hs:0≤x∧x≤4294967295)(hd:0≤d∧d≤4294967295)(ha:0≤a∧a≤65535)(hb:0≤b∧b≤65535):
  Calls Tryz.prog 49 #[.pointer (some ⟨g,0,none⟩),.agg #[.int .u8 p,.int .u32 x,.int .u32 d,.int .u16 a,.int .u16 b]] w fun e w'=>e= .returned (.tuple #[.pointer none,.bool false,.bool false])∧Later w w':=by
 have l0:=zAe w (.cells #[.int .u8 p,.int .u32 x,.int .u32 d,.int .u16 a,.int .u16 b] 103);have C0:=zAc (heap_alloc_new w (.cells #[.int .u8 p,.int .u32 x,.int .u32 d,.int .u16 a,.int .u16 b] 103));have HG:=zAc (h.later l0);have HGT:=zAc (fun W (l:Later w W)=>zQv base s.gt s.cnt s.trn s.rw p x d a b W (h.tb.laterD l) hk hs hd ha hb);clear h hs hd ha hb hk;go_enter Tryz.func49,Tryz.ntmps49;go_upto_region 1 with fail;generalize w.alloc _=w1 at*;generalize w.heap.size=gx at*;refine zAn (R:=Later) Later.pre Later.drew 13 rfl (by kernel_rfl) (fun V0 hV0=> ?_);have q0:∀v,Later V0 v→∀j,v.cell? ⟨gx,j,none⟩=#[.int .u8 p,.int .u32 x,.int .u32 d,.int .u16 a,.int .u16 b][j]? :=fun v hv=>zAa (zAb (hV0.trans hv) C0.out);have q1:∀v,Later V0 v→∀j,v.cell? ⟨g,j,none⟩=(gfc s).toArray[j]? :=fun v hv=>zAa (zAb (hV0.trans hv) HG.out.gc);unfold gfc at q1;refine rX Later.pre 0 ?_;refine rX Later.pre 1 ?_;refine rX Later.pre 2 ?_;refine rX Later.pre 3 ?_;refine rX Later.pre 4 ?_;clear q0 q1;refine zAr Later.pre 5 (.tuple #[.int .i64 0,.int .i64 0,.bool false]) rfl (by kernel_rfl) (by kernel_rfl) (by kernel_rfl) (fun _ _ _ h=>h) rfl (fun u hu=>zAo 103 #[.pointer (some ⟨s.gt,0,none⟩),.agg #[.int .u8 p,.int .u32 x,.int .u32 d,.int .u16 a,.int .u16 b]] (by go_simp) (HGT.out u (Later.trans l0 (hV0.trans hu)))) ?_;simp only[Act.put,sA,sB,sC];refine rX Later.pre 6 ?_;refine rX Later.pre 7 ?_;refine rX Later.pre 8 ?_;refine rX Later.pre 9 ?_
 refine rX Later.pre 10 ?_;refine rX Later.pre 11 ?_;refine rX Later.pre 12 ?_;refine rD (fun V9 hV9=> ?_);go_wp2_with fail;exact bodyPost_ret (v:= .tuple #[.pointer none,.bool false,.bool false]) (by simp[results,Tryz.results49,go_sem]) rfl ⟨rfl,Later.trans l0 (hV0.trans hV9)⟩
theorem zQw {w:World} {b:Nat} {es:Array MapEntry} {c:Nat} (hb:w.heap[b]? =some (.map es c)):(Builtin.len_ #[86] 3 #[.map (some b)]).run Tryz.prog w= .ok (.int .i64 (es.size:Int)) w:=by
 simp[Builtin.len_,Builtin.lenOf,run_underlying Tryz.underlying86,MapKept.run_getObj_map hb,Result.andThen,goInt]
theorem zQx(p x d a b p2 x2 d2 a2 b2:Int)(w:World)(h:¬(p=p2∧x=x2∧d=d2∧a=a2∧b=b2)):(binOp .neq 103 (.agg #[.int .u8 p,.int .u32 x,.int .u32 d,.int .u16 a,.int .u16 b]) (.agg #[.int .u8 p2,.int .u32 x2,.int .u32 d2,.int .u16 a2,.int .u16 b2])).run Tryz.prog w= .ok (.bool true) w:=by
 go_simp;by_cases h1:p=p2<;>by_cases h2:x=x2<;>by_cases h3:d=d2<;>by_cases h4:a=a2<;>by_cases h5:b=b2<;>simp_all
theorem zFm(base g:Nat)(s:Gf)(p x d a b p2 x2 d2 a2 b2:Int)(w:World)(h:GF base w g s)(hk:kx p x d a b s.rw=none)(hk2:kx p2 x2 d2 a2 b2 s.rw=none)(hs:0≤x∧x≤4294967295)(hd:0≤d∧d≤4294967295)(ha:0≤a∧a≤65535)(hb:0≤b∧b≤65535)(hs2:0≤x2∧x2≤4294967295)(hd2:0≤d2∧d2≤4294967295)(ha2:0≤a2∧a2≤65535)(hb2:0≤b2∧b2≤65535)(hfs:s.fs.length<64)(hne:¬(p=p2∧x=x2∧d=d2∧kyp p a=kyp p2 a2∧b=b2)):
  Calls Tryz.prog 283 #[.pointer (some ⟨g,0,none⟩),.agg #[.int .u8 p,.int .u32 x,.int .u32 d,.int .u16 a,.int .u16 b],.agg #[.int .u8 p2,.int .u32 x2,.int .u32 d2,.int .u16 a2,.int .u16 b2]] w fun e w'=>e= .returned (.bool true)∧Later w w':=by
 obtain⟨l0,c0,c1⟩:=zBj w (.cells #[.int .u8 p,.int .u32 x,.int .u32 d,.int .u16 a,.int .u16 b] 103) (.cells #[.int .u8 p2,.int .u32 x2,.int .u32 d2,.int .u16 a2,.int .u16 b2] 103);have C0:=zAc c0;have C1:=zAc c1;have HL1:=zAc (fun W (l:Later w W)=>zCy base g s p x d a b W (h.later l) hk hs hd ha hb);have HL2:=zAc (fun W (l:Later w W)=>zCy base g s p2 x2 d2 a2 b2 W (h.later l) hk2 hs2 hd2 ha2 hb2);have hfz:s.fe.size=s.fs.length:=by have:=congrArg List.length h.fm;simpa using this
 have HG:=zAc h;have HNE:=zAc hne;clear c0 c1 h hk hk2 hs hd ha hb hs2 hd2 ha2 hb2 hne;go_enter Tryz.func283,Tryz.ntmps283;go_upto_region 1 with fail;generalize (w.alloc (.cells #[.int .u8 p,.int .u32 x,.int .u32 d,.int .u16 a,.int .u16 b] 103)).alloc (.cells #[.int .u8 p2,.int .u32 x2,.int .u32 d2,.int .u16 a2,.int .u16 b2] 103)=w1 at*;generalize w.heap.size=gx at C0 C1⊢;have k0:=zAa C0.out;go_wp2_with fail;refine(HL1.out w1 l0).mono ?_;rintro e w2 ⟨rfl,l2⟩;clear k0 HL1;have L2:Later w w2:=l0.trans l2;have k1:=zAa (zAb l2 C1.out);go_wp2_with fail;refine(HL2.out w2 L2).mono ?_;rintro e w3 ⟨rfl,l3⟩;clear k1 HL2;have L3:Later w w3:=L2.trans l3;have D0:=zAc (zAb (Later.trans l2 l3) C0.out);have D1:=zAc (zAb (Later.trans l2 l3) C1.out);have H3:=zAc (HG.out.later L3);clear C0 C1 HG l2 l3 L2;go_upto_region 3 with fail;refine zAn (R:=Later) Later.pre Later.drew 22 rfl (by kernel_rfl) (fun V0 hV0=> ?_);have q0:∀v,Later V0 v→∀j,v.cell? ⟨gx,j,none⟩=#[.int .u8 p,.int .u32 x,.int .u32 d,.int .u16 a,.int .u16 b][j]? :=fun v hv=>zAa (zAb (hV0.trans hv) D0.out);have q1:∀v,Later V0 v→∀j,v.cell? ⟨gx+1,j,none⟩=#[.int .u8 p2,.int .u32 x2,.int .u32 d2,.int .u16 a2,.int .u16 b2][j]? :=fun v hv=>zAa (zAb (hV0.trans hv) D1.out);have q2:∀v,Later V0 v→∀j,v.cell? ⟨g,j,none⟩=(gfc s).toArray[j]? :=fun v hv=>zAa (zAb (hV0.trans hv) H3.out.gc);unfold gfc at q2
 have q3:∀v,Later V0 v→v.heap[s.gf]? =some (.map s.fe s.cf):=fun v hv=>zAb (hV0.trans hv) H3.out.fl;refine rX Later.pre 0 ?_;refine rX Later.pre 1 ?_;refine rX Later.pre 2 ?_;refine rX Later.pre 3 ?_;have hlI:((s.fs.length:Nat):Int)<64:=by omega
 have q4:∀v,Later V0 v→(Builtin.len_ #[86] 3 #[.map (some s.gf)]).run Tryz.prog v= .ok (.int .i64 ((s.fs.length:Nat):Int)) v:=fun v hv=>by rw[←hfz];exact zQw (q3 v hv)
 clear q3;refine rX Later.pre 4 ?_;refine rX Later.pre 5 ?_;clear q4;refine rX Later.pre 6 ?_;refine qX Later.pre 7 ?_;refine qX Later.pre 8 ?_;refine rX Later.pre 9 ?_;refine rX Later.pre 10 ?_;refine qX Later.pre 11 ?_;refine qX Later.pre 12 ?_;refine rX Later.pre 13 ?_;refine rX Later.pre 14 ?_;refine qX Later.pre 15 ?_;refine qX Later.pre 17 ?_;clear q0 q1 q2;refine zBz Later.pre 16 (.agg #[.int .u8 p,.int .u32 x,.int .u32 d,.int .u16 (kyp p a),.int .u16 b]) rfl (by kernel_rfl) (by kernel_rfl) (by kernel_rfl) (fun _ _ _ h=>h) (by rfl) (fun u hu=>zAo 104 #[.agg #[.int .u8 p,.int .u32 x,.int .u32 d,.int .u16 a,.int .u16 b]] (by go_simp) (zDd p x d a b u)) ?_;simp only[Act.put,sA,sB,sC];refine zBz Later.pre 18 (.agg #[.int .u8 p2,.int .u32 x2,.int .u32 d2,.int .u16 (kyp p2 a2),.int .u16 b2]) rfl (by kernel_rfl) (by kernel_rfl) (by kernel_rfl) (fun _ _ _ h=>h) (by rfl) (fun u hu=>zAo 104 #[.agg #[.int .u8 p2,.int .u32 x2,.int .u32 d2,.int .u16 a2,.int .u16 b2]] (by go_simp) (zDd p2 x2 d2 a2 b2 u)) ?_;simp only[Act.put,sA,sB,sC];generalize kyp p a=ka at*;generalize kyp p2 a2=ka2 at*;have q5:∀v:World,(binOp .neq 103 (.agg #[.int .u8 p,.int .u32 x,.int .u32 d,.int .u16 ka,.int .u16 b]) (.agg #[.int .u8 p2,.int .u32 x2,.int .u32 d2,.int .u16 ka2,.int .u16 b2])).run Tryz.prog v= .ok (.bool true) v:=fun v=>zQx p x d ka b p2 x2 d2 ka2 b2 v HNE.out
 refine zH3 Later.pre 19 rfl (by kernel_rfl) (by kernel_rfl) (by kernel_rfl) (fun _ _ _ _ h=>h) (by rfl) ⟨.bool true,fun v1 hv1=>by first|(simp only[execOp,Act.eval,Array.getD_eq_getD_getElem?,List.getElem?_toArray,List.getElem?_cons_zero,List.getElem?_cons_succ,Option.getD_some,Sem.run_bind,q5,Result.andThen];rfl)|(have hn:=HNE.out;clear q5;go_simp;by_cases g1:p=p2<;>by_cases g2:x=x2<;>by_cases g3:d=d2<;>by_cases g4:ka=ka2<;>by_cases g5:b=b2<;>simp_all),?_⟩;simp only[Act.put,sA,sB,sC];refine rX Later.pre 20 ?_;refine rX Later.pre 21 ?_;refine rD (fun V9 hV9=> ?_);go_wp2_with fail;go_ret
 exact⟨rfl,L3.trans (hV0.trans hV9)⟩
def Rf (n:Nat) (A B:World):Prop:=But (fun b=>b=n) A B∧∀j,j≠12→j≠13→B.cell? ⟨n,j,none⟩=A.cell? ⟨n,j,none⟩
theorem Rf.pre(n:Nat):Pre (Rf n):=⟨fun A=>⟨But.refl _ _,fun _ _ _=>rfl⟩,fun A B C h k=>⟨h.1.trans k.1,fun j h1 h2=>(k.2 j h1 h2).trans (h.2 j h1 h2)⟩⟩
def Fl.at (f:Fl) (st till:Int):Fl:= { f with st:=st,till:=till }
def zHk (s:Gf) (f:Fl):Gf:= { s with fs:=s.fs.map (fun x=>if x.blk=f.blk then f else x) }
theorem GF.flow {base g:Nat} {W W':World} {s:Gf} (h:GF base W g s)(f f2:Fl)(hf:f∈s.fs)(hu:∀x∈s.fs,x.blk=f.blk→x=f)(hb:But (fun x=>x=f.blk) W W')(e1:f2.blk=f.blk)(e2:f2.id=f.id)(h2:W'.heap[f.blk]? =some (.cells (flc f2).toArray 111 (0,0))):GF base W' g (zHk s f2):=by
 have hF:=h.fb f hf;have hE:=TE.one hF.2;obtain⟨k1,k2,k3,k4,k5,k6⟩:=h.keep hE hb (by decide);refine⟨h.bs,k1,k2,k3,k4,k5,k6,h.ne,h.bf,?_,h.pm,fun x hx=> ?_,fun p hp=>⟨(h.pb p hp).1,(h.pb p hp).2.1,hE.keep hb (h.pb p hp).2.2 (zAs (by decide) _ _)⟩⟩
 ·show s.fe.toList.map (fun e=>(e.key,e.val))=(s.fs.map _).map flE
  rw[h.fm];rw[List.map_map];apply List.map_congr_left
  intro x hx
  show flE x=flE (if x.blk=f2.blk then f2 else x)
  split
  ·rename_i e
   have:=hu x hx (e.trans e1);subst this;unfold flE;rw[e1,e2]
  ·rfl
 ·obtain ⟨y,hy,rfl⟩:=List.mem_map.1 hx
  split
  ·rw[e1]
   exact⟨hF.1,h2⟩
  ·rename_i e
   exact⟨(h.fb y hy).1,(hb.block y.blk (Array.getElem?_eq_some_iff.1 (h.fb y hy).2).1 (fun e'=>e (by have e2:y.blk=f.blk:=e';rw[e2,e1]))).trans (h.fb y hy).2⟩
theorem zFn {s:Gf} {f f2:Fl} (hf:f∈s.fs)(e:f2.blk=f.blk):f2∈(zHk s f2).fs:=List.mem_map.2 ⟨f,hf,by rw[if_pos e.symm]⟩
theorem GF.moved {base g:Nat} {W W':World} {s:Gf} (h:GF base W g s)(hk:KT W W')(hb:KM W W') {trn:Int} {rw:Nat→List Rw} (ht:TB base W' s.gt 128 s.cnt trn rw):GF base W' g { s with trn:=trn,rw:=rw } :=by
 have ho:∀ {e:TypeId} {size:Nat} {v:Value} {n:Nat} {xs:List Value},e≠217→e≠220→W.ownsRow base e size v n xs→W'.ownsRow base e size v n xs:=fun h1 h2 q=>by
  obtain⟨q1,q2|⟨b,cap,cur',e',hb',hh,r⟩⟩:=q
  ·exact ⟨q1,.inl q2⟩
  ·exact ⟨q1,.inr ⟨b,cap,cur',e',hb',hk _ _ _ _ hh h1 h2,r⟩⟩
 exact⟨h.bs,hk _ _ _ _ h.gc (by decide) (by decide),⟨h.rl.1,hk _ _ _ _ h.rl.2.1 (by decide) (by decide),ho (by decide) (by decide) h.rl.2.2⟩,ht,⟨h.bl.1,hk _ _ _ _ h.bl.2.1 (by decide) (by decide),ho (by decide) (by decide) h.bl.2.2⟩,hb.map h.fl,hb.map h.pl,h.ne,h.bf,h.fm,h.pm,fun f hf=>⟨(h.fb f hf).1,hk _ _ _ _ (h.fb f hf).2 (by decide) (by decide)⟩,fun p hp=>⟨(h.pb p hp).1,(h.pb p hp).2.1,hk _ _ _ _ (h.pb p hp).2.2 (by decide) (by decide)⟩⟩
def gK (o:Obj):Prop:=match o with
 | .cells _ t _=>gTs.contains t=true
 | .map _ _=>True
 |_=>False
structure KG (base:Nat) (w w':World):Prop where
 os:w'.os=w.os
 tape:w'.tape=w.tape
 output:w'.output=w.output
 size:w.heap.size≤w'.heap.size
 block:∀(k:Nat) (o:Obj),w.heap[k]? =some o→(k<base∨¬gK o)→w'.heap[k]? =some o
theorem KG.refl(base:Nat)(w:World):KG base w w:=⟨rfl,rfl,rfl,Nat.le_refl _,fun _ _ h _=>h⟩
theorem KG.trans {base:Nat} {a b c:World} (h:KG base a b)(k:KG base b c):KG base a c:=⟨k.os.trans h.os,k.tape.trans h.tape,k.output.trans h.output,Nat.le_trans h.size k.size,fun i o h1 h2=>k.block i o (h.block i o h1 h2) h2⟩
theorem KG.of_later {base:Nat} {a b:World} (h:Later a b):KG base a b:=⟨h.os,h.tape,h.output,h.size,fun _ _ h1 _=>zAb h h1⟩
theorem KG.of_but {base:Nat} {E:Nat→Prop} {a b:World} (h:But E a b)(hE:∀k,E k→base≤k∧∀o,a.heap[k]? =some o→gK o):KG base a b:=⟨h.os,h.tape,h.output,h.size,fun k o h1 h2=>(h.block k (eS h1) (fun e=>by
 obtain⟨q1,q2⟩:=hE k e;rcases h2 with h2|h2
 ·omega
 ·exact h2 (q2 o h1))).trans h1⟩
theorem KG.below {base:Nat} {a b:World} (h:KG base a b)(hb:base≤a.heap.size):Below base a b:=⟨h.os,h.tape,h.output,h.size,fun i hi=>by
 have hi':i<a.heap.size:=Nat.lt_of_lt_of_le hi hb;obtain⟨o,ho⟩:∃o,a.heap[i]? =some o:=⟨_,Array.getElem?_eq_getElem hi'⟩;rw[ho];exact h.block i o ho (.inl hi)⟩
theorem KG.cells {base:Nat} {a b:World} (h:KG base a b) {k:Nat} {cur:Array Value} {t:TypeId} {f:Nat × Nat} (hk:a.heap[k]? =some (.cells cur t f))(ht:gTs.contains t=false):b.heap[k]? =some (.cells cur t f):=h.block k _ hk (.inr (by show ¬(gTs.contains t=true);rw[ht];simp))
def KX (w w':World):Prop:=KT w w'
theorem KX.pre:Pre KX:=⟨fun a k cur t f h _ _=>h,fun a b c h k i cur t f q h1 h2=>k i cur t f (h i cur t f q h1 h2) h1 h2⟩
theorem KX.of {w w':World} (h:KT w w'):KX w w':=h
def TuB (t:Tu):Prop:=(0≤t.src∧t.src≤4294967295)∧(0≤t.dst∧t.dst≤4294967295)∧(0≤t.sp∧t.sp≤65535)∧(0≤t.dp∧t.dp≤65535)
def kxT (t:Tu) (ls:Nat→List Rw):Option Nat:=kx t.pr t.src t.dst t.sp t.dp ls
def bkT (t:Tu):Nat:=bki t.pr t.src t.dst t.sp t.dp
def mvT (t:Tu) (till:Int) (q:Int × (Nat→List Rw)):Int × (Nat→List Rw):=match (if zDe till=false then none else kxT t q.2) with
 |none=>q
 |some k=>(q.1+1,mvL q.2 (bkT t) k till (q.1+1))
theorem mvT_fst(t:Tu)(till:Int)(q:Int × (Nat→List Rw)):q.1≤(mvT t till q).1∧(mvT t till q).1≤q.1+1:=by
 unfold mvT;split
 ·omega
 ·exact ⟨by show q.1≤q.1+1;omega,Int.le_refl _⟩
theorem moveF(base gt:Nat)(cnt trn:Int)(rw:Nat→List Rw)(t:Tu)(till:Int)(w:World)(hT:TB base w gt 128 cnt trn rw)(hB:TuB t)(hbs:base≤w.heap.size)(htr:0≤trn∧trn≤1000000):
  Calls Tryz.prog 242 #[.pointer (some ⟨gt,0,none⟩),.agg #[.int .u8 t.pr,.int .u32 t.src,.int .u32 t.dst,.int .u16 t.sp,.int .u16 t.dp],.int .i64 till] w fun e w'=>∃ev:Int,e= .returned (.int .i64 ev)∧TB base w' gt 128 cnt (mvT t till (trn,rw)).1 (mvT t till (trn,rw)).2∧KT w w'∧KM w w'∧KG base w w':=by
 refine(move_any base gt 128 cnt trn rw t.pr t.src t.dst t.sp t.dp till w hT hB.1 hB.2.1 hB.2.2.1 hB.2.2.2 hbs htr).mono ?_;rintro e w' ⟨he,⟨h0,h1,h2⟩|⟨h0,k,gg,hk,hbg,h1,h2,h3,h4⟩⟩
 ·refine ⟨_,he,?_,KT.of_later h2,KM.of_later h2,KG.of_later h2⟩
  have e1:(if zDe till=false then none else kxT t rw)=none:=by
   unfold move at h0;split
   ·rfl
   ·rename_i hm
    rw[if_neg hm]at h0;by_cases e:kx t.pr t.src t.dst t.sp t.dp rw=none
    ·exact e
    ·rw[if_neg e]at h0;exact absurd rfl h0
  have e2:mvT t till (trn,rw)=(trn,rw):=by unfold mvT;rw[e1]
  rw[e2];exact h1
 ·refine ⟨_,he,?_,h3,h4,h2.os,h2.tape,h2.output,h2.size,fun i o q1 q2=> ?_⟩
  ·have e1:(if zDe till=false then none else kxT t rw)=some k:=by
    unfold move at h0;split
    ·rename_i hm
     rw[if_pos hm]at h0;exact absurd h0 (by decide)
    ·exact hk
   have e2:mvT t till (trn,rw)=(trn+1,mvL rw (bkT t) k till (trn+1)):=by unfold mvT;rw[e1]
   rw[e2];exact h1
  ·rcases q2 with q2|q2
   ·obtain ⟨vs,hTv⟩:=hT
    refine(h2.block i (eS q1) (fun e=> ?_)).trans q1;have:=hTv.2.1;rcases e with e|e<;>omega
   ·refine h4 i o q1 (fun cur ty fz e=>⟨fun e2=>q2 ?_,fun e2=>q2 ?_⟩)
    ·subst e;subst e2;show gTs.contains _=true;decide
    ·subst e;subst e2;show gTs.contains _=true;decide
def bcM (s:Gf) (f:Fl) (tl:Int):Int × (Nat→List Rw):=mvT f.r tl (mvT f.o tl (s.trn,s.rw))
def bcS (s:Gf) (f:Fl) (st:Int):Gf:= { zHk s (f.at st (s.now+tm f.o.pr st))with trn:=(bcM s f (s.now+tm f.o.pr st)).1,rw:=(bcM s f (s.now+tm f.o.pr st)).2 }
theorem zQy(p s:Int):0≤tm p s∧tm p s≤432000:=by
 unfold tm tmT tmO;repeat' split
 all_goals omega
theorem wrap_now {a b:Int} (h1:0≤a)(h2:a≤549755813888)(h3:0≤b∧b≤432000):IntKind.i64.wrap (a+b)=a+b:=by
 exact zK9 _ (by omega) (by omega)
theorem Rf.set {n:Nat} (w:World) {j:Nat} (v:Value)(hj:j=12∨j=13):Rf n w (w.setCell ⟨n,j,none⟩ v):=⟨(But.refl (fun b=>b=n) w).setCell (p:=⟨n,j,none⟩) (show _=_ from rfl) v,fun i h1 h2=>by
 exact World.cell?_setCell_other _ _ _ _ (fun e=>by injection e with e1 e2 e3;omega)⟩
theorem zC8(base g:Nat)(s:Gf)(f:Fl)(st:Int)(w:World)(h:GF base w g s)(hf:f∈s.fs)(hu:∀x∈s.fs,x.blk=f.blk→x=f)(hbs:base≤w.heap.size)(hBo:TuB f.o)(hBr:TuB f.r)(htr:0≤s.trn∧s.trn≤999999)(hnw:0≤s.now∧s.now≤549755813888):
  Calls Tryz.prog 173 #[.pointer (some ⟨g,0,none⟩),.pointer (some ⟨f.blk,0,none⟩),.int .i64 st] w fun e w'=>e= .returned (.tuple #[])∧KG base w w'∧GF base w' g (bcS s f st):=by
 obtain⟨tl,htl⟩:∃tl,tl=s.now+tm f.o.pr st:=⟨_,rfl⟩;have HTL:=zAc htl;have hwr:IntKind.i64.wrap (s.now+tm f.o.pr st)=tl:=by rw[htl];exact wrap_now hnw.1 hnw.2 (zQy _ _)
 have HWR:=zAc hwr;have hFB:=h.fb f hf;have HF:=zAc hFB;have HG:=zAc h
 have hgf:g≠f.blk:=fun e=>by
  have h1:=h.gc;rw[e,hFB.2]at h1;injection h1 with h2
  injection h2 with h3 h4 h5
  exact absurd h4 (by decide)
 have HGF:=zAc hgf;have hSf:=fun W' (hb:But (fun x=>x=f.blk) w W') (h2:W'.heap[f.blk]? =some (.cells (flc (f.at st tl)).toArray 111 (0,0)))=>h.flow f (f.at st tl) hf hu hb rfl rfl h2;have HSF:=zAc hSf;clear h hFB hgf htl hwr hSf hnw;go_enter Tryz.func173,Tryz.ntmps173;go_upto_region 0 with fail;refine zAk (R:=Rf f.blk) 24 rfl (by kernel_rfl) ?_;have ld:Later w w.drew:=Later.drew w;generalize hwd:w.drew=wd at*;clear hwd;have k1:∀v,Rf f.blk wd v→∀j,v.cell? ⟨g,j,none⟩=(gfc s).toArray[j]? :=fun v hv=>zAa ((hv.1.block g (eS (zAb ld HG.out.gc)) (fun e=>HGF.out e)).trans (zAb ld HG.out.gc));have k2:∀v,Rf f.blk wd v→v.cell? ⟨f.blk,1,none⟩=some (.int .u8 f.o.pr):=fun v hv=>(hv.2 1 (by decide) (by decide)).trans (zAa (zAb ld HF.out.2) 1);unfold gfc at k1;refine tX (Rf.pre f.blk) 0 ?_;refine tX (Rf.pre f.blk) 1 ?_;refine tX (Rf.pre f.blk) 2 ?_;refine tX (Rf.pre f.blk) 3 ?_;refine tX (Rf.pre f.blk) 4 ?_;refine tX (Rf.pre f.blk) 5 ?_;refine tX (Rf.pre f.blk) 6 ?_;refine tX (Rf.pre f.blk) 7 ?_;refine tX (Rf.pre f.blk) 8 ?_;refine tX (Rf.pre f.blk) 9 ?_;refine tX (Rf.pre f.blk) 10 ?_;refine tX (Rf.pre f.blk) 11 ?_;refine tX (Rf.pre f.blk) 12 ?_;refine tX (Rf.pre f.blk) 13 ?_;refine tO 14 ?_;refine zAi 241 #[.int .u8 f.o.pr,.int .i64 st] (by go_simp) ?_;refine(time_any f.o.pr st wd).mono ?_;rintro e w1 ⟨rfl,rfl⟩;refine⟨(Rf.pre f.blk).1 _,?_⟩;simp only[Act.put,sA,sB,sC]
 refine anyT_val (Rf.pre f.blk) 15 rfl (by kernel_rfl) (by kernel_rfl) (by kernel_rfl) (fun _ _ _ _ h=>h) rfl ⟨.int .i64 tl,fun v1 hv1=>by(have hq:=HWR.out;go_simp),?_⟩;simp only[Act.put,sA,sB,sC];refine tX (Rf.pre f.blk) 16 ?_;refine tX (Rf.pre f.blk) 17 ?_;refine tX (Rf.pre f.blk) 18 ?_;clear k1 k2;have kc:=zAa (zAb ld HF.out.2);have fz:=zAd (zAb ld HF.out.2);unfold flc at kc;refine tO 19 ?_;unfold Oper.wp;go_simp;refine⟨Rf.set _ _ (.inl rfl),?_⟩;have c1:=zAh (zAb ld HF.out.2) 12 (.int .i64 st);have kc2:=zAa c1;have fz2:=zAd c1;clear kc fz;refine tX (Rf.pre f.blk) 20 ?_;refine tX (Rf.pre f.blk) 21 ?_;refine tX (Rf.pre f.blk) 22 ?_;refine tO 23 ?_;unfold Oper.wp;go_simp;refine⟨Rf.set _ _ (.inr rfl),?_⟩;refine tD ?_;have c2:=zAh c1 13 (.int .i64 tl);have hbb:But (fun x=>x=f.blk) w ((w1.setCell ⟨f.blk,12,none⟩ (.int .i64 st)).setCell ⟨f.blk,13,none⟩ (.int .i64 tl)):=((But.of (E:=fun x=>x=f.blk) ld).setCell (p:=⟨f.blk,12,none⟩) (show _=_ from rfl) (.int .i64 st)).setCell (p:=⟨f.blk,13,none⟩) (show _=_ from rfl) (.int .i64 tl);clear kc2 fz2 c1;generalize (w1.setCell ⟨f.blk,12,none⟩ (.int .i64 st)).setCell ⟨f.blk,13,none⟩ (.int .i64 tl)=w2 at*;have H1:=zAc (HSF.out w2 hbb c2)
 have M1:Hid (KG base w w2):=KG.of_but hbb (fun k e=>by
  have e':k=f.blk:=e;refine⟨by rw[e'];exact HF.out.1,fun o ho=> ?_⟩;rw[e',HF.out.2]at ho;cases ho
  show gTs.contains _=true
  decide)
 clear HSF HGF HG HF hbb c2 ld hu HWR;go_upto_region 1 with fail;refine zAk (R:=KX) 15 rfl (by kernel_rfl) ?_;have ld:Later w2 w2.drew:=Later.drew w2;generalize w2.drew=w2d at*;have HD1:=zAc (H1.out.later ld);have MD1:=zAc (M1.out.trans (KG.of_later ld));clear H1 M1 ld;have hbd:base≤w2d.heap.size:=Nat.le_trans hbs MD1.out.size;have k1:∀v,KX w2d v→∀j,v.cell? ⟨g,j,none⟩=(gfc s).toArray[j]? :=fun v hv=>zAa (hv g _ _ _ HD1.out.gc (by decide) (by decide));have k2:∀v,KX w2d v→∀j,v.cell? ⟨f.blk,j,none⟩=(flc (f.at st tl)).toArray[j]? :=fun v hv=>zAa (hv f.blk _ _ _ (HD1.out.fb (f.at st tl) (zFn hf rfl)).2 (by decide) (by decide));unfold gfc at k1;unfold flc Fl.at at k2;refine tX KX.pre 0 ?_;refine tX KX.pre 1 ?_;refine tX KX.pre 2 ?_;refine tX KX.pre 3 ?_;refine tX KX.pre 4 ?_;refine tX KX.pre 5 ?_;refine tX KX.pre 6 ?_;refine tX KX.pre 7 ?_;refine tX KX.pre 8 ?_;refine tX KX.pre 9 ?_;refine tX KX.pre 10 ?_;refine tX KX.pre 11 ?_;refine tX KX.pre 12 ?_;refine tX KX.pre 13 ?_;clear k1 k2;refine tO 14 ?_;refine zAi 242 #[.pointer (some ⟨s.gt,0,none⟩),.agg #[.int .u8 f.o.pr,.int .u32 f.o.src,.int .u32 f.o.dst,.int .u16 f.o.sp,.int .u16 f.o.dp],.int .i64 tl] (by go_simp) ?_;refine(moveF base s.gt s.cnt (s.trn,s.rw).1 (s.trn,s.rw).2 f.o tl w2d HD1.out.tb hBo hbd (by exact⟨htr.1,by show s.trn≤1000000;omega⟩)).mono ?_;rintro e w3 ⟨ev,rfl,hT,hk,hm,hg⟩;refine⟨KX.of hk,?_⟩;simp only[Act.put,sA,sB,sC];refine tD ?_;have H2:=zAc (HD1.out.moved hk hm hT)
 have M2:=zAc (MD1.out.trans hg);clear HD1 MD1 hT hk hm hg hbd;go_upto_region 2 with fail;refine zAk (R:=KX) 15 rfl (by kernel_rfl) ?_;have ld:Later w3 w3.drew:=Later.drew w3;generalize w3.drew=w3d at*;have HD2:=zAc (H2.out.later ld);have MD2:=zAc (M2.out.trans (KG.of_later ld));clear H2 M2 ld;have hbd:base≤w3d.heap.size:=Nat.le_trans hbs MD2.out.size;have k1:∀v,KX w3d v→∀j,v.cell? ⟨g,j,none⟩=(gfc s).toArray[j]? :=fun v hv=>zAa (hv g _ _ _ HD2.out.gc (by decide) (by decide));have k2:∀v,KX w3d v→∀j,v.cell? ⟨f.blk,j,none⟩=(flc (f.at st tl)).toArray[j]? :=fun v hv=>zAa (hv f.blk _ _ _ (HD2.out.fb (f.at st tl) (zFn hf rfl)).2 (by decide) (by decide));unfold gfc at k1;unfold flc Fl.at at k2;refine tX KX.pre 0 ?_;refine tX KX.pre 1 ?_;refine tX KX.pre 2 ?_;refine tX KX.pre 3 ?_;refine tX KX.pre 4 ?_;refine tX KX.pre 5 ?_;refine tX KX.pre 6 ?_;refine tX KX.pre 7 ?_;refine tX KX.pre 8 ?_;refine tX KX.pre 9 ?_;refine tX KX.pre 10 ?_;refine tX KX.pre 11 ?_;refine tX KX.pre 12 ?_;refine tX KX.pre 13 ?_;clear k1 k2;refine tO 14 ?_;refine zAi 242 #[.pointer (some ⟨s.gt,0,none⟩),.agg #[.int .u8 f.r.pr,.int .u32 f.r.src,.int .u32 f.r.dst,.int .u16 f.r.sp,.int .u16 f.r.dp],.int .i64 tl] (by go_simp) ?_;refine(moveF base s.gt s.cnt (mvT f.o tl (s.trn,s.rw)).1 (mvT f.o tl (s.trn,s.rw)).2 f.r tl w3d HD2.out.tb hBr hbd (by have:=mvT_fst f.o tl (s.trn,s.rw);simp only at this;omega)).mono ?_;rintro e w4 ⟨ev,rfl,hT,hk,hm,hg⟩;refine⟨KX.of hk,?_⟩
 simp only[Act.put,sA,sB,sC];refine tD ?_;have H3:=zAc (HD2.out.moved hk hm hT);have M3:=zAc (MD2.out.trans hg);clear HD2 MD2 hT hk hm hg hbd;go_wp2_with fail;go_end0
 refine⟨rfl,M3.out,?_⟩;have h3:=H3.out;rw[HTL.out]at h3;exact h3
end Go.Proofs.YteaeilghamjjkaaGreatDoor
