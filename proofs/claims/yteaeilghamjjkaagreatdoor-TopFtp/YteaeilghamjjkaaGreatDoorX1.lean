import Derived.Test.YteaeilghamjjkaaGreatDoorX2
namespace Go.Proofs.YteaeilghamjjkaaGreatDoor
set_option maxHeartbeats 16000000
open Go.RowKit Go.Shelf
set_option maxRecDepth 100000
set_option linter.unusedVariables false
set_option linter.unusedSimpArgs false
def ExC (v:Value) (n:Nat) (wx:World) (y:Ex):Prop:=∃gn,v= .pointer (some ⟨gn,0,none⟩)∧n≤gn∧wx.heap[gn]? =some (.cells #[.int .u8 y.pr,.int .u32 y.src,.int .u32 y.dst,.int .u16 y.sp,.int .u16 y.dp,.int .u32 y.host,.int .u16 y.hp,.int .i64 y.ms,.int .i64 y.dl] 172 (0,0))
def RuC (v:Value) (n:Nat) (wx:World):Prop:=∃gn,v= .pointer (some ⟨gn,0,none⟩)∧n≤gn∧wx.heap[gn]? =some (.cells #[.int .i64 0,.int .u8 0,.int .u32 0,.int .i64 0,.int .u32 0,.int .u16 0,.int .u32 0,.int .u16 0] 125 (0,0))
theorem zR0(y:Ex)(w:World):Calls Tryz.prog 109 #[.agg #[.int .u8 y.pr,.int .u32 y.src,.int .u32 y.dst,.int .u16 y.sp,.int .u16 y.dp,.int .u32 y.host,.int .u16 y.hp,.int .i64 y.ms,.int .i64 y.dl]] w fun e w'=>e= .returned (.agg #[.int .u8 y.pr,.int .u32 y.dst,.int .u16 y.dp])∧Later w w':=by
 obtain⟨l0,c0,c1⟩:=zBa w (.cells #[.int .u8 y.pr,.int .u32 y.src,.int .u32 y.dst,.int .u16 y.sp,.int .u16 y.dp,.int .u32 y.host,.int .u16 y.hp,.int .i64 y.ms,.int .i64 y.dl] 172) (.cells #[.int .u8 0,.int .u32 0,.int .u16 0] 230);have C0:=zAd c0;have C1:=zAd c1;clear c0 c1;go_enter Tryz.func109,Tryz.ntmps109;go_upto_region 1 with fail;generalize hw1:World.alloc _ _=w1 at*;clear hw1;generalize hgx:w.heap.size=gx at C0 C1⊢;have k0:=zAa C0.out;have k1:=zAa C1.out;have f1:=zAc C1.out;go_wp2_with fail;generalize hV:World.setCell _ ⟨_,2,none⟩ _=V8;have hV9:V8=zAi w1 (gx+1) 0 [.int .u8 y.pr,.int .u32 y.dst,.int .u16 y.dp]:=hV.symm;have hb8:But (fun b=>b=gx+1) w1 V8:=by rw[hV9];exact zAf (E:=fun b=>b=gx+1) (n:=gx+1) rfl _ _ _ _ (But.refl _ _)
 have p8:=zAe [.int .u8 y.pr,.int .u32 y.dst,.int .u16 y.dp] C1.out rfl;rw[←hV9]at p8;clear hV hV9;have P8:=zAa p8;exact bodyPost_ret (v:= .agg #[.int .u8 y.pr,.int .u32 y.dst,.int .u16 y.dp]) (by simp[results,Tryz.results109,go_sem,P8]) rfl ⟨rfl,Below.trans l0 (hb8.below l0.size (fun k hk e=>by have e':k=gx+1:=e;omega))⟩
theorem GF.bookq {base g:Nat} {W W':World} {s:Gf} (h:GF base W g s) {v:Value} {l:List Ex} (hb:But (fun q=>q=s.gb∨s.ve.ownBlock=some q) W W')(hl:BL 174 base W' s.gb v l):GF base W' g { s with ve:=v,ex:=l } ∧KG base W W':=by
 have hE:TE W (fun q=>q=s.gb∨s.ve.ownBlock=some q) (isT [174,172]):=fun q e=>by
  rcases e with e|e
  ·exact ⟨_,e▸h.bl.2.1,_,_,_,rfl,by simp⟩
  ·obtain ⟨_,⟨h1,_⟩|⟨b2,cap,cur',h1,hb',hh,r⟩⟩:=h.bl.2.2
   ·rw[h1]at e;cases e
   ·rw[h1]at e
    have e2:b2=q:=by simpa[Value.ownBlock]using e
    exact⟨_,e2▸hh,_,_,_,rfl,by simp⟩
 refine⟨⟨h.bs,hE.keep hb h.gc (zAr (by decide) _ _),⟨h.rl.1,hE.keep hb h.rl.2.1 (zAr (by decide) _ _),hE.own hb h.rl.2.2 (zAr (by decide))⟩,hE.table hb h.tb (zAr (by decide)) (zAr (by decide)),hl,hE.keep hb h.fl (zBw _ _),hE.keep hb h.pl (zBw _ _),h.ne,h.bf,h.fm,h.pm,fun f hf=>⟨(h.fb f hf).1,hE.keep hb (h.fb f hf).2 (zAr (by decide) _ _)⟩,fun p hp=>⟨(h.pb p hp).1,(h.pb p hp).2.1,hE.keep hb (h.pb p hp).2.2 (zAr (by decide) _ _)⟩⟩,?_⟩;refine KG.of_but hb (fun q e=> ?_);rcases e with e|e
 ·rw[e]
  refine⟨h.bl.1,fun ob ho=> ?_⟩;rw[h.bl.2.1]at ho;cases ho
  show gTs.contains _=true
  decide
 ·refine ⟨(h.bl.lt e).1,fun ob ho=> ?_⟩
  obtain⟨o,h1,cur,t,fz,rfl,h2⟩:=hE q (.inr e);rw[h1]at ho;cases ho
  rcases List.mem_cons.1 h2 with e3|h2
  ·rw[e3];show gTs.contains _=true;decide
  ·rw[List.mem_singleton.1 h2];show gTs.contains _=true;decide
def BoQ (base:Nat) (w w':World) (g:Nat) (s:Gf) (o:Tu) (y:Ex) (l2:List Ex) (e:Ending):Prop:=∃(f:Fl) (hb:Nat) (v:Value),w.heap.size≤f.blk∧e= .returned (.pointer (some ⟨f.blk,0,none⟩))∧KG base w w'∧f.id=s.bg∧f.o=o∧f.r=⟨6,y.host,o.src,y.hp,o.sp⟩∧f.side=1∧f.ms=y.ms∧f.hv= .slice (some ⟨hb,0,none⟩) 1 1∧GF base w' g { bcS (opS s f) f 1 with ve:=v,ex:=l2 } ∧HpO base y.hp f.hp w'
theorem zLr(base g:Nat)(s:Gf)(tos id ttl pr src dst:Int)(keep:Bool)(so sd:Value)(side x d a b:Int)(fd:Bool)(y:Ex)(w:World)(h:GF base w g s)(hbs:base≤w.heap.size)(hl:s.ex.length≤1000)(hy:zO1 (pkX ⟨6,x,d,a,b⟩ s.now) s.ex=y)(hfd:zMc (pkX ⟨6,x,d,a,b⟩ s.now) s.ex=fd)(hn:∀r∈s.ls,r.kind≠2)
  (hAD:fd=true→∀W ha,Later w W→Calls Tryz.prog 286 #[.agg #[.pointer (some ⟨g,0,none⟩),.int .u8 tos,.int .u16 id,.bool keep,.int .u8 ttl,.int .u8 pr,.int .u32 src,.int .u32 dst,so,sd,.int .i64 side],.agg #[.int .u8 6,.int .u32 x,.int .u32 d,.int .u16 a,.int .u16 b],.int .u32 y.host,.int .u16 y.hp,.int .i64 y.ms,.slice ha 1 1] W fun e w'=>OpO base W w' g s ⟨6,x,d,a,b⟩ ⟨6,y.host,x,y.hp,a⟩ 1 y.ms (.slice ha 1 1) e):
  Calls Tryz.prog 240 #[.agg #[.pointer (some ⟨g,0,none⟩),.int .u8 tos,.int .u16 id,.bool keep,.int .u8 ttl,.int .u8 pr,.int .u32 src,.int .u32 dst,so,sd,.int .i64 side],.agg #[.int .u8 6,.int .u32 x,.int .u32 d,.int .u16 a,.int .u16 b]] w fun e w'=>(fd=true∧BoQ base w w' g s ⟨6,x,d,a,b⟩ y (mtL (pkX ⟨6,x,d,a,b⟩ s.now) s.ex) e)∨(fd=false∧e= .panicked (dpp 3)∧Later w w'):=by
 obtain⟨l0,c0,c1⟩:=zBa w (.cells #[.pointer (some ⟨g,0,none⟩),.int .u8 tos,.int .u16 id,.bool keep,.int .u8 ttl,.int .u8 pr,.int .u32 src,.int .u32 dst,so,sd,.int .i64 side] 139) (.cells #[.int .u8 6,.int .u32 x,.int .u32 d,.int .u16 a,.int .u16 b] 103);have C0:=zAd c0;have C1:=zAd c1;have HPK:=zAd (fun W (l:Later w W)=>zHp base s.gb s.ve s.ex ⟨6,x,d,a,b⟩ s.now W (h.bl.later l) hl);rw[hy,hfd]at HPK;unfold exc tuc at HPK;have HDN:=zAd (fun W (l:Later w W)=>zTt base s.gr s.vr s.ls 6 d b W (h.rl.later l) hn);have HG:=zAd h;have HAD:=zAd hAD;clear c0 c1 h hy hfd hn hAD;go_enter Tryz.func240,Tryz.ntmps240;go_upto_region 1 with fail;generalize (w.alloc (.cells #[.pointer (some ⟨g,0,none⟩),.int .u8 tos,.int .u16 id,.bool keep,.int .u8 ttl,.int .u8 pr,.int .u32 src,.int .u32 dst,so,sd,.int .i64 side] 139)).alloc (.cells #[.int .u8 6,.int .u32 x,.int .u32 d,.int .u16 a,.int .u16 b] 103)=w1 at*;generalize hgx:w.heap.size=gx at C0 C1⊢;go_cut [5,6] (fun v c wx=>ExC v w1.heap.size wx y∧c= .bool fd∧Hid (Later w1 wx))
 case first=>
  refine zEo ?_;refine zA5 (R1:=Later) (R2:=fun _ _=>True) (D:=[16]) 18 rfl (by kernel_rfl) ?_;have ld:Later w1 w1.drew:=Later.drew w1;generalize w1.drew=Wd at*;have q0:∀v,Later Wd v→∀j,v.cell? ⟨gx,j,none⟩=#[.pointer (some ⟨g,0,none⟩),.int .u8 tos,.int .u16 id,.bool keep,.int .u8 ttl,.int .u8 pr,.int .u32 src,.int .u32 dst,so,sd,.int .i64 side][j]? :=fun v hv=>zAa (zAb (ld.trans hv) C0.out);have q1:∀v,Later Wd v→∀j,v.cell? ⟨gx+1,j,none⟩=#[.int .u8 6,.int .u32 x,.int .u32 d,.int .u16 a,.int .u16 b][j]? :=fun v hv=>zAa (zAb (ld.trans hv) C1.out);have q2:∀v,Later Wd v→∀j,v.cell? ⟨g,j,none⟩=(gfc s).toArray[j]? :=fun v hv=>zAa (zAb (l0.trans (ld.trans hv)) HG.out.gc);unfold gfc at q2;refine uX Later.pre 0 [1,2,3,4,11,12,13,14,16,17] ?_;refine uX Later.pre 1 [2,3,4,11,12,13,14,16,17] ?_;refine uX Later.pre 2 [3,4,11,12,13,14,16,17] ?_;refine uX Later.pre 3 [4,11,12,13,14,16,17] ?_;refine uX Later.pre 4 [11,12,13,14,16,17] ?_;refine uX Later.pre 5 [11,12,13,14,16,17] ?_;refine uX Later.pre 6 [7,8,9,10,11,12,13,14,16,17] ?_;refine uX Later.pre 7 [8,9,10,11,12,13,14,16,17] ?_;refine uX Later.pre 8 [9,10,11,12,13,14,16,17] ?_;refine uX Later.pre 9 [10,11,12,13,14,16,17] ?_;refine uX Later.pre 10 [11,12,13,14,16,17] ?_;clear q0 q1 q2;refine zI4 11 15 rfl rfl (by kernel_rfl) (by rfl) (by rfl) ?ca ?al
  case ca=>
   refine zAj 285 #[.pointer (some ⟨s.gb,0,none⟩),.agg #[.int .u8 6,.int .u32 x,.int .u32 d,.int .u16 a,.int .u16 b],.int .i64 s.now] (by go_simp) ?_;refine(HPK.out Wd (l0.trans ld)).mono ?_;rintro e W1 ⟨rfl,l1⟩;refine⟨zA3 (by rfl) l1,?_⟩;simp only[Act.put,sA,sB,sC];refine uX Later.pre 12 [13,14,16,17] ?_;refine uX Later.pre 13 [16,17] ?_;have HSZ:=(ld.trans l1).size;refine zB9 Later.refl (fun _=>trivial) 14 rfl (by kernel_rfl) (by kernel_rfl) (by kernel_rfl) (fun _ _ _ _ h=>by cases h.1) (by rfl) ⟨_,fun v=>by(go_simp;rfl),?_⟩;simp only[Act.put,sA,sB,sC];refine uO 15 ?_;have la:=zAg W1 (.cells #[.int .u8 0,.int .u32 0,.int .u32 0,.int .u16 0,.int .u16 0,.int .u32 0,.int .u16 0,.int .i64 0,.int .i64 0] 172);have HA0:=heap_alloc_new W1 (.cells #[.int .u8 0,.int .u32 0,.int .u32 0,.int .u16 0,.int .u16 0,.int .u32 0,.int .u16 0,.int .i64 0,.int .i64 0] 172);unfold Oper.wp;go_simp;refine⟨zA3 (by rfl) la,?_⟩;change zA8 _ _ _ _ _ _ _ _ _ _ (W1.alloc (.cells #[.int .u8 0,.int .u32 0,.int .u32 0,.int .u16 0,.int .u16 0,.int .u32 0,.int .u16 0,.int .i64 0,.int .i64 0] 172));have hgn:w1.heap.size≤W1.heap.size:=HSZ;generalize W1.alloc (.cells #[.int .u8 0,.int .u32 0,.int .u32 0,.int .u16 0,.int .u16 0,.int .u32 0,.int .u16 0,.int .i64 0,.int .i64 0] 172)=W5 at*;generalize W1.heap.size=gn at*;have HA:=HA0;have LL:=ld.trans (l1.trans la);refine uO 16 ?_;have kA:=zAa HA;have fA:=zAc HA;unfold Oper.wp;go_simp;refine⟨zDx (by rfl) trivial,?_⟩
   clear kA fA;generalize hV:World.setCell _ ⟨gn,8,none⟩ _=V8;have hV9:V8=zAi W5 gn 0 [.int .u8 y.pr,.int .u32 y.src,.int .u32 y.dst,.int .u16 y.sp,.int .u16 y.dp,.int .u32 y.host,.int .u16 y.hp,.int .i64 y.ms,.int .i64 y.dl]:=hV.symm;have hb8:But (fun b=>b=gn) W5 V8:=by rw[hV9];exact zAf (E:=fun b=>b=gn) (n:=gn) rfl _ _ _ _ (But.refl _ _)
   have p8:=zAe [.int .u8 y.pr,.int .u32 y.src,.int .u32 y.dst,.int .u16 y.sp,.int .u16 y.dp,.int .u32 y.host,.int .u16 y.hp,.int .i64 y.ms,.int .i64 y.dl] HA rfl;rw[←hV9]at p8;have PP:=zAd p8;clear hV hV9 p8;have BB:=zAd (Below.trans LL (hb8.below LL.size (fun k h e=>by omega)));refine uO 17 ?_;refine zC2 (w':=V8) (.bool fd) (by go_simp) ?_;refine⟨zA3 (by rfl) (Later.refl _),?_⟩;simp only[Act.put,sA,sB,sC];refine uD ?_;refine⟨rfl,?_⟩;go_wp2_with fail;go_meet
   case rel=>exact⟨⟨gn,rfl,hgn,PP.out⟩,rfl,BB⟩
  case al=>
   have HSZ:=ld.size;have la:=zAg Wd (.cells #[.int .u8 0,.int .u32 0,.int .u32 0,.int .u16 0,.int .u16 0,.int .u32 0,.int .u16 0,.int .i64 0,.int .i64 0] 172);have HA0:=heap_alloc_new Wd (.cells #[.int .u8 0,.int .u32 0,.int .u32 0,.int .u16 0,.int .u16 0,.int .u32 0,.int .u16 0,.int .i64 0,.int .i64 0] 172);unfold Oper.wp;go_simp;refine⟨zA3 (by rfl) la,?_⟩;change zA8 _ _ _ _ _ _ _ _ _ _ (Wd.alloc (.cells #[.int .u8 0,.int .u32 0,.int .u32 0,.int .u16 0,.int .u16 0,.int .u32 0,.int .u16 0,.int .i64 0,.int .i64 0] 172));have hgn:w1.heap.size≤Wd.heap.size:=HSZ;generalize Wd.alloc (.cells #[.int .u8 0,.int .u32 0,.int .u32 0,.int .u16 0,.int .u16 0,.int .u32 0,.int .u16 0,.int .i64 0,.int .i64 0] 172)=W3 at*;generalize Wd.heap.size=gn at*;refine uO 11 ?_;refine zAj 285 #[.pointer (some ⟨s.gb,0,none⟩),.agg #[.int .u8 6,.int .u32 x,.int .u32 d,.int .u16 a,.int .u16 b],.int .i64 s.now] (by go_simp) ?_;refine(HPK.out W3 (l0.trans (ld.trans la))).mono ?_;rintro e W5 ⟨rfl,l1⟩;refine⟨zA3 (by rfl) l1,?_⟩;simp only[Act.put,sA,sB,sC];refine uX Later.pre 12 [13,14,16,17] ?_;refine uX Later.pre 13 [16,17] ?_;have HA:=zAb l1 HA0;have LL:=ld.trans (la.trans l1);refine zB9 Later.refl (fun _=>trivial) 14 rfl (by kernel_rfl) (by kernel_rfl) (by kernel_rfl) (fun _ _ _ _ h=>by cases h.1) (by rfl) ⟨_,fun v=>by(go_simp;rfl),?_⟩;simp only[Act.put,sA,sB,sC];refine uO 16 ?_;have kA:=zAa HA;have fA:=zAc HA;unfold Oper.wp;go_simp
   refine⟨zDx (by rfl) trivial,?_⟩;clear kA fA;generalize hV:World.setCell _ ⟨gn,8,none⟩ _=V8;have hV9:V8=zAi W5 gn 0 [.int .u8 y.pr,.int .u32 y.src,.int .u32 y.dst,.int .u16 y.sp,.int .u16 y.dp,.int .u32 y.host,.int .u16 y.hp,.int .i64 y.ms,.int .i64 y.dl]:=hV.symm;have hb8:But (fun b=>b=gn) W5 V8:=by rw[hV9];exact zAf (E:=fun b=>b=gn) (n:=gn) rfl _ _ _ _ (But.refl _ _)
   have p8:=zAe [.int .u8 y.pr,.int .u32 y.src,.int .u32 y.dst,.int .u16 y.sp,.int .u16 y.dp,.int .u32 y.host,.int .u16 y.hp,.int .i64 y.ms,.int .i64 y.dl] HA rfl;rw[←hV9]at p8;have PP:=zAd p8;clear hV hV9 p8;have BB:=zAd (Below.trans LL (hb8.below LL.size (fun k h e=>by omega)));refine uO 17 ?_;refine zC2 (w':=V8) (.bool fd) (by go_simp) ?_;refine⟨zA3 (by rfl) (Later.refl _),?_⟩;simp only[Act.put,sA,sB,sC];refine uD ?_;refine⟨rfl,?_⟩;go_wp2_with fail;go_meet
   case rel=>exact⟨⟨gn,rfl,hgn,PP.out⟩,rfl,BB⟩
 case rest=>
 obtain⟨⟨gn,rfl,hgn,hC⟩,rfl,hL⟩:=hcut;obtain⟨w2,hw2⟩:∃w2,w2=wc:=⟨_,rfl⟩;subst hw2;have L2:=l0.trans hL.out;have D0:=zAd (zAb hL.out C0.out);have D1:=zAd (zAb hL.out C1.out);have D2:=zAd hC;clear C0 C1 HPK hL hC l0 hgn;cases fd
 case false=>
  clear HAD;go_upto_region 6 with fail;go_cut [8,9] (fun v c wx=>RuC v w2.heap.size wx∧c= .bool false∧Hid (Later w2 wx))
  case first=>
   refine zEo ?_;refine zA5 (R1:=Later) (R2:=fun _ _=>True) (D:=[16]) 18 rfl (by kernel_rfl) ?_;have ld:Later w2 w2.drew:=Later.drew w2;generalize w2.drew=Wd at*;have q0:∀v,Later Wd v→∀j,v.cell? ⟨gx,j,none⟩=#[.pointer (some ⟨g,0,none⟩),.int .u8 tos,.int .u16 id,.bool keep,.int .u8 ttl,.int .u8 pr,.int .u32 src,.int .u32 dst,so,sd,.int .i64 side][j]? :=fun v hv=>zAa (zAb (ld.trans hv) D0.out);have q1:∀v,Later Wd v→∀j,v.cell? ⟨gx+1,j,none⟩=#[.int .u8 6,.int .u32 x,.int .u32 d,.int .u16 a,.int .u16 b][j]? :=fun v hv=>zAa (zAb (ld.trans hv) D1.out);have q2:∀v,Later Wd v→∀j,v.cell? ⟨g,j,none⟩=(gfc s).toArray[j]? :=fun v hv=>zAa (zAb (L2.trans (ld.trans hv)) HG.out.gc);unfold gfc at q2;refine uX Later.pre 0 [1,2,3,4,11,12,13,14,16,17] ?_;refine uX Later.pre 1 [2,3,4,11,12,13,14,16,17] ?_;refine uX Later.pre 2 [3,4,11,12,13,14,16,17] ?_;refine uX Later.pre 3 [4,11,12,13,14,16,17] ?_;refine uX Later.pre 4 [11,12,13,14,16,17] ?_;refine uX Later.pre 5 [6,11,12,13,14,16,17] ?_;refine uX Later.pre 6 [11,12,13,14,16,17] ?_;refine uX Later.pre 7 [8,11,12,13,14,16,17] ?_;refine uX Later.pre 8 [11,12,13,14,16,17] ?_;refine uX Later.pre 9 [10,11,12,13,14,16,17] ?_;refine uX Later.pre 10 [11,12,13,14,16,17] ?_;clear q0 q1 q2;refine zI4 11 15 rfl rfl (by kernel_rfl) (by rfl) (by rfl) ?ca ?al
   case ca=>
    refine zAj 288 #[.pointer (some ⟨s.gr,0,none⟩),.int .u8 6,.int .u32 d,.int .u16 b] (by go_simp) ?_;refine(HDN.out Wd (L2.trans ld)).mono ?_;rintro e W1 ⟨rfl,l1⟩;refine⟨zA3 (by rfl) l1,?_⟩;simp only[Act.put,sA,sB,sC];refine uX Later.pre 12 [13,14,16,17] ?_;refine uX Later.pre 13 [16,17] ?_;have HSZ:=(ld.trans l1).size;refine zB9 Later.refl (fun _=>trivial) 14 rfl (by kernel_rfl) (by kernel_rfl) (by kernel_rfl) (fun _ _ _ _ h=>by cases h.1) (by rfl) ⟨_,fun v=>by(go_simp;rfl),?_⟩;simp only[Act.put,sA,sB,sC];refine uO 15 ?_;have la:=zAg W1 (.cells #[.int .i64 0,.int .u8 0,.int .u32 0,.int .i64 0,.int .u32 0,.int .u16 0,.int .u32 0,.int .u16 0] 125);have HA0:=heap_alloc_new W1 (.cells #[.int .i64 0,.int .u8 0,.int .u32 0,.int .i64 0,.int .u32 0,.int .u16 0,.int .u32 0,.int .u16 0] 125);unfold Oper.wp;go_simp;refine⟨zA3 (by rfl) la,?_⟩;change zA8 _ _ _ _ _ _ _ _ _ _ (W1.alloc (.cells #[.int .i64 0,.int .u8 0,.int .u32 0,.int .i64 0,.int .u32 0,.int .u16 0,.int .u32 0,.int .u16 0] 125));have hgn:w2.heap.size≤W1.heap.size:=HSZ;generalize W1.alloc (.cells #[.int .i64 0,.int .u8 0,.int .u32 0,.int .i64 0,.int .u32 0,.int .u16 0,.int .u32 0,.int .u16 0] 125)=W5 at*;generalize W1.heap.size=gn at*;have HA:=HA0;have LL:=ld.trans (l1.trans la);refine uO 16 ?_;have kA:=zAa HA;have fA:=zAc HA;unfold Oper.wp;go_simp;refine⟨zDx (by rfl) trivial,?_⟩;clear kA fA;generalize hV:World.setCell _ ⟨gn,7,none⟩ _=V8
    have hV9:V8=zAi W5 gn 0 [.int .i64 0,.int .u8 0,.int .u32 0,.int .i64 0,.int .u32 0,.int .u16 0,.int .u32 0,.int .u16 0]:=hV.symm;have hb8:But (fun b=>b=gn) W5 V8:=by rw[hV9];exact zAf (E:=fun b=>b=gn) (n:=gn) rfl _ _ _ _ (But.refl _ _)
    have p8:=zAe [.int .i64 0,.int .u8 0,.int .u32 0,.int .i64 0,.int .u32 0,.int .u16 0,.int .u32 0,.int .u16 0] HA rfl;rw[←hV9]at p8;have PP:=zAd p8;clear hV hV9 p8;have BB:=zAd (Below.trans LL (hb8.below LL.size (fun k h e=>by omega)));refine uO 17 ?_;refine zC2 (w':=V8) (.bool false) (by go_simp) ?_;refine⟨zA3 (by rfl) (Later.refl _),?_⟩;simp only[Act.put,sA,sB,sC];refine uD ?_;refine⟨rfl,?_⟩;go_wp2_with fail;go_meet
    case rel=>exact⟨⟨gn,rfl,hgn,PP.out⟩,rfl,BB⟩
   case al=>
    have HSZ:=ld.size;have la:=zAg Wd (.cells #[.int .i64 0,.int .u8 0,.int .u32 0,.int .i64 0,.int .u32 0,.int .u16 0,.int .u32 0,.int .u16 0] 125);have HA0:=heap_alloc_new Wd (.cells #[.int .i64 0,.int .u8 0,.int .u32 0,.int .i64 0,.int .u32 0,.int .u16 0,.int .u32 0,.int .u16 0] 125);unfold Oper.wp;go_simp;refine⟨zA3 (by rfl) la,?_⟩;change zA8 _ _ _ _ _ _ _ _ _ _ (Wd.alloc (.cells #[.int .i64 0,.int .u8 0,.int .u32 0,.int .i64 0,.int .u32 0,.int .u16 0,.int .u32 0,.int .u16 0] 125));have hgn:w2.heap.size≤Wd.heap.size:=HSZ;generalize Wd.alloc (.cells #[.int .i64 0,.int .u8 0,.int .u32 0,.int .i64 0,.int .u32 0,.int .u16 0,.int .u32 0,.int .u16 0] 125)=W3 at*;generalize Wd.heap.size=gn at*;refine uO 11 ?_;refine zAj 288 #[.pointer (some ⟨s.gr,0,none⟩),.int .u8 6,.int .u32 d,.int .u16 b] (by go_simp) ?_;refine(HDN.out W3 (L2.trans (ld.trans la))).mono ?_;rintro e W5 ⟨rfl,l1⟩;refine⟨zA3 (by rfl) l1,?_⟩;simp only[Act.put,sA,sB,sC];refine uX Later.pre 12 [13,14,16,17] ?_;refine uX Later.pre 13 [16,17] ?_;have HA:=zAb l1 HA0;have LL:=ld.trans (la.trans l1);refine zB9 Later.refl (fun _=>trivial) 14 rfl (by kernel_rfl) (by kernel_rfl) (by kernel_rfl) (fun _ _ _ _ h=>by cases h.1) (by rfl) ⟨_,fun v=>by(go_simp;rfl),?_⟩;simp only[Act.put,sA,sB,sC];refine uO 16 ?_;have kA:=zAa HA;have fA:=zAc HA;unfold Oper.wp;go_simp;refine⟨zDx (by rfl) trivial,?_⟩;clear kA fA;generalize hV:World.setCell _ ⟨gn,7,none⟩ _=V8
    have hV9:V8=zAi W5 gn 0 [.int .i64 0,.int .u8 0,.int .u32 0,.int .i64 0,.int .u32 0,.int .u16 0,.int .u32 0,.int .u16 0]:=hV.symm;have hb8:But (fun b=>b=gn) W5 V8:=by rw[hV9];exact zAf (E:=fun b=>b=gn) (n:=gn) rfl _ _ _ _ (But.refl _ _)
    have p8:=zAe [.int .i64 0,.int .u8 0,.int .u32 0,.int .i64 0,.int .u32 0,.int .u16 0,.int .u32 0,.int .u16 0] HA rfl;rw[←hV9]at p8;have PP:=zAd p8;clear hV hV9 p8;have BB:=zAd (Below.trans LL (hb8.below LL.size (fun k h e=>by omega)));refine uO 17 ?_;refine zC2 (w':=V8) (.bool false) (by go_simp) ?_;refine⟨zA3 (by rfl) (Later.refl _),?_⟩;simp only[Act.put,sA,sB,sC];refine uD ?_;refine⟨rfl,?_⟩;go_wp2_with fail;go_meet
    case rel=>exact⟨⟨gn,rfl,hgn,PP.out⟩,rfl,BB⟩
  case rest=>
  obtain⟨⟨g9,rfl,hg9,hC9⟩,rfl,hL9⟩:=hcut;go_wp2_with fail;refine(zL4 3 _).mono ?_;rintro e w4 ⟨rfl,hw4⟩;subst hw4;exact⟨rfl,.inr ⟨rfl,rfl,L2.trans hL9.out⟩⟩
 case true=>
  go_upto_region 3 with fail;refine zA5 (R1:=Later) (R2:=fun _ _=>True) (D:=[11]) 13 rfl (by kernel_rfl) ?_;have ld:Later w2 w2.drew:=Later.drew w2;generalize w2.drew=Wd at*;have q0:∀v,Later Wd v→∀j,v.cell? ⟨gx,j,none⟩=#[.pointer (some ⟨g,0,none⟩),.int .u8 tos,.int .u16 id,.bool keep,.int .u8 ttl,.int .u8 pr,.int .u32 src,.int .u32 dst,so,sd,.int .i64 side][j]? :=fun v hv=>zAa (zAb (ld.trans hv) D0.out);have q1:∀v,Later Wd v→∀j,v.cell? ⟨gx+1,j,none⟩=#[.int .u8 6,.int .u32 x,.int .u32 d,.int .u16 a,.int .u16 b][j]? :=fun v hv=>zAa (zAb (ld.trans hv) D1.out);have q2:∀v,Later Wd v→∀j,v.cell? ⟨gn,j,none⟩=#[.int .u8 y.pr,.int .u32 y.src,.int .u32 y.dst,.int .u16 y.sp,.int .u16 y.dp,.int .u32 y.host,.int .u16 y.hp,.int .i64 y.ms,.int .i64 y.dl][j]? :=fun v hv=>zAa (zAb (ld.trans hv) D2.out);refine uX Later.pre 0 [11,12] ?_;refine uX Later.pre 1 [11,12] ?_;refine uX Later.pre 2 [3,11,12] ?_;refine uX Later.pre 3 [11,12] ?_;refine uX Later.pre 4 [5,11,12] ?_;refine uX Later.pre 5 [11,12] ?_;refine uX Later.pre 6 [7,11,12] ?_;refine uX Later.pre 7 [11,12] ?_;refine uX Later.pre 8 [9,10,11,12] ?_;clear q0 q1 q2;refine uO 9 ?_;refine zAj 109 #[.agg #[.int .u8 y.pr,.int .u32 y.src,.int .u32 y.dst,.int .u16 y.sp,.int .u16 y.dp,.int .u32 y.host,.int .u16 y.hp,.int .i64 y.ms,.int .i64 y.dl]] (by go_simp) ?_;refine(zR0 y Wd).mono ?_;rintro e W3 ⟨rfl,l3⟩;have l3':Later Wd W3:=l3;refine⟨zA3 (by rfl) l3',?_⟩
  simp only[Act.put,sA,sB,sC];have la:=zAg W3 (.cells #[.int .u8 y.pr,.int .u32 y.dst,.int .u16 y.dp] 230);refine uO 10 ?_;unfold Oper.wp;go_simp;refine⟨zA3 (by rfl) la,?_⟩;change zA8 _ _ _ _ _ _ _ _ _ _ (W3.alloc (.cells #[.int .u8 y.pr,.int .u32 y.dst,.int .u16 y.dp] 230));generalize W3.alloc (.cells #[.int .u8 y.pr,.int .u32 y.dst,.int .u16 y.dp] 230)=W4 at*;generalize W3.heap.size=gq at*;have L24:=ld.trans (l3'.trans la);refine uO 11 ?_;refine zAj 286 #[.agg #[.pointer (some ⟨g,0,none⟩),.int .u8 tos,.int .u16 id,.bool keep,.int .u8 ttl,.int .u8 pr,.int .u32 src,.int .u32 dst,so,sd,.int .i64 side],.agg #[.int .u8 6,.int .u32 x,.int .u32 d,.int .u16 a,.int .u16 b],.int .u32 y.host,.int .u16 y.hp,.int .i64 y.ms,.slice (some ⟨gq,0,none⟩) 1 1] (by go_simp) ?_;refine(HAD.out rfl W4 _ (L2.trans L24)).mono ?_;rintro e w5 hq;obtain⟨f,q1,rfl,kg5,q4,q5,q6,q7,q8,q9,hG5,hHP⟩:=hq;refine⟨zDx (by rfl) trivial,?_⟩;simp only[Act.put,sA,sB,sC];refine pX Later.refl (fun _=>trivial) 12 ?_;refine uD ?_;have E0:=zAd (kg5.cells (zAb L24 D0.out) (by decide));have E1:=zAd (kg5.cells (zAb L24 D1.out) (by decide));have K5:=zAd ((KG.of_later (base:=base) (L2.trans L24)).trans kg5);have hq1:w.heap.size≤f.blk:=Nat.le_trans (L2.trans L24).size q1;obtain⟨s1,hs1⟩:∃s1,s1=bcS (opS s f) f 1:=⟨_,rfl⟩;have e1:s1.gb=s.gb:=by rw[hs1];rfl
  have e2:s1.now=s.now:=by rw[hs1];rfl
  have e3:s1.ex=s.ex:=by rw[hs1];rfl
  rw[←hs1]at hG5;have G5:=zAd hG5;have HS1:=zAd hs1;have hpn:=zAd hHP;clear D0 D1 D2 HAD l3 l3' la ld L24 kg5 hG5 hHP L2 hs1 q1;go_upto_region 4 with fail;refine zA5 (R1:=Later) (R2:=fun _ _=>True) (D:=[11]) 12 rfl (by kernel_rfl) ?_;have ld:Later w5 w5.drew:=Later.drew w5;generalize w5.drew=W6 at*;have q0:∀v,Later W6 v→∀j,v.cell? ⟨gx,j,none⟩=#[.pointer (some ⟨g,0,none⟩),.int .u8 tos,.int .u16 id,.bool keep,.int .u8 ttl,.int .u8 pr,.int .u32 src,.int .u32 dst,so,sd,.int .i64 side][j]? :=fun v hv=>zAa (zAb (ld.trans hv) E0.out);have q1:∀v,Later W6 v→∀j,v.cell? ⟨gx+1,j,none⟩=#[.int .u8 6,.int .u32 x,.int .u32 d,.int .u16 a,.int .u16 b][j]? :=fun v hv=>zAa (zAb (ld.trans hv) E1.out);have q2:∀v,Later W6 v→∀j,v.cell? ⟨g,j,none⟩=(gfc s1).toArray[j]? :=fun v hv=>zAa (zAb (ld.trans hv) G5.out.gc);unfold gfc at q2;refine uX Later.pre 0 [1,2,3,4,11] ?_;refine uX Later.pre 1 [2,3,4,11] ?_;refine uX Later.pre 2 [3,4,11] ?_;refine uX Later.pre 3 [4,11] ?_;refine uX Later.pre 4 [11] ?_;refine uX Later.pre 5 [11] ?_;refine uX Later.pre 6 [7,8,9,10,11] ?_;refine uX Later.pre 7 [8,9,10,11] ?_;refine uX Later.pre 8 [9,10,11] ?_;refine uX Later.pre 9 [10,11] ?_;refine uX Later.pre 10 [11] ?_;clear q0 q1 q2;refine uO 11 ?_;have HMT:=zMd base s1.gb s1.ve s1.ex ⟨6,x,d,a,b⟩ s1.now W6 (G5.out.bl.later ld) (Nat.le_trans hbs (Nat.le_trans K5.out.size ld.size)) (by rw[e3];exact hl);unfold tuc at HMT
  refine zAj 287 #[.pointer (some ⟨s1.gb,0,none⟩),.agg #[.int .u8 6,.int .u32 x,.int .u32 d,.int .u16 a,.int .u16 b],.int .i64 s1.now] (by go_simp) ?_;refine HMT.mono ?_;rintro e w7 ⟨rfl,v7,hB7,hb7,_⟩;refine⟨zDx (by rfl) trivial,?_⟩;simp only[Act.put,sA,sB,sC];refine uD ?_;obtain⟨hG7,k7⟩:=(G5.out.later ld).bookq hb7 hB7;have K7:=zAd ((K5.out.trans (KG.of_later (base:=base) ld)).trans k7);have G7:=zAd hG7;have HP7:=zAd ((hpn.out.kg (KG.of_later (base:=base) ld)).kg k7);clear hb7 hB7 hG7 k7 E0 E1 G5 K5 ld hpn;go_wp2_with fail;refine bodyPost_ret (v:= .pointer (some ⟨f.blk,0,none⟩)) (by simp[results,Tryz.results240,go_sem]) rfl ⟨f,gq,v7,hq1,rfl,K7.out,q4,q5,q6,q7,q8,q9,?_,HP7.out⟩;have h9:=G7.out;rw[e2,e3,HS1.out]at h9;exact h9
structure OuC (s:Gf) (x d a b:Int) (fd:Bool) (y:Ex):Prop where
 el:s.ex.length≤1000
 hy:zO1 (pkX ⟨6,x,d,a,b⟩ s.now) s.ex=y
 hf:zMc (pkX ⟨6,x,d,a,b⟩ s.now) s.ex=fd
 nk:∀r∈s.ls,r.kind≠2
 k1:kx 6 x d a b s.rw=none
 hx:0≤x∧x≤4294967295
 hd:0≤d∧d≤4294967295
 ha:0≤a∧a≤65535
 hb:0≤b∧b≤65535
 ad:fd=true→kx 6 y.host x y.hp a s.rw=none∧(0≤y.host∧y.host≤4294967295)∧(0≤y.hp∧y.hp≤65535)∧s.fs.length<64∧x≠y.host∧(0≤s.trn∧s.trn≤900000)∧(0≤s.now∧s.now≤549755813888)∧(0≤s.bg∧s.bg≤1000000)∧(∀z∈s.fs,z.id≠s.bg)∧(0≤s.cnt∧s.cnt≤1000)∧∀i,(s.rw i).length≤4000
theorem BoQ.from {base g:Nat} {w w1 w':World} {s:Gf} {o:Tu} {y:Ex} {l2:List Ex} {e:Ending} (h:BoQ base w1 w' g s o y l2 e)(l:Later w w1):BoQ base w w' g s o y l2 e:=by
 obtain⟨f,hb,v,h1,h2,h3,h4⟩:=h;exact⟨f,hb,v,Nat.le_trans l.size h1,h2,(KG.of_later l).trans h3,h4⟩
def OwO3 (base:Nat) (w w':World) (g:Nat) (s:Gf) (o:Tu) (y:Ex) (l2:List Ex) (e:Ending):Prop:=∃(f:Fl) (hb:Nat) (v:Value),w.heap.size≤f.blk∧e= .returned (.tuple #[.pointer (some ⟨f.blk,0,none⟩),.bool false])∧KG base w w'∧f.id=s.bg∧f.o=o∧f.r=⟨6,y.host,o.src,y.hp,o.sp⟩∧f.side=1∧f.ms=y.ms∧f.hv= .slice (some ⟨hb,0,none⟩) 1 1∧GF base w' g { bcS (opS s f) f 1 with ve:=v,ex:=l2 } ∧HpO base y.hp f.hp w'
theorem zWh(base g:Nat)(s:Gf)(tos id ttl src dst:Int)(keep:Bool)(so sd:Value)(zd:List Int)(x d a b:Int)(fd:Bool)(y:Ex)(w:World)(h:GF base w g s)(hR:OuC s x d a b fd y)(hbs:base≤w.heap.size)(hB:Mt.By zd)(hI:Rd w.heap.size w sd zd)(hl:zd.length≤70000)(hsr:0≤src∧src≤4294967295)(hds:0≤dst∧dst≤4294967295)(hpt:pte 6 src dst zd=0)(hfl:bgn (zd[13]?.getD 0)=true):
  Calls Tryz.prog 172 #[.agg #[.pointer (some ⟨g,0,none⟩),.int .u8 tos,.int .u16 id,.bool keep,.int .u8 ttl,.int .u8 6,.int .u32 src,.int .u32 dst,so,sd,.int .i64 1],.agg #[.int .u8 6,.int .u32 x,.int .u32 d,.int .u16 a,.int .u16 b]] w fun e w'=>(fd=true∧BoQ base w w' g s ⟨6,x,d,a,b⟩ y (mtL (pkX ⟨6,x,d,a,b⟩ s.now) s.ex) e)∨(fd=false∧e= .panicked (dpp 3)∧Later w w'):=by
 obtain⟨l0,c0,c1⟩:=zBa w (.cells #[.pointer (some ⟨g,0,none⟩),.int .u8 tos,.int .u16 id,.bool keep,.int .u8 ttl,.int .u8 6,.int .u32 src,.int .u32 dst,so,sd,.int .i64 1] 139) (.cells #[.int .u8 6,.int .u32 x,.int .u32 d,.int .u16 a,.int .u16 b] 103);have C0:=zAd c0;have C1:=zAd c1
 have HB:=zAd (fun W (l:Later w W)=>zLr base g s tos id ttl 6 src dst keep so sd 1 x d a b fd y W (h.later l) (Nat.le_trans hbs l.size) hR.el hR.hy hR.hf hR.nk (fun hf V ha lv=>by
  obtain⟨a1,a2,a3,a4,a5,a6,a7,a8,a9,a10,a11⟩:=hR.ad hf;exact zWg base g s tos id ttl 6 src dst keep so sd 1 x d a b y.host y.hp y.ms ha 1 1 V (h.later (l.trans lv)) (Nat.le_trans hbs (l.trans lv).size) hR.k1 a1 hR.hx hR.hd hR.ha hR.hb a2 a3 a4 a5 a6 a7 a8 a9 a10 a11))
 have HFG:=zAd (zJb g tos id ttl src dst keep so sd 1 zd _ hB (hI.later l0) hl hsr hds hpt);have HFL:=zAd hfl;clear c0 c1 h hR hfl hB hI hpt;generalize zd[13]?.getD 0=fl9 at*;generalize mtL (pkX ⟨6,x,d,a,b⟩ s.now) s.ex=l9 at*;go_enter Tryz.func172,Tryz.ntmps172;go_upto_region 1 with fail;generalize (w.alloc (.cells #[.pointer (some ⟨g,0,none⟩),.int .u8 tos,.int .u16 id,.bool keep,.int .u8 ttl,.int .u8 6,.int .u32 src,.int .u32 dst,so,sd,.int .i64 1] 139)).alloc (.cells #[.int .u8 6,.int .u32 x,.int .u32 d,.int .u16 a,.int .u16 b] 103)=w1 at*;generalize hgx:w.heap.size=gx at C0 C1⊢;have k0:=zAa C0.out;have k1:=zAa C1.out;go_wp2_with fail;refine HFG.out.mono ?_;rintro e w2 ⟨rfl,l2⟩;clear k0 k1 HFG;have k0:=zAa (zAb l2 C0.out);have k1:=zAa (zAb l2 C1.out);go_wp2_with fail;refine(zE9 _ _).mono ?_;rintro e w3 ⟨rfl,hw3⟩;subst hw3;rw[HFL.out];go_wp2_with fail;refine(zA0 5 _).mono ?_;rintro e w4 ⟨rfl,hw4⟩;subst hw4;go_wp2_with fail;refine(zA0 5 _).mono ?_;rintro e w4 ⟨rfl,hw4⟩;subst hw4;go_wp2_with fail;refine(zA0 3 _).mono ?_;rintro e w4 ⟨rfl,hw4⟩;subst hw4;have HB3:=zAd (HB.out _ (l0.trans l2));cases fd
 case false=>
  go_wp2_with fail;refine HB3.out.mono ?_;rintro e w5 (⟨h,_⟩|⟨_,rfl,l5⟩)
  ·cases h
  ·exact ⟨rfl,.inr ⟨rfl,rfl,(l0.trans l2).trans l5⟩⟩
 case true=>
  go_wp2_with fail;refine HB3.out.mono ?_;rintro e w5 (⟨_,hq⟩|⟨h,_⟩)
  ·have hq2:=hq.from (l0.trans l2)
   obtain⟨f,hb5,v5,q1,rfl,q3,q⟩:=hq;clear k0 k1;go_wp2_with fail;go_ret
   exact hq2
  ·cases h
theorem zLs(base g:Nat)(s:Gf)(tos id ttl src dst:Int)(keep:Bool)(so sd:Value)(zd:List Int)(x d a b:Int)(fd:Bool)(y:Ex)(w:World)(h:GF base w g s)(hR:OuC s x d a b fd y)(hbs:base≤w.heap.size)(hB:Mt.By zd)(hI:Rd w.heap.size w sd zd)(hl:zd.length≤70000)(hsr:0≤src∧src≤4294967295)(hds:0≤dst∧dst≤4294967295)(hpt:pte 6 src dst zd=0)(hfl:bgn (zd[13]?.getD 0)=true):
  Calls Tryz.prog 114 #[.agg #[.pointer (some ⟨g,0,none⟩),.int .u8 tos,.int .u16 id,.bool keep,.int .u8 ttl,.int .u8 6,.int .u32 src,.int .u32 dst,so,sd,.int .i64 1],.agg #[.int .u8 6,.int .u32 x,.int .u32 d,.int .u16 a,.int .u16 b]] w fun e w'=>(fd=true∧OwO3 base w w' g s ⟨6,x,d,a,b⟩ y (mtL (pkX ⟨6,x,d,a,b⟩ s.now) s.ex) e)∨(fd=false∧e= .panicked (dpp 3)∧Later w w'):=by
 obtain⟨l0,c0,c1⟩:=zBa w (.cells #[.pointer (some ⟨g,0,none⟩),.int .u8 tos,.int .u16 id,.bool keep,.int .u8 ttl,.int .u8 6,.int .u32 src,.int .u32 dst,so,sd,.int .i64 1] 139) (.cells #[.int .u8 6,.int .u32 x,.int .u32 d,.int .u16 a,.int .u16 b] 103);have C0:=zAd c0;have C1:=zAd c1;have HL:=zAd (zCm base g s 6 x d a b _ (h.later l0) hR.k1 hR.hx hR.hd hR.ha hR.hb);have HB:=zAd (fun W (l:Later w W)=>zWh base g s tos id ttl src dst keep so sd zd x d a b fd y W (h.later l) hR (Nat.le_trans hbs l.size) hB (hI.later l) hl hsr hds hpt hfl);clear c0 c1 h hR;generalize mtL (pkX ⟨6,x,d,a,b⟩ s.now) s.ex=l9 at*;go_enter Tryz.func114,Tryz.ntmps114;go_upto_region 1 with fail;generalize (w.alloc (.cells #[.pointer (some ⟨g,0,none⟩),.int .u8 tos,.int .u16 id,.bool keep,.int .u8 ttl,.int .u8 6,.int .u32 src,.int .u32 dst,so,sd,.int .i64 1] 139)).alloc (.cells #[.int .u8 6,.int .u32 x,.int .u32 d,.int .u16 a,.int .u16 b] 103)=w1 at*;generalize hgx:w.heap.size=gx at C0 C1⊢;have k0:=zAa C0.out;have k1:=zAa C1.out;go_wp2_with fail;refine HL.out.mono ?_;rintro e w2 ⟨rfl,l2⟩;clear k0 k1 HL;have L2:Later w w2:=l0.trans l2;have k0:=zAa (zAb l2 C0.out);have k1:=zAa (zAb l2 C1.out);have HB2:=zAd (HB.out w2 L2);clear HB;cases fd
 case false=>
  go_wp2_with fail;refine HB2.out.mono ?_;rintro e w3 (⟨h,_⟩|⟨_,rfl,l5⟩)
  ·cases h
  ·exact ⟨rfl,.inr ⟨rfl,rfl,L2.trans l5⟩⟩
 case true=>
  go_wp2_with fail;refine HB2.out.mono ?_;rintro e w3 (⟨_,hq⟩|⟨h,_⟩)
  ·obtain ⟨f,hb5,v5,q1,rfl,q3,q⟩:=hq
   clear k0 k1;go_wp2_with fail;exact bodyPost_ret (v:= .tuple #[.pointer (some ⟨f.blk,0,none⟩),.bool false]) (by simp[results,Tryz.results114,go_sem]) rfl ⟨f,hb5,v5,Nat.le_trans L2.size q1,rfl,(KG.of_later L2).trans q3,q⟩
  ·cases h
theorem zWi(base g:Nat)(tos id ttl src dst:Int)(keep:Bool)(so sd:Value)(zo zd:List Int)(a b:Int)(n0:Nat)(w:World)(hsr:0≤src∧src≤4294967295)(hds:0≤dst∧dst≤4294967295)(he:ofe 6 src dst zd=0)(hea:ofa 6 zd=a)(heb:ofb 6 zd=b)(hfl:flt zo.length zd.length=0)(hBo:Mt.By zo)(hBd:Mt.By zd)(hOo:Ow n0 w so zo)(hOd:Ow n0 w sd zd)(hlo:zo.length≤60000)(hld:zd.length≤70000)(ht:0≤tos∧tos≤255)(hid:0≤id∧id≤65535)(htl:0≤ttl∧ttl≤255)(hz:∀W,Later w W→Tb W)(hOW:∀W,Later w W→Calls Tryz.prog 114 #[.agg #[.pointer (some ⟨g,0,none⟩),.int .u8 tos,.int .u16 id,.bool keep,.int .u8 ttl,.int .u8 6,.int .u32 src,.int .u32 dst,so,sd,.int .i64 1],.agg #[.int .u8 6,.int .u32 src,.int .u32 dst,.int .u16 a,.int .u16 b]] W fun e w'=>e= .panicked (dpp 3)∧Later W w'):
  Calls Tryz.prog 55 #[.agg #[.pointer (some ⟨g,0,none⟩),.int .u8 tos,.int .u16 id,.bool keep,.int .u8 ttl,.int .u8 6,.int .u32 src,.int .u32 dst,so,sd,.int .i64 1]] w fun e w'=>e= .panicked (dpp 3)∧Later w w':=by
 obtain⟨l0,c0,c1⟩:=zBa w (.cells #[.pointer (some ⟨g,0,none⟩),.int .u8 tos,.int .u16 id,.bool keep,.int .u8 ttl,.int .u8 6,.int .u32 src,.int .u32 dst,so,sd,.int .i64 1] 139) (.cells #[.int .u8 0,.int .u16 0,.bool false,.int .u8 0,.int .u8 0,.int .u32 0,.int .u32 0,.slice none 0 0,.slice none 0 0] 40);have C0:=zAd c0;have C1:=zAd c1;clear c0 c1;have HQ:=zAd (fun W (l:Later w W)=>zTp tos id ttl 6 src dst keep so sd zd W (hz W l) hBd ((hOd.kg (KG.of_later (base:=base) l)).rd) (by omega) hsr hds rfl);rw[he,hea,heb]at HQ;have hv:otv 0 6 src dst a b= .agg #[.int .u8 6,.int .u32 src,.int .u32 dst,.int .u16 a,.int .u16 b]:=by unfold otv;rw[if_pos rfl]
 rw[hv]at HQ;have HOW:=zAd hOW;obtain⟨sox,soc,rfl,_,_⟩:=hOo.slice;obtain⟨sdx,sdc,rfl,_,_⟩:=hOd.slice;clear hv he hea heb hfl hBo hBd hOo hOd hz hOW;go_enter Tryz.func55,Tryz.ntmps55;go_upto_region 1 with fail;generalize (w.alloc (.cells _ 139)).alloc (.cells _ 40)=w1 at*;generalize hgx:w.heap.size=gx at C0 C1⊢;have k0:=zAa C0.out;go_wp2_with fail;refine(HQ.out w1 l0).mono ?_;rintro e w2 ⟨l2,rfl⟩;have l2':Later w1 w2:=l2;clear k0 HQ l2;go_upto_region 2 with fail;have la:=zAg w2 (.cells #[.int .u8 6,.int .u32 src,.int .u32 dst,.int .u16 a,.int .u16 b] 103);have C3:=zAd (heap_alloc_new w2 (.cells #[.int .u8 6,.int .u32 src,.int .u32 dst,.int .u16 a,.int .u16 b] 103));have D0:=zAd (zAb (l2'.trans la) C0.out);have D1:=zAd (zAb (l2'.trans la) C1.out);have L3:Later w (w2.alloc (.cells #[.int .u8 6,.int .u32 src,.int .u32 dst,.int .u16 a,.int .u16 b] 103)):=l0.trans (l2'.trans la);change Code.wp _ _ _ _ (w2.alloc (.cells #[.int .u8 6,.int .u32 src,.int .u32 dst,.int .u16 a,.int .u16 b] 103));generalize w2.alloc (.cells #[.int .u8 6,.int .u32 src,.int .u32 dst,.int .u16 a,.int .u16 b] 103)=w3 at*;generalize hg3:w2.heap.size=g3 at*;have hg3x:gx+1<g3:=by rw[←hg3];exact Nat.lt_of_lt_of_le (eS C1.out) l2'.size
 clear C0 C1 l2' la hg3;have k0:=zAa D0.out;have k3:=zAa C3.out;go_wp2_with fail;refine(zA0 1 _).mono ?_;rintro e w4 ⟨rfl,hw4⟩;subst hw4;go_wp2_with fail;refine(HOW.out w3 L3).mono ?_;rintro e w4 ⟨rfl,l4⟩;exact⟨rfl,rfl,L3.trans l4⟩
theorem handle_x(base g:Nat)(sb:Value)(zs:List Int)(a b:Int)(w:World)(hB:Mt.By zs)(hI:Rd w.heap.size w sb zs)(hl:zs.length≤60000)
  (hp:rde false zs=0)(hpr:zs[9]?.getD 0=6)(htt:(2:Int)≤zs[8]?.getD 0)(hsr:0≤zAs zs 12∧zAs zs 12≤4294967295)(hds:0≤zAs zs 16∧zAs zs 16≤4294967295)(he:ofe 6 (zAs zs 12) (zAs zs 16) ((zs.take (ral false zs).toNat).drop (hl4 zs).toNat)=0)(hea:ofa 6 ((zs.take (ral false zs).toNat).drop (hl4 zs).toNat)=a)(heb:ofb 6 ((zs.take (ral false zs).toNat).drop (hl4 zs).toNat)=b)(hlo:((zs.take (hl4 zs).toNat).drop 20).length≤40)(hlm:((zs.take (hl4 zs).toNat).drop 20).length % 4=0)(hall:20+((zs.take (hl4 zs).toNat).drop 20).length+((zs.take (ral false zs).toNat).drop (hl4 zs).toNat).length≤65535)
  (hz:∀W,Later w W→Tb W)
  (hOW:∀W so sd,Later w W→Rd W.heap.size W sd ((zs.take (ral false zs).toNat).drop (hl4 zs).toNat)→Calls Tryz.prog 114 #[.agg #[.pointer (some ⟨g,0,none⟩),.int .u8 (zs[1]?.getD 0),.int .u16 (wat zs 4),.bool (decide (16384≤wat zs 6 % 32768)),.int .u8 (zs[8]?.getD 0),.int .u8 6,.int .u32 (zAs zs 12),.int .u32 (zAs zs 16),so,sd,.int .i64 1],.agg #[.int .u8 6,.int .u32 (zAs zs 12),.int .u32 (zAs zs 16),.int .u16 a,.int .u16 b]] W fun e w'=>e= .panicked (dpp 3)∧Later W w'):
  Calls Tryz.prog 22 #[.pointer (some ⟨g,0,none⟩),.int .i64 1,sb] w fun e w'=>e= .returned (.agg (oc 3).toArray)∧Later w w':=by
 have hmf:∀(fn:Fn) (first cap:Array Value) (w:World),(Instr.makeFunc fn first cap).run Tryz.prog w= .ok (.func fn first cap) w:=fun _ _ _ _=>rfl;obtain⟨ia,icap,rfl,hl1,hm1⟩:=hI.slice;have l0:=zAg w (.cells (oc 0).toArray 36);have C0:=zAd (heap_alloc_new w (.cells (oc 0).toArray 36));have HP:=zAd (zGl _ zs _ hB (by omega) (hI.later l0));have bt:=hB.at 1;have bl:=hB.at 8;have bi:0≤wat zs 4∧wat zs 4≤65535:=zCp hB 4;have hBd:Mt.By ((zs.take (ral false zs).toNat).drop (hl4 zs).toNat):=(hB.take _).drop _;have hBo:Mt.By ((zs.take (hl4 zs).toNat).drop 20):=(hB.take _).drop _;clear hI;go_enter_defers Tryz.func22,Tryz.ntmps22
 go_wp2_with fail;change Calls _ _ _ (w.alloc (.cells (oc 0).toArray 36)) _;generalize hw1:w.alloc (.cells (oc 0).toArray 36)=w1 at*;clear hw1;refine HP.out.mono ?_;rintro e w2 ⟨l2,⟨h1,rfl⟩|⟨h1,so,sd,rfl,hOo,hOd⟩⟩
 ·exact absurd hp h1
 clear h1 HP hp;have l2':Later w1 w2:=l2;obtain⟨oa,ocp,rfl,_,_⟩:=hOo.slice;obtain⟨da,dcp,rfl,_,_⟩:=hOd.slice;have hld:((zs.take (ral false zs).toNat).drop (hl4 zs).toNat).length≤65535:=by omega
 generalize hzd:((zs.take (ral false zs).toNat).drop (hl4 zs).toNat)=zd at*;generalize hzo:((zs.take (hl4 zs).toNat).drop 20)=zo at*;unfold pkt;rw[hpr];generalize htos:zs[1]?.getD 0=tos at*;generalize hidd:wat zs 4=id at*;generalize hkp:decide (16384≤wat zs 6 % 32768)=keep at*;generalize httl:zs[8]?.getD 0=ttl at*;clear hpr;generalize hsrc:zAs zs 12=src at*;generalize hdst:zAs zs 16=dst at*;have EQS:=zAd (show(((zs[1]?.getD 0=tos∧wat zs 4=id)∧decide (16384≤wat zs 6 % 32768)=keep)∧zs[8]?.getD 0=ttl)∧(zAs zs 12=src∧zAs zs 16=dst)∧((zs.take (ral false zs).toNat).drop (hl4 zs).toNat)=zd∧((zs.take (hl4 zs).toNat).drop 20)=zo from⟨⟨⟨⟨htos,hidd⟩,hkp⟩,httl⟩,⟨hsrc,hdst⟩,hzd,hzo⟩);clear htos hidd hkp httl hsrc hdst hzd hzo;have la:=zAg w2 (.cells #[.int .u8 tos,.int .u16 id,.bool keep,.int .u8 ttl,.int .u8 6,.int .u32 src,.int .u32 dst,.slice oa zo.length ocp,.slice da zd.length dcp] 40);have CP:=zAd (heap_alloc_new w2 (.cells #[.int .u8 tos,.int .u16 id,.bool keep,.int .u8 ttl,.int .u8 6,.int .u32 src,.int .u32 dst,.slice oa zo.length ocp,.slice da zd.length dcp] 40));have D0:=zAd (zAb (l2'.trans la) C0.out);have L3:Later w (w2.alloc (.cells #[.int .u8 tos,.int .u16 id,.bool keep,.int .u8 ttl,.int .u8 6,.int .u32 src,.int .u32 dst,.slice oa zo.length ocp,.slice da zd.length dcp] 40)):=l0.trans (l2'.trans la);have O3:=zAd (hOo.kg (KG.of_later (base:=base) la));have Q3:=zAd (hOd.kg (KG.of_later (base:=base) la));have hgp:w1.heap.size≤w2.heap.size:=l2'.size
 have hg1:=(eS C0.out);clear hOo hOd la l2 l2';go_upto_region 3 with fail;change Code.wp _ _ _ _ (w2.alloc (.cells #[.int .u8 tos,.int .u16 id,.bool keep,.int .u8 ttl,.int .u8 6,.int .u32 src,.int .u32 dst,.slice oa zo.length ocp,.slice da zd.length dcp] 40));generalize w2.alloc (.cells #[.int .u8 tos,.int .u16 id,.bool keep,.int .u8 ttl,.int .u8 6,.int .u32 src,.int .u32 dst,.slice oa zo.length ocp,.slice da zd.length dcp] 40)=w3 at*;generalize w2.heap.size=gp at*;have hfl:flt zo.length zd.length=0:=by unfold flt;rw[if_neg (by omega),if_neg (by omega)]
 have HCH:=zAd (zWi base g tos id ttl src dst keep (.slice oa zo.length ocp) (.slice da zd.length dcp) zo zd a b w1.heap.size w3 hsr hds he hea heb hfl hBo hBd O3.out Q3.out (by omega) (by omega) bt bi bl (fun W l=>hz W (L3.trans l)) (fun W l=>hOW W _ _ (L3.trans l) ((Q3.out.kg (KG.of_later (base:=base) l)).rd)));clear he hea heb hfl hz hOW O3 Q3 C0;have kp:=zAa CP.out;have ht2:¬ttl<2:=by omega
 go_wp2_with fail;refine(zA0 1 _).mono ?_;rintro e w4 ⟨rfl,hw4⟩;subst hw4;go_wp2_with fail;refine HCH.out.mono ?_;rintro e w4 ⟨rfl,l4⟩;exact zIu _ w.heap.size w.heap.size 3 _ _ _ w4 (zAb l4 D0.out) (Nat.le_refl _) rfl (fun w' hb'=>⟨rfl,Below.trans (L3.trans l4) hb'⟩)
def oX (m:Nat):Tu:=⟨6,134744072,16909060,20,m⟩
def rXo (p:Nat):Tu:=⟨6,167772162,134744072,p,20⟩
def sX (m:Nat):Tu:=⟨6,134744072,16909060,22,m⟩
theorem zQg {t:Tu} {tl tn:Int} {L:List Rw} {x:Rw} (h:x∈mvR t tl tn L):∃r∈L,(∀u,zDl u x=zDl u r)∧((zDl t r=true∧x.till=tl)∨(zDl t r=false∧x.till=r.till)):=by
 unfold mvR at h;obtain⟨r,hr,e⟩:=List.mem_map.1 h;refine⟨r,hr,?_⟩;by_cases hc:zDl t r=true
 ·rw[if_pos hc]at e
  subst e;exact⟨fun u=>rfl,.inl ⟨hc,rfl⟩⟩
 ·rw[if_neg hc]at e
  subst e;exact⟨fun u=>rfl,.inr ⟨by simpa using hc,rfl⟩⟩
theorem nt_o(m:Nat):¬tuA oF (oX m):=fun e=>by
 have:(167772162:Int)=134744072:=e.2.1;omega
theorem nt_r(nn:Int)(m:Nat):¬tuA (rF nn) (oX m):=fun e=>absurd e.2.2.2.1 (by show ¬kyp 6 21=kyp 6 20;decide)
theorem nt_or(p:Nat):¬tuA oF (rXo p):=fun e=>by
 have:(21:Int)=20:=e.2.2.2.2;omega
theorem nt_rr(nn:Int)(p:Nat):¬tuA (rF nn) (rXo p):=fun e=>by
 have:(134744072:Int)=167772162:=e.2.1;omega
theorem nt_x(m p:Nat):¬tuA (oX m) (rXo p):=fun e=>by
 have:(134744072:Int)=167772162:=e.2.1;omega
theorem ns_o(m:Nat):¬tuA oF (sX m):=fun e=>by
 have:(167772162:Int)=134744072:=e.2.1;omega
theorem ns_r(nn:Int)(m:Nat):¬tuA (rF nn) (sX m):=fun e=>absurd e.2.2.2.1 (by show ¬kyp 6 21=kyp 6 22;decide)
theorem ns_x(m n:Nat):¬tuA (oX n) (sX m):=fun e=>absurd e.2.2.2.1 (by show ¬kyp 6 20=kyp 6 22;decide)
theorem ns_y(m p:Nat):¬tuA (rXo p) (sX m):=fun e=>by
 have:(167772162:Int)=134744072:=e.2.1;omega
structure S9 (s:Gf):Prop where
 ex:s.ex=[]
 ls:s.ls=[mqR]
 now:0≤s.now∧s.now≤9
 rw:∃L,s.rw=rwL L∧L.length≤4∧∀r∈L,9<r.till∧∀m:Nat,zDl (sX m) r=false
theorem S9.ltr {s:Gf} (h:S9 s)(n:Int)(v:Value)(hn:0≤n∧n≤9):S9 (ltr s n v):=⟨h.ex,h.ls,hn,h.rw⟩
theorem S9.after {s:Gf} {f f2:Fl} {nn:Nat} {ws:Nat→Nat} {xe:List Ex} (h:F1 s f nn 3 ws xe)(m p:Nat)(ho:f2.o=oX m)(hr:f2.r=rXo p)(v:Value):S9 { bcS (opS s f2) f2 1 with ve:=v,ex:=[] } :=by
 obtain⟨t,n1,n2,e,h9⟩:=h.rw;have hp:f2.o.pr=6:=by rw[ho];rfl
 have hnw:=h.now;have hc:=h.cnt;have hu2:=zPq oF (rF nn) 0 t n1 n2 (zM7 _);have hm0:zEw s.now=true:=by unfold zEw;rw[decide_eq_true_eq];omega
 have hm1:zEw (s.now+120)=true:=by unfold zEw;rw[decide_eq_true_eq];omega
 have k1:∀r∈rw2 oF (rF nn) 0 t n1 n2,zDl (oX m) r=false:=fun r hr=>by
  have hr':r=roT oF 0 t n1∨r=roT (rF nn) 0 t n2:=by simpa[rw2]using hr
  rcases hr' with rfl|rfl
  ·exact zBh _ _ _ _ _ (nt_o m)
  ·exact zBh _ _ _ _ _ (nt_r nn m)
 have k2:∀r∈rw2 oF (rF nn) 0 t n1 n2++[roT (oX m) f2.id s.now (s.trn+1)],zDl (rXo p) r=false:=fun r hr=>by
  have hr':(r=roT oF 0 t n1∨r=roT (rF nn) 0 t n2)∨r=roT (oX m) f2.id s.now (s.trn+1):=by simpa[rw2,or_assoc]using hr
  rcases hr' with(rfl|rfl)|rfl
  ·exact zBh _ _ _ _ _ (nt_or p)
  ·exact zBh _ _ _ _ _ (nt_rr nn p)
  ·exact zBh _ _ _ _ _ (nt_x m p)
 have hop:opM s f2=(s.cnt+1+1,s.trn+1+1,rwL ((rw2 oF (rF nn) 0 t n1 n2++[roT (oX m) f2.id s.now (s.trn+1)])++[roT (rXo p) f2.id s.now (s.trn+1+1)])):=by
  unfold opM;rw[e,ho,hr,ptT_L (oX m) f2.id s.now s.cnt s.trn _ hm0 (by omega) k1,ptT_L (rXo p) f2.id s.now (s.cnt+1) (s.trn+1) _ hm0 (by omega) k2]
 have hu4:UL ((rw2 oF (rF nn) 0 t n1 n2++[roT (oX m) f2.id s.now (s.trn+1)])++[roT (rXo p) f2.id s.now (s.trn+1+1)]):=zH8 _ (rXo p) (zBn _ _ _ _) k2 (zH8 _ (oX m) (zBn _ _ _ _) k1 hu2);generalize hL4:(rw2 oF (rF nn) 0 t n1 n2++[roT (oX m) f2.id s.now (s.trn+1)])++[roT (rXo p) f2.id s.now (s.trn+1+1)]=L4 at*;have m1:roT (oX m) f2.id s.now (s.trn+1)∈L4:=by rw[←hL4];simp
 have m2:roT (rXo p) f2.id s.now (s.trn+1+1)∈L4:=by rw[←hL4];simp
 have m3:roT (rXo p) f2.id s.now (s.trn+1+1)∈mvR (oX m) (s.now+120) (s.trn+1+1+1) L4:=by
  unfold mvR;refine List.mem_map.2 ⟨_,m2,?_⟩;rw[if_neg (by rw[zBh (oX m) (rXo p) _ _ _ (fun e=>nt_x m p (zPr e))];simp)]
 have hu5:UL (mvR (oX m) (s.now+120) (s.trn+1+1+1) L4):=fun u=>by
  have:=hu4 u
  have e2:(mvR (oX m) (s.now+120) (s.trn+1+1+1) L4).filter (zDl u)=mvR (oX m) (s.now+120) (s.trn+1+1+1) (L4.filter (zDl u)):=by
   unfold mvR;rw[List.filter_map];congr 1
   refine List.filter_congr (fun x hx=> ?_);show zDl u (if _ then _ else _)=_
   split<;>rfl
  rw[e2];unfold mvR;rw[List.length_map];exact this
 have hbc:bcM (opS s f2) f2 (s.now+120)=(s.trn+1+1+1+1,rwL (mvR (rXo p) (s.now+120) (s.trn+1+1+1+1) (mvR (oX m) (s.now+120) (s.trn+1+1+1) L4))):=by
  unfold bcM opS;simp only[hop];rw[ho,hr,mvT_L (oX m) (s.now+120) (s.trn+1+1) L4 _ hm1 m1 (zBn _ _ _ _) hu4,mvT_L (rXo p) (s.now+120) (s.trn+1+1+1) _ _ hm1 m3 (zBn _ _ _ _) hu5]
 have htm:tm f2.o.pr 1=120:=by rw[hp];decide
 have hnow:(opS s f2).now=s.now:=rfl;refine⟨rfl,h.ls,h.now,mvR (rXo p) (s.now+120) (s.trn+1+1+1+1) (mvR (oX m) (s.now+120) (s.trn+1+1+1) L4),?_,?_,fun x hx=> ?_⟩
 ·show (bcM _ f2 (_+tm f2.o.pr 1)).2=_
  rw[htm,hnow,hbc]
 ·unfold mvR
  rw[List.length_map,List.length_map,←hL4];simp[rw2]
 ·obtain ⟨y,hy,q1,q2⟩:=zQg hx
  obtain⟨z,hz,q3,q4⟩:=zQg hy;rw[←hL4]at hz;have hz':((z=roT oF 0 t n1∨z=roT (rF nn) 0 t n2)∨z=roT (oX m) f2.id s.now (s.trn+1))∨z=roT (rXo p) f2.id s.now (s.trn+1+1):=by simpa[rw2,or_assoc]using hz
  refine⟨?_,fun m'=> ?_⟩
  ·rcases q2 with⟨_,q2⟩|⟨q2,q5⟩
   ·omega
   ·rcases q4 with⟨_,q4⟩|⟨q4,q6⟩
    ·omega
    ·rw[q5,q6]
     rcases hz' with((rfl|rfl)|rfl)|rfl
     ·exact h9
     ·exact h9
     ·rw[zBn]at q4;cases q4
     ·rw[q3,zBn]at q2;cases q2
  ·rw[q1,q3]
   rcases hz' with((rfl|rfl)|rfl)|rfl
   ·exact zBh _ _ _ _ _ (ns_o m')
   ·exact zBh _ _ _ _ _ (ns_r nn m')
   ·exact zBh _ _ _ _ _ (ns_x m' m)
   ·exact zBh _ _ _ _ _ (ns_y m' p)
theorem zWj(p:Nat)(dl now:Int)(h:now<dl):zO1 (pkX (oX (m2P p)) now) [xL p dl]=xL p dl∧zMc (pkX (oX (m2P p)) now) [xL p dl]=true∧mtL (pkX (oX (m2P p)) now) [xL p dl]=[]:=by
 have h1:pkX (oX (m2P p)) now (xL p dl)=true:=by
  unfold pkX ftX oX xL;simp[h]
 have h2:zO1 (pkX (oX (m2P p)) now) [xL p dl]=xL p dl:=by
  unfold zO1;rw[List.find?_cons_of_pos h1];rfl
 have h3:zMc (pkX (oX (m2P p)) now) [xL p dl]=true:=by
  unfold zMc;rw[List.find?_cons_of_pos h1];rfl
 refine⟨h2,h3,?_⟩;rw[zS1 h3,h2];simp
theorem kind_m:∀r∈ [mqR],r.kind≠2:=fun r hr=>by
 rw[List.mem_singleton.1 hr];decide
theorem zWk:∀args w,(callFunc 483 args).run Tryz.prog w= .ok (.enter 483 args) w:=enters_of Tryz.func483 (by kernel_rfl) rfl
theorem chg_noh {base n1:Nat} {src dst sp dp sq ak fl:Int} {zm z:List Int} (hT:TG src dst sp dp sq ak fl zm z)(q:Tu)(hq:TuB q)(VQ:World→Prop)(hVL:∀A B,VQ A→Later A B→VQ B)(x:Array Value)(W:World)(ao ad:Option Addr)(co cd:Nat)(hV:VQ W)(hO:Ow n1 W (.slice ao 0 co) [])(hD:Ow n1 W (.slice ad z.length cd) (rwD 6 q.dst q.src q.dp q.sp z)):
  Calls Tryz.prog 483 #[.agg #[],.agg x,.agg #[.int .u8 0,.int .u16 0,.bool false,.int .u8 64,.int .u8 6,.int .u32 q.dst,.int .u32 q.src,.slice ao 0 co,.slice ad z.length cd]] W fun e w'=>ChT base n1 W w' 0 0 64 6 q false [] (fun y W'=>VQ W'∧TG q.dst q.src q.dp q.sp sq ak fl zm y) e:=by
 have hR:=zFk (s:=q.dst) (d:=q.src) (a:=q.dp) (b:=q.sp) hT hq.2.1 hq.1 hq.2.2.2 hq.2.2.1;generalize hzt:rwD 6 q.dst q.src q.dp q.sp z=zt at*;have hzl:zt.length=z.length:=by rw[←hzt];exact zB4 _ _ _ _ _
 rw[←hzl]at hD⊢;refine(zRe x W 0 0 64 6 q.dst q.src false ao ad 0 co zt.length cd).mono ?_;rintro e w' ⟨rfl,l⟩;exact⟨zt,ao,co,ad,cd,rfl,Kgl.of_kg (KG.of_later l),hO.kg (KG.of_later (base:=base) l),hD.kg (KG.of_later (base:=base) l),hVL _ _ hV l,hR⟩
theorem out_yes {s:Gf} {f:Fl} {p:Nat} {dl:Int} {ws:Nat→Nat} (h:F1 s f nnP 3 ws [xL p dl])(hp:p≤65535):OuC s 134744072 16909060 20 (m2P p) true (xL p dl):=by
 have hm:=zG9 p;have hnw:=h.now;have hdl:9<dl:=h.dl.2 _ (List.mem_singleton.2 rfl);obtain⟨x1,x2,_⟩:=zWj p dl s.now (by omega);obtain⟨t,n1,n2,e,h9⟩:=h.rw
 have hkk:∀u:Tu,¬tuA oF u→¬tuA (rF nnP) u→kxT u s.rw=none:=fun u h1 h2=>by
  rw[e,zFs];intro r hr
  have hr':r=roT oF 0 t n1∨r=roT (rF nnP) 0 t n2:=by simpa[rw2]using hr
  rcases hr' with rfl|rfl
  ·exact zBh _ _ _ _ _ h1
  ·exact zBh _ _ _ _ _ h2
 refine⟨by rw[h.ex];simp,by rw[h.ex];exact x1,by rw[h.ex];exact x2,by rw[h.ls];exact kind_m,hkk (oX (m2P p)) (nt_o _) (nt_r _ _),by omega,by omega,by omega,by omega,fun _=>⟨hkk (rXo p) (nt_or p) (nt_rr _ p),⟨by show(0:Int)≤167772162;omega,by show(167772162:Int)≤4294967295;omega⟩,⟨by show(0:Int)≤(p:Int);omega,by show(p:Int)≤65535;omega⟩,by rw[h.fs];simp,by show(134744072:Int)≠167772162;omega,by have:=h.trn;omega,by omega,by rw[h.bg];omega,fun z hz=>by
  rw[h.fs]at hz;rw[List.mem_singleton.1 hz,h.id,h.bg];omega,by rw[h.cnt];omega,fun i=>by rw[e];exact Nat.le_trans (zM5 _ i) (by simp[rw2])⟩⟩
def V9 (base g:Nat) (W:World):Prop:=∃s,GF base W g s∧S9 s
theorem V9.later {base g:Nat} {A B:World} (h:V9 base g A)(l:Later A B):V9 base g B:=by
 obtain⟨s,h1,h2⟩:=h;exact⟨s,h1.later l,h2⟩
theorem V9.aside {base g:Nat} {A B:World} (h:V9 base g A) {mb:Nat} {cur:Array Value} {t:TypeId} {fz:Nat × Nat} (hm:A.heap[mb]? =some (.cells cur t fz))(ht:AsT t)(hB:But (fun q=>q=mb) A B):V9 base g B:=by
 obtain⟨s,h1,h2⟩:=h;exact⟨s,h1.other (TE.one hm) hB (by rcases ht with rfl|rfl|rfl<;>decide),h2⟩
theorem passH(tH:TypeId)(HV:Nat→Value)(fn:Nat)(hmt:∀hb k W,Sem.run Tryz.prog (Go.method (k+1) tH (HV hb) "lychgate/gate.change") W= .ok (fn,HV hb) W)(heg:∀args w,(callFunc fn args).run Tryz.prog w= .ok (.enter fn args) w)(base g:Nat)(f:Fl)(hb0 p:Nat)(dl:Int)(ta:Option Addr)(tc:Nat)(now tr nw:Int)(z:List Int)(sb:Value)(w:World)(hp9:p≤65535)(h:VL base g w f hb0 p dl ta tc now tr)(hbs:base≤w.heap.size)(hT:TG 134744072 16909060 20 (m2P p) 7 0 2 [] z)(nI:Nat)(hI:Ow nI w sb (tgB 64 134744072 16909060 z))(hnw:nw≤9)(hz:∀W,KG base w W→TX W)
  (VH:Nat→World→Prop)(hHP:∀v W,HpO base p v W→∃hb,v= .iface tH (HV hb)∧VH hb W)(hVL:∀hb A B,VH hb A→Later A B→VH hb B)
  (hCH:∀fb hb n1 W src dst so sd ao co ad cd,base≤n1→n1≤W.heap.size→KG base w W→V9 base g W→VH hb W→Ow n1 W (.slice ao 0 co) []→Ow n1 W (.slice ad z.length cd) (rwD 6 (rXo p).dst (rXo p).src (rXo p).dp (rXo p).sp z)→Calls Tryz.prog fn #[HV hb,.agg #[.pointer (some ⟨g,0,none⟩),.int .u8 0,.int .u16 0,.bool false,.int .u8 64,.int .u8 6,.int .u32 src,.int .u32 dst,so,sd,.int .i64 1,.pointer (some ⟨fb,0,none⟩),.bool false,.int .u8 6,.int .u32 134744072,.int .u32 16909060,.int .u16 20,.int .u16 (m2P p:Int),.int .u8 6,.int .u32 (rXo p).dst,.int .u32 (rXo p).src,.int .u16 (rXo p).dp,.int .u16 (rXo p).sp],.agg #[.int .u8 0,.int .u16 0,.bool false,.int .u8 64,.int .u8 6,.int .u32 (rXo p).dst,.int .u32 (rXo p).src,.slice ao 0 co,.slice ad z.length cd]] W fun e w'=>ChT base n1 W w' 0 0 64 6 (rXo p) false [] (fun y W'=>V9 base g W'∧TG 134744072 167772162 20 p 7 0 2 [] y) e):
  Calls Tryz.prog 7 #[.pointer (some ⟨g,0,none⟩),.int .i64 nw,.int .i64 1,sb] w fun e w'=>TpQ base w w' nw now (rXo p) (fun n v y W=>V9 base g W∧TG 134744072 167772162 20 p 7 0 2 [] y) e:=by
 obtain⟨s,hG,hS,rfl,rfl⟩:=h.gf;have hm:=zG9 p;have hqb:TuB (rXo p):=by unfold TuB rXo;simp;omega
 refine(zGy tH HV fn hmt heg base g s 1 nw false (rXo p) 134744072 16909060 20 (m2P p) 7 0 2 [] z sb (fun n v fb f2 hb W=>f2.blk=fb∧oth f2 false=rXo p∧f2.hp= .iface tH (HV hb)∧(∃s',GF base W g s'∧S9 s'∧f2∈s'.fs)∧VH hb W) (fun n v y W=>V9 base g W∧TG 134744072 167772162 20 p 7 0 2 [] y) w hG hbs hT (by simp) nI hI (by omega) (by omega) (.inr rfl) hqb rfl ⟨hS.now.1,by have:=hS.now.2;omega⟩ (by rw[hS.ex];exact⟨by simp,fun n hn=>by rw[←hS.ex];exact hS.calm n (by have:=hS.now.2;omega)⟩) (fun n hn=>hS.quiet n (by have:=hS.now.2;omega)) hS.all (fun W k=>(hz W k).1) ?hOW ?hOF ?hOL ?hCH ?hCS ?hCL ?hCT).mono (fun e w' h=>h)
 case hOW=>
  intro n v W so sd k hn hn1 hn2 hg hd
  have hS2:=hS.ltr n v ⟨hn.1,by have:=hS.now.2;omega⟩;have hou:=out_yes hS2 hp9;have hex2:(ltr s n v).ex=[xL p dl]:=hS2.ex
  have hmt9:mtL (pkX ⟨6,134744072,16909060,20,(m2P p:Int)⟩ (ltr s n v).now) (ltr s n v).ex=[]:=by
   rw[hex2];exact(zWj p dl _ (by have:=hS2.now.2;have h8:9<dl:=hS2.dl.2 _ (List.mem_singleton.2 rfl);omega)).2.2
  refine(zLs base g (ltr s n v) 0 0 64 134744072 16909060 false so sd z 134744072 16909060 20 (m2P p) true (xL p dl) W hg hou (Nat.le_trans hbs k.size) hT.by_ hd (by have:=hT.len;simp at this;omega) (by omega) (by omega) hT.ok (by rw[hT.fl];decide)).mono ?_;rintro e w2 (⟨_,f2,hb5,v5,q1,rfl,k2,q2,q3,q4,q5,q6,q7,q8,q9⟩|⟨h,_⟩)
  ·rw[hmt9]at q8
   obtain⟨hb,hv1,hv2⟩:=hHP _ _ q9;refine⟨f2.at 1 ((ltr s n v).now+tm f2.o.pr 1),hb,rfl,k2,rfl,?_,hv1,⟨_,q8,S9.after hS2 (m2P p) p q3 q4 v5,?_⟩,hv2⟩
   ·show oth f2 false=_
    unfold oth;exact q4
   ·show _∈((ltr s n v).fs++[f2]).map (fun x=>if x.blk=f2.blk then f2.at 1 ((ltr s n v).now+tm f2.o.pr 1)else x)
    exact List.mem_map.2 ⟨f2,by simp,if_pos rfl⟩
  ·cases h
 case hOF=>
  rintro n v fb f2 hb W ⟨rfl,h3,h4,⟨s2,hg2,hS2,hm2⟩,_⟩;exact⟨rfl,(hg2.fb f2 hm2).2,h3,h4⟩
 case hOL=>
  rintro n v fb f2 hb A B ⟨h1,h3,h4,⟨s2,hg2,hS2,hm2⟩,h6⟩ l;exact⟨h1,h3,h4,⟨s2,hg2.later l,hS2,hm2⟩,hVL _ _ _ h6 l⟩
 case hCH=>
  rintro n v fb f2 hb n1 W so sd ao co ad cd hw1 hw2 k ⟨rfl,h3,h4,⟨s2,hg2,hS2,hm2⟩,h6⟩ ho hd;exact hCH f2.blk hb n1 W 134744072 16909060 so sd ao co ad cd (by omega) hw2 k ⟨s2,hg2,hS2⟩ h6 ho hd
 case hCS=>
  rintro n v y A B k cur t fz ⟨h5,h6⟩ hk ht hB;exact⟨h5.aside hk (by rcases ht with h|h;exact .inl h;exact .inr (.inl h)) hB,h6⟩
 case hCL=>
  rintro n v y W ⟨_,h6⟩;have:=h6.len
  simp at this
  omega
 case hCT=>
  rintro n v y A B ⟨h5,h6⟩ l;exact⟨h5.later l,h6⟩
theorem passO(base g:Nat)(f:Fl)(hb0 p:Nat)(dl:Int)(ta:Option Addr)(tc:Nat)(now tr nw:Int)(z:List Int)(sb:Value)(w:World)(hp9:p≤65535)(h:VL base g w f hb0 p dl ta tc now tr)(hbs:base≤w.heap.size)(hT:TG 134744072 16909060 20 (m2P p) 7 0 2 [] z)(nI:Nat)(hI:Ow nI w sb (tgB 64 134744072 16909060 z))(hnw:nw≤9)(hz:∀W,KG base w W→TX W):
  Calls Tryz.prog 7 #[.pointer (some ⟨g,0,none⟩),.int .i64 nw,.int .i64 1,sb] w fun e w'=>TpQ base w w' nw now (rXo p) (fun n v y W=>V9 base g W∧TG 134744072 167772162 20 p 7 0 2 [] y) e:=by
 have hqb:TuB (rXo p):=by unfold TuB rXo;simp;omega
 by_cases h21:p=21
 ·refine passH 457 (fun hb=> .pointer (some ⟨hb,0,none⟩)) 356 zJg zGx base g f hb0 p dl ta tc now tr nw z sb w hp9 h hbs hT nI hI hnw hz (fun hb W=>HfS base W hb [] [] []) (fun v W hv=> ?_) (fun hb A B h l=>h.later l) (fun fb hb n1 W src dst so sd ao co ad cd hn1 hn2 k hV hH ho hd=> ?_)
  ·rcases hv with⟨h1,_⟩|⟨_,hb,e,hN⟩
   ·exact absurd (by omega) h1
   ·exact ⟨hb,e,hN.toS⟩
  ·refine (chgN (f:= { f with blk:=fb }) (sq2:=7) (ak2:=0) hT (rXo p) hqb (by simp) Mt.By.nil (by omega) (by omega) (by omega) (by omega) (by omega) g hb [] [] [] (by simp) (by simp) (fun W=>V9 base g W∧HfS base W hb [] [] []) src dst 1 (.inr rfl) (.inr ⟨rfl,rfl,by unfold zGv;rw[if_neg (by decide)]⟩) so sd false (zDh _) 6 134744072 16909060 20 (m2P p) 6 (rXo p).dst (rXo p).src (rXo p).dp (rXo p).sp ao ad co cd W (fun V l=>(hz V (k.trans (KG.of_later l))).2.2.1) ⟨hV,hH⟩ (fun A B h l=>⟨h.1.later l,h.2.later l⟩) (fun A B k cur t fz h hk ht hB=>⟨h.1.aside hk ht hB,h.2.asideF hk ht hB⟩) (fun V h=>h.2) ⟨hn1,hn2⟩ ho hd).mono ?_
   rintro e w' ⟨zd2,ao2,co2,ad2,cd2,q1,q2,q3,q4,⟨q5,_⟩,q6⟩;exact⟨zd2,ao2,co2,ad2,cd2,q1,q2,q3,q4,q5,q6⟩
 ·refine passH 468 (fun _=> .agg #[]) 483 (fun _ k W=>meth_noh k W) zWk base g f hb0 p dl ta tc now tr nw z sb w hp9 h hbs hT nI hI hnw hz (fun hb W=>True) (fun v W hv=> ?_) (fun hb A B h l=>trivial) (fun fb hb n1 W src dst so sd ao co ad cd hn1 hn2 k hV hH ho hd=> ?_)
  ·rcases hv with⟨_,e⟩|⟨h1,_⟩
   ·exact ⟨0,e,trivial⟩
   ·exact absurd h1 (by omega)
  ·exact chg_noh hT (rXo p) hqb (fun W=>V9 base g W) (fun A B h l=>h.later l) _ W ao ad co cd hV ho hd
theorem out_no {s:Gf} (h:S9 s)(m:Nat)(hm:m≤65535):OuC s 134744072 16909060 22 m false zEx:=by
 obtain⟨L,e,hl,hL⟩:=h.rw
 have hk:kxT (sX m) s.rw=none:=by
  rw[e,zFs];exact fun r hr=>(hL r hr).2 m
 exact⟨by rw[h.ex];simp,by rw[h.ex];rfl,by rw[h.ex];rfl,by rw[h.ls];exact kind_m,hk,by omega,by omega,by omega,by omega,fun h=>by cases h⟩
theorem passS(base g m:Nat)(nw:Int)(z:List Int)(sb:Value)(w:World)(hm:m≤65535)(h:V9 base g w)(hbs:base≤w.heap.size)(hT:TG 134744072 16909060 22 m 7 0 2 [] z)(nI:Nat)(hI:Ow nI w sb (tgB 64 134744072 16909060 z))(hnw:nw≤9)(hz:∀W,KG base w W→TX W):
  Calls Tryz.prog 7 #[.pointer (some ⟨g,0,none⟩),.int .i64 nw,.int .i64 1,sb] w fun e w'=>∃sd2 va ln vc,e= .returned (.agg #[.int .i64 3,.int .i64 sd2,.slice va ln vc])∧Kgl base w w'∧V9 base g w':=by
 obtain⟨s,hG,hS⟩:=h;obtain⟨L,e,hl,hL⟩:=hS.rw;have hzl:=hT.len;have hF:=zJc hT.by_ (by simp at hzl;omega) (show(0:Int)≤64∧(64:Int)≤255 by omega) (show(0:Int)≤134744072∧(134744072:Int)≤4294967295 by omega) (show(0:Int)≤16909060∧(16909060:Int)≤4294967295 by omega);obtain⟨sa,sc,rfl,_,_⟩:=hI.slice;refine(zLd base g s 1 nw (.inr rfl) _ (fun rc n v sv W=>rc=3∧V9 base g W) w hG hbs ⟨_,_,_,rfl⟩ ⟨hS.now.1,by have:=hS.now.2;omega⟩ (by rw[hS.ex];exact⟨by simp,fun _ _=>rfl⟩) (fun n hn=>by rw[e];exact zGs L n (fun r hr=>by have:=(hL r hr).1;have:=hS.now.2;omega)) (by rw[e];exact Nat.le_trans (zM6 L 4 hl) (by omega)) (fun rc n v sv A B k cur fz hp hk hB=>⟨hp.1,hp.2.aside hk (.inr (.inl rfl)) hB⟩) (fun W n v k hn hn1 hn2 hg=> ?_)).mono ?_
 ·have hS2:=hS.ltr n v ⟨hn.1,by have:=hS.now.2;omega⟩
  have hou:=out_no hS2 m hm;refine(handle_x base g _ (tgB 64 134744072 16909060 z) 22 m W hF.by_ ((hI.kg k).rd) (by have:=hF.len;simp at hzl;omega) hF.rd hF.i9 (by rw[hF.i8];omega) (by rw[hF.src];omega) (by rw[hF.dst];omega) (by rw[hF.src,hF.dst,hF.zd];exact hT.ok) (by rw[hF.zd];show wat z 0=22;exact hT.a) (by rw[hF.zd];show wat z 2=m;exact hT.b) (by rw[hF.zo];simp) (by rw[hF.zo];rfl) (by rw[hF.zo,hF.zd];simp at hzl⊢;omega) (fun V l=>(hz V (k.trans (KG.of_later l))).1) (fun V so sd l hd=> ?_)).mono ?_
  ·rw[hF.zd]at hd
   rw[hF.i1,hF.w4,hF.w6,hF.i8,hF.src,hF.dst];refine(zLs base g (ltr s n v) 0 0 64 134744072 16909060 false so sd z 134744072 16909060 22 m false zEx V (hg.later l) hou (Nat.le_trans hbs (Nat.le_trans k.size l.size)) hT.by_ hd (by simp at hzl;omega) (by omega) (by omega) hT.ok (by rw[hT.fl];decide)).mono ?_;rintro e w2 (⟨h,_⟩|⟨_,h2,h3⟩)
   ·cases h
   ·exact ⟨h2,h3⟩
  ·rintro e w2 ⟨rfl,l⟩
   exact⟨3,0,none,0,0,rfl,Kgl.of_kg (KG.of_later l),rfl,_,hg.later l,hS2⟩
 ·rintro e w' ⟨rc,sd2,va,ln,vc,n,v,rfl,hk,hn1,hn2,rfl,hv⟩
  exact⟨sd2,va,ln,vc,rfl,hk,hv⟩
def GnZ (w w':World) (lo hi:Int) (e:Ending):Prop:=∃g s,e= .returned (.pointer (some ⟨g,0,none⟩))∧Later w w'∧GI w.heap.size w' g s∧s.ls=[]∧GsK w.heap.size lo hi s∧s.now=0
def RuZ (base:Nat) (w w':World) (g:Nat) (s:Gs) (l:List Ru):Prop:=Below base w w'∧∃s',s'.ls=l∧GI base w' g s'∧SmG s s'∧s'.now=s.now
def GwZ (w w':World) (e:Ending):Prop:=∃g s,e= .returned (.pointer (some ⟨g,0,none⟩))∧Later w w'∧GI w.heap.size w' g s∧s.ls=[mqR]∧GsK w.heap.size 1000 1063 s∧s.now=0
theorem gnew_now(lo hi:Int)(w:World)(h0:lo≠0)(h1:lo≤hi):Calls Tryz.prog 44 #[.int .u16 lo,.int .u16 hi] w fun e w'=>GnZ w w' lo hi e:=by
 have t0:(lo==0)=false:=by rw[beq_eq_false_iff_ne];exact h0
 have t1:¬hi<lo:=by omega
 have hmm:= @run_makeMap Tryz.prog;go_enter Tryz.func44,Tryz.ntmps44;go_upto_region 3 with fail;clear h0 h1 t0 t1;go_wp2_with fail;refine(new9_any w).mono ?_;rintro e w1 ⟨rfl,l1,r1⟩;have m2:=heap_alloc_new w1 (.map #[] 0);have l2:=zAg w1 (.map #[] 0);have r2:=r1.later l2;have HR2:=zAd r2;have HM2:=zAd m2;clear r1 r2 m2;go_wp2_with fail;change Calls _ _ _ (w1.alloc (.map #[] 0)) _;have hgf1:w.heap.size≤w1.heap.size:=l1.size;have hgf2:w1.heap.size<(w1.alloc (.map #[] 0)).heap.size:=by rw[World.size_alloc];omega
 generalize w1.alloc (.map #[] 0)=w2 at*;generalize w1.heap.size=gf at*;refine(new_yes 128 w2 (by decide) (by decide)).mono ?_;rintro e w3 ⟨rfl,l3,r3⟩;have HT3:=zAd r3;have l3':Later w2 w3:=l3;clear r3;go_wp2_with fail;refine(zSz w3).mono ?_;rintro e w4 ⟨rfl,l4,r4⟩;have HB4:=zAd r4;clear r4;have m5:=heap_alloc_new w4 (.map #[] 0);have l5:=zAg w4 (.map #[] 0);have HM5:=zAd m5;clear m5;go_wp2_with fail;have e1:w2.heap.size≤w3.heap.size:=l3'.size;have e0:w.heap.size≤w2.heap.size:=Nat.le_trans l1.size l2.size;have e2:w3.heap.size≤w4.heap.size:=l4.size;generalize hw5:w4.alloc (.map #[] 0)=w5 at*;have hs5:w5.heap.size=w4.heap.size+1:=by rw[←hw5,World.size_alloc]
 generalize hg5:w4.heap.size=gp at*;have m6:=heap_alloc_new w5 (.cells #[.int .u16 lo,.int .u16 hi,.int .i64 0,.int .i64 0,.pointer (some ⟨w.heap.size,0,none⟩),.map (some gf),.pointer (some ⟨w2.heap.size,0,none⟩),.pointer (some ⟨w3.heap.size,0,none⟩),.map (some gp)] 91);have l6:=zAg w5 (.cells #[.int .u16 lo,.int .u16 hi,.int .i64 0,.int .i64 0,.pointer (some ⟨w.heap.size,0,none⟩),.map (some gf),.pointer (some ⟨w2.heap.size,0,none⟩),.pointer (some ⟨w3.heap.size,0,none⟩),.map (some gp)] 91);have k36:=l4.trans (Later.trans l5 l6);have k26:=l3'.trans k36;rw[hs5]at m6;go_ret
 refine⟨gp+1,⟨lo,hi,0,[],w.heap.size,gf,w2.heap.size,w3.heap.size,gp,.slice none 0 0,.slice none 0 0,0,0⟩,rfl,Later.trans l1 (Later.trans l2 k26),?_,rfl,⟨rfl,rfl,⟨Int.le_refl _,by show(0:Int)≤549755813888;decide⟩,?_⟩,rfl⟩
 ·exact ⟨by show w.heap.size≤gp+1;omega,m6,HR2.out.later k26,(HT3.out.laterD k36).monoG e0,(HB4.out.later (Later.trans l5 l6)).monoG (Nat.le_trans e0 e1),zAb k26 HM2.out,zAb l6 HM5.out⟩
 ·exact ⟨by show gf≠gp;omega,hgf1,by show w.heap.size≤gp;omega⟩
theorem zWl(base g:Nat)(s:Gs)(x:Ru)(w:World)(h:GI base w g s)(hx:wfR x)(hl:s.ls.length≤32)(hbs:base≤w.heap.size):
  Calls Tryz.prog 45 #[.pointer (some ⟨g,0,none⟩),.agg (ruc x).toArray] w fun e w'=>e= .returned (.int .i64 (adE s.ls x))∧RuZ base w w' g s (adL s.ls x):=by
 have l0:=zAg w (.cells (ruc x).toArray 125);have C0:=zAd (heap_alloc_new w (.cells (ruc x).toArray 125));have H1:=zAd (h.later l0);have HAD:=zAd (fun W v (hr:RL 285 base W s.gr v s.ls) (hb:base≤W.heap.size)=>add9_any base s.gr v s.ls x W hr hx hl hb);unfold ruc at*;clear h hx hl;go_enter Tryz.func45,Tryz.ntmps45;go_upto_region 3 with fail;generalize w.alloc _=w1 at*;generalize w.heap.size=gx at C0⊢;refine zEo ?_;refine zA5 (R1:=Later) (R2:=fun _ _=>True) (D:=[5]) 7 rfl (by kernel_rfl) ?_;have ld:Later w1 w1.drew:=Later.drew w1;generalize w1.drew=Wd at*;have H2:=zAd (H1.out.later ld);have q0:∀v,Later Wd v→∀j,v.cell? ⟨gx,j,none⟩=_:=fun v hv=>zAa (zAb (ld.trans hv) C0.out);have q1:∀v,Later Wd v→∀j,v.cell? ⟨g,j,none⟩=(gtc s).toArray[j]? :=fun v hv=>zAa (zAb hv H2.out.gc);unfold gtc at q1;refine uX Later.pre 0 [1,2,3,5,6] ?_;refine uX Later.pre 1 [2,3,5,6] ?_;refine uX Later.pre 2 [3,5,6] ?_;refine uX Later.pre 3 [5,6] ?_;refine uX Later.pre 4 [5,6] ?_;clear q0 q1;have hbd:base≤Wd.heap.size:=Nat.le_trans hbs (Later.trans l0 ld).size;refine uO 5 ?_;refine zAj 95 #[.pointer (some ⟨s.gr,0,none⟩),.agg (ruc x).toArray] (by unfold ruc;go_simp) ?_;refine(HAD.out Wd s.vr H2.out.rl hbd).mono ?_;rintro e w3 ⟨rfl,v3,hr3,hb3,_⟩;refine⟨zDx (by rfl) trivial,?_⟩;simp only[Act.put,sA,sB,sC];refine uO 6 ?_;refine zC2 (w':=w3) (.int .i64 (adE s.ls x)) (by go_simp) ?_;refine⟨zA3 (by rfl) (Later.refl _),?_⟩
 simp only[Act.put,sA,sB,sC];refine uD ?_;refine⟨rfl,?_⟩;have h3:=H2.out.rules H2.out.rl.ruE hb3 hr3
 have B3:Below base Wd w3:=hb3.below hbd (fun k hk e=>by
  rcases e with e|e
  ·have:=H2.out.rl.1;omega
  ·obtain ⟨_,⟨e',_⟩|⟨g',cap,cur,e',hge,hh,_⟩⟩:=H2.out.rl.2.2
   ·rw[e']at e;cases e
   ·rw[e']at e
    have e2:g'=k:=by simpa[Value.ownBlock]using e
    omega)
 go_wp2_with fail;go_ret
 exact⟨rfl,((Later.trans l0 ld).mono hbs).trans B3,_,rfl,h3,⟨rfl,fun _ _ _ h=>h⟩,rfl⟩
theorem zNw(w:World):Calls Tryz.prog 17 #[] w fun e w'=>GwZ w w' e:=by
 go_enter Tryz.func17,Tryz.ntmps17;go_wp2_with fail;refine(gnew_now 1000 1063 w (by decide) (by decide)).mono ?_;rintro e w1 ⟨g,s,rfl,l1,h1,hls,hgk,hnw⟩;have HR:=zAd (zWl w.heap.size g s mqR w1 h1 mq_wf (by rw[hls];simp) l1.size);rw[hls,mq_ok,mq_list]at HR;go_wp2_with fail;refine HR.out.mono ?_;rintro e w2 ⟨rfl,b2,s2,hl2,h2,hsm,hn2⟩;go_wp2_with fail;go_ret
 exact⟨g,s2,rfl,Below.trans l1 b2,h2,hl2,hsm.2 _ _ _ hgk,hn2.trans hnw⟩
def OpdF (w w':World) (e:Ending):Prop:=Below w.heap.size w w'∧∃(g:Nat) (f:Fl) (hb:Nat) (n:Int),e= .returned (.tuple #[.pointer (some ⟨g,0,none⟩),.int .u16 (nnP:Int),.bool true])∧n≤1∧VF w.heap.size g w' f hb nnP 3 wsP [] [] [] [] n 8
theorem tx_all {w:World} (hT:TX w):∀Wk W,Below w.heap.size w Wk→KG w.heap.size Wk W→TX W:=fun Wk W h k=>by
 have hb:=h.trans (k.below h.size);exact⟨hT.1.below hb hT.1.pos,hT.2.1.below hb hT.2.1.pos,hT.2.2.1.later hb,hT.2.2.2.later hb⟩
theorem openedF(w:World)(hT:TX w):
  Calls Tryz.prog 5 #[.int .u16 21] w fun e w'=>OpdF w w' e:=by
 unfold OpdF;have HZ:=zAd (tx_all hT);have HZP:=zAd hT.2.1.pos;clear hT;go_enter Tryz.func5,Tryz.ntmps5;go_wp2_with fail;refine(zNw w).mono ?_;rintro e w1 hg1;unfold GwZ at hg1;obtain⟨g,s,rfl,l1,hG,hls,hK,hnw⟩:=hg1;have hF:=zAd (hG.toF hK);have hS:=zAd (S0.start s hls ⟨by omega,by omega⟩);have hn0:(gfS 1000 1063 s).now=0:=hnw;clear hG hls hK hnw;generalize gfS 1000 1063 s=s0 at*;have HSZ1:w.heap.size≤w1.heap.size:=l1.size;go_wp2_with fail;refine(zB2 167772162 134744072 5555 21 99 0 2 (.slice none 0 0) [] w1 (by omega) (by omega) (by omega) (by omega) (by omega) (by omega) (by omega) Mt.By.nil (zD5 w1) (by simp)).mono ?_;rintro e w2 ⟨l2,v2,z1,rfl,hT1,hO1⟩;have HSZ2:w1.heap.size≤w2.heap.size:=l2.size;have L2:=l1.trans l2;obtain⟨a2,c2,rfl,_,_⟩:=hO1.slice;generalize hll2:(tgB 64 167772162 134744072 z1).length=ll2 at*;have HSY:=zAd (synF w.heap.size g s0 1 99 0 z1 (.slice a2 ll2 c2) w2 (hF.out.later l2) hS.out (by omega) hT1 w1.heap.size hO1 (by omega) (fun W k=>HZ.out w2 W L2 k) (by omega) (by omega) (Nat.le_trans (Nat.le_of_lt HZP.out) (by omega)));go_wp2_with fail;refine HSY.out.mono ?_;rintro e w3 ⟨n1,v1,sd1,z2,sv3,rfl,k3,hn1,hm1,⟨⟨f1,hb,hV1⟩,hT2⟩,hO3⟩;have B3:Below w.heap.size w w3:=Below.trans L2 (k3.below (by omega));have k3s:w2.heap.size≤w3.heap.size:=k3.size;obtain⟨a3,c3,rfl,_,_⟩:=hO3.slice;generalize hll3:(tgB 63 (rF (nnP:Int)).dst (rF (nnP:Int)).src z2).length=ll3 at*
 have la:=zAg w3 (.cells #[.int .i64 0,.int .i64 sd1,.slice a3 ll3 c3] 36);have X1:=zAd (heap_alloc_new w3 (.cells #[.int .i64 0,.int .i64 sd1,.slice a3 ll3 c3] 36));have V4:=zAd (hV1.later la);have O4:=zAd (hO3.later la);have B4:Below w.heap.size w _:=Below.trans B3 (la.mono (Nat.le_trans HSZ1 (Nat.le_trans HSZ2 k3s)));have s4:=la.size;clear hV1 hO3 la HSY k3 B3 hF hS;go_upto_region 5 with fail;change Code.wp _ _ _ _ (w3.alloc (.cells #[.int .i64 0,.int .i64 sd1,.slice a3 ll3 c3] 36));generalize w3.alloc (.cells #[.int .i64 0,.int .i64 sd1,.slice a3 ll3 c3] 36)=w4 at*;generalize w3.heap.size=g1 at*;have k1:=zAa X1.out;go_wp2_with fail;have hOr:=O4.out.rd;refine(zCx 63 16909060 134744072 nnP 21 99 0 2 (.slice a3 ll3 c3) [] z2 w4 hT2 hOr (by simp) (by omega) (by omega) (by omega)).mono ?_;rintro e w5 hsn;unfold SnQ at hsn;obtain⟨l5,a5,c5,b5,l5x,d5,aO,cO,am,cm,rfl,hO5⟩:=hsn;have X5:=zAd (zAb l5 X1.out);have V5:=zAd (V4.out.later l5);have s5:w4.heap.size≤w5.heap.size:=l5.size;have B5:Below w.heap.size w w5:=Below.trans B4 (l5.mono (by omega));clear X1 V4 O4 B4 hOr hO5 k1;obtain⟨l6,c6,d6⟩:=zBa w5 (.cells #[.int .u8 0,.int .u16 0,.bool false,.int .u8 63,.int .u8 6,.int .u32 16909060,.int .u32 134744072,.slice a5 0 c5,.slice b5 l5x d5] 40) (.cells #[.int .u16 (nnP:Int),.int .u16 21,.int .u32 99,.int .u32 0,.int .u8 2,.int .u16 0,.int .u16 0,.slice aO 0 cO,.slice am 0 cm] 32);have X6:=zAd (zAb l6 X5.out);have S6:=zAd d6
 have V6:=zAd (V5.out.later l6);have s6:w5.heap.size≤((w5.alloc (.cells #[.int .u8 0,.int .u16 0,.bool false,.int .u8 63,.int .u8 6,.int .u32 16909060,.int .u32 134744072,.slice a5 0 c5,.slice b5 l5x d5] 40)).alloc (.cells #[.int .u16 (nnP:Int),.int .u16 21,.int .u32 99,.int .u32 0,.int .u8 2,.int .u16 0,.int .u16 0,.slice aO 0 cO,.slice am 0 cm] 32)).heap.size:=l6.size;have B6:Below w.heap.size w ((w5.alloc (.cells #[.int .u8 0,.int .u16 0,.bool false,.int .u8 63,.int .u8 6,.int .u32 16909060,.int .u32 134744072,.slice a5 0 c5,.slice b5 l5x d5] 40)).alloc (.cells #[.int .u16 (nnP:Int),.int .u16 21,.int .u32 99,.int .u32 0,.int .u8 2,.int .u16 0,.int .u16 0,.slice aO 0 cO,.slice am 0 cm] 32)):=Below.trans B5 (l6.mono (by omega));clear X5 V5 B5 l5 l6 c6 d6;go_upto_region 6 with fail;change Code.wp _ _ _ _ ((w5.alloc (.cells #[.int .u8 0,.int .u16 0,.bool false,.int .u8 63,.int .u8 6,.int .u32 16909060,.int .u32 134744072,.slice a5 0 c5,.slice b5 l5x d5] 40)).alloc (.cells #[.int .u16 (nnP:Int),.int .u16 21,.int .u32 99,.int .u32 0,.int .u8 2,.int .u16 0,.int .u16 0,.slice aO 0 cO,.slice am 0 cm] 32));generalize (w5.alloc (.cells #[.int .u8 0,.int .u16 0,.bool false,.int .u8 63,.int .u8 6,.int .u32 16909060,.int .u32 134744072,.slice a5 0 c5,.slice b5 l5x d5] 40)).alloc (.cells #[.int .u16 (nnP:Int),.int .u16 21,.int .u32 99,.int .u32 0,.int .u8 2,.int .u16 0,.int .u16 0,.slice aO 0 cO,.slice am 0 cm] 32)=w6 at*;generalize w5.heap.size=g5 at*;have k6:=zAa S6.out
 have hnb:=zIm;go_wp2_with fail;refine(zB2 134744072 16909060 21 nnP 999 100 18 (.slice none 0 0) [] w6 (by omega) (by omega) (by omega) (by omega) (by omega) (by omega) (by omega) Mt.By.nil (zD5 w6) (by simp)).mono ?_;rintro e w7 ⟨l7,v7,z7,rfl,hT7,hO7⟩;have s7:w6.heap.size≤w7.heap.size:=l7.size;have B7:Below w.heap.size w w7:=Below.trans B6 (l7.mono (by omega));obtain⟨a7,c7,rfl,_,_⟩:=hO7.slice;generalize hll7:(tgB 64 134744072 16909060 z7).length=ll7 at*;have HP:=zAd (passN w.heap.size g f1 hb nnP 1 2 wsP [] [] [] [] n1 (0+1+1+1+1) 1 1 true oF 134744072 16909060 21 nnP 999 100 999 100 18 [] z7 (.slice a7 ll7 c7) w7 (V6.out.later l7) (by simp) (by simp) (.inr ⟨rfl,rfl,by unfold zGv;split<;>rfl⟩) Mt.By.nil (by omega) (by omega) (by omega) (by omega) (by omega) (zDh _) (by omega) hT7 (by simp) _ hO7 (.inl ⟨rfl,rfl⟩) rfl rfl (by omega) (by omega) (by decide) (by omega) (by decide) (fun W k=>HZ.out w7 W B7 k));have X7:=zAd (zAb l7 X6.out);have S7:=zAd (zAb l7 S6.out);clear X6 S6 V6 B6 l7 k6 hO7;go_wp2_with fail;refine HP.out.mono ?_;rintro e w8 ⟨n2,v2,sd2,z8,sv8,rfl,k8,hn2,hm2,⟨⟨f2,hfb2,hV2⟩,hT8⟩,hO8⟩;have B8:Below w.heap.size w w8:=Below.trans B7 (k8.below (by omega));have s8:w7.heap.size≤w8.heap.size:=k8.size;obtain⟨a8,c8,rfl,_,_⟩:=hO8.slice;generalize hll8:(tgB 63 oF.dst oF.src z8).length=ll8 at*;have la:=zAg w8 (.cells #[.int .i64 0,.int .i64 sd2,.slice a8 ll8 c8] 36);have X9:=zAd (zAb la (k8.cells X7.out (by decide)))
 have S9:=zAd (zAb la (k8.cells S7.out (by decide)));have Y9:=zAd (heap_alloc_new w8 (.cells #[.int .i64 0,.int .i64 sd2,.slice a8 ll8 c8] 36));have V9:=zAd (hV2.later la);have B9:Below w.heap.size w _:=Below.trans B8 (la.mono (by omega));have s9:=la.size;clear hV2 hO8 la HP k8 B8 X7 S7 B7;go_upto_region 7 with fail;change Code.wp _ _ _ _ (w8.alloc (.cells #[.int .i64 0,.int .i64 sd2,.slice a8 ll8 c8] 36));generalize w8.alloc (.cells #[.int .i64 0,.int .i64 sd2,.slice a8 ll8 c8] 36)=w9 at*;generalize w8.heap.size=g8 at*;go_wp2_with fail;refine(zB2 167772162 134744072 5555 21 100 1000 16 (.slice none 0 0) [] w9 (by omega) (by omega) (by omega) (by omega) (by omega) (by omega) (by omega) Mt.By.nil (zD5 w9) (by simp)).mono ?_;rintro e w10 ⟨l10,v10,z10,rfl,hT10,hO10⟩;have s10:w9.heap.size≤w10.heap.size:=l10.size;have B10:Below w.heap.size w w10:=Below.trans B9 (l10.mono (by omega));obtain⟨a10,c10,rfl,_,_⟩:=hO10.slice;generalize hll10:(tgB 64 167772162 134744072 z10).length=ll10 at*
 have HP:=zAd (passN w.heap.size g f2 hb nnP 2 3 wsP [] [] [] [] n2 (0+1+1+1+1+1+1) 1 0 false (rF nnP) 167772162 134744072 5555 21 100 1000 100 1000 16 [] z10 (.slice a10 ll10 c10) w10 (V9.out.later l10) (by simp) (by simp) (.inl ⟨rfl,rfl,by unfold zGv;split<;>rfl⟩) Mt.By.nil (by omega) (by omega) (by omega) (by omega) (by omega) (zDh _) (by omega) hT10 (by simp) _ hO10 (.inr ⟨rfl,rfl⟩) rfl rfl (by omega) (by omega) (by decide) (by omega) (by decide) (fun W k=>HZ.out w10 W B10 k));have X10:=zAd (zAb l10 X9.out);have S10:=zAd (zAb l10 S9.out);have Y10:=zAd (zAb l10 Y9.out);clear X9 S9 Y9 V9 B9 l10 hO10;go_wp2_with fail;refine HP.out.mono ?_;rintro e w11 ⟨n3,v3,sd3,z11,sv11,rfl,k11,hn3,hm3,⟨⟨f3,hfb3,hV3⟩,hT11⟩,hO11⟩;have B11:Below w.heap.size w w11:=Below.trans B10 (k11.below (by omega));obtain⟨a11,c11,rfl,_,_⟩:=hO11.slice;generalize hll11:(tgB 63 (rF (nnP:Int)).dst (rF (nnP:Int)).src z11).length=ll11 at*;have s11:w10.heap.size≤w11.heap.size:=k11.size;have la:=zAg w11 (.cells #[.int .i64 0,.int .i64 sd3,.slice a11 ll11 c11] 36);have X12:=zAd (zAb la (k11.cells X10.out (by decide)));have S12:=zAd (zAb la (k11.cells S10.out (by decide)));have Y12:=zAd (zAb la (k11.cells Y10.out (by decide)));have Z12:=zAd (heap_alloc_new w11 (.cells #[.int .i64 0,.int .i64 sd3,.slice a11 ll11 c11] 36));have V12:=zAd (hV3.later la);have B12:Below w.heap.size w _:=Below.trans B11 (la.mono (by omega))
 clear hV3 hO11 la HP k11 B11 X10 S10 Y10 B10;go_upto_region 8 with fail;change Code.wp _ _ _ _ (w11.alloc (.cells #[.int .i64 0,.int .i64 sd3,.slice a11 ll11 c11] 36));generalize w11.alloc (.cells #[.int .i64 0,.int .i64 sd3,.slice a11 ll11 c11] 36)=w12 at*;generalize w11.heap.size=g11 at*;have HB:=zAd B12;have HN:=zAd (show n3≤1 by omega);clear B12;refine zAl (R:=Later) 22 rfl (by kernel_rfl) ?_;have ld:Later w12 w12.drew:=Later.drew w12;have VD:=zAd (V12.out.later ld);have BD:=zAd (Below.trans HB.out (ld.mono HB.out.size));generalize w12.drew=wd at*;have kx:∀v,Later wd v→∀j,v.cell? ⟨g1,j,none⟩=_:=fun v hv=>zAa (zAb (ld.trans hv) X12.out);have ks:∀v,Later wd v→∀j,v.cell? ⟨g5+1,j,none⟩=_:=fun v hv=>zAa (zAb (ld.trans hv) S12.out);have ky:∀v,Later wd v→∀j,v.cell? ⟨g8,j,none⟩=_:=fun v hv=>zAa (zAb (ld.trans hv) Y12.out);have kz:∀v,Later wd v→∀j,v.cell? ⟨g11,j,none⟩=_:=fun v hv=>zAa (zAb (ld.trans hv) Z12.out);refine gX Later.pre 0 ?_;refine gX Later.pre 1 ?_;refine gX Later.pre 2 ?_;refine gX Later.pre 3 ?_;refine gX Later.pre 4 ?_;refine gX Later.pre 5 ?_;refine gX Later.pre 6 ?_;refine gX Later.pre 7 ?_;refine gX Later.pre 8 ?_;refine gX Later.pre 9 ?_;refine gX Later.pre 10 ?_;refine gX Later.pre 11 ?_;refine gX Later.pre 12 ?_;refine gX Later.pre 13 ?_;refine gX Later.pre 14 ?_;refine gX Later.pre 15 ?_;refine gX Later.pre 16 ?_;refine gX Later.pre 17 ?_;refine gX Later.pre 18 ?_;refine gX Later.pre 19 ?_
 refine gX Later.pre 20 ?_;refine gX Later.pre 21 ?_;refine tD ?_;clear kx ks ky kz;go_wp2_with fail;exact bodyPost_ret (v:= .tuple #[.pointer (some ⟨g,0,none⟩),.int .u16 (nnP:Int),.bool true]) (by simp[results,Tryz.results5,go_sem]) rfl ⟨BD.out,g,f3,hb,n3,rfl,HN.out,VD.out⟩
theorem zFl(base g:Nat)(s:Gf)(w:World)(h:GF base w g s)(hl:s.ex.length≤1000):Calls Tryz.prog 11 #[.pointer (some ⟨g,0,none⟩)] w fun e w'=>(∃a c,e= .returned (.slice a s.ex.length c))∧Later w w':=by
 have k0:=zAa h.gc;unfold gfc at k0;have HB:=zAd (zQu base s.gb s.ve s.ex w h.bl hl);go_enter Tryz.func11,Tryz.ntmps11;go_wp2_with fail;refine HB.out.mono ?_;rintro e w2 ⟨l2,u,rfl,hrow⟩;obtain⟨ua,uc,rfl⟩:=zBj hrow;go_wp2_with fail;go_ret
 exact⟨⟨_,_,rfl⟩,l2⟩
theorem exp_line {base g:Nat} {f:Fl} {hb p:Nat} {dl:Int} {ta:Option Addr} {tc:Nat} {now tr:Int} (w:World)(h:VL base g w f hb p dl ta tc now tr):Calls Tryz.prog 11 #[.pointer (some ⟨g,0,none⟩)] w fun e w'=>(∃a c,e= .returned (.slice a 1 c))∧Later w w':=by
 obtain⟨s,hG,hS,_⟩:=h.gf;have hx:s.ex=[xL p dl]:=hS.ex;have:=zFl base g s w hG (by rw[hx];simp);rw[hx]at this;exact this
theorem exp_none {base g:Nat} (w:World)(h:V9 base g w):Calls Tryz.prog 11 #[.pointer (some ⟨g,0,none⟩)] w fun e w'=>(∃a c,e= .returned (.slice a 0 c))∧Later w w':=by
 obtain⟨s,hG,hS⟩:=h;have:=zFl base g s w hG (by rw[hS.ex];simp);rw[hS.ex]at this;exact this
theorem zF0(x:Int)(h:0≤x∧x≤4294967295):IntKind.u32.wrap x=x:=by
 simp[IntKind.wrap,IntKind.bits,IntKind.signed]
 omega
theorem Rd.at {n n' b ln lc:Nat} {A B:World} {zs:List Int} {o:Obj} (h:Rd n A (.slice (some ⟨b,0,none⟩) ln lc) zs)(hA:A.heap[b]? =some o)(hB:B.heap[b]? =some o)(hn:b<n'):Rd n' B (.slice (some ⟨b,0,none⟩) ln lc) zs:=by
 rcases h with⟨a,c,e,h2,hc⟩|⟨bb,off,cp,e,hne,hl,hm,hb,hcell⟩
 ·cases e
  exact .inl ⟨_,_,rfl,h2,hc⟩
 ·cases e
  refine .inr ⟨b,0,_,rfl,hne,hl,hm,hn,fun j hj=> ?_⟩;have h1:=hcell j hj;unfold World.cell? at h1⊢;rw[hB];rw[hA]at h1;exact h1
theorem zR1(p:Nat)(hp:p≤65535)(W:World)(e:TypeId):∃n:Nat,(n:Int)=5+wL p+2∧Rd (Lib.bytesWorld W e (⟨#[80,79,82,84,32]⟩++zB0 1 167772162 p++⟨#[13,10]⟩)).heap.size (Lib.bytesWorld W e (⟨#[80,79,82,84,32]⟩++zB0 1 167772162 p++⟨#[13,10]⟩)) (.slice (some ⟨W.heap.size,0,none⟩) n (grownCap W n 0 e)) (zL p)∧n=(⟨#[80,79,82,84,32]⟩++zB0 1 167772162 p++⟨#[13,10]⟩:ByteArray).size∧∃cur m,(Lib.bytesWorld W e (⟨#[80,79,82,84,32]⟩++zB0 1 167772162 p++⟨#[13,10]⟩)).heap[W.heap.size]? =some (.cells cur e m):=by
 have hw:=zNu p hp
 have hs:((⟨#[80,79,82,84,32]⟩++zB0 1 167772162 p++⟨#[13,10]⟩:ByteArray).size:Int)=5+wL p+2:=by
  unfold wL;rw[ByteArray.size_append,ByteArray.size_append,zAz];show((5+(zB0 1 167772162 p).size+2:Nat):Int)=_
  omega
 have h:=zFz W e (⟨#[80,79,82,84,32]⟩++zB0 1 167772162 p++⟨#[13,10]⟩) (by omega);rw[show zBe (⟨#[80,79,82,84,32]⟩++zB0 1 167772162 p++⟨#[13,10]⟩)=zL p from by rw[zJx,zJx,List.append_assoc];rfl]at h;exact⟨_,hs,h,rfl,_,_,Lib.bytesWorld_at_new W e _⟩
end Go.Proofs.YteaeilghamjjkaaGreatDoor
