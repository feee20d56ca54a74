import Derived.Test.YteaeilghamjjkaaGreatDoorX10
namespace Go.Proofs.YteaeilghamjjkaaGreatDoor
set_option maxHeartbeats 8000000
open Go.RowKit Go.Shelf
set_option maxRecDepth 100000
set_option linter.unusedVariables false
set_option linter.unusedSimpArgs false
def BgF (base:Nat) (w w':World) (g:Nat) (s:Gf) (o:Tu) (mr:Ru) (TQ:TkP) (e:Ending):Prop:=∃(f:Fl) (hb:Nat) (n:Nat) (ps:List Pl) (pe:Array MapEntry) (cp:Nat),w.heap.size≤f.blk∧e= .returned (.pointer (some ⟨f.blk,0,none⟩))∧KG base w w'∧f.id=s.bg∧f.o=o∧f.r=⟨6,o.dst,mr.tt,o.dp,(n:Int)⟩∧f.side=0∧f.ms= -1∧f.hp=hft hb∧GF base w' g (bcS (opS (zUm s ps pe cp) f) f 1)∧TQ n ps pe cp∧n<65536∧(HvP w' f 6 mr.tt n∧HvB base f)∧HfN base w' hb
structure RdF (s:Gf) (x d:Int) (a:Nat) (b:Int) (mr:Ru) (TQ:TkP):Prop where
 ok:okL s.ls
 fd:s.ls.find? (mqB x)=some mr
 hx:0≤x∧x≤4294967295
 hd:0≤d∧d≤4294967295
 ha:a≤65535
 hb:0≤b∧b≤65535
 tt:0≤mr.tt∧mr.tt≤4294967295
 s1:b=21
 k1:kx 6 x d (a:Int) b s.rw=none
 k2:∀(n:Nat) ps pe cp,TQ n ps pe cp→kx 6 d mr.tt b (n:Int) s.rw=none
 fs:s.fs.length<64
 ne:¬(x=d∧d=mr.tt)
 tr:0≤s.trn∧s.trn≤900000
 nw:0≤s.now∧s.now≤549755813888
 bg:0≤s.bg∧s.bg≤1000000
 id:∀y∈s.fs,y.id≠s.bg
 cn:0≤s.cnt∧s.cnt≤1000
 ln:∀i,(s.rw i).length≤4000
theorem zJf(base g:Nat)(s:Gf)(tos id ttl pr src dst:Int)(keep:Bool)(so sd:Value)(side:Int)(x d:Int)(a:Nat)(b:Int)(mr:Ru)(TQ:TkP)(w:World)(h:GF base w g s)(hok:okL s.ls)(hmr:s.ls.find? (mqB x)=some mr)(hbs:base≤w.heap.size)(hx:0≤x∧x≤4294967295)(hd:0≤d∧d≤4294967295)(ha:a≤65535)(hb:0≤b∧b≤65535)(htt:0≤mr.tt∧mr.tt≤4294967295)
  (hTK:∀W,GF base W g s→KG base w W→Calls Tryz.prog 282 #[.pointer (some ⟨g,0,none⟩),.agg #[.int .u8 6,.int .u32 mr.tt],.int .u16 (a:Int)] W fun e w'=>TkQ base W w' g s 6 mr.tt TQ e)(hs1:b=21)
  (hk1:kx 6 x d (a:Int) b s.rw=none)(hk2:∀(n:Nat) ps pe cp,TQ n ps pe cp→kx 6 d mr.tt b (n:Int) s.rw=none)(hfs:s.fs.length<64)(hne:¬(x=d∧d=mr.tt))(htr:0≤s.trn∧s.trn≤900000)(hnw:0≤s.now∧s.now≤549755813888)(hbg:0≤s.bg∧s.bg≤1000000)(hid:∀y∈s.fs,y.id≠s.bg)(hcn:0≤s.cnt∧s.cnt≤1000)(hln:∀i,(s.rw i).length≤4000):
  Calls Tryz.prog 239 #[.agg #[.pointer (some ⟨g,0,none⟩),.int .u8 tos,.int .u16 id,.bool keep,.int .u8 ttl,.int .u8 pr,.int .u32 src,.int .u32 dst,so,sd,.int .i64 side],.agg #[.int .u8 6,.int .u32 x,.int .u32 d,.int .u16 (a:Int),.int .u16 b]] w fun e w'=>BgF base w w' g s ⟨6,x,d,(a:Int),b⟩ mr TQ e:=by
 obtain⟨l0,c0,c1⟩:=zBa w (.cells #[.pointer (some ⟨g,0,none⟩),.int .u8 tos,.int .u16 id,.bool keep,.int .u8 ttl,.int .u8 pr,.int .u32 src,.int .u32 dst,so,sd,.int .i64 side] 139) (.cells #[.int .u8 6,.int .u32 x,.int .u32 d,.int .u16 (a:Int),.int .u16 b] 103);have C0:=zAd c0;have C1:=zAd c1;have CG:=zAd (zAb l0 h.gc);have HG:=zAd (h.later l0);have HMQ:=zAd (fun W (l:Later w W)=>zUi base s.gr s.vr s.ls x W mr (h.rl.later l) hok hx hmr);have HTK:=zAd hTK;have HGL:=zAd (bl9 h.pl);have HS1:=zAd hs1;clear c0 c1 h hok hmr hTK hs1;go_enter Tryz.func239,Tryz.ntmps239;go_upto_region 1 with fail;generalize (w.alloc (.cells #[.pointer (some ⟨g,0,none⟩),.int .u8 tos,.int .u16 id,.bool keep,.int .u8 ttl,.int .u8 pr,.int .u32 src,.int .u32 dst,so,sd,.int .i64 side] 139)).alloc (.cells #[.int .u8 6,.int .u32 x,.int .u32 d,.int .u16 (a:Int),.int .u16 b] 103)=w1 at*;generalize hgx:w.heap.size=gx at C0 C1⊢;have LW0:Later w w1:=l0;go_cut [5,6] (fun v c wx=>MqC v w1.heap.size wx mr∧c= .bool true∧Hid (Later w1 wx))
 case first=>
  refine zEo ?_;refine zA5 (R1:=Later) (R2:=fun _ _=>True) (D:=[12]) 14 rfl (by kernel_rfl) ?_;have ld:Later w1 w1.drew:=Later.drew w1;generalize w1.drew=Wd at*;have LWd:Later w Wd:=LW0.trans ld;have q0:∀v1,Later Wd v1→∀j,v1.cell? ⟨gx,j,none⟩=#[.pointer (some ⟨g,0,none⟩),.int .u8 tos,.int .u16 id,.bool keep,.int .u8 ttl,.int .u8 pr,.int .u32 src,.int .u32 dst,so,sd,.int .i64 side][j]? :=fun v1 hv=>zAa (zAb (ld.trans hv) C0.out);have q1:∀v1,Later Wd v1→∀j,v1.cell? ⟨gx+1,j,none⟩=#[.int .u8 6,.int .u32 x,.int .u32 d,.int .u16 (a:Int),.int .u16 b][j]? :=fun v1 hv=>zAa (zAb (ld.trans hv) C1.out);have q2:∀v1,Later Wd v1→∀j,v1.cell? ⟨g,j,none⟩=(gfc s).toArray[j]? :=fun v1 hv=>zAa (zAb (ld.trans hv) CG.out);unfold gfc at q2;refine uX Later.pre 0 [1,2,3,4,7,8,9,10,12,13] ?_;refine uX Later.pre 1 [2,3,4,7,8,9,10,12,13] ?_;refine uX Later.pre 2 [3,4,7,8,9,10,12,13] ?_;refine uX Later.pre 3 [4,7,8,9,10,12,13] ?_;refine uX Later.pre 4 [7,8,9,10,12,13] ?_;refine uX Later.pre 5 [6,7,8,9,10,12,13] ?_;refine uX Later.pre 6 [7,8,9,10,12,13] ?_;clear q0 q1 q2;refine zI4 7 11 rfl rfl (by kernel_rfl) (by rfl) (by rfl) ?ca ?al
  case ca=>
   refine zAj 281 #[.pointer (some ⟨s.gr,0,none⟩),.int .u32 x] (by go_simp) ?_;refine(HMQ.out Wd LWd).mono ?_;rintro e W1 ⟨rfl,l1⟩;refine⟨zA3 (by rfl) l1,?_⟩;simp only[Act.put,sA,sB,sC];refine uX Later.pre 8 [9,10,12,13] ?_;refine uX Later.pre 9 [12,13] ?_;have HSZ:=(ld.trans l1).size;refine zB9 Later.refl (fun _=>trivial) 10 rfl (by kernel_rfl) (by kernel_rfl) (by kernel_rfl) (fun _ _ _ _ h=>by cases h.1) (by rfl) ⟨_,fun v=>by(go_simp;rfl),?_⟩;simp only[Act.put,sA,sB,sC];refine uO 11 ?_;have la:=zAg W1 (.cells #[.int .i64 0,.int .u8 0,.int .u32 0,.int .i64 0,.int .u32 0,.int .u16 0,.int .u32 0,.int .u16 0] 125);have HA0:=heap_alloc_new W1 (.cells #[.int .i64 0,.int .u8 0,.int .u32 0,.int .i64 0,.int .u32 0,.int .u16 0,.int .u32 0,.int .u16 0] 125);unfold Oper.wp;go_simp;refine⟨zA3 (by rfl) la,?_⟩;change zA8 _ _ _ _ _ _ _ _ _ _ (W1.alloc (.cells #[.int .i64 0,.int .u8 0,.int .u32 0,.int .i64 0,.int .u32 0,.int .u16 0,.int .u32 0,.int .u16 0] 125));have hgn:w1.heap.size≤W1.heap.size:=HSZ;generalize W1.alloc (.cells #[.int .i64 0,.int .u8 0,.int .u32 0,.int .i64 0,.int .u32 0,.int .u16 0,.int .u32 0,.int .u16 0] 125)=W5 at*;generalize W1.heap.size=gn at*;have HA:=HA0;have LL:=ld.trans (l1.trans la);refine uO 12 ?_;have kA:=zAa HA;have fA:=zAc HA;unfold Oper.wp;go_simp;refine⟨zDx (by rfl) trivial,?_⟩;clear kA fA;generalize hV:World.setCell _ ⟨gn,7,none⟩ _=V8
   have hV9:V8=zAi W5 gn 0 [.int .i64 mr.kind,.int .u8 mr.proto,.int .u32 mr.net,.int .i64 mr.bits,.int .u32 mr.tt,.int .u16 mr.port,.int .u32 mr.host,.int .u16 mr.hp]:=hV.symm;have hb8:But (fun b=>b=gn) W5 V8:=by rw[hV9];exact zAf (E:=fun b=>b=gn) (n:=gn) rfl _ _ _ _ (But.refl _ _)
   have p8:=zAe [.int .i64 mr.kind,.int .u8 mr.proto,.int .u32 mr.net,.int .i64 mr.bits,.int .u32 mr.tt,.int .u16 mr.port,.int .u32 mr.host,.int .u16 mr.hp] HA rfl;rw[←hV9]at p8;have PP:=zAd p8;clear hV hV9 p8;have BB:=zAd (Below.trans LL (hb8.below LL.size (fun k h e=>by omega)));refine uO 13 ?_;refine zC2 (w':=V8) (.bool true) (by go_simp) ?_;refine⟨zA3 (by rfl) (Later.refl _),?_⟩;simp only[Act.put,sA,sB,sC];refine uD ?_;refine⟨rfl,?_⟩;go_wp2_with fail;go_meet
   case rel=>exact⟨⟨gn,rfl,hgn,PP.out⟩,rfl,BB⟩
  case al=>
   have HSZ:=ld.size;have la:=zAg Wd (.cells #[.int .i64 0,.int .u8 0,.int .u32 0,.int .i64 0,.int .u32 0,.int .u16 0,.int .u32 0,.int .u16 0] 125);have HA0:=heap_alloc_new Wd (.cells #[.int .i64 0,.int .u8 0,.int .u32 0,.int .i64 0,.int .u32 0,.int .u16 0,.int .u32 0,.int .u16 0] 125);unfold Oper.wp;go_simp;refine⟨zA3 (by rfl) la,?_⟩;change zA8 _ _ _ _ _ _ _ _ _ _ (Wd.alloc (.cells #[.int .i64 0,.int .u8 0,.int .u32 0,.int .i64 0,.int .u32 0,.int .u16 0,.int .u32 0,.int .u16 0] 125));have hgn:w1.heap.size≤Wd.heap.size:=HSZ;generalize Wd.alloc (.cells #[.int .i64 0,.int .u8 0,.int .u32 0,.int .i64 0,.int .u32 0,.int .u16 0,.int .u32 0,.int .u16 0] 125)=W3 at*;generalize Wd.heap.size=gn at*;refine uO 7 ?_;refine zAj 281 #[.pointer (some ⟨s.gr,0,none⟩),.int .u32 x] (by go_simp) ?_;refine(HMQ.out W3 (LWd.trans la)).mono ?_;rintro e W5 ⟨rfl,l1⟩;refine⟨zA3 (by rfl) l1,?_⟩;simp only[Act.put,sA,sB,sC];refine uX Later.pre 8 [9,10,12,13] ?_;refine uX Later.pre 9 [12,13] ?_;have HA:=zAb l1 HA0;have LL:=ld.trans (la.trans l1);refine zB9 Later.refl (fun _=>trivial) 10 rfl (by kernel_rfl) (by kernel_rfl) (by kernel_rfl) (fun _ _ _ _ h=>by cases h.1) (by rfl) ⟨_,fun v=>by(go_simp;rfl),?_⟩;simp only[Act.put,sA,sB,sC];refine uO 12 ?_;have kA:=zAa HA;have fA:=zAc HA;unfold Oper.wp;go_simp;refine⟨zDx (by rfl) trivial,?_⟩;clear kA fA;generalize hV:World.setCell _ ⟨gn,7,none⟩ _=V8
   have hV9:V8=zAi W5 gn 0 [.int .i64 mr.kind,.int .u8 mr.proto,.int .u32 mr.net,.int .i64 mr.bits,.int .u32 mr.tt,.int .u16 mr.port,.int .u32 mr.host,.int .u16 mr.hp]:=hV.symm;have hb8:But (fun b=>b=gn) W5 V8:=by rw[hV9];exact zAf (E:=fun b=>b=gn) (n:=gn) rfl _ _ _ _ (But.refl _ _)
   have p8:=zAe [.int .i64 mr.kind,.int .u8 mr.proto,.int .u32 mr.net,.int .i64 mr.bits,.int .u32 mr.tt,.int .u16 mr.port,.int .u32 mr.host,.int .u16 mr.hp] HA rfl;rw[←hV9]at p8;have PP:=zAd p8;clear hV hV9 p8;have BB:=zAd (Below.trans LL (hb8.below LL.size (fun k h e=>by omega)));refine uO 13 ?_;refine zC2 (w':=V8) (.bool true) (by go_simp) ?_;refine⟨zA3 (by rfl) (Later.refl _),?_⟩;simp only[Act.put,sA,sB,sC];refine uD ?_;refine⟨rfl,?_⟩;go_wp2_with fail;go_meet
   case rel=>exact⟨⟨gn,rfl,hgn,PP.out⟩,rfl,BB⟩
 case rest=>
 obtain⟨⟨gn,rfl,hgn,hC⟩,rfl,hL⟩:=hcut;obtain⟨w2,hw2⟩:∃w2,w2=wc:=⟨_,rfl⟩;subst hw2;have H2:=zAd (HG.out.later hL.out);have K2:Hid (KG base w w2):=KG.of_later (LW0.trans hL.out);have D0:=zAd (zAb hL.out C0.out);have D1:=zAd (zAb hL.out C1.out);have D2:=zAd hC;have hgn2:gx+1<gn:=Nat.lt_of_lt_of_le (bl9 C1.out) hgn;have hb2:base≤w2.heap.size:=Nat.le_trans hbs K2.out.size;clear C0 C1 CG HG HMQ hL hC hgn LW0 l0;have k0:=zAa D0.out;have k1:=zAa D1.out;have k2:=zAa D2.out;go_wp2_with fail;refine(zA0 2 w2).mono ?_;rintro e w2' ⟨rfl,rfl⟩;go_wp2_with fail;refine(HTK.out w2 H2.out K2.out).mono ?_;rintro e w3 ⟨n,ps2,pe2,cp2,rfl,M3,h3',hn9,htq⟩;have hk2n:=hk2 n ps2 pe2 cp2 htq;have HN9:=zAd hn9;have HTQ0:=zAd htq
 have hnm:∀(b:Nat) (cur:Array Value) (t:TypeId) (f:Nat × Nat),t≠282→w2.heap[b]? =some (.cells cur t f)→w3.heap[b]? =some (.cells cur t f):=fun b cur t f ht hb=>(M3.block b (bl9 hb) (fun e=>by
  rcases e with e|⟨p,hp,e⟩
  ·have hh:=H2.out.pl
   rw[←e,hb]at hh;cases hh
  ·have hh:=(H2.out.pb p hp).2.2
   rw[e,hb]at hh;injection hh with hh
   injection hh with h1 h2 h3
   exact ht h2)).trans hb
 have K3:Hid (KG base w w3):=K2.out.trans (KG.of_but M3 (fun q e=>by
  rcases e with e|⟨p,hp,e⟩
  ·rw[e];exact⟨H2.out.bf.2,fun ob ho=>by have hp:=H2.out.pl;rw[hp]at ho;cases ho;exact trivial⟩
  ·have hh:=H2.out.pb p hp
   rw[←e];refine⟨hh.1,fun ob ho=> ?_⟩;rw[hh.2.2]at ho;cases ho
   show gTs.contains _=true
   decide))
 have E0:=zAd (hnm _ _ _ _ (by decide) D0.out);have E1:=zAd (hnm _ _ _ _ (by decide) D1.out);have E2:=zAd (hnm _ _ _ _ (by decide) D2.out);have H3:=zAd h3';clear htq;have HTQ:Hid (TQ n ps2 pe2 cp2):=HTQ0;clear k0 k1 k2 D0 D1 D2 HTK M3 hnm H2 K2 h3' hb2;have k0:=zAa E0.out;have k1:=zAa E1.out;have k2:=zAa E2.out;go_wp2_with fail;have la:=zAg w3 (.cells #[.int .u8 6,.int .u32 mr.tt,.int .u16 (n:Int)] 230);have ca:=heap_alloc_new w3 (.cells #[.int .u8 6,.int .u32 mr.tt,.int .u16 (n:Int)] 230);refine(zA0 4 _).mono ?_;rintro e w4 ⟨rfl,hw4⟩;rw[hw4]at la ca;clear hw4;have H4:=zAd (H3.out.later la);have K4:Hid (KG base w w4):=K3.out.trans (KG.of_later la);have F0:=zAd (zAb la E0.out);have F1:=zAd (zAb la E1.out);have F2:=zAd (zAb la E2.out);have F3:=zAd ca;generalize hg3:w3.heap.size=gm at*;clear k0 k1 k2 E0 E1 E2 la ca H3 K3;have k0:=zAa F0.out;have k1:=zAa F1.out;have k2:=zAa F2.out;have k3:=zAa F3.out;have la:=zAg w4 (.cells #[.int .u8 6,.int .u32 d,.int .u32 mr.tt,.int .u16 b,.int .u16 (n:Int)] 103);have ca:=heap_alloc_new w4 (.cells #[.int .u8 6,.int .u32 d,.int .u32 mr.tt,.int .u16 b,.int .u16 (n:Int)] 103);have LA:=zAd la;have CA:=zAd ca;clear la ca;go_upto_region 6 with fail;generalize hw5:w4.alloc _=w5 at*;clear hw5;generalize hg4:w4.heap.size=gr at*;have H5:=zAd (H4.out.later LA.out);have K5:Hid (KG base w w5):=K4.out.trans (KG.of_later LA.out)
 have G0:=zAd (zAb LA.out F0.out);have G1:=zAd (zAb LA.out F1.out);have G3:=zAd (zAb LA.out F3.out);have G4:=zAd CA.out;clear k0 k1 k2 k3 F0 F1 F2 F3 H4 K4 LA CA;have k0:=zAa G0.out;have k1:=zAa G1.out;have k3:=zAa G3.out;have k4:=zAa G4.out;go_wp2_with fail;refine(zGq base g _ 6 x d (a:Int) b 6 d mr.tt b (n:Int) w5 H5.out hk1 hk2n hx hd ⟨by omega,by omega⟩ hb hd htt hb ⟨by omega,by have:=HN9.out;omega⟩ hfs (fun e=>hne ⟨e.2.1,e.2.2.1⟩)).mono ?_;rintro e w6 ⟨rfl,l6⟩;have H6:=zAd (H5.out.later l6);have K6:Hid (KG base w w6):=K5.out.trans (KG.of_later l6);have J0:=zAd (zAb l6 G0.out);have J1:=zAd (zAb l6 G1.out);have J3:=zAd (zAb l6 G3.out);have J4:=zAd (zAb l6 G4.out);clear k0 k1 k3 k4 G0 G1 G3 G4 H5 K5 l6;have k0:=zAa J0.out;have k1:=zAa J1.out;have k3:=zAa J3.out;have k4:=zAa J4.out;have hbg':gx≤w6.heap.size:=by rw[←hgx];exact K6.out.size
 have la:=zAg w6 (.cells #[.int .u8 6,.int .u32 mr.tt,.int .u16 (n:Int)] 230);have HOP:=zAd (open_ftp base g _ ⟨6,x,d,(a:Int),b⟩ ⟨6,d,mr.tt,b,(n:Int)⟩ 0 0 0 0 (-1) (some ⟨w6.heap.size,0,none⟩) 1 1 (w6.alloc (.cells #[.int .u8 6,.int .u32 mr.tt,.int .u16 (n:Int)] 230)) (H6.out.later la) rfl HS1.out (Nat.le_trans hbs (Nat.le_trans K6.out.size la.size)) ⟨hx,hd,⟨by show(0:Int)≤(a:Int);omega,by show(a:Int)≤65535;omega⟩,hb⟩ ⟨hd,htt,hb,⟨by show(0:Int)≤(n:Int);omega,by have:=HN9.out;show(n:Int)≤65535;omega⟩⟩ htr hnw hbg hid hcn hln);have CNM:=zAd (heap_alloc_new w6 (.cells #[.int .u8 6,.int .u32 mr.tt,.int .u16 (n:Int)] 230));have K7:Hid (KG base w (w6.alloc (.cells #[.int .u8 6,.int .u32 mr.tt,.int .u16 (n:Int)] 230))):=K6.out.trans (KG.of_later la);clear la;go_wp2_with fail;refine HOP.out.mono ?_;rintro e w8 ⟨f,hb8,hfb,rfl,hk,e1,e2,e3,e4,e5,e6,e7,hG,hH8⟩;clear k0 k1 k3 k4;go_wp2_with fail;go_ret
 refine⟨f,hb8,n,ps2,pe2,cp2,?_,rfl,K7.out.trans hk,e1,e2,?_,e4,e5,e7,hG,HTQ.out,HN9.out,⟨⟨w6.heap.size,e6,hk.cells CNM.out (by decide)⟩,w6.heap.size,by first|omega|exact Nat.le_trans hbs K7.out.size,e6⟩,hH8⟩
 ·exact Nat.le_trans K7.out.size hfb
 ·rw[e3]
theorem begin_F(base g:Nat)(s:Gf)(tos id ttl src dst:Int)(keep:Bool)(so sd:Value)(zd:List Int)(x d:Int)(a:Nat)(b:Int)(mr:Ru)(TQ:TkP)(w:World)(h:GF base w g s)(hR:RdF s x d a b mr TQ)(hbs:base≤w.heap.size)(hTK:Tk6 base w g s a mr TQ)(hB:Mt.By zd)(hI:Rd w.heap.size w sd zd)(hl:zd.length≤70000)(hsr:0≤src∧src≤4294967295)(hds:0≤dst∧dst≤4294967295)(hpt:pte 6 src dst zd=0)(hfl:bgn (zd[13]?.getD 0)=true):
  Calls Tryz.prog 172 #[.agg #[.pointer (some ⟨g,0,none⟩),.int .u8 tos,.int .u16 id,.bool keep,.int .u8 ttl,.int .u8 6,.int .u32 src,.int .u32 dst,so,sd,.int .i64 0],.agg #[.int .u8 6,.int .u32 x,.int .u32 d,.int .u16 (a:Int),.int .u16 b]] w fun e w'=>BgF base w w' g s ⟨6,x,d,(a:Int),b⟩ mr TQ e:=by
 obtain⟨l0,c0,c1⟩:=zBa w (.cells #[.pointer (some ⟨g,0,none⟩),.int .u8 tos,.int .u16 id,.bool keep,.int .u8 ttl,.int .u8 6,.int .u32 src,.int .u32 dst,so,sd,.int .i64 0] 139) (.cells #[.int .u8 6,.int .u32 x,.int .u32 d,.int .u16 (a:Int),.int .u16 b] 103);have C0:=zAd c0;have C1:=zAd c1;have HB:=zAd (fun W (l:Later w W)=>zJf base g s tos id ttl 6 src dst keep so sd 0 x d a b mr TQ W (h.later l) hR.ok hR.fd (Nat.le_trans hbs l.size) hR.hx hR.hd hR.ha hR.hb hR.tt (hTK.kg (KG.of_later l)) hR.s1 hR.k1 hR.k2 hR.fs hR.ne hR.tr hR.nw hR.bg hR.id hR.cn hR.ln);have HFG:=zAd (zJb g tos id ttl src dst keep so sd 0 zd _ hB (hI.later l0) hl hsr hds hpt);have HFL:=zAd hfl;clear c0 c1 h hR hTK hfl hB hI hpt;generalize zd[13]?.getD 0=fl9 at*;go_enter Tryz.func172,Tryz.ntmps172;go_upto_region 1 with fail;generalize (w.alloc (.cells #[.pointer (some ⟨g,0,none⟩),.int .u8 tos,.int .u16 id,.bool keep,.int .u8 ttl,.int .u8 6,.int .u32 src,.int .u32 dst,so,sd,.int .i64 0] 139)).alloc (.cells #[.int .u8 6,.int .u32 x,.int .u32 d,.int .u16 (a:Int),.int .u16 b] 103)=w1 at*;generalize hgx:w.heap.size=gx at C0 C1⊢;have k0:=zAa C0.out;have k1:=zAa C1.out;go_wp2_with fail;refine HFG.out.mono ?_;rintro e w2 ⟨rfl,l2⟩;clear k0 k1 HFG;have k0:=zAa (zAb l2 C0.out);have k1:=zAa (zAb l2 C1.out);go_wp2_with fail;refine(zE9 _ _).mono ?_;rintro e w3 ⟨rfl,hw3⟩;subst hw3;rw[HFL.out];go_wp2_with fail;refine(zA0 5 _).mono ?_
 rintro e w4 ⟨rfl,hw4⟩;subst hw4;go_wp2_with fail;refine(zA0 5 _).mono ?_;rintro e w4 ⟨rfl,hw4⟩;subst hw4;go_wp2_with fail;refine(zA0 3 _).mono ?_;rintro e w4 ⟨rfl,hw4⟩;subst hw4;go_wp2_with fail;refine(HB.out _ (l0.trans l2)).mono ?_;rintro e w5 hq;obtain⟨f,hb5,n,ps2,pe2,cp2,q1,rfl,q3,q⟩:=hq;clear k0 k1;go_wp2_with fail;go_ret
 exact⟨f,hb5,n,ps2,pe2,cp2,Nat.le_trans (l0.trans l2).size q1,rfl,(KG.of_later (l0.trans l2)).trans q3,q⟩
def OwF (base:Nat) (w w':World) (g:Nat) (s:Gf) (o:Tu) (mr:Ru) (TQ:TkP) (e:Ending):Prop:=∃(f:Fl) (hb:Nat) (n:Nat) (ps:List Pl) (pe:Array MapEntry) (cp:Nat),w.heap.size≤f.blk∧e= .returned (.tuple #[.pointer (some ⟨f.blk,0,none⟩),.bool false])∧KG base w w'∧f.id=s.bg∧f.o=o∧f.r=⟨6,o.dst,mr.tt,o.dp,(n:Int)⟩∧f.side=0∧f.ms= -1∧f.hp=hft hb∧GF base w' g (bcS (opS (zUm s ps pe cp) f) f 1)∧TQ n ps pe cp∧n<65536∧(HvP w' f 6 mr.tt n∧HvB base f)∧HfN base w' hb
theorem owner_F(base g:Nat)(s:Gf)(tos id ttl src dst:Int)(keep:Bool)(so sd:Value)(zd:List Int)(x d:Int)(a:Nat)(b:Int)(mr:Ru)(TQ:TkP)(w:World)(h:GF base w g s)(hR:RdF s x d a b mr TQ)(hbs:base≤w.heap.size)(hTK:Tk6 base w g s a mr TQ)(hB:Mt.By zd)(hI:Rd w.heap.size w sd zd)(hl:zd.length≤70000)(hsr:0≤src∧src≤4294967295)(hds:0≤dst∧dst≤4294967295)(hpt:pte 6 src dst zd=0)(hfl:bgn (zd[13]?.getD 0)=true):
  Calls Tryz.prog 114 #[.agg #[.pointer (some ⟨g,0,none⟩),.int .u8 tos,.int .u16 id,.bool keep,.int .u8 ttl,.int .u8 6,.int .u32 src,.int .u32 dst,so,sd,.int .i64 0],.agg #[.int .u8 6,.int .u32 x,.int .u32 d,.int .u16 (a:Int),.int .u16 b]] w fun e w'=>OwF base w w' g s ⟨6,x,d,(a:Int),b⟩ mr TQ e:=by
 obtain⟨l0,c0,c1⟩:=zBa w (.cells #[.pointer (some ⟨g,0,none⟩),.int .u8 tos,.int .u16 id,.bool keep,.int .u8 ttl,.int .u8 6,.int .u32 src,.int .u32 dst,so,sd,.int .i64 0] 139) (.cells #[.int .u8 6,.int .u32 x,.int .u32 d,.int .u16 (a:Int),.int .u16 b] 103);have C0:=zAd c0;have C1:=zAd c1;have HL:=zAd (zCm base g s 6 x d (a:Int) b _ (h.later l0) hR.k1 hR.hx hR.hd ⟨by omega,by have:=hR.ha;omega⟩ hR.hb);have HB:=zAd (fun W (l:Later w W)=>begin_F base g s tos id ttl src dst keep so sd zd x d a b mr TQ W (h.later l) hR (Nat.le_trans hbs l.size) (hTK.kg (KG.of_later l)) hB (hI.later l) hl hsr hds hpt hfl);clear c0 c1 h hR hTK;go_enter Tryz.func114,Tryz.ntmps114;go_upto_region 1 with fail;generalize (w.alloc (.cells #[.pointer (some ⟨g,0,none⟩),.int .u8 tos,.int .u16 id,.bool keep,.int .u8 ttl,.int .u8 6,.int .u32 src,.int .u32 dst,so,sd,.int .i64 0] 139)).alloc (.cells #[.int .u8 6,.int .u32 x,.int .u32 d,.int .u16 (a:Int),.int .u16 b] 103)=w1 at*;generalize hgx:w.heap.size=gx at C0 C1⊢;have k0:=zAa C0.out;have k1:=zAa C1.out;go_wp2_with fail;refine HL.out.mono ?_;rintro e w2 ⟨rfl,l2⟩;clear k0 k1 HL;have L2:Later w w2:=l0.trans l2;have k0:=zAa (zAb l2 C0.out);have k1:=zAa (zAb l2 C1.out);have HB2:=zAd (HB.out w2 L2);clear HB;go_wp2_with fail;refine HB2.out.mono ?_;rintro e w3 hq;obtain⟨f,hb5,n,ps2,pe2,cp2,q1,rfl,q3,q⟩:=hq;clear k0 k1;go_wp2_with fail
 exact bodyPost_ret (v:= .tuple #[.pointer (some ⟨f.blk,0,none⟩),.bool false]) (by simp[results,Tryz.results114,go_sem]) rfl ⟨f,hb5,n,ps2,pe2,cp2,Nat.le_trans L2.size q1,rfl,(KG.of_later L2).trans q3,q⟩
theorem zJg(hb k:Nat)(W:World):Sem.run Tryz.prog (Go.method (k+1) 457 (.pointer (some ⟨hb,0,none⟩)) "lychgate/gate.change") W= .ok (356,.pointer (some ⟨hb,0,none⟩)) W:=by kernel_rfl
theorem zUz(tH:TypeId)(HV:Nat→Value)(fn:Nat)(hmt:∀hb k W,Sem.run Tryz.prog (Go.method (k+1) tH (HV hb) "lychgate/gate.change") W= .ok (fn,HV hb) W)(heg:∀args w,(callFunc fn args).run Tryz.prog w= .ok (.enter fn args) w)(base g:Nat)(bk:Bool)(q:Tu)(tos id ttl src dst:Int)(keep:Bool)(so sd:Value)(side:Int)(zo zd:List Int)(a b:Int)(OQ:Nat→Fl→Nat→World→Prop)(CQ:List Int→World→Prop)(n0:Nat)(w:World)(he:ofe 6 src dst zd=0)(hea:ofa 6 zd=a)(heb:ofb 6 zd=b)(hfl:flt zo.length zd.length=0)(hBo:Mt.By zo)(hBd:Mt.By zd)(hOo:Ow n0 w so zo)(hOd:Ow n0 w sd zd)(hlo:zo.length≤60000)(hld:zd.length≤70000)(ht:0≤tos∧tos≤255)(hid:0≤id∧id≤65535)(htl:0≤ttl∧ttl≤255)(hsr:0≤src∧src≤4294967295)(hds:0≤dst∧dst≤4294967295)(hqb:TuB q)(hqp:q.pr=6)(hz:∀W,KG base w W→Tb W)
  (hOW:∀W,Later w W→Calls Tryz.prog 114 #[.agg #[.pointer (some ⟨g,0,none⟩),.int .u8 tos,.int .u16 id,.bool keep,.int .u8 ttl,.int .u8 6,.int .u32 src,.int .u32 dst,so,sd,.int .i64 side],.agg #[.int .u8 6,.int .u32 src,.int .u32 dst,.int .u16 a,.int .u16 b]] W fun e w'=>∃(f:Fl) (hb:Nat),e= .returned (.tuple #[.pointer (some ⟨f.blk,0,none⟩),.bool bk])∧KG base W w'∧OQ f.blk f hb w')
  (hOF:∀fb f hb W,OQ fb f hb W→f.blk=fb∧W.heap[fb]? =some (.cells (flc f).toArray 111 (0,0))∧oth f bk=q∧f.hp= .iface tH (HV hb))
  (hOL:∀fb f hb A B,OQ fb f hb A→Later A B→OQ fb f hb B)
  (hCH:∀fb f hb W ao co ad cd,KG base w W→OQ fb f hb W→Ow w.heap.size W (.slice ao zo.length co) zo→Ow w.heap.size W (.slice ad zd.length cd) (rwD 6 q.dst q.src q.dp q.sp zd)→Calls Tryz.prog fn #[HV hb,.agg #[.pointer (some ⟨g,0,none⟩),.int .u8 tos,.int .u16 id,.bool keep,.int .u8 ttl,.int .u8 6,.int .u32 src,.int .u32 dst,so,sd,.int .i64 side,.pointer (some ⟨fb,0,none⟩),.bool bk,.int .u8 6,.int .u32 src,.int .u32 dst,.int .u16 a,.int .u16 b,.int .u8 6,.int .u32 q.dst,.int .u32 q.src,.int .u16 q.dp,.int .u16 q.sp],.agg #[.int .u8 tos,.int .u16 id,.bool keep,.int .u8 ttl,.int .u8 6,.int .u32 q.dst,.int .u32 q.src,.slice ao zo.length co,.slice ad zd.length cd]] W fun e w'=>ChT base w.heap.size W w' tos id ttl 6 q keep zo CQ e)
  (hCS:CqS CQ):
  Calls Tryz.prog 55 #[.agg #[.pointer (some ⟨g,0,none⟩),.int .u8 tos,.int .u16 id,.bool keep,.int .u8 ttl,.int .u8 6,.int .u32 src,.int .u32 dst,so,sd,.int .i64 side]] w fun e w'=>ChT base w.heap.size w w' tos id ttl 6 q keep zo CQ e:=by
 obtain⟨l0,c0,c1⟩:=zBa w (.cells #[.pointer (some ⟨g,0,none⟩),.int .u8 tos,.int .u16 id,.bool keep,.int .u8 ttl,.int .u8 6,.int .u32 src,.int .u32 dst,so,sd,.int .i64 side] 139) (.cells #[.int .u8 0,.int .u16 0,.bool false,.int .u8 0,.int .u8 0,.int .u32 0,.int .u32 0,.slice none 0 0,.slice none 0 0] 40);have C0:=zAd c0;have C1:=zAd c1;clear c0 c1;have HQ:=zAd (fun W (l:Later w W)=>zTp tos id ttl 6 src dst keep so sd zd W (hz W (KG.of_later l)) hBd ((hOd.kg (KG.of_later (base:=base) l)).rd) (by omega) hsr hds);rw[he,hea,heb]at HQ;have hv:otv 0 6 src dst a b= .agg #[.int .u8 6,.int .u32 src,.int .u32 dst,.int .u16 a,.int .u16 b]:=by unfold otv;rw[if_pos rfl]
 rw[hv]at HQ;have HOW:=zAd hOW;have HRW:=zAd (fun W (k:KG base w W)=>zM2 tos id ttl 6 src dst keep so sd zo zd 6 q.dst q.src q.dp q.sp W (hz W k) hBo hBd ((hOo.kg k).rd) ((hOd.kg k).rd) (by omega) (by omega) ht hid htl (by decide) hsr hds hqb.2.1 hqb.1 hqb.2.2.2 hqb.2.2.1);have HQP:=zAd hqp;have HOF:=zAd hOF;have HOL:=zAd hOL;have HCH:=zAd hCH;have HCS:=zAd hCS;have hrw:rwe 6 6 src dst zo.length zd=0:=by unfold rwe;simp[he,hfl]
 rw[hrw]at HRW;obtain⟨sox,soc,rfl,_,_⟩:=hOo.slice;obtain⟨sdx,sdc,rfl,_,_⟩:=hOd.slice;clear hv he hea heb hfl hBo hBd hOo hOd hz hrw hOW hOF hOL hCH hCS hqp hqb;go_enter Tryz.func55,Tryz.ntmps55;go_upto_region 1 with fail;generalize (w.alloc (.cells _ 139)).alloc (.cells _ 40)=w1 at*;generalize hgx:w.heap.size=gx at C0 C1⊢;have k0:=zAa C0.out;go_wp2_with fail;refine(HQ.out w1 l0).mono ?_;rintro e w2 ⟨l2,rfl⟩;have l2':Later w1 w2:=l2;clear k0 HQ l2;go_upto_region 2 with fail;have la:=zAg w2 (.cells #[.int .u8 6,.int .u32 src,.int .u32 dst,.int .u16 a,.int .u16 b] 103);have C3:=zAd (heap_alloc_new w2 (.cells #[.int .u8 6,.int .u32 src,.int .u32 dst,.int .u16 a,.int .u16 b] 103));have D0:=zAd (zAb (l2'.trans la) C0.out);have D1:=zAd (zAb (l2'.trans la) C1.out);have L3:Later w (w2.alloc (.cells #[.int .u8 6,.int .u32 src,.int .u32 dst,.int .u16 a,.int .u16 b] 103)):=l0.trans (l2'.trans la);change Code.wp _ _ _ _ (w2.alloc (.cells #[.int .u8 6,.int .u32 src,.int .u32 dst,.int .u16 a,.int .u16 b] 103));generalize w2.alloc (.cells #[.int .u8 6,.int .u32 src,.int .u32 dst,.int .u16 a,.int .u16 b] 103)=w3 at*;generalize hg3:w2.heap.size=g3 at*;have hg3x:gx+1<g3:=by rw[←hg3];exact Nat.lt_of_lt_of_le (bl9 C1.out) l2'.size
 clear C0 C1 l2' la hg3;have k0:=zAa D0.out;have k3:=zAa C3.out;go_wp2_with fail;refine(zA0 1 _).mono ?_;rintro e w4 ⟨rfl,hw4⟩;subst hw4;go_wp2_with fail;refine(HOW.out w3 L3).mono ?_;rintro e w4 ⟨f,hb,rfl,kg4,hOQ⟩;clear k0 k3 HOW;have K4:Hid (KG base w w4):=(KG.of_later L3).trans kg4;have E0:=zAd (kg4.cells D0.out (by decide));have E1:=zAd (kg4.cells D1.out (by decide));have E3:=zAd (kg4.cells C3.out (by decide));obtain⟨_,hF,hfq,hhp⟩:=HOF.out _ _ _ _ hOQ;have HOQ:=zAd hOQ;have HHP:=zAd hhp;have HOT:=zAd (zRf f bk w4 hF);rw[hfq,HQP.out]at HOT;have HFF:=zAd hF;clear hF hfq kg4 hOQ hhp;go_wp2_with fail;refine HOT.out.mono ?_;rintro e w5 ⟨rfl,l5⟩;go_wp2_with fail;refine(zMe 6 q.src q.dst q.sp q.dp w5).mono ?_;rintro e w6 ⟨rfl,l6⟩;have l6':Later w5 w6:=l6;clear l6 HOT;have la:=zAg w6 (.cells #[.int .u8 6,.int .u32 q.dst,.int .u32 q.src,.int .u16 q.dp,.int .u16 q.sp] 103);have CI:=zAd (heap_alloc_new w6 (.cells #[.int .u8 6,.int .u32 q.dst,.int .u32 q.src,.int .u16 q.dp,.int .u16 q.sp] 103));have LA:=zAd la;clear la;go_upto_region 7 with fail;generalize w6.alloc _=w7 at*;generalize hg7:w6.heap.size=g7 at*;have L47:Later w4 w7:=l5.trans (l6'.trans LA.out)
 have hg7x:g3<g7:=by
  have q1:=(bl9 E3.out);have q2:=l5.size;have q3:=l6'.size;omega
 have J0:=zAd (zAb L47 E0.out);have J1:=zAd (zAb L47 E1.out);have J3:=zAd (zAb L47 E3.out);have JF:=zAd (zAb L47 HFF.out);have K7:Hid (KG base w w7):=K4.out.trans (KG.of_later L47);have Q7:=zAd (HOL.out _ _ _ _ _ HOQ.out L47);clear E0 E1 E3 HFF K4 HOQ l5 l6' LA hg7 L47;have k0:=zAa J0.out;have kI:=zAa CI.out;go_wp2_with fail;refine(HRW.out w7 K7.out).mono ?_;rintro e w8 ⟨l8,⟨h0,_⟩|⟨_,ao,co,ad,cd,rfl,ho8,hd8⟩⟩
 ·exact absurd rfl h0
 have l8':Later w7 w8:=l8;clear k0 kI l8 HRW;have la:=zAg w8 (.cells #[.int .u8 tos,.int .u16 id,.bool keep,.int .u8 ttl,.int .u8 6,.int .u32 q.dst,.int .u32 q.src,.slice ao zo.length co,.slice ad zd.length cd] 40);have CP:=zAd (heap_alloc_new w8 (.cells #[.int .u8 tos,.int .u16 id,.bool keep,.int .u8 ttl,.int .u8 6,.int .u32 q.dst,.int .u32 q.src,.slice ao zo.length co,.slice ad zd.length cd] 40));have LA:=zAd la;have hs78:w7.heap.size≤w8.heap.size:=l8'.size;clear la;go_upto_region 8 with fail;generalize w8.alloc _=w9 at*;generalize hg9:w8.heap.size=g9 at*;have L79:Later w7 w9:=l8'.trans LA.out
 have hg9x:g7<g9:=by
  have q1:=(bl9 CI.out);omega
 have N0:=zAd (zAb L79 J0.out);have N1:=zAd (zAb L79 J1.out);have N3:=zAd (zAb L79 J3.out);have NF:=zAd (zAb L79 JF.out);have NI:=zAd (zAb L79 CI.out);have K9:Hid (KG base w w9):=K7.out.trans (KG.of_later L79);have Q9':=zAd (HOL.out _ _ _ _ _ Q7.out L79);have O9:=zAd ((ho8.mono K7.out.size).kg (KG.of_later (base:=base) LA.out));have Q9:=zAd ((hd8.mono K7.out.size).kg (KG.of_later (base:=base) LA.out));clear J0 J1 J3 JF CI K7 Q7 l8' LA hg9 L79 ho8 hd8 hs78;refine zEo ?_;refine zA5 (R1:=Later) (R2:=fun _ _=>True) (D:=[11,12]) 13 rfl (by kernel_rfl) ?_;have ld:Later w9 w9.drew:=Later.drew w9;generalize w9.drew=wd at*;have k0:∀v,Later wd v→∀j,v.cell? ⟨gx,j,none⟩=_:=fun v hv=>zAa (zAb (ld.trans hv) N0.out);have k3:∀v,Later wd v→∀j,v.cell? ⟨g3,j,none⟩=_:=fun v hv=>zAa (zAb (ld.trans hv) N3.out);have k7:∀v,Later wd v→∀j,v.cell? ⟨g7,j,none⟩=_:=fun v hv=>zAa (zAb (ld.trans hv) NI.out);have k9:∀v,Later wd v→∀j,v.cell? ⟨g9,j,none⟩=_:=fun v hv=>zAa (zAb (ld.trans hv) CP.out);have kF:∀v,Later wd v→∀j,v.cell? ⟨f.blk,j,none⟩=(flc f).toArray[j]? :=fun v hv=>zAa (zAb (ld.trans hv) NF.out);unfold flc at kF;rw[HHP.out]at kF;refine uX Later.pre 0 [1,2,3,11,12] ?_;refine uX Later.pre 1 [2,3,11,12] ?_;refine uX Later.pre 2 [3,11,12] ?_;refine uX Later.pre 3 [11,12] ?_;refine uX Later.pre 4 [9,11,12] ?_;refine uX Later.pre 5 [9,11,12] ?_;refine uX Later.pre 6 [9,11,12] ?_
 refine uX Later.pre 7 [9,11,12] ?_;refine uX Later.pre 8 [9,11,12] ?_;refine uX Later.pre 9 [11,12] ?_;refine uX Later.pre 10 [11,12] ?_;clear k0 k3 k7 k9 kF;refine uO 11 ?_;refine zAj fn #[HV hb,.agg #[.pointer (some ⟨g,0,none⟩),.int .u8 tos,.int .u16 id,.bool keep,.int .u8 ttl,.int .u8 6,.int .u32 src,.int .u32 dst,.slice sox zo.length soc,.slice sdx zd.length sdc,.int .i64 side,.pointer (some ⟨f.blk,0,none⟩),.bool bk,.int .u8 6,.int .u32 src,.int .u32 dst,.int .u16 a,.int .u16 b,.int .u8 6,.int .u32 q.dst,.int .u32 q.src,.int .u16 q.dp,.int .u16 q.sp],.agg #[.int .u8 tos,.int .u16 id,.bool keep,.int .u8 ttl,.int .u8 6,.int .u32 q.dst,.int .u32 q.src,.slice ao zo.length co,.slice ad zd.length cd]] (by have hmt2:=hmt hb;go_simp) ?_;refine(HCH.out f.blk f hb wd ao co ad cd (K9.out.trans (KG.of_later ld)) (HOL.out _ _ _ _ _ Q9'.out ld) (O9.out.kg (KG.of_later (base:=base) ld)) (Q9.out.kg (KG.of_later (base:=base) ld))).mono ?_;rintro e w10 ⟨zd2,ao2,co2,ad2,cd2,rfl,k10,ho10,hd10,hC10⟩;refine⟨zDx (by rfl) trivial,?_⟩;simp only[Act.put,sA,sB,sC];have N1d:=zAd (k10.cells (zAb ld N1.out) (by decide));have kk:=zAa N1d.out;have ff:=zAc N1d.out;refine uO 12 ?_;unfold Oper.wp;go_simp;refine⟨zDx (by rfl) trivial,?_⟩;generalize hV:World.setCell _ ⟨_,8,none⟩ _=V8;have hV9:V8=zAi w10 (gx+1) 0 [.int .u8 tos,.int .u16 id,.bool keep,.int .u8 ttl,.int .u8 6,.int .u32 q.dst,.int .u32 q.src,.slice ao2 zo.length co2,.slice ad2 zd2.length cd2]:=hV.symm
 have hb8:But (fun b=>b=gx+1) w10 V8:=by rw[hV9];exact zAf (E:=fun b=>b=gx+1) (n:=gx+1) rfl _ _ _ _ (But.refl _ _)
 have p8:=zAe [.int .u8 tos,.int .u16 id,.bool keep,.int .u8 ttl,.int .u8 6,.int .u32 q.dst,.int .u32 q.src,.slice ao2 zo.length co2,.slice ad2 zd2.length cd2] N1d.out rfl;rw[←hV9]at p8;clear hV hV9 kk ff;have HB8:=zAd hb8;have HP8:=zAd p8;clear hb8 p8;refine uD ?_;refine⟨rfl,?_⟩;have K10:Kgl base w w10:=(Kgl.of_kg (K9.out.trans (KG.of_later ld))).trans k10;have k8:Kgl base w V8:=K10.own HB8.out (by omega);have o8:=ho10.aside N1d.out (by decide) HB8.out;have q8:=hd10.aside N1d.out (by decide) HB8.out;have c8:=HCS.out _ _ _ _ _ _ _ hC10 N1d.out (.inl rfl) HB8.out;have P8:=zAa HP8.out;go_wp2_with fail;exact bodyPost_ret (v:= .agg #[.int .u8 tos,.int .u16 id,.bool keep,.int .u8 ttl,.int .u8 6,.int .u32 q.dst,.int .u32 q.src,.slice ao2 zo.length co2,.slice ad2 zd2.length cd2]) (by simp[results,Tryz.results55,go_sem,P8]) rfl ⟨zd2,ao2,co2,ad2,cd2,rfl,k8,o8,q8,c8⟩
theorem HvP.asideF {A B:World} {f:Fl} {pr ad:Int} {n mb:Nat} {cur:Array Value} {t:TypeId} {fz:Nat × Nat} (h:HvP A f pr ad n)(hm:A.heap[mb]? =some (.cells cur t fz))(ht:t≠230)(hb:But (fun q=>q=mb) A B):HvP B f pr ad n:=by
 obtain⟨b,e,hh⟩:=h;refine⟨b,e,(hb.block b (bl9 hh) (fun q=> ?_)).trans hh⟩;have q':b=mb:=q;rw[q',hm]at hh;exact ht (Obj.cells.inj (Option.some.inj hh)).2.1
structure V1 (base g:Nat) (W:World) (f:Fl) (hb nn:Nat) (st:Int) (ws:Nat→Nat) (now tr:Int):Prop where
 gf:∃s,GF base W g s∧S1 s f nn st ws∧s.now=now∧s.trn=tr
 hp:f.hp=hpt hb
 hn:HpN W hb
 hv:HvP W f 6 16909060 nn
 vb:HvB base f
 nb:base≤hb
theorem zCd {A B:World} {hb mb:Nat} {cur cur2:Array Value} {t t2:TypeId} {fz fz2:Nat × Nat} (h:A.heap[hb]? =some (.cells cur2 t2 fz2))(hm:A.heap[mb]? =some (.cells cur t fz))(ht:t≠t2)(hB:But (fun q=>q=mb) A B):B.heap[hb]? =some (.cells cur2 t2 fz2):=by
 refine(hB.block hb (bl9 h) (fun q=> ?_)).trans h;have q':hb=mb:=q;rw[q',hm]at h;exact ht (Obj.cells.inj (Option.some.inj h)).2.1
def HfS (base:Nat) (W:World) (hb:Nat) (l0 l1:List Pa) (tx:List Int):Prop:=∃b0 b1 v0 v1,base≤hb∧HfC W hb b0 b1∧SL 479 base W b0 v0 l0∧SL 479 base W b1 v1 l1∧∀p∈l0,Ow base W (.slice p.ta p.tn p.tc) tx
theorem HfN.toS {base:Nat} {W:World} {hb:Nat} {tx:List Int} (h:HfN base W hb):HfS base W hb [] [] tx:=by
 obtain⟨b0,b1,⟨h1,h2,h3,_⟩,h4,h5,h6⟩:=h;exact⟨b0,b1,_,_,h1,h4,⟨h2,h5,rfl,.inl ⟨rfl,rfl⟩⟩,⟨h3,h6,rfl,.inl ⟨rfl,rfl⟩⟩,by simp⟩
theorem HfS.later {base:Nat} {A B:World} {hb:Nat} {l0 l1:List Pa} {tx:List Int} (h:HfS base A hb l0 l1 tx)(l:Later A B):HfS base B hb l0 l1 tx:=by
 obtain⟨b0,b1,v0,v1,h1,h2,h3,h4,h5⟩:=h;exact⟨b0,b1,v0,v1,h1,zAb l h2,h3.later l,h4.later l,fun p hp=>(h5 p hp).later l⟩
theorem SL.kgF {t:TypeId} {base:Nat} {A B:World} {b:Nat} {v:Value} {l:List Pa} (h:SL t base A b v l)(k:KG base A B)(ht:gTs.contains t=false):SL t base B b v l:=by
 obtain⟨h1,h2,h3,h4|⟨b,cap,cur',e',hb',hh,r⟩⟩:=h
 ·exact ⟨h1,k.cells h2 ht,h3,.inl h4⟩
 ·exact ⟨h1,k.cells h2 ht,h3,.inr ⟨b,cap,cur',e',hb',k.cells hh (by decide),r⟩⟩
theorem HfS.kg {base:Nat} {A B:World} {hb:Nat} {l0 l1:List Pa} {tx:List Int} (h:HfS base A hb l0 l1 tx)(k:KG base A B):HfS base B hb l0 l1 tx:=by
 obtain⟨b0,b1,v0,v1,h1,h2,h3,h4,h5⟩:=h;exact⟨b0,b1,v0,v1,h1,k.cells h2 (by decide),h3.kgF k (by decide),h4.kgF k (by decide),fun p hp=>(h5 p hp).kg k⟩
def AsT (t:TypeId):Prop:=t=40∨t=36∨t=32
theorem SL.asideF {base:Nat} {A B:World} {b mb:Nat} {v:Value} {l:List Pa} {cur:Array Value} {t:TypeId} {fz:Nat × Nat} (h:SL 479 base A b v l)(hm:A.heap[mb]? =some (.cells cur t fz))(ht:AsT t)(hB:But (fun q=>q=mb) A B):SL 479 base B b v l:=
 ⟨h.1,zCd h.2.1 hm (by rcases ht with rfl|rfl|rfl<;>decide) hB,zPi h.2.2 hB hm (by rcases ht with rfl|rfl|rfl<;>decide)⟩
theorem HfS.asideF {base:Nat} {A B:World} {hb mb:Nat} {l0 l1:List Pa} {tx:List Int} {cur:Array Value} {t:TypeId} {fz:Nat × Nat} (h:HfS base A hb l0 l1 tx)(hm:A.heap[mb]? =some (.cells cur t fz))(ht:AsT t)(hB:But (fun q=>q=mb) A B):HfS base B hb l0 l1 tx:=by
 obtain⟨b0,b1,v0,v1,h1,h2,h3,h4,h5⟩:=h;exact⟨b0,b1,v0,v1,h1,zCd h2 hm (by rcases ht with rfl|rfl|rfl<;>decide) hB,h3.asideF hm ht hB,h4.asideF hm ht hB,fun p hp=>(h5 p hp).asideF hm (by rcases ht with rfl|rfl|rfl<;>decide) hB⟩
structure VF (base g:Nat) (W:World) (f:Fl) (hb nn:Nat) (st:Int) (ws:Nat→Nat) (ex:List Ex) (l0 l1:List Pa) (tx:List Int) (now tr:Int):Prop where
 gf:∃s,GF base W g s∧F1 s f nn st ws ex∧s.now=now∧s.trn=tr
 hp:f.hp=hft hb
 hn:HfS base W hb l0 l1 tx
 hv:HvP W f 6 16909060 nn
 vb:HvB base f
theorem VF.later {base g:Nat} {A B:World} {f:Fl} {hb nn:Nat} {st:Int} {ws:Nat→Nat} {ex:List Ex} {l0 l1:List Pa} {tx:List Int} {now tr:Int} (h:VF base g A f hb nn st ws ex l0 l1 tx now tr)(l:Later A B):VF base g B f hb nn st ws ex l0 l1 tx now tr:=by
 obtain⟨s,h1,h2⟩:=h.gf;exact⟨⟨s,h1.later l,h2⟩,h.hp,h.hn.later l,h.hv.kg (KG.of_later (base:=base) l),h.vb⟩
theorem VF.aside {base g:Nat} {A B:World} {f:Fl} {hb nn:Nat} {st:Int} {ws:Nat→Nat} {ex:List Ex} {l0 l1:List Pa} {tx:List Int} {now tr:Int} (h:VF base g A f hb nn st ws ex l0 l1 tx now tr) {mb:Nat} {cur:Array Value} {t:TypeId} {fz:Nat × Nat} (hm:A.heap[mb]? =some (.cells cur t fz))(ht:AsT t)(hB:But (fun q=>q=mb) A B):VF base g B f hb nn st ws ex l0 l1 tx now tr:=by
 obtain⟨s,h1,h2⟩:=h.gf;exact⟨⟨s,h1.other (TE.one hm) hB (by rcases ht with rfl|rfl|rfl<;>decide),h2⟩,h.hp,h.hn.asideF hm ht hB,h.hv.asideF hm (by rcases ht with rfl|rfl|rfl<;>decide) hB,h.vb⟩
theorem zFt:∀(os:List Opt) (ss:List Value) (m:Nat) (s:Value),ss.length=os.length→m<os.length→zEb os (ss.set m s)=(zEb os ss).set (m*2+1) s
 |o::os,x::ss,0,s,h,hm=>by simp[zEb]
 |o::os,x::ss,m+1,s,h,hm=>by
  have ih:=zFt os ss m s (by simpa using h) (by simpa using hm);unfold zEb at ih⊢;simp only[List.set_cons_succ,List.zip_cons_cons,List.flatMap_cons,List.cons_append,List.nil_append,ih];rw[show (m+1)*2=m*2+1+1 from by omega];simp
theorem zGt:∀(os:List Opt) (ss:List Value) (m:Nat) (o:Opt),m<os.length→o.1=(os[m]?.getD (0,[])).1→zEb (os.set m o) ss=zEb os ss
 |x::os,[],0,o,_,h=>by simp[zEb]
 |x::os,[],m+1,o,_,h=>by simp[zEb]
 |x::os,y::ss,0,o,_,h=>by simp at h;simp[zEb,h]
 |x::os,y::ss,m+1,o,hm,h=>by
  have ih:=zGt os ss m o (by simpa using hm) (by simpa using h);unfold zEb at ih⊢;simp only[List.set_cons_succ,List.zip_cons_cons,List.flatMap_cons,ih]
theorem zEr {base:Nat} {W:World} {v:Value} {n:Nat} {xs:List Value} (h:W.ownsRow base 244 2 v n xs)(hn:0<n):∃g cap,v= .slice (some ⟨g,0,none⟩) n cap∧n≤cap∧cap≤9223372036854775807∧base≤g∧(∃cur,W.heap[g]? =some (.cells cur 244 (0,0)))∧(∀j,j<n*2→W.cell? ⟨g,j,none⟩=xs[j]? ∧W.frozen? ⟨g,j,none⟩=false)∧∀j s,j<n*2→(W.setCell ⟨g,j,none⟩ s).ownsRow base 244 2 v n (xs.set j s):=by
 obtain⟨h1,⟨rfl,h0⟩|⟨g,cap,cur,rfl,hg,hh,hl,hm,hs,hc⟩⟩:=h
 ·omega
 ·refine ⟨g,cap,rfl,hl,by simpa[maxLen]using hm,hg,⟨cur,hh⟩,fun j hj=>⟨?_,zAc hh j⟩,fun j s hj=>⟨by simpa using h1,.inr ⟨g,cap,cur.setIfInBounds j s,rfl,hg,zAh hh j s,hl,hm,by simpa using hs,?_⟩⟩⟩
  ·rw[zAa hh j,←hc,List.getElem?_take_of_lt hj]
   simp
  ·rw[Array.toList_setIfInBounds,List.take_set,hc]
theorem Ow.setO {base:Nat} {W:World} {v:Value} {zs:List Int} {g j:Nat} {s:Value} {cur:Array Value} (h:Ow base W v zs)(hg:W.heap[g]? =some (.cells cur 244 (0,0))):Ow base (W.setCell ⟨g,j,none⟩ s) v zs:=by
 rcases h with h|⟨g',cap,c2,h1,h2,h3,h4,h5,h6,h7⟩
 ·exact .inl h
 ·refine .inr ⟨g',cap,c2,h1,h2,h3,h4,h5,?_,h7⟩
  have hne:g'≠g:=fun e=>by subst e;rw[h6]at hg;simp at hg
  exact((But.refl (fun b=>b=g) W).setCell (p:=⟨g,j,none⟩) rfl s).block g' (bl9 h6) hne|>.trans h6
def OwX (base m:Nat) (W:World) (v:Value) (os:List Opt):Prop:=
 ∃ss,ss.length=os.length∧W.ownsRow base 244 2 v os.length (zEb os ss)∧∀j,j<os.length→(j<m→Ow base W (ss[j]?.getD undef) (os[j]?.getD (0,[])).2)∧(m≤j→Rd base W (ss[j]?.getD undef) (os[j]?.getD (0,[])).2)
theorem OwX.all {base:Nat} {W:World} {v:Value} {os:List Opt} (h:OwX base os.length W v os):OwO base W v os:=by
 obtain⟨ss,h1,h2,h3⟩:=h;exact⟨ss,h1,h2,fun j hj=>(h3 j hj).1 hj⟩
theorem eqlO_nil(w:World):(binOp .eql 30 (.slice none 0 0) (.slice none 0 0)).run Tryz.prog w= .ok (.bool true) w:=by kernel_rfl
theorem zU0(w:World)(ad:Addr)(n c:Nat):(binOp .eql 30 (.slice (some ad) n c) (.slice none 0 0)).run Tryz.prog w= .ok (.bool false) w:=by kernel_rfl
theorem zIf(w:World):(w.alloc (.cells #[] 244)).ownsRow w.heap.size 244 2 (.slice (some ⟨w.heap.size,0,none⟩) 0 0) 0 []:=
 World.ownsRow_made w #[] 0 (Nat.le_refl _) (by simp) rfl
theorem RdO.row {n₀:Nat} {W:World} {a:Option Addr} {cap:Nat} {os:List Opt} (h:RdO n₀ W (.slice a os.length cap) os)(ha:a≠none):∃ad ss,a=some ad∧ss.length=os.length∧(∀j u,(zEb os ss)[j]? =some u→W.cell? (ad.add j)=some u)∧(∀u∈zEb os ss,u.oneCell'=true)∧∀j,j<os.length→Rd n₀ W (ss[j]?.getD undef) (os[j]?.getD (0,[])).2:=by
 rcases h with⟨a',cap',e,rfl,_⟩|⟨b,off,cap',e,hne,hl,hm,hb,hc⟩
 ·cases a with
  |none=>exact absurd rfl ha
  |some ad=>exact⟨ad,[],rfl,rfl,fun j u hj=>by simp[zEb]at hj,fun u hu=>by simp[zEb]at hu,fun j hj=>by simp at hj⟩
 ·simp at e
  obtain⟨rfl,rfl⟩:=e
  obtain⟨f,hf⟩:∃f:Nat→Value,∀j,j<os.length→W.cell? ⟨b,off+j*2,none⟩=some (.int .u8 (os[j]?.getD (0,[])).1)∧W.cell? ⟨b,off+j*2+1,none⟩=some (f j)∧Rd n₀ W (f j) (os[j]?.getD (0,[])).2:=by
   refine⟨fun j=>if h:j<os.length then(hc j h).choose else undef,fun j hj=> ?_⟩;simp only[dif_pos hj];exact(hc j hj).choose_spec
  have hsl:((List.range os.length).map f).length=os.length:=by simp
  have hgd:∀j,j<os.length→((List.range os.length).map f)[j]?.getD undef=f j:=fun j hj=>by simp[hj]
  have hcell:∀j,j<os.length*2→(zEb os ((List.range os.length).map f))[j]? =W.cell? ⟨b,off+j,none⟩:=fun j hj=>by
   have hat:=zE8 os _ hsl (j/2) (by omega);have hfj:=hf (j/2) (by omega);rw[hgd _ (by omega)]at hat;by_cases h2:j % 2=0
   ·have e:j=j/2*2:=by omega
    rw[←e]at hat hfj;rw[hat.1,hfj.1]
   ·have e:j=j/2*2+1:=by omega
    rw[←e]at hat;rw[Nat.add_assoc,←e]at hfj;rw[hat.2,hfj.2.1]
  have hlen:=zEa os _ hsl;refine⟨⟨b,off,none⟩,(List.range os.length).map f,rfl,hsl,fun j u hj=> ?_,fun u hu=> ?_,fun j hj=>by rw[hgd j hj];exact(hf j hj).2.2⟩
  ·have hjl:=(List.getElem?_eq_some_iff.1 hj).1
   rw[show (⟨b,off,none⟩:Addr).add j=⟨b,off+j,none⟩from by unfold Addr.add;split<;>simp_all,←hcell j (by omega),hj]
  ·obtain ⟨j,hj,hju⟩:=List.getElem_of_mem hu
   have hj':=List.getElem?_eq_getElem hj;have hat:=zE8 os _ hsl (j/2) (by omega);have hfj:=hf (j/2) (by omega);rw[hgd _ (by omega)]at hat;by_cases h2:j % 2=0
   ·have e:j=j/2*2:=by omega
    rw[←e,hj']at hat;have:=hat.1;simp only[hju,Option.some.injEq]at this;rw[this];rfl
   ·have e:j=j/2*2+1:=by omega
    rw[←e,hj']at hat;have:=hat.2;simp only[hju,Option.some.injEq]at this;rw[this];obtain⟨a,c,e',_⟩:=hfj.2.2.slice;rw[e'];rfl
theorem zRm(sv:Value)(os:List Opt)(w:World)(hl:os.length≤1000)(hI:RdO w.heap.size w sv os):
  Calls Tryz.prog 391 #[sv] w fun e w'=>∃v,e= .returned v∧OwX w.heap.size 0 w' v os∧Below w.heap.size w w':=by
 obtain⟨i0,hi,hz0,hz1,hz2⟩:=info_parts zPc;obtain⟨a,cap,rfl,hl1,hm1⟩:=hI.slice;cases a with
 | none=>
  obtain⟨rfl,rfl⟩:os=[]∧cap=0:=by
   rcases hI with⟨a,cap',e,hz,_,hn⟩|⟨_,_,_,e,_⟩
   ·have e1:=e
    simp at e1
    obtain⟨rfl,_,rfl⟩:=e1;exact⟨hz,hn rfl⟩
   ·simp at e
  have hq:=eqlO_nil w;go_enter Tryz.func391,Tryz.ntmps391;go_wp2
  go_ret
  exact⟨_,rfl,⟨[],rfl,World.ownsRow_nil _ _ _ _,fun j h=>by simp at h⟩,Below.refl _ _⟩
 |some ad0=>
  have hb0:Below w.heap.size w (w.alloc (.cells #[] 244)):=(Below.refl _ w).alloc (Nat.le_refl _) _;obtain⟨ad,ss,e,hsl,hcell,hone,hrd⟩:=(hI.below hb0).row (by simp);obtain rfl:ad0=ad:=by simpa using e
  have hlen:=zEa os ss hsl;have hq:=zU0 w ad0 os.length cap;have HC:=zAd hcell;have HO:=zAd hone;have HR:=zAd hrd;have HL:=zAd hlen;clear hcell hone hrd hlen;go_enter Tryz.func391,Tryz.ntmps391;go_wp2_with (at_builtin;refine wpList_append_own _ rfl (.tmp 5) (.tmp 6) 30 rfl w.heap.size 244 i0 (.agg #[.int .u8 0,.slice none 0 0]) 2 32 Tryz.underlying30 hi hz0 hz1 hz2 rfl (by decide) _ 0 [] rfl (zIf w) ad0 os.length cap (zEb os ss) rfl HL.out HC.out HO.out (by simp only[maxLen];omega) (by omega) (by simp) ?_)
  intro v2 W2 hrow2 hg2 hnn
  have hw2:Below w.heap.size w W2:=zEh hb0 (zIf w) hg2 (Nat.le_refl _) (by simp);have hX:OwX w.heap.size 0 W2 v2 os:=⟨ss,hsl,by simpa using hrow2,fun j hj=>⟨fun h=>by omega,fun _=>(HR.out j hj).below' hb0 hw2⟩⟩;clear hrow2 hg2 hnn;go_wp2
  go_ret
  exact⟨_,rfl,hX,hw2⟩
theorem zJh(sv:Value)(os:List Opt)(w:World)(hl:os.length≤1000)(hz:∀o∈os,o.2.length≤140737488355328)(hI:RdO w.heap.size w sv os):
  Calls Tryz.prog 380 #[sv] w fun e w'=>∃v,e= .returned v∧OwO w.heap.size w' v os∧Below w.heap.size w w':=by
 go_enter Tryz.func380,Tryz.ntmps380;go_wp2_with fail;refine(zRm sv os w hl hI).mono ?_;rintro e w1 ⟨v,rfl,hX,hb1⟩
 obtain⟨a,cap,rfl,hc1,hc2⟩:∃a cap,v= .slice a os.length cap∧os.length≤cap∧cap≤9223372036854775807:=by
  obtain⟨ss,h1,⟨h2,⟨rfl,h0⟩|⟨g,cap,cur,rfl,hg,hh,hl',hm,_⟩⟩,h3⟩:=hX
  ·exact ⟨none,0,by rw[h0],by omega,by omega⟩
  ·exact ⟨_,cap,rfl,hl',by simpa[maxLen]using hm⟩
 go_wp2_with fail;go_loopw [9] (fun i wr=>∃m:Nat,m≤os.length∧i= .int .i64 (m:Int)∧OwX w.heap.size m wr (.slice a os.length cap) os∧Below w.heap.size w wr) (fun i _=>os.length-(intOf i).toNat)
 case atStart=>exact⟨0,by omega,rfl,hX,hb1⟩
 case round=>
  obtain⟨m,hm,rfl,hXm,hbm⟩:=hrel;clear hX;by_cases hlt:m<os.length
  ·obtain ⟨ss,hsl,hrow,hdat⟩:=hXm
   obtain⟨g,cp,e,_,_,hg,⟨cur,hcur⟩,hcell,hset⟩:=zEr hrow (by omega)
   simp at e
   obtain⟨rfl,rfl⟩:=e;have hat:=zE8 os ss hsl m hlt;obtain⟨c0,f0⟩:=hcell (m*2) (by omega);obtain⟨c1,f1⟩:=hcell (m*2+1) (by omega);rw[hat.1]at c0;rw[hat.2]at c1;have hRm:=(hdat m hlt).2 (Nat.le_refl _);have hzm:=hz (os[m]?.getD (0,[])) (by simp[hlt]);have hlt':(m:Int)<os.length:=by omega
   have HS:=zAd hset;have HD:=zAd hdat;have HC:=zAd hcell;have HR:=zAd hrow;clear hset hdat hcell hat hrow;obtain⟨sa,sc,hse,_,_⟩:=hRm.slice;have HSE:=zAd hse;rw[hse]at c1 hRm;clear hse;generalize hdt:(os[m]?.getD (0,[])).2=dt at*;have HDT:=zAd hdt;clear hdt;have hgz:=hbm.size;go_wp2_with fail;refine(zAx _ dt wr hzm (hRm.mono hbm.size)).mono ?_;rintro e w2 ⟨a2,cap2,rfl,hO2,hb2⟩;have hl2:Later wr w2:=hb2;have hcur2:=zAb hl2 hcur;have k1:w2.cell? ⟨g,m*2+1,none⟩=some (.slice sa dt.length sc):=hl2.cell c1;have fz:w2.frozen? ⟨g,m*2+1,none⟩=false:=zAc hcur2 _;have hrow2:=zCv HR.out (CK.of hl2);obtain⟨g',cp',e',_,_,_,_,_,hset2⟩:=zEr hrow2 (by omega)
   simp at e'
   obtain⟨rfl,rfl⟩:=e';have hr3:=hset2 (m*2+1) (.slice a2 dt.length cap2) (by omega);rw[←zFt os ss m _ hsl hlt]at hr3;have hw2:=hbm.trans (hb2.mono hbm.size);have hw3:Below w.heap.size w (w2.setCell ⟨g,m*2+1,none⟩ (.slice a2 dt.length cap2)):=hw2.setCell (p:=⟨g,m*2+1,none⟩) hg _
   have hX3:OwX w.heap.size (m+1) (w2.setCell ⟨g,m*2+1,none⟩ (.slice a2 dt.length cap2)) (.slice (some ⟨g,0,none⟩) os.length cap) os:=by
    refine⟨ss.set m (.slice a2 dt.length cap2),by simpa using hsl,hr3,fun j hj=> ?_⟩;by_cases hjm:j=m
    ·subst hjm
     rw[List.getElem?_set_self (by omega),HDT.out];exact⟨fun _=>((hO2.mono hgz).setO hcur2),fun h=>by omega⟩
    ·rw[List.getElem?_set_ne (fun e=>hjm e.symm)]
     exact⟨fun h=>((((HD.out j hj).1 (by omega)).ck (CK.of hl2)).setO hcur2),fun h=>(((HD.out j hj).2 (by omega)).below (hl2.mono hgz)).below ((Below.refl _ _).setCell (p:=⟨g,m*2+1,none⟩) hg _)⟩
   have HX3:=zAd hX3;clear hX3 hr3 hset2 hrow2 c1 c0 f0 f1 hRm;go_wp2_with fail;go_roundw
   case rel=>exact⟨m+1,by omega,by go_num,HX3.out,hw3⟩
   case measure=>simp[intOf];omega
  ·obtain rfl:m=os.length:=by omega
   go_wp2_with fail;go_ret
   exact⟨_,rfl,hXm.all,hbm⟩
def RdU (n₀:Nat) (W:World) (sv:Value) (ns:List Int):Prop:=
 (∃a cap,sv= .slice a 0 cap∧ns=[]∧cap≤9223372036854775807)∨
 ∃b off cap,sv= .slice (some ⟨b,off,none⟩) ns.length cap∧ns≠ []∧ns.length≤cap∧cap≤9223372036854775807∧b<n₀∧∀j,j<ns.length→W.cell? ⟨b,off+j,none⟩=some (.int .u32 (ns[j]?.getD 0))
theorem RdU.below {n₀:Nat} {A B:World} (h:Below n₀ A B) {sv:Value} {ns:List Int} :RdU n₀ A sv ns→RdU n₀ B sv ns
 | .inl e=> .inl e
 | .inr ⟨b,off,cap,e,hne,hl,hm,hb,hc⟩=> .inr ⟨b,off,cap,e,hne,hl,hm,hb,fun j hj=>(h.cell (p:=⟨b,off+j,none⟩) hb).trans (hc j hj)⟩
theorem RdU.slice {n₀:Nat} {A:World} {sv:Value} {ns:List Int} :RdU n₀ A sv ns→∃a cap,sv= .slice a ns.length cap∧ns.length≤cap∧cap≤9223372036854775807
 | .inl ⟨a,cap,e,hz,hm⟩=>⟨a,cap,by rw[e,hz];rfl,by rw[hz];exact Nat.zero_le _,hm⟩
 | .inr ⟨b,off,cap,e,_,hl,hm,_⟩=>⟨_,cap,e,hl,hm⟩
theorem RdU.cells {n₀:Nat} {w:World} {sv:Value} {ns:List Int} (h:RdU n₀ w sv ns)(hne:0<ns.length):∃b off cap,sv= .slice (some ⟨b,off,none⟩) ns.length cap∧ns.length≤cap∧cap≤9223372036854775807∧b<n₀∧∀j,j<ns.length→w.cell? ⟨b,off+j,none⟩=some (.int .u32 (ns[j]?.getD 0)):=by
 rcases h with⟨a,cap,e,hz,_⟩|⟨b,off,cap,e,_,hl,hm,hb,hc⟩
 ·subst hz;simp at hne
 ·exact ⟨b,off,cap,e,hl,hm,hb,hc⟩
theorem Ow4.rd {base:Nat} {A:World} {v:Value} {ns:List Int} (h:Ow4 base A v ns)(hm:ns.length≤9223372036854775807):RdU A.heap.size A v ns:=by
 rcases h with⟨rfl,rfl⟩|⟨g,rfl,h2,h3⟩
 ·exact .inl ⟨_,_,rfl,rfl,by omega⟩
 ·by_cases h0:ns=[]
  ·subst h0
   exact .inl ⟨_,_,rfl,rfl,by simp⟩
  ·refine .inr ⟨g,0,_,rfl,h0,Nat.le_refl _,hm,(bl9 h3),fun j hj=> ?_⟩
   rw[Nat.zero_add,zAa h3 j];simp[hj]
def U32s (es:List Int):Prop:=∀e∈es,0≤e∧e≤4294967295
theorem U32s.at {es:List Int} (h:U32s es)(m:Nat):0≤es[m]?.getD 0∧es[m]?.getD 0≤4294967295:=by
 by_cases hm:m<es.length
 ·exact h _ (by simp[hm])
 ·simp[hm]
def pk (es dt:List Int):Nat→List Int
 |0=>dt
 |m+1=>zBq (pk es dt m) ((m:Int)*4) (es[m]?.getD 0)
theorem zGu(es dt:List Int):∀m,(pk es dt m).length=dt.length
 |0=>rfl
 |m+1=>by rw[pk,zBi,zGu es dt m]
def wsd (es:List Int) (o:Opt):Opt:=(o.1,pk es o.2 (min es.length (o.2.length/4)))
def wsk (os:List Opt) (es:List Int):List Opt:=match skx os with|none=>os|some k=>os.set k (wsd es (os[k]?.getD (0,[])))
theorem Ow.later' {base:Nat} {A B:World} {v:Value} {zs:List Int} (h:Ow base A v zs)(l:Later A B):Ow base B v zs:=h.ck (CK.of l)
theorem Ow.setS {base:Nat} {W V:World} {v:Value} {zs:List Int} {g:Nat} {cur:Array Value} (h:Ow base W v zs)(hg:W.heap[g]? =some (.cells cur 32 (0,0)))(hb:But (fun b=>b=g) W V):Ow base V v zs:=by
 rcases h with h|⟨g',cap,c2,h1,h2,h3,h4,h5,h6,h7⟩
 ·exact .inl h
 ·refine .inr ⟨g',cap,c2,h1,h2,h3,h4,h5,?_,h7⟩
  have hne:g'≠g:=fun e=>by subst e;rw[h6]at hg;simp at hg
  exact(hb.block g' (bl9 h6) hne).trans h6
theorem OwO.setS {base:Nat} {W V:World} {v:Value} {os:List Opt} {g:Nat} {cur:Array Value} (h:OwO base W v os)(hg:W.heap[g]? =some (.cells cur 32 (0,0)))(hb:But (fun b=>b=g) W V):OwO base V v os:=by
 obtain⟨ss,h1,⟨h2,h2'⟩,h3⟩:=h;refine⟨ss,h1,⟨h2,h2'.imp id ?_⟩,fun j hj=>(h3 j hj).setS hg hb⟩;rintro⟨g',cap,c2,e1,e2,e3,r⟩;have hne:g'≠g:=fun e=>by subst e;rw[e3]at hg;simp at hg
 exact⟨g',cap,c2,e1,e2,(hb.block g' (bl9 e3) hne).trans e3,r⟩
theorem zDv(sp dp sq ak fl wn ur:Int)(sO sm sE:Value)(os:List Opt)(zm es:List Int)(w:World)(hB:ByO os)(hI:RdO w.heap.size w sO os)(hM:Rd w.heap.size w sm zm)(hE:RdU w.heap.size w sE es)(hU:U32s es)(hl:os.length≤1000)(hz:∀o∈os,o.2.length≤140737488355328)(hzm:zm.length≤140737488355328):
  Calls Tryz.prog 368 #[.agg #[.int .u16 sp,.int .u16 dp,.int .u32 sq,.int .u32 ak,.int .u8 fl,.int .u16 wn,.int .u16 ur,sO,sm],sE] w fun e w'=>Below w.heap.size w w'∧∃vO vm,e= .returned (.agg #[.int .u16 sp,.int .u16 dp,.int .u32 sq,.int .u32 ak,.int .u8 fl,.int .u16 wn,.int .u16 ur,vO,vm])∧OwO w.heap.size w' vO (wsk os es)∧Ow w.heap.size w' vm zm:=by
 obtain⟨aO,cO,rfl,_,hcm⟩:=hI.slice;obtain⟨am,cm,rfl,_,_⟩:=hM.slice;obtain⟨ae,ce,rfl,he1,he2⟩:=hE.slice;have hb0:Below w.heap.size w ((w.alloc (.cells #[.int .u16 sp,.int .u16 dp,.int .u32 sq,.int .u32 ak,.int .u8 fl,.int .u16 wn,.int .u16 ur,.slice aO os.length cO,.slice am zm.length cm] 32)).alloc (.cells #[.int .u16 0,.int .u16 0,.int .u32 0,.int .u32 0,.int .u8 0,.int .u16 0,.int .u16 0,.slice none 0 0,.slice none 0 0] 32)):=(bA _ _).alloc (by simp) _;have p0:((w.alloc (.cells #[.int .u16 sp,.int .u16 dp,.int .u32 sq,.int .u32 ak,.int .u8 fl,.int .u16 wn,.int .u16 ur,.slice aO os.length cO,.slice am zm.length cm] 32)).alloc (.cells #[.int .u16 0,.int .u16 0,.int .u32 0,.int .u32 0,.int .u8 0,.int .u16 0,.int .u16 0,.slice none 0 0,.slice none 0 0] 32)).heap[w.heap.size]? =some (.cells #[.int .u16 sp,.int .u16 dp,.int .u32 sq,.int .u32 ak,.int .u8 fl,.int .u16 wn,.int .u16 ur,.slice aO os.length cO,.slice am zm.length cm] 32):=(Below.heap_alloc _ _ _ (by simp)).trans (heap_alloc_new w _);have r0:=heap_alloc_new (w.alloc (.cells #[.int .u16 sp,.int .u16 dp,.int .u32 sq,.int .u32 ak,.int .u8 fl,.int .u16 wn,.int .u16 ur,.slice aO os.length cO,.slice am zm.length cm] 32)) (.cells #[.int .u16 0,.int .u16 0,.int .u32 0,.int .u32 0,.int .u8 0,.int .u16 0,.int .u16 0,.slice none 0 0,.slice none 0 0] 32);rw[World.size_alloc]at r0
 have hs0:w.heap.size+1<((w.alloc (.cells #[.int .u16 sp,.int .u16 dp,.int .u32 sq,.int .u32 ak,.int .u8 fl,.int .u16 wn,.int .u16 ur,.slice aO os.length cO,.slice am zm.length cm] 32)).alloc (.cells #[.int .u16 0,.int .u16 0,.int .u32 0,.int .u32 0,.int .u8 0,.int .u16 0,.int .u16 0,.slice none 0 0,.slice none 0 0] 32)).heap.size:=by simp
 have P0:=zAd p0;have R0:=zAd r0;clear p0 r0;go_enter Tryz.func368,Tryz.ntmps368;go_upto_region 1 with fail;generalize (w.alloc (.cells #[.int .u16 sp,.int .u16 dp,.int .u32 sq,.int .u32 ak,.int .u8 fl,.int .u16 wn,.int .u16 ur,.slice aO os.length cO,.slice am zm.length cm] 32)).alloc (.cells #[.int .u16 0,.int .u16 0,.int .u32 0,.int .u32 0,.int .u8 0,.int .u16 0,.int .u16 0,.slice none 0 0,.slice none 0 0] 32)=w0 at*;go_cut [10] (fun _ wx=>∃vO vm,wx.heap[w.heap.size]? =some (.cells #[.int .u16 sp,.int .u16 dp,.int .u32 sq,.int .u32 ak,.int .u8 fl,.int .u16 wn,.int .u16 ur,vO,vm] 32 (0,0))∧OwO w0.heap.size wx vO os∧Ow w0.heap.size wx vm zm∧But (fun b=>b=w.heap.size) w0 wx)
 case first=>
  refine zAl (R:=But (fun b=>b=w.heap.size)) 10 rfl (by kernel_rfl) ?_;have ld:Later w0 w0.drew:=Later.drew w0;have pd:=zAb ld P0.out;generalize w0.drew=Wd at*;refine tX (But.pre _) 0 ?_;refine tX (But.pre _) 3 ?_;have kd:=zAa pd;refine zBv 1 4 rfl rfl (by kernel_rfl) rfl rfl ?_ ?_
  ·unfold Oper.wp
   go_simp;refine⟨But.refl _ _,?_⟩;refine zBv 2 4 rfl rfl (by kernel_rfl) rfl rfl ?_ ?_
   ·refine zAj 380 #[.slice aO os.length cO] (by go_simp) ?_
    refine(zJh _ os Wd hl hz ((hI.below (hb0.trans (ld.mono hb0.size))).mono (Nat.le_trans hb0.size ld.size))).mono ?_;rintro e W2 ⟨vO,rfl,hO,hb2⟩;obtain⟨aV,cV,rfl,_,_⟩:=hO.slice;have l2:Later Wd W2:=hb2;refine⟨But.of l2,?_⟩;simp only[Act.put,sA,sB,sC];have px:=zAb l2 pd;clear kd;have kd:=zAa px;refine tO 4 ?_;unfold Oper.wp;go_simp;refine⟨But.refl _ _,?_⟩;clear kd;refine tX (But.pre _) 6 ?_;refine tO 5 ?_;refine zAj 71 #[.slice am zm.length cm] (by go_simp) ?_;refine(zAx _ zm W2 hzm ((hM.below (hb0.trans ((ld.trans l2).mono hb0.size))).mono (Nat.le_trans hb0.size (ld.trans l2).size))).mono ?_;rintro e W5 ⟨am1,cm1,rfl,hD,hb5⟩;have l5:Later W2 W5:=hb5;refine⟨But.of l5,?_⟩;simp only[Act.put,sA,sB,sC];replace px:=zAb l5 px
    replace hO:=(hO.later l5).mono ld.size
    replace hD:=hD.mono (Nat.le_trans ld.size l2.size)
    have lx:=ld.trans (l2.trans l5);have kx:=zAa px;have fx:=zAc px;refine tO 7 ?_;unfold Oper.wp;go_simp;(generalize hV:W5.setCell ⟨w.heap.size,7,none⟩ _=V);have pV:=zAh px 7 (.slice aV os.length cV);rw[hV]at pV;(have hbV:But (fun b=>b=w.heap.size) W5 V:=by rw[←hV];exact(But.refl (fun b=>b=w.heap.size) _).setCell (p:=⟨w.heap.size,7,none⟩) rfl _);refine⟨hbV,?_⟩;have hOV:=hO.setS px hbV;have hDV:=hD.setS px hbV;clear hV kx fx;simp only[List.setIfInBounds_toArray,List.set_cons_zero,List.set_cons_succ]at pV;refine tX (But.pre _) 8 ?_;have kx:=zAa pV;have fx:=zAc pV;refine tO 9 ?_;unfold Oper.wp;go_simp;(generalize hU:V.setCell ⟨w.heap.size,8,none⟩ _=U);have pU:=zAh pV 8 (.slice am1 zm.length cm1);rw[hU]at pU;(have hbU:But (fun b=>b=w.heap.size) V U:=by rw[←hU];exact(But.refl (fun b=>b=w.heap.size) _).setCell (p:=⟨w.heap.size,8,none⟩) rfl _);refine⟨hbU,?_⟩;have hOU:=hOV.setS pV hbU;have hDU:=hDV.setS pV hbU;clear hU kx fx;simp only[List.setIfInBounds_toArray,List.set_cons_zero,List.set_cons_succ]at pU;refine tD ?_;have hfin:But (fun b=>b=w.heap.size) w0 U:=(But.of lx).trans (hbV.trans hbU);go_wp2_with fail;go_meet;exact⟨_,_,pU,hOU,hDU,hfin⟩
   ·unfold Oper.wp
    go_simp;refine⟨But.refl _ _,?_⟩;clear kd;refine tO 2 ?_;refine zAj 380 #[.slice aO os.length cO] (by go_simp) ?_;refine(zJh _ os Wd hl hz ((hI.below (hb0.trans (ld.mono hb0.size))).mono (Nat.le_trans hb0.size ld.size))).mono ?_;rintro e W2 ⟨vO,rfl,hO,hb2⟩;obtain⟨aV,cV,rfl,_,_⟩:=hO.slice;have l2:Later Wd W2:=hb2;refine⟨But.of l2,?_⟩;simp only[Act.put,sA,sB,sC];have px:=zAb l2 pd;refine tX (But.pre _) 6 ?_;refine tO 5 ?_;refine zAj 71 #[.slice am zm.length cm] (by go_simp) ?_;refine(zAx _ zm W2 hzm ((hM.below (hb0.trans ((ld.trans l2).mono hb0.size))).mono (Nat.le_trans hb0.size (ld.trans l2).size))).mono ?_;rintro e W5 ⟨am1,cm1,rfl,hD,hb5⟩;have l5:Later W2 W5:=hb5;refine⟨But.of l5,?_⟩;simp only[Act.put,sA,sB,sC];replace px:=zAb l5 px
    replace hO:=(hO.later l5).mono ld.size
    replace hD:=hD.mono (Nat.le_trans ld.size l2.size)
    have lx:=ld.trans (l2.trans l5);have kx:=zAa px;have fx:=zAc px;refine tO 7 ?_;unfold Oper.wp;go_simp;(generalize hV:W5.setCell ⟨w.heap.size,7,none⟩ _=V);have pV:=zAh px 7 (.slice aV os.length cV);rw[hV]at pV;(have hbV:But (fun b=>b=w.heap.size) W5 V:=by rw[←hV];exact(But.refl (fun b=>b=w.heap.size) _).setCell (p:=⟨w.heap.size,7,none⟩) rfl _);refine⟨hbV,?_⟩;have hOV:=hO.setS px hbV;have hDV:=hD.setS px hbV;clear hV kx fx;simp only[List.setIfInBounds_toArray,List.set_cons_zero,List.set_cons_succ]at pV;refine tX (But.pre _) 8 ?_;have kx:=zAa pV;have fx:=zAc pV;refine tO 9 ?_;unfold Oper.wp;go_simp;(generalize hU:V.setCell ⟨w.heap.size,8,none⟩ _=U);have pU:=zAh pV 8 (.slice am1 zm.length cm1);rw[hU]at pU;(have hbU:But (fun b=>b=w.heap.size) V U:=by rw[←hU];exact(But.refl (fun b=>b=w.heap.size) _).setCell (p:=⟨w.heap.size,8,none⟩) rfl _);refine⟨hbU,?_⟩;have hOU:=hOV.setS pV hbU;have hDU:=hDV.setS pV hbU;clear hU kx fx;simp only[List.setIfInBounds_toArray,List.set_cons_zero,List.set_cons_succ]at pU;refine tD ?_;have hfin:But (fun b=>b=w.heap.size) w0 U:=(But.of lx).trans (hbV.trans hbU);go_wp2_with fail;go_meet;exact⟨_,_,pU,hOU,hDU,hfin⟩
  ·unfold Oper.wp
   go_simp;refine⟨But.refl _ _,?_⟩;refine tO 1 ?_;unfold Oper.wp;go_simp;refine⟨But.refl _ _,?_⟩;clear kd;refine tO 2 ?_;refine zAj 380 #[.slice aO os.length cO] (by go_simp) ?_;refine(zJh _ os Wd hl hz ((hI.below (hb0.trans (ld.mono hb0.size))).mono (Nat.le_trans hb0.size ld.size))).mono ?_;rintro e W2 ⟨vO,rfl,hO,hb2⟩;obtain⟨aV,cV,rfl,_,_⟩:=hO.slice;have l2:Later Wd W2:=hb2;refine⟨But.of l2,?_⟩;simp only[Act.put,sA,sB,sC];have px:=zAb l2 pd;refine tX (But.pre _) 6 ?_;refine tO 5 ?_;refine zAj 71 #[.slice am zm.length cm] (by go_simp) ?_;refine(zAx _ zm W2 hzm ((hM.below (hb0.trans ((ld.trans l2).mono hb0.size))).mono (Nat.le_trans hb0.size (ld.trans l2).size))).mono ?_;rintro e W5 ⟨am1,cm1,rfl,hD,hb5⟩;have l5:Later W2 W5:=hb5;refine⟨But.of l5,?_⟩;simp only[Act.put,sA,sB,sC];replace px:=zAb l5 px
   replace hO:=(hO.later l5).mono ld.size
   replace hD:=hD.mono (Nat.le_trans ld.size l2.size)
   have lx:=ld.trans (l2.trans l5);have kx:=zAa px;have fx:=zAc px;refine tO 7 ?_;unfold Oper.wp;go_simp;(generalize hV:W5.setCell ⟨w.heap.size,7,none⟩ _=V);have pV:=zAh px 7 (.slice aV os.length cV);rw[hV]at pV;(have hbV:But (fun b=>b=w.heap.size) W5 V:=by rw[←hV];exact(But.refl (fun b=>b=w.heap.size) _).setCell (p:=⟨w.heap.size,7,none⟩) rfl _);refine⟨hbV,?_⟩;have hOV:=hO.setS px hbV;have hDV:=hD.setS px hbV;clear hV kx fx;simp only[List.setIfInBounds_toArray,List.set_cons_zero,List.set_cons_succ]at pV;refine tX (But.pre _) 8 ?_;have kx:=zAa pV;have fx:=zAc pV;refine tO 9 ?_;unfold Oper.wp;go_simp;(generalize hU:V.setCell ⟨w.heap.size,8,none⟩ _=U);have pU:=zAh pV 8 (.slice am1 zm.length cm1);rw[hU]at pU;(have hbU:But (fun b=>b=w.heap.size) V U:=by rw[←hU];exact(But.refl (fun b=>b=w.heap.size) _).setCell (p:=⟨w.heap.size,8,none⟩) rfl _);refine⟨hbU,?_⟩;have hOU:=hOV.setS pV hbU;have hDU:=hDV.setS pV hbU;clear hU kx fx;simp only[List.setIfInBounds_toArray,List.set_cons_zero,List.set_cons_succ]at pU;refine tD ?_;have hfin:But (fun b=>b=w.heap.size) w0 U:=(But.of lx).trans (hbV.trans hbU);go_wp2_with fail;go_meet;exact⟨_,_,pU,hOU,hDU,hfin⟩
 case rest=>
  obtain⟨vO,vm,px,hO,hD,hbx⟩:=hcut;obtain⟨aV,cV,rfl,hcv,hcv2⟩:=hO.slice;obtain⟨am1,cm1,rfl,_,_⟩:=hD.slice;have rx:=(hbx.block (w.heap.size+1) hs0 (by omega)).trans R0.out;have hwx:Below w.heap.size w wc:=hb0.trans (hbx.below hb0.size (fun k hk e=>by omega));have hsz:=hbx.size;have kx:=zAa px;go_wp2_with fail;refine(zPf wc.heap.size _ os wc (Nat.le_refl _) hO.rd hz).mono ?_;rintro e w1 ⟨hb1,⟨hn,rfl⟩|⟨k,hk,rfl⟩⟩
  ·have HS:Hid (wsk os es=os):=by show _=_;unfold wsk;rw[hn]
   clear hn kx;have l1:Later wc w1:=hb1;have kx:=zAa (zAb l1 px);have r1:=zAb l1 rx;have ky:=zAa r1;have fy:=zAc r1;have hw1:=hwx.trans (l1.mono hwx.size);go_wp2_with fail;generalize hV:World.setCell _ ⟨w.heap.size+1,8,none⟩ _=V;have hV8:V=zAi w1 (w.heap.size+1) 0 [.int .u16 sp,.int .u16 dp,.int .u32 sq,.int .u32 ak,.int .u8 fl,.int .u16 wn,.int .u16 ur,.slice aV os.length cV,.slice am1 zm.length cm1]:=hV.symm;have hbV:But (fun b=>b=w.heap.size+1) w1 V:=by rw[hV8];exact zAf (E:=fun b=>b=w.heap.size+1) (n:=w.heap.size+1) rfl _ _ _ _ (But.refl _ _)
   have pV:=zAe ([.int .u16 sp,.int .u16 dp,.int .u32 sq,.int .u32 ak,.int .u8 fl,.int .u16 wn,.int .u16 ur,.slice aV os.length cV,.slice am1 zm.length cm1]:List Value) r1 rfl;rw[←hV8]at pV;clear hV hV8 ky fy kx;have PV:=zAa pV;have hwV:Below w.heap.size w V:=hw1.trans (hbV.below hw1.size (fun k hk e=>by omega));have OV:OwO w.heap.size V (.slice aV os.length cV) (wsk os es):=by rw[HS.out];exact((hO.later l1).setS r1 hbV).mono hb0.size
   have DV:Ow w.heap.size V (.slice am1 zm.length cm1) zm:=((hD.later' l1).setS r1 hbV).mono hb0.size;exact bodyPost_ret (v:= .agg #[.int .u16 sp,.int .u16 dp,.int .u32 sq,.int .u32 ak,.int .u8 fl,.int .u16 wn,.int .u16 ur,.slice aV os.length cV,.slice am1 zm.length cm1]) (by simp[results,Tryz.results368,go_sem,PV]) rfl ⟨hwV,_,_,rfl,OV,DV⟩
  ·have l1:Later wc w1:=hb1
   obtain⟨hkl,htl⟩:=skx_lt hk;have HS:Hid (wsk os es=os.set k (wsd es (os[k]?.getD (0,[])))):=by show _=_;unfold wsk;rw[hk]
   clear hk kx;have px1:=zAb l1 px;have kx:=zAa px1;have hO1:=hO.later l1;have hD1:=hD.later' l1;obtain⟨ss,hsl,hrow,hdat⟩:=hO1;obtain⟨g,cp,e,_,_,hg,⟨cur,hcur⟩,hcell,hset⟩:=zEr hrow (by omega)
   simp at e
   obtain⟨rfl,rfl⟩:=e;have hat:=zE8 os ss hsl k hkl;obtain⟨c0,f0⟩:=hcell (k*2) (by omega);obtain⟨c1,f1⟩:=hcell (k*2+1) (by omega);rw[hat.1]at c0;rw[hat.2]at c1;have hOk:=hdat k hkl;have hzk:=hz (os[k]?.getD (0,[])) (by simp[hkl]);have hBk:=(hB (os[k]?.getD (0,[])) (by simp[hkl])).2;have hkl':(k:Int)<os.length:=by omega
   have HD:=zAd hdat;have HR:=zAd hrow;clear hset hdat hcell hat hrow;obtain⟨sa,sc,hse,_,_⟩:=hOk.slice;have HSE:=zAd hse;rw[hse]at c1 hOk;clear hse
   have hts:(os[k]?.getD (0,[])).2.length % 8=0∧1≤(os[k]?.getD (0,[])).2.length/8∧(os[k]?.getD (0,[])).2.length/8≤4:=by
    unfold tlo zLx at htl;have:=of_decide_eq_true htl;exact this.2
   clear htl;have hws:wsd es (os[k]?.getD (0,[]))=((os[k]?.getD (0,[])).1,pk es (os[k]?.getD (0,[])).2 (min es.length ((os[k]?.getD (0,[])).2.length/4))):=rfl;rw[hws]at HS;clear hws;generalize hdt:(os[k]?.getD (0,[])).2=dt at*;have HDT:=zAd hdt;clear hdt;have h32:dt.length≤32:=by omega
   clear hts;have HRD:=zAd hOk.rd;obtain⟨mn,hmn⟩:∃mn:Nat,mn=min es.length (dt.length/4):=⟨_,rfl⟩;rw[←hmn]at HS;by_cases hcmp:(es.length:Int)≤(dt.length:Int)/4
   ·obtain rfl:mn=es.length:=by omega
    clear hmn;go_wp2_with fail;clear c0 f0 f1 kx;have hO0:∃ad cd,Value.slice sa dt.length sc= .slice ad dt.length cd∧Ow w0.heap.size w1 (.slice ad dt.length cd) (pk es dt 0):=⟨sa,sc,rfl,hOk⟩;clear hOk;go_loopw [6,34] (fun d i wr=>∃j:Nat,j≤es.length∧i= .int .i64 (j:Int)∧(∃ad cd,d= .slice ad dt.length cd∧Ow w0.heap.size wr (.slice ad dt.length cd) (pk es dt j))∧Later w1 wr) (fun _ i _=>es.length-(intOf i).toNat)
    case atStart=>exact⟨0,by omega,rfl,hO0,Later.refl _⟩
    case round=>
     obtain⟨j,hj,rfl,⟨ad,cd,rfl,hOj⟩,hlr⟩:=hrel;clear hO0;by_cases hlt:j<es.length
     ·have hlt':(j:Int)<(es.length:Nat):=by omega
      have hje:(j:Int)<es.length:=by omega
      have hwr:Below w.heap.size w wr:=hwx.trans ((l1.trans hlr).mono hwx.size);obtain⟨b',off',cp',e',_,_,hbb',hcs'⟩:=(hE.below hwr).cells (by omega)
      simp at e'
      obtain⟨rfl,rfl⟩:=e';have ce:=hcs' j (by omega);clear hcs';have hub:=hU.at j;have HPK:Hid (pk es dt (j+1)=zBq (pk es dt j) ((j:Int)*4) (es[j]?.getD 0)):=rfl;generalize es[j]?.getD 0=ev at*;have hpl:=zGu es dt j;have HPL:=zAd hpl;clear hpl;have hRj:=hOj.rd;have HOJ:=zAd hOj;clear hOj;go_wp2_with fail;refine(zCq _ (pk es dt j) ((j:Int)*4) ev wr (by rw[HPL.out];omega) hRj hub).mono ?_;rintro e w3 ⟨a3,rfl,hO3,hb3⟩;have l3:Later wr w3:=hb3;rw[HPL.out]at hO3⊢;rw[←HPK.out]at hO3;replace hO3:=hO3.mono (Nat.le_trans (Nat.le_trans hsz l1.size) hlr.size)
      have hl3:=hlr.trans l3;have HO3:=zAd hO3;clear hO3 HOJ hRj;go_wp2_with fail;go_roundw
      case rel=>exact⟨j+1,by omega,by go_num,⟨_,_,rfl,HO3.out⟩,hl3⟩
      case measure=>simp[intOf];omega
     ·obtain rfl:j=es.length:=by omega
      have l2:=l1.trans hlr;have px2:=zAb hlr px1;have kx:=zAa px2;have r2:=zAb l2 rx;have hcur2:=zAb hlr hcur;have k1:wr.cell? ⟨g,k*2+1,none⟩=some (.slice sa dt.length sc):=hlr.cell c1;have fz:wr.frozen? ⟨g,k*2+1,none⟩=false:=zAc hcur2 _;have hrow2:=zCv HR.out (CK.of hlr);obtain⟨g',cp',e',_,_,_,_,_,hset2⟩:=zEr hrow2 (by omega)
      simp at e'
      obtain⟨rfl,rfl⟩:=e';have hr3:=hset2 (k*2+1) (.slice ad dt.length cd) (by omega);rw[←zFt os ss k _ hsl hkl]at hr3;have hgs:g≠w.heap.size:=fun e=>by rw[e,px2]at hcur2;simp at hcur2
      have hgr:g≠w.heap.size+1:=fun e=>by rw[e,r2]at hcur2;simp at hcur2
      have hbU:But (fun b=>b=g) wr (wr.setCell ⟨g,k*2+1,none⟩ (.slice ad dt.length cd)):=(But.refl (fun b=>b=g) _).setCell (p:=⟨g,k*2+1,none⟩) rfl _
      have hOU:OwO w0.heap.size (wr.setCell ⟨g,k*2+1,none⟩ (.slice ad dt.length cd)) (.slice (some ⟨g,0,none⟩) os.length cV) (wsk os es):=by
       rw[HS.out];refine⟨ss.set k (.slice ad dt.length cd),by simpa using hsl,?_,fun i hi=> ?_⟩
       ·rw[zGt os _ k ((os[k]?.getD (0,[])).1,pk es dt es.length) hkl rfl,List.length_set]
        exact hr3
       ·rw[List.length_set]at hi
        by_cases hik:i=k
        ·subst hik
         rw[List.getElem?_set_self (by omega),List.getElem?_set_self (by omega)];exact hOj.setO hcur2
        ·rw[List.getElem?_set_ne (fun e=>hik e.symm),List.getElem?_set_ne (fun e=>hik e.symm)]
         exact((HD.out i hi).ck (CK.of hlr)).setO hcur2
      have hDU:=(hD1.later' hlr).setO (j:=k*2+1) (s:= .slice ad dt.length cd) hcur2;have pU:=(hbU.block _ (bl9 px2) (fun e=>hgs e.symm)).trans px2;have r1:=(hbU.block _ (bl9 r2) (fun e=>hgr e.symm)).trans r2;have hw1:Below w.heap.size w (wr.setCell ⟨g,k*2+1,none⟩ (.slice ad dt.length cd)):=(hwx.trans (l2.mono hwx.size)).setCell (p:=⟨g,k*2+1,none⟩) (Nat.le_trans hb0.size hg) _;have HOU:=zAd hOU;have HDU:=zAd hDU;have PU:=zAd pU;have R1:=zAd r1;clear hOU hDU pU r1 hr3 hset2 hrow2 HD HR px1 px rx;go_upto_region 12 with fail;generalize wr.setCell ⟨g,k*2+1,none⟩ (.slice ad dt.length cd)=U at*;clear kx k1 fz c1;have r1:=R1.out;have kx:=zAa PU.out;have ky:=zAa r1;have fy:=zAc r1;go_wp2_with fail;generalize hV:World.setCell _ ⟨w.heap.size+1,8,none⟩ _=V;have hV8:V=zAi U (w.heap.size+1) 0 [.int .u16 sp,.int .u16 dp,.int .u32 sq,.int .u32 ak,.int .u8 fl,.int .u16 wn,.int .u16 ur,.slice (some ⟨g,0,none⟩) os.length cV,.slice am1 zm.length cm1]:=hV.symm;have hbV:But (fun b=>b=w.heap.size+1) U V:=by rw[hV8];exact zAf (E:=fun b=>b=w.heap.size+1) (n:=w.heap.size+1) rfl _ _ _ _ (But.refl _ _)
      have pV:=zAe ([.int .u16 sp,.int .u16 dp,.int .u32 sq,.int .u32 ak,.int .u8 fl,.int .u16 wn,.int .u16 ur,.slice (some ⟨g,0,none⟩) os.length cV,.slice am1 zm.length cm1]:List Value) r1 rfl;rw[←hV8]at pV;clear hV hV8 ky fy kx;have PV:=zAa pV;have hwV:Below w.heap.size w V:=hw1.trans (hbV.below hw1.size (fun k hk e=>by omega));have OV:=(HOU.out.setS r1 hbV).mono hb0.size;have DV:=(HDU.out.setS r1 hbV).mono hb0.size;exact bodyPost_ret (v:= .agg #[.int .u16 sp,.int .u16 dp,.int .u32 sq,.int .u32 ak,.int .u8 fl,.int .u16 wn,.int .u16 ur,.slice (some ⟨g,0,none⟩) os.length cV,.slice am1 zm.length cm1]) (by simp[results,Tryz.results368,go_sem,PV]) rfl ⟨hwV,_,_,rfl,OV,DV⟩
   ·have hdm:(dt.length:Int)/4=(mn:Int):=by omega
    have hme:mn≤es.length:=by omega
    have hmd:mn*4≤dt.length:=by omega
    have HDM:=zAd hdm;clear hmn hdm;go_wp2_with fail;rw[HDM.out];clear c0 f0 f1 kx;have hO0:∃ad cd,Value.slice sa dt.length sc= .slice ad dt.length cd∧Ow w0.heap.size w1 (.slice ad dt.length cd) (pk es dt 0):=⟨sa,sc,rfl,hOk⟩;clear hOk;go_loopw [6,34] (fun d i wr=>∃j:Nat,j≤mn∧i= .int .i64 (j:Int)∧(∃ad cd,d= .slice ad dt.length cd∧Ow w0.heap.size wr (.slice ad dt.length cd) (pk es dt j))∧Later w1 wr) (fun _ i _=>mn-(intOf i).toNat)
    case atStart=>exact⟨0,by omega,rfl,hO0,Later.refl _⟩
    case round=>
     obtain⟨j,hj,rfl,⟨ad,cd,rfl,hOj⟩,hlr⟩:=hrel;clear hO0;by_cases hlt:j<mn
     ·have hlt':(j:Int)<(mn:Nat):=by omega
      have hje:(j:Int)<es.length:=by omega
      have hwr:Below w.heap.size w wr:=hwx.trans ((l1.trans hlr).mono hwx.size);obtain⟨b',off',cp',e',_,_,hbb',hcs'⟩:=(hE.below hwr).cells (by omega)
      simp at e'
      obtain⟨rfl,rfl⟩:=e';have ce:=hcs' j (by omega);clear hcs';have hub:=hU.at j;have HPK:Hid (pk es dt (j+1)=zBq (pk es dt j) ((j:Int)*4) (es[j]?.getD 0)):=rfl;generalize es[j]?.getD 0=ev at*;have hpl:=zGu es dt j;have HPL:=zAd hpl;clear hpl;have hRj:=hOj.rd;have HOJ:=zAd hOj;clear hOj;go_wp2_with fail;refine(zCq _ (pk es dt j) ((j:Int)*4) ev wr (by rw[HPL.out];omega) hRj hub).mono ?_;rintro e w3 ⟨a3,rfl,hO3,hb3⟩;have l3:Later wr w3:=hb3;rw[HPL.out]at hO3⊢;rw[←HPK.out]at hO3;replace hO3:=hO3.mono (Nat.le_trans (Nat.le_trans hsz l1.size) hlr.size)
      have hl3:=hlr.trans l3;have HO3:=zAd hO3;clear hO3 HOJ hRj;go_wp2_with fail;go_roundw
      case rel=>exact⟨j+1,by omega,by go_num,⟨_,_,rfl,HO3.out⟩,hl3⟩
      case measure=>simp[intOf];omega
     ·obtain rfl:j=mn:=by omega
      have l2:=l1.trans hlr;have px2:=zAb hlr px1;have kx:=zAa px2;have r2:=zAb l2 rx;have hcur2:=zAb hlr hcur;have k1:wr.cell? ⟨g,k*2+1,none⟩=some (.slice sa dt.length sc):=hlr.cell c1;have fz:wr.frozen? ⟨g,k*2+1,none⟩=false:=zAc hcur2 _;have hrow2:=zCv HR.out (CK.of hlr);obtain⟨g',cp',e',_,_,_,_,_,hset2⟩:=zEr hrow2 (by omega)
      simp at e'
      obtain⟨rfl,rfl⟩:=e';have hr3:=hset2 (k*2+1) (.slice ad dt.length cd) (by omega);rw[←zFt os ss k _ hsl hkl]at hr3;have hgs:g≠w.heap.size:=fun e=>by rw[e,px2]at hcur2;simp at hcur2
      have hgr:g≠w.heap.size+1:=fun e=>by rw[e,r2]at hcur2;simp at hcur2
      have hbU:But (fun b=>b=g) wr (wr.setCell ⟨g,k*2+1,none⟩ (.slice ad dt.length cd)):=(But.refl (fun b=>b=g) _).setCell (p:=⟨g,k*2+1,none⟩) rfl _
      have hOU:OwO w0.heap.size (wr.setCell ⟨g,k*2+1,none⟩ (.slice ad dt.length cd)) (.slice (some ⟨g,0,none⟩) os.length cV) (wsk os es):=by
       rw[HS.out];refine⟨ss.set k (.slice ad dt.length cd),by simpa using hsl,?_,fun i hi=> ?_⟩
       ·rw[zGt os _ k ((os[k]?.getD (0,[])).1,pk es dt j) hkl rfl,List.length_set]
        exact hr3
       ·rw[List.length_set]at hi
        by_cases hik:i=k
        ·subst hik
         rw[List.getElem?_set_self (by omega),List.getElem?_set_self (by omega)];exact hOj.setO hcur2
        ·rw[List.getElem?_set_ne (fun e=>hik e.symm),List.getElem?_set_ne (fun e=>hik e.symm)]
         exact((HD.out i hi).ck (CK.of hlr)).setO hcur2
      have hDU:=(hD1.later' hlr).setO (j:=k*2+1) (s:= .slice ad dt.length cd) hcur2;have pU:=(hbU.block _ (bl9 px2) (fun e=>hgs e.symm)).trans px2;have r1:=(hbU.block _ (bl9 r2) (fun e=>hgr e.symm)).trans r2;have hw1:Below w.heap.size w (wr.setCell ⟨g,k*2+1,none⟩ (.slice ad dt.length cd)):=(hwx.trans (l2.mono hwx.size)).setCell (p:=⟨g,k*2+1,none⟩) (Nat.le_trans hb0.size hg) _;have HOU:=zAd hOU;have HDU:=zAd hDU;have PU:=zAd pU;have R1:=zAd r1;clear hOU hDU pU r1 hr3 hset2 hrow2 HD HR px1 px rx;go_upto_region 12 with fail;generalize wr.setCell ⟨g,k*2+1,none⟩ (.slice ad dt.length cd)=U at*;clear kx k1 fz c1;have r1:=R1.out;have kx:=zAa PU.out;have ky:=zAa r1;have fy:=zAc r1;go_wp2_with fail;generalize hV:World.setCell _ ⟨w.heap.size+1,8,none⟩ _=V;have hV8:V=zAi U (w.heap.size+1) 0 [.int .u16 sp,.int .u16 dp,.int .u32 sq,.int .u32 ak,.int .u8 fl,.int .u16 wn,.int .u16 ur,.slice (some ⟨g,0,none⟩) os.length cV,.slice am1 zm.length cm1]:=hV.symm;have hbV:But (fun b=>b=w.heap.size+1) U V:=by rw[hV8];exact zAf (E:=fun b=>b=w.heap.size+1) (n:=w.heap.size+1) rfl _ _ _ _ (But.refl _ _)
      have pV:=zAe ([.int .u16 sp,.int .u16 dp,.int .u32 sq,.int .u32 ak,.int .u8 fl,.int .u16 wn,.int .u16 ur,.slice (some ⟨g,0,none⟩) os.length cV,.slice am1 zm.length cm1]:List Value) r1 rfl;rw[←hV8]at pV;clear hV hV8 ky fy kx;have PV:=zAa pV;have hwV:Below w.heap.size w V:=hw1.trans (hbV.below hw1.size (fun k hk e=>by omega));have OV:=(HOU.out.setS r1 hbV).mono hb0.size;have DV:=(HDU.out.setS r1 hbV).mono hb0.size;exact bodyPost_ret (v:= .agg #[.int .u16 sp,.int .u16 dp,.int .u32 sq,.int .u32 ak,.int .u8 fl,.int .u16 wn,.int .u16 ur,.slice (some ⟨g,0,none⟩) os.length cV,.slice am1 zm.length cm1]) (by simp[results,Tryz.results368,go_sem,PV]) rfl ⟨hwV,_,_,rfl,OV,DV⟩
end Go.Proofs.YteaeilghamjjkaaGreatDoor
