import Derived.Test.YteaeilghamjjkaaGreatDoorX16
import Derived.Maps.RangeRun
namespace Go.Proofs.YteaeilghamjjkaaGreatDoor
set_option maxHeartbeats 8000000
open Go.RowKit Go.Shelf
set_option maxRecDepth 100000
set_option linter.unusedVariables false
set_option linter.unusedSimpArgs false
def tkn (lo hi wish:Nat):Nat:=if lo≤wish∧wish≤hi then wish else lo
theorem zPn(lo hi m:Nat)(h:lo≤hi):fr (zFb (zC1 lo hi)) m=decide (lo≤m∧m≤hi):=by
 rw[fr_wsOf,decide_eq_decide];exact zPj h
theorem els_new(lo hi:Nat)(h:lo≤hi)(hh:hi<65536):els (zFb (zC1 lo hi))=zC1 lo hi:=zK5 _ lo hi h hh (fun m _=>zPn lo hi m h)
theorem zM3(lo hi wish:Nat)(h:lo≤hi)(hh:hi<65536):fsn (fr (zFb (zC1 lo hi)) wish) wish (els (zFb (zC1 lo hi)))=tkn lo hi wish∧fsb (fr (zFb (zC1 lo hi)) wish) (els (zFb (zC1 lo hi)))=true:=by
 rw[zPn lo hi wish h,els_new lo hi h hh];obtain⟨L,hn⟩:=zT8 lo hi h;unfold fsn fsb tkn;by_cases hw:lo≤wish∧wish≤hi
 ·simp[hw]
 ·rw[decide_eq_false hw]
  rw[hn];simp[hw]
theorem zT9 {lo hi wish:Nat} (h:lo≤hi):lo≤tkn lo hi wish∧tkn lo hi wish≤hi:=by unfold tkn;split<;>omega
theorem GF.pool {base g:Nat} {W W':World} {s:Gf} {pr ad:Int} {b:Nat} {ws ws':Nat→Nat} (h:GF base W g (zI8 s pr ad b ws))(hb:But (fun x=>x=b) W W')(hp:PB base W' b (s.lo:Int) (s.hi:Int) ws'):GF base W' g (zI8 s pr ad b ws'):=by
 have hP:=h.pb ⟨pr,ad,b,ws⟩ (by simp[zI8]);have hE:=TE.one hP.2.2;obtain⟨k1,k2,k3,k4,k5,k6⟩:=h.keep hE hb (by decide)
 exact⟨h.bs,k1,k2,k3,k4,k5,k6,h.ne,h.bf,h.fm,rfl,fun f hf=>⟨(h.fb f hf).1,hE.keep hb (h.fb f hf).2 (zAr (by decide) _ _)⟩,fun p hp'=>by
  have e:p=⟨pr,ad,b,ws'⟩:=by simpa[zI8]using hp'
  subst e;exact hp⟩
def gTs:List TypeId:=[91,285,125,217,220,174,172,111,282]
theorem GF.other {base g:Nat} {W W':World} {s:Gf} (h:GF base W g s) {E:Nat→Prop} {ts:List TypeId} (hE:TE W E (isT ts))(hb:But E W W')(hts:ts.all (fun t=> !gTs.contains t)=true):GF base W' g s:=by
 have hn:∀t:TypeId,gTs.contains t=true→t∉ts:=fun t ht hm=>by
  have:=List.all_eq_true.1 hts t hm;rw[ht]at this;cases this
 exact⟨h.bs,hE.keep hb h.gc (zAr (hn _ (by decide)) _ _),⟨h.rl.1,hE.keep hb h.rl.2.1 (zAr (hn _ (by decide)) _ _),hE.own hb h.rl.2.2 (zAr (hn _ (by decide)))⟩,hE.table hb h.tb (zAr (hn _ (by decide))) (zAr (hn _ (by decide))),⟨h.bl.1,hE.keep hb h.bl.2.1 (zAr (hn _ (by decide)) _ _),hE.own hb h.bl.2.2 (zAr (hn _ (by decide)))⟩,hE.keep hb h.fl (zBw _ _),hE.keep hb h.pl (zBw _ _),h.ne,h.bf,h.fm,h.pm,fun f hf=>⟨(h.fb f hf).1,hE.keep hb (h.fb f hf).2 (zAr (hn _ (by decide)) _ _)⟩,fun p hp=>⟨(h.pb p hp).1,(h.pb p hp).2.1,hE.keep hb (h.pb p hp).2.2 (zAr (hn _ (by decide)) _ _)⟩⟩
def TnQ (base:Nat) (w w':World) (g:Nat) (s:Gf) (pr ad:Int) (wish:Nat) (e:Ending):Prop:=∃b,e= .returned (.tuple #[.agg #[.int .u8 pr,.int .u32 ad,.int .u16 (tkn s.lo s.hi wish:Int)],.bool true])∧But (fun b=>b=s.gp) w w'∧w.heap.size≤b∧GF base w' g (zI8 s pr ad b (wsR (zFb (zC1 s.lo s.hi)) (tkn s.lo s.hi wish)))
theorem zUa(base g:Nat)(s:Gf)(pr ad:Int)(wish:Nat)(w:World)(h:GF base w g s)(hps:s.ps=[])(h1:1≤s.lo)(h2:s.lo≤s.hi)(h3:s.hi<65536)(hw:wish<65536)(hbs:base≤w.heap.size)(hz:∀W,But (fun b=>b=s.gp) w W→Dz W)(hg:6≤w.heap.size):
  Calls Tryz.prog 282 #[.pointer (some ⟨g,0,none⟩),.agg #[.int .u8 pr,.int .u32 ad],.int .u16 (wish:Int)] w fun e w'=>TnQ base w w' g s pr ad wish e:=by
 obtain⟨l0,c0,c1⟩:=zBa w (.cells #[.int .u8 pr,.int .u32 ad] 119) (.cells #[.int .u8 0,.int .u32 0,.int .u16 0] 230);have C0:=zAd c0;have C1:=zAd c1;have HPL:=zAd (zT6 base g s pr ad _ (h.later l0) hps h1 h2 h3 (Nat.le_trans hbs l0.size));have hgp:=(eS h.pl);have HGP:=zAd hgp;clear c0 c1 h hps hgp;go_enter Tryz.func282,Tryz.ntmps282;go_upto_region 1 with fail;generalize (w.alloc (.cells #[.int .u8 pr,.int .u32 ad] 119)).alloc (.cells #[.int .u8 0,.int .u32 0,.int .u16 0] 230)=w1 at*;generalize hgx:w.heap.size=gx at C0 C1⊢;have k0:=zAa C0.out;have hs1:w.heap.size≤w1.heap.size:=l0.size;go_wp2_with fail;refine HPL.out.mono ?_;rintro e w2 ⟨b,rfl,m2,hb2,h2'⟩;clear k0 HPL;have hkeep:∀k,k=gx∨k=gx+1→¬(k=s.gp):=fun k hk e=>by have:=HGP.out;omega
 have D0:=zAd ((m2.block gx (eS C0.out) (hkeep gx (.inl rfl))).trans C0.out);have D1:=zAd ((m2.block (gx+1) (eS C1.out) (hkeep (gx+1) (.inr rfl))).trans C1.out);have M2:But (fun b=>b=s.gp) w w2:=(But.of l0).trans m2;have hx1:=(eS C1.out);have hz2:=hz w2 M2;have HTK:=zAd (zKx base b s.lo s.hi (zFb (zC1 s.lo s.hi)) wish w2 (h2'.pb ⟨pr,ad,b,zFb (zC1 s.lo s.hi)⟩ (by simp[zI8])) hw hz2 (by omega));obtain⟨e1,e2⟩:=zM3 s.lo s.hi wish h2 h3;rw[e1,tke_t e2]at HTK;unfold tkP at HTK;rw[e2]at HTK;clear e1 e2;have H2:=zAd h2';clear h2' hz hz2 C0 C1 m2;generalize hn:tkn s.lo s.hi wish=n at*;have HN:=zAd hn;clear hn;go_wp2_with fail;refine HTK.out.mono ?_;rintro e w3 ⟨rfl,hP3,m3⟩
 have hP3':PB base w3 b (s.lo:Int) (s.hi:Int) (wsR (zFb (zC1 s.lo s.hi)) n):=by
  rcases hP3 with⟨hf,_⟩|⟨_,hp⟩
  ·cases hf
  ·exact hp
 have h3':=H2.out.pool m3 hP3';have hbx:gx+1<b:=by omega
 have E0:=zAd ((m3.block gx (eS D0.out) (fun e=>by have e':gx=b:=e;omega)).trans D0.out);have E1:=zAd ((m3.block (gx+1) (eS D1.out) (fun e=>by have e':gx+1=b:=e;omega)).trans D1.out);have M3:But (fun b=>b=s.gp) w w3:=⟨m3.os.trans M2.os,m3.tape.trans M2.tape,m3.output.trans M2.output,Nat.le_trans M2.size m3.size,fun i hi he=>(m3.block i (Nat.lt_of_lt_of_le hi M2.size) (fun e=>by have e':i=b:=e;omega)).trans (M2.block i hi he)⟩;clear HTK hP3 m3 D0 D1 H2 M2;have k0:=zAa E0.out;have k1:=zAa E1.out;have f1:=zAc E1.out;go_wp2_with fail;generalize hV:World.setCell _ ⟨gx+1,2,none⟩ _=V8;have hV9:V8=zAi w3 (gx+1) 0 [.int .u8 pr,.int .u32 ad,.int .u16 (n:Int)]:=hV.symm;have hb8:But (fun b=>b=gx+1) w3 V8:=by rw[hV9];exact zAf (E:=fun b=>b=gx+1) (n:=gx+1) rfl _ _ _ _ (But.refl _ _)
 have p8:=zAe [.int .u8 pr,.int .u32 ad,.int .u16 (n:Int)] E1.out rfl;rw[←hV9]at p8;clear hV hV9;have P8:=zAa p8;have h8:=h3'.other (TE.one E1.out) hb8 (by decide);have M8:But (fun b=>b=s.gp) w V8:=⟨hb8.os.trans M3.os,hb8.tape.trans M3.tape,hb8.output.trans M3.output,Nat.le_trans M3.size hb8.size,fun i hi he=>(hb8.block i (Nat.lt_of_lt_of_le hi M3.size) (fun e=>by have e':i=gx+1:=e;omega)).trans (M3.block i hi he)⟩;exact bodyPost_ret (v:= .tuple #[.agg #[.int .u8 pr,.int .u32 ad,.int .u16 (n:Int)],.bool true]) (by simp[results,Tryz.results282,go_sem,P8]) rfl ⟨b,by rw[HN.out],M8,by omega,by rw[HN.out];exact h8⟩
theorem zUb(base gt:Nat)(cnt trn:Int)(rw:Nat→List Rw)(p x d a b:Int)(W:World)(h:TB base W gt 128 cnt trn rw)(hk:kx p x d a b rw=none)(hs:0≤x∧x≤4294967295)(hd:0≤d∧d≤4294967295)(ha:0≤a∧a≤65535)(hb:0≤b∧b≤65535):
  Calls Tryz.prog 103 #[.pointer (some ⟨gt,0,none⟩),.agg #[.int .u8 p,.int .u32 x,.int .u32 d,.int .u16 a,.int .u16 b]] W fun e w'=>e= .returned (.tuple #[.int .i64 0,.int .i64 0,.bool false])∧Later W w':=by
 refine(zS5 base gt 128 cnt trn rw p x d a b W h hs hd ha hb).mono ?_;rintro e w' ⟨h1,rfl⟩;exact⟨by unfold gtv;rw[hk],h1⟩
theorem zCm(base g:Nat)(s:Gf)(p x d a b:Int)(w:World)(h:GF base w g s)(hk:kx p x d a b s.rw=none)(hs:0≤x∧x≤4294967295)(hd:0≤d∧d≤4294967295)(ha:0≤a∧a≤65535)(hb:0≤b∧b≤65535):
  Calls Tryz.prog 49 #[.pointer (some ⟨g,0,none⟩),.agg #[.int .u8 p,.int .u32 x,.int .u32 d,.int .u16 a,.int .u16 b]] w fun e w'=>e= .returned (.tuple #[.pointer none,.bool false,.bool false])∧Later w w':=by
 have l0:=zAg w (.cells #[.int .u8 p,.int .u32 x,.int .u32 d,.int .u16 a,.int .u16 b] 103);have C0:=zAd (heap_alloc_new w (.cells #[.int .u8 p,.int .u32 x,.int .u32 d,.int .u16 a,.int .u16 b] 103));have HG:=zAd (h.later l0);have HGT:=zAd (fun W (l:Later w W)=>zUb base s.gt s.cnt s.trn s.rw p x d a b W (h.tb.laterD l) hk hs hd ha hb);clear h hs hd ha hb hk;go_enter Tryz.func49,Tryz.ntmps49;go_upto_region 1 with fail;generalize w.alloc _=w1 at*;generalize w.heap.size=gx at*;refine zAn (R:=Later) Later.pre Later.drew 13 rfl (by kernel_rfl) (fun V0 hV0=> ?_);have q0:∀v,Later V0 v→∀j,v.cell? ⟨gx,j,none⟩=#[.int .u8 p,.int .u32 x,.int .u32 d,.int .u16 a,.int .u16 b][j]? :=fun v hv=>zAa (zAb (hV0.trans hv) C0.out);have q1:∀v,Later V0 v→∀j,v.cell? ⟨g,j,none⟩=(gfc s).toArray[j]? :=fun v hv=>zAa (zAb (hV0.trans hv) HG.out.gc);unfold gfc at q1;refine rX Later.pre 0 ?_;refine rX Later.pre 1 ?_;refine rX Later.pre 2 ?_;refine rX Later.pre 3 ?_;refine rX Later.pre 4 ?_;clear q0 q1;refine zAq Later.pre 5 (.tuple #[.int .i64 0,.int .i64 0,.bool false]) rfl (by kernel_rfl) (by kernel_rfl) (by kernel_rfl) (fun _ _ _ h=>h) rfl (fun u hu=>zAo 103 #[.pointer (some ⟨s.gt,0,none⟩),.agg #[.int .u8 p,.int .u32 x,.int .u32 d,.int .u16 a,.int .u16 b]] (by go_simp) (HGT.out u (Later.trans l0 (hV0.trans hu)))) ?_;simp only[Act.put,sA,sB,sC];refine rX Later.pre 6 ?_;refine rX Later.pre 7 ?_;refine rX Later.pre 8 ?_;refine rX Later.pre 9 ?_
 refine rX Later.pre 10 ?_;refine rX Later.pre 11 ?_;refine rX Later.pre 12 ?_;refine rD (fun V9 hV9=> ?_);go_wp2_with fail;exact bodyPost_ret (v:= .tuple #[.pointer none,.bool false,.bool false]) (by simp[results,Tryz.results49,go_sem]) rfl ⟨rfl,Later.trans l0 (hV0.trans hV9)⟩
theorem zUc {w:World} {b:Nat} {es:Array MapEntry} {c:Nat} (hb:w.heap[b]? =some (.map es c)):(Builtin.len_ #[86] 3 #[.map (some b)]).run Tryz.prog w= .ok (.int .i64 (es.size:Int)) w:=by
 simp[Builtin.len_,Builtin.lenOf,run_underlying Tryz.underlying86,MapKept.run_getObj_map hb,Result.andThen,goInt]
theorem zUd(p x d a b p2 x2 d2 a2 b2:Int)(w:World)(h:¬(p=p2∧x=x2∧d=d2∧a=a2∧b=b2)):(binOp .neq 103 (.agg #[.int .u8 p,.int .u32 x,.int .u32 d,.int .u16 a,.int .u16 b]) (.agg #[.int .u8 p2,.int .u32 x2,.int .u32 d2,.int .u16 a2,.int .u16 b2])).run Tryz.prog w= .ok (.bool true) w:=by
 go_simp;by_cases h1:p=p2<;>by_cases h2:x=x2<;>by_cases h3:d=d2<;>by_cases h4:a=a2<;>by_cases h5:b=b2<;>simp_all
theorem zGq(base g:Nat)(s:Gf)(p x d a b p2 x2 d2 a2 b2:Int)(w:World)(h:GF base w g s)(hk:kx p x d a b s.rw=none)(hk2:kx p2 x2 d2 a2 b2 s.rw=none)(hs:0≤x∧x≤4294967295)(hd:0≤d∧d≤4294967295)(ha:0≤a∧a≤65535)(hb:0≤b∧b≤65535)(hs2:0≤x2∧x2≤4294967295)(hd2:0≤d2∧d2≤4294967295)(ha2:0≤a2∧a2≤65535)(hb2:0≤b2∧b2≤65535)(hfs:s.fs.length<64)(hne:¬(p=p2∧x=x2∧d=d2∧kyp p a=kyp p2 a2∧b=b2)):
  Calls Tryz.prog 283 #[.pointer (some ⟨g,0,none⟩),.agg #[.int .u8 p,.int .u32 x,.int .u32 d,.int .u16 a,.int .u16 b],.agg #[.int .u8 p2,.int .u32 x2,.int .u32 d2,.int .u16 a2,.int .u16 b2]] w fun e w'=>e= .returned (.bool true)∧Later w w':=by
 obtain⟨l0,c0,c1⟩:=zBa w (.cells #[.int .u8 p,.int .u32 x,.int .u32 d,.int .u16 a,.int .u16 b] 103) (.cells #[.int .u8 p2,.int .u32 x2,.int .u32 d2,.int .u16 a2,.int .u16 b2] 103);have C0:=zAd c0;have C1:=zAd c1;have HL1:=zAd (fun W (l:Later w W)=>zCm base g s p x d a b W (h.later l) hk hs hd ha hb);have HL2:=zAd (fun W (l:Later w W)=>zCm base g s p2 x2 d2 a2 b2 W (h.later l) hk2 hs2 hd2 ha2 hb2);have hfz:s.fe.size=s.fs.length:=by have:=congrArg List.length h.fm;simpa using this
 have HG:=zAd h;have HNE:=zAd hne;clear c0 c1 h hk hk2 hs hd ha hb hs2 hd2 ha2 hb2 hne;go_enter Tryz.func283,Tryz.ntmps283;go_upto_region 1 with fail;generalize (w.alloc (.cells #[.int .u8 p,.int .u32 x,.int .u32 d,.int .u16 a,.int .u16 b] 103)).alloc (.cells #[.int .u8 p2,.int .u32 x2,.int .u32 d2,.int .u16 a2,.int .u16 b2] 103)=w1 at*;generalize w.heap.size=gx at C0 C1⊢;have k0:=zAa C0.out;go_wp2_with fail;refine(HL1.out w1 l0).mono ?_;rintro e w2 ⟨rfl,l2⟩;clear k0 HL1;have L2:Later w w2:=l0.trans l2;have k1:=zAa (zAb l2 C1.out);go_wp2_with fail;refine(HL2.out w2 L2).mono ?_;rintro e w3 ⟨rfl,l3⟩;clear k1 HL2;have L3:Later w w3:=L2.trans l3;have D0:=zAd (zAb (Later.trans l2 l3) C0.out);have D1:=zAd (zAb (Later.trans l2 l3) C1.out);have H3:=zAd (HG.out.later L3);clear C0 C1 HG l2 l3 L2;go_upto_region 3 with fail;refine zAn (R:=Later) Later.pre Later.drew 22 rfl (by kernel_rfl) (fun V0 hV0=> ?_);have q0:∀v,Later V0 v→∀j,v.cell? ⟨gx,j,none⟩=#[.int .u8 p,.int .u32 x,.int .u32 d,.int .u16 a,.int .u16 b][j]? :=fun v hv=>zAa (zAb (hV0.trans hv) D0.out);have q1:∀v,Later V0 v→∀j,v.cell? ⟨gx+1,j,none⟩=#[.int .u8 p2,.int .u32 x2,.int .u32 d2,.int .u16 a2,.int .u16 b2][j]? :=fun v hv=>zAa (zAb (hV0.trans hv) D1.out);have q2:∀v,Later V0 v→∀j,v.cell? ⟨g,j,none⟩=(gfc s).toArray[j]? :=fun v hv=>zAa (zAb (hV0.trans hv) H3.out.gc);unfold gfc at q2
 have q3:∀v,Later V0 v→v.heap[s.gf]? =some (.map s.fe s.cf):=fun v hv=>zAb (hV0.trans hv) H3.out.fl;refine rX Later.pre 0 ?_;refine rX Later.pre 1 ?_;refine rX Later.pre 2 ?_;refine rX Later.pre 3 ?_;have hlI:((s.fs.length:Nat):Int)<64:=by omega
 have q4:∀v,Later V0 v→(Builtin.len_ #[86] 3 #[.map (some s.gf)]).run Tryz.prog v= .ok (.int .i64 ((s.fs.length:Nat):Int)) v:=fun v hv=>by rw[←hfz];exact zUc (q3 v hv)
 clear q3;refine rX Later.pre 4 ?_;refine rX Later.pre 5 ?_;clear q4;refine rX Later.pre 6 ?_;refine qX Later.pre 7 ?_;refine qX Later.pre 8 ?_;refine rX Later.pre 9 ?_;refine rX Later.pre 10 ?_;refine qX Later.pre 11 ?_;refine qX Later.pre 12 ?_;refine rX Later.pre 13 ?_;refine rX Later.pre 14 ?_;refine qX Later.pre 15 ?_;refine qX Later.pre 17 ?_;clear q0 q1 q2;refine zB3 Later.pre 16 (.agg #[.int .u8 p,.int .u32 x,.int .u32 d,.int .u16 (kyp p a),.int .u16 b]) rfl (by kernel_rfl) (by kernel_rfl) (by kernel_rfl) (fun _ _ _ h=>h) (by rfl) (fun u hu=>zAo 104 #[.agg #[.int .u8 p,.int .u32 x,.int .u32 d,.int .u16 a,.int .u16 b]] (by go_simp) (zD8 p x d a b u)) ?_;simp only[Act.put,sA,sB,sC];refine zB3 Later.pre 18 (.agg #[.int .u8 p2,.int .u32 x2,.int .u32 d2,.int .u16 (kyp p2 a2),.int .u16 b2]) rfl (by kernel_rfl) (by kernel_rfl) (by kernel_rfl) (fun _ _ _ h=>h) (by rfl) (fun u hu=>zAo 104 #[.agg #[.int .u8 p2,.int .u32 x2,.int .u32 d2,.int .u16 a2,.int .u16 b2]] (by go_simp) (zD8 p2 x2 d2 a2 b2 u)) ?_;simp only[Act.put,sA,sB,sC];generalize kyp p a=ka at*;generalize kyp p2 a2=ka2 at*;have q5:∀v:World,(binOp .neq 103 (.agg #[.int .u8 p,.int .u32 x,.int .u32 d,.int .u16 ka,.int .u16 b]) (.agg #[.int .u8 p2,.int .u32 x2,.int .u32 d2,.int .u16 ka2,.int .u16 b2])).run Tryz.prog v= .ok (.bool true) v:=fun v=>zUd p x d ka b p2 x2 d2 ka2 b2 v HNE.out
 refine zKd Later.pre 19 rfl (by kernel_rfl) (by kernel_rfl) (by kernel_rfl) (fun _ _ _ _ h=>h) (by rfl) ⟨.bool true,fun v1 hv1=>by first|(simp only[execOp,Act.eval,Array.getD_eq_getD_getElem?,List.getElem?_toArray,List.getElem?_cons_zero,List.getElem?_cons_succ,Option.getD_some,Sem.run_bind,q5,Result.andThen];rfl)|(have hn:=HNE.out;clear q5;go_simp;by_cases g1:p=p2<;>by_cases g2:x=x2<;>by_cases g3:d=d2<;>by_cases g4:ka=ka2<;>by_cases g5:b=b2<;>simp_all),?_⟩;simp only[Act.put,sA,sB,sC];refine rX Later.pre 20 ?_;refine rX Later.pre 21 ?_;refine rD (fun V9 hV9=> ?_);go_wp2_with fail;go_ret
 exact⟨rfl,L3.trans (hV0.trans hV9)⟩
def Rf (n:Nat) (A B:World):Prop:=But (fun b=>b=n) A B∧∀j,j≠12→j≠13→B.cell? ⟨n,j,none⟩=A.cell? ⟨n,j,none⟩
theorem Rf.pre(n:Nat):Pre (Rf n):=⟨fun A=>⟨But.refl _ _,fun _ _ _=>rfl⟩,fun A B C h k=>⟨h.1.trans k.1,fun j h1 h2=>(k.2 j h1 h2).trans (h.2 j h1 h2)⟩⟩
def Fl.at (f:Fl) (st till:Int):Fl:= { f with st:=st,till:=till }
def withF (s:Gf) (f:Fl):Gf:= { s with fs:=s.fs.map (fun x=>if x.blk=f.blk then f else x) }
theorem GF.flow {base g:Nat} {W W':World} {s:Gf} (h:GF base W g s)(f f2:Fl)(hf:f∈s.fs)(hu:∀x∈s.fs,x.blk=f.blk→x=f)(hb:But (fun x=>x=f.blk) W W')(e1:f2.blk=f.blk)(e2:f2.id=f.id)(h2:W'.heap[f.blk]? =some (.cells (flc f2).toArray 111 (0,0))):GF base W' g (withF s f2):=by
 have hF:=h.fb f hf;have hE:=TE.one hF.2;obtain⟨k1,k2,k3,k4,k5,k6⟩:=h.keep hE hb (by decide);refine⟨h.bs,k1,k2,k3,k4,k5,k6,h.ne,h.bf,?_,h.pm,fun x hx=> ?_,fun p hp=>⟨(h.pb p hp).1,(h.pb p hp).2.1,hE.keep hb (h.pb p hp).2.2 (zAr (by decide) _ _)⟩⟩
 ·show s.fe.toList.map (fun e=>(e.key,e.val))=(s.fs.map _).map flE
  rw[h.fm];rw[List.map_map];apply List.map_congr_left
  intro x hx
  show flE x=flE (if x.blk=f2.blk then f2 else x)
  split
  ·rename_i e
   have:=hu x hx (e.trans e1);subst this;unfold flE;rw[e1,e2]
  ·rfl
 ·obtain ⟨y,hy,rfl⟩:=List.mem_map.1 hx
  split
  ·rw[e1]
   exact⟨hF.1,h2⟩
  ·rename_i e
   exact⟨(h.fb y hy).1,(hb.block y.blk (Array.getElem?_eq_some_iff.1 (h.fb y hy).2).1 (fun e'=>e (by have e2:y.blk=f.blk:=e';rw[e2,e1]))).trans (h.fb y hy).2⟩
theorem zK6 {s:Gf} {f f2:Fl} (hf:f∈s.fs)(e:f2.blk=f.blk):f2∈(withF s f2).fs:=List.mem_map.2 ⟨f,hf,by rw[if_pos e.symm]⟩
theorem GF.moved {base g:Nat} {W W':World} {s:Gf} (h:GF base W g s)(hk:KT W W')(hb:KM W W') {trn:Int} {rw:Nat→List Rw} (ht:TB base W' s.gt 128 s.cnt trn rw):GF base W' g { s with trn:=trn,rw:=rw } :=by
 have ho:∀ {e:TypeId} {size:Nat} {v:Value} {n:Nat} {xs:List Value},e≠217→e≠220→W.ownsRow base e size v n xs→W'.ownsRow base e size v n xs:=fun h1 h2 q=>by
  obtain⟨q1,q2|⟨b,cap,cur',e',hb',hh,r⟩⟩:=q
  ·exact ⟨q1,.inl q2⟩
  ·exact ⟨q1,.inr ⟨b,cap,cur',e',hb',hk _ _ _ _ hh h1 h2,r⟩⟩
 exact⟨h.bs,hk _ _ _ _ h.gc (by decide) (by decide),⟨h.rl.1,hk _ _ _ _ h.rl.2.1 (by decide) (by decide),ho (by decide) (by decide) h.rl.2.2⟩,ht,⟨h.bl.1,hk _ _ _ _ h.bl.2.1 (by decide) (by decide),ho (by decide) (by decide) h.bl.2.2⟩,hb.map h.fl,hb.map h.pl,h.ne,h.bf,h.fm,h.pm,fun f hf=>⟨(h.fb f hf).1,hk _ _ _ _ (h.fb f hf).2 (by decide) (by decide)⟩,fun p hp=>⟨(h.pb p hp).1,(h.pb p hp).2.1,hk _ _ _ _ (h.pb p hp).2.2 (by decide) (by decide)⟩⟩
def gK (o:Obj):Prop:=match o with
 | .cells _ t _=>gTs.contains t=true
 | .map _ _=>True
 |_=>False
structure KG (base:Nat) (w w':World):Prop where
 os:w'.os=w.os
 tape:w'.tape=w.tape
 output:w'.output=w.output
 size:w.heap.size≤w'.heap.size
 block:∀(k:Nat) (o:Obj),w.heap[k]? =some o→(k<base∨¬gK o)→w'.heap[k]? =some o
theorem KG.refl(base:Nat)(w:World):KG base w w:=⟨rfl,rfl,rfl,Nat.le_refl _,fun _ _ h _=>h⟩
theorem KG.trans {base:Nat} {a b c:World} (h:KG base a b)(k:KG base b c):KG base a c:=⟨k.os.trans h.os,k.tape.trans h.tape,k.output.trans h.output,Nat.le_trans h.size k.size,fun i o h1 h2=>k.block i o (h.block i o h1 h2) h2⟩
theorem KG.of_later {base:Nat} {a b:World} (h:Later a b):KG base a b:=⟨h.os,h.tape,h.output,h.size,fun _ _ h1 _=>zAb h h1⟩
theorem KG.of_but {base:Nat} {E:Nat→Prop} {a b:World} (h:But E a b)(hE:∀k,E k→base≤k∧∀o,a.heap[k]? =some o→gK o):KG base a b:=⟨h.os,h.tape,h.output,h.size,fun k o h1 h2=>(h.block k (eS h1) (fun e=>by
 obtain⟨q1,q2⟩:=hE k e;rcases h2 with h2|h2
 ·omega
 ·exact h2 (q2 o h1))).trans h1⟩
theorem KG.below {base:Nat} {a b:World} (h:KG base a b)(hb:base≤a.heap.size):Below base a b:=⟨h.os,h.tape,h.output,h.size,fun i hi=>by
 have hi':i<a.heap.size:=Nat.lt_of_lt_of_le hi hb;obtain⟨o,ho⟩:∃o,a.heap[i]? =some o:=⟨_,Array.getElem?_eq_getElem hi'⟩;rw[ho];exact h.block i o ho (.inl hi)⟩
theorem KG.cells {base:Nat} {a b:World} (h:KG base a b) {k:Nat} {cur:Array Value} {t:TypeId} {f:Nat × Nat} (hk:a.heap[k]? =some (.cells cur t f))(ht:gTs.contains t=false):b.heap[k]? =some (.cells cur t f):=h.block k _ hk (.inr (by show ¬(gTs.contains t=true);rw[ht];simp))
def KX (w w':World):Prop:=KT w w'
theorem KX.pre:Pre KX:=⟨fun a k cur t f h _ _=>h,fun a b c h k i cur t f q h1 h2=>k i cur t f (h i cur t f q h1 h2) h1 h2⟩
theorem KX.of {w w':World} (h:KT w w'):KX w w':=h
def TuB (t:Tu):Prop:=(0≤t.src∧t.src≤4294967295)∧(0≤t.dst∧t.dst≤4294967295)∧(0≤t.sp∧t.sp≤65535)∧(0≤t.dp∧t.dp≤65535)
def kxT (t:Tu) (ls:Nat→List Rw):Option Nat:=kx t.pr t.src t.dst t.sp t.dp ls
def bkT (t:Tu):Nat:=bki t.pr t.src t.dst t.sp t.dp
def mvT (t:Tu) (till:Int) (q:Int × (Nat→List Rw)):Int × (Nat→List Rw):=match (if zEw till=false then none else kxT t q.2) with
 |none=>q
 |some k=>(q.1+1,mvL q.2 (bkT t) k till (q.1+1))
theorem mvT_fst(t:Tu)(till:Int)(q:Int × (Nat→List Rw)):q.1≤(mvT t till q).1∧(mvT t till q).1≤q.1+1:=by
 unfold mvT;split
 ·omega
 ·exact ⟨by show q.1≤q.1+1;omega,Int.le_refl _⟩
theorem moveF(base gt:Nat)(cnt trn:Int)(rw:Nat→List Rw)(t:Tu)(till:Int)(w:World)(hT:TB base w gt 128 cnt trn rw)(hB:TuB t)(hbs:base≤w.heap.size)(htr:0≤trn∧trn≤1000000):
  Calls Tryz.prog 242 #[.pointer (some ⟨gt,0,none⟩),.agg #[.int .u8 t.pr,.int .u32 t.src,.int .u32 t.dst,.int .u16 t.sp,.int .u16 t.dp],.int .i64 till] w fun e w'=>∃ev:Int,e= .returned (.int .i64 ev)∧TB base w' gt 128 cnt (mvT t till (trn,rw)).1 (mvT t till (trn,rw)).2∧KT w w'∧KM w w'∧KG base w w':=by
 refine(move_any base gt 128 cnt trn rw t.pr t.src t.dst t.sp t.dp till w hT hB.1 hB.2.1 hB.2.2.1 hB.2.2.2 hbs htr).mono ?_;rintro e w' ⟨he,⟨h0,h1,h2⟩|⟨h0,k,gg,hk,hbg,h1,h2,h3,h4⟩⟩
 ·refine ⟨_,he,?_,KT.of_later h2,KM.of_later h2,KG.of_later h2⟩
  have e1:(if zEw till=false then none else kxT t rw)=none:=by
   unfold move at h0;split
   ·rfl
   ·rename_i hm
    rw[if_neg hm]at h0;by_cases e:kx t.pr t.src t.dst t.sp t.dp rw=none
    ·exact e
    ·rw[if_neg e]at h0;exact absurd rfl h0
  have e2:mvT t till (trn,rw)=(trn,rw):=by unfold mvT;rw[e1]
  rw[e2];exact h1
 ·refine ⟨_,he,?_,h3,h4,h2.os,h2.tape,h2.output,h2.size,fun i o q1 q2=> ?_⟩
  ·have e1:(if zEw till=false then none else kxT t rw)=some k:=by
    unfold move at h0;split
    ·rename_i hm
     rw[if_pos hm]at h0;exact absurd h0 (by decide)
    ·exact hk
   have e2:mvT t till (trn,rw)=(trn+1,mvL rw (bkT t) k till (trn+1)):=by unfold mvT;rw[e1]
   rw[e2];exact h1
  ·rcases q2 with q2|q2
   ·obtain ⟨vs,hTv⟩:=hT
    refine(h2.block i (eS q1) (fun e=> ?_)).trans q1;have:=hTv.2.1;rcases e with e|e<;>omega
   ·refine h4 i o q1 (fun cur ty fz e=>⟨fun e2=>q2 ?_,fun e2=>q2 ?_⟩)
    ·subst e;subst e2;show gTs.contains _=true;decide
    ·subst e;subst e2;show gTs.contains _=true;decide
def bcM (s:Gf) (f:Fl) (tl:Int):Int × (Nat→List Rw):=mvT f.r tl (mvT f.o tl (s.trn,s.rw))
def bcS (s:Gf) (f:Fl) (st:Int):Gf:= { withF s (f.at st (s.now+tm f.o.pr st))with trn:=(bcM s f (s.now+tm f.o.pr st)).1,rw:=(bcM s f (s.now+tm f.o.pr st)).2 }
theorem tm_bd(p s:Int):0≤tm p s∧tm p s≤432000:=by
 unfold tm tmT tmO;repeat' split
 all_goals omega
theorem zPo {a b:Int} (h1:0≤a)(h2:a≤549755813888)(h3:0≤b∧b≤432000):IntKind.i64.wrap (a+b)=a+b:=by
 exact zMx _ (by omega) (by omega)
theorem Rf.set {n:Nat} (w:World) {j:Nat} (v:Value)(hj:j=12∨j=13):Rf n w (w.setCell ⟨n,j,none⟩ v):=⟨(But.refl (fun b=>b=n) w).setCell (p:=⟨n,j,none⟩) (show _=_ from rfl) v,fun i h1 h2=>by
 exact World.cell?_setCell_other _ _ _ _ (fun e=>by injection e with e1 e2 e3;omega)⟩
theorem zH6(base g:Nat)(s:Gf)(f:Fl)(st:Int)(w:World)(h:GF base w g s)(hf:f∈s.fs)(hu:∀x∈s.fs,x.blk=f.blk→x=f)(hbs:base≤w.heap.size)(hBo:TuB f.o)(hBr:TuB f.r)(htr:0≤s.trn∧s.trn≤999999)(hnw:0≤s.now∧s.now≤549755813888):
  Calls Tryz.prog 173 #[.pointer (some ⟨g,0,none⟩),.pointer (some ⟨f.blk,0,none⟩),.int .i64 st] w fun e w'=>e= .returned (.tuple #[])∧KG base w w'∧GF base w' g (bcS s f st):=by
 obtain⟨tl,htl⟩:∃tl,tl=s.now+tm f.o.pr st:=⟨_,rfl⟩;have HTL:=zAd htl;have hwr:IntKind.i64.wrap (s.now+tm f.o.pr st)=tl:=by rw[htl];exact zPo hnw.1 hnw.2 (tm_bd _ _)
 have HWR:=zAd hwr;have hFB:=h.fb f hf;have HF:=zAd hFB;have HG:=zAd h
 have hgf:g≠f.blk:=fun e=>by
  have h1:=h.gc;rw[e,hFB.2]at h1;injection h1 with h2
  injection h2 with h3 h4 h5
  exact absurd h4 (by decide)
 have HGF:=zAd hgf;have hSf:=fun W' (hb:But (fun x=>x=f.blk) w W') (h2:W'.heap[f.blk]? =some (.cells (flc (f.at st tl)).toArray 111 (0,0)))=>h.flow f (f.at st tl) hf hu hb rfl rfl h2;have HSF:=zAd hSf;clear h hFB hgf htl hwr hSf hnw;go_enter Tryz.func173,Tryz.ntmps173;go_upto_region 0 with fail;refine zAl (R:=Rf f.blk) 24 rfl (by kernel_rfl) ?_;have ld:Later w w.drew:=Later.drew w;generalize hwd:w.drew=wd at*;clear hwd;have k1:∀v,Rf f.blk wd v→∀j,v.cell? ⟨g,j,none⟩=(gfc s).toArray[j]? :=fun v hv=>zAa ((hv.1.block g (eS (zAb ld HG.out.gc)) (fun e=>HGF.out e)).trans (zAb ld HG.out.gc));have k2:∀v,Rf f.blk wd v→v.cell? ⟨f.blk,1,none⟩=some (.int .u8 f.o.pr):=fun v hv=>(hv.2 1 (by decide) (by decide)).trans (zAa (zAb ld HF.out.2) 1);unfold gfc at k1;refine tX (Rf.pre f.blk) 0 ?_;refine tX (Rf.pre f.blk) 1 ?_;refine tX (Rf.pre f.blk) 2 ?_;refine tX (Rf.pre f.blk) 3 ?_;refine tX (Rf.pre f.blk) 4 ?_;refine tX (Rf.pre f.blk) 5 ?_;refine tX (Rf.pre f.blk) 6 ?_;refine tX (Rf.pre f.blk) 7 ?_;refine tX (Rf.pre f.blk) 8 ?_;refine tX (Rf.pre f.blk) 9 ?_;refine tX (Rf.pre f.blk) 10 ?_;refine tX (Rf.pre f.blk) 11 ?_;refine tX (Rf.pre f.blk) 12 ?_;refine tX (Rf.pre f.blk) 13 ?_;refine tO 14 ?_;refine zAj 241 #[.int .u8 f.o.pr,.int .i64 st] (by go_simp) ?_;refine(time_any f.o.pr st wd).mono ?_;rintro e w1 ⟨rfl,rfl⟩;refine⟨(Rf.pre f.blk).1 _,?_⟩;simp only[Act.put,sA,sB,sC]
 refine tV (Rf.pre f.blk) 15 rfl rfl ⟨.int .i64 tl,fun v1 hv1=>by(have hq:=HWR.out;go_simp),?_⟩;simp only[Act.put,sA,sB,sC];refine tX (Rf.pre f.blk) 16 ?_;refine tX (Rf.pre f.blk) 17 ?_;refine tX (Rf.pre f.blk) 18 ?_;clear k1 k2;have kc:=zAa (zAb ld HF.out.2);have fz:=zAc (zAb ld HF.out.2);unfold flc at kc;refine tO 19 ?_;unfold Oper.wp;go_simp;refine⟨Rf.set _ _ (.inl rfl),?_⟩;have c1:=zAh (zAb ld HF.out.2) 12 (.int .i64 st);have kc2:=zAa c1;have fz2:=zAc c1;clear kc fz;refine tX (Rf.pre f.blk) 20 ?_;refine tX (Rf.pre f.blk) 21 ?_;refine tX (Rf.pre f.blk) 22 ?_;refine tO 23 ?_;unfold Oper.wp;go_simp;refine⟨Rf.set _ _ (.inr rfl),?_⟩;refine tD ?_;have c2:=zAh c1 13 (.int .i64 tl);have hbb:But (fun x=>x=f.blk) w ((w1.setCell ⟨f.blk,12,none⟩ (.int .i64 st)).setCell ⟨f.blk,13,none⟩ (.int .i64 tl)):=((But.of (E:=fun x=>x=f.blk) ld).setCell (p:=⟨f.blk,12,none⟩) (show _=_ from rfl) (.int .i64 st)).setCell (p:=⟨f.blk,13,none⟩) (show _=_ from rfl) (.int .i64 tl);clear kc2 fz2 c1;generalize (w1.setCell ⟨f.blk,12,none⟩ (.int .i64 st)).setCell ⟨f.blk,13,none⟩ (.int .i64 tl)=w2 at*;have H1:=zAd (HSF.out w2 hbb c2)
 have M1:Hid (KG base w w2):=KG.of_but hbb (fun k e=>by
  have e':k=f.blk:=e;refine⟨by rw[e'];exact HF.out.1,fun o ho=> ?_⟩;rw[e',HF.out.2]at ho;cases ho
  show gTs.contains _=true
  decide)
 clear HSF HGF HG HF hbb c2 ld hu HWR;go_upto_region 1 with fail;refine zAl (R:=KX) 15 rfl (by kernel_rfl) ?_;have ld:Later w2 w2.drew:=Later.drew w2;generalize w2.drew=w2d at*;have HD1:=zAd (H1.out.later ld);have MD1:=zAd (M1.out.trans (KG.of_later ld));clear H1 M1 ld;have hbd:base≤w2d.heap.size:=Nat.le_trans hbs MD1.out.size;have k1:∀v,KX w2d v→∀j,v.cell? ⟨g,j,none⟩=(gfc s).toArray[j]? :=fun v hv=>zAa (hv g _ _ _ HD1.out.gc (by decide) (by decide));have k2:∀v,KX w2d v→∀j,v.cell? ⟨f.blk,j,none⟩=(flc (f.at st tl)).toArray[j]? :=fun v hv=>zAa (hv f.blk _ _ _ (HD1.out.fb (f.at st tl) (zK6 hf rfl)).2 (by decide) (by decide));unfold gfc at k1;unfold flc Fl.at at k2;refine tX KX.pre 0 ?_;refine tX KX.pre 1 ?_;refine tX KX.pre 2 ?_;refine tX KX.pre 3 ?_;refine tX KX.pre 4 ?_;refine tX KX.pre 5 ?_;refine tX KX.pre 6 ?_;refine tX KX.pre 7 ?_;refine tX KX.pre 8 ?_;refine tX KX.pre 9 ?_;refine tX KX.pre 10 ?_;refine tX KX.pre 11 ?_;refine tX KX.pre 12 ?_;refine tX KX.pre 13 ?_;clear k1 k2;refine tO 14 ?_;refine zAj 242 #[.pointer (some ⟨s.gt,0,none⟩),.agg #[.int .u8 f.o.pr,.int .u32 f.o.src,.int .u32 f.o.dst,.int .u16 f.o.sp,.int .u16 f.o.dp],.int .i64 tl] (by go_simp) ?_;refine(moveF base s.gt s.cnt (s.trn,s.rw).1 (s.trn,s.rw).2 f.o tl w2d HD1.out.tb hBo hbd (by exact⟨htr.1,by show s.trn≤1000000;omega⟩)).mono ?_;rintro e w3 ⟨ev,rfl,hT,hk,hm,hg⟩;refine⟨KX.of hk,?_⟩;simp only[Act.put,sA,sB,sC];refine tD ?_;have H2:=zAd (HD1.out.moved hk hm hT)
 have M2:=zAd (MD1.out.trans hg);clear HD1 MD1 hT hk hm hg hbd;go_upto_region 2 with fail;refine zAl (R:=KX) 15 rfl (by kernel_rfl) ?_;have ld:Later w3 w3.drew:=Later.drew w3;generalize w3.drew=w3d at*;have HD2:=zAd (H2.out.later ld);have MD2:=zAd (M2.out.trans (KG.of_later ld));clear H2 M2 ld;have hbd:base≤w3d.heap.size:=Nat.le_trans hbs MD2.out.size;have k1:∀v,KX w3d v→∀j,v.cell? ⟨g,j,none⟩=(gfc s).toArray[j]? :=fun v hv=>zAa (hv g _ _ _ HD2.out.gc (by decide) (by decide));have k2:∀v,KX w3d v→∀j,v.cell? ⟨f.blk,j,none⟩=(flc (f.at st tl)).toArray[j]? :=fun v hv=>zAa (hv f.blk _ _ _ (HD2.out.fb (f.at st tl) (zK6 hf rfl)).2 (by decide) (by decide));unfold gfc at k1;unfold flc Fl.at at k2;refine tX KX.pre 0 ?_;refine tX KX.pre 1 ?_;refine tX KX.pre 2 ?_;refine tX KX.pre 3 ?_;refine tX KX.pre 4 ?_;refine tX KX.pre 5 ?_;refine tX KX.pre 6 ?_;refine tX KX.pre 7 ?_;refine tX KX.pre 8 ?_;refine tX KX.pre 9 ?_;refine tX KX.pre 10 ?_;refine tX KX.pre 11 ?_;refine tX KX.pre 12 ?_;refine tX KX.pre 13 ?_;clear k1 k2;refine tO 14 ?_;refine zAj 242 #[.pointer (some ⟨s.gt,0,none⟩),.agg #[.int .u8 f.r.pr,.int .u32 f.r.src,.int .u32 f.r.dst,.int .u16 f.r.sp,.int .u16 f.r.dp],.int .i64 tl] (by go_simp) ?_;refine(moveF base s.gt s.cnt (mvT f.o tl (s.trn,s.rw)).1 (mvT f.o tl (s.trn,s.rw)).2 f.r tl w3d HD2.out.tb hBr hbd (by have:=mvT_fst f.o tl (s.trn,s.rw);simp only at this;omega)).mono ?_;rintro e w4 ⟨ev,rfl,hT,hk,hm,hg⟩;refine⟨KX.of hk,?_⟩
 simp only[Act.put,sA,sB,sC];refine tD ?_;have H3:=zAd (HD2.out.moved hk hm hT);have M3:=zAd (MD2.out.trans hg);clear HD2 MD2 hT hk hm hg hbd;go_wp2_with fail;go_end0
 refine⟨rfl,M3.out,?_⟩;have h3:=H3.out;rw[HTL.out]at h3;exact h3
def noh:Value:= .iface 468 (.agg #[])
def ptT (t:Tu) (id till:Int) (q:Int × Int × (Nat→List Rw)):Int × Int × (Nat→List Rw):=if zQx 128 q.1 q.2.2 t.pr t.src t.dst t.sp t.dp till=0 then(q.1+1,q.2.1+1,zSc q.2.2 (bkT t) ⟨t.pr,t.src,t.dst,kyp t.pr t.sp,t.dp,id,till,q.2.1+1⟩)else q
theorem zK7(t:Tu)(id till:Int)(q:Int × Int × (Nat→List Rw)):q.1≤(ptT t id till q).1∧(ptT t id till q).1≤q.1+1∧q.2.1≤(ptT t id till q).2.1∧(ptT t id till q).2.1≤q.2.1+1∧∀i,((ptT t id till q).2.2 i).length≤(q.2.2 i).length+1:=by
 unfold ptT;split
 ·refine ⟨by show q.1≤q.1+1;omega,Int.le_refl _,by show q.2.1≤q.2.1+1;omega,Int.le_refl _,fun i=> ?_⟩
  show(zSc q.2.2 _ _ i).length≤_
  unfold zSc;split
  ·rename_i e;simp[e]
  ·omega
 ·exact ⟨by omega,by omega,by omega,by omega,fun i=>by omega⟩
theorem putF(base gt:Nat)(cnt trn:Int)(rw:Nat→List Rw)(t:Tu)(id till:Int)(w:World)(hT:TB base w gt 128 cnt trn rw)(hB:TuB t)(hbs:base≤w.heap.size)(htr:0≤trn∧trn≤1000000)(hcn:0≤cnt∧cnt≤4096)(hln:∀i,(rw i).length≤5000):
  Calls Tryz.prog 314 #[.pointer (some ⟨gt,0,none⟩),.agg #[.int .u8 t.pr,.int .u32 t.src,.int .u32 t.dst,.int .u16 t.sp,.int .u16 t.dp],.int .i64 id,.int .i64 till] w fun e w'=>∃ev:Int,e= .returned (.int .i64 ev)∧TB base w' gt 128 (ptT t id till (cnt,trn,rw)).1 (ptT t id till (cnt,trn,rw)).2.1 (ptT t id till (cnt,trn,rw)).2.2∧KT w w'∧KM w w'∧KG base w w':=by
 obtain⟨vs,hTv⟩:=hT;refine(tput_any base gt 128 cnt trn vs rw t.pr t.src t.dst t.sp t.dp id till w hTv hB.1 hB.2.1 hB.2.2.1 hB.2.2.2 hbs htr hcn (by omega) (hln _)).mono ?_;rintro e w' ⟨he,⟨h0,h1,h2⟩|⟨h0,h1,h2⟩⟩
 ·refine ⟨_,he,?_,KT.of_later h2,KM.of_later h2,KG.of_later h2⟩
  have e2:ptT t id till (cnt,trn,rw)=(cnt,trn,rw):=by unfold ptT;rw[if_neg h0]
  rw[e2];exact⟨vs,h1⟩
 ·have ty:=hTv.typed (bki t.pr t.src t.dst t.sp t.dp) (zDz _ _ _ _ _)
  refine⟨_,he,?_,KT.of_but h2 ty,KM.of_but h2 ty,KG.of_but h2 (fun k e=> ?_)⟩
  ·have e2:ptT t id till (cnt,trn,rw)=(cnt+1,trn+1,zSc rw (bkT t) ⟨t.pr,t.src,t.dst,kyp t.pr t.sp,t.dp,id,till,trn+1⟩):=by unfold ptT;rw[if_pos h0]
   rw[e2];exact h1
  ·refine ⟨?_,fun ob ho=> ?_⟩
   ·rcases e with e|e
    ·rw[e];exact hTv.2.1
    ·rcases (hTv.2.2.2.1 _ (zDz t.pr t.src t.dst t.sp t.dp)).2 with⟨e2,_⟩|⟨g',cp,cur,e2,hb',_⟩
     ·rw[e2]at e;cases e
     ·rw[e2]at e;cases e;exact hb'
   ·obtain ⟨cur,tt,fz,hh,ht⟩:=ty k e
    rw[hh]at ho;cases ho
    show gTs.contains _=true
    rcases ht with ht|ht<;>(rw[ht];decide)
theorem GF.tabled {base g:Nat} {W W':World} {s:Gf} (h:GF base W g s)(hk:KT W W')(hb:KM W W') {cnt trn:Int} {rw:Nat→List Rw} (ht:TB base W' s.gt 128 cnt trn rw):GF base W' g { s with cnt:=cnt,trn:=trn,rw:=rw } :=by
 have ho:∀ {e:TypeId} {size:Nat} {v:Value} {n:Nat} {xs:List Value},e≠217→e≠220→W.ownsRow base e size v n xs→W'.ownsRow base e size v n xs:=fun h1 h2 q=>by
  obtain⟨q1,q2|⟨b,cap,cur',e',hb',hh,r⟩⟩:=q
  ·exact ⟨q1,.inl q2⟩
  ·exact ⟨q1,.inr ⟨b,cap,cur',e',hb',hk _ _ _ _ hh h1 h2,r⟩⟩
 exact⟨h.bs,hk _ _ _ _ h.gc (by decide) (by decide),⟨h.rl.1,hk _ _ _ _ h.rl.2.1 (by decide) (by decide),ho (by decide) (by decide) h.rl.2.2⟩,ht,⟨h.bl.1,hk _ _ _ _ h.bl.2.1 (by decide) (by decide),ho (by decide) (by decide) h.bl.2.2⟩,hb.map h.fl,hb.map h.pl,h.ne,h.bf,h.fm,h.pm,fun f hf=>⟨(h.fb f hf).1,hk _ _ _ _ (h.fb f hf).2 (by decide) (by decide)⟩,fun p hp=>⟨(h.pb p hp).1,(h.pb p hp).2.1,hk _ _ _ _ (h.pb p hp).2.2 (by decide) (by decide)⟩⟩
def Gf.begun (s:Gf) (f:Fl):Gf:= { s with bg:=s.bg+1,fs:=s.fs++[f],fe:=s.fe.push ⟨.int .i64 f.id,.pointer (some ⟨f.blk,0,none⟩),s.cf⟩,cf:=s.cf+1 }
def opM (s:Gf) (f:Fl):Int × Int × (Nat→List Rw):=ptT f.r f.id s.now (ptT f.o f.id s.now (s.cnt,s.trn,s.rw))
def opS (s:Gf) (f:Fl):Gf:= { s.begun f with cnt:=(opM s f).1,trn:=(opM s f).2.1,rw:=(opM s f).2.2 }
theorem GF.count {base g:Nat} {W:World} {s:Gf} (h:GF base W g s)(n:Int):GF base (W.setCell ⟨g,3,none⟩ (.int .i64 n)) g { s with bg:=n } :=by
 have hb:But (fun b=>b=g) W (W.setCell ⟨g,3,none⟩ (.int .i64 n)):=(But.refl (fun b=>b=g) _).setCell (show _=_ from rfl) _;have hE:=TE.one h.gc;exact⟨h.bs,zAh h.gc 3 (.int .i64 n),⟨h.rl.1,hE.keep hb h.rl.2.1 (zAr (by decide) _ _),hE.own hb h.rl.2.2 (zAr (by decide))⟩,hE.table hb h.tb (zAr (by decide)) (zAr (by decide)),⟨h.bl.1,hE.keep hb h.bl.2.1 (zAr (by decide) _ _),hE.own hb h.bl.2.2 (zAr (by decide))⟩,hE.keep hb h.fl (zBw _ _),hE.keep hb h.pl (zBw _ _),h.ne,h.bf,h.fm,h.pm,fun f hf=>⟨(h.fb f hf).1,hE.keep hb (h.fb f hf).2 (zAr (by decide) _ _)⟩,fun p hp=>⟨(h.pb p hp).1,(h.pb p hp).2.1,hE.keep hb (h.pb p hp).2.2 (zAr (by decide) _ _)⟩⟩
theorem zPp(z:Int):∀(l:List MapEntry) (i:Nat),(∀e∈l,∃k:Int,e.key= .int .i64 k∧k≠z)→Instr.findNow (.int .i64) (.int .i64 z) l i=some none
 | [],_,_=>rfl
 |e::l,i,h=>by
  obtain⟨k,hk,hne⟩:=h e (by simp);have h1:Instr.sameNow (.int .i64) (.int .i64 z) e.key=some false:=by rw[hk];simp[Instr.sameNow,hne,Ne.symm hne]
  unfold Instr.findNow;rw[h1];exact zPp z l (i+1) (fun e' he'=>h e' (by simp[he']))
theorem fe_keys {base g:Nat} {W:World} {s:Gf} (h:GF base W g s)(z:Int)(hz:∀x∈s.fs,x.id≠z):∀e∈s.fe.toList,∃k:Int,e.key= .int .i64 k∧k≠z:=fun e he=>by
 have h1:(e.key,e.val)∈s.fe.toList.map (fun e=>(e.key,e.val)):=List.mem_map.2 ⟨e,he,rfl⟩;rw[h.fm]at h1;obtain⟨x,hx,e2⟩:=List.mem_map.1 h1;have e3:(Value.int .i64 x.id)=e.key:=congrArg Prod.fst e2;exact⟨x.id,e3.symm,hz x hx⟩
theorem GF.written {base g:Nat} {W W':World} {s:Gf} (h:GF base W g s)(f:Fl)(hid:f.id=s.bg-1)(hb:But (fun b=>b=s.gf) W W')(hm:W'.heap[s.gf]? =some (.map (s.fe.push ⟨.int .i64 f.id,.pointer (some ⟨f.blk,0,none⟩),s.cf⟩) (s.cf+1)))(hf:base≤f.blk∧W.heap[f.blk]? =some (.cells (flc f).toArray 111 (0,0))):GF base W' g { s with fs:=s.fs++[f],fe:=s.fe.push ⟨.int .i64 f.id,.pointer (some ⟨f.blk,0,none⟩),s.cf⟩,cf:=s.cf+1 } :=by
 have hk:∀(b:Nat) (cur:Array Value) (t:TypeId) (fz:Nat × Nat),W.heap[b]? =some (.cells cur t fz)→W'.heap[b]? =some (.cells cur t fz):=fun b cur t fz hh=>(hb.block b (eS hh) (fun e=>by have e':b=s.gf:=e;have h2:=h.fl;rw[←e',hh]at h2;cases h2)).trans hh
 have ho:∀ {bs:Nat} {e:TypeId} {size:Nat} {v:Value} {n:Nat} {xs:List Value},W.ownsRow bs e size v n xs→W'.ownsRow bs e size v n xs:=fun h=>by
  obtain⟨q1,q2|⟨b,cap,cur',e',hb',hh,r⟩⟩:=h
  ·exact ⟨q1,.inl q2⟩
  ·exact ⟨q1,.inr ⟨b,cap,cur',e',hb',hk _ _ _ _ hh,r⟩⟩
 obtain⟨vs,t1,t2,t3,t4,t5⟩:=h.tb;refine⟨h.bs,hk _ _ _ _ h.gc,⟨h.rl.1,hk _ _ _ _ h.rl.2.1,ho h.rl.2.2⟩,⟨vs,t1,t2,hk _ _ _ _ t3,fun i hi=>ho (t4 i hi),t5⟩,⟨h.bl.1,hk _ _ _ _ h.bl.2.1,ho h.bl.2.2⟩,hm,?_,h.ne,h.bf,?_,h.pm,fun x hx=> ?_,fun p hp=>⟨(h.pb p hp).1,(h.pb p hp).2.1,hk _ _ _ _ (h.pb p hp).2.2⟩⟩
 ·exact (hb.block s.gp (eS h.pl) (fun e=>h.ne e.symm)).trans h.pl
 ·show (s.fe.push _).toList.map (fun e=>(e.key,e.val))=(s.fs++[f]).map flE
  rw[Array.toList_push,List.map_append,List.map_append,h.fm];rfl
 ·rcases List.mem_append.1 hx with hx|hx
  ·exact ⟨(h.fb x hx).1,hk _ _ _ _ (h.fb x hx).2⟩
  ·have e:x=f:=by simpa using hx
   subst e;exact⟨hf.1,hk _ _ _ _ hf.2⟩
theorem ins_flow {w:World} {b c:Nat} {es:Array MapEntry} (hb:w.heap[b]? =some (.map es c))(z:Int)(v:Value)(hf:Instr.findNow (.int .i64) (.int .i64 z) es.toList 0=some none):
  ∃w',(Instr.mapUpdate 86 (.map (some b)) (.int .i64 z) v).run Tryz.prog w= .ok () w'∧w'.heap[b]? =some (.map (es.push ⟨.int .i64 z,v,c⟩) (c+1))∧But (fun g=>g=b) w w':=by
 have hc:(Instr.checkKey false 10000 3 (.int .i64 z)).run Tryz.prog w= .ok () w:=MapKept.run_checkKey (k:= .int .i64 z) Tryz.underlying3 (by simp[MapKept.IsKey]) false 9999;have hlt:=(eS hb);refine⟨{ w with heap:=w.heap.setIfInBounds b (.map (es.push ⟨.int .i64 z,v,c⟩) (c+1)) },?_,?_,rfl,rfl,rfl,by simp,fun i hi he=> ?_⟩
 ·simp[Instr.mapUpdate,run_underlying Tryz.underlying86,MapKept.run_getObj_map hb,hc,MapKept.run_findKey Tryz.underlying3 hf,MapKept.run_setObj_map _ hb,Result.andThen]
 ·simp[hlt]
 ·have he':i≠b:=he
  rw[Array.getElem?_setIfInBounds_ne (by omega)]
def roT (t:Tu) (id tl tn:Int):Rw:=⟨t.pr,t.src,t.dst,kyp t.pr t.sp,t.dp,id,tl,tn⟩
def tuA (t u:Tu):Prop:=t.pr=u.pr∧t.src=u.src∧t.dst=u.dst∧kyp t.pr t.sp=kyp u.pr u.sp∧t.dp=u.dp
theorem isK_yes(t:Tu)(id tl tn:Int):isK t.pr t.src t.dst (kyp t.pr t.sp) t.dp (roT t id tl tn)=true:=by
 unfold isK roT;simp
theorem isK_not(t u:Tu)(id tl tn:Int)(h:¬tuA u t):isK t.pr t.src t.dst (kyp t.pr t.sp) t.dp (roT u id tl tn)=false:=by
 cases hb:isK t.pr t.src t.dst (kyp t.pr t.sp) t.dp (roT u id tl tn) with
 |false=>rfl
 |true=>
  unfold isK roT at hb;simp only[Bool.and_eq_true,beq_iff_eq]at hb;exact absurd hb h
theorem ptT_yes(t:Tu)(id tl:Int)(c tn:Int)(ls:Nat→List Rw)(hm:zEw tl=true)(hc:c<128)(hk:kx t.pr t.src t.dst t.sp t.dp ls=none):ptT t id tl (c,tn,ls)=(c+1,tn+1,zSc ls (bkT t) (roT t id tl (tn+1))):=by
 have hp:zQx 128 c ls t.pr t.src t.dst t.sp t.dp tl=0:=by
  unfold zQx;rw[if_neg (by rw[hm];simp),hk,if_neg (by simp),if_neg (by omega)]
 unfold ptT;rw[if_pos hp];rfl
theorem mvT_yes(t:Tu)(tl tn:Int)(ls:Nat→List Rw)(k:Nat)(hm:zEw tl=true)(hk:kxT t ls=some k):mvT t tl (tn,ls)=(tn+1,mvL ls (bkT t) k tl (tn+1)):=by
 unfold mvT;rw[if_neg (show ¬zEw tl=false by rw[hm];simp),hk]
theorem GF.now {base g:Nat} {W:World} {s:Gf} (h:GF base W g s)(n:Int):GF base (W.setCell ⟨g,2,none⟩ (.int .i64 n)) g { s with now:=n } :=by
 have hb:But (fun b=>b=g) W (W.setCell ⟨g,2,none⟩ (.int .i64 n)):=(But.refl (fun b=>b=g) _).setCell (show _=_ from rfl) _;have hE:=TE.one h.gc;exact⟨h.bs,zAh h.gc 2 (.int .i64 n),⟨h.rl.1,hE.keep hb h.rl.2.1 (zAr (by decide) _ _),hE.own hb h.rl.2.2 (zAr (by decide))⟩,hE.table hb h.tb (zAr (by decide)) (zAr (by decide)),⟨h.bl.1,hE.keep hb h.bl.2.1 (zAr (by decide) _ _),hE.own hb h.bl.2.2 (zAr (by decide))⟩,hE.keep hb h.fl (zBw _ _),hE.keep hb h.pl (zBw _ _),h.ne,h.bf,h.fm,h.pm,fun f hf=>⟨(h.fb f hf).1,hE.keep hb (h.fb f hf).2 (zAr (by decide) _ _)⟩,fun p hp=>⟨(h.pb p hp).1,(h.pb p hp).2.1,hE.keep hb (h.pb p hp).2.2 (zAr (by decide) _ _)⟩⟩
theorem GF.book {base g:Nat} {W W':World} {s:Gf} (h:GF base W g s)(hb:But (fun b=>b=s.gb) W W') {v:Value} {l:List Ex} (hl:BL 174 base W' s.gb v l):GF base W' g { s with ve:=v,ex:=l } :=by
 have hE:=TE.one h.bl.2.1;exact⟨h.bs,hE.keep hb h.gc (zAr (by decide) _ _),⟨h.rl.1,hE.keep hb h.rl.2.1 (zAr (by decide) _ _),hE.own hb h.rl.2.2 (zAr (by decide))⟩,hE.table hb h.tb (zAr (by decide)) (zAr (by decide)),hl,hE.keep hb h.fl (zBw _ _),hE.keep hb h.pl (zBw _ _),h.ne,h.bf,h.fm,h.pm,fun f hf=>⟨(h.fb f hf).1,hE.keep hb (h.fb f hf).2 (zAr (by decide) _ _)⟩,fun p hp=>⟨(h.pb p hp).1,(h.pb p hp).2.1,hE.keep hb (h.pb p hp).2.2 (zAr (by decide) _ _)⟩⟩
theorem zUe(base bt:Nat)(cnt trn now:Int)(ls:Nat→List Rw)(w:World)(hT:TB base w bt 128 cnt trn ls)(hd:duR now (zE5 ls)=[])(hal:(zE5 ls).length≤5000):
  Calls Tryz.prog 48 #[.pointer (some ⟨bt,0,none⟩),.int .i64 now] w fun e w'=>(∃g,e= .returned (.slice (some ⟨g,0,none⟩) 0 0))∧Later w w':=by
 refine(due_any base bt 128 cnt trn now ls [] w hT (by rw[hd];exact zS8 [] (by simp)) hal).mono ?_;rintro e w' ⟨l,g,rfl,_,_⟩;exact⟨⟨g,rfl⟩,l⟩
def ltr (s:Gf) (n:Int) (v:Value):Gf:= { s with now:=n,ve:=v }
def TqG (base:Nat) (w w':World) (g:Nat) (s:Gf) (nw:Int):Prop:=But (fun b=>b=g∨b=s.gb) w w'∧∃n v,(0≤n∧n≤549755813888)∧(n≤nw∨n≤s.now)∧s.now≤n∧GF base w' g (ltr s n v)
theorem TqG.kg {base g:Nat} {w w':World} {s:Gf} (h:But (fun b=>b=g∨b=s.gb) w w')(hg:GF base w g s):KG base w w':=KG.of_but h (fun k e=>by
 rcases e with e|e
 ·rw[e]
  refine⟨hg.bs,fun ob ho=> ?_⟩;rw[hg.gc]at ho;cases ho
  show gTs.contains _=true
  decide
 ·rw[e]
  refine⟨hg.bl.1,fun ob ho=> ?_⟩;rw[hg.bl.2.1]at ho;cases ho
  show gTs.contains _=true
  decide)
def bkR (r:Rw):Nat:=bki r.p r.s r.d r.a r.b
def rwL (L:List Rw):Nat→List Rw:=fun j=>L.filter fun r=>bkR r==j
def zDl (t:Tu) (r:Rw):Bool:=isK t.pr t.src t.dst (kyp t.pr t.sp) t.dp r
def UL (L:List Rw):Prop:=∀(t:Tu),(L.filter (zDl t)).length≤1
theorem zFc {t:Tu} {r:Rw} :zDl t r=true↔r.p=t.pr∧r.s=t.src∧r.d=t.dst∧r.a=kyp t.pr t.sp∧r.b=t.dp:=by
 unfold zDl isK;simp
theorem kyp_idem(p a:Int):kyp p (kyp p a)=kyp p a:=by
 unfold kyp;split<;>simp_all
theorem zUf {t:Tu} {r:Rw} (h:zDl t r=true):bkR r=bkT t:=by
 obtain⟨h1,h2,h3,h4,h5⟩:=zFc.1 h;unfold bkR bkT bki;rw[h1,h2,h3,h4,h5,kyp_idem]
theorem rwL_at(L:List Rw)(t:Tu):(rwL L (bkT t)).filter (zDl t)=L.filter (zDl t):=by
 unfold rwL;rw[List.filter_filter];refine List.filter_congr (fun r _=> ?_);cases hb:zDl t r with
 |false=>rfl
 |true=>simp[zUf hb]
theorem zGr {α:Type} (p:α→Bool):∀(l:List α),(l.findIdx? p=none↔l.filter p=[])
 | []=>by simp
 |x::l=>by
  rw[List.findIdx?_cons];cases hx:p x with
  |true=>simp[hx]
  |false=>simp[hx,zGr p l]
theorem zUg(t:Tu)(ls:Nat→List Rw):kxT t ls=(ls (bkT t)).findIdx? (zDl t):=rfl
theorem zFs(L:List Rw)(t:Tu):kxT t (rwL L)=none↔∀r∈L,zDl t r=false:=by
 rw[zUg,zGr,rwL_at,List.filter_eq_nil_iff];simp
theorem zI9(L:List Rw)(t:Tu)(r:Rw)(hr:r∈L)(ht:zDl t r=true)(hu:UL L):∃k,kxT t (rwL L)=some k∧(rwL L (bkT t))[k]? =some r:=by
 cases hk:kxT t (rwL L) with
 |none=>exact absurd ht (by rw[(zFs L t).1 hk r hr];simp)
 | some k=>
  refine⟨k,rfl,?_⟩;rw[zUg,List.findIdx?_eq_some_iff_getElem]at hk;obtain⟨h1,h2,_⟩:=hk
  have hm:(rwL L (bkT t))[k]∈L.filter (zDl t):=by
   rw[←rwL_at];exact List.mem_filter.2 ⟨List.getElem_mem h1,h2⟩
  have hm2:r∈L.filter (zDl t):=List.mem_filter.2 ⟨hr,ht⟩;have hl:=hu t;rw[List.getElem?_eq_getElem h1];match hq:L.filter (zDl t),hl,hm,hm2 with
  | [],_,hm,_=>cases hm
  | [x],_,hm,hm2=>rw[List.mem_singleton.1 hm,List.mem_singleton.1 hm2]
  |_::_::_,hl,_,_=>simp at hl
theorem rwL_add(L:List Rw)(r:Rw)(i:Nat)(hi:bkR r=i):zSc (rwL L) i r=rwL (L++[r]):=by
 funext j
 unfold zSc rwL;rw[List.filter_append];split
 ·rename_i e
  subst e;simp[hi]
 ·rename_i e
  simp[hi,Ne.symm e]
theorem zH7 {α:Type} (p:α→Bool)(f:α→α):∀(l:List α) (k:Nat),l.findIdx? p=some k→(l.filter p).length≤1→l.modify k f=l.map (fun x=>if p x then f x else x)
 | [],_,h,_=>by simp at h
 | x::l,k,h,hu=>by
  rw[List.findIdx?_cons]at h;cases hx:p x with
  | true=>
   rw[hx]at h;simp only[if_true,Option.some.injEq]at h;subst h;rw[List.filter_cons_of_pos hx]at hu
   have hn:l.filter p=[]:=by
    cases hq:l.filter p with
    |nil=>rfl
    |cons _ _=>rw[hq]at hu;simp at hu
   have hm:l.map (fun x=>if p x then f x else x)=l:=by
    rw[List.filter_eq_nil_iff]at hn;conv=>rhs;rw[←List.map_id l]
    exact List.map_congr_left (fun y hy=>by simp[hn y hy])
   simp[hx,hm]
  | false=>
   rw[hx]at h;simp only[Bool.false_eq_true,if_false]at h;cases hk:l.findIdx? p with
   |none=>rw[hk]at h;simp at h
   |some k'=>
    rw[hk]at h;simp only[Option.map_some,Option.some.injEq]at h;subst h;rw[List.filter_cons_of_neg (by simp[hx])]at hu;simp[hx,zH7 p f l k' hk hu]
def reT (till tn:Int) (r:Rw):Rw:= { r with till:=till,turn:=tn }
def mvR (t:Tu) (till tn:Int) (L:List Rw):List Rw:=L.map fun r=>if zDl t r then reT till tn r else r
theorem bkR_re(till tn:Int)(r:Rw):bkR (reT till tn r)=bkR r:=rfl
theorem mvG(bk:Rw→Nat)(p:Rw→Bool)(f:Rw→Rw)(i k:Nat)(L:List Rw)(hb:∀r,bk (f r)=bk r)(hp:∀r,p r=true→bk r=i)(hk:(L.filter (fun r=>bk r==i)).findIdx? p=some k)(hu:(L.filter p).length≤1)(j:Nat):
  (if j=i then(L.filter (fun r=>bk r==i)).modify k f else L.filter (fun r=>bk r==j))=(L.map (fun r=>if p r then f r else r)).filter (fun r=>bk r==j):=by
 have he:(L.map (fun r=>if p r then f r else r)).filter (fun r=>bk r==j)=(L.filter (fun r=>bk r==j)).map (fun r=>if p r then f r else r):=by
  rw[List.filter_map];refine congrArg (List.map _) (List.filter_congr (fun r _=> ?_))
  have h2:bk (if p r then f r else r)=bk r:=by
   split
   ·exact hb _
   ·rfl
  simp only[Function.comp,h2]
 rw[he]
 have hl:((L.filter (fun r=>bk r==i)).filter p).length≤1:=by
  rw[List.filter_filter];refine Nat.le_trans (Nat.le_of_eq ?_) hu;refine congrArg List.length (List.filter_congr (fun r _=> ?_));cases hq:p r with
  |false=>rfl
  |true=>simp[hp r hq]
 split
 ·rename_i e
  rw[e];exact zH7 p f _ k hk hl
 ·rename_i e
  refine(List.map_id (L.filter (fun r=>bk r==j))).symm.trans (List.map_congr_left (fun r hr=> ?_))
  have hb:p r=false:=by
   cases hq:p r with
   |false=>rfl
   |true=>
    have:=(List.mem_filter.1 hr).2;simp[hp r hq]at this
    exact absurd this.symm e
  simp[hb]
theorem rwL_mv(L:List Rw)(t:Tu)(till tn:Int)(k:Nat)(hk:kxT t (rwL L)=some k)(hu:UL L):mvL (rwL L) (bkT t) k till tn=rwL (mvR t till tn L):=
 funext (mvG bkR (zDl t) (reT till tn) (bkT t) k L (bkR_re till tn) (fun r h=>zUf h) hk (hu t))
theorem zH8 {L:List Rw} (r:Rw)(t:Tu)(hr:zDl t r=true)(hn:∀x∈L,zDl t x=false)(h:UL L):UL (L++[r]):=fun u=>by
 rw[List.filter_append,List.length_append];cases hb:zDl u r with
 |false=>simp[hb];exact h u
 | true=>
  have:L.filter (zDl u)=[]:=by
   rw[List.filter_eq_nil_iff];intro x hx hux
   have h1:=zFc.1 hr;have h2:=zFc.1 hb;have h3:=zFc.1 hux;have:zDl t x=true:=zFc.2 ⟨by rw[h3.1,←h2.1,h1.1],by rw[h3.2.1,←h2.2.1,h1.2.1],by rw[h3.2.2.1,←h2.2.2.1,h1.2.2.1],by rw[h3.2.2.2.1,←h2.2.2.2.1,h1.2.2.2.1],by rw[h3.2.2.2.2,←h2.2.2.2.2,h1.2.2.2.2]⟩;rw[hn x hx]at this;cases this
  simp[this,hb]
theorem UL_nil:UL []:=fun u=>by simp
theorem ptT_L(t:Tu)(id till c tn:Int)(L:List Rw)(hm:zEw till=true)(hc:c<128)(hn:∀r∈L,zDl t r=false):ptT t id till (c,tn,rwL L)=(c+1,tn+1,rwL (L++[roT t id till (tn+1)])):=by
 rw[ptT_yes t id till c tn (rwL L) hm hc ((zFs L t).2 hn)];rw[rwL_add L _ _ (zUf (zFc.2 ⟨rfl,rfl,rfl,rfl,rfl⟩))]
theorem mvT_L(t:Tu)(till tn:Int)(L:List Rw)(r:Rw)(hm:zEw till=true)(hr:r∈L)(ht:zDl t r=true)(hu:UL L):mvT t till (tn,rwL L)=(tn+1,rwL (mvR t till (tn+1) L)):=by
 obtain⟨k,hk,_⟩:=zI9 L t r hr ht hu;rw[mvT_yes t till tn (rwL L) k hm hk,rwL_mv L t till (tn+1) k hk hu]
theorem allL_mem(L:List Rw)(r:Rw):r∈zE5 (rwL L)↔r∈L:=by
 unfold zE5 rwL;rw[List.mem_flatMap];constructor
 ·rintro ⟨j,_,h⟩
  exact(List.mem_filter.1 h).1
 ·intro h
  refine⟨bkR r,?_,List.mem_filter.2 ⟨h,by simp⟩⟩;rw[List.mem_range];exact zDz _ _ _ _ _
open Go.RowKit Go.Shelf Go.ChangeMaps
end Go.Proofs.YteaeilghamjjkaaGreatDoor
