import Derived.Test.YteaeilghamjjkaaGreatDoorX7
namespace Go.Proofs.YteaeilghamjjkaaGreatDoor
set_option maxHeartbeats 8000000
open Go.RowKit Go.Shelf
set_option maxRecDepth 100000
set_option linter.unusedVariables false
set_option linter.unusedSimpArgs false
theorem KG.pre(base:Nat):Pre (KG base):=⟨fun a=>KG.refl base a,fun a b c h k=>h.trans k⟩
def zI3 (side:Int) (bk:Bool):Prop:=(side=1∧bk=true)∨(side=0∧bk=false)
theorem Ow.kg {base n0:Nat} {W W':World} {v:Value} {zs:List Int} (h:Ow n0 W v zs)(k:KG base W W'):Ow n0 W' v zs:=by
 rcases h with h|⟨g,cap,cur,q1,q2,q3,q4,q5,q6,q7⟩
 ·exact .inl h
 ·exact .inr ⟨g,cap,cur,q1,q2,q3,q4,q5,k.cells q6 (by decide),q7⟩
theorem KG.own {base k:Nat} {a b c:World} (h:KG base a b)(hb:But (fun q=>q=k) b c)(hk:a.heap.size≤k):KG base a c:=⟨hb.os.trans h.os,hb.tape.trans h.tape,hb.output.trans h.output,Nat.le_trans h.size hb.size,fun i o h1 h2=>by
 have hi:=(eS h1);exact(hb.block i (Nat.lt_of_lt_of_le hi h.size) (fun e=>by have e':i=k:=e;omega)).trans (h.block i o h1 h2)⟩
theorem other_no(f:Fl)(w:World)(h:w.heap[f.blk]? =some (.cells (flc f).toArray 111 (0,0))):
  Calls Tryz.prog 116 #[.pointer (some ⟨f.blk,0,none⟩),.bool false] w fun e w'=>e= .returned (.agg #[.int .u8 f.r.pr,.int .u32 f.r.src,.int .u32 f.r.dst,.int .u16 f.r.sp,.int .u16 f.r.dp])∧Later w w':=by
 have la:=zAe w (.cells #[.int .u8 0,.int .u32 0,.int .u32 0,.int .u16 0,.int .u16 0] 103);have C0:=zAc (heap_alloc_new w (.cells #[.int .u8 0,.int .u32 0,.int .u32 0,.int .u16 0,.int .u16 0] 103));have C1:=zAc (zAb la h);clear h;go_enter Tryz.func116,Tryz.ntmps116;go_upto_region 3 with fail;generalize w.alloc _=w1 at*;generalize hgx:w.heap.size=gx at C0⊢;have k0:=zAa C0.out;have f0:=zAd C0.out;have k1:=zAa C1.out;unfold flc at k1;go_wp2_with fail;generalize hV:World.setCell _ ⟨gx,4,none⟩ _=V8;have hV9:V8=zAj w1 gx 0 [.int .u8 f.r.pr,.int .u32 f.r.src,.int .u32 f.r.dst,.int .u16 f.r.sp,.int .u16 f.r.dp]:=hV.symm;have hb8:But (fun b=>b=gx) w1 V8:=by rw[hV9];exact zAf (E:=fun b=>b=gx) (n:=gx) rfl _ _ _ _ (But.refl _ _)
 have p8:=zAg [.int .u8 f.r.pr,.int .u32 f.r.src,.int .u32 f.r.dst,.int .u16 f.r.sp,.int .u16 f.r.dp] C0.out rfl;rw[←hV9]at p8;clear hV hV9;have P8:=zAa p8;exact bodyPost_ret (v:= .agg #[.int .u8 f.r.pr,.int .u32 f.r.src,.int .u32 f.r.dst,.int .u16 f.r.sp,.int .u16 f.r.dp]) (by simp[results,Tryz.results116,go_sem,P8]) rfl ⟨rfl,Below.trans la (hb8.below la.size (fun k hk e=>by have e':k=gx:=e;omega))⟩
theorem zOe(x:Array Value)(w:World)(tos id ttl pr src dst:Int)(keep:Bool)(ao ad:Option Addr)(lo co ld cd:Nat):
  Calls Tryz.prog 483 #[.agg #[],.agg x,.agg #[.int .u8 tos,.int .u16 id,.bool keep,.int .u8 ttl,.int .u8 pr,.int .u32 src,.int .u32 dst,.slice ao lo co,.slice ad ld cd]] w fun e w'=>e= .returned (.agg #[.int .u8 tos,.int .u16 id,.bool keep,.int .u8 ttl,.int .u8 pr,.int .u32 src,.int .u32 dst,.slice ao lo co,.slice ad ld cd])∧Later w w':=by
 have la:=zAe w (.cells #[] 468);have lb:=zAe (w.alloc (.cells #[] 468)) (.cells x 242);have lc:=zAe ((w.alloc (.cells #[] 468)).alloc (.cells x 242)) (.cells #[.int .u8 tos,.int .u16 id,.bool keep,.int .u8 ttl,.int .u8 pr,.int .u32 src,.int .u32 dst,.slice ao lo co,.slice ad ld cd] 40);have c0:=heap_alloc_new ((w.alloc (.cells #[] 468)).alloc (.cells x 242)) (.cells #[.int .u8 tos,.int .u16 id,.bool keep,.int .u8 ttl,.int .u8 pr,.int .u32 src,.int .u32 dst,.slice ao lo co,.slice ad ld cd] 40);have hsz:((w.alloc (.cells #[] 468)).alloc (.cells x 242)).heap.size=w.heap.size+1+1:=by simp
 rw[hsz]at c0;have L2:=la.trans (lb.trans lc);have ld':=zAe (((w.alloc (.cells #[] 468)).alloc (.cells x 242)).alloc (.cells #[.int .u8 tos,.int .u16 id,.bool keep,.int .u8 ttl,.int .u8 pr,.int .u32 src,.int .u32 dst,.slice ao lo co,.slice ad ld cd] 40)) (.cells #[.int .u8 0,.int .u16 0,.bool false,.int .u8 0,.int .u8 0,.int .u32 0,.int .u32 0,.slice none 0 0,.slice none 0 0] 40);have c1:=heap_alloc_new (((w.alloc (.cells #[] 468)).alloc (.cells x 242)).alloc (.cells #[.int .u8 tos,.int .u16 id,.bool keep,.int .u8 ttl,.int .u8 pr,.int .u32 src,.int .u32 dst,.slice ao lo co,.slice ad ld cd] 40)) (.cells #[.int .u8 0,.int .u16 0,.bool false,.int .u8 0,.int .u8 0,.int .u32 0,.int .u32 0,.slice none 0 0,.slice none 0 0] 40);have hsz2:(((w.alloc (.cells #[] 468)).alloc (.cells x 242)).alloc (.cells #[.int .u8 tos,.int .u16 id,.bool keep,.int .u8 ttl,.int .u8 pr,.int .u32 src,.int .u32 dst,.slice ao lo co,.slice ad ld cd] 40)).heap.size=w.heap.size+1+1+1:=by simp
 rw[hsz2]at c1;have C0:=zAc (zAb ld' c0);have C1:=zAc c1;have LL:=zAc (L2.trans ld');clear la lb lc ld' c0 c1 hsz hsz2 L2;go_enter Tryz.func483,Tryz.ntmps483;go_upto_region 1 with fail;generalize hw1:World.alloc _ _=w1 at*;clear hw1;generalize hgx:w.heap.size=g0 at C0 C1⊢;have k0:=zAa C0.out;have k1:=zAa C1.out;have f1:=zAd C1.out;go_wp2_with fail;generalize hV:World.setCell _ ⟨_,8,none⟩ _=V8;have hV9:V8=zAj w1 (g0+1+1+1) 0 [.int .u8 tos,.int .u16 id,.bool keep,.int .u8 ttl,.int .u8 pr,.int .u32 src,.int .u32 dst,.slice ao lo co,.slice ad ld cd]:=hV.symm;have hb8:But (fun b=>b=g0+1+1+1) w1 V8:=by rw[hV9];exact zAf (E:=fun b=>b=g0+1+1+1) (n:=g0+1+1+1) rfl _ _ _ _ (But.refl _ _)
 have p8:=zAg [.int .u8 tos,.int .u16 id,.bool keep,.int .u8 ttl,.int .u8 pr,.int .u32 src,.int .u32 dst,.slice ao lo co,.slice ad ld cd] C1.out rfl;rw[←hV9]at p8;clear hV hV9;have P8:=zAa p8;exact bodyPost_ret (v:= .agg #[.int .u8 tos,.int .u16 id,.bool keep,.int .u8 ttl,.int .u8 pr,.int .u32 src,.int .u32 dst,.slice ao lo co,.slice ad ld cd]) (by simp[results,Tryz.results483,go_sem,P8]) rfl ⟨rfl,Below.trans LL.out (hb8.below LL.out.size (fun k hk e=>by have e':k=g0+1+1+1:=e;omega))⟩
theorem meth_noh(k:Nat)(W:World):Sem.run Tryz.prog (Go.method (k+1) 468 (.agg #[]) "lychgate/gate.change") W= .ok (483,.agg #[]) W:=by kernel_rfl
def oth (f:Fl) (bk:Bool):Tu:=if bk then f.o else f.r
theorem other_bk(f:Fl)(w:World)(h:w.heap[f.blk]? =some (.cells (flc f).toArray 111 (0,0))):
  Calls Tryz.prog 116 #[.pointer (some ⟨f.blk,0,none⟩),.bool true] w fun e w'=>e= .returned (.agg #[.int .u8 f.o.pr,.int .u32 f.o.src,.int .u32 f.o.dst,.int .u16 f.o.sp,.int .u16 f.o.dp])∧Later w w':=by
 have la:=zAe w (.cells #[.int .u8 0,.int .u32 0,.int .u32 0,.int .u16 0,.int .u16 0] 103);have C0:=zAc (heap_alloc_new w (.cells #[.int .u8 0,.int .u32 0,.int .u32 0,.int .u16 0,.int .u16 0] 103));have C1:=zAc (zAb la h);clear h;go_enter Tryz.func116,Tryz.ntmps116;go_upto_region 2 with fail;generalize w.alloc _=w1 at*;generalize hgx:w.heap.size=gx at C0⊢;have k0:=zAa C0.out;have f0:=zAd C0.out;have k1:=zAa C1.out;unfold flc at k1;go_wp2_with fail;generalize hV:World.setCell _ ⟨gx,4,none⟩ _=V8;have hV9:V8=zAj w1 gx 0 [.int .u8 f.o.pr,.int .u32 f.o.src,.int .u32 f.o.dst,.int .u16 f.o.sp,.int .u16 f.o.dp]:=hV.symm;have hb8:But (fun b=>b=gx) w1 V8:=by rw[hV9];exact zAf (E:=fun b=>b=gx) (n:=gx) rfl _ _ _ _ (But.refl _ _)
 have p8:=zAg [.int .u8 f.o.pr,.int .u32 f.o.src,.int .u32 f.o.dst,.int .u16 f.o.sp,.int .u16 f.o.dp] C0.out rfl;rw[←hV9]at p8;clear hV hV9;have P8:=zAa p8;exact bodyPost_ret (v:= .agg #[.int .u8 f.o.pr,.int .u32 f.o.src,.int .u32 f.o.dst,.int .u16 f.o.sp,.int .u16 f.o.dp]) (by simp[results,Tryz.results116,go_sem,P8]) rfl ⟨rfl,Below.trans la (hb8.below la.size (fun k hk e=>by have e':k=gx:=e;omega))⟩
theorem zGp(f:Fl)(bk:Bool)(w:World)(h:w.heap[f.blk]? =some (.cells (flc f).toArray 111 (0,0))):
  Calls Tryz.prog 116 #[.pointer (some ⟨f.blk,0,none⟩),.bool bk] w fun e w'=>e= .returned (.agg #[.int .u8 (oth f bk).pr,.int .u32 (oth f bk).src,.int .u32 (oth f bk).dst,.int .u16 (oth f bk).sp,.int .u16 (oth f bk).dp])∧Later w w':=by
 cases bk with
 |true=>exact other_bk f w h
 |false=>exact other_no f w h
structure Bel (s:Gf) (f:Fl) (bk:Bool) (side src dst a b:Int):Prop where
 hf:f∈s.fs
 hu:IdU s
 huq:∀x∈s.fs,x.blk=f.blk→x=f
 kx:∃(k:Nat) (r:Rw),kx 17 src dst a b s.rw=some k∧(s.rw (bki 17 src dst a b))[k]? =some r∧r.id=f.id
 hx:0≤src∧src≤4294967295
 hd:0≤dst∧dst≤4294967295
 ha:0≤a∧a≤65535
 hb:0≤b∧b≤65535
 bq:bk=true↔¬((17:Int)=f.o.pr∧src=f.o.src∧dst=f.o.dst∧kyp 17 a=kyp f.o.pr f.o.sp∧b=f.o.dp)
 sd:f.side=0
 cm:zI3 side bk
 hBo:TuB f.o
 hBr:TuB f.r
 po:f.o.pr=17
 pr:f.r.pr=17
 hp:f.hp=noh
 tr:0≤s.trn∧s.trn≤999999
 nw:0≤s.now∧s.now≤549755813888
def roT (t:Tu) (id tl tn:Int):Rw:=⟨t.pr,t.src,t.dst,kyp t.pr t.sp,t.dp,id,tl,tn⟩
def tuA (t u:Tu):Prop:=t.pr=u.pr∧t.src=u.src∧t.dst=u.dst∧kyp t.pr t.sp=kyp u.pr u.sp∧t.dp=u.dp
theorem isK_yes(t:Tu)(id tl tn:Int):isK t.pr t.src t.dst (kyp t.pr t.sp) t.dp (roT t id tl tn)=true:=by
 unfold isK roT;simp
theorem isK_not(t u:Tu)(id tl tn:Int)(h:¬tuA u t):isK t.pr t.src t.dst (kyp t.pr t.sp) t.dp (roT u id tl tn)=false:=by
 cases hb:isK t.pr t.src t.dst (kyp t.pr t.sp) t.dp (roT u id tl tn) with
 |false=>rfl
 |true=>
  unfold isK roT at hb;simp only[Bool.and_eq_true,beq_iff_eq]at hb;exact absurd hb h
theorem ptT_yes(t:Tu)(id tl:Int)(c tn:Int)(ls:Nat→List Rw)(hm:zDe tl=true)(hc:c<128)(hk:kx t.pr t.src t.dst t.sp t.dp ls=none):ptT t id tl (c,tn,ls)=(c+1,tn+1,zOx ls (bkT t) (roT t id tl (tn+1))):=by
 have hp:zNw 128 c ls t.pr t.src t.dst t.sp t.dp tl=0:=by
  unfold zNw;rw[if_neg (by rw[hm];simp),hk,if_neg (by simp),if_neg (by omega)]
 unfold ptT;rw[if_pos hp];rfl
theorem mvT_yes(t:Tu)(tl tn:Int)(ls:Nat→List Rw)(k:Nat)(hm:zDe tl=true)(hk:kxT t ls=some k):mvT t tl (tn,ls)=(tn+1,mvL ls (bkT t) k tl (tn+1)):=by
 unfold mvT;rw[if_neg (show ¬zDe tl=false by rw[hm];simp),hk]
theorem GF.now {base g:Nat} {W:World} {s:Gf} (h:GF base W g s)(n:Int):GF base (W.setCell ⟨g,2,none⟩ (.int .i64 n)) g { s with now:=n } :=by
 have hb:But (fun b=>b=g) W (W.setCell ⟨g,2,none⟩ (.int .i64 n)):=(But.refl (fun b=>b=g) _).setCell (show _=_ from rfl) _;have hE:=TE.one h.gc;exact⟨h.bs,zAh h.gc 2 (.int .i64 n),⟨h.rl.1,hE.keep hb h.rl.2.1 (zAs (by decide) _ _),hE.own hb h.rl.2.2 (zAs (by decide))⟩,hE.table hb h.tb (zAs (by decide)) (zAs (by decide)),⟨h.bl.1,hE.keep hb h.bl.2.1 (zAs (by decide) _ _),hE.own hb h.bl.2.2 (zAs (by decide))⟩,hE.keep hb h.fl (zCe _ _),hE.keep hb h.pl (zCe _ _),h.ne,h.bf,h.fm,h.pm,fun f hf=>⟨(h.fb f hf).1,hE.keep hb (h.fb f hf).2 (zAs (by decide) _ _)⟩,fun p hp=>⟨(h.pb p hp).1,(h.pb p hp).2.1,hE.keep hb (h.pb p hp).2.2 (zAs (by decide) _ _)⟩⟩
theorem GF.book {base g:Nat} {W W':World} {s:Gf} (h:GF base W g s)(hb:But (fun b=>b=s.gb) W W') {v:Value} {l:List Ex} (hl:BL 174 base W' s.gb v l):GF base W' g { s with ve:=v,ex:=l } :=by
 have hE:=TE.one h.bl.2.1;exact⟨h.bs,hE.keep hb h.gc (zAs (by decide) _ _),⟨h.rl.1,hE.keep hb h.rl.2.1 (zAs (by decide) _ _),hE.own hb h.rl.2.2 (zAs (by decide))⟩,hE.table hb h.tb (zAs (by decide)) (zAs (by decide)),hl,hE.keep hb h.fl (zCe _ _),hE.keep hb h.pl (zCe _ _),h.ne,h.bf,h.fm,h.pm,fun f hf=>⟨(h.fb f hf).1,hE.keep hb (h.fb f hf).2 (zAs (by decide) _ _)⟩,fun p hp=>⟨(h.pb p hp).1,(h.pb p hp).2.1,hE.keep hb (h.pb p hp).2.2 (zAs (by decide) _ _)⟩⟩
theorem zQ9(base bt:Nat)(cnt trn now:Int)(ls:Nat→List Rw)(w:World)(hT:TB base w bt 128 cnt trn ls)(hd:duR now (zDf ls)=[])(hal:(zDf ls).length≤5000):
  Calls Tryz.prog 48 #[.pointer (some ⟨bt,0,none⟩),.int .i64 now] w fun e w'=>(∃g,e= .returned (.slice (some ⟨g,0,none⟩) 0 0))∧Later w w':=by
 refine(due_any base bt 128 cnt trn now ls [] w hT (by rw[hd];exact zPs [] (by simp)) hal).mono ?_;rintro e w' ⟨l,g,rfl,_,_⟩;exact⟨⟨g,rfl⟩,l⟩
def ltr (s:Gf) (n:Int) (v:Value):Gf:= { s with now:=n,ve:=v }
def TqG (base:Nat) (w w':World) (g:Nat) (s:Gf) (nw:Int):Prop:=But (fun b=>b=g∨b=s.gb) w w'∧∃n v,(0≤n∧n≤549755813888)∧(n≤nw∨n≤s.now)∧s.now≤n∧GF base w' g (ltr s n v)
theorem TqG.kg {base g:Nat} {w w':World} {s:Gf} (h:But (fun b=>b=g∨b=s.gb) w w')(hg:GF base w g s):KG base w w':=KG.of_but h (fun k e=>by
 rcases e with e|e
 ·rw[e]
  refine⟨hg.bs,fun ob ho=> ?_⟩;rw[hg.gc]at ho;cases ho
  show gTs.contains _=true
  decide
 ·rw[e]
  refine⟨hg.bl.1,fun ob ho=> ?_⟩;rw[hg.bl.2.1]at ho;cases ho
  show gTs.contains _=true
  decide)
theorem zOf(base g:Nat)(s:Gf)(nw:Int)(w:World)(h:GF base w g s)(hbs:base≤w.heap.size)(hnw:0≤s.now∧s.now≤549755813888)(hex:s.ex=[])(hdu:∀n,n≤nw∨n≤s.now→duR n (zDf s.rw)=[])(hal:(zDf s.rw).length≤5000):
  Calls Tryz.prog 21 #[.pointer (some ⟨g,0,none⟩),.int .i64 nw] w fun e w'=>e= .returned (.tuple #[])∧TqG base w w' g s nw:=by
 have HDU:=zAc hdu;have HEX:=zAc hex;have HAL:=zAc hal;clear hdu hex hal;have HG:=zAc h;have hbg:=h.bs;go_enter Tryz.func21,Tryz.ntmps21;have k0:=zAa h.gc;have f0:=zAd h.gc;unfold gfc at k0;go_upto_region 1 with fail;go_cut [18] (fun _ wx=>∃nv:Int,((0≤nv∧nv≤549755813888)∧(nv≤nw∨nv≤s.now)∧s.now≤nv)∧wx=w.setCell ⟨g,2,none⟩ (.int .i64 nv))
 case first=>
  go_wp2_with fail
  all_goals
   go_meet
   case rel=>exact⟨_,by omega,rfl⟩
 case rest=>
 clear k0 f0;obtain⟨nv,hnr,hnv⟩:=hcut;obtain⟨w1,hw1⟩:∃w1,w1=wc:=⟨_,rfl⟩;subst hw1;have h1:GF base w1 g { s with now:=nv } :=by rw[hnv];exact h.now nv
 have M1:But (fun b=>b=g∨b=s.gb) w w1:=by
  rw[hnv];exact(But.refl (fun b=>b=g∨b=s.gb) w).setCell (p:=⟨g,2,none⟩) (show _∨_ from .inl rfl) (.int .i64 nv)
 obtain⟨s1,hs1⟩:∃s1:Gf,s1= { s with now:=nv } :=⟨_,rfl⟩;have e1:s1.gb=s.gb:=by rw[hs1]
 have e2:s1.ex=[]:=by rw[hs1];exact HEX.out
 have e3:duR s1.now (zDf s1.rw)=[]:=by rw[hs1];exact HDU.out nv hnr.2.1
 have e4:(zDf s1.rw).length≤5000:=by rw[hs1];exact HAL.out
 have e5:∀v, { s1 with ve:=v,ex:=[] } =ltr s nv v:=fun v=>by rw[hs1];unfold ltr;rw[←HEX.out]
 rw[←hs1]at h1;have HGB:=zAc e1;have HE2:=zAc e2;have HE3:=zAc e3;have HE4:=zAc e4;have HE5:=zAc e5;have HNR:=zAc hnr;clear hs1 e1 e2 e3 e4 e5 hnv hnr HDU HEX HAL HG h hnw;go_upto_region 2 with fail;refine zAk (R:=Later) 11 rfl (by kernel_rfl) ?_;have ld:Later w1 w1.drew:=Later.drew w1;generalize w1.drew=w2 at*;have h2:=h1.later ld;have M2:But (fun b=>b=g∨b=s.gb) w w2:=M1.trans (But.of ld);have q1:∀v,Later w2 v→∀j,v.cell? ⟨g,j,none⟩=(gfc s1).toArray[j]? :=fun v hv=>zAa (zAb hv h2.gc);unfold gfc at q1;have H2:=zAc h2;clear h1 h2 ld M1;refine tX Later.pre 0 ?_;refine tX Later.pre 1 ?_;refine tX Later.pre 2 ?_;refine tX Later.pre 3 ?_;refine tX Later.pre 4 ?_;refine tX Later.pre 5 ?_;refine tX Later.pre 6 ?_;refine tX Later.pre 7 ?_;refine tX Later.pre 10 ?_;clear q1;refine tO 8 ?_;refine zAi 48 #[.pointer (some ⟨s1.gt,0,none⟩),.int .i64 s1.now] (by go_simp) ?_;refine(zQ9 base s1.gt s1.cnt s1.trn s1.now s1.rw w2 H2.out.tb HE3.out HE4.out).mono ?_;rintro e w3 ⟨⟨gd,rfl⟩,l3⟩;refine⟨l3,?_⟩;simp only[Act.put,sA,sB,sC];refine tX Later.pre 9 ?_;refine tD ?_;have h3:=H2.out.later l3;have M3:But (fun b=>b=g∨b=s.gb) w w3:=M2.trans (But.of l3);have H3:=zAc h3;clear H2 h3 M2 l3;go_upto_region 3 with fail;go_loopw [31] (fun iv wr=>iv= .int .i64 0∧wr=w3) (fun _ _=>0)
 case atStart=>exact⟨rfl,rfl⟩
 case round=>
  obtain⟨rfl,hw⟩:=hrel;subst hw;go_upto_region 9 with fail;refine zAk (R:=But (fun b=>b=s1.gb)) 11 rfl (by kernel_rfl) ?_;have ld:Later wr wr.drew:=Later.drew wr;generalize wr.drew=w4 at*;have h4:=H3.out.later ld;have M4:But (fun b=>b=g∨b=s.gb) w w4:=M3.trans (But.of ld);have q1:∀v,But (fun b=>b=s1.gb) w4 v→∀j,v.cell? ⟨g,j,none⟩=(gfc s1).toArray[j]? :=fun v hv=>zAa (zC7 hv h4.gc h4.bl.2.1 (by intro e;injection e with e1 e2 e3;exact absurd e2 (by decide)));unfold gfc at q1;have H4:=zAc h4;clear H3 h4 M3 ld;refine tX (But.pre (fun b=>b=s1.gb)) 0 ?_;refine tX (But.pre (fun b=>b=s1.gb)) 1 ?_;refine tX (But.pre (fun b=>b=s1.gb)) 2 ?_;refine tX (But.pre (fun b=>b=s1.gb)) 3 ?_;refine tX (But.pre (fun b=>b=s1.gb)) 4 ?_;refine tX (But.pre (fun b=>b=s1.gb)) 5 ?_;refine tX (But.pre (fun b=>b=s1.gb)) 6 ?_;refine tX (But.pre (fun b=>b=s1.gb)) 7 ?_;refine tX (But.pre (fun b=>b=s1.gb)) 8 ?_;clear q1;refine tO 9 ?_;refine zAi 52 #[.pointer (some ⟨s1.gb,0,none⟩),.int .i64 s1.now] (by go_simp) ?_;refine(zPn base s1.gb s1.ve [] s1.now w4 (by have q:=H4.out.bl;rw[HE2.out]at q;exact q) (Nat.le_trans hbs M4.size) (by simp)).mono ?_;rintro e w5 ⟨u,rfl,v5,hbl,hrow,hbut,_⟩
  obtain⟨ua,uc,rfl⟩:∃a c,u= .slice a 0 c:=by
   obtain⟨_,⟨rfl,_⟩|⟨b,cap,cur,rfl,_⟩⟩:=hrow
   ·exact ⟨_,_,rfl⟩
   ·exact ⟨_,_,rfl⟩
  have h5:=H4.out.book hbut hbl;have M5:But (fun b=>b=g∨b=s.gb) w w5:=M4.trans ⟨hbut.os,hbut.tape,hbut.output,hbut.size,fun i hi he=>hbut.block i hi (fun e=>he (.inr (by have e':i=s1.gb:=e;rw[e',HGB.out])))⟩;have HB:=zAc hbut;clear hbut hrow hbl;refine⟨HB.out,?_⟩;simp only[Act.put,sA,sB,sC];refine tO 10 ?_;refine zAi 51 #[.pointer (some ⟨g,0,none⟩),.slice ua 0 uc] (by go_simp) ?_;refine(zCk _ ua uc w5).mono ?_;rintro e w6 ⟨rfl,hw6⟩;subst hw6;refine⟨But.refl _ _,?_⟩;simp only[Act.put,sA,sB,sC];refine tD ?_;go_wp2_with fail;go_end0
  exact⟨rfl,M5,_,v5,HNR.out.1,HNR.out.2.1,HNR.out.2.2,by rw[←HE5.out];exact h5⟩
def gfS (lo hi:Nat) (s:Gs):Gf:= { lo:=lo,hi:=hi,now:=s.now,bg:=0,ls:=s.ls,gr:=s.gr,gf:=s.gf,gt:=s.gt,gb:=s.gb,gp:=s.gp,vr:=s.vr,ve:=s.ve,ex:=[],cnt:=0,trn:=0,rw:=fun _=>[],fs:=[],ps:=[],fe:=#[],pe:=#[],cf:=s.cf,cp:=s.cp }
theorem GI.toF {base g:Nat} {W:World} {s:Gs} {lo hi:Nat} (h:GI base W g s)(hk:GsK base (lo:Int) (hi:Int) s):GF base W g (gfS lo hi s):=by
 obtain⟨e1,e2,e3,e4,e5,e6⟩:=hk;refine⟨h.bs,?_,h.rl,h.tb,h.bl,h.fl,h.pl,e4,⟨e5,e6⟩,rfl,rfl,(fun f hf=>by cases hf),(fun p hp=>by cases hp)⟩;have q:=h.gc;unfold gtc at q;rw[e1,e2]at q;exact q
structure Rdx (lo hi:Nat) (ls:List Ru) (x d:Int) (a:Nat) (b:Int) (mr:Ru):Prop where
 ok:okL ls
 fd:ls.find? (mqB x)=some mr
 hx:0≤x∧x≤4294967295
 hd:0≤d∧d≤4294967295
 ha:a≤65535
 hb:0≤b∧b≤65535
 tt:0≤mr.tt∧mr.tt≤4294967295
 h1:1≤lo
 h2:lo≤hi
 h3:hi<65536
 s1:(b==5060)=false
 s2:((a:Int)==5060)=false
 ne:¬(x=d∧d=mr.tt)
def oppo (side:Int):Int:=if side=0 then 1 else 0
theorem opp_any(side:Int)(hs:side=0∨side=1)(w:World):Calls Tryz.prog 56 #[.int .i64 side] w fun e w'=>e= .returned (.int .i64 (oppo side))∧w'=w:=by
 rcases hs with rfl|rfl
 all_goals
  go_enter Tryz.func56,Tryz.ntmps56;go_wp2_with fail;go_ret
  exact⟨rfl,rfl⟩
theorem zRa(hb k:Nat)(W:World):Sem.run Tryz.prog (Go.method (k+1) 459 (.pointer (some ⟨hb,0,none⟩)) "lychgate/gate.change") W= .ok (399,.pointer (some ⟨hb,0,none⟩)) W:=by kernel_rfl
def gL:List TypeId:=gTs++[459,462,533,230]
structure Kgl (base:Nat) (w w':World):Prop where
 os:w'.os=w.os
 tape:w'.tape=w.tape
 output:w'.output=w.output
 size:w.heap.size≤w'.heap.size
 block:∀(k:Nat) (o:Obj),w.heap[k]? =some o→(k<base∨∃cur t f,o= .cells cur t f∧gL.contains t=false)→w'.heap[k]? =some o
theorem Kgl.of_kg {base:Nat} {w w':World} (h:KG base w w'):Kgl base w w':=⟨h.os,h.tape,h.output,h.size,fun k o h1 h2=>h.block k o h1 (h2.imp id (fun⟨cur,t,f,e,ht⟩=>by
 subst e;show ¬(gTs.contains t=true)
 intro hc
 have:gL.contains t=true:=by
  unfold gL;rw[List.contains_iff_mem]at hc⊢;exact List.mem_append_left _ hc
 rw[ht]at this;cases this))⟩
theorem Kgl.trans {base:Nat} {a b c:World} (h:Kgl base a b)(k:Kgl base b c):Kgl base a c:=⟨k.os.trans h.os,k.tape.trans h.tape,k.output.trans h.output,Nat.le_trans h.size k.size,fun i o h1 h2=>k.block i o (h.block i o h1 h2) h2⟩
theorem Kgl.cells {base:Nat} {a b:World} (h:Kgl base a b) {k:Nat} {cur:Array Value} {t:TypeId} {f:Nat × Nat} (hk:a.heap[k]? =some (.cells cur t f))(ht:gL.contains t=false):b.heap[k]? =some (.cells cur t f):=h.block k _ hk (.inr ⟨cur,t,f,rfl,ht⟩)
theorem Kgl.own {base k:Nat} {a b c:World} (h:Kgl base a b)(hb:But (fun q=>q=k) b c)(hk:a.heap.size≤k):Kgl base a c:=⟨hb.os.trans h.os,hb.tape.trans h.tape,hb.output.trans h.output,Nat.le_trans h.size hb.size,fun i o h1 h2=>by
 have hi:=(eS h1);exact(hb.block i (Nat.lt_of_lt_of_le hi h.size) (fun e=>by have e':i=k:=e;omega)).trans (h.block i o h1 h2)⟩
theorem Kgl.below {base:Nat} {a b:World} (h:Kgl base a b)(hb:base≤a.heap.size):Below base a b:=⟨h.os,h.tape,h.output,h.size,fun i hi=>by
 have hi':i<a.heap.size:=Nat.lt_of_lt_of_le hi hb;obtain⟨o,ho⟩:∃o,a.heap[i]? =some o:=⟨_,Array.getElem?_eq_getElem hi'⟩;rw[ho];exact h.block i o ho (.inl hi)⟩
def CqS (CQ:List Int→World→Prop):Prop:=∀y (A B:World) (k:Nat) (cur:Array Value) (t:TypeId) (fz:Nat × Nat),CQ y A→A.heap[k]? =some (.cells cur t fz)→t=40∨t=36→But (fun q=>q=k) A B→CQ y B
def ChT (base n0:Nat) (w w':World) (tos id ttl pr:Int) (q:Tu) (keep:Bool) (zo:List Int) (CQ:List Int→World→Prop) (e:Ending):Prop:=∃(zd2:List Int) (ao2:Option Addr) (co2:Nat) (ad2:Option Addr) (cd2:Nat),e= .returned (.agg #[.int .u8 tos,.int .u16 id,.bool keep,.int .u8 ttl,.int .u8 pr,.int .u32 q.dst,.int .u32 q.src,.slice ao2 zo.length co2,.slice ad2 zd2.length cd2])∧Kgl base w w'∧Ow n0 w' (.slice ao2 zo.length co2) zo∧Ow n0 w' (.slice ad2 zd2.length cd2) zd2∧CQ zd2 w'
theorem zRb(base g:Nat)(bk:Bool)(q:Tu)(tos id ttl src dst:Int)(keep:Bool)(so sd:Value)(side:Int)(zo zd:List Int)(a b:Int)(OQ:Nat→Fl→Nat→World→Prop)(CQ:List Int→World→Prop)(n0:Nat)(w:World)(he:ofe 6 src dst zd=0)(hea:ofa 6 zd=a)(heb:ofb 6 zd=b)(hfl:flt zo.length zd.length=0)(hBo:Mt.By zo)(hBd:Mt.By zd)(hOo:Ow n0 w so zo)(hOd:Ow n0 w sd zd)(hlo:zo.length≤60000)(hld:zd.length≤70000)(ht:0≤tos∧tos≤255)(hid:0≤id∧id≤65535)(htl:0≤ttl∧ttl≤255)(hsr:0≤src∧src≤4294967295)(hds:0≤dst∧dst≤4294967295)(hqb:TuB q)(hqp:q.pr=6)(hz:∀W,KG base w W→Tb W)
  (hOW:∀W,Later w W→Calls Tryz.prog 114 #[.agg #[.pointer (some ⟨g,0,none⟩),.int .u8 tos,.int .u16 id,.bool keep,.int .u8 ttl,.int .u8 6,.int .u32 src,.int .u32 dst,so,sd,.int .i64 side],.agg #[.int .u8 6,.int .u32 src,.int .u32 dst,.int .u16 a,.int .u16 b]] W fun e w'=>∃(f:Fl) (hb:Nat),e= .returned (.tuple #[.pointer (some ⟨f.blk,0,none⟩),.bool bk])∧KG base W w'∧OQ f.blk f hb w')
  (hOF:∀fb f hb W,OQ fb f hb W→f.blk=fb∧W.heap[fb]? =some (.cells (flc f).toArray 111 (0,0))∧oth f bk=q∧f.hp= .iface 459 (.pointer (some ⟨hb,0,none⟩)))
  (hOL:∀fb f hb A B,OQ fb f hb A→Later A B→OQ fb f hb B)
  (hCH:∀fb f hb W ao co ad cd,KG base w W→OQ fb f hb W→Ow w.heap.size W (.slice ao zo.length co) zo→Ow w.heap.size W (.slice ad zd.length cd) (rwD 6 q.dst q.src q.dp q.sp zd)→Calls Tryz.prog 399 #[.pointer (some ⟨hb,0,none⟩),.agg #[.pointer (some ⟨g,0,none⟩),.int .u8 tos,.int .u16 id,.bool keep,.int .u8 ttl,.int .u8 6,.int .u32 src,.int .u32 dst,so,sd,.int .i64 side,.pointer (some ⟨fb,0,none⟩),.bool bk,.int .u8 6,.int .u32 src,.int .u32 dst,.int .u16 a,.int .u16 b,.int .u8 6,.int .u32 q.dst,.int .u32 q.src,.int .u16 q.dp,.int .u16 q.sp],.agg #[.int .u8 tos,.int .u16 id,.bool keep,.int .u8 ttl,.int .u8 6,.int .u32 q.dst,.int .u32 q.src,.slice ao zo.length co,.slice ad zd.length cd]] W fun e w'=>ChT base w.heap.size W w' tos id ttl 6 q keep zo CQ e)
  (hCS:CqS CQ):
  Calls Tryz.prog 55 #[.agg #[.pointer (some ⟨g,0,none⟩),.int .u8 tos,.int .u16 id,.bool keep,.int .u8 ttl,.int .u8 6,.int .u32 src,.int .u32 dst,so,sd,.int .i64 side]] w fun e w'=>ChT base w.heap.size w w' tos id ttl 6 q keep zo CQ e:=by
 obtain⟨l0,c0,c1⟩:=zBj w (.cells #[.pointer (some ⟨g,0,none⟩),.int .u8 tos,.int .u16 id,.bool keep,.int .u8 ttl,.int .u8 6,.int .u32 src,.int .u32 dst,so,sd,.int .i64 side] 139) (.cells #[.int .u8 0,.int .u16 0,.bool false,.int .u8 0,.int .u8 0,.int .u32 0,.int .u32 0,.slice none 0 0,.slice none 0 0] 40);have C0:=zAc c0;have C1:=zAc c1;clear c0 c1;have HQ:=zAc (fun W (l:Later w W)=>zP8 tos id ttl 6 src dst keep so sd zd W (hz W (KG.of_later l)) hBd ((hOd.kg (KG.of_later (base:=base) l)).rd) (by omega) hsr hds (.inl rfl));rw[he,hea,heb]at HQ;have hv:otv 0 6 src dst a b= .agg #[.int .u8 6,.int .u32 src,.int .u32 dst,.int .u16 a,.int .u16 b]:=by unfold otv;rw[if_pos rfl]
 rw[hv]at HQ;have HOW:=zAc hOW;have HRW:=zAc (fun W (k:KG base w W)=>zFk tos id ttl 6 src dst keep so sd zo zd 6 q.dst q.src q.dp q.sp W (hz W k) hBo hBd ((hOo.kg k).rd) ((hOd.kg k).rd) (by omega) (by omega) ht hid htl (by decide) hsr hds hqb.2.1 hqb.1 hqb.2.2.2 hqb.2.2.1 (.inl rfl));have HQP:=zAc hqp;have HOF:=zAc hOF;have HOL:=zAc hOL;have HCH:=zAc hCH;have HCS:=zAc hCS;have hrw:rwe 6 6 src dst zo.length zd=0:=by unfold rwe;simp[he,hfl]
 rw[hrw]at HRW;obtain⟨sox,soc,rfl,_,_⟩:=hOo.slice;obtain⟨sdx,sdc,rfl,_,_⟩:=hOd.slice;clear hv he hea heb hfl hBo hBd hOo hOd hz hrw hOW hOF hOL hCH hCS hqp hqb;go_enter Tryz.func55,Tryz.ntmps55;go_upto_region 1 with fail;generalize (w.alloc (.cells _ 139)).alloc (.cells _ 40)=w1 at*;generalize hgx:w.heap.size=gx at C0 C1⊢;have k0:=zAa C0.out;go_wp2_with fail;refine(HQ.out w1 l0).mono ?_;rintro e w2 ⟨l2,rfl⟩;have l2':Later w1 w2:=l2;clear k0 HQ l2;go_upto_region 2 with fail;have la:=zAe w2 (.cells #[.int .u8 6,.int .u32 src,.int .u32 dst,.int .u16 a,.int .u16 b] 103);have C3:=zAc (heap_alloc_new w2 (.cells #[.int .u8 6,.int .u32 src,.int .u32 dst,.int .u16 a,.int .u16 b] 103));have D0:=zAc (zAb (l2'.trans la) C0.out);have D1:=zAc (zAb (l2'.trans la) C1.out);have L3:Later w (w2.alloc (.cells #[.int .u8 6,.int .u32 src,.int .u32 dst,.int .u16 a,.int .u16 b] 103)):=l0.trans (l2'.trans la);change Code.wp _ _ _ _ (w2.alloc (.cells #[.int .u8 6,.int .u32 src,.int .u32 dst,.int .u16 a,.int .u16 b] 103));generalize w2.alloc (.cells #[.int .u8 6,.int .u32 src,.int .u32 dst,.int .u16 a,.int .u16 b] 103)=w3 at*;generalize hg3:w2.heap.size=g3 at*;have hg3x:gx+1<g3:=by rw[←hg3];exact Nat.lt_of_lt_of_le (eS C1.out) l2'.size
 clear C0 C1 l2' la hg3;have k0:=zAa D0.out;have k3:=zAa C3.out;go_wp2_with fail;refine(zA3 1 _).mono ?_;rintro e w4 ⟨rfl,hw4⟩;subst hw4;go_wp2_with fail;refine(HOW.out w3 L3).mono ?_;rintro e w4 ⟨f,hb,rfl,kg4,hOQ⟩;clear k0 k3 HOW;have K4:Hid (KG base w w4):=(KG.of_later L3).trans kg4;have E0:=zAc (kg4.cells D0.out (by decide));have E1:=zAc (kg4.cells D1.out (by decide));have E3:=zAc (kg4.cells C3.out (by decide));obtain⟨_,hF,hfq,hhp⟩:=HOF.out _ _ _ _ hOQ;have HOQ:=zAc hOQ;have HHP:=zAc hhp;have HOT:=zAc (zGp f bk w4 hF);rw[hfq,HQP.out]at HOT;have HFF:=zAc hF;clear hF hfq kg4 hOQ hhp;go_wp2_with fail;refine HOT.out.mono ?_;rintro e w5 ⟨rfl,l5⟩;go_wp2_with fail;refine(zFa 6 q.src q.dst q.sp q.dp w5).mono ?_;rintro e w6 ⟨rfl,l6⟩;have l6':Later w5 w6:=l6;clear l6 HOT;have la:=zAe w6 (.cells #[.int .u8 6,.int .u32 q.dst,.int .u32 q.src,.int .u16 q.dp,.int .u16 q.sp] 103);have CI:=zAc (heap_alloc_new w6 (.cells #[.int .u8 6,.int .u32 q.dst,.int .u32 q.src,.int .u16 q.dp,.int .u16 q.sp] 103));have LA:=zAc la;clear la;go_upto_region 7 with fail;generalize w6.alloc _=w7 at*;generalize hg7:w6.heap.size=g7 at*;have L47:Later w4 w7:=l5.trans (l6'.trans LA.out)
 have hg7x:g3<g7:=by
  have q1:=(eS E3.out);have q2:=l5.size;have q3:=l6'.size;omega
 have J0:=zAc (zAb L47 E0.out);have J1:=zAc (zAb L47 E1.out);have J3:=zAc (zAb L47 E3.out);have JF:=zAc (zAb L47 HFF.out);have K7:Hid (KG base w w7):=K4.out.trans (KG.of_later L47);have Q7:=zAc (HOL.out _ _ _ _ _ HOQ.out L47);clear E0 E1 E3 HFF K4 HOQ l5 l6' LA hg7 L47;have k0:=zAa J0.out;have kI:=zAa CI.out;go_wp2_with fail;refine(HRW.out w7 K7.out).mono ?_;rintro e w8 ⟨l8,⟨h0,_⟩|⟨_,ao,co,ad,cd,rfl,ho8,hd8⟩⟩
 ·exact absurd rfl h0
 have l8':Later w7 w8:=l8;clear k0 kI l8 HRW;have la:=zAe w8 (.cells #[.int .u8 tos,.int .u16 id,.bool keep,.int .u8 ttl,.int .u8 6,.int .u32 q.dst,.int .u32 q.src,.slice ao zo.length co,.slice ad zd.length cd] 40);have CP:=zAc (heap_alloc_new w8 (.cells #[.int .u8 tos,.int .u16 id,.bool keep,.int .u8 ttl,.int .u8 6,.int .u32 q.dst,.int .u32 q.src,.slice ao zo.length co,.slice ad zd.length cd] 40));have LA:=zAc la;have hs78:w7.heap.size≤w8.heap.size:=l8'.size;clear la;go_upto_region 8 with fail;generalize w8.alloc _=w9 at*;generalize hg9:w8.heap.size=g9 at*;have L79:Later w7 w9:=l8'.trans LA.out
 have hg9x:g7<g9:=by
  have q1:=(eS CI.out);omega
 have N0:=zAc (zAb L79 J0.out);have N1:=zAc (zAb L79 J1.out);have N3:=zAc (zAb L79 J3.out);have NF:=zAc (zAb L79 JF.out);have NI:=zAc (zAb L79 CI.out);have K9:Hid (KG base w w9):=K7.out.trans (KG.of_later L79);have Q9':=zAc (HOL.out _ _ _ _ _ Q7.out L79);have O9:=zAc ((ho8.mono K7.out.size).kg (KG.of_later (base:=base) LA.out));have Q9:=zAc ((hd8.mono K7.out.size).kg (KG.of_later (base:=base) LA.out));clear J0 J1 J3 JF CI K7 Q7 l8' LA hg9 L79 ho8 hd8 hs78;refine zC6 ?_;refine zA6 (R1:=Later) (R2:=fun _ _=>True) (D:=[11,12]) 13 rfl (by kernel_rfl) ?_;have ld:Later w9 w9.drew:=Later.drew w9;generalize w9.drew=wd at*;have k0:∀v,Later wd v→∀j,v.cell? ⟨gx,j,none⟩=_:=fun v hv=>zAa (zAb (ld.trans hv) N0.out);have k3:∀v,Later wd v→∀j,v.cell? ⟨g3,j,none⟩=_:=fun v hv=>zAa (zAb (ld.trans hv) N3.out);have k7:∀v,Later wd v→∀j,v.cell? ⟨g7,j,none⟩=_:=fun v hv=>zAa (zAb (ld.trans hv) NI.out);have k9:∀v,Later wd v→∀j,v.cell? ⟨g9,j,none⟩=_:=fun v hv=>zAa (zAb (ld.trans hv) CP.out);have kF:∀v,Later wd v→∀j,v.cell? ⟨f.blk,j,none⟩=(flc f).toArray[j]? :=fun v hv=>zAa (zAb (ld.trans hv) NF.out);unfold flc at kF;rw[HHP.out]at kF;refine uX Later.pre 0 [1,2,3,11,12] ?_;refine uX Later.pre 1 [2,3,11,12] ?_;refine uX Later.pre 2 [3,11,12] ?_;refine uX Later.pre 3 [11,12] ?_;refine uX Later.pre 4 [9,11,12] ?_;refine uX Later.pre 5 [9,11,12] ?_;refine uX Later.pre 6 [9,11,12] ?_
 refine uX Later.pre 7 [9,11,12] ?_;refine uX Later.pre 8 [9,11,12] ?_;refine uX Later.pre 9 [11,12] ?_;refine uX Later.pre 10 [11,12] ?_;clear k0 k3 k7 k9 kF;refine uO 11 ?_;refine zAi 399 #[.pointer (some ⟨hb,0,none⟩),.agg #[.pointer (some ⟨g,0,none⟩),.int .u8 tos,.int .u16 id,.bool keep,.int .u8 ttl,.int .u8 6,.int .u32 src,.int .u32 dst,.slice sox zo.length soc,.slice sdx zd.length sdc,.int .i64 side,.pointer (some ⟨f.blk,0,none⟩),.bool bk,.int .u8 6,.int .u32 src,.int .u32 dst,.int .u16 a,.int .u16 b,.int .u8 6,.int .u32 q.dst,.int .u32 q.src,.int .u16 q.dp,.int .u16 q.sp],.agg #[.int .u8 tos,.int .u16 id,.bool keep,.int .u8 ttl,.int .u8 6,.int .u32 q.dst,.int .u32 q.src,.slice ao zo.length co,.slice ad zd.length cd]] (by have hmt:=zRa hb;go_simp) ?_;refine(HCH.out f.blk f hb wd ao co ad cd (K9.out.trans (KG.of_later ld)) (HOL.out _ _ _ _ _ Q9'.out ld) (O9.out.kg (KG.of_later (base:=base) ld)) (Q9.out.kg (KG.of_later (base:=base) ld))).mono ?_;rintro e w10 ⟨zd2,ao2,co2,ad2,cd2,rfl,k10,ho10,zLv,hC10⟩;refine⟨zEf (by rfl) trivial,?_⟩;simp only[Act.put,sA,sB,sC];have N1d:=zAc (k10.cells (zAb ld N1.out) (by decide));have kk:=zAa N1d.out;have ff:=zAd N1d.out;refine uO 12 ?_;unfold Oper.wp;go_simp;refine⟨zEf (by rfl) trivial,?_⟩;generalize hV:World.setCell _ ⟨_,8,none⟩ _=V8
 have hV9:V8=zAj w10 (gx+1) 0 [.int .u8 tos,.int .u16 id,.bool keep,.int .u8 ttl,.int .u8 6,.int .u32 q.dst,.int .u32 q.src,.slice ao2 zo.length co2,.slice ad2 zd2.length cd2]:=hV.symm;have hb8:But (fun b=>b=gx+1) w10 V8:=by rw[hV9];exact zAf (E:=fun b=>b=gx+1) (n:=gx+1) rfl _ _ _ _ (But.refl _ _)
 have p8:=zAg [.int .u8 tos,.int .u16 id,.bool keep,.int .u8 ttl,.int .u8 6,.int .u32 q.dst,.int .u32 q.src,.slice ao2 zo.length co2,.slice ad2 zd2.length cd2] N1d.out rfl;rw[←hV9]at p8;clear hV hV9 kk ff;have HB8:=zAc hb8;have HP8:=zAc p8;clear hb8 p8;refine uD ?_;refine⟨rfl,?_⟩;have K10:Kgl base w w10:=(Kgl.of_kg (K9.out.trans (KG.of_later ld))).trans k10;have k8:Kgl base w V8:=K10.own HB8.out (by omega);have o8:=ho10.aside N1d.out (by decide) HB8.out;have q8:=zLv.aside N1d.out (by decide) HB8.out;have c8:=HCS.out _ _ _ _ _ _ _ hC10 N1d.out (.inl rfl) HB8.out;have P8:=zAa HP8.out;go_wp2_with fail;exact bodyPost_ret (v:= .agg #[.int .u8 tos,.int .u16 id,.bool keep,.int .u8 ttl,.int .u8 6,.int .u32 q.dst,.int .u32 q.src,.slice ao2 zo.length co2,.slice ad2 zd2.length cd2]) (by simp[results,Tryz.results55,go_sem,P8]) rfl ⟨zd2,ao2,co2,ad2,cd2,rfl,k8,o8,q8,c8⟩
end Go.Proofs.YteaeilghamjjkaaGreatDoor
