import Derived.Test.YteaeilghamjjkaaGreatDoorX4
import Derived.Laws.AppendOwn
namespace Go.Proofs.YteaeilghamjjkaaGreatDoor
set_option maxHeartbeats 8000000
open Go.RowKit Go.Shelf
set_option maxRecDepth 100000
set_option linter.unusedVariables false
set_option linter.unusedSimpArgs false
theorem zAu(t:Tu)(id tl tn:Int):zBe t (roT t id tl tn)=true:=isK_yes t id tl tn
theorem zDj(t u:Tu)(id tl tn:Int)(h:¬tuA u t):zBe t (roT u id tl tn)=false:=isK_not t u id tl tn h
def rw2 (o r:Tu) (id t n1 n2:Int):List Rw:=[roT o id t n1,roT r id t n2]
theorem zNd(o r:Tu)(id t n1 n2:Int)(hne:¬tuA o r):UL (rw2 o r id t n1 n2):=by
 have h1:=zGt (roT o id t n1) o (zAu o id t n1) (L:=[]) (by simp) UL_nil;refine zGt (L:=[roT o id t n1]) (roT r id t n2) r (zAu r id t n2) (fun x hx=> ?_) h1;have e:x=roT o id t n1:=by simpa using hx
 rw[e];exact zDj r o id t n1 hne
theorem reT_ro(u:Tu)(id t n t2 n2:Int):reT t2 n2 (roT u id t n)=roT u id t2 n2:=rfl
theorem zHq {t u:Tu} (h:tuA t u):tuA u t:=by
 obtain⟨h1,h2,h3,h4,h5⟩:=h;exact⟨h1.symm,h2.symm,h3.symm,h4.symm,h5.symm⟩
theorem rw2_mv1(o r:Tu)(id t n1 n2 t2 m:Int)(hne:¬tuA o r):mvR o t2 m (rw2 o r id t n1 n2)=[roT o id t2 m,roT r id t n2]:=by
 unfold mvR rw2;simp only[List.map_cons,List.map_nil];rw[if_pos (zAu o id t n1),if_neg (by rw[zDj o r id t n2 (fun e=>hne (zHq e))];simp),reT_ro]
theorem rw2_mv2(o r:Tu)(id t n1 n2 t1 t2 m:Int)(hne:¬tuA o r):mvR r t2 m [roT o id t1 n1,roT r id t n2]=[roT o id t1 n1,roT r id t2 m]:=by
 unfold mvR;simp only[List.map_cons,List.map_nil];rw[if_neg (by rw[zDj r o id t1 n1 hne];simp),if_pos (zAu r id t n2),reT_ro]
theorem ul_pair(o r:Tu)(id t1 t2 n1 n2:Int)(hne:¬tuA o r):UL [roT o id t1 n1,roT r id t2 n2]:=by
 have h1:=zGt (roT o id t1 n1) o (zAu o id t1 n1) (L:=[]) (by simp) UL_nil;refine zGt (L:=[roT o id t1 n1]) (roT r id t2 n2) r (zAu r id t2 n2) (fun x hx=> ?_) h1;have e:x=roT o id t1 n1:=by simpa using hx
 rw[e];exact zDj r o id t1 n1 hne
theorem zGu(o r:Tu)(id t n1 n2 t2 trn:Int)(hm:zDe t2=true)(hne:¬tuA o r):mvT r t2 (mvT o t2 (trn,rwL (rw2 o r id t n1 n2)))=(trn+1+1,rwL (rw2 o r id t2 (trn+1) (trn+1+1))):=by
 rw[zOj o t2 trn (rw2 o r id t n1 n2) (roT o id t n1) hm (by simp[rw2]) (zAu o id t n1) (zNd o r id t n1 n2 hne),rw2_mv1 o r id t n1 n2 t2 (trn+1) hne];rw[zOj r t2 (trn+1) [roT o id t2 (trn+1),roT r id t n2] (roT r id t n2) hm (by simp) (zAu r id t n2) (ul_pair o r id t2 t (trn+1) n2 hne),rw2_mv2 o r id t (trn+1) n2 t2 t2 (trn+1+1) hne];rfl
theorem rw2_put(o r:Tu)(id t trn:Int)(hm:zDe t=true)(hne:¬tuA o r):ptT r id t (ptT o id t (0,trn,rwL []))=(0+1+1,trn+1+1,rwL (rw2 o r id t (trn+1) (trn+1+1))):=by
 rw[ptT_L o id t 0 trn [] hm (by omega) (by simp)]
 rw[ptT_L r id t (0+1) (trn+1) ([]++[roT o id t (trn+1)]) hm (by omega) (fun x hx=>by
  have e:x=roT o id t (trn+1):=by simpa using hx
  rw[e];exact zDj r o id t (trn+1) hne)]
 rfl
theorem zLj(L:List Rw)(j:Nat):(rwL L j).length≤L.length:=List.length_filter_le _ _
theorem zFt(L:List Rw)(n:Int)(h:∀r∈L,n<r.till):duR n (zDf (rwL L))=[]:=by
 unfold duR;rw[List.filter_eq_nil_iff];intro x hx
 have:=h x ((allL_mem L x).1 hx);simp
 omega
theorem zLk(L:List Rw)(k:Nat)(h:L.length≤k):(zDf (rwL L)).length≤256*k:=by
 show((List.range 256).flatMap (rwL L)).length≤_
 have:∀n,((List.range n).flatMap (rwL L)).length≤n*k:=by
  intro n
  induction n with
  |zero=>simp
  |succ n ih=>
   rw[List.range_succ,List.flatMap_append,List.length_append];have:=zLj L n;simp only[List.flatMap_cons,List.flatMap_nil,List.append_nil];rw[Nat.succ_mul];omega
 exact this 256
theorem EsI.pushP {es:Array MapEntry} {cf:Nat} (h:EsI es cf)(z:Int)(v:Value):EsI (es.push ⟨.int .i64 z,v,cf⟩) (cf+1):=by
 refine⟨fun e he=> ?_,fun e he=> ?_,?_⟩
 ·rw[Array.toList_push]at he
  rcases List.mem_append.1 he with he|he
  ·exact h.ki e he
  ·rw[List.mem_singleton.1 he];exact⟨z,rfl⟩
 ·rw[Array.toList_push]at he
  rcases List.mem_append.1 he with he|he
  ·have:=h.bn e he;omega
  ·rw[List.mem_singleton.1 he];exact Nat.lt_succ_self cf
 ·rw[Array.toList_push,List.map_append,List.nodup_append]
  refine⟨h.nd,by simp,fun a ha b hb e=> ?_⟩;obtain⟨x,hx,rfl⟩:=List.mem_map.1 ha;have hb':b=cf:=by simpa using hb
  have:=h.bn x hx;omega
theorem EsI.nilP(cf:Nat):EsI #[] cf:=⟨by simp,by simp,by simp⟩
def oP:Tu:=⟨6,167772162,134744072,5555,1723⟩
def rP (nn:Int):Tu:=⟨6,134744072,16909060,1723,nn⟩
theorem zLl(nn:Int):¬tuA oP (rP nn):=fun e=>by
 have:(167772162:Int)=134744072:=e.2.1;omega
structure S1 (s:Gf) (f:Fl) (nn:Nat) (st:Int) (ws:Nat→Nat):Prop where
 fs:s.fs=[f]
 rw:∃t n1 n2,s.rw=rwL (rw2 oP (rP nn) 0 t n1 n2)∧9<t
 id:f.id=0
 o:f.o=oP
 r:f.r=rP nn
 sd:f.side=0
 ms:f.ms= -1
 st:f.st=st
 ex:s.ex=[]
 cnt:s.cnt=2
 trn:0≤s.trn∧s.trn≤100
 bg:s.bg=1
 lo:s.lo=1000
 hi:s.hi=1063
 now:0≤s.now∧s.now≤9
 ps:∃pb,s.ps=[⟨6,16909060,pb,ws⟩]
 n9:1000≤nn∧nn≤1063
 es:EsI s.fe s.cf
theorem S1.ltr {s:Gf} {f:Fl} {nn:Nat} {st:Int} {ws:Nat→Nat} (h:S1 s f nn st ws)(n:Int)(v:Value)(hn:0≤n∧n≤9):S1 (ltr s n v) f nn st ws:=⟨h.fs,h.rw,h.id,h.o,h.r,h.sd,h.ms,h.st,h.ex,h.cnt,h.trn,h.bg,h.lo,h.hi,hn,h.ps,h.n9,h.es⟩
theorem S1.quiet {s:Gf} {f:Fl} {nn:Nat} {st:Int} {ws:Nat→Nat} (h:S1 s f nn st ws)(n:Int)(hn:n≤9):duR n (zDf s.rw)=[]:=by
 obtain⟨t,n1,n2,e,ht⟩:=h.rw;rw[e];refine zFt _ n (fun r hr=> ?_);have hr':r=roT oP 0 t n1∨r=roT (rP nn) 0 t n2:=by simpa[rw2]using hr
 rcases hr' with rfl|rfl
 ·show n<t;omega
 ·show n<t;omega
theorem S1.all {s:Gf} {f:Fl} {nn:Nat} {st:Int} {ws:Nat→Nat} (h:S1 s f nn st ws):(zDf s.rw).length≤5000:=by
 obtain⟨t,n1,n2,e,ht⟩:=h.rw;rw[e];exact Nat.le_trans (zLk _ 2 (by simp[rw2])) (by omega)
theorem S1.ne {s:Gf} {f:Fl} {nn:Nat} {st:Int} {ws:Nat→Nat} (h:S1 s f nn st ws):¬tuA f.o f.r:=by
 rw[h.o,h.r];exact zLl _
theorem S1.become {s:Gf} {f:Fl} {nn:Nat} {st:Int} {ws:Nat→Nat} (h:S1 s f nn st ws)(st2:Int)(ht:s.trn≤98)(h2:9<tm 6 st2):S1 (bcS s f st2) (f.at st2 (s.now+tm 6 st2)) nn st2 ws∧(bcS s f st2).trn=s.trn+1+1:=by
 have hp:f.o.pr=6:=by rw[h.o];rfl
 obtain⟨t,n1,n2,e,h9⟩:=h.rw;have hb:=zQy 6 st2;have hw:=h.now
 have hbc:bcM s f (s.now+tm 6 st2)=(s.trn+1+1,rwL (rw2 oP (rP nn) 0 (s.now+tm 6 st2) (s.trn+1) (s.trn+1+1))):=by
  unfold bcM;rw[e,h.o,h.r];exact zGu oP (rP nn) 0 t n1 n2 _ s.trn (by unfold zDe;rw[decide_eq_true_eq];omega) (zLl _)
 have htr:=h.trn;refine⟨⟨?_,⟨s.now+tm 6 st2,s.trn+1,s.trn+1+1,?_,by omega⟩,h.id,h.o,h.r,h.sd,h.ms,rfl,h.ex,h.cnt,?_,h.bg,h.lo,h.hi,h.now,h.ps,h.n9,h.es⟩,?_⟩
 ·show s.fs.map (fun x=>if x.blk=f.blk then _ else x)=_
  rw[h.fs,hp];simp[Fl.at]
 ·show (bcM s f (s.now+tm f.o.pr st2)).2=_
  rw[hp,hbc]
 ·show 0≤(bcM s f (s.now+tm f.o.pr st2)).1∧(bcM s f (s.now+tm f.o.pr st2)).1≤100
  rw[hp,hbc];show 0≤s.trn+1+1∧s.trn+1+1≤100
  omega
 ·show (bcM s f (s.now+tm f.o.pr st2)).1=_
  rw[hp,hbc]
theorem S1.forth {s:Gf} {f:Fl} {nn:Nat} {st:Int} {ws:Nat→Nat} (h:S1 s f nn st ws):∃k r,kxT oP s.rw=some k∧(s.rw (bkT oP))[k]? =some r∧r.id=f.id:=by
 obtain⟨t,n1,n2,e,h9⟩:=h.rw;obtain⟨k,q1,q2⟩:=zD3 (rw2 oP (rP nn) 0 t n1 n2) oP (roT oP 0 t n1) (by simp[rw2]) (zAu _ _ _ _) (zNd _ _ _ _ _ _ (zLl _));rw[e];exact⟨k,_,q1,q2,by rw[h.id];rfl⟩
theorem S1.back {s:Gf} {f:Fl} {nn:Nat} {st:Int} {ws:Nat→Nat} (h:S1 s f nn st ws):∃k r,kxT (rP nn) s.rw=some k∧(s.rw (bkT (rP nn)))[k]? =some r∧r.id=f.id:=by
 obtain⟨t,n1,n2,e,h9⟩:=h.rw;obtain⟨k,q1,q2⟩:=zD3 (rw2 oP (rP nn) 0 t n1 n2) (rP nn) (roT (rP nn) 0 t n2) (by simp[rw2]) (zAu _ _ _ _) (zNd _ _ _ _ _ _ (zLl _));rw[e];exact⟨k,_,q1,q2,by rw[h.id];rfl⟩
theorem HvP.asideF {A B:World} {f:Fl} {pr ad:Int} {n mb:Nat} {cur:Array Value} {t:TypeId} {fz:Nat × Nat} (h:HvP A f pr ad n)(hm:A.heap[mb]? =some (.cells cur t fz))(ht:t≠230)(hb:But (fun q=>q=mb) A B):HvP B f pr ad n:=by
 obtain⟨b,e,hh⟩:=h;refine⟨b,e,(hb.block b (eS hh) (fun q=> ?_)).trans hh⟩;have q':b=mb:=q;rw[q',hm]at hh;exact ht (Obj.cells.inj (Option.some.inj hh)).2.1
theorem HpN.asideF {A B:World} {hb mb:Nat} {cur:Array Value} {t:TypeId} {fz:Nat × Nat} (h:HpN A hb)(hm:A.heap[mb]? =some (.cells cur t fz))(ht:t≠462)(hB:But (fun q=>q=mb) A B):HpN B hb:=by
 unfold HpN at*;refine(hB.block hb (eS h) (fun q=> ?_)).trans h;have q':hb=mb:=q;rw[q',hm]at h;exact ht (Obj.cells.inj (Option.some.inj h)).2.1
structure V1 (base g:Nat) (W:World) (f:Fl) (hb nn:Nat) (st:Int) (ws:Nat→Nat) (now tr:Int):Prop where
 gf:∃s,GF base W g s∧S1 s f nn st ws∧s.now=now∧s.trn=tr
 hp:f.hp=hpt hb
 hn:HpN W hb
 hv:HvP W f 6 16909060 nn
 vb:HvB base f
 nb:base≤hb
theorem V1.later {base g:Nat} {A B:World} {f:Fl} {hb nn:Nat} {st:Int} {ws:Nat→Nat} {now tr:Int} (h:V1 base g A f hb nn st ws now tr)(l:Later A B):V1 base g B f hb nn st ws now tr:=by
 obtain⟨s,h1,h2⟩:=h.gf;exact⟨⟨s,h1.later l,h2⟩,h.hp,zAb l h.hn,h.hv.kg (KG.of_later (base:=base) l),h.vb,h.nb⟩
theorem V1.aside {base g:Nat} {A B:World} {f:Fl} {hb nn:Nat} {st:Int} {ws:Nat→Nat} {now tr:Int} (h:V1 base g A f hb nn st ws now tr) {mb:Nat} {cur:Array Value} {t:TypeId} {fz:Nat × Nat} (hm:A.heap[mb]? =some (.cells cur t fz))(ht:t=40∨t=36)(hB:But (fun q=>q=mb) A B):V1 base g B f hb nn st ws now tr:=by
 obtain⟨s,h1,h2⟩:=h.gf;exact⟨⟨s,h1.other (TE.one hm) hB (by rcases ht with rfl|rfl<;>decide),h2⟩,h.hp,h.hn.asideF hm (by rcases ht with rfl|rfl<;>decide) hB,h.hv.asideF hm (by rcases ht with rfl|rfl<;>decide) hB,h.vb,h.nb⟩
theorem zNe {base n1:Nat} {src dst sp dp sq ak fl:Int} {zm z:List Int} (hT:TG src dst sp dp sq ak fl zm z)(q:Tu)(hq:TuB q)(hl:zm.length≤500)(hne:lye zm≠0)(VQ:World→Prop)(hVL:∀A B,VQ A→Later A B→VQ B)(hb:Nat)(x:Array Value)(W:World)(ao ad:Option Addr)(co cd:Nat)(hn:n1≤W.heap.size)(hV:VQ W)(hO:Ow n1 W (.slice ao 0 co) [])(hD:Ow n1 W (.slice ad z.length cd) (rwD 6 q.dst q.src q.dp q.sp z)):
  Calls Tryz.prog 399 #[.pointer (some ⟨hb,0,none⟩),.agg x,.agg #[.int .u8 0,.int .u16 0,.bool false,.int .u8 64,.int .u8 6,.int .u32 q.dst,.int .u32 q.src,.slice ao 0 co,.slice ad z.length cd]] W fun e w'=>ChT base n1 W w' 0 0 64 6 q false [] (fun y W'=>VQ W'∧TG q.dst q.src q.dp q.sp sq ak fl zm y) e:=by
 have hR:=zCc (s:=q.dst) (d:=q.src) (a:=q.dp) (b:=q.sp) hT hq.2.1 hq.1 hq.2.2.2 hq.2.2.1;generalize hzt:rwD 6 q.dst q.src q.dp q.sp z=zt at*;have hzl:zt.length=z.length:=by rw[←hzt];exact zBl _ _ _ _ _
 rw[←hzl]at hD⊢;have hln:=hR.len;refine(zI9 hb x 0 0 64 q.dst q.src false ao ad 0 co cd zt W hR.by_ (hD.rd.mono (Nat.le_refl _)) (by omega) hq.2.1 hq.1 hR.ok (by rw[hR.th];show lye (zt.drop 20)≠0;rw[hR.dat];exact hne)).mono ?_;rintro e w' ⟨rfl,l⟩;refine⟨zt,ao,co,ad,cd,rfl,Kgl.of_kg (KG.of_later l),hO.kg (KG.of_later (base:=base) l),hD.kg (KG.of_later (base:=base) l),hVL _ _ hV l,hR⟩
theorem pass1(base g:Nat)(f:Fl)(hb nn:Nat)(st st2:Int)(ws:Nat→Nat)(now tr nw side:Int)(bk:Bool)(q:Tu)(src dst sp dp sq ak fl:Int)(zm z:List Int)(sb:Value)(w:World)(h:V1 base g w f hb nn st ws now tr)(hbs:base≤w.heap.size)(hT:TG src dst sp dp sq ak fl zm z)(hl:zm.length≤500)(hne:lye zm≠0)(nI:Nat)(hI:Ow nI w sb (tgB 64 src dst z))(hcm:zI3 side bk)(hq:q=if bk then oP else rP nn)(hu:(⟨6,src,dst,sp,dp⟩:Tu)=if bk then rP nn else oP)(hnw:nw≤9)(htr:tr≤98)(hst:nx st bk fl=st2)(h2:st2≠0)(h9:9<tm 6 st2)(hz:∀W,KG base w W→Tb W):
  Calls Tryz.prog 7 #[.pointer (some ⟨g,0,none⟩),.int .i64 nw,.int .i64 side,sb] w fun e w'=>TpQ base w w' nw now q (fun n v y W=>(∃f2,f2.blk=f.blk∧V1 base g W f2 hb nn st2 ws n (tr+1+1))∧TG q.dst q.src q.dp q.sp sq ak fl zm y) e:=by
 obtain⟨s,hG,hS,rfl,rfl⟩:=h.gf;have hn9:=hS.n9
 have hqb:TuB q∧q.pr=6∧((0≤src∧src≤4294967295)∧(0≤dst∧dst≤4294967295)∧(0≤sp∧sp≤65535)∧(0≤dp∧dp≤65535)):=by
  have hbo:TuB oP:=by unfold TuB oP;simp
  have hbr:TuB (rP nn):=by unfold TuB rP;simp;omega
  cases bk
  ·obtain ⟨e1,e2,e3,e4,e5⟩:=Tu.mk.inj hu
   rw[hq];exact⟨hbr,rfl,by rw[e2];omega,by rw[e3];omega,by rw[e4];omega,by rw[e5];omega⟩
  ·obtain ⟨e1,e2,e3,e4,e5⟩:=Tu.mk.inj hu
   rw[hq];exact⟨hbo,rfl,by rw[e2];omega,by rw[e3];omega,by rw[e4];omega,by rw[e5];omega⟩
 obtain⟨hqb,hqp,hsr,hds,hsp,hdp⟩:=hqb;have hfo:=hS.o;have hfr:=hS.r;have hne1:=hS.ne;have hsd0:=hS.sd;have hfb:=hG.fb f (by rw[hS.fs];simp)
 have hqo:oth f bk=q:=by
  unfold oth;rw[hq,hfo,hfr]
 refine(zD2 base g s side nw bk q src dst sp dp sq ak fl zm z sb (fun n v fb f2 hb2 W=>f2.blk=fb∧hb2=hb∧oth f2 bk=q∧f2.blk=f.blk∧V1 base g W f2 hb nn st2 ws n (s.trn+1+1)) (fun n v y W=>(∃f2,f2.blk=f.blk∧V1 base g W f2 hb nn st2 ws n (s.trn+1+1))∧TG q.dst q.src q.dp q.sp sq ak fl zm y) w hG hbs hT hl nI hI hsr hds (by rcases hcm with⟨e,_⟩|⟨e,_⟩<;>simp[e]) hqb hqp ⟨hS.now.1,by have:=hS.now.2;omega⟩ hS.ex (fun n hn=>hS.quiet n (by have:=hS.now.2;omega)) hS.all hz ?hOW ?hOF ?hOL ?hCH ?hCS ?hCL ?hCT).mono (fun e w' h=>h)
 case hOW=>
  intro n v W so sd k hn hn1 hn2 hg hd
  have hS2:=hS.ltr n v ⟨hn.1,by have:=hS.now.2;omega⟩
  have hkr:∃(k:Nat) (r:Rw),kx 6 src dst sp dp (ltr s n v).rw=some k∧((ltr s n v).rw (bki 6 src dst sp dp))[k]? =some r∧r.id=f.id:=by
   cases bk
   ·obtain ⟨e1,e2,e3,e4,e5⟩:=Tu.mk.inj hu
    rw[e2,e3,e4,e5];exact hS2.forth
   ·obtain ⟨e1,e2,e3,e4,e5⟩:=Tu.mk.inj hu
    rw[e2,e3,e4,e5];exact hS2.back
  obtain⟨kk,r,hk1,hk2,hk3⟩:=hkr
  have hbk:bk=true↔¬(6=f.o.pr∧src=f.o.src∧dst=f.o.dst∧kyp 6 sp=kyp f.o.pr f.o.sp∧dp=f.o.dp):=by
   rw[hfo];cases bk
   ·obtain ⟨e1,e2,e3,e4,e5⟩:=Tu.mk.inj hu
    rw[e2,e3,e4,e5];simp[oP]
   ·obtain ⟨e1,e2,e3,e4,e5⟩:=Tu.mk.inj hu
    rw[e2,e3,e4,e5];simp[oP,rP]
  refine(zHp base g (ltr s n v) f bk 0 0 64 src dst false so sd side z 6 src dst sp dp kk r W hg (by show f∈s.fs;rw[hS.fs];simp) (fun x hx y hy _=>by
   have hx':x∈s.fs:=hx;have hy':y∈s.fs:=hy;rw[hS.fs]at hx' hy';rw[List.mem_singleton.1 hx',List.mem_singleton.1 hy']) (fun x hx _=>by
   have hx':x∈s.fs:=hx;rw[hS.fs]at hx';exact List.mem_singleton.1 hx') hk1 hk2 hk3 hsr hds hsp hdp hbk hsd0 hcm (Nat.le_trans hbs k.size) (by rw[hfo];unfold TuB oP;simp) (by rw[hfr];unfold TuB rP;simp;omega) ⟨hS.trn.1,by show s.trn≤999999;omega⟩ hn hT.by_ hd (by have:=hT.len;omega) hsr hds hT.ok (by rw[hS2.st,hT.fl,hst];exact h2)).mono ?_
  rintro e w2 ⟨rfl,k2,hg2⟩;rw[hS2.st,hT.fl,hst]at hg2;obtain⟨q1,q2⟩:=hS2.become st2 (by show s.trn≤98;omega) h9;refine⟨f.at st2 ((ltr s n v).now+tm 6 st2),hb,rfl,k2,rfl,rfl,hqo,rfl,⟨_,hg2,q1,rfl,q2⟩,h.hp,?_,?_,h.vb,h.nb⟩
  ·exact (k.trans k2).cells h.hn (by decide)
  ·exact HvP.kg (f:=f) h.hv (k.trans k2)
 case hOF=>
  rintro n v fb f2 hb2 W ⟨rfl,rfl,h3,h4,hv⟩;obtain⟨s2,hg2,hS2,_⟩:=hv.gf;exact⟨rfl,(hg2.fb f2 (by rw[hS2.fs];simp)).2,h3,hv.hp⟩
 case hOL=>
  rintro n v fb f2 hb2 A B ⟨h1,h2,h3,h4,hv⟩ l;exact⟨h1,h2,h3,h4,hv.later l⟩
 case hCH=>
  rintro n v fb f2 hb2 n1 W so sd ao co ad cd hw1 hw2 k ⟨rfl,rfl,h3,h4,hv⟩ ho hd;exact zNe hT q hqb hl hne (fun W=>∃f2,f2.blk=f.blk∧V1 base g W f2 hb2 nn st2 ws n (s.trn+1+1)) (fun A B ⟨f3,e3,h5⟩ l=>⟨f3,e3,h5.later l⟩) hb2 _ W ao ad co cd hw2 ⟨f2,h4,hv⟩ ho hd
 case hCS=>
  rintro n v y A B k cur t fz ⟨⟨f3,e3,h5⟩,h6⟩ hk ht hB;exact⟨⟨f3,e3,h5.aside hk ht hB⟩,h6⟩
 case hCL=>
  rintro n v y W ⟨_,h6⟩;have:=h6.len;omega
 case hCT=>
  rintro n v y A B ⟨⟨f3,e3,h5⟩,h6⟩ l;exact⟨⟨f3,e3,h5.later l⟩,h6⟩
def nnP:Nat:=tkn 1000 1063 5555
theorem zNf:1000≤nnP∧nnP≤1063:=zCx (by omega)
def wsP:Nat→Nat:=wsR (zCr (zBy 1000 1063)) nnP
structure S0 (s:Gf):Prop where
 fs:s.fs=[]
 rw:s.rw=rwL []
 ex:s.ex=[]
 cnt:s.cnt=0
 trn:s.trn=0
 bg:s.bg=0
 lo:s.lo=1000
 hi:s.hi=1063
 now:0≤s.now∧s.now≤9
 ps:s.ps=[]
 ls:s.ls=[mqR]
 fe:s.fe=#[]
theorem S0.ltr {s:Gf} (h:S0 s)(n:Int)(v:Value)(hn:0≤n∧n≤9):S0 (ltr s n v):=⟨h.fs,h.rw,h.ex,h.cnt,h.trn,h.bg,h.lo,h.hi,hn,h.ps,h.ls,h.fe⟩
theorem S0.start(s:Gs)(hls:s.ls=[mqR])(hnw:0≤s.now∧s.now≤9):S0 (gfS 1000 1063 s):=⟨rfl,rfl,rfl,rfl,rfl,rfl,rfl,rfl,hnw,rfl,hls,rfl⟩
theorem S1.first {s:Gf} (h:S0 s) {f:Fl} (hid:f.id=s.bg)(ho:f.o=oP)(hr:f.r=rP nnP)(hsd:f.side=0)(hms:f.ms= -1) {ps:List Pl} {pe:Array MapEntry} {cp:Nat} (hps:∃pb,ps=[⟨6,16909060,pb,wsP⟩]):
  S1 (bcS (opS (zRc s ps pe cp) f) f 1) (f.at 1 (s.now+120)) nnP 1 wsP∧(bcS (opS (zRc s ps pe cp) f) f 1).trn=0+1+1+1+1:=by
 have hp:f.o.pr=6:=by rw[ho];rfl
 have hi0:f.id=0:=by rw[hid,h.bg]
 have hnw:=h.now
 have hop:opM (zRc s ps pe cp) f=(0+1+1,0+1+1,rwL (rw2 oP (rP nnP) 0 s.now (0+1) (0+1+1))):=by
  unfold opM;show ptT f.r f.id s.now (ptT f.o f.id s.now (s.cnt,s.trn,s.rw))=_
  rw[h.cnt,h.trn,h.rw,ho,hr,hi0];exact rw2_put oP (rP nnP) 0 s.now 0 (by unfold zDe;rw[decide_eq_true_eq];omega) (zLl _)
 have hbc:bcM (opS (zRc s ps pe cp) f) f (s.now+120)=(0+1+1+1+1,rwL (rw2 oP (rP nnP) 0 (s.now+120) (0+1+1+1) (0+1+1+1+1))):=by
  unfold bcM opS;simp only[hop];rw[ho,hr];exact zGu oP (rP nnP) 0 s.now (0+1) (0+1+1) _ (0+1+1) (by unfold zDe;rw[decide_eq_true_eq];omega) (zLl _)
 have htm:tm f.o.pr 1=120:=by rw[hp];decide
 have hnow:(opS (zRc s ps pe cp) f).now=s.now:=rfl
 have hb1:(bcS (opS (zRc s ps pe cp) f) f 1).trn=0+1+1+1+1:=by
  show(bcM _ f (_+tm f.o.pr 1)).1=_
  rw[htm,hnow,hbc]
 refine⟨⟨?_,⟨s.now+120,0+1+1+1,0+1+1+1+1,?_,by omega⟩,hi0,ho,hr,hsd,hms,rfl,h.ex,?_,by rw[hb1];omega,?_,h.lo,h.hi,h.now,hps,zNf,by show EsI (s.fe.push _) (s.cf+1);rw[h.fe];exact EsI.pushP (EsI.nilP s.cf) _ _⟩,hb1⟩
 ·show (s.fs++[f]).map (fun x=>if x.blk=f.blk then f.at 1 ((opS (zRc s ps pe cp) f).now+tm f.o.pr 1)else x)=_
  rw[h.fs,htm,hnow];simp
 ·show (bcM _ f (_+tm f.o.pr 1)).2=_
  rw[htm,hnow,hbc]
 ·show (opM (zRc s ps pe cp) f).1=_
  rw[hop];rfl
 ·show s.bg+1=_
  rw[h.bg];rfl
theorem mq_okP:okL [mqR]:=⟨by simp,fun r hr=>by have e:=List.mem_singleton.1 hr;rw[e];exact⟨by unfold wfR mqR;simp,by decide+kernel⟩⟩
theorem mq_fdP:[mqR].find? (mqB 167772162)=some mqR:=by decide+kernel
def TQP:TkP:=fun n ps pe cp=>n=nnP∧∃pb,ps=[⟨6,16909060,pb,wsP⟩]
theorem zLm:lye ([]:List Int)≠0:=by decide
theorem syn1(base g:Nat)(s:Gf)(nw sq ak:Int)(z:List Int)(sb:Value)(w:World)(hG:GF base w g s)(hS:S0 s)(hbs:base≤w.heap.size)(hT:TG 167772162 134744072 5555 1723 sq ak 2 [] z)(nI:Nat)(hI:Ow nI w sb (tgB 64 167772162 134744072 z))(hnw:nw≤9)(hz:∀W,KG base w W→Tb W∧Dz W)(hgz:6≤w.heap.size):
  Calls Tryz.prog 7 #[.pointer (some ⟨g,0,none⟩),.int .i64 nw,.int .i64 0,sb] w fun e w'=>TpQ base w w' nw s.now (rP nnP) (fun n v y W=>(∃f2 hb,V1 base g W f2 hb nnP 1 wsP n (0+1+1+1+1))∧TG 16909060 134744072 nnP 1723 sq ak 2 [] y) e:=by
 have hn9:=zNf;have hqb:TuB (rP nnP):=by unfold TuB rP;simp;omega
 refine(zD2 base g s 0 nw false (rP nnP) 167772162 134744072 5555 1723 sq ak 2 [] z sb (fun n v fb f2 hb2 W=>f2.blk=fb∧oth f2 false=rP nnP∧V1 base g W f2 hb2 nnP 1 wsP n (0+1+1+1+1)) (fun n v y W=>(∃f2 hb,V1 base g W f2 hb nnP 1 wsP n (0+1+1+1+1))∧TG 16909060 134744072 nnP 1723 sq ak 2 [] y) w hG hbs hT (by simp) nI hI (by omega) (by omega) (.inl rfl) hqb rfl ⟨hS.now.1,by have:=hS.now.2;omega⟩ hS.ex (fun n hn=>by rw[hS.rw];exact zFt [] n (by simp)) (by rw[hS.rw];exact Nat.le_trans (zLk [] 0 (by simp)) (by omega)) (fun W k=>(hz W k).1) ?hOW ?hOF ?hOL ?hCH ?hCS ?hCL ?hCT).mono (fun e w' h=>h)
 case hOW=>
  intro n v W so sd k hn hn1 hn2 hg hd
  have hS2:=hS.ltr n v ⟨hn.1,by have:=hS.now.2;omega⟩
  have hR:Rd6 (ltr s n v) 167772162 134744072 5555 1723 mqR TQP:=⟨by show okL s.ls;rw[hS.ls];exact mq_okP,by show s.ls.find? _=_;rw[hS.ls];exact mq_fdP,by omega,by omega,by omega,by omega,by decide,rfl,by show kx _ _ _ _ _ s.rw=_;rw[hS.rw];rfl,fun m ps pe cp _=>by show kx _ _ _ _ _ s.rw=_;rw[hS.rw];rfl,by show s.fs.length<64;rw[hS.fs];decide,by omega,by show 0≤s.trn∧s.trn≤900000;rw[hS.trn];omega,hn,by show 0≤s.bg∧s.bg≤1000000;rw[hS.bg];omega,(fun y hy=>by
   have hy':y∈s.fs:=hy;rw[hS.fs]at hy';cases hy'),by show 0≤s.cnt∧s.cnt≤1000;rw[hS.cnt];omega,fun i=>by show(s.rw i).length≤4000;rw[hS.rw];exact Nat.le_trans (zLj [] i) (by simp)⟩
  have hTK:Tk6 base W g (ltr s n v) 5555 mqR TQP:=fun W2 hg2 k2=>by
   have K:=k.trans k2
   refine(zQu base g (ltr s n v) 6 16909060 5555 W2 hg2 hS2.ps (by rw[hS2.lo];omega) (by rw[hS2.lo,hS2.hi];omega) (by rw[hS2.hi];omega) (by omega) (Nat.le_trans hbs K.size) (fun V hV=>(hz V (K.trans (KG.of_but hV (fun q e=>by
    have e':q=s.gp:=e;rw[e']
    exact⟨hg2.bf.2,fun ob ho=>by
     have hp:=hg2.pl;have hp':W2.heap[s.gp]? =some (.map s.pe s.cp):=hp;rw[hp']at ho;cases ho
     exact trivial⟩)))).2) (Nat.le_trans hgz K.size)).mono ?_
   rintro e w' ⟨b,rfl,hb,hbs2,hG2⟩;have hlo:(ltr s n v).lo=1000:=hS2.lo;have hhi:(ltr s n v).hi=1063:=hS2.hi;rw[hlo,hhi]at hG2⊢;exact⟨nnP,[⟨6,16909060,b,wsP⟩],_,_,rfl,⟨hb.os,hb.tape,hb.output,hb.size,fun i hi he=>hb.block i hi (fun q=>he (.inl q))⟩,hG2,by omega,rfl,b,rfl⟩
  refine(owner_6 base g (ltr s n v) 0 0 64 167772162 134744072 false so sd z 167772162 134744072 5555 1723 mqR TQP W hg hR (Nat.le_trans hbs k.size) hTK hT.by_ hd (by have:=hT.len;simp at this;omega) (by omega) (by omega) hT.ok (by rw[hT.fl];decide)).mono ?_;rintro e w2 ⟨f,hb,m,ps,pe,cp,hfb,rfl,k2,q1,q2,q3,q4,q5,q6,hg2,⟨rfl,hps⟩,hm,⟨hHV,hVB⟩,hHN,hNB⟩;obtain⟨r1,r2⟩:=S1.first hS2 q1 q2 q3 q4 q5 (pe:=pe) (cp:=cp) hps
  exact⟨f.at 1 ((ltr s n v).now+120),hb,rfl,k2,rfl,by show oth f false=_;unfold oth;rw[q3];rfl,⟨_,hg2,r1,rfl,r2⟩,q6,hHN,hHV,hVB,hNB⟩
 case hOF=>
  rintro n v fb f2 hb2 W ⟨rfl,h3,hv⟩;obtain⟨s2,hg2,hS2,_⟩:=hv.gf;exact⟨rfl,(hg2.fb f2 (by rw[hS2.fs];simp)).2,h3,hv.hp⟩
 case hOL=>
  rintro n v fb f2 hb2 A B ⟨h1,h3,hv⟩ l;exact⟨h1,h3,hv.later l⟩
 case hCH=>
  rintro n v fb f2 hb2 n1 W so sd ao co ad cd hw1 hw2 k ⟨rfl,h3,hv⟩ ho hd;exact zNe hT (rP nnP) hqb (by simp) zLm (fun W=>∃f2 hb,V1 base g W f2 hb nnP 1 wsP n (0+1+1+1+1)) (fun A B ⟨f3,hb3,h5⟩ l=>⟨f3,hb3,h5.later l⟩) hb2 _ W ao ad co cd hw2 ⟨f2,hb2,hv⟩ ho hd
 case hCS=>
  rintro n v y A B k cur t fz ⟨⟨f3,hb3,h5⟩,h6⟩ hk ht hB;exact⟨⟨f3,hb3,h5.aside hk ht hB⟩,h6⟩
 case hCL=>
  rintro n v y W ⟨_,h6⟩;have:=h6.len
  simp at this
  omega
 case hCT=>
  rintro n v y A B ⟨⟨f3,hb3,h5⟩,h6⟩ l;exact⟨⟨f3,hb3,h5.later l⟩,h6⟩
structure RwsI (L:List Rw) (ks:List (Tu × Int)):Prop where
 ul:UL L
 tl:∀r∈L,9<r.till
 mem:∀p∈ks,∃r∈L,zBe p.1 r=true∧r.id=p.2
 ky:∀r∈L,kyp r.p r.a=r.a
 only:∀r∈L,∃p∈ks,zBe p.1 r=true
 len:L.length≤8
theorem zEx {t:Tu} {r:Rw} (h:zBe t r=true):kyp r.p r.a=r.a:=by
 obtain⟨h1,_,_,h4,_⟩:=zBv.1 h;rw[h1,h4,zNb]
theorem zRi {t u:Tu} {r:Rw} (h:zBe t r=true)(k:zBe u r=true):tuA t u:=by
 obtain⟨h1,h2,h3,h4,h5⟩:=zBv.1 h;obtain⟨k1,k2,k3,k4,k5⟩:=zBv.1 k;exact⟨h1▸k1,h2▸k2,h3▸k3,h4▸k4,h5▸k5⟩
theorem RwsI.mv {L:List Rw} {ks:List (Tu × Int)} (h:RwsI L ks)(t:Tu)(till tn:Int)(h9:9<till):RwsI (mvR t till tn L) ks:=by
 have hm:∀r∈L,(if zBe t r then reT till tn r else r)∈mvR t till tn L:=fun r hr=>List.mem_map.2 ⟨r,hr,rfl⟩;have hs:∀r,∀u,zBe u (if zBe t r then reT till tn r else r)=zBe u r:=fun r u=>by split<;>rfl
 refine⟨UL_mv t till tn h.ul,fun x hx=> ?_,fun p hp=> ?_,fun x hx=> ?_,fun x hx=> ?_,?_⟩
 ·obtain ⟨r,hr,rfl⟩:=zFs hx
  have:=h.tl r hr;split
  ·exact h9
  ·exact this
 ·obtain ⟨r,hr,h1,h2⟩:=h.mem p hp
  exact⟨_,hm r hr,by rw[hs];exact h1,by rw[←h2];split<;>rfl⟩
 ·obtain ⟨r,hr,rfl⟩:=zFs hx
  have:=h.ky r hr;split<;>exact this
 ·obtain ⟨r,hr,rfl⟩:=zFs hx
  obtain⟨p,hp,h1⟩:=h.only r hr;exact⟨p,hp,by rw[hs];exact h1⟩
 ·unfold mvR
  rw[List.length_map];exact h.len
theorem RwsI.none {L:List Rw} {ks:List (Tu × Int)} (h:RwsI L ks)(t:Tu)(hn:∀p∈ks,¬tuA t p.1):∀x∈L,zBe t x=false:=fun x hx=>by
 obtain⟨p,hp,h1⟩:=h.only x hx;cases hb:zBe t x with
 |false=>rfl
 |true=>exact absurd (zRi hb h1) (hn p hp)
theorem RwsI.look {L:List Rw} {ks:List (Tu × Int)} (h:RwsI L ks) {t u:Tu} {id:Int} (ht:(t,id)∈ks)(hu:tuA t u):∃k r,kxT u (rwL L)=some k∧(rwL L (bkT u))[k]? =some r∧r.id=id:=by
 obtain⟨r,hr,h1,h2⟩:=h.mem _ ht
 have h3:zBe u r=true:=by
  obtain⟨a1,a2,a3,a4,a5⟩:=zBv.1 h1;obtain⟨b1,b2,b3,b4,b5⟩:=hu;exact zBv.2 ⟨a1.trans b1,a2.trans b2,a3.trans b3,a4.trans b4,a5.trans b5⟩
 obtain⟨k,q1,q2⟩:=zD3 L u r hr h3 h.ul;exact⟨k,r,q1,q2,h2⟩
theorem RwsI.quiet {L:List Rw} {ks:List (Tu × Int)} (h:RwsI L ks)(n:Int)(hn:n≤9):duR n (zDf (rwL L))=[]:=zFt _ n (fun r hr=>by have:=h.tl r hr;omega)
theorem RwsI.all {L:List Rw} {ks:List (Tu × Int)} (h:RwsI L ks):(zDf (rwL L)).length≤5000:=Nat.le_trans (zLk _ 8 h.len) (by omega)
theorem RwsI.become {L:List Rw} {ks:List (Tu × Int)} (h:RwsI L ks)(o r:Tu)(i j:Int)(ho:(o,i)∈ks)(hr:(r,j)∈ks)(t trn:Int)(hm:zDe t=true)(h9:9<t):∃L',mvT r t (mvT o t (trn,rwL L))=(trn+1+1,rwL L')∧RwsI L' ks∧L'.length=L.length:=by
 obtain⟨x,hx,q1,_⟩:=h.mem _ ho;have h2:=h.mv o t (trn+1) h9;obtain⟨y,hy,q2,_⟩:=h2.mem _ hr;exact⟨mvR r t (trn+1+1) (mvR o t (trn+1) L),by rw[zOj o t trn L x hm hx q1 h.ul,zOj r t (trn+1) _ y hm hy q2 h2.ul],h2.mv r t _ h9,by unfold mvR;simp⟩
theorem RwsI.put {L:List Rw} {ks:List (Tu × Int)} (h:RwsI L ks)(o r:Tu)(id t t' c trn:Int)(hm:zDe t=true)(h9:9<t')(hc:c<100)(hno:∀p∈ks,¬tuA o p.1)(hnr:∀p∈ks,¬tuA r p.1)(hne:¬tuA r o)(hl:L.length≤4)(hm':zDe t'=true):∃L1,ptT r id t (ptT o id t (c,trn,rwL L))=(c+1+1,trn+1+1,rwL L1)∧∃L2,mvT r t' (mvT o t' (trn+1+1,rwL L1))=(trn+1+1+1+1,rwL L2)∧RwsI L2 (ks++[(o,id)]++[(r,id)])∧L2.length=L.length+2:=by
 have hfo:=h.none o hno;have hfr:=h.none r hnr
 have hfr2:∀x∈L++[roT o id t (trn+1)],zBe r x=false:=fun x hx=>by
  rcases List.mem_append.1 hx with hx|hx
  ·exact hfr x hx
  ·rw[List.mem_singleton.1 hx];exact zDj r o id t (trn+1) (fun e=>hne (zHq e))
 have hul:UL ((L++[roT o id t (trn+1)])++[roT r id t (trn+1+1)]):=zGt _ r (zAu _ _ _ _) hfr2 (zGt _ o (zAu _ _ _ _) hfo h.ul);refine⟨_,by rw[ptT_L o id t c trn L hm (by omega) hfo,ptT_L r id t (c+1) (trn+1) _ hm (by omega) hfr2],?_⟩;have hmo:roT o id t (trn+1)∈(L++[roT o id t (trn+1)])++[roT r id t (trn+1+1)]:=by simp
 have hul2:=UL_mv o t' (trn+1+1+1) hul;have hmr:roT r id t (trn+1+1)∈mvR o t' (trn+1+1+1) ((L++[roT o id t (trn+1)])++[roT r id t (trn+1+1)]):=List.mem_map.2 ⟨roT r id t (trn+1+1),by simp,by rw[if_neg (by rw[zDj o r id t _ hne];simp)]⟩;refine⟨_,by rw[zOj o t' (trn+1+1) _ _ hm' hmo (zAu _ _ _ _) hul,zOj r t' (trn+1+1+1) _ _ hm' hmr (zAu _ _ _ _) hul2],?_,by unfold mvR;simp⟩;have hsame:∀(t u:Tu) (tl n:Int) (x:Rw),zBe u (if zBe t x then reT tl n x else x)=zBe u x:=fun t u tl n x=>by split<;>rfl
 have hmem:∀x,x∈mvR r t' (trn+1+1+1+1) (mvR o t' (trn+1+1+1) ((L++[roT o id t (trn+1)])++[roT r id t (trn+1+1)]))→∃y∈(L++[roT o id t (trn+1)])++[roT r id t (trn+1+1)],(∀u,zBe u x=zBe u y)∧x.id=y.id∧(x.till=t'∨(x.till=y.till∧zBe o y=false∧zBe r y=false))∧x.p=y.p∧x.a=y.a:=fun x hx=>by
  obtain⟨z,hz,rfl⟩:=zFs hx;obtain⟨y,hy,rfl⟩:=zFs hz;refine⟨y,hy,fun u=>by rw[hsame,hsame],by split<;>split<;>rfl,?_,by split<;>split<;>rfl,by split<;>split<;>rfl⟩;rw[hsame];cases h1:zBe r y with
  |true=>exact .inl rfl
  |false=>
   cases h2:zBe o y with
   |true=>exact .inl rfl
   |false=>exact .inr ⟨rfl,rfl,rfl⟩
 have hto:∀y∈(L++[roT o id t (trn+1)])++[roT r id t (trn+1+1)],y∈L∨zBe o y=true∨zBe r y=true:=fun y hy=>by
  rcases List.mem_append.1 hy with hy|hy
  ·rcases List.mem_append.1 hy with hy|hy
   ·exact .inl hy
   ·rw[List.mem_singleton.1 hy];exact .inr (.inl (zAu _ _ _ _))
  ·rw[List.mem_singleton.1 hy];exact .inr (.inr (zAu _ _ _ _))
 have hin:∀y∈(L++[roT o id t (trn+1)])++[roT r id t (trn+1+1)],∃x∈mvR r t' (trn+1+1+1+1) (mvR o t' (trn+1+1+1) ((L++[roT o id t (trn+1)])++[roT r id t (trn+1+1)])),(∀u,zBe u x=zBe u y)∧x.id=y.id:=fun y hy=>by
  refine⟨_,List.mem_map.2 ⟨_,List.mem_map.2 ⟨y,hy,rfl⟩,rfl⟩,fun u=>by rw[hsame,hsame],by split<;>split<;>rfl⟩
 refine⟨UL_mv r t' _ hul2,fun x hx=> ?_,fun p hp=> ?_,fun x hx=> ?_,fun x hx=> ?_,?_⟩
 ·obtain ⟨y,hy,_,_,hor,_⟩:=hmem x hx
  rcases hor with e|⟨e,h1,h2⟩
  ·rw[e];exact h9
  ·rw[e]
   rcases hto y hy with hy|hy|hy
   ·exact h.tl y hy
   ·rw[hy]at h1;cases h1
   ·rw[hy]at h2;cases h2
 ·rcases List.mem_append.1 hp with hp|hp
  ·rcases List.mem_append.1 hp with hp|hp
   ·obtain ⟨y,hy,h1,h2⟩:=h.mem p hp
    obtain⟨x,hx,h3,h4⟩:=hin y (List.mem_append_left _ (List.mem_append_left _ hy));exact⟨x,hx,by rw[h3];exact h1,by rw[h4];exact h2⟩
   ·rw[List.mem_singleton.1 hp]
    obtain⟨x,hx,h3,h4⟩:=hin (roT o id t (trn+1)) (by simp);exact⟨x,hx,by rw[h3];exact zAu _ _ _ _,by rw[h4];rfl⟩
  ·rw[List.mem_singleton.1 hp]
   obtain⟨x,hx,h3,h4⟩:=hin (roT r id t (trn+1+1)) (by simp);exact⟨x,hx,by rw[h3];exact zAu _ _ _ _,by rw[h4];rfl⟩
 ·obtain ⟨y,hy,h1,_,_,h2,h3⟩:=hmem x hx
  rw[h2,h3];rcases hto y hy with hy|hy|hy
  ·exact h.ky y hy
  ·exact zEx hy
  ·exact zEx hy
 ·obtain ⟨y,hy,h1,_⟩:=hmem x hx
  rcases hto y hy with hy|hy|hy
  ·obtain ⟨p,hp,h2⟩:=h.only y hy
   exact⟨p,List.mem_append_left _ (List.mem_append_left _ hp),by rw[h1];exact h2⟩
  ·exact ⟨(o,id),by simp,by rw[h1];exact hy⟩
  ·exact ⟨(r,id),by simp,by rw[h1];exact hy⟩
 ·unfold mvR
  simp
  omega
theorem RwsI.two(nn t n1 n2:Int)(h9:9<t):RwsI (rw2 oP (rP nn) 0 t n1 n2) [(oP,0),(rP nn,0)]:=by
 refine⟨zNd _ _ _ _ _ _ (zLl nn),fun x hx=> ?_,fun p hp=> ?_,fun x hx=> ?_,fun x hx=> ?_,by simp[rw2]⟩
 ·have:x=roT oP 0 t n1∨x=roT (rP nn) 0 t n2:=by simpa[rw2]using hx
  rcases this with rfl|rfl<;>exact h9
 ·have:p=(oP,0)∨p=(rP nn,0):=by simpa using hp
  rcases this with rfl|rfl
  ·exact ⟨roT oP 0 t n1,by simp[rw2],zAu _ _ _ _,rfl⟩
  ·exact ⟨roT (rP nn) 0 t n2,by simp[rw2],zAu _ _ _ _,rfl⟩
 ·have:x=roT oP 0 t n1∨x=roT (rP nn) 0 t n2:=by simpa[rw2]using hx
  rcases this with rfl|rfl
  ·exact zEx (zAu oP 0 t n1)
  ·exact zEx (zAu (rP nn) 0 t n2)
 ·have:x=roT oP 0 t n1∨x=roT (rP nn) 0 t n2:=by simpa[rw2]using hx
  rcases this with rfl|rfl
  ·exact ⟨(oP,0),by simp,zAu _ _ _ _⟩
  ·exact ⟨(rP nn,0),by simp,zAu _ _ _ _⟩
def S2 (s:Gf) (f:Fl) (nn:Nat) (st:Int) (ws ws2:Nat→Nat):Prop:=∃pb b,s.ps=[⟨6,16909060,pb,ws⟩,⟨47,16909060,b,ws2⟩]∧S1 { s with ps:=[⟨6,16909060,pb,ws⟩] } f nn st ws∧pb≠b
theorem S2.ltr {s:Gf} {f:Fl} {nn:Nat} {st:Int} {ws ws2:Nat→Nat} (h:S2 s f nn st ws ws2)(n:Int)(v:Value)(hn:0≤n∧n≤9):S2 (ltr s n v) f nn st ws ws2:=by
 obtain⟨pb,b,h1,h2,h3⟩:=h;exact⟨pb,b,h1,h2.ltr n v hn,h3⟩
theorem S2.become {s:Gf} {f:Fl} {nn:Nat} {st:Int} {ws ws2:Nat→Nat} (h:S2 s f nn st ws ws2)(st2:Int)(ht:s.trn≤98)(h2:9<tm 6 st2):S2 (bcS s f st2) (f.at st2 (s.now+tm 6 st2)) nn st2 ws ws2∧(bcS s f st2).trn=s.trn+1+1:=by
 obtain⟨pb,b,h1,h3,h4⟩:=h;obtain⟨q1,q2⟩:=h3.become st2 ht h2;exact⟨⟨pb,b,h1,q1,h4⟩,q2⟩
def oG (c d:Int):Tu:=⟨47,167772162,134744072,c,d⟩
def rG (d m:Int):Tu:=⟨47,134744072,16909060,d,m⟩
def ksG (nn c d m:Int):List (Tu × Int):=[(oP,0),(rP nn,0),(oG c d,1),(rG d m,1)]
structure S3 (s:Gf) (f f2:Fl) (nn:Nat) (c d m:Int) (st st2:Int) (ws ws2:Nat→Nat):Prop where
 fs:s.fs=[f,f2]
 rw:∃L,s.rw=rwL L∧RwsI L (ksG nn c d m)
 id:f.id=0
 o:f.o=oP
 r:f.r=rP nn
 sd:f.side=0
 ms:f.ms= -1
 st:f.st=st
 id2:f2.id=1
 o2:f2.o=oG c d
 r2:f2.r=rG d m
 sd2:f2.side=0
 ms2:f2.ms=0
 st2:f2.st=st2
 hv2:f2.hv= .slice none 0 0
 hp2:f2.hp=noh
 bl:f.blk≠f2.blk
 ex:s.ex=[]
 cnt:s.cnt=4
 trn:0≤s.trn∧s.trn≤100
 lo:s.lo=1000
 hi:s.hi=1063
 now:0≤s.now∧s.now≤9
 ps:∃pb b,s.ps=[⟨6,16909060,pb,ws⟩,⟨47,16909060,b,ws2⟩]∧pb≠b
 n9:1000≤nn∧nn≤1063
 es:EsI s.fe s.cf
theorem S3.ltr {s:Gf} {f f2:Fl} {nn:Nat} {c d m st st2:Int} {ws ws2:Nat→Nat} (h:S3 s f f2 nn c d m st st2 ws ws2)(n:Int)(v:Value)(hn:0≤n∧n≤9):S3 (ltr s n v) f f2 nn c d m st st2 ws ws2:=⟨h.fs,h.rw,h.id,h.o,h.r,h.sd,h.ms,h.st,h.id2,h.o2,h.r2,h.sd2,h.ms2,h.st2,h.hv2,h.hp2,h.bl,h.ex,h.cnt,h.trn,h.lo,h.hi,hn,h.ps,h.n9,h.es⟩
theorem S3.quiet {s:Gf} {f f2:Fl} {nn:Nat} {c d m st st2:Int} {ws ws2:Nat→Nat} (h:S3 s f f2 nn c d m st st2 ws ws2)(n:Int)(hn:n≤9):duR n (zDf s.rw)=[]:=by
 obtain⟨L,e,hL⟩:=h.rw;rw[e];exact hL.quiet n hn
theorem S3.all {s:Gf} {f f2:Fl} {nn:Nat} {c d m st st2:Int} {ws ws2:Nat→Nat} (h:S3 s f f2 nn c d m st st2 ws ws2):(zDf s.rw).length≤5000:=by
 obtain⟨L,e,hL⟩:=h.rw;rw[e];exact hL.all
theorem S3.look {s:Gf} {f f2:Fl} {nn:Nat} {c d m st st2:Int} {ws ws2:Nat→Nat} (h:S3 s f f2 nn c d m st st2 ws ws2) {t u:Tu} {id:Int} (ht:(t,id)∈ksG nn c d m)(hu:tuA t u):∃k r,kxT u s.rw=some k∧(s.rw (bkT u))[k]? =some r∧r.id=id:=by
 obtain⟨L,e,hL⟩:=h.rw;rw[e];exact hL.look ht hu
theorem S3.ide {s:Gf} {f f2:Fl} {nn:Nat} {c d m st st2:Int} {ws ws2:Nat→Nat} (h:S3 s f f2 nn c d m st st2 ws ws2):∀x∈s.fs,∀y∈s.fs,x.id=y.id→x=y:=by
 rw[h.fs];intro x hx y hy e
 have hx':x=f∨x=f2:=by simpa using hx
 have hy':y=f∨y=f2:=by simpa using hy
 have h1:=h.id;have h2:=h.id2;rcases hx' with rfl|rfl<;>rcases hy' with rfl|rfl
 ·rfl
 ·omega
 ·omega
 ·rfl
theorem S3.blk {s:Gf} {f f2:Fl} {nn:Nat} {c d m st st2:Int} {ws ws2:Nat→Nat} (h:S3 s f f2 nn c d m st st2 ws ws2)(y:Fl)(hy:y∈s.fs):∀x∈s.fs,x.blk=y.blk→x=y:=by
 rw[h.fs]at hy⊢;intro x hx e
 have hx':x=f∨x=f2:=by simpa using hx
 have hy':y=f∨y=f2:=by simpa using hy
 have h1:=h.bl;rcases hx' with rfl|rfl<;>rcases hy' with rfl|rfl
 ·rfl
 ·exact absurd e h1
 ·exact absurd e.symm h1
 ·rfl
theorem zRj(p st:Int)(hp:p=6∧st=3∨p=47∧(st=8∨st=3)):9<tm p st:=by
 rcases hp with⟨rfl,rfl⟩|⟨rfl,rfl|rfl⟩<;>decide
theorem S3.bc1 {s:Gf} {f f2:Fl} {nn:Nat} {c d m st st2:Int} {ws ws2:Nat→Nat} (h:S3 s f f2 nn c d m st st2 ws ws2)(ht:s.trn≤98):S3 (bcS s f 3) (f.at 3 (s.now+tm 6 3)) f2 nn c d m 3 st2 ws ws2∧(bcS s f 3).trn=s.trn+1+1:=by
 obtain⟨L,e,hL⟩:=h.rw;have hp:f.o.pr=6:=by rw[h.o];rfl
 have hw:=h.now;have hb:=zQy 6 3;have h9:=zRj 6 3 (.inl ⟨rfl,rfl⟩);obtain⟨L',e2,hL',_⟩:=hL.become oP (rP nn) 0 0 (by simp[ksG]) (by simp[ksG]) (s.now+tm 6 3) s.trn (by unfold zDe;rw[decide_eq_true_eq];omega) (by omega)
 have hbc:bcM s f (s.now+tm f.o.pr 3)=(s.trn+1+1,rwL L'):=by
  unfold bcM;rw[e,h.o,h.r];exact e2
 have ht0:=h.trn;have hbl:=h.bl;refine⟨⟨?_,⟨L',by show(bcM s f (s.now+tm f.o.pr 3)).2=_;rw[hbc],hL'⟩,h.id,h.o,h.r,h.sd,h.ms,rfl,h.id2,h.o2,h.r2,h.sd2,h.ms2,h.st2,h.hv2,h.hp2,h.bl,h.ex,h.cnt,by show 0≤(bcM s f (s.now+tm f.o.pr 3)).1∧(bcM s f (s.now+tm f.o.pr 3)).1≤100;rw[hbc];show 0≤s.trn+1+1∧s.trn+1+1≤100;omega,h.lo,h.hi,h.now,h.ps,h.n9,h.es⟩,by show(bcM s f (s.now+tm f.o.pr 3)).1=_;rw[hbc]⟩;show s.fs.map (fun x=>if x.blk=f.blk then f.at 3 (s.now+tm f.o.pr 3)else x)=_
 rw[h.fs,hp];simp[Ne.symm hbl]
theorem S3.bc2 {s:Gf} {f f2:Fl} {nn:Nat} {c d m st st2:Int} {ws ws2:Nat→Nat} (h:S3 s f f2 nn c d m st st2 ws ws2)(st3:Int)(h3:st3=8∨st3=3)(ht:s.trn≤98):S3 (bcS s f2 st3) f (f2.at st3 (s.now+tm 47 st3)) nn c d m st st3 ws ws2∧(bcS s f2 st3).trn=s.trn+1+1:=by
 obtain⟨L,e,hL⟩:=h.rw;have hp:f2.o.pr=47:=by rw[h.o2];rfl
 have hw:=h.now;have hb:=zQy 47 st3;have h9:=zRj 47 st3 (.inr ⟨rfl,h3⟩);obtain⟨L',e2,hL',_⟩:=hL.become (oG c d) (rG d m) 1 1 (by simp[ksG]) (by simp[ksG]) (s.now+tm 47 st3) s.trn (by unfold zDe;rw[decide_eq_true_eq];omega) (by omega)
 have hbc:bcM s f2 (s.now+tm f2.o.pr st3)=(s.trn+1+1,rwL L'):=by
  unfold bcM;rw[e,h.o2,h.r2];exact e2
 have ht0:=h.trn;have hbl:=h.bl;refine⟨⟨?_,⟨L',by show(bcM s f2 (s.now+tm f2.o.pr st3)).2=_;rw[hbc],hL'⟩,h.id,h.o,h.r,h.sd,h.ms,h.st,h.id2,h.o2,h.r2,h.sd2,h.ms2,rfl,h.hv2,h.hp2,h.bl,h.ex,h.cnt,by show 0≤(bcM s f2 (s.now+tm f2.o.pr st3)).1∧(bcM s f2 (s.now+tm f2.o.pr st3)).1≤100;rw[hbc];show 0≤s.trn+1+1∧s.trn+1+1≤100;omega,h.lo,h.hi,h.now,h.ps,h.n9,h.es⟩,by show(bcM s f2 (s.now+tm f2.o.pr st3)).1=_;rw[hbc]⟩;show s.fs.map (fun x=>if x.blk=f2.blk then f2.at st3 (s.now+tm f2.o.pr st3)else x)=_
 rw[h.fs,hp];simp[hbl]
theorem zOk(o r:Tu)(i sd st0 tl0 ms:Int)(w:World)(hp:o.pr=47):
  Calls Tryz.prog 313 #[.agg #[.int .i64 i,.int .u8 o.pr,.int .u32 o.src,.int .u32 o.dst,.int .u16 o.sp,.int .u16 o.dp,.int .u8 r.pr,.int .u32 r.src,.int .u32 r.dst,.int .u16 r.sp,.int .u16 r.dp,.int .i64 sd,.int .i64 st0,.int .i64 tl0,.int .i64 ms]] w fun e w'=>e= .returned noh∧Later w w':=by
 have l0:=zAe w (.cells #[.int .i64 i,.int .u8 o.pr,.int .u32 o.src,.int .u32 o.dst,.int .u16 o.sp,.int .u16 o.dp,.int .u8 r.pr,.int .u32 r.src,.int .u32 r.dst,.int .u16 r.sp,.int .u16 r.dp,.int .i64 sd,.int .i64 st0,.int .i64 tl0,.int .i64 ms] 106);have C0:=zAc (heap_alloc_new w (.cells #[.int .i64 i,.int .u8 o.pr,.int .u32 o.src,.int .u32 o.dst,.int .u16 o.sp,.int .u16 o.dp,.int .u8 r.pr,.int .u32 r.src,.int .u32 r.dst,.int .u16 r.sp,.int .u16 r.dp,.int .i64 sd,.int .i64 st0,.int .i64 tl0,.int .i64 ms] 106));have HP:=zAc hp;clear hp;go_enter Tryz.func313,Tryz.ntmps313;go_upto_region 1 with fail;generalize w.alloc _=w1 at*;generalize w.heap.size=gx at*;have k0:=zAa C0.out;rw[HP.out]at k0;go_wp2_with fail;go_ret
 exact⟨rfl,l0⟩
theorem open_gre(base g:Nat)(s:Gf)(o r:Tu)(i0 sd st0 tl0 ms:Int)(ha:Option Addr)(hn hc:Nat)(w:World)(h:GF base w g s)(hp:o.pr=47)(hbs:base≤w.heap.size)(hBo:TuB o)(hBr:TuB r)(htr:0≤s.trn∧s.trn≤900000)(hnw:0≤s.now∧s.now≤549755813888)(hbg:0≤s.bg∧s.bg≤1000000)(hid:∀x∈s.fs,x.id≠s.bg)(hcn:0≤s.cnt∧s.cnt≤1000)(hln:∀i,(s.rw i).length≤4000):
  Calls Tryz.prog 284 #[.pointer (some ⟨g,0,none⟩),.agg #[.int .i64 i0,.int .u8 o.pr,.int .u32 o.src,.int .u32 o.dst,.int .u16 o.sp,.int .u16 o.dp,.int .u8 r.pr,.int .u32 r.src,.int .u32 r.dst,.int .u16 r.sp,.int .u16 r.dp,.int .i64 sd,.int .i64 st0,.int .i64 tl0,.int .i64 ms],.slice ha hn hc] w fun e w'=>OpQ base w w' g s o r sd st0 tl0 ms (.slice ha hn hc) e:=by
 have l0:=zAe w (.cells #[.int .i64 i0,.int .u8 o.pr,.int .u32 o.src,.int .u32 o.dst,.int .u16 o.sp,.int .u16 o.dp,.int .u8 r.pr,.int .u32 r.src,.int .u32 r.dst,.int .u16 r.sp,.int .u16 r.dp,.int .i64 sd,.int .i64 st0,.int .i64 tl0,.int .i64 ms] 106);have C0:=zAc (heap_alloc_new w (.cells #[.int .i64 i0,.int .u8 o.pr,.int .u32 o.src,.int .u32 o.dst,.int .u16 o.sp,.int .u16 o.dp,.int .u8 r.pr,.int .u32 r.src,.int .u32 r.dst,.int .u16 r.sp,.int .u16 r.dp,.int .i64 sd,.int .i64 st0,.int .i64 tl0,.int .i64 ms] 106));have HG:=zAc (h.later l0);have HID:=zAc (zQz h s.bg hid);have HBF:=zAc (fun x (hx:x∈s.fs)=>(Array.getElem?_eq_some_iff.1 (h.fb x hx).2).1);have hP6:(o.pr==6)=false:=by rw[hp];decide
 have HHP:=zAc (fun W=>zOk o r s.bg sd st0 tl0 ms W hp);have HFS:=zAc (fun W=>first_st o.pr W hP6);have hwr:IntKind.i64.wrap (s.bg+1)=s.bg+1:=zK9 _ (by omega) (by omega);have HWR:=zAc hwr;clear h hp hP6 hwr hid;go_enter Tryz.func284,Tryz.ntmps284;go_upto_region 1 with fail;generalize w.alloc _=w1 at*;generalize hgx:w.heap.size=gx at C0⊢;have kg:=zAa HG.out.gc;have fg:=zAd HG.out.gc;unfold gfc at kg;have kx0:=zAa C0.out;have fx0:=zAd C0.out;go_upto_region 3 with fail;have c1:=zAh C0.out 0 (.int .i64 s.bg)
 have hgg:g≠gx:=fun e=>by
  have q1:=HG.out.gc;have q2:=C0.out;rw[←e,q1]at q2;injection q2 with q3
  injection q3 with q4 q5 q6
  exact absurd q5 (by decide)
 have hA:=HG.out.other (TE.one C0.out) ((But.refl (fun b=>b=gx) w1).setCell (p:=⟨gx,0,none⟩) (show _=_ from rfl) (.int .i64 s.bg)) (by decide);have hB1:=hA.count (s.bg+1);have c2:((w1.setCell ⟨gx,0,none⟩ (.int .i64 s.bg)).setCell ⟨g,3,none⟩ (.int .i64 (s.bg+1))).heap[gx]? =some (.cells #[.int .i64 s.bg,.int .u8 o.pr,.int .u32 o.src,.int .u32 o.dst,.int .u16 o.sp,.int .u16 o.dp,.int .u8 r.pr,.int .u32 r.src,.int .u32 r.dst,.int .u16 r.sp,.int .u16 r.dp,.int .i64 sd,.int .i64 st0,.int .i64 tl0,.int .i64 ms] 106):=(((But.refl (fun b=>b=g) (w1.setCell ⟨gx,0,none⟩ (.int .i64 s.bg))).setCell (p:=⟨g,3,none⟩) (show _=_ from rfl) (.int .i64 (s.bg+1))).block gx (eS c1) (fun e=>hgg e.symm)).trans c1;have hbb:But (fun b=>b=g∨b=gx) w ((w1.setCell ⟨gx,0,none⟩ (.int .i64 s.bg)).setCell ⟨g,3,none⟩ (.int .i64 (s.bg+1))):=((But.of (E:=fun b=>b=g∨b=gx) l0).setCell (p:=⟨gx,0,none⟩) (.inr rfl) (.int .i64 s.bg)).setCell (p:=⟨g,3,none⟩) (.inl rfl) (.int .i64 (s.bg+1))
 have M2:Hid (KG base w ((w1.setCell ⟨gx,0,none⟩ (.int .i64 s.bg)).setCell ⟨g,3,none⟩ (.int .i64 (s.bg+1)))):=KG.of_but hbb (fun k e=>by
  rcases e with e|e
  ·rw[e]
   refine⟨HG.out.bs,fun ob ho=> ?_⟩;have q:=zAb l0 ho;rw[HG.out.gc]at q;cases q
   show gTs.contains _=true
   decide
  ·rw[e]
   refine⟨by omega,fun ob ho=> ?_⟩;have:=(eS ho);omega)
 have H2:=zAc hB1;have C2:=zAc c2;clear hbb hB1 c2 hA c1 kg fg kx0 fx0 C0 HG l0;generalize ((w1.setCell ⟨gx,0,none⟩ (.int .i64 s.bg)).setCell ⟨g,3,none⟩ (.int .i64 (s.bg+1)))=w2 at*;refine zAk (R:=Later) 7 rfl (by kernel_rfl) ?_;have ld:Later w2 w2.drew:=Later.drew w2;generalize w2.drew=w2d at*;have k2:∀v,Later w2d v→∀j,v.cell? ⟨gx,j,none⟩=#[.int .i64 s.bg,.int .u8 o.pr,.int .u32 o.src,.int .u32 o.dst,.int .u16 o.sp,.int .u16 o.dp,.int .u8 r.pr,.int .u32 r.src,.int .u32 r.dst,.int .u16 r.sp,.int .u16 r.dp,.int .i64 sd,.int .i64 st0,.int .i64 tl0,.int .i64 ms][j]? :=fun v hv=>zAa (zAb hv (zAb ld C2.out));refine tX Later.pre 0 ?_;refine tX Later.pre 1 ?_;refine tX Later.pre 2 ?_;clear k2;refine tO 3 ?_;refine zAi 313 #[.agg #[.int .i64 s.bg,.int .u8 o.pr,.int .u32 o.src,.int .u32 o.dst,.int .u16 o.sp,.int .u16 o.dp,.int .u8 r.pr,.int .u32 r.src,.int .u32 r.dst,.int .u16 r.sp,.int .u16 r.dp,.int .i64 sd,.int .i64 st0,.int .i64 tl0,.int .i64 ms]] (by go_simp) ?_;refine(HHP.out w2d).mono ?_;rintro e w3 ⟨rfl,l3⟩;refine⟨l3,?_⟩;simp only[Act.put,sA,sB,sC];unfold noh;refine tX Later.pre 4 ?_;have la:=zAe w3 (.cells #[.int .i64 s.bg,.int .u8 o.pr,.int .u32 o.src,.int .u32 o.dst,.int .u16 o.sp,.int .u16 o.dp,.int .u8 r.pr,.int .u32 r.src,.int .u32 r.dst,.int .u16 r.sp,.int .u16 r.dp,.int .i64 sd,.int .i64 st0,.int .i64 tl0,.int .i64 ms,.slice ha hn hc,noh] 111)
 have ca:=heap_alloc_new w3 (.cells #[.int .i64 s.bg,.int .u8 o.pr,.int .u32 o.src,.int .u32 o.dst,.int .u16 o.sp,.int .u16 o.dp,.int .u8 r.pr,.int .u32 r.src,.int .u32 r.dst,.int .u16 r.sp,.int .u16 r.dp,.int .i64 sd,.int .i64 st0,.int .i64 tl0,.int .i64 ms,.slice ha hn hc,noh] 111);unfold noh at la ca;have LA:=zAc la;have CA:=zAc ca;clear la ca;refine tO 5 ?_;unfold Oper.wp;go_simp;refine⟨LA.out,?_⟩;generalize w3.alloc _=w4 at*;have la:=LA.out;have ca:=CA.out;clear LA CA;refine tX Later.pre 6 ?_;refine tD ?_;have hgn:w.heap.size≤w3.heap.size:=Nat.le_trans M2.out.size (Nat.le_trans ld.size l3.size);generalize hgnn:w3.heap.size=gn at*;have L4:Later w2 w4:=ld.trans (l3.trans la);have H4:=zAc (H2.out.later L4);have M4:=zAc (M2.out.trans (KG.of_later L4));have C4:=zAc (zAb L4 C2.out);have D4:=zAc ca;clear H2 M2 C2 ld l3 la ca L4 hgnn;go_upto_region 4 with fail;refine zAk (R:=But (fun b=>b=s.gf)) 8 rfl (by kernel_rfl) ?_;have ld:Later w4 w4.drew:=Later.drew w4;generalize w4.drew=w5 at*;have H4d:=zAc (H4.out.later ld);have M4d:=zAc (M4.out.trans (KG.of_later ld));have C4d:=zAc (zAb ld C4.out);have D4d:=zAc (zAb ld D4.out);clear H4 M4 C4 D4 ld;have hnm:∀(b:Nat) (cur:Array Value) (t:TypeId) (f:Nat × Nat),w5.heap[b]? =some (.cells cur t f)→∀v,But (fun b=>b=s.gf) w5 v→v.heap[b]? =some (.cells cur t f):=fun b cur t f hb v hv=>(hv.block b (eS hb) (fun e=>by have e':b=s.gf:=e;have hh:=H4d.out.fl;simp only at hh;rw[←e',hb]at hh;cases hh)).trans hb
 have k1:∀v,But (fun b=>b=s.gf) w5 v→∀j,v.cell? ⟨g,j,none⟩=(gfc { s with bg:=s.bg+1 }).toArray[j]? :=fun v hv=>zAa (hnm _ _ _ _ H4d.out.gc v hv);have k2:∀v,But (fun b=>b=s.gf) w5 v→∀j,v.cell? ⟨gx,j,none⟩=#[.int .i64 s.bg,.int .u8 o.pr,.int .u32 o.src,.int .u32 o.dst,.int .u16 o.sp,.int .u16 o.dp,.int .u8 r.pr,.int .u32 r.src,.int .u32 r.dst,.int .u16 r.sp,.int .u16 r.dp,.int .i64 sd,.int .i64 st0,.int .i64 tl0,.int .i64 ms][j]? :=fun v hv=>zAa (hnm _ _ _ _ C4d.out v hv);unfold gfc at k1;simp only at k1;refine tX (But.pre (fun b=>b=s.gf)) 0 ?_;refine tX (But.pre (fun b=>b=s.gf)) 1 ?_;refine tX (But.pre (fun b=>b=s.gf)) 2 ?_;refine tX (But.pre (fun b=>b=s.gf)) 3 ?_;refine tX (But.pre (fun b=>b=s.gf)) 4 ?_;refine tX (But.pre (fun b=>b=s.gf)) 5 ?_;refine tX (But.pre (fun b=>b=s.gf)) 6 ?_;clear k1 k2;obtain⟨w6,hrun,hm6,hb6⟩:=zM4 (w:=w5) (b:=s.gf) (c:=s.cf) (es:=s.fe) H4d.out.fl s.bg (.pointer (some ⟨gn,0,none⟩)) (zHl _ _ 0 HID.out);refine tO 7 ?_;have HB6:=zAc hb6;have HM6:=zAc hm6;clear hb6 hm6;unfold Oper.wp;go_simp;refine⟨HB6.out,?_⟩;refine tD ?_;clear hrun;have hD:base≤((zHv s gn o r sd st0 tl0 ms (.slice ha hn hc))).blk∧w5.heap[((zHv s gn o r sd st0 tl0 ms (.slice ha hn hc))).blk]? =some (.cells (flc (zHv s gn o r sd st0 tl0 ms (.slice ha hn hc))).toArray 111 (0,0)):=⟨Nat.le_trans hbs hgn,D4d.out⟩
 have H5:Hid (GF base w6 g (s.begun (zHv s gn o r sd st0 tl0 ms (.slice ha hn hc)))):=H4d.out.written (zHv s gn o r sd st0 tl0 ms (.slice ha hn hc)) (by show s.bg=s.bg+1-1;omega) HB6.out HM6.out hD
 have M5:Hid (KG base w w6):=M4d.out.trans (KG.of_but HB6.out (fun k e=>by
  have e':k=s.gf:=e;rw[e'];refine⟨H4d.out.bf.1,fun ob ho=> ?_⟩;have hh:=H4d.out.fl;simp only at hh;rw[hh]at ho;cases ho
  exact trivial))
 have C5:=zAc (hnm _ _ _ _ C4d.out w6 HB6.out);clear H4d M4d C4d D4d HB6 HM6 hnm hD;go_upto_region 5 with fail;refine zAk (R:=KX) 13 rfl (by kernel_rfl) ?_;have ld:Later w6 w6.drew:=Later.drew w6;generalize w6.drew=w6d at*;have HD:=zAc (H5.out.later ld);have MD:=zAc (M5.out.trans (KG.of_later ld));have CD:=zAc (zAb ld C5.out);clear H5 M5 C5 ld;have hbd:base≤w6d.heap.size:=Nat.le_trans hbs MD.out.size;have k1:∀v,KX w6d v→∀j,v.cell? ⟨g,j,none⟩=(gfc (s.begun (zHv s gn o r sd st0 tl0 ms (.slice ha hn hc)))).toArray[j]? :=fun v hv=>zAa (hv g _ _ _ HD.out.gc (by decide) (by decide));have k2:∀v,KX w6d v→∀j,v.cell? ⟨gx,j,none⟩=#[.int .i64 s.bg,.int .u8 o.pr,.int .u32 o.src,.int .u32 o.dst,.int .u16 o.sp,.int .u16 o.dp,.int .u8 r.pr,.int .u32 r.src,.int .u32 r.dst,.int .u16 r.sp,.int .u16 r.dp,.int .i64 sd,.int .i64 st0,.int .i64 tl0,.int .i64 ms][j]? :=fun v hv=>zAa (hv gx _ _ _ CD.out (by decide) (by decide));unfold gfc Gf.begun at k1;simp only at k1;refine tX KX.pre 0 ?_;refine tX KX.pre 1 ?_;refine tX KX.pre 2 ?_;refine tX KX.pre 3 ?_;refine tX KX.pre 4 ?_;refine tX KX.pre 5 ?_;refine tX KX.pre 6 ?_;refine tX KX.pre 7 ?_;refine tX KX.pre 8 ?_;refine tX KX.pre 9 ?_;refine tX KX.pre 10 ?_;refine tX KX.pre 11 ?_;clear k1 k2;refine tO 12 ?_;refine zAi 314 #[.pointer (some ⟨s.gt,0,none⟩),.agg #[.int .u8 o.pr,.int .u32 o.src,.int .u32 o.dst,.int .u16 o.sp,.int .u16 o.dp],.int .i64 s.bg,.int .i64 s.now] (by go_simp) ?_
 refine(putF base s.gt (s.cnt,s.trn,s.rw).1 (s.cnt,s.trn,s.rw).2.1 (s.cnt,s.trn,s.rw).2.2 o s.bg s.now w6d HD.out.tb hBo hbd (by simp only;omega) (by simp only;omega) (fun i=>by have:=hln i;simp only;omega)).mono ?_;rintro e w7 ⟨ev,rfl,hT,hk,hm,hg⟩;refine⟨KX.of hk,?_⟩;simp only[Act.put,sA,sB,sC];refine tD ?_;have H6:=zAc (HD.out.tabled hk hm hT);have M6:=zAc (MD.out.trans hg);have C6:=zAc (hk gx _ _ _ CD.out (by decide) (by decide));clear HD MD CD hT hk hm hg hbd;go_upto_region 6 with fail;refine zAk (R:=KX) 13 rfl (by kernel_rfl) ?_;have ld:Later w7 w7.drew:=Later.drew w7;generalize w7.drew=w7d at*;have HD:=zAc (H6.out.later ld);have MD:=zAc (M6.out.trans (KG.of_later ld));have CD:=zAc (zAb ld C6.out);clear H6 M6 C6 ld;have hbd:base≤w7d.heap.size:=Nat.le_trans hbs MD.out.size;have k1:∀v,KX w7d v→∀j,v.cell? ⟨g,j,none⟩=(gfc (s.begun (zHv s gn o r sd st0 tl0 ms (.slice ha hn hc)))).toArray[j]? :=fun v hv=>zAa (hv g _ _ _ HD.out.gc (by decide) (by decide));have k2:∀v,KX w7d v→∀j,v.cell? ⟨gx,j,none⟩=#[.int .i64 s.bg,.int .u8 o.pr,.int .u32 o.src,.int .u32 o.dst,.int .u16 o.sp,.int .u16 o.dp,.int .u8 r.pr,.int .u32 r.src,.int .u32 r.dst,.int .u16 r.sp,.int .u16 r.dp,.int .i64 sd,.int .i64 st0,.int .i64 tl0,.int .i64 ms][j]? :=fun v hv=>zAa (hv gx _ _ _ CD.out (by decide) (by decide));unfold gfc Gf.begun at k1;simp only at k1;refine tX KX.pre 0 ?_;refine tX KX.pre 1 ?_;refine tX KX.pre 2 ?_;refine tX KX.pre 3 ?_;refine tX KX.pre 4 ?_
 refine tX KX.pre 5 ?_;refine tX KX.pre 6 ?_;refine tX KX.pre 7 ?_;refine tX KX.pre 8 ?_;refine tX KX.pre 9 ?_;refine tX KX.pre 10 ?_;refine tX KX.pre 11 ?_;clear k1 k2;refine tO 12 ?_;refine zAi 314 #[.pointer (some ⟨s.gt,0,none⟩),.agg #[.int .u8 r.pr,.int .u32 r.src,.int .u32 r.dst,.int .u16 r.sp,.int .u16 r.dp],.int .i64 s.bg,.int .i64 s.now] (by go_simp) ?_;refine(putF base s.gt (ptT o s.bg s.now (s.cnt,s.trn,s.rw)).1 (ptT o s.bg s.now (s.cnt,s.trn,s.rw)).2.1 (ptT o s.bg s.now (s.cnt,s.trn,s.rw)).2.2 r s.bg s.now w7d HD.out.tb hBr hbd (by have:=zDb o s.bg s.now (s.cnt,s.trn,s.rw);simp only at this;omega) (by have:=zDb o s.bg s.now (s.cnt,s.trn,s.rw);simp only at this;omega) (fun i=>by have h1:=hln i;have h2:=(zDb o s.bg s.now (s.cnt,s.trn,s.rw)).2.2.2.2 i;simp only at h2;omega)).mono ?_;rintro e w8 ⟨ev,rfl,hT,hk,hm,hg⟩;refine⟨KX.of hk,?_⟩;simp only[Act.put,sA,sB,sC];refine tD ?_;have H7:=zAc (HD.out.tabled hk hm hT);have M7:=zAc (MD.out.trans hg);have C7:=zAc (hk gx _ _ _ CD.out (by decide) (by decide));clear HD MD CD hT hk hm hg hbd;go_upto_region 7 with fail;have k2:=zAa C7.out;have hin:(zHv s gn o r sd st0 tl0 ms (.slice ha hn hc))∈(opS s (zHv s gn o r sd st0 tl0 ms (.slice ha hn hc))).fs:=by show _∈s.fs++[_];simp
 have huq:∀x∈(opS s (zHv s gn o r sd st0 tl0 ms (.slice ha hn hc))).fs,x.blk=((zHv s gn o r sd st0 tl0 ms (.slice ha hn hc))).blk→x=(zHv s gn o r sd st0 tl0 ms (.slice ha hn hc)):=fun x hx e=>by
  have hx':x∈s.fs++[(zHv s gn o r sd st0 tl0 ms (.slice ha hn hc))]:=hx;rcases List.mem_append.1 hx' with hx'|hx'
  ·have q1:=HBF.out x hx'
   have q2:x.blk=gn:=e;omega
  ·simpa using hx'
 have htr2:0≤(opS s (zHv s gn o r sd st0 tl0 ms (.slice ha hn hc))).trn∧(opS s (zHv s gn o r sd st0 tl0 ms (.slice ha hn hc))).trn≤999999:=by
  have q1:=zDb o s.bg s.now (s.cnt,s.trn,s.rw);have q2:=zDb r s.bg s.now (ptT o s.bg s.now (s.cnt,s.trn,s.rw));show 0≤(ptT r s.bg s.now (ptT o s.bg s.now (s.cnt,s.trn,s.rw))).2.1∧(ptT r s.bg s.now (ptT o s.bg s.now (s.cnt,s.trn,s.rw))).2.1≤999999
  simp only at q1 q2;omega
 have HBC:=zAc (zC8 base g (opS s (zHv s gn o r sd st0 tl0 ms (.slice ha hn hc))) (zHv s gn o r sd st0 tl0 ms (.slice ha hn hc)) 8 w8 H7.out hin huq (Nat.le_trans hbs M7.out.size) hBo hBr htr2 hnw);clear hin huq htr2 H7;go_wp2_with fail;refine(HFS.out w8).mono ?_;rintro e w9 ⟨rfl,rfl⟩;go_wp2_with fail;refine HBC.out.mono ?_;rintro e w10 ⟨rfl,mk,hG⟩;clear k2;go_wp2_with fail;go_ret
 exact⟨(zHv s gn o r sd st0 tl0 ms (.slice ha hn hc)),hgn,rfl,M7.out.trans mk,rfl,rfl,rfl,rfl,rfl,rfl,rfl,hG⟩
theorem zFu(w:World)(o:Obj):Later w (w.alloc o):=bA _ _
theorem zOl(fv:Value)(w:World):Calls Tryz.prog 411 #[.slice none 0 0,fv] w fun e w'=>e= .returned (.int .i64 (-1))∧Later w w':=by
 go_enter Tryz.func411,Tryz.ntmps411;go_wp2_with fail;go_loopw [8] (fun i wr=>i= .int .i64 0∧Later w wr) (fun i _=>0)
 case atStart=>exact⟨rfl,Later.refl _⟩
 case round=>
  obtain⟨rfl,lr⟩:=hrel;go_wp2_with fail;go_ret
  exact⟨rfl,lr⟩
theorem find_nil(hb:Nat)(fv:Value)(w:World)(h:HpN w hb):Calls Tryz.prog 403 #[.pointer (some ⟨hb,0,none⟩),fv] w fun e w'=>e= .returned (.tuple #[.agg #[.int .u16 0,.int .u8 0,.int .u32 0,.int .u16 0],.bool false])∧Later w w':=by
 have la:=zAe w (.cells #[.int .u16 0,.int .u8 0,.int .u32 0,.int .u16 0] 533);have C0:=zAc (heap_alloc_new w (.cells #[.int .u16 0,.int .u8 0,.int .u32 0,.int .u16 0] 533));have H1:=zAc (zAb la h);go_enter Tryz.func403,Tryz.ntmps403;go_upto_region 1 with fail;change Code.wp _ _ _ _ (w.alloc (.cells #[.int .u16 0,.int .u8 0,.int .u32 0,.int .u16 0] 533));generalize w.alloc (.cells #[.int .u16 0,.int .u8 0,.int .u32 0,.int .u16 0] 533)=w1 at*;have k1:=zAa H1.out;generalize hgx:w.heap.size=gx at C0⊢;go_wp2_with fail;refine(zOl fv w1).mono ?_;rintro e w2 ⟨rfl,l2⟩;have L2:Later w w2:=la.trans l2;have C2:=zAc (zAb l2 C0.out);clear k1;have k0:=zAa C2.out;have f0:=zAd C2.out;go_wp2_with fail;generalize hV:World.setCell _ ⟨gx,3,none⟩ _=V8;have hV9:V8=zAj w2 gx 0 [.int .u16 0,.int .u8 0,.int .u32 0,.int .u16 0]:=hV.symm;have hb8:But (fun b=>b=gx) w2 V8:=by rw[hV9];exact zAf (E:=fun b=>b=gx) (n:=gx) rfl _ _ _ _ (But.refl _ _)
 have p8:=zAg [.int .u16 0,.int .u8 0,.int .u32 0,.int .u16 0] C2.out rfl;rw[←hV9]at p8;clear hV hV9 k0 f0;have P8:=zAa p8;exact bodyPost_ret (v:= .tuple #[.agg #[.int .u16 0,.int .u8 0,.int .u32 0,.int .u16 0],.bool false]) (by simp[results,Tryz.results403,go_sem,P8]) rfl ⟨rfl,Below.trans L2 (hb8.below L2.size (fun k hk e=>by have e':k=gx:=e;omega))⟩
def HpC (W:World) (hb:Nat) (c m:Int):Prop:=∃ab cap:Nat,W.heap[hb]? =some (.cells #[.slice (some ⟨ab,0,none⟩) 1 cap] 462 (0,0))∧1≤cap∧cap≤9223372036854775807∧∃cur,W.heap[ab]? =some (.cells cur 533 (0,0))∧cur[0]? =some (.int .u16 c)∧cur[1]? =some (.int .u8 47)∧cur[2]? =some (.int .u32 16909060)∧cur[3]? =some (.int .u16 m)
theorem HpC.later {A B:World} {hb:Nat} {c m:Int} (h:HpC A hb c m)(l:Later A B):HpC B hb c m:=by
 obtain⟨ab,cap,h1,h2,h3,cur,h4,h5⟩:=h;exact⟨ab,cap,zAb l h1,h2,h3,cur,zAb l h4,h5⟩
theorem zGv(cf:Nat)(lb:Array Value)(ab cap:Nat)(c m:Int)(cur:Array Value)(w:World)(hcap:1≤cap∧cap≤9223372036854775807)(ha:w.heap[ab]? =some (.cells cur 533 (0,0)))(h0:cur[0]? =some (.int .u16 c))(h1:cur[1]? =some (.int .u8 47))(h2:cur[2]? =some (.int .u32 16909060))(h3:cur[3]? =some (.int .u16 m))
  (eg:∀args w,(callFunc cf args).run Tryz.prog w= .ok (.enter cf args) w)
  (hcl:∀W,Later w W→Calls Tryz.prog cf (#[.agg #[.int .u16 c,.int .u8 47,.int .u32 16909060,.int .u16 m]]++lb) W fun e W'=>e= .returned (.bool true)∧Later W W'):
  Calls Tryz.prog 411 #[.slice (some ⟨ab,0,none⟩) 1 cap,.func (.func cf) #[] lb] w fun e w'=>e= .returned (.int .i64 0)∧Later w w':=by
 have HEG:=zAc eg;have HCL:=zAc hcl;have HA:=zAc ha;clear eg hcl ha;go_enter Tryz.func411,Tryz.ntmps411;go_wp2_with fail;go_loopw [8] (fun i wr=>i= .int .i64 0∧Later w wr) (fun i _=>0)
 case atStart=>exact⟨rfl,Later.refl _⟩
 case round=>
  obtain⟨rfl,lr⟩:=hrel;have kb:=zAa (zAb lr HA.out);have c0:=(kb 0).trans h0;have c1:=(kb 1).trans h1;have c2:=(kb 2).trans h2;have c3:=(kb 3).trans h3;clear kb;have HC:=zAc (HCL.out wr lr);go_wp2_with fail;rw[HEG.out];simp only[Oper.upon];refine HC.out.mono ?_;rintro e w1 ⟨rfl,l1⟩;have L1:=lr.trans l1;clear c0 c1 c2 c3;go_wp2_with fail;go_ret
  exact⟨rfl,L1⟩
theorem find_yes(hb cf:Nat)(lb:Array Value)(c m:Int)(w:World)(h:HpC w hb c m)(eg:∀args w,(callFunc cf args).run Tryz.prog w= .ok (.enter cf args) w)
  (hcl:∀W,Later w W→Calls Tryz.prog cf (#[.agg #[.int .u16 c,.int .u8 47,.int .u32 16909060,.int .u16 m]]++lb) W fun e W'=>e= .returned (.bool true)∧Later W W'):
  Calls Tryz.prog 403 #[.pointer (some ⟨hb,0,none⟩),.func (.func cf) #[] lb] w fun e w'=>e= .returned (.tuple #[.agg #[.int .u16 c,.int .u8 47,.int .u32 16909060,.int .u16 m],.bool true])∧Later w w':=by
 have la:=zAe w (.cells #[.int .u16 0,.int .u8 0,.int .u32 0,.int .u16 0] 533);have C0:=zAc (heap_alloc_new w (.cells #[.int .u16 0,.int .u8 0,.int .u32 0,.int .u16 0] 533));obtain⟨ab,cap,hh,hc1,hc2,cur,ha,q0,q1,q2,q3⟩:=h.later la;have hab:(w.alloc (.cells #[.int .u16 0,.int .u8 0,.int .u32 0,.int .u16 0] 533)).heap[ab]? =some (.cells cur 533 (0,0)):=ha
 have hne:ab≠w.heap.size:=fun e=>by
  obtain⟨ab2,cap2,hh2,_,_,cur2,ha2,_⟩:=h;have e1:=hh.symm.trans (zAb la hh2)
  simp at e1
  have:=(eS ha2);omega
 have H1:=zAc hh;have HX:=zAc (zGv cf lb ab cap c m cur _ ⟨hc1,hc2⟩ hab q0 q1 q2 q3 eg (fun W l=>hcl W (Later.trans la l)));have HA:=zAc hab;clear hh ha hab eg hcl h;go_enter Tryz.func403,Tryz.ntmps403;go_upto_region 1 with fail;change Code.wp _ _ _ _ (w.alloc (.cells #[.int .u16 0,.int .u8 0,.int .u32 0,.int .u16 0] 533));generalize w.alloc (.cells #[.int .u16 0,.int .u8 0,.int .u32 0,.int .u16 0] 533)=w1 at*;have k1:=zAa H1.out;generalize hgx:w.heap.size=gx at C0 hne⊢;go_wp2_with fail;refine HX.out.mono ?_;rintro e w2 ⟨rfl,l2⟩;have L2:Later w w2:=la.trans l2;have C2:=zAc (zAb l2 C0.out);have H2:=zAc (zAb l2 H1.out);have A2:=zAc (zAb l2 HA.out);clear k1 HX;have k0:=zAa C2.out;have f0:=zAd C2.out;have k1:=zAa H2.out;have kb:=zAa A2.out;have c0:=(kb 0).trans q0;have c1:=(kb 1).trans q1;have c2:=(kb 2).trans q2;have c3:=(kb 3).trans q3;clear kb;go_wp2_with fail;generalize hV:World.setCell _ ⟨gx,3,none⟩ _=V8;have hV9:V8=zAj w2 gx 0 [.int .u16 c,.int .u8 47,.int .u32 16909060,.int .u16 m]:=hV.symm;have hb8:But (fun b=>b=gx) w2 V8:=by rw[hV9];exact zAf (E:=fun b=>b=gx) (n:=gx) rfl _ _ _ _ (But.refl _ _)
 have p8:=zAg [.int .u16 c,.int .u8 47,.int .u32 16909060,.int .u16 m] C2.out rfl;rw[←hV9]at p8;clear hV hV9 k0 f0;have P8:=zAa p8;exact bodyPost_ret (v:= .tuple #[.agg #[.int .u16 c,.int .u8 47,.int .u32 16909060,.int .u16 m],.bool true]) (by simp[results,Tryz.results403,go_sem,P8]) rfl ⟨rfl,Below.trans L2 (hb8.below L2.size (fun k hk e=>by have e':k=gx:=e;omega))⟩
theorem zRk:(Tryz.prog.info? 533).map (fun i=>(i.zero,i.size))=some (some (.agg #[.int .u16 0,.int .u8 0,.int .u32 0,.int .u16 0]),4):=by kernel_rfl
theorem info_num:(Tryz.prog.info? 230).map (fun i=>(i.zero,i.size))=some (some (.agg #[.int .u8 0,.int .u32 0,.int .u16 0]),3):=by kernel_rfl
theorem zOm:(Tryz.prog.info? 533).map (fun i=>decide (i.bytes≤64))=some true:=by kernel_rfl
theorem zRl:(Tryz.prog.info? 230).map (fun i=>decide (i.bytes≤64))=some true:=by kernel_rfl
theorem infoB {P:Program} {t:TypeId} {i:TypeInfo} (h:(P.info? t).map (fun i=>decide (i.bytes≤64))=some true)(hi:P.info? t=some i):i.bytes≤64:=by
 rw[hi]at h;exact of_decide_eq_true (Option.some.inj h)
theorem infoK {P:Program} {t:TypeId} {z:Value} {a:Nat} (h:(P.info? t).map (fun i=>(i.zero,i.size))=some (some z,a)):∃i,P.info? t=some i∧i.zero=some z∧i.size=a:=by
 cases hi:P.info? t with
 |none=>rw[hi]at h;cases h
 |some i=>rw[hi]at h;simp at h;exact⟨i,rfl,h.1,h.2⟩
theorem zA4 {A B:World} {base:Nat} {e:TypeId} {k:Nat} {v:Value} {n:Nat} {xs:List Value} (h:A.ownsRow base e k v n xs)(l:Later A B):B.ownsRow base e k v n xs:=by
 obtain⟨h1,h2|⟨g,cap,cur,hv,hg,hh,r⟩⟩:=h
 ·exact ⟨h1,.inl h2⟩
 ·exact ⟨h1,.inr ⟨g,cap,cur,hv,hg,zAb l hh,r⟩⟩
theorem appOne {e t:TypeId} {k:Nat} {i:TypeInfo} {z:Value} (ht:Tryz.prog.underlying t=some (.slice e))(hi:Tryz.prog.info? e=some i)(hz:i.zero=some z)(h1:i.size=k)(hzc:z.cells.size=k)(hk:0<k)(hb:i.bytes≤64)(W:World)(ty:TypeId)(base:Nat)(v:Value)(n:Nat)(xs x:List Value)(hx:x.length=k)(hx1:∀u∈x,u.oneCell'=true)(ho:W.ownsRow base e k v n xs)(hn:n≤1000)(hbW:base≤W.heap.size):
  ∃a c W',(Builtin.append_ #[t,t] ty #[v,.slice (some ⟨W.heap.size,0,none⟩) 1 1]).run Tryz.prog (W.alloc (.cells x.toArray e))= .ok (.slice (some ⟨a,0,none⟩) (n+1) c) W'∧W'.ownsRow base e k (.slice (some ⟨a,0,none⟩) (n+1) c) (n+1) (xs++x)∧But (fun b=>v.ownBlock=some b) W W'∧(v.ownBlock=some a∨W.heap.size≤a)∧But (fun b=>v.ownBlock=some b) (W.alloc (.cells x.toArray e)) W':=by
 have la:=zAe W (.cells x.toArray e);have hnw:=heap_alloc_new W (.cells x.toArray e)
 obtain⟨v',W',hrun,hrow,hg,_,h4⟩:=run_append_own_at (P:=Tryz.prog) (W.alloc (.cells x.toArray e)) base t ty e i z k i.bytes ht hi hz h1 rfl hzc hk v n xs (zA4 ho la) ⟨W.heap.size,0,none⟩ 1 1 x (by rw[hx,Nat.one_mul])
  (fun j u hj=>by
   rw[show (⟨W.heap.size,0,none⟩:Addr).add j=⟨W.heap.size,j,none⟩from by unfold Addr.add;split<;>simp_all,zAa hnw j];simpa using hj)
  hx1 (by unfold maxLen;omega) (by have:(n+1)*i.bytes≤1001*64:=Nat.mul_le_mul (by omega) hb;omega) (Nat.le_trans hbW la.size)
 obtain⟨g,cap,rfl⟩:=ownsRow_succ hrow;refine⟨g,cap,W',hrun,hrow,(But.of la).trans ⟨hg.os,hg.tape,hg.output,hg.size,fun q hq he=>hg.block q hq (fun e=>he e.symm)⟩,?_,⟨hg.os,hg.tape,hg.output,hg.size,fun q hq he=>hg.block q hq (fun e=>he e.symm)⟩⟩;rcases h4 with h4|h4
 ·exact .inl h4.symm
 ·right
  simp[Value.ownBlock]at h4
  omega
def SrF (p a p2 a2:Int):Prop:=∀(v:Value) (bn:Nat) (w:World),(Instr.findKey 119 (.agg #[.int .u8 p2,.int .u32 a2]) [⟨.agg #[.int .u8 p,.int .u32 a],v,bn⟩]).run Tryz.prog w= .ok none w
theorem srF_6:SrF 6 16909060 47 16909060:=fun v bn w=>by kernel_rfl
theorem zRm {w:World} {b c bn:Nat} {p a p2 a2:Int} {v:Value} (hF:SrF p a p2 a2)(hb:w.heap[b]? =some (.map #[⟨.agg #[.int .u8 p,.int .u32 a],v,bn⟩] c)):(Instr.lookup 89 (.map (some b)) (.agg #[.int .u8 p2,.int .u32 a2]) false).run Tryz.prog w= .ok (.pointer none) w:=by
 simp[Instr.lookup,run_underlying Tryz.underlying89,MapKept.run_getObj_map hb,zIo,hF v bn w,Result.andThen]
theorem ins_srcF {w:World} {b c bn:Nat} {p a p2 a2:Int} {u:Value} (hF:SrF p a p2 a2)(hb:w.heap[b]? =some (.map #[⟨.agg #[.int .u8 p,.int .u32 a],u,bn⟩] c))(v:Value):
  ∃w',(Instr.mapUpdate 89 (.map (some b)) (.agg #[.int .u8 p2,.int .u32 a2]) v).run Tryz.prog w= .ok () w'∧w'.heap[b]? =some (.map ((#[⟨.agg #[.int .u8 p,.int .u32 a],u,bn⟩]:Array MapEntry).push ⟨.agg #[.int .u8 p2,.int .u32 a2],v,c⟩) (c+1))∧But (fun g=>g=b) w w':=by
 have hlt:=(eS hb);refine⟨{ w with heap:=w.heap.setIfInBounds b (.map ((#[⟨.agg #[.int .u8 p,.int .u32 a],u,bn⟩]:Array MapEntry).push ⟨.agg #[.int .u8 p2,.int .u32 a2],v,c⟩) (c+1)) },?_,?_,rfl,rfl,rfl,by simp,fun i hi he=> ?_⟩
 ·simp[Instr.mapUpdate,run_underlying Tryz.underlying89,MapKept.run_getObj_map hb,zIo,hF u bn w,MapKept.run_setObj_map _ hb,Result.andThen]
 ·simp[hlt]
 ·have he':i≠b:=he
  rw[Array.getElem?_setIfInBounds_ne (by omega)]
theorem pe_one0 {s:Gf} {base g:Nat} {W:World} (h:GF base W g s) {p0:Pl} (hp:s.ps=[p0]):∃bn,s.pe=#[⟨.agg #[.int .u8 p0.pr,.int .u32 p0.ad],.pointer (some ⟨p0.blk,0,none⟩),bn⟩]:=pe_one h (pr:=p0.pr) (ad:=p0.ad) (b:=p0.blk) (ws:=p0.ws) hp
def zRn (s:Gf) (pr ad:Int) (b:Nat) (ws:Nat→Nat):Gf:= { s with ps:=s.ps++[⟨pr,ad,b,ws⟩],pe:=s.pe.push ⟨.agg #[.int .u8 pr,.int .u32 ad],.pointer (some ⟨b,0,none⟩),s.cp⟩,cp:=s.cp+1 }
def Pn2 (base:Nat) (w w':World) (g:Nat) (s:Gf) (pr ad:Int) (e:Ending):Prop:=∃b,e= .returned (.pointer (some ⟨b,0,none⟩))∧But (fun b=>b=s.gp) w w'∧w.heap.size≤b∧GF base w' g (zRn s pr ad b (zCr (zBy s.lo s.hi)))
theorem GF.pool2 {base g:Nat} {W W':World} {s:Gf} {p0:Pl} {pr ad:Int} {b:Nat} {ws ws':Nat→Nat} (h:GF base W g (zRn s pr ad b ws))(hps:s.ps=[p0])(hne:p0.blk≠b)(hb:But (fun x=>x=b) W W')(hp:PB base W' b (s.lo:Int) (s.hi:Int) ws'):GF base W' g (zRn s pr ad b ws'):=by
 have hP:=h.pb ⟨pr,ad,b,ws⟩ (by simp[zRn]);have hE:=TE.one hP.2.2;obtain⟨k1,k2,k3,k4,k5,k6⟩:=h.keep hE hb (by decide);refine⟨h.bs,k1,k2,k3,k4,k5,k6,h.ne,h.bf,h.fm,?_,fun f hf=>⟨(h.fb f hf).1,hE.keep hb (h.fb f hf).2 (zAs (by decide) _ _)⟩,fun p hp'=> ?_⟩
 ·have q:=h.pm
  show(s.pe.push _).toList.map (fun e=>(e.key,e.val))=(s.ps++[_]).map plE
  have q':(s.pe.push (⟨.agg #[.int .u8 pr,.int .u32 ad],.pointer (some ⟨b,0,none⟩),s.cp⟩:MapEntry)).toList.map (fun e=>(e.key,e.val))=(s.ps++[(⟨pr,ad,b,ws⟩:Pl)]).map plE:=q;rw[q',List.map_append,List.map_append];rfl
 ·have hp2:p∈s.ps++[⟨pr,ad,b,ws'⟩]:=hp'
  rcases List.mem_append.1 hp2 with hp2|hp2
  ·have q:=h.pb p (by show p∈s.ps++[_];exact List.mem_append.2 (.inl hp2))
   rw[hps]at hp2;have e:=List.mem_singleton.1 hp2;refine⟨q.1,q.2.1,(hb.block p.blk (eS q.2.2) (fun e2=>hne ?_)).trans q.2.2⟩;rw[←e];exact e2
  ·rw[List.mem_singleton.1 hp2]
   exact hp
def Tn2 (base:Nat) (w w':World) (g:Nat) (s:Gf) (pr ad:Int) (wish:Nat) (e:Ending):Prop:=∃b,e= .returned (.tuple #[.agg #[.int .u8 pr,.int .u32 ad,.int .u16 (tkn s.lo s.hi wish:Int)],.bool true])∧But (fun b=>b=s.gp) w w'∧w.heap.size≤b∧GF base w' g (zRn s pr ad b (wsR (zCr (zBy s.lo s.hi)) (tkn s.lo s.hi wish)))
theorem zOn(base g:Nat)(s:Gf)(pr ad:Int)(w:World)(h:GF base w g s)(p0:Pl)(hps:s.ps=[p0])(hF:SrF p0.pr p0.ad pr ad)(h1:1≤s.lo)(h2:s.lo≤s.hi)(h3:s.hi<65536)(hbs:base≤w.heap.size):
  Calls Tryz.prog 163 #[.pointer (some ⟨g,0,none⟩),.agg #[.int .u8 pr,.int .u32 ad]] w fun e w'=>Pn2 base w w' g s pr ad e:=by
 have l0:=zAe w (.cells #[.int .u8 pr,.int .u32 ad] 119);have C0:=zAc (heap_alloc_new w (.cells #[.int .u8 pr,.int .u32 ad] 119));have H1:=zAc (h.later l0);obtain⟨bn0,hpe⟩:=pe_one0 h hps;have HPE:=zAc hpe;have HPS:=zAc hps;clear h hps hpe;go_enter Tryz.func163,Tryz.ntmps163;go_upto_region 1 with fail;generalize w.alloc _=w1 at*;generalize hgx:w.heap.size=gx at C0⊢;refine zAk (R:=Later) 7 rfl (by kernel_rfl) ?_;have ld:Later w1 w1.drew:=Later.drew w1;generalize w1.drew=w2 at*;have L2:Later w w2:=Later.trans l0 ld;have H2:=zAc (H1.out.later ld);have C2:=zAc (zAb ld C0.out);clear H1 C0 l0 ld;have q0:∀v,Later w2 v→∀j,v.cell? ⟨gx,j,none⟩=#[.int .u8 pr,.int .u32 ad][j]? :=fun v hv=>zAa (zAb hv C2.out);have q1:∀v,Later w2 v→∀j,v.cell? ⟨g,j,none⟩=(gfc s).toArray[j]? :=fun v hv=>zAa (zAb hv H2.out.gc);unfold gfc at q1;have q2:∀v,Later w2 v→(Instr.lookup 89 (.map (some s.gp)) (.agg #[.int .u8 pr,.int .u32 ad]) false).run Tryz.prog v= .ok (.pointer none) v:=fun v hv=>zRm (c:=s.cp) hF (by rw[←HPE.out];exact zAb hv H2.out.pl);refine tX Later.pre 0 ?_;refine tX Later.pre 1 ?_;refine tX Later.pre 2 ?_;refine tX Later.pre 3 ?_;refine tX Later.pre 4 ?_;refine tX Later.pre 5 ?_;refine tX Later.pre 6 ?_;clear q0 q1 q2;refine tD ?_;go_upto_region 3 with fail;refine zAk (R:=Later) 10 rfl (by kernel_rfl) ?_;have ld:Later w2 w2.drew:=Later.drew w2;generalize w2.drew=w3 at*;have L3:Later w w3:=Later.trans L2 ld
 have H3:=zAc (H2.out.later ld);have C3:=zAc (zAb ld C2.out);clear H2 C2 L2 ld;have q1:∀v,Later w3 v→∀j,v.cell? ⟨g,j,none⟩=(gfc s).toArray[j]? :=fun v hv=>zAa (zAb hv H3.out.gc);unfold gfc at q1;refine tX Later.pre 0 ?_;refine tX Later.pre 1 ?_;refine tX Later.pre 2 ?_;refine tX Later.pre 3 ?_;refine tX Later.pre 4 ?_;refine tX Later.pre 5 ?_;refine tX Later.pre 6 ?_;refine tX Later.pre 7 ?_;clear q1;refine tO 8 ?_;refine zAi 221 #[.int .u16 (s.lo:Int),.int .u16 (s.hi:Int)] (by go_simp) ?_;refine(zMy s.lo s.hi h1 h2 h3 w3).mono ?_;rintro e w4 ⟨rfl,l4,hP4⟩;refine⟨l4,?_⟩;simp only[Act.put,sA,sB,sC];refine tX Later.pre 9 ?_;refine tD ?_;have L4:Later w w4:=Later.trans L3 l4;have H4:=zAc (H3.out.later l4);have C4:=zAc (zAb l4 C3.out);have HP4:=zAc hP4;have hs34:w.heap.size≤w3.heap.size:=L3.size;clear H3 C3 L3 l4 hP4;generalize hpb:w3.heap.size=pb at*;go_upto_region 4 with fail;refine zAk (R:=But (fun b=>b=s.gp)) 7 rfl (by kernel_rfl) ?_;have ld:Later w4 w4.drew:=Later.drew w4;generalize w4.drew=w5 at*;have L5:Later w w5:=Later.trans L4 ld;have H5:=zAc (H4.out.later ld);have C5:=zAc (zAb ld C4.out);have HP5:=zAc (HP4.out.later ld);clear H4 C4 L4 HP4 ld;have q0:∀v,But (fun b=>b=s.gp) w5 v→∀j,v.cell? ⟨gx,j,none⟩=#[.int .u8 pr,.int .u32 ad][j]? :=fun v hv=>zAa ((hv.block gx (eS C5.out) (fun e=>by have e':gx=s.gp:=e;have hh:=H5.out.pl;rw[←e',C5.out]at hh;cases hh)).trans C5.out)
 have q1:∀v,But (fun b=>b=s.gp) w5 v→∀j,v.cell? ⟨g,j,none⟩=(gfc s).toArray[j]? :=fun v hv=>zAa ((hv.block g (eS H5.out.gc) (fun e=>by have e':g=s.gp:=e;have hh:=H5.out.pl;rw[←e',H5.out.gc]at hh;cases hh)).trans H5.out.gc);unfold gfc at q1;refine tX (But.pre (fun b=>b=s.gp)) 0 ?_;refine tX (But.pre (fun b=>b=s.gp)) 1 ?_;refine tX (But.pre (fun b=>b=s.gp)) 2 ?_;refine tX (But.pre (fun b=>b=s.gp)) 3 ?_;refine tX (But.pre (fun b=>b=s.gp)) 4 ?_;refine tX (But.pre (fun b=>b=s.gp)) 5 ?_;clear q0 q1;obtain⟨w6,hrun,hm6,hb6⟩:=ins_srcF (w:=w5) (b:=s.gp) (c:=s.cp) hF (by rw[←HPE.out];exact H5.out.pl) (.pointer (some ⟨pb,0,none⟩));refine tO 6 ?_;have HB6:=zAc hb6;have HM6:=zAc hm6;clear hb6 hm6;unfold Oper.wp;go_simp;refine⟨HB6.out,?_⟩;refine tD ?_;clear hrun;have hk:∀(b:Nat) (cur:Array Value) (t:TypeId) (f:Nat × Nat),w5.heap[b]? =some (.cells cur t f)→w6.heap[b]? =some (.cells cur t f):=fun b cur t f hb=>(HB6.out.block b (eS hb) (fun e=>by have e':b=s.gp:=e;have hh:=H5.out.pl;rw[←e',hb]at hh;cases hh)).trans hb
 have hko:∀ {bs:Nat} {e:TypeId} {size:Nat} {v:Value} {n:Nat} {xs:List Value},w5.ownsRow bs e size v n xs→w6.ownsRow bs e size v n xs:=fun h=>by
  obtain⟨q1,q2|⟨b,cap,cur',e',hb',hh,r⟩⟩:=h
  ·exact ⟨q1,.inl q2⟩
  ·exact ⟨q1,.inr ⟨b,cap,cur',e',hb',hk _ _ _ _ hh,r⟩⟩
 have h6:GF base w6 g (zRn s pr ad pb (zCr (zBy s.lo s.hi))):=by
  have h5:=H5.out;obtain⟨vs,t1,t2,t3,t4,t5⟩:=h5.tb;refine⟨h5.bs,hk _ _ _ _ h5.gc,⟨h5.rl.1,hk _ _ _ _ h5.rl.2.1,hko h5.rl.2.2⟩,⟨vs,t1,t2,hk _ _ _ _ t3,fun i hi=>hko (t4 i hi),t5⟩,⟨h5.bl.1,hk _ _ _ _ h5.bl.2.1,hko h5.bl.2.2⟩,?_,(by show w6.heap[s.gp]? =some (.map (s.pe.push _) _);rw[HPE.out];exact HM6.out),h5.ne,h5.bf,h5.fm,?_,fun f hf=>⟨(h5.fb f hf).1,hk _ _ _ _ (h5.fb f hf).2⟩,fun p hp=> ?_⟩
  ·exact (HB6.out.block s.gf (eS h5.fl) (fun e=>h5.ne e)).trans h5.fl
  ·have hm:=h5.pm
   rw[HPE.out]at hm;show(s.pe.push _).toList.map (fun e=>(e.key,e.val))=(s.ps++[_]).map plE
   rw[Array.toList_push,List.map_append,List.map_append,HPE.out,hm];rfl
  ·have hp':p∈s.ps++[⟨pr,ad,pb,zCr (zBy s.lo s.hi)⟩]:=hp
   rcases List.mem_append.1 hp' with hp'|hp'
   ·have q:=h5.pb p hp'
    exact⟨q.1,q.2.1,hk _ _ _ _ q.2.2⟩
   ·rw[List.mem_singleton.1 hp']
    exact⟨Nat.le_trans (Nat.le_trans hbs hs34) HP5.out.1,HP5.out.2.1,hk _ _ _ _ HP5.out.2.2⟩
 have M6:But (fun b=>b=s.gp) w w6:=(But.of L5).trans HB6.out;go_wp2_with fail;go_ret
 exact⟨pb,rfl,M6,by omega,h6⟩
theorem zOo(base g:Nat)(s:Gf)(pr ad:Int)(wish:Nat)(w:World)(h:GF base w g s)(p0:Pl)(hps:s.ps=[p0])(hF:SrF p0.pr p0.ad pr ad)(hp0:p0.blk<w.heap.size)(h1:1≤s.lo)(h2:s.lo≤s.hi)(h3:s.hi<65536)(hw:wish<65536)(hbs:base≤w.heap.size)(hz:∀W,But (fun b=>b=s.gp) w W→Dz W)(hg:6≤w.heap.size):
  Calls Tryz.prog 282 #[.pointer (some ⟨g,0,none⟩),.agg #[.int .u8 pr,.int .u32 ad],.int .u16 (wish:Int)] w fun e w'=>Tn2 base w w' g s pr ad wish e:=by
 obtain⟨l0,c0,c1⟩:=zBj w (.cells #[.int .u8 pr,.int .u32 ad] 119) (.cells #[.int .u8 0,.int .u32 0,.int .u16 0] 230);have C0:=zAc c0;have C1:=zAc c1;have HPL:=zAc (zOn base g s pr ad _ (h.later l0) p0 hps hF h1 h2 h3 (Nat.le_trans hbs l0.size));have hgp:=(eS h.pl);have HGP:=zAc hgp;have HPS:=zAc hps;clear c0 c1 h hps hgp;go_enter Tryz.func282,Tryz.ntmps282;go_upto_region 1 with fail;generalize (w.alloc (.cells #[.int .u8 pr,.int .u32 ad] 119)).alloc (.cells #[.int .u8 0,.int .u32 0,.int .u16 0] 230)=w1 at*;generalize hgx:w.heap.size=gx at C0 C1⊢;have k0:=zAa C0.out;have hs1:w.heap.size≤w1.heap.size:=l0.size;go_wp2_with fail;refine HPL.out.mono ?_;rintro e w2 ⟨b,rfl,m2,hb2,h2'⟩;clear k0 HPL;have hkeep:∀k,k=gx∨k=gx+1→¬(k=s.gp):=fun k hk e=>by have:=HGP.out;omega
 have D0:=zAc ((m2.block gx (eS C0.out) (hkeep gx (.inl rfl))).trans C0.out);have D1:=zAc ((m2.block (gx+1) (eS C1.out) (hkeep (gx+1) (.inr rfl))).trans C1.out);have M2:But (fun b=>b=s.gp) w w2:=(But.of l0).trans m2;have hx1:=(eS C1.out);have hz2:=hz w2 M2;have HTK:=zAc (zIt base b s.lo s.hi (zCr (zBy s.lo s.hi)) wish w2 (h2'.pb ⟨pr,ad,b,zCr (zBy s.lo s.hi)⟩ (by simp[zRn])) hw hz2 (by omega));obtain⟨e1,e2⟩:=zQt s.lo s.hi wish h2 h3;rw[e1,tke_t e2]at HTK;unfold tkP at HTK;rw[e2]at HTK;clear e1 e2;have H2:=zAc h2';clear h2' hz hz2 C0 C1 m2;generalize hn:tkn s.lo s.hi wish=n at*;have HN:=zAc hn;clear hn;go_wp2_with fail;refine HTK.out.mono ?_;rintro e w3 ⟨rfl,hP3,m3⟩
 have hP3':PB base w3 b (s.lo:Int) (s.hi:Int) (wsR (zCr (zBy s.lo s.hi)) n):=by
  rcases hP3 with⟨hf,_⟩|⟨_,hp⟩
  ·cases hf
  ·exact hp
 have h3':=H2.out.pool2 HPS.out (by omega) m3 hP3';have hbx:gx+1<b:=by omega
 have E0:=zAc ((m3.block gx (eS D0.out) (fun e=>by have e':gx=b:=e;omega)).trans D0.out);have E1:=zAc ((m3.block (gx+1) (eS D1.out) (fun e=>by have e':gx+1=b:=e;omega)).trans D1.out);have M3:But (fun b=>b=s.gp) w w3:=⟨m3.os.trans M2.os,m3.tape.trans M2.tape,m3.output.trans M2.output,Nat.le_trans M2.size m3.size,fun i hi he=>(m3.block i (Nat.lt_of_lt_of_le hi M2.size) (fun e=>by have e':i=b:=e;omega)).trans (M2.block i hi he)⟩;clear HTK hP3 m3 D0 D1 H2 M2;have k0:=zAa E0.out;have k1:=zAa E1.out;have f1:=zAd E1.out;go_wp2_with fail;generalize hV:World.setCell _ ⟨gx+1,2,none⟩ _=V8;have hV9:V8=zAj w3 (gx+1) 0 [.int .u8 pr,.int .u32 ad,.int .u16 (n:Int)]:=hV.symm;have hb8:But (fun b=>b=gx+1) w3 V8:=by rw[hV9];exact zAf (E:=fun b=>b=gx+1) (n:=gx+1) rfl _ _ _ _ (But.refl _ _)
 have p8:=zAg [.int .u8 pr,.int .u32 ad,.int .u16 (n:Int)] E1.out rfl;rw[←hV9]at p8;clear hV hV9;have P8:=zAa p8;have h8:=h3'.other (TE.one E1.out) hb8 (by decide);have M8:But (fun b=>b=s.gp) w V8:=⟨hb8.os.trans M3.os,hb8.tape.trans M3.tape,hb8.output.trans M3.output,Nat.le_trans M3.size hb8.size,fun i hi he=>(hb8.block i (Nat.lt_of_lt_of_le hi M3.size) (fun e=>by have e':i=gx+1:=e;omega)).trans (M3.block i hi he)⟩;exact bodyPost_ret (v:= .tuple #[.agg #[.int .u8 pr,.int .u32 ad,.int .u16 (n:Int)],.bool true]) (by simp[results,Tryz.results282,go_sem,P8]) rfl ⟨b,by rw[HN.out],M8,by omega,by rw[HN.out];exact h8⟩
end Go.Proofs.YteaeilghamjjkaaGreatDoor
