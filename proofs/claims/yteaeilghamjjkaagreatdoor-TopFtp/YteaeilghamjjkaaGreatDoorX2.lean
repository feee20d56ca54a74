import Derived.Test.YteaeilghamjjkaaGreatDoorX3
namespace Go.Proofs.YteaeilghamjjkaaGreatDoor
set_option maxHeartbeats 8000000
open Go.RowKit Go.Shelf
set_option maxRecDepth 100000
set_option linter.unusedVariables false
set_option linter.unusedSimpArgs false
theorem zB1 {a b:List Int} (h:Mt.By a)(h':Mt.By b):Mt.By (a++b):=fun z hz=>by rcases List.mem_append.1 hz with hz|hz;(· exact h z hz);(· exact h' z hz)
theorem zCo {pre r:List Int} {t:ByteArray} (h:t.size≤pre.length):tkB (pre++r) 0 t=tkB pre 0 t:=by
 unfold tkB;rw[List.drop_zero,List.drop_zero,List.take_append_of_le_length h];have e1:decide (0+t.size≤(pre++r).length)=true:=by simp;omega
 have e2:decide (0+t.size≤pre.length)=true:=by simp;omega
 rw[e1,e2]
theorem zV3(a:Int)(h:0≤a∧a≤4294967295)(n:Int)(hn:0≤n∧n≤65535):zAs (ad4 a++po2 n) 0=a∧wat (ad4 a++po2 n) 4=n:=by
 unfold zAs wat ad4 po2;simp
 omega
def txt (k a:Int) (n:Nat):List Int:=if k=2 then [124,49,124]++(zBz 46 0 (ad4 a)++(124::(dg n++[124])))else if k=4 then dg n else zBz 44 0 (ad4 a++po2 n)
theorem zJx(a b:ByteArray):zBe (a++b)=zBe a++zBe b:=by unfold zBe;simp
theorem zD3(k a:Int)(n:Nat):zBe (zB0 k a n)=txt k a n:=by
 unfold zB0 txt;split
 ·simp only[zJx]
  rw[show zBe (zG6 zG1 (ad4 a))=zBz 46 0 (ad4 a)from zV0 46 _];show [124,49,124]++zBz 46 0 (ad4 a)++[124]++dg n++[124]=_
  simp
 ·split
  ·rfl
  ·exact zV0 44 _
theorem zV6(a:Int)(n:Nat):(ad4 a++po2 n).length=6:=rfl
theorem zJ1(k:Int)(a:Int)(n:Nat)(h2:k≠2)(h4:k≠4):txt k a n=zBz 44 0 (ad4 a++po2 n):=by unfold txt;rw[if_neg h2,if_neg h4]
theorem zQf {l:List Int} (h:∀z∈l,z≠13∧z≠10):crl l=false:=by
 unfold crl;rw[List.any_eq_false];intro z hz
 have:=h z hz;unfold zEc;simp
 omega
theorem dg_cr(n:Nat):∀z∈dg n,z≠13∧z≠10:=fun z hz=>by have:=zVg (zVt n z hz);omega
theorem zV9(c:UInt8)(hc:32≤c.toNat):∀(x:List Int) (i:Nat),∀z∈zBz c i x,z≠13∧z≠10
 | [],i=>by intro z hz;simp[zBz]at hz
 | v::r,i=>by
  intro z hz
  rw[zBk]at hz;simp only[List.mem_append]at hz;rcases hz with hz|hz|hz
  ·split at hz
   ·simp at hz
   ·simp at hz;omega
  ·exact dg_cr _ z hz
  ·exact zV9 c hc r (i+1) z hz
theorem txt_cr(k a:Int)(n:Nat):∀z∈txt k a n,z≠13∧z≠10:=by
 unfold txt;intro z hz
 split at hz
 ·simp only[List.mem_append,List.mem_cons,List.mem_singleton]at hz
  rcases hz with(rfl|rfl|rfl|hz)|hz|rfl|hz|rfl|hz
  ·omega
  ·omega
  ·omega
  ·simp at hz
  ·exact zV9 46 (by decide) _ _ z hz
  ·omega
  ·exact dg_cr n z hz
  ·omega
  ·simp at hz
 ·split at hz
  ·exact dg_cr n z hz
  ·exact zV9 44 (by decide) _ _ z hz
theorem zWb(k a:Int)(n:Nat):0<(txt k a n).length:=by
 unfold txt;split
 ·simp
 ·split
  ·exact zVs n
  ·show 0<(zBz 44 0 ((a/16777216)::_)).length
   rw[zBk];have:=zVs (a/16777216).toNat;simp only[List.length_append];omega
theorem zLp(k a:Int)(ha:0≤a∧a≤4294967295)(n:Nat)(hn:n≤65535):(txt k a n).length≤40:=by
 rw[←zD3,zAz];unfold zB0;split
 ·have h1:=zDo zG1 (ad4 a) (zD1 a ha)
  have h2:=zDn n hn;have h3:(ad4 a).length*(5+zG1.size)=24:=rfl;have h4:zLy.size=3:=rfl;have h5:zDy.size=1:=rfl;simp only[ByteArray.size_append];omega
 ·split
  ·have h2:=zDn n hn
   omega
  ·have h1:=zDo cma (ad4 a++po2 n) (zB1 (zD1 a ha) (zP6 n (by omega)))
   have h3:(ad4 a++po2 n).length*(5+cma.size)=36:=rfl;omega
def nnP:Nat:=tkn 1000 1063 5555
theorem zIm:1000≤nnP∧nnP≤1063:=zT9 (by omega)
def wsP:Nat→Nat:=wsR (zFb (zC1 1000 1063)) nnP
structure S0 (s:Gf):Prop where
 fs:s.fs=[]
 rw:s.rw=rwL []
 ex:s.ex=[]
 cnt:s.cnt=0
 trn:s.trn=0
 bg:s.bg=0
 lo:s.lo=1000
 hi:s.hi=1063
 now:0≤s.now∧s.now≤9
 ps:s.ps=[]
 ls:s.ls=[mqR]
 fe:s.fe=#[]
theorem S0.ltr {s:Gf} (h:S0 s)(n:Int)(v:Value)(hn:0≤n∧n≤9):S0 (ltr s n v):=⟨h.fs,h.rw,h.ex,h.cnt,h.trn,h.bg,h.lo,h.hi,hn,h.ps,h.ls,h.fe⟩
theorem S0.start(s:Gs)(hls:s.ls=[mqR])(hnw:0≤s.now∧s.now≤9):S0 (gfS 1000 1063 s):=⟨rfl,rfl,rfl,rfl,rfl,rfl,rfl,rfl,hnw,rfl,hls,rfl⟩
theorem mq_okP:okL [mqR]:=⟨by simp,fun r hr=>by have e:=List.mem_singleton.1 hr;rw[e];exact⟨by unfold wfR mqR;simp,by decide+kernel⟩⟩
theorem mq_fdP:[mqR].find? (mqB 167772162)=some mqR:=by decide+kernel
def TQP:TkP:=fun n ps pe cp=>n=nnP∧∃pb,ps=[⟨6,16909060,pb,wsP⟩]
theorem F1.first {s:Gf} (h:S0 s) {f:Fl} (hid:f.id=s.bg)(ho:f.o=oF)(hr:f.r=rF nnP)(hsd:f.side=0)(hms:f.ms= -1) {ps:List Pl} {pe:Array MapEntry} {cp:Nat} (hps:∃pb,ps=[⟨6,16909060,pb,wsP⟩]):
  F1 (bcS (opS (zUm s ps pe cp) f) f 1) (f.at 1 (s.now+120)) nnP 1 wsP []∧(bcS (opS (zUm s ps pe cp) f) f 1).trn=0+1+1+1+1:=by
 have hp:f.o.pr=6:=by rw[ho];rfl
 have hi0:f.id=0:=by rw[hid,h.bg]
 have hnw:=h.now
 have hop:opM (zUm s ps pe cp) f=(0+1+1,0+1+1,rwL (rw2 oF (rF nnP) 0 s.now (0+1) (0+1+1))):=by
  unfold opM;show ptT f.r f.id s.now (ptT f.o f.id s.now (s.cnt,s.trn,s.rw))=_
  rw[h.cnt,h.trn,h.rw,ho,hr,hi0];exact rw2_put oF (rF nnP) 0 s.now 0 (by unfold zEw;rw[decide_eq_true_eq];omega) (zM7 _)
 have hbc:bcM (opS (zUm s ps pe cp) f) f (s.now+120)=(0+1+1+1+1,rwL (rw2 oF (rF nnP) 0 (s.now+120) (0+1+1+1) (0+1+1+1+1))):=by
  unfold bcM opS;simp only[hop];rw[ho,hr];exact zH9 oF (rF nnP) 0 s.now (0+1) (0+1+1) _ (0+1+1) (by unfold zEw;rw[decide_eq_true_eq];omega) (zM7 _)
 have htm:tm f.o.pr 1=120:=by rw[hp];decide
 have hnow:(opS (zUm s ps pe cp) f).now=s.now:=rfl
 have hb1:(bcS (opS (zUm s ps pe cp) f) f 1).trn=0+1+1+1+1:=by
  show(bcM _ f (_+tm f.o.pr 1)).1=_
  rw[htm,hnow,hbc]
 refine⟨⟨?_,⟨s.now+120,0+1+1+1,0+1+1+1+1,?_,by omega⟩,hi0,ho,hr,hsd,hms,rfl,h.ex,⟨by simp,by simp⟩,?_,by rw[hb1];omega,?_,h.lo,h.hi,h.now,hps,zIm,by show EsI (s.fe.push _) (s.cf+1);rw[h.fe];exact EsI.pushP (EsI.nilP s.cf) _ _,h.ls⟩,hb1⟩
 ·show (s.fs++[f]).map (fun x=>if x.blk=f.blk then f.at 1 ((opS (zUm s ps pe cp) f).now+tm f.o.pr 1)else x)=_
  rw[h.fs,htm,hnow];simp
 ·show (bcM _ f (_+tm f.o.pr 1)).2=_
  rw[htm,hnow,hbc]
 ·show (opM (zUm s ps pe cp) f).1=_
  rw[hop];rfl
 ·show s.bg+1=_
  rw[h.bg];rfl
theorem synF(base g:Nat)(s:Gf)(nw sq ak:Int)(z:List Int)(sb:Value)(w:World)(hG:GF base w g s)(hS:S0 s)(hbs:base≤w.heap.size)(hT:TG 167772162 134744072 5555 21 sq ak 2 [] z)(nI:Nat)(hI:Ow nI w sb (tgB 64 167772162 134744072 z))(hnw:nw≤9)(hz:∀W,KG base w W→TX W)(hsq:0≤sq∧sq≤4294967295)(hak:0≤ak∧ak≤4294967295)(hgz:6≤w.heap.size):
  Calls Tryz.prog 7 #[.pointer (some ⟨g,0,none⟩),.int .i64 nw,.int .i64 0,sb] w fun e w'=>TpQ base w w' nw s.now (rF nnP) (fun n v y W=>(∃f2 hb,VF base g W f2 hb nnP 1 wsP [] [] [] [] n (0+1+1+1+1))∧TG 16909060 134744072 nnP 21 sq ak 2 [] y) e:=by
 have hn9:=zIm;have hqb:TuB (rF nnP):=by unfold TuB rF;simp;omega
 refine(zGy 457 (fun hb=> .pointer (some ⟨hb,0,none⟩)) 356 zJg zGx base g s 0 nw false (rF nnP) 167772162 134744072 5555 21 sq ak 2 [] z sb (fun n v fb f2 hb2 W=>f2.blk=fb∧oth f2 false=rF nnP∧VF base g W f2 hb2 nnP 1 wsP [] [] [] [] n (0+1+1+1+1)) (fun n v y W=>(∃f2 hb,VF base g W f2 hb nnP 1 wsP [] [] [] [] n (0+1+1+1+1))∧TG 16909060 134744072 nnP 21 sq ak 2 [] y) w hG hbs hT (by simp) nI hI (by omega) (by omega) (.inl rfl) hqb rfl ⟨hS.now.1,by have:=hS.now.2;omega⟩ (by rw[hS.ex];exact⟨by simp,fun _ _=>rfl⟩) (fun n hn=>by rw[hS.rw];exact zGs [] n (by simp)) (by rw[hS.rw];exact Nat.le_trans (zM6 [] 0 (by simp)) (by omega)) (fun W k=>(hz W k).1) ?hOW ?hOF ?hOL ?hCH ?hCS ?hCL ?hCT).mono (fun e w' h=>h)
 case hOW=>
  intro n v W so sd k hn hn1 hn2 hg hd
  have hS2:=hS.ltr n v ⟨hn.1,by have:=hS.now.2;omega⟩
  have hR:RdF (ltr s n v) 167772162 134744072 5555 21 mqR TQP:=⟨by show okL s.ls;rw[hS.ls];exact mq_okP,by show s.ls.find? _=_;rw[hS.ls];exact mq_fdP,by omega,by omega,by omega,by omega,by decide,rfl,by show kx _ _ _ _ _ s.rw=_;rw[hS.rw];rfl,fun m ps pe cp _=>by show kx _ _ _ _ _ s.rw=_;rw[hS.rw];rfl,by show s.fs.length<64;rw[hS.fs];decide,by omega,by show 0≤s.trn∧s.trn≤900000;rw[hS.trn];omega,hn,by show 0≤s.bg∧s.bg≤1000000;rw[hS.bg];omega,(fun y hy=>by
   have hy':y∈s.fs:=hy;rw[hS.fs]at hy';cases hy'),by show 0≤s.cnt∧s.cnt≤1000;rw[hS.cnt];omega,fun i=>by show(s.rw i).length≤4000;rw[hS.rw];exact Nat.le_trans (zM5 [] i) (by simp)⟩
  have hTK:Tk6 base W g (ltr s n v) 5555 mqR TQP:=fun W2 hg2 k2=>by
   have K:=k.trans k2
   refine(zUa base g (ltr s n v) 6 16909060 5555 W2 hg2 hS2.ps (by rw[hS2.lo];omega) (by rw[hS2.lo,hS2.hi];omega) (by rw[hS2.hi];omega) (by omega) (Nat.le_trans hbs K.size) (fun V hV=>(hz V (K.trans (KG.of_but hV (fun q e=>by
    have e':q=s.gp:=e;rw[e']
    exact⟨hg2.bf.2,fun ob ho=>by
     have hp:=hg2.pl;have hp':W2.heap[s.gp]? =some (.map s.pe s.cp):=hp;rw[hp']at ho;cases ho
     exact trivial⟩)))).2.1) (Nat.le_trans hgz K.size)).mono ?_
   rintro e w' ⟨b,rfl,hb,hbs2,hG2⟩;have hlo:(ltr s n v).lo=1000:=hS2.lo;have hhi:(ltr s n v).hi=1063:=hS2.hi;rw[hlo,hhi]at hG2⊢;exact⟨nnP,[⟨6,16909060,b,wsP⟩],_,_,rfl,⟨hb.os,hb.tape,hb.output,hb.size,fun i hi he=>hb.block i hi (fun q=>he (.inl q))⟩,hG2,by omega,rfl,b,rfl⟩
  refine(owner_F base g (ltr s n v) 0 0 64 167772162 134744072 false so sd z 167772162 134744072 5555 21 mqR TQP W hg hR (Nat.le_trans hbs k.size) hTK hT.by_ hd (by have:=hT.len;simp at this;omega) (by omega) (by omega) hT.ok (by rw[hT.fl];decide)).mono ?_;rintro e w2 ⟨f,hb,m,ps,pe,cp,hfb,rfl,k2,q1,q2,q3,q4,q5,q6,hg2,⟨rfl,hps⟩,hm,⟨hHV,hVB⟩,hHN⟩;obtain⟨r1,r2⟩:=F1.first hS2 q1 q2 q3 q4 q5 (pe:=pe) (cp:=cp) hps
  exact⟨f.at 1 ((ltr s n v).now+120),hb,rfl,k2,rfl,by show oth f false=_;unfold oth;rw[q3];rfl,⟨_,hg2,r1,rfl,r2⟩,q6,hHN.toS,hHV,hVB⟩
 case hOF=>
  rintro n v fb f2 hb2 W ⟨rfl,h3,hv⟩;obtain⟨s2,hg2,hS2,_⟩:=hv.gf;exact⟨rfl,(hg2.fb f2 (by rw[hS2.fs];simp)).2,h3,hv.hp⟩
 case hOL=>
  rintro n v fb f2 hb2 A B ⟨h1,h3,hv⟩ l;exact⟨h1,h3,hv.later l⟩
 case hCH=>
  rintro n v fb f2 hb2 n1 W so sd ao co ad cd hw1 hw2 k ⟨rfl,h3,hv⟩ ho hd;exact chgN hT (rF nnP) hqb (by simp) Mt.By.nil hsq hak hsq hak (by omega) g hb2 f2 [] [] [] (by simp) (by simp) (fun W=>∃f2 hb,VF base g W f2 hb nnP 1 wsP [] [] [] [] n (0+1+1+1+1)∧hb=hb2) 167772162 134744072 0 (.inl rfl) (.inl ⟨rfl,rfl,by unfold zGv;rw[if_neg (by decide)]⟩) so sd false (zDh _) 6 167772162 134744072 5555 21 6 (rF nnP).dst (rF nnP).src (rF nnP).dp (rF nnP).sp ao ad co cd W (fun V l=>(hz V (k.trans (KG.of_later l))).2.2.1) ⟨f2,hb2,hv,rfl⟩ (fun A B ⟨f3,hb3,h5,h6⟩ l=>⟨f3,hb3,h5.later l,h6⟩) (fun A B k cur t fz ⟨f3,hb3,h5,h6⟩ hk ht hB=>⟨f3,hb3,h5.aside hk ht hB,h6⟩) (fun V ⟨f3,hb3,h5,h6⟩=>h6▸h5.hn) ⟨by omega,hw2⟩ ho hd|>.mono (fun e w' ⟨zd2,ao2,co2,ad2,cd2,q1,q2,q3,q4,⟨f3,hb3,h5,_⟩,q6⟩=>⟨zd2,ao2,co2,ad2,cd2,q1,q2,q3,q4,⟨f3,hb3,h5⟩,q6⟩)
 case hCS=>
  rintro n v y A B k cur t fz ⟨⟨f3,hb3,h5⟩,h6⟩ hk ht hB;exact⟨⟨f3,hb3,h5.aside hk (by rcases ht with h|h;exact .inl h;exact .inr (.inl h)) hB⟩,h6⟩
 case hCL=>
  rintro n v y W ⟨_,h6⟩;have:=h6.len
  simp at this
  omega
 case hCT=>
  rintro n v y A B ⟨⟨f3,hb3,h5⟩,h6⟩ l;exact⟨⟨f3,hb3,h5.later l⟩,h6⟩
theorem zJ2(first was:Int)(tl:Nat)(ta:Option Addr)(tc:Nat)(hf:0≤first∧first≤4294967295)(hw:1≤was∧was≤100)(ht:1≤tl∧tl≤100):
  zD0 [npP [] ((first+5) % 4294967296) was tl ta tc] first=first∧zD0 [npP [] ((first+5) % 4294967296) was tl ta tc] ((first+(5+was+2)) % 4294967296)=(first+(5+(tl:Int)+2)) % 4294967296:=by
 unfold zD0 npP shf;simp only[List.reverse_cons,List.reverse_nil,List.nil_append,List.isEmpty_nil,if_true];unfold acr bhd ahd;simp only;constructor
 ·rw[if_pos (by simp;omega)]
  rfl
 ·rw[if_neg (by simp;omega),if_neg (by simp;omega)]
  omega
theorem add_ok(s was:Int)(tl:Nat)(hw:1≤was∧was≤100)(ht:1≤tl∧tl≤100):adS [] s was tl=0:=by
 unfold adS okN pssd;simp
 omega
def m2P (p:Nat):Nat:=tkn 1001 1063 p
theorem zG9(p:Nat):1001≤m2P p∧m2P p≤1063:=zT9 (by omega)
theorem nnP_is:nnP=1000:=by unfold nnP tkn;rw[if_neg (by omega)]
theorem els_same {ws ws':Nat→Nat} (h:∀m,m<65536→fr ws m=fr ws' m):els ws=els ws':=by
 rw[zT7,zT7];exact List.filter_congr (fun x hx=>h x (by simpa using hx))
theorem wsP_fr(m:Nat):fr wsP m=fr (zFb (zC1 1001 1063)) m:=by
 unfold wsP wsR;rw[zTz,zPn 1000 1063 m (by omega),zPn 1001 1063 m (by omega),nnP_is];by_cases h:m=1000
 ·subst h;decide
 ·simp only[h,decide_false,Bool.not_false,Bool.and_true,decide_eq_decide]
  omega
theorem zNt(p:Nat):fsb (fr wsP p) (els wsP)=true∧fsn (fr wsP p) p (els wsP)=m2P p:=by
 rw[els_same (fun m _=>wsP_fr m),wsP_fr p];exact⟨(zM3 1001 1063 p (by omega) (by omega)).2,(zM3 1001 1063 p (by omega) (by omega)).1⟩
def zL (p:Nat):List Int:=[80,79,82,84,32]++(zBe (zB0 1 167772162 p)++[13,10])
def tL (p:Nat):List Int:=zBe (zB0 1 16909060 (m2P p))
def wL (p:Nat):Int:=(zBe (zB0 1 167772162 p)).length
def yL (p:Nat):List Int:=[80,79,82,84,32]++(tL p++[13,10])
theorem yL_rpl(p:Nat):rpl 5 (5+wL p) (zL p) (tL p)=yL p:=by
 unfold rpl wL zL yL;rw[if_neg (by simp;omega),show((5:Int)+((zBe (zB0 1 167772162 p)).length:Int)).toNat=([80,79,82,84,32]++zBe (zB0 1 167772162 p):List Int).length by simp;omega,show([80,79,82,84,32]++(zBe (zB0 1 167772162 p)++[13,10]):List Int)=([80,79,82,84,32]++zBe (zB0 1 167772162 p))++[13,10] by simp,List.drop_left];simp
theorem zD2:Mt.By [80,79,82,84,32]:=by unfold Mt.By;decide
theorem zDi(a:Int)(ha:0≤a∧a≤4294967295)(n:Nat)(hn:0<n)(hn2:n≤65535):zDt ([80,79,82,84,32]++(zBe (zB0 1 a n)++[13,10])) false=fdY 1 5 (5+((zBe (zB0 1 a n)).length:Int)) a n∧Kd1 ([80,79,82,84,32]++(zBe (zB0 1 a n)++[13,10])) false:=by
 have h1:=zLp 1 a ha n hn2;rw[zD3,show([80,79,82,84,32]++(txt 1 a n++[13,10]):List Int)=([80,79,82,84,32]++(txt 1 a n++[]))++[13,10] by simp];have hk:kdV ([80,79,82,84,32]++(txt 1 a n++[])) 0 false=(1,5):=by unfold kdV;rw[if_pos rfl,if_pos (by rw[zCo (by decide)];decide+kernel)]
 have hw:=zV3 a ha n (by omega);have hby:Mt.By (ad4 a++po2 n):=zB1 (zD1 a ha) (zP6 n (by omega));have hr:=zQb 44 (by decide) (ad4 a++po2 n) 0 [80,79,82,84,32] [] zD2 Mt.By.nil hby (by decide);rw[zV6,←zJ1 1 a n (by omega) (by omega)]at hr
 have hz:zJ5 (([80,79,82,84,32]++(txt 1 a n++[]))++[13,10])=true:=by
  rw[oneL_mk,zJw,zJw,zQf (txt_cr 1 a n)];simp
  constructor<;>first|omega|decide
 have ht:(([80,79,82,84,32]++(txt 1 a n++[]))++[13,10]:List Int).take ((([80,79,82,84,32]++(txt 1 a n++[]))++[13,10]:List Int).length-2)=[80,79,82,84,32]++(txt 1 a n++[]):=by
  rw[show ((([80,79,82,84,32]++(txt 1 a n++[]))++[13,10]:List Int).length-2)=([80,79,82,84,32]++(txt 1 a n++[]):List Int).length by simp,List.take_left]
 refine⟨?_,fun _=> ?_⟩
 ·unfold zDt
  rw[if_pos hz,ht,hk,if_pos rfl];unfold fd1 sixO;rw[show cma=⟨#[44]⟩from rfl];have hr':zFe ([80,79,82,84,32]++(txt 1 a n++[])) ⟨#[44]⟩ 6 0 5=_:=hr;rw[hr'];simp only;rw[if_pos ⟨by rw[hw.2];omega,by simp;omega⟩,hw.1,hw.2];simp
 ·rw[ht,hk]
  exact⟨.inr rfl,by simp⟩
theorem zNu(p:Nat)(h:p≤65535):1≤wL p∧wL p≤40:=by
 have h8:=zLp 1 167772162 (by omega) p h;have h9:=zWb 1 167772162 p;rw[←zD3]at h8 h9;unfold wL;omega
theorem zWe(p:Nat):1≤(tL p).length∧(tL p).length≤40:=by
 have hm:=zG9 p;have h8:=zLp 1 16909060 (by omega) (m2P p) (by omega);have h9:=zWb 1 16909060 (m2P p);rw[←zD3]at h8 h9;unfold tL;omega
theorem zLq(p:Nat):((zL p).length:Int)=5+wL p+2:=by
 unfold zL wL;rw[List.length_append,List.length_append];simp
 omega
theorem zIn(p:Nat):Mt.By (zL p):=zB1 (by unfold Mt.By;decide) (zB1 (zJs _) zNi)
theorem zC0(p:Nat)(h0:0<p)(h:p≤65535):(zDt (zL p) false=fdY 1 5 (5+wL p) 167772162 p∧Kd1 (zL p) false)∧(zDt (yL p) false=fdY 1 5 (5+((tL p).length:Int)) 16909060 (m2P p)∧Kd1 (yL p) false)∧(yL p).length=5+(tL p).length+2∧Mt.By (yL p):=by
 have hm:=zG9 p;refine⟨zDi 167772162 (by omega) p h0 h,zDi 16909060 (by omega) (m2P p) (by omega) (by omega),?_,zB1 zD2 (zB1 (zJs _) zNi)⟩;unfold yL;simp
 omega
theorem unm_line(was:Int)(tl:Nat)(ta:Option Addr)(tc:Nat)(hw:1≤was∧was≤100)(ht:1≤tl∧tl≤100):
  zJd [npP [] 105 was tl ta tc] (100+(5+(tl:Int)+2))=100+(5+was+2):=by
 unfold zJd npP shf;simp only[List.reverse_cons,List.reverse_nil,List.nil_append,List.isEmpty_nil,if_true];unfold acr bhd ahd;simp only;rw[if_neg (by simp;omega),if_neg (by simp;omega)];omega
theorem add_book(p:Nat)(h0:0<p)(h:p≤65535)(now id:Int)(hn:0≤now∧now≤549755813888)(hi:id=0):zJ6 [] ⟨6,134744072,16909060,0,m2P p,167772162,p,id,now+60⟩=0:=by
 have hm:=zG9 p;subst hi
 have h1:rtX ⟨6,134744072,16909060,0,m2P p,167772162,p,0,now+60⟩=true:=by
  unfold rtX crX;simp
  omega
 unfold zJ6;rw[if_neg (by rw[h1];simp),if_neg (by simp),if_neg (by simp[ownN])]
def paL (p:Nat) (ta:Option Addr) (tc:Nat):Pa:=npP [] 105 (wL p) (tL p).length ta tc
def xL (p:Nat) (dl:Int):Ex:=⟨6,134744072,16909060,0,m2P p,167772162,p,0,dl⟩
def VL (base g:Nat) (W:World) (f:Fl) (hb p:Nat) (dl:Int) (ta:Option Addr) (tc:Nat) (now tr:Int):Prop:=VF base g W f hb nnP 3 (wsR wsP (m2P p)) [xL p dl] [paL p ta tc] [] (tL p) now tr
theorem VF.expect {base g:Nat} {w w':World} {f:Fl} {hb p:Nat} {now tr:Int} {s:Gf} (h:VF base g w f hb nnP 3 wsP [] [] [] [] now tr) {b1 pb:Nat} {v1:Value} {l1:List Pa} {e:Ending} (hS:F1 s f nnP 3 wsP [])(hsn:s.now=now)(hst:s.trn=tr)(hn0:0≤now)(hps:s.ps=[⟨6,16909060,pb,wsP⟩])(hl1:l1=[])(hbb:base≤hb)(hQ:FxQ base g hb b1 v1 [] l1 s pb (m2P p) wsP ⟨6,134744072,16909060,0,m2P p,167772162,p,f.id,s.now+60⟩ 105 (wL p) (tL p) w w' e):
  ∃ta tc,VL base g w' f hb p (now+60) ta tc now tr:=by
 obtain⟨xa,xc,_,_,hK,⟨b,v,hG⟩,b0,v0,ta,tc,hC,h0,h1,hO⟩:=hQ;have hid:=hS.id;rw[hS.ex,hid,hsn]at hG;subst hl1;refine⟨ta,tc,⟨_,hG,⟨hS.fs,hS.rw,hS.id,hS.o,hS.r,hS.sd,hS.ms,hS.st,rfl,⟨by simp,by simp[xL];omega⟩,hS.cnt,hS.trn,hS.bg,hS.lo,hS.hi,hS.now,⟨pb,rfl⟩,hS.n9,hS.es,hS.ls⟩,hsn,hst⟩,h.hp,⟨b0,b1,v0,v1,hbb,hC,h0,h1,fun q hq=> ?_⟩,FxQ.hv (nn:=nnP) (f:=f) hK h.hv,h.vb⟩;have e:q=npP [] 105 (wL p) (tL p).length ta tc:=List.mem_singleton.1 hq;rw[e];exact hO
theorem zNv(p:Nat)(h:p≤65535):IntKind.i64.wrap (5+wL p-5)=wL p:=by
 have:=zNu p h;rw[show 5+wL p-5=wL p by omega];exact zMx _ (by omega) (by omega)
theorem chgL {base n1:Nat} {p:Nat} (hp0:0<p)(hp9:p≤65535) {z:List Int} (hT0:TG 167772162 134744072 5555 21 100 1000 24 (zL p) z)(q:Tu)(hq:TuB q)(g hb:Nat)(f:Fl)(src dst:Int)(so sd:Value)(i3 i4:Int)(ao ad:Option Addr)(co cd:Nat)(now tr:Int)(W:World)(hn9:0≤now∧now≤9)(hgz:6≤base)(hz:∀V,KG base W V→TX V)
  (hV:VF base g W f hb nnP 3 wsP [] [] [] [] now tr)(hn:base≤n1∧n1≤W.heap.size)
  (hO:Ow n1 W (.slice ao 0 co) [])(hD:Ow n1 W (.slice ad z.length cd) (rwD 6 q.dst q.src q.dp q.sp z)):
  Calls Tryz.prog 356 #[.pointer (some ⟨hb,0,none⟩),.agg #[.pointer (some ⟨g,0,none⟩),.int .u8 0,.int .u16 0,.bool false,.int .u8 64,.int .u8 6,.int .u32 src,.int .u32 dst,so,sd,.int .i64 0,.pointer (some ⟨f.blk,0,none⟩),.bool false,.int .u8 6,.int .u32 167772162,.int .u32 134744072,.int .u16 5555,.int .u16 21,.int .u8 6,.int .u32 16909060,.int .u32 134744072,.int .u16 i3,.int .u16 i4],.agg #[.int .u8 0,.int .u16 0,.bool false,.int .u8 64,.int .u8 6,.int .u32 q.dst,.int .u32 q.src,.slice ao 0 co,.slice ad z.length cd]] W fun e w'=>ChT base n1 W w' 0 0 64 6 q false [] (fun y W'=>(∃ta tc,VL base g W' f hb p (now+60) ta tc now tr)∧TG q.dst q.src q.dp q.sp 100 1000 24 (yL p) y) e:=by
 obtain⟨hf1,hf2,hf3,hf4⟩:=zC0 p hp0 hp9;have hw:=zNu p hp9;have ht:=zWe p;have hzl:=zLq p;have htk:=zNt p;have hm:=zG9 p;have htop:=fun ta tc=>zJ2 100 (wL p) (tL p).length ta tc (by omega) (by omega) (by omega);refine zJj hT0 q hq (by omega) (by omega) (zIn p) hf4 (by omega) (by omega) (by omega) (by omega) (by omega) g hb f.blk (fun V=>VF base g V f hb nnP 3 wsP [] [] [] [] now tr∧KG base W V) (fun V=>∃ta tc,VL base g V f hb p (now+60) ta tc now tr) src dst 0 so sd false 6 167772162 134744072 5555 21 6 16909060 134744072 i3 i4 ao ad co cd W ⟨hV,KG.of_later (Later.refl _)⟩ (fun A B h l=>⟨h.1.later l,h.2.trans (KG.of_later l)⟩) (fun A B ⟨ta,tc,h⟩ l=>⟨ta,tc,h.later l⟩) (fun A B k cur t fz ⟨ta,tc,h⟩ hk ht hB=>⟨ta,tc,h.aside hk (by rcases ht with h|h;exact .inl h;exact .inr (.inr h)) hB⟩) (fun V ⟨ta,tc,h⟩=>HfS.st h.hn (by simp) (by simp) (.inl ⟨rfl,(htop ta tc).1,by unfold zGv;split<;>rfl⟩)) hn hO hD ?_;intro V n0 aO cO am cm l hV0 hn0 hn0V hm
 obtain⟨hV0,hk0⟩:=hV0;obtain⟨s,hG,hS,hsn,hst⟩:=hV0.gf;obtain⟨pb,hps⟩:=hS.ps;obtain⟨b0,b1,v0,v1,hbb,hC,h0,h1,_⟩:=hV0.hn;have hpb:=(hG.pb ⟨6,16909060,pb,wsP⟩ (by rw[hps];simp)).1;refine zP9 base n0 g hb b0 b1 f false false (zL p) (tL p) (yL p) (5+wL p) p (wL p) src dst so sd 6 134744072 5555 21 6 16909060 134744072 i3 i4 q.dp q.sp 1000 24 0 0 aO am cO cm (fun V=>∃ta tc,VL base g V f hb p (now+60) ta tc now tr) V hC (zIn p) (by omega) (by omega) hf1 (by omega) (zNv p hp9) (yL_rpl p) hn0V hm (fun U lu=>(hz U (hk0.trans (KG.of_later lu))).2.2.1) (fun A B ⟨ta,tc,h⟩ l=>⟨ta,tc,h.later l⟩) (fun U lu=>(zRw base b0 v0 105 (wL p) U (h0.later lu)).mono (fun e w' ⟨h,h'⟩=>⟨h'▸Later.refl _,none,0,0,h,fun h=>by cases h⟩)) (fun _ U lu=> ?_);refine(zNq base g hb b0 b1 v0 v1 [] [] s f pb (m2P p) p wsP 1 5 (5+wL p) 167772162 105 (wL p) src dst so sd false 6 167772162 134744072 5555 21 134744072 i3 i4 (tL p) U (hG.later lu) (by rw[hS.fs];simp) hps (Nat.le_trans hgz hpb) (by have:=lu.size;omega) hbb (zAb lu hC) (h0.later lu) (h1.later lu) (by simp) (by decide) (by omega) (by omega) (zNv p hp9) (by omega) htk.1 htk.2 (by omega) rfl (add_ok 105 (wL p) _ (by omega) (by omega)) (by rw[hS.ex];simp) (by rw[hS.ex];exact add_book p hp0 hp9 s.now f.id (by omega) hS.id) (fun X k=>hz X (hk0.trans ((KG.of_later lu).trans k)))).mono ?_;intro e w' hQ
 obtain⟨ta,tc,hVL⟩:=(hV0.later lu).expect hS hsn hst hn9.1 hps rfl hbb hQ;obtain⟨xa,xc,he,hR,hK,_⟩:=hQ;exact⟨xa,xc,he,hR,FxQ.kgl hbb hK,ta,tc,hVL⟩
theorem chgL2 {base n1:Nat} {p:Nat} (hp0:0<p)(hp9:p≤65535) {z:List Int} (hT0:TG 167772162 134744072 5555 21 100 1000 24 (zL p) z)(q:Tu)(hq:TuB q)(g hb:Nat)(f:Fl)(dl:Int)(ta:Option Addr)(tc:Nat)(VQ:World→Prop)(src dst:Int)(so sd:Value)(i3 i4:Int)(ao ad:Option Addr)(co cd:Nat)(W:World)(hz:∀V,KG base W V→TX V)
  (hV:VQ W)(hVL:∀A B,VQ A→Later A B→VQ B)(hVS:∀(A B:World) (k:Nat) (cur:Array Value) (t:TypeId) (fz:Nat × Nat),VQ A→A.heap[k]? =some (.cells cur t fz)→AsT t→But (fun q=>q=k) A B→VQ B)(hVH:∀V,VQ V→HfS base V hb [paL p ta tc] [] (tL p))(hn:base≤n1∧n1≤W.heap.size)
  (hO:Ow n1 W (.slice ao 0 co) [])(hD:Ow n1 W (.slice ad z.length cd) (rwD 6 q.dst q.src q.dp q.sp z)):
  Calls Tryz.prog 356 #[.pointer (some ⟨hb,0,none⟩),.agg #[.pointer (some ⟨g,0,none⟩),.int .u8 0,.int .u16 0,.bool false,.int .u8 64,.int .u8 6,.int .u32 src,.int .u32 dst,so,sd,.int .i64 0,.pointer (some ⟨f.blk,0,none⟩),.bool false,.int .u8 6,.int .u32 167772162,.int .u32 134744072,.int .u16 5555,.int .u16 21,.int .u8 6,.int .u32 16909060,.int .u32 134744072,.int .u16 i3,.int .u16 i4],.agg #[.int .u8 0,.int .u16 0,.bool false,.int .u8 64,.int .u8 6,.int .u32 q.dst,.int .u32 q.src,.slice ao 0 co,.slice ad z.length cd]] W fun e w'=>ChT base n1 W w' 0 0 64 6 q false [] (fun y W'=>VQ W'∧TG q.dst q.src q.dp q.sp 100 1000 24 (yL p) y) e:=by
 obtain⟨hf1,hf2,hf3,hf4⟩:=zC0 p hp0 hp9;have hw:=zNu p hp9;have ht:=zWe p;have hzl:=zLq p;have htop:=zJ2 100 (wL p) (tL p).length ta tc (by omega) (by omega) (by omega);refine zJj hT0 q hq (by omega) (by omega) (zIn p) hf4 (by omega) (by omega) (by omega) (by omega) (by omega) g hb f.blk (fun V=>VQ V∧KG base W V) VQ src dst 0 so sd false 6 167772162 134744072 5555 21 6 16909060 134744072 i3 i4 ao ad co cd W ⟨hV,KG.of_later (Later.refl _)⟩ (fun A B h l=>⟨hVL _ _ h.1 l,h.2.trans (KG.of_later l)⟩) hVL (fun A B k cur t fz h hk ht hB=>hVS A B k cur t fz h hk (by rcases ht with h|h;exact .inl h;exact .inr (.inr h)) hB) (fun V h=>(hVH V h).st (by simp) (by simp) (.inl ⟨rfl,htop.1,by unfold zGv;split<;>rfl⟩)) hn hO hD ?_;intro V n0 aO cO am cm l hV0 hn0 hn0V hm
 obtain⟨hV0,hk0⟩:=hV0;obtain⟨b0,b1,v0,v1,hbb,hC,h0,h1,htx⟩:=hVH V hV0;refine zP9 base n0 g hb b0 b1 f true false (zL p) (tL p) (yL p) (5+wL p) p (wL p) src dst so sd 6 134744072 5555 21 6 16909060 134744072 i3 i4 q.dp q.sp 1000 24 0 0 aO am cO cm VQ V hC (zIn p) (by omega) (by omega) hf1 (by omega) (zNv p hp9) (yL_rpl p) hn0V hm (fun U lu=>(hz U (hk0.trans (KG.of_later lu))).2.2.1) hVL (fun U lu=>(zVr base b0 v0 (paL p ta tc) 105 (wL p) (tL p) U (h0.later lu) rfl rfl (by omega) (by omega) ((htx _ (by simp)).later lu) (by omega)).mono (fun e w' ⟨l2,av,cv,he,ho⟩=>⟨l2,av,_,cv,he,fun _=>⟨rfl,ho.rd,hVL _ _ hV0 (lu.trans l2)⟩⟩)) (fun h=>by cases h)
theorem passL(base g:Nat)(f:Fl)(hb p:Nat)(now tr nw:Int)(z:List Int)(sb:Value)(w:World)(hp0:0<p)(hp9:p≤65535)(h:VF base g w f hb nnP 3 wsP [] [] [] [] now tr)(hgz:6≤base)(hbs:base≤w.heap.size)(hT:TG 167772162 134744072 5555 21 100 1000 24 (zL p) z)(nI:Nat)(hI:Ow nI w sb (tgB 64 167772162 134744072 z))(hnw:nw≤9)(hn0:0≤now∧now≤9)(htr:tr≤98)(hz:∀W,KG base w W→TX W):
  Calls Tryz.prog 7 #[.pointer (some ⟨g,0,none⟩),.int .i64 nw,.int .i64 0,sb] w fun e w'=>TpQ base w w' nw now (rF nnP) (fun n v y W=>(∃f2 ta tc dl,f2.blk=f.blk∧60≤dl∧VL base g W f2 hb p dl ta tc n (tr+1+1))∧TG 16909060 134744072 nnP 21 100 1000 24 (yL p) y) e:=by
 have hw:=zNu p hp9;have hzl:=zLq p;have ht:=zWe p;obtain⟨_,_,hyl,_⟩:=zC0 p hp0 hp9;have hn9:=zIm;refine passF base g f hb nnP 3 3 wsP [] [] [] [] now tr nw 0 false (rF nnP) 167772162 134744072 5555 21 100 1000 24 (zL p) z sb w (fun n y W=>(∃f2 ta tc dl,f2.blk=f.blk∧60≤dl∧VL base g W f2 hb p dl ta tc n (tr+1+1))∧TG 16909060 134744072 nnP 21 100 1000 24 (yL p) y) h hbs hT (by omega) nI hI (.inr ⟨rfl,rfl⟩) rfl rfl hnw htr (by decide) (by omega) (by decide) (fun W k=>(hz W k).1) ?hCH ?hCS ?hCL ?hCT
 case hCH=>
  intro n f2 n1 W so sd ao co ad cd hn1 hn2 hw1 hw2 k hfb hv ho hd
  rw[←hfb];refine(chgL hp0 hp9 hT (rF nnP) (zVo hn9) g hb f2 167772162 134744072 so sd nnP 21 ao ad co cd n (tr+1+1) W (by omega) hgz (fun V kv=>hz V (k.trans kv)) hv ⟨by omega,hw2⟩ ho hd).mono ?_;rintro e w' ⟨zd2,ao2,co2,ad2,cd2,q1,q2,q3,q4,⟨ta,tc,h5⟩,q6⟩;exact⟨zd2,ao2,co2,ad2,cd2,q1,q2,q3,q4,⟨f2,ta,tc,n+60,rfl,by omega,h5⟩,q6⟩
 case hCS=>
  rintro n y A B k cur t fz ⟨⟨f3,ta,tc,dl,e3,hdl,h5⟩,h6⟩ hk ht hB;exact⟨⟨f3,ta,tc,dl,e3,hdl,h5.aside hk (by rcases ht with h|h;exact .inl h;exact .inr (.inl h)) hB⟩,h6⟩
 case hCL=>
  rintro n y W ⟨_,h6⟩;have:=h6.len;omega
 case hCT=>
  rintro n y A B ⟨⟨f3,ta,tc,dl,e3,hdl,h5⟩,h6⟩ l;exact⟨⟨f3,ta,tc,dl,e3,hdl,h5.later l⟩,h6⟩
theorem passL2(base g:Nat)(f:Fl)(hb p:Nat)(dl:Int)(ta:Option Addr)(tc:Nat)(now tr nw:Int)(z:List Int)(sb:Value)(w:World)(hp0:0<p)(hp9:p≤65535)(h:VL base g w f hb p dl ta tc now tr)(hbs:base≤w.heap.size)(hT:TG 167772162 134744072 5555 21 100 1000 24 (zL p) z)(nI:Nat)(hI:Ow nI w sb (tgB 64 167772162 134744072 z))(hnw:nw≤9)(htr:tr≤98)(hz:∀W,KG base w W→TX W):
  Calls Tryz.prog 7 #[.pointer (some ⟨g,0,none⟩),.int .i64 nw,.int .i64 0,sb] w fun e w'=>TpQ base w w' nw now (rF nnP) (fun n v y W=>(∃f2,f2.blk=f.blk∧VL base g W f2 hb p dl ta tc n (tr+1+1))∧TG 16909060 134744072 nnP 21 100 1000 24 (yL p) y) e:=by
 have hw:=zNu p hp9;have hzl:=zLq p;have ht:=zWe p;obtain⟨_,_,hyl,_⟩:=zC0 p hp0 hp9;have hn9:=zIm;refine passF base g f hb nnP 3 3 (wsR wsP (m2P p)) [xL p dl] [paL p ta tc] [] (tL p) now tr nw 0 false (rF nnP) 167772162 134744072 5555 21 100 1000 24 (zL p) z sb w (fun n y W=>(∃f2,f2.blk=f.blk∧VL base g W f2 hb p dl ta tc n (tr+1+1))∧TG 16909060 134744072 nnP 21 100 1000 24 (yL p) y) h hbs hT (by omega) nI hI (.inr ⟨rfl,rfl⟩) rfl rfl hnw htr (by decide) (by omega) (by decide) (fun W k=>(hz W k).1) ?hCH ?hCS ?hCL ?hCT
 case hCH=>
  intro n f2 n1 W so sd ao co ad cd hn1 hn2 hw1 hw2 k hfb hv ho hd
  rw[←hfb];exact chgL2 hp0 hp9 hT (rF nnP) (zVo hn9) g hb f2 dl ta tc (fun W=>∃f3,f3.blk=f2.blk∧VL base g W f3 hb p dl ta tc n (tr+1+1)) 167772162 134744072 so sd nnP 21 ao ad co cd W (fun V kv=>hz V (k.trans kv)) ⟨f2,rfl,hv⟩ (fun A B ⟨f3,e3,h5⟩ l=>⟨f3,e3,h5.later l⟩) (fun A B k cur t fz ⟨f3,e3,h5⟩ hk ht hB=>⟨f3,e3,h5.aside hk ht hB⟩) (fun V ⟨f3,e3,h5⟩=>h5.hn) ⟨by omega,hw2⟩ ho hd
 case hCS=>
  rintro n y A B k cur t fz ⟨⟨f3,e3,h5⟩,h6⟩ hk ht hB;exact⟨⟨f3,e3,h5.aside hk (by rcases ht with h|h;exact .inl h;exact .inr (.inl h)) hB⟩,h6⟩
 case hCL=>
  rintro n y W ⟨_,h6⟩;have:=h6.len;omega
 case hCT=>
  rintro n y A B ⟨⟨f3,e3,h5⟩,h6⟩ l;exact⟨⟨f3,e3,h5.later l⟩,h6⟩
theorem zWf(o r:Tu)(i sd st0 tl0 ms:Int)(w:World)(hp:o.pr=6)(h1:r.sp≠21)(h2:sd=1):
  Calls Tryz.prog 313 #[.agg #[.int .i64 i,.int .u8 o.pr,.int .u32 o.src,.int .u32 o.dst,.int .u16 o.sp,.int .u16 o.dp,.int .u8 r.pr,.int .u32 r.src,.int .u32 r.dst,.int .u16 r.sp,.int .u16 r.dp,.int .i64 sd,.int .i64 st0,.int .i64 tl0,.int .i64 ms]] w fun e w'=>e= .returned noh∧Later w w':=by
 have l0:=zAg w (.cells #[.int .i64 i,.int .u8 o.pr,.int .u32 o.src,.int .u32 o.dst,.int .u16 o.sp,.int .u16 o.dp,.int .u8 r.pr,.int .u32 r.src,.int .u32 r.dst,.int .u16 r.sp,.int .u16 r.dp,.int .i64 sd,.int .i64 st0,.int .i64 tl0,.int .i64 ms] 106);have C0:=zAd (heap_alloc_new w (.cells #[.int .i64 i,.int .u8 o.pr,.int .u32 o.src,.int .u32 o.dst,.int .u16 o.sp,.int .u16 o.dp,.int .u8 r.pr,.int .u32 r.src,.int .u32 r.dst,.int .u16 r.sp,.int .u16 r.dp,.int .i64 sd,.int .i64 st0,.int .i64 tl0,.int .i64 ms] 106));have HP:=zAd hp;have h3:(r.sp==21)=false:=by simp[h1]
 obtain⟨b4,h4⟩:∃b,(r.sp==1723)=b:=⟨_,rfl⟩;subst h2;clear hp h1;go_enter Tryz.func313,Tryz.ntmps313;go_upto_region 1 with fail;generalize w.alloc _=w1 at*;generalize w.heap.size=gx at*;have k0:=zAa C0.out;rw[HP.out]at k0;cases b4
 ·go_wp2_with fail
  go_ret
  exact⟨rfl,l0⟩
 ·go_wp2_with fail
  go_ret
  exact⟨rfl,l0⟩
def HpO (base:Nat) (p:Int) (v:Value) (W:World):Prop:=(p≠21∧v=noh)∨(p=21∧∃hb,v=hft hb∧HfN base W hb)
theorem HpO.kg {base:Nat} {p:Int} {v:Value} {A B:World} (h:HpO base p v A)(k:KG base A B):HpO base p v B:=by
 rcases h with h|⟨h,hb,e,h2⟩
 ·exact .inl h
 ·exact .inr ⟨h,hb,e,h2.kg k⟩
def OpO (base:Nat) (w w':World) (g:Nat) (s:Gf) (o r:Tu) (sd ms:Int) (hv:Value) (e:Ending):Prop:=∃f:Fl,w.heap.size≤f.blk∧e= .returned (.pointer (some ⟨f.blk,0,none⟩))∧KG base w w'∧f.id=s.bg∧f.o=o∧f.r=r∧f.side=sd∧f.ms=ms∧f.hv=hv∧GF base w' g (bcS (opS s f) f 1)∧HpO base r.sp f.hp w'
theorem OpO.from {base g:Nat} {w w1 w':World} {s:Gf} {o r:Tu} {sd ms:Int} {hv:Value} {e:Ending} (h:OpO base w1 w' g s o r sd ms hv e)(l:Later w w1):OpO base w w' g s o r sd ms hv e:=by
 obtain⟨f,h1,h2,h3,h4⟩:=h;exact⟨f,Nat.le_trans l.size h1,h2,(KG.of_later l).trans h3,h4⟩
theorem open_out(base g:Nat)(s:Gf)(o r:Tu)(i0 st0 tl0 ms:Int)(ha:Option Addr)(hn hc:Nat)(w:World)(h:GF base w g s)(hp:o.pr=6)(hbs:base≤w.heap.size)(hBo:TuB o)(hBr:TuB r)(htr:0≤s.trn∧s.trn≤900000)(hnw:0≤s.now∧s.now≤549755813888)(hbg:0≤s.bg∧s.bg≤1000000)(hid:∀x∈s.fs,x.id≠s.bg)(hcn:0≤s.cnt∧s.cnt≤1000)(hln:∀i,(s.rw i).length≤4000):
  Calls Tryz.prog 284 #[.pointer (some ⟨g,0,none⟩),.agg #[.int .i64 i0,.int .u8 o.pr,.int .u32 o.src,.int .u32 o.dst,.int .u16 o.sp,.int .u16 o.dp,.int .u8 r.pr,.int .u32 r.src,.int .u32 r.dst,.int .u16 r.sp,.int .u16 r.dp,.int .i64 1,.int .i64 st0,.int .i64 tl0,.int .i64 ms],.slice ha hn hc] w fun e w'=>OpO base w w' g s o r 1 ms (.slice ha hn hc) e:=by
 refine(open_h base g s o r i0 1 st0 tl0 ms ha hn hc w h hp (fun hT hV W=>HpO base r.sp (.iface hT hV) W) (fun hT hV A B h k=>h.kg k) (fun W hw=> ?_) hbs hBo hBr htr hnw hbg hid hcn hln).mono ?_
 ·by_cases h21:r.sp=21
  ·exact (zIe o r s.bg 1 st0 tl0 ms W hp h21).mono (fun e w' ⟨hb,e1,l,hN⟩=>⟨_,_,e1,l,.inr ⟨h21,hb,rfl,hN.mono hw⟩⟩)
  ·exact (zWf o r s.bg 1 st0 tl0 ms W hp h21 rfl).mono (fun e w' ⟨e1,l⟩=>⟨_,_,e1,l,.inl ⟨h21,rfl⟩⟩)
 ·rintro e w' ⟨f,hT,hV,h1,h2,h3,h4,h5,h6,h7,h8,h9,h10,h11,h12⟩
  exact⟨f,h1,h2,h3,h4,h5,h6,h7,h8,h9,h11,by rw[h10];exact h12⟩
theorem zWg(base g:Nat)(s:Gf)(tos id ttl pr src dst:Int)(keep:Bool)(so sd:Value)(side x d a b host po ms:Int)(ha:Option Addr)(hn hc:Nat)(w:World)(h:GF base w g s)(hbs:base≤w.heap.size)(hk1:kx 6 x d a b s.rw=none)(hk2:kx 6 host x po a s.rw=none)(hx:0≤x∧x≤4294967295)(hd:0≤d∧d≤4294967295)(hha:0≤a∧a≤65535)(hb:0≤b∧b≤65535)(hho:0≤host∧host≤4294967295)(hpo:0≤po∧po≤65535)(hfs:s.fs.length<64)(hne:x≠host)(htr:0≤s.trn∧s.trn≤900000)(hnw:0≤s.now∧s.now≤549755813888)(hbg:0≤s.bg∧s.bg≤1000000)(hid:∀x∈s.fs,x.id≠s.bg)(hcn:0≤s.cnt∧s.cnt≤1000)(hln:∀i,(s.rw i).length≤4000):
  Calls Tryz.prog 286 #[.agg #[.pointer (some ⟨g,0,none⟩),.int .u8 tos,.int .u16 id,.bool keep,.int .u8 ttl,.int .u8 pr,.int .u32 src,.int .u32 dst,so,sd,.int .i64 side],.agg #[.int .u8 6,.int .u32 x,.int .u32 d,.int .u16 a,.int .u16 b],.int .u32 host,.int .u16 po,.int .i64 ms,.slice ha hn hc] w fun e w'=>OpO base w w' g s ⟨6,x,d,a,b⟩ ⟨6,host,x,po,a⟩ 1 ms (.slice ha hn hc) e:=by
 obtain⟨l0,c0,c1⟩:=zBa w (.cells #[.pointer (some ⟨g,0,none⟩),.int .u8 tos,.int .u16 id,.bool keep,.int .u8 ttl,.int .u8 pr,.int .u32 src,.int .u32 dst,so,sd,.int .i64 side] 139) (.cells #[.int .u8 6,.int .u32 x,.int .u32 d,.int .u16 a,.int .u16 b] 103);have C0:=zAd c0;have C1:=zAd c1;have HRM:=zAd (fun W (l:Later w W)=>zGq base g s 6 x d a b 6 host x po a W (h.later l) hk1 hk2 hx hd hha hb hho hx hpo hha hfs (fun e=>hne e.2.1));have HOP:=zAd (fun W (l:Later w W)=>open_out base g s ⟨6,x,d,a,b⟩ ⟨6,host,x,po,a⟩ 0 0 0 ms ha hn hc W (h.later l) rfl (Nat.le_trans hbs l.size) ⟨hx,hd,hha,hb⟩ ⟨hho,hx,hpo,hha⟩ htr hnw hbg hid hcn hln);clear c0 c1 h hk1 hk2 hid hln;go_enter Tryz.func286,Tryz.ntmps286;go_upto_region 1 with fail;generalize (w.alloc (.cells #[.pointer (some ⟨g,0,none⟩),.int .u8 tos,.int .u16 id,.bool keep,.int .u8 ttl,.int .u8 pr,.int .u32 src,.int .u32 dst,so,sd,.int .i64 side] 139)).alloc (.cells #[.int .u8 6,.int .u32 x,.int .u32 d,.int .u16 a,.int .u16 b] 103)=w1 at*;generalize hgx:w.heap.size=gx at C0 C1⊢;have k0:=zAa C0.out;have k1:=zAa C1.out;have la:=zAg w1 (.cells #[.int .u8 6,.int .u32 host,.int .u32 x,.int .u16 po,.int .u16 a] 103);have ca:=zAd (heap_alloc_new w1 (.cells #[.int .u8 6,.int .u32 host,.int .u32 x,.int .u16 po,.int .u16 a] 103));go_upto_region 2 with fail;change Code.wp _ _ _ _ (w1.alloc (.cells #[.int .u8 6,.int .u32 host,.int .u32 x,.int .u16 po,.int .u16 a] 103))
 generalize w1.alloc (.cells #[.int .u8 6,.int .u32 host,.int .u32 x,.int .u16 po,.int .u16 a] 103)=w2 at*;generalize w1.heap.size=g2 at*;have L2:=l0.trans la;have D0:=zAd (zAb la C0.out);have D1:=zAd (zAb la C1.out);clear k0 k1 C0 C1 l0 la;have k0:=zAa D0.out;have k1:=zAa D1.out;have k2:=zAa ca.out;go_wp2_with fail;refine(HRM.out w2 L2).mono ?_;rintro e w3 ⟨rfl,l3⟩;have l3':Later w2 w3:=l3;have E0:=zAd (zAb l3' D0.out);have E1:=zAd (zAb l3' D1.out);have E2:=zAd (zAb l3' ca.out);clear k0 k1 k2 D0 D1 ca l3 HRM;have L3:=L2.trans l3';have k0:=zAa E0.out;have k1:=zAa E1.out;have k2:=zAa E2.out;go_wp2_with fail;refine(zA0 4 _).mono ?_;rintro e w4 ⟨rfl,hw4⟩;subst hw4;have HO4:=zAd (HOP.out _ L3);go_wp2_with fail;refine HO4.out.mono ?_;rintro e w5 hq;have hq2:=hq.from L3;obtain⟨f,q1,rfl,q3⟩:=hq;clear k0 k1 k2;go_wp2_with fail;go_ret
 exact hq2
end Go.Proofs.YteaeilghamjjkaaGreatDoor
