import Derived.Test.YteaeilghamjjkaaGreatDoorX3
namespace Go.Proofs.YteaeilghamjjkaaGreatDoor
set_option maxHeartbeats 8000000
open Go.RowKit Go.Shelf
set_option maxRecDepth 100000
set_option linter.unusedVariables false
set_option linter.unusedSimpArgs false
theorem zD2 {a b:List Int} (h:Mt.By (a++b)):Mt.By a∧Mt.By b:=⟨fun z hz=>h z (by simp[hz]),fun z hz=>h z (by simp[hz])⟩
theorem zB1 {a b:List Int} (h:Mt.By a)(h':Mt.By b):Mt.By (a++b):=fun z hz=>by rcases List.mem_append.1 hz with hz|hz;(· exact h z hz);(· exact h' z hz)
theorem zV2:∀(l:List Int),Mt.By l→0≤Lib.indexByte (Lib.bytesOf l) 40→∃a b,l=a++40::b∧(a.length:Int)=Lib.indexByte (Lib.bytesOf l) 40∧40∉a
 | [],_,h=>by simp[Lib.bytesOf,Lib.indexByte]at h
 | z ::l,hB,h=>by
  have hz:=hB z (by simp);have hl:Mt.By l:=fun x hx=>hB x (by simp[hx]);have hu:Lib.bytesOf (z::l)=UInt8.ofNat z.toNat::Lib.bytesOf l:=rfl;rw[hu]at h⊢;by_cases h40:z=40
  ·subst h40
   exact⟨[],l,rfl,by simp[Lib.indexByte],by simp⟩
  ·have hne:(UInt8.ofNat z.toNat==40)=false:=by
    rw[beq_eq_false_iff_ne];intro hh
    have:=congrArg UInt8.toNat hh
    simp at this
    omega
   rw[Lib.indexByte,hne]at h⊢;simp only[Bool.false_eq_true,if_false]at h⊢;by_cases h1:(Lib.indexByte (Lib.bytesOf l) 40== -1)=true
   ·rw[if_pos h1]at h;omega
   ·rw[if_neg h1]at h⊢
    have hr:=zNg (Lib.bytesOf l) 40
    have h2:0≤Lib.indexByte (Lib.bytesOf l) 40:=by
     have:Lib.indexByte (Lib.bytesOf l) 40≠ -1:=by simpa using h1
     rcases hr with hr|⟨_,hr⟩
     ·omega
     ·exact absurd hr this
    obtain⟨a,b,e1,e2,e3⟩:=zV2 l hl h2;exact⟨z::a,b,by rw[e1];rfl,by rw[List.length_cons];omega,by simp[e3];omega⟩
theorem ix_mk(b:List Int):∀(a:List Int),Mt.By a→40∉a→Lib.indexByte (Lib.bytesOf (a++40::b)) 40=(a.length:Int)
 | [],_,_=>by
  have hu:Lib.bytesOf ([]++40::b)=40::Lib.bytesOf b:=rfl;rw[hu];simp[Lib.indexByte]
 | z::a,hB,hn=>by
  have hz:=hB z (by simp);have hl:Mt.By a:=fun x hx=>hB x (by simp[hx]);have hz40:z≠40:=fun h=>hn (by simp[h]);have hu:Lib.bytesOf ((z::a)++40::b)=UInt8.ofNat z.toNat::Lib.bytesOf (a++40::b):=rfl;have ih:=ix_mk b a hl (fun h=>hn (by simp[h]))
  have hne:(UInt8.ofNat z.toNat==40)=false:=by
   rw[beq_eq_false_iff_ne];intro hh
   have:=congrArg UInt8.toNat hh
   simp at this
   omega
  rw[hu,Lib.indexByte,hne,ih];simp only[Bool.false_eq_true,if_false];rw[if_neg (by simp<;>omega),List.length_cons];omega
theorem zCo {pre r:List Int} {t:ByteArray} (h:t.size≤pre.length):tkB (pre++r) 0 t=tkB pre 0 t:=by
 unfold tkB;rw[List.drop_zero,List.drop_zero,List.take_append_of_le_length h];have e1:decide (0+t.size≤(pre++r).length)=true:=by simp;omega
 have e2:decide (0+t.size≤pre.length)=true:=by simp;omega
 rw[e1,e2]
theorem zV3(a:Int)(h:0≤a∧a≤4294967295)(n:Int)(hn:0≤n∧n≤65535):zAs (ad4 a++po2 n) 0=a∧wat (ad4 a++po2 n) 4=n:=by
 unfold zAs wat ad4 po2;simp
 omega
theorem wat_four(a:Int)(h:0≤a∧a≤4294967295):zAs (ad4 a) 0=a:=by
 unfold zAs wat ad4;simp
 omega
theorem six_is {x:List Int} (hx:Mt.By x)(hl:x.length=6):x=ad4 (zAs x 0)++po2 (wat x 4)∧(0≤zAs x 0∧zAs x 0≤4294967295)∧(0≤wat x 4∧wat x 4≤65535):=by
 match x,hl with
 | [a,b,c,d,e,f],_=>
  have h1:=hx a (by simp);have h2:=hx b (by simp);have h3:=hx c (by simp);have h4:=hx d (by simp);have h5:=hx e (by simp);have h6:=hx f (by simp);unfold zAs wat ad4 po2;simp
  omega
theorem four_is {x:List Int} (hx:Mt.By x)(hl:x.length=4):x=ad4 (zAs x 0)∧(0≤zAs x 0∧zAs x 0≤4294967295):=by
 match x,hl with
 | [a,b,c,d],_=>
  have h1:=hx a (by simp);have h2:=hx b (by simp);have h3:=hx c (by simp);have h4:=hx d (by simp);unfold zAs wat ad4;simp
  omega
def txt (k a:Int) (n:Nat):List Int:=if k=2 then [124,49,124]++(zBz 46 0 (ad4 a)++(124::(dg n++[124])))else if k=4 then dg n else zBz 44 0 (ad4 a++po2 n)
theorem zJx(a b:ByteArray):zBe (a++b)=zBe a++zBe b:=by unfold zBe;simp
theorem zD3(k a:Int)(n:Nat):zBe (zB0 k a n)=txt k a n:=by
 unfold zB0 txt;split
 ·simp only[zJx]
  rw[show zBe (zG6 zG1 (ad4 a))=zBz 46 0 (ad4 a)from zV0 46 _];show [124,49,124]++zBz 46 0 (ad4 a)++[124]++dg n++[124]=_
  simp
 ·split
  ·rfl
  ·exact zV0 44 _
theorem zJy(s t:ByteArray):∀k pos,swP s t k pos=true↔∀j,j<k→sml (bAt s (pos+j))=sml (bAt t (pos+j))
 |0,pos=>by simp[swP]
 | k +1,pos=>by
  unfold swP;constructor
  ·intro h
   split at h
   ·rename_i h0
    intro j hj
    cases j with
    |zero=>exact h0
    |succ j=>
     have:=(zJy s t k (pos+1)).1 h j (by omega);rw[show pos+(j+1)=pos+1+j by omega];exact this
   ·cases h
  ·intro h
   rw[if_pos (show sml (bAt s pos)=sml (bAt t pos)from h 0 (by omega))]
   exact(zJy s t k (pos+1)).2 fun j hj=>by
    have:=h (j+1) (by omega);rw[show pos+(j+1)=pos+1+j by omega]at this;exact this
def NL (c:Int):Prop:=¬(65≤c∧c≤90)∧¬(97≤c∧c≤122)
theorem sml_nl {z c:Int} (h:NL c):sml z=sml c↔z=c:=by
 unfold NL at h;unfold sml;constructor
 ·intro e
  split at e<;>split at e<;>omega
 ·intro e;rw[e]
theorem zG8(zs:List Int)(hz:Mt.By zs)(p:Nat)(t:ByteArray)(ht:∀z∈zBe t,NL z)(h0:0<t.size):tkB zs p t=true↔zs.drop p=zBe t++zs.drop (p+t.size):=by
 unfold tkB swV;have hb:Mt.By ((zs.drop p).take t.size):=fun z h=>hz z (List.mem_of_mem_drop (List.mem_of_mem_take h));simp only[Bool.and_eq_true,decide_eq_true_eq,strOfNums_size];constructor
 ·rintro ⟨h1,h2,h3⟩
  rw[zJy]at h3
  have e:(zs.drop p).take t.size=zBe t:=by
   apply List.ext_getElem (by rw[zAz];exact h2)
   intro i hi1 hi2
   have hi:i<t.size:=by rw[zAz]at hi2;exact hi2
   have h4:=h3 i (by rw[h2];exact hi);rw[Nat.zero_add,zFy _ hb i hi1,zG7 t i hi,List.getElem?_eq_getElem hi1,List.getElem?_eq_getElem hi2]at h4;simp only[Option.getD_some]at h4;exact(sml_nl (ht _ (List.getElem_mem hi2))).1 h4
  rw[←e,←List.drop_drop];exact(List.take_append_drop _ _).symm
 ·intro h
  have hl:=congrArg List.length h;rw[List.length_append,List.length_drop,List.length_drop,zAz]at hl;have e:(zs.drop p).take t.size=zBe t:=by rw[h,←zAz,List.take_left]
  refine⟨by omega,by rw[e,zAz],?_⟩;rw[zJy];intro j hj
  rw[e,zJv]
theorem nl_one:∀z∈zBe zLy,NL z:=by unfold NL;decide
theorem zQc:∀z∈zBe zDy,NL z:=by unfold NL;decide
theorem nl_end:∀z∈zBe tEnd,NL z:=by unfold NL;decide
theorem zV4:∀z∈zBe zJq,NL z:=by unfold NL;decide
theorem zV5:∀z∈zBe zLk,NL z:=by unfold NL;decide
theorem zLn(pre r:List Int):(pre++r).drop pre.length=r:=List.drop_left
theorem zRy {zs u v:List Int} {p:Nat} {t:ByteArray} (hz:Mt.By zs)(ht:∀z∈zBe t,NL z)(h0:0<t.size)(e:zs=u++(zBe t++v))(hp:p=u.length):tkB zs p t=true:=by
 rw[zG8 zs hz p t ht h0,←List.drop_drop,hp,e,zLn,←zAz,zLn]
def Sh (k:Int) (back:Bool) (pre suf:List Int):Prop:=
 (k=1∧back=false∧pre.length=5∧tkB pre 0 zEt=true∧suf=[])∨
 (k=2∧back=false∧pre.length=5∧tkB pre 0 zEt=false∧tkB pre 0 zG0=true∧suf=[])∨
 (k=3∧back=true∧tkB pre 0 zIk=true∧(∃h a,pre=h++(a++[40])∧h.length=4∧40∉a)∧∃r,suf=41::r)∨
 (k=4∧back=true∧tkB pre 0 zIk=false∧tkB pre 0 zP1=true∧(∃h a,pre=h++(a++[40,124,124,124])∧h.length=4∧40∉a)∧∃r,suf=124::41::r)
theorem ad4_len(a:Int):(ad4 a).length=4:=rfl
theorem zV6(a:Int)(n:Nat):(ad4 a++po2 n).length=6:=rfl
theorem zQd(k a:Int)(n:Nat)(ha:0≤a∧a≤4294967295)(hn:n≤65535):Mt.By (txt k a n):=by rw[←zD3];exact zJs _
theorem zV7(pre suf:List Int)(n:Nat)(hn:0<n)(hn2:n≤65535)(hs:dgt (suf[0]?.getD 0)=false):zC7 (pre++(dg n++suf)) pre.length=true∧zCg (pre++(dg n++suf)) pre.length=n∧dgZ (pre++(dg n++suf)) pre.length=pre.length+(dg n).length:=by
 obtain⟨h1,h2⟩:=num_at pre suf n 65535 (by omega) hs;refine⟨?_,?_,h2⟩
 ·unfold zC7;rw[h1];simp;omega
 ·unfold zCg;rw[h1];rfl
theorem fnd_mk1(pre suf:List Int)(back:Bool)(hp:Mt.By pre)(hs:Mt.By suf)(a:Int)(ha:0≤a∧a≤4294967295)(n:Nat)(hn:0<n)(hn2:n≤65535)(h:Sh 1 back pre suf):
  zL0 (pre++(txt 1 a n++suf)) back=fdY 1 (pre.length:Nat) ((pre.length+(txt 1 a n).length:Nat):Int) a n:=by
 rcases h with⟨_,rfl,h5,h6,rfl⟩|⟨h,_⟩|⟨h,_⟩|⟨h,_⟩<;>try omega
 have hk:kdV (pre++(txt 1 a n++[])) 0 false=(1,5):=by unfold kdV;rw[if_pos rfl,if_pos (by rw[zCo (by rw[h5];decide)];exact h6)]
 have hw:=zV3 a ha n (by omega);have hby:Mt.By (ad4 a++po2 n):=zB1 (zD1 a ha) (zP6 n (by omega));have hx:txt 1 a n=zBz 44 0 (ad4 a++po2 n):=by unfold txt;rw[if_neg (by omega),if_neg (by omega)]
 unfold zL0;rw[hk];simp only[if_true];unfold fd1 sixO;have hr:=zQb 44 (by decide) (ad4 a++po2 n) 0 pre [] hp hs hby (by decide);rw[zV6,h5]at hr;rw[hx,show cma=⟨#[44]⟩from rfl,hr];simp only;rw[if_pos ⟨by rw[hw.2];omega,by simp;omega⟩,hw.1,hw.2,h5];try simp
theorem fnd_mk2(pre suf:List Int)(back:Bool)(hp:Mt.By pre)(hs:Mt.By suf)(a:Int)(ha:0≤a∧a≤4294967295)(n:Nat)(hn:0<n)(hn2:n≤65535)(h:Sh 2 back pre suf):
  zL0 (pre++(txt 2 a n++suf)) back=fdY 2 (pre.length:Nat) ((pre.length+(txt 2 a n).length:Nat):Int) a n:=by
 rcases h with⟨h,_⟩|⟨_,rfl,h5,h6,h7,rfl⟩|⟨h,_⟩|⟨h,_⟩<;>try omega
 have hk:kdV (pre++(txt 2 a n++[])) 0 false=(2,5):=by unfold kdV;rw[if_pos rfl,if_neg (by rw[zCo (by rw[h5];decide),h6];simp),if_pos (by rw[zCo (by rw[h5];decide)];exact h7)]
 have hw:=wat_four a ha;have hx:txt 2 a n=[124,49,124]++(zBz 46 0 (ad4 a)++(124::(dg n++[124]))):=by unfold txt;rw[if_pos rfl]
 have hall:Mt.By (pre++(txt 2 a n++[])):=zB1 hp (zB1 (zQd 2 a n ha hn2) hs);have hrb:=zNr 46 (by decide) (ad4 a) 0 (zD1 a ha);have hZ:Hid (pre++(txt 2 a n++[])=pre++(txt 2 a n++[])):=rfl
 have hfin:fd2 (pre++(txt 2 a n++[])) 5=fdY 2 (pre.length:Nat) ((pre.length+(txt 2 a n).length:Nat):Int) a n:=by
  have hbar:zLz (pre++(txt 2 a n++[])) 5=some (ad4 a,pre.length+(txt 2 a n).length,(n:Int)):=by
   unfold zLz;have t1:tkB (pre++(txt 2 a n++[])) 5 zLy=true:=zRy hall nl_one (by decide) (u:=pre) (v:=zBz 46 0 (ad4 a)++(124::(dg n++[124]))) (by rw[hx,List.append_nil];rfl) h5.symm;rw[if_neg (by rw[t1];simp)]
   have hr:=zQb 46 (by decide) (ad4 a) 0 (pre++[124,49,124]) (124::(dg n++[124])) (zB1 hp (fun z hz=>by simp at hz;omega)) (fun z hz=>by
    simp only[List.mem_cons,List.mem_append,List.mem_singleton]at hz;rcases hz with rfl|hz|rfl|hz
    ·omega
    ·exact zVx n z hz
    ·omega
    ·simp at hz) (zD1 a ha) rfl
   have e1:pre++[124,49,124]++(zBz 46 0 (ad4 a)++(124::(dg n++[124])))=pre++(txt 2 a n++[]):=by rw[hx];simp
   have l1:(pre++[124,49,124]).length=5+3:=by simp;omega
   rw[e1,ad4_len,l1]at hr;rw[show zG1=⟨#[46]⟩from rfl,hr,Option.bind_some];simp only;have e2:pre++(txt 2 a n++[])=(pre++[124,49,124]++zBz 46 0 (ad4 a))++(124::(dg n++[124])):=by rw[hx];simp
   have l2:(pre++[124,49,124]++zBz 46 0 (ad4 a)).length=5+3+(zBz 46 0 (ad4 a)).length:=by simp;omega
   have t2:tkB (pre++(txt 2 a n++[])) (5+3+(zBz 46 0 (ad4 a)).length) zDy=true:=zRy hall zQc (by decide) (u:=pre++[124,49,124]++zBz 46 0 (ad4 a)) (v:=dg n++[124]) e2 l2.symm;rw[if_neg (by rw[t2];simp)];have e3:pre++(txt 2 a n++[])=(pre++[124,49,124]++zBz 46 0 (ad4 a)++[124])++(dg n++[124]):=by rw[hx];simp
   have l3:(pre++[124,49,124]++zBz 46 0 (ad4 a)++[124]).length=5+3+(zBz 46 0 (ad4 a)).length+1:=by simp;omega
   obtain⟨p1,p2,p3⟩:=zV7 (pre++[124,49,124]++zBz 46 0 (ad4 a)++[124]) [124] n hn hn2 (by decide);rw[←e3,l3]at p1 p2 p3;rw[if_neg (by rw[p1];simp),p2,p3];have t3:tkB (pre++(txt 2 a n++[])) (5+3+(zBz 46 0 (ad4 a)).length+1+(dg n).length) zDy=true:=zRy hall zQc (by decide) (u:=pre++[124,49,124]++zBz 46 0 (ad4 a)++[124]++dg n) (v:=[]) (by rw[hx];simp;rfl) (by rw[List.length_append,l3]);rw[if_neg (by rw[t3];simp)];congr 2
   rw[hx];simp
   omega
  unfold fd2;rw[hbar];simp only;rw[if_pos (by simp),hw,h5];try simp
 unfold zL0;rw[hk];simp only;rw[if_neg (by omega),if_pos trivial];exact hfin
theorem kd227 {pre r:List Int} (h4:4≤pre.length)(h:tkB pre 0 zIk=true):kdV (pre++r) 0 true=(3,4):=by unfold kdV;rw[if_neg (by simp),if_pos (by rw[zCo (t:=zIk) h4];exact h)]
theorem kd229 {pre r:List Int} (h4:4≤pre.length)(h:tkB pre 0 zIk=false)(h':tkB pre 0 zP1=true):kdV (pre++r) 0 true=(4,4):=by unfold kdV;rw[if_neg (by simp),if_neg (by rw[zCo (t:=zIk) h4,h];simp),if_pos (by rw[zCo (t:=zP1) h4];exact h')]
theorem pst_at(h a r:List Int)(h4:h.length=4)(ha:Mt.By a)(hn:40∉a):pst (h++(a++40::r)) 4 40=(a.length:Int)∧p40 (h++(a++40::r)) 4=4+a.length+1:=by
 have e:pst (h++(a++40::r)) 4 40=(a.length:Int):=by
  unfold pst;rw[←h4,zLn];exact ix_mk r a ha hn
 refine⟨e,?_⟩;unfold p40;rw[e];omega
theorem fnd_mk3(pre suf:List Int)(back:Bool)(hp:Mt.By pre)(hs:Mt.By suf)(a:Int)(ha:0≤a∧a≤4294967295)(n:Nat)(hn:0<n)(hn2:n≤65535)(h:Sh 3 back pre suf):
  zL0 (pre++(txt 3 a n++suf)) back=fdY 3 (pre.length:Nat) ((pre.length+(txt 3 a n).length:Nat):Int) a n:=by
 rcases h with⟨h,_⟩|⟨h,_⟩|⟨_,rfl,h6,⟨hd,m,rfl,h4,hm⟩,r,rfl⟩|⟨h,_⟩<;>try omega
 have hk:=kd227 (r:=txt 3 a n++41::r) (by simp;omega) h6;have hw:=zV3 a ha n (by omega);have hby:Mt.By (ad4 a++po2 n):=zB1 (zD1 a ha) (zP6 n (by omega));have hx:txt 3 a n=zBz 44 0 (ad4 a++po2 n):=by unfold txt;rw[if_neg (by omega),if_neg (by omega)]
 have hall:Mt.By ((hd++(m++[40]))++(txt 3 a n++41::r)):=zB1 hp (zB1 (zQd 3 a n ha hn2) hs);have hmb:Mt.By m:=(zD2 (zD2 hp).2).1;obtain⟨q1,q2⟩:=pst_at hd m (txt 3 a n++41::r) h4 hmb hm;have e0:hd++(m++40::(txt 3 a n++41::r))=(hd++(m++[40]))++(txt 3 a n++41::r):=by simp
 rw[e0]at q1 q2;have hpl:(hd++(m++[40])).length=4+m.length+1:=by simp;omega
 have hr:=zQb 44 (by decide) (ad4 a++po2 n) 0 (hd++(m++[40])) (41::r) hp hs hby rfl;rw[zV6,←hx,hpl]at hr
 have hfin:fd3 ((hd++(m++[40]))++(txt 3 a n++41::r)) 4=fdY 3 ((hd++(m++[40])).length:Nat) (((hd++(m++[40])).length+(txt 3 a n).length:Nat):Int) a n:=by
  unfold fd3;rw[if_neg (by rw[q1];omega),q2];unfold sixO;rw[show cma=⟨#[44]⟩from rfl,hr];simp only;have t1:tkB ((hd++(m++[40]))++(txt 3 a n++41::r)) (4+m.length+1+(txt 3 a n).length) tEnd=true:=zRy hall nl_end (by decide) (u:=(hd++(m++[40]))++txt 3 a n) (v:=r) (by show _=((hd++(m++[40]))++txt 3 a n)++([41]++r);simp) (by rw[List.length_append,hpl]);rw[if_pos ⟨by rw[hw.2];omega,t1⟩,hw.1,hw.2,hpl]
 unfold zL0;rw[hk];simp only;rw[if_neg (by omega),if_neg (by omega),if_pos trivial];exact hfin
theorem fnd_mk4(pre suf:List Int)(back:Bool)(hp:Mt.By pre)(hs:Mt.By suf)(a:Int)(ha:0≤a∧a≤4294967295)(n:Nat)(hn:0<n)(hn2:n≤65535)(h:Sh 4 back pre suf):
  zL0 (pre++(txt 4 a n++suf)) back=fdY 4 (pre.length:Nat) ((pre.length+(txt 4 a n).length:Nat):Int) 0 n:=by
 rcases h with⟨h,_⟩|⟨h,_⟩|⟨h,_⟩|⟨_,rfl,h6,h7,⟨hd,m,rfl,h4,hm⟩,r,rfl⟩<;>try omega
 have hk:=kd229 (r:=txt 4 a n++124::41::r) (by simp;omega) h6 h7;have hx:txt 4 a n=dg n:=by unfold txt;rw[if_neg (by omega),if_pos rfl]
 have hall:Mt.By ((hd++(m++[40,124,124,124]))++(txt 4 a n++124::41::r)):=zB1 hp (zB1 (zQd 4 a n ha hn2) hs);have hmb:Mt.By m:=(zD2 (zD2 hp).2).1;obtain⟨q1,q2⟩:=pst_at hd m ([124,124,124]++(txt 4 a n++124::41::r)) h4 hmb hm;have e0:hd++(m++40::([124,124,124]++(txt 4 a n++124::41::r)))=(hd++(m++[40,124,124,124]))++(txt 4 a n++124::41::r):=by simp
 rw[e0]at q1 q2;have e1:(hd++(m++[40,124,124,124]))++(txt 4 a n++124::41::r)=(hd++(m++[40]))++([124,124,124]++(txt 4 a n++124::41::r)):=by simp
 have l1:(hd++(m++[40])).length=4+m.length+1:=by simp;omega
 have hpl:(hd++(m++[40,124,124,124])).length=4+m.length+1+3:=by simp;omega
 obtain⟨p1,p2,p3⟩:=zV7 (hd++(m++[40,124,124,124])) (124::41::r) n hn hn2 rfl;rw[←hx,hpl]at p1 p2 p3
 have hfin:fd4 ((hd++(m++[40,124,124,124]))++(txt 4 a n++124::41::r)) 4=fdY 4 ((hd++(m++[40,124,124,124])).length:Nat) (((hd++(m++[40,124,124,124])).length+(txt 4 a n).length:Nat):Int) 0 n:=by
  unfold fd4;have t1:tkB ((hd++(m++[40,124,124,124]))++(txt 4 a n++124::41::r)) (4+m.length+1) zJq=true:=zRy hall zV4 (by decide) (u:=hd++(m++[40])) (v:=txt 4 a n++124::41::r) e1 l1.symm;have t2:tkB ((hd++(m++[40,124,124,124]))++(txt 4 a n++124::41::r)) (4+m.length+1+3+(txt 4 a n).length) zLk=true:=zRy hall zV5 (by decide) (u:=(hd++(m++[40,124,124,124]))++txt 4 a n) (v:=r) (by show _=((hd++(m++[40,124,124,124]))++txt 4 a n)++([124,41]++r);simp) (by rw[List.length_append,hpl]);rw[if_neg (by rw[q1];omega),q2,if_neg (by rw[t1];simp),if_neg (by rw[p1];simp),p2,p3,if_neg (by rw[t2];simp),hpl]
 unfold zL0;rw[hk];simp only;rw[if_neg (by omega),if_neg (by omega),if_neg (by omega),if_pos trivial];exact hfin
theorem zJz {k st en ad pt k' st' en' ad' pt':Int} (h:fdY k st en ad pt=fdY k' st' en' ad' pt'):k=k'∧st=st'∧en=en'∧ad=ad'∧pt=pt':=by
 unfold fdY at h
 simp at h
 exact h
def Was (l:List Int) (back:Bool) (k st en ad pt:Int):Prop:=∃(pre suf:List Int) (n:Nat),l=pre++(txt k ad n++suf)∧Sh k back pre suf∧st=(pre.length:Int)∧en=((pre.length+(txt k ad n).length:Nat):Int)∧pt=(n:Int)∧0<n∧n≤65535∧0≤ad∧ad≤4294967295
theorem kd1 {l:List Int} {back:Bool} (h:(kdV l 0 back).1=1):back=false∧tkB l 0 zEt=true∧kdV l 0 back=(1,5):=by
 unfold kdV at h⊢;cases back with
 |true=>simp only[Bool.true_eq_false,if_false]at h;split at h;(· simp at h);split at h<;>simp at h
 |false=>
  simp only[if_true]at h⊢;split at h
  ·rename_i h1;exact⟨trivial,h1,by rw[if_pos h1]⟩
  ·split at h<;>simp at h
theorem kd2 {l:List Int} {back:Bool} (h:(kdV l 0 back).1=2):back=false∧tkB l 0 zEt=false∧tkB l 0 zG0=true∧kdV l 0 back=(2,5):=by
 unfold kdV at h⊢;cases back with
 |true=>simp only[Bool.true_eq_false,if_false]at h;split at h;(· simp at h);split at h<;>simp at h
 | false=>
  simp only[if_true]at h⊢;split at h
  ·simp at h
  ·rename_i h1
   split at h
   ·rename_i h2;exact⟨trivial,by simpa using h1,h2,by rw[if_neg h1,if_pos h2]⟩
   ·simp at h
theorem kd3 {l:List Int} {back:Bool} (h:(kdV l 0 back).1=3):back=true∧tkB l 0 zIk=true∧kdV l 0 back=(3,4):=by
 unfold kdV at h⊢;cases back with
 |false=>simp only[if_true]at h;split at h;(· simp at h);split at h<;>simp at h
 |true=>
  simp only[Bool.true_eq_false,if_false]at h⊢;split at h
  ·rename_i h1;exact⟨trivial,h1,by rw[if_pos h1]⟩
  ·split at h<;>simp at h
theorem kd4 {l:List Int} {back:Bool} (h:(kdV l 0 back).1=4):back=true∧tkB l 0 zIk=false∧tkB l 0 zP1=true∧kdV l 0 back=(4,4):=by
 unfold kdV at h⊢;cases back with
 |false=>simp only[if_true]at h;split at h;(· simp at h);split at h<;>simp at h
 | true=>
  simp only[Bool.true_eq_false,if_false]at h⊢;split at h
  ·simp at h
  ·rename_i h1
   split at h
   ·rename_i h2;exact⟨trivial,by simpa using h1,h2,by rw[if_neg h1,if_pos h2]⟩
   ·simp at h
theorem zJ0 {l:List Int} {t:ByteArray} {p:Nat} (h:t.size≤p)(hp:p≤l.length):tkB (l.take p) 0 t=tkB l 0 t:=by
 have:=zCo (pre:=l.take p) (r:=l.drop p) (t:=t) (by rw[List.length_take];omega);rw[List.take_append_drop]at this;exact this.symm
theorem zQe {zs:List Int} {p:Nat} (hz:Mt.By zs)(hp:p≤zs.length)(h:zC7 zs p=true):∃n:Nat,zCg zs p=(n:Int)∧0<n∧n≤65535∧zs.drop p=dg n++zs.drop (dgZ zs p)∧dgZ zs p=p+(dg n).length:=by
 unfold zC7 at h;cases hv:zC6 (dgS zs p) 65535 with
 |none=>rw[hv]at h;simp at h
 |some v=>
  have hr:=zFw (dgS zs p) 65535 (by omega);rw[hv]at h hr
  simp at h hr
  obtain⟨h1,h2,h3⟩:=zVy hz hp hv;refine⟨v.toNat,?_,by omega,by omega,h1,h3⟩;unfold zCg;rw[hv];simp
  omega
theorem zV8 {zs:List Int} {p:Nat} (hz:Mt.By zs)(hp:p≤zs.length) {x:List Int × Nat} (h:sixO zs p=some x)(hn:wat x.1 4≠0):∃n:Nat,wat x.1 4=(n:Int)∧0<n∧n≤65535∧(0≤zAs x.1 0∧zAs x.1 0≤4294967295)∧zs.drop p=zBz 44 0 (ad4 (zAs x.1 0)++po2 n)++zs.drop x.2∧x.2=p+(zBz 44 0 (ad4 (zAs x.1 0)++po2 n)).length∧x.2≤zs.length:=by
 obtain⟨x,q⟩:=x;have hl:=zEs zs cma 6 0 p (x,q) h;have hb:=zGz zs cma 6 0 p (x,q) h;obtain⟨e1,e2,e3⟩:=six_is hb hl;obtain⟨r1,r2,r3⟩:=zNs 44 (by decide) zs hz 6 0 p x q hp h;simp only at hn e1 e2 e3⊢;refine⟨(wat x 4).toNat,by omega,by omega,by omega,e2,?_,?_,r3⟩
 ·rw[Int.toNat_of_nonneg e3.1,←e1];exact r1
 ·rw[Int.toNat_of_nonneg e3.1,←e1];exact r2
theorem zJ1(k:Int)(a:Int)(n:Nat)(h2:k≠2)(h4:k≠4):txt k a n=zBz 44 0 (ad4 a++po2 n):=by unfold txt;rw[if_neg h2,if_neg h4]
theorem was_1 {l:List Int} (hB:Mt.By l) {back:Bool} {k st en ad pt:Int} (hk:(kdV l 0 back).1=1)(h:fd1 l (kdV l 0 back).2=fdY k st en ad pt):Was l back k st en ad pt:=by
 obtain⟨rfl,h1,h2⟩:=kd1 hk;have hp:=(zG4 l false).2;rw[h2]at h hp;simp only at h hp;unfold fd1 at h;split at h
 ·exact absurd h.symm (zCz _ _ _ _ _)
 rename_i x hx
 split at h
 ·rename_i hc
  obtain⟨n,n1,n2,n3,n4,n5,n6,n7⟩:=zV8 hB hp hx hc.1;obtain⟨rfl,rfl,rfl,rfl,rfl⟩:=zJz h;have hd:l.drop x.2=[]:=List.drop_of_length_le (by omega);rw[hd,List.append_nil]at n5;refine⟨l.take 5,[],n,?_,.inl ⟨rfl,rfl,by rw[List.length_take];omega,by rw[zJ0 (by decide) hp];exact h1,rfl⟩,by rw[List.length_take];omega,?_,n1,n2,n3,n4⟩
  ·rw[zJ1 1 _ _ (by omega) (by omega),←n5,List.append_nil,List.take_append_drop]
  ·rw[zJ1 1 _ _ (by omega) (by omega),n6,List.length_take];omega
 ·exact absurd h.symm (zCz _ _ _ _ _)
theorem was_3 {l:List Int} (hB:Mt.By l) {back:Bool} {k st en ad pt:Int} (hk:(kdV l 0 back).1=3)(h:fd3 l (kdV l 0 back).2=fdY k st en ad pt):Was l back k st en ad pt:=by
 obtain⟨rfl,h1,h2⟩:=kd3 hk;have hp:=(zG4 l true).2;rw[h2]at h hp;simp only at h hp;unfold fd3 at h;split at h
 ·exact absurd h.symm (zCz _ _ _ _ _)
 rename_i hps
 obtain⟨a,b,e1,e2,e3⟩:=zV2 (l.drop 4) (fun z hz=>hB z (List.mem_of_mem_drop hz)) (by unfold pst at hps;simpa using hps)
 have hpe:p40 l 4=4+a.length+1:=by
  unfold p40 pst;have:Lib.indexByte (Lib.bytesOf (l.drop 4)) (40:Int).toNat.toUInt8=(a.length:Int):=e2.symm;rw[this];omega
 have hl4:l=(l.take 4++(a++[40]))++b:=by
  have:=List.take_append_drop 4 l;rw[e1]at this;rw[←this];simp[List.take_append_of_le_length,List.length_take,Nat.min_eq_left hp]
 have hpl:(l.take 4++(a++[40])).length=4+a.length+1:=by simp[List.length_take];omega
 have hple:4+a.length+1≤l.length:=by
  have:=congrArg List.length hl4;rw[List.length_append,hpl]at this;omega
 rw[hpe]at h;split at h
 ·exact absurd h.symm (zCz _ _ _ _ _)
 rename_i x hx
 split at h
 ·rename_i hc
  obtain⟨n,n1,n2,n3,n4,n5,n6,n7⟩:=zV8 hB hple hx hc.1;obtain⟨rfl,rfl,rfl,rfl,rfl⟩:=zJz h;have ht:=(zG8 l hB _ _ nl_end (by decide)).1 hc.2
  have hb:l.drop (4+a.length+1)=b:=by
   have:=congrArg (List.drop (4+a.length+1)) hl4;rw[this,←hpl,zLn]
  rw[hb]at n5;refine⟨l.take 4++(a++[40]),l.drop x.2,n,?_,.inr (.inr (.inl ⟨rfl,rfl,?_,⟨l.take 4,a,rfl,by rw[List.length_take];omega,e3⟩,_,ht⟩)),by rw[hpl],?_,n1,n2,n3,n4⟩
  ·rw[zJ1 3 _ _ (by omega) (by omega),←n5];exact hl4
  ·have:=zCo (pre:=l.take 4++(a++[40])) (r:=b) (t:=zIk) (by rw[hpl];show 4≤_;omega)
   rw[←hl4]at this;rw[←this];exact h1
  ·rw[zJ1 3 _ _ (by omega) (by omega),n6,hpl]
 ·exact absurd h.symm (zCz _ _ _ _ _)
theorem was_2 {l:List Int} (hB:Mt.By l) {back:Bool} {k st en ad pt:Int} (hk:(kdV l 0 back).1=2)(h:fd2 l (kdV l 0 back).2=fdY k st en ad pt):Was l back k st en ad pt:=by
 obtain⟨rfl,h1,h1',h2⟩:=kd2 hk;have hp:=(zG4 l false).2;rw[h2]at h hp;simp only at h hp;unfold fd2 at h;split at h
 ·exact absurd h.symm (zCz _ _ _ _ _)
 rename_i x hx
 split at h
 ·rename_i hc
  unfold zLz at hx;split at hx
  ·cases hx
  rename_i t1
  obtain⟨y,hy,hx⟩:=Option.bind_eq_some_iff.1 hx;split at hx
  ·cases hx
  rename_i t2
  split at hx
  ·cases hx
  rename_i t3
  split at hx
  ·cases hx
  rename_i t4
  obtain rfl:(y.1,dgZ l (y.2+1)+1,zCg l (y.2+1))=x:=by simpa using hx
  simp only at h hc;have t1':tkB l 5 zLy=true:=by simpa using t1
  have t2':tkB l y.2 zDy=true:=by simpa using t2
  have t3':zC7 l (y.2+1)=true:=by simpa using t3
  have t4':tkB l (dgZ l (y.2+1)) zDy=true:=by simpa using t4
  have q1:=zCy t1';have q2:=zCy t2';have q4:=zCy t4';have e1:=(zG8 l hB _ _ nl_one (by decide)).1 t1';have e2:=(zG8 l hB _ _ zQc (by decide)).1 t2';have e4:=(zG8 l hB _ _ zQc (by decide)).1 t4';obtain⟨r1,r2,r3⟩:=zNs 46 (by decide) l hB 4 0 (5+3) y.1 y.2 q1 hy;have hl:=zEs l zG1 4 0 (5+3) y hy;have hb:=zGz l zG1 4 0 (5+3) y hy;obtain⟨f1,f2⟩:=four_is hb hl;obtain⟨n,n1,n2,n3,n4,n5⟩:=zQe hB q2 t3';obtain⟨rfl,rfl,rfl,rfl,rfl⟩:=zJz h;have hd:l.drop (dgZ l (y.2+1)+1)=[]:=List.drop_of_length_le (by omega);have e5:l.drop (dgZ l (y.2+1)+zDy.size)=[]:=hd;rw[e5]at e4
  have hx2:txt 2 (zAs y.1 0) n=l.drop 5:=by
   have e1':l.drop 5=[124,49,124]++l.drop (5+3):=e1;have e2':l.drop y.2=[124]++l.drop (y.2+1):=e2;have e4':l.drop (dgZ l (y.2+1))=[124]++[]:=e4;have n4':l.drop (y.2+1)=dg n++l.drop (dgZ l (y.2+1)):=n4;unfold txt;rw[if_pos rfl,←f1,e1',r1,e2',n4',e4'];simp
  have hlen:=congrArg List.length hx2;rw[List.length_drop]at hlen;refine⟨l.take 5,[],n,?_,.inr (.inl ⟨rfl,rfl,by rw[List.length_take];omega,by rw[zJ0 (by decide) hp];exact h1,by rw[zJ0 (by decide) hp];exact h1',rfl⟩),by rw[List.length_take];omega,?_,n1,n2,n3,f2⟩
  ·rw[hx2,List.append_nil,List.take_append_drop]
  ·rw[hlen,List.length_take];omega
 ·exact absurd h.symm (zCz _ _ _ _ _)
theorem was_4 {l:List Int} (hB:Mt.By l) {back:Bool} {k st en ad pt:Int} (hk:(kdV l 0 back).1=4)(h:fd4 l (kdV l 0 back).2=fdY k st en ad pt):Was l back k st en ad pt:=by
 obtain⟨rfl,h1,h1',h2⟩:=kd4 hk;have hp:=(zG4 l true).2;rw[h2]at h hp;simp only at h hp;unfold fd4 at h;split at h
 ·exact absurd h.symm (zCz _ _ _ _ _)
 rename_i hps
 obtain⟨a,b,e1,e2,e3⟩:=zV2 (l.drop 4) (fun z hz=>hB z (List.mem_of_mem_drop hz)) (by unfold pst at hps;simpa using hps)
 have hpe:p40 l 4=4+a.length+1:=by
  unfold p40 pst;have:Lib.indexByte (Lib.bytesOf (l.drop 4)) (40:Int).toNat.toUInt8=(a.length:Int):=e2.symm;rw[this];omega
 have hl4:l=(l.take 4++(a++[40]))++b:=by
  have:=List.take_append_drop 4 l;rw[e1]at this;rw[←this];simp[List.take_append_of_le_length,List.length_take,Nat.min_eq_left hp]
 have hpl:(l.take 4++(a++[40])).length=4+a.length+1:=by simp[List.length_take];omega
 rw[hpe]at h;split at h
 ·exact absurd h.symm (zCz _ _ _ _ _)
 rename_i t1
 split at h
 ·exact absurd h.symm (zCz _ _ _ _ _)
 rename_i t2
 split at h
 ·exact absurd h.symm (zCz _ _ _ _ _)
 rename_i t3
 have t1':tkB l (4+a.length+1) zJq=true:=by simpa using t1
 have t2':zC7 l (4+a.length+1+3)=true:=by simpa using t2
 have t3':tkB l (dgZ l (4+a.length+1+3)) zLk=true:=by simpa using t3
 have q1:=zCy t1';have f1:=(zG8 l hB _ _ zV4 (by decide)).1 t1';have f3:=(zG8 l hB _ _ zV5 (by decide)).1 t3';obtain⟨n,n1,n2,n3,n4,n5⟩:=zQe hB (show 4+a.length+1+3≤l.length from q1) t2';obtain⟨rfl,rfl,rfl,rfl,rfl⟩:=zJz h
 have hb:l.drop (4+a.length+1)=b:=by
  have:=congrArg (List.drop (4+a.length+1)) hl4;rw[this,←hpl,zLn]
 have f1':b=[124,124,124]++l.drop (4+a.length+1+3):=by rw[←hb];exact f1
 have hl5:l=(l.take 4++(a++[40,124,124,124]))++(dg n++l.drop (dgZ l (4+a.length+1+3))):=by
  rw[←n4];rw[f1']at hl4;have:(l.take 4++(a++[40]))++([124,124,124]++l.drop (4+a.length+1+3))=(l.take 4++(a++[40,124,124,124]))++l.drop (4+a.length+1+3):=by simp
  rw[←this];exact hl4
 have hx4:txt 4 0 n=dg n:=by unfold txt;rw[if_neg (by omega),if_pos rfl]
 have hpl5:(l.take 4++(a++[40,124,124,124])).length=4+a.length+1+3:=by simp[List.length_take];omega
 have k227:=zCo (pre:=l.take 4++(a++[40,124,124,124])) (r:=dg n++l.drop (dgZ l (4+a.length+1+3))) (t:=zIk) (by rw[hpl5];show 4≤_;omega);have k229:=zCo (pre:=l.take 4++(a++[40,124,124,124])) (r:=dg n++l.drop (dgZ l (4+a.length+1+3))) (t:=zP1) (by rw[hpl5];show 4≤_;omega);rw[←hl5]at k227 k229;refine⟨l.take 4++(a++[40,124,124,124]),l.drop (dgZ l (4+a.length+1+3)),n,by rw[hx4];exact hl5,.inr (.inr (.inr ⟨rfl,rfl,by rw[←k227];exact h1,by rw[←k229];exact h1',⟨l.take 4,a,rfl,by rw[List.length_take];omega,e3⟩,_,f3⟩)),by rw[hpl5],by rw[hx4,hpl5,n5],n1,n2,n3,by omega,by omega⟩
theorem fnd_was {l:List Int} (hB:Mt.By l) {back:Bool} {k st en ad pt:Int} (h:zL0 l back=fdY k st en ad pt):Was l back k st en ad pt:=by
 unfold zL0 at h;split at h
 ·exact was_1 hB (by assumption) h
 split at h
 ·exact was_2 hB (by assumption) h
 split at h
 ·exact was_3 hB (by assumption) h
 split at h
 ·exact was_4 hB (by assumption) h
 exact absurd h.symm (zCz _ _ _ _ _)
theorem Sh.kind {k:Int} {back:Bool} {pre suf:List Int} (h:Sh k back pre suf):k=1∨k=2∨k=3∨k=4:=by
 rcases h with⟨h,_⟩|⟨h,_⟩|⟨h,_⟩|⟨h,_⟩<;>omega
theorem fnd_mk {k:Int} {pre suf:List Int} {back:Bool} (h:Sh k back pre suf)(hp:Mt.By pre)(hs:Mt.By suf)(a:Int)(ha:0≤a∧a≤4294967295)(n:Nat)(hn:0<n)(hn2:n≤65535):
  zL0 (pre++(txt k a n++suf)) back=fdY k (pre.length:Nat) ((pre.length+(txt k a n).length:Nat):Int) (if k=4 then 0 else a) n:=by
 rcases h.kind with rfl|rfl|rfl|rfl
 ·exact fnd_mk1 pre suf back hp hs a ha n hn hn2 h
 ·exact fnd_mk2 pre suf back hp hs a ha n hn hn2 h
 ·exact fnd_mk3 pre suf back hp hs a ha n hn hn2 h
 ·exact fnd_mk4 pre suf back hp hs a ha n hn hn2 h
theorem zQf {l:List Int} (h:∀z∈l,z≠13∧z≠10):crl l=false:=by
 unfold crl;rw[List.any_eq_false];intro z hz
 have:=h z hz;unfold zEc;simp
 omega
theorem dg_cr(n:Nat):∀z∈dg n,z≠13∧z≠10:=fun z hz=>by have:=zVg (zVt n z hz);omega
theorem zV9(c:UInt8)(hc:32≤c.toNat):∀(x:List Int) (i:Nat),∀z∈zBz c i x,z≠13∧z≠10
 | [],i=>by intro z hz;simp[zBz]at hz
 | v::r,i=>by
  intro z hz
  rw[zBk]at hz;simp only[List.mem_append]at hz;rcases hz with hz|hz|hz
  ·split at hz
   ·simp at hz
   ·simp at hz;omega
  ·exact dg_cr _ z hz
  ·exact zV9 c hc r (i+1) z hz
theorem txt_cr(k a:Int)(n:Nat):∀z∈txt k a n,z≠13∧z≠10:=by
 unfold txt;intro z hz
 split at hz
 ·simp only[List.mem_append,List.mem_cons,List.mem_singleton]at hz
  rcases hz with(rfl|rfl|rfl|hz)|hz|rfl|hz|rfl|hz
  ·omega
  ·omega
  ·omega
  ·simp at hz
  ·exact zV9 46 (by decide) _ _ z hz
  ·omega
  ·exact dg_cr n z hz
  ·omega
  ·simp at hz
 ·split at hz
  ·exact dg_cr n z hz
  ·exact zV9 44 (by decide) _ _ z hz
theorem fndB_was {zs:List Int} (hB:Mt.By zs) {back:Bool} {k st en ad pt:Int} (h:zEz zs back=fdY k st en ad pt):∃l,zs=l++[13,10]∧crl l=false∧zs.length≤128∧Was l back k st en ad pt:=by
 have hno:zEz zs back≠fdN:=by rw[h];exact zCz _ _ _ _ _
 obtain⟨l,rfl,hc,hl⟩:=zRx (zV1 hno);refine⟨l,rfl,hc,hl,fnd_was (zD2 hB).1 ?_⟩;unfold zEz at h;rw[if_pos (zV1 hno),show(l++[13,10]:List Int).length-2=l.length by simp,List.take_left]at h;exact h
theorem zLo {l:List Int} (back:Bool)(hc:crl l=false)(hl:l.length≤126):zEz (l++[13,10]) back=zL0 l back:=by
 unfold zEz;rw[if_pos (by rw[oneL_mk,hc];simp[hl]),show(l++[13,10]:List Int).length-2=l.length by simp,List.take_left]
theorem zWa {zs:List Int} (back:Bool)(h:128<zs.length):zEz zs back=fdN:=fndB_no (by unfold zJ5;simp;intro _ _;omega)
theorem crl_mid {pre m suf:List Int} (h:crl (pre++(m++suf))=false) {m':List Int} (hm:∀z∈m',z≠13∧z≠10):crl (pre++(m'++suf))=false:=by
 rw[zJw,zJw]at h⊢;rw[zQf hm];simp only[Bool.or_eq_false_iff]at h⊢;exact⟨h.1,trivial,h.2.2⟩
theorem zWb(k a:Int)(n:Nat):0<(txt k a n).length:=by
 unfold txt;split
 ·simp
 ·split
  ·exact zVs n
  ·show 0<(zBz 44 0 ((a/16777216)::_)).length
   rw[zBk];have:=zVs (a/16777216).toNat;simp only[List.length_append];omega
theorem zWc {zs:List Int} (hB:Mt.By zs) {back:Bool} {k st en ad pt:Int} (h:zEz zs back=fdY k st en ad pt)(a:Int)(ha:0≤a∧a≤4294967295)(n:Nat)(hn:0<n)(hn2:n≤65535):
  ∃c,rpl st en zs (txt k a n)=c∧((128<c.length∧zEz c back=fdN)∨(c.length≤128∧zEz c back=fdY k st (st+(txt k a n).length) (if k=4 then 0 else a) n))∧(c.length:Int)=zs.length+(txt k a n).length-(en-st):=by
 obtain⟨l,rfl,hc,hl,pre,suf,m,rfl,hS,rfl,rfl,rfl,hm,hm2,had⟩:=fndB_was hB h;have hp:=(zD2 (zD2 hB).1).1;have hs:=(zD2 (zD2 (zD2 hB).1).2).2
 have hr:rpl (pre.length:Int) ((pre.length+(txt k ad m).length:Nat):Int) (pre++(txt k ad m++suf)++[13,10]) (txt k a n)=(pre++(txt k a n++suf))++[13,10]:=by
  unfold rpl;rw[if_neg (by simp;omega)];have e1:(pre.length:Int).toNat=pre.length:=by omega
  have e2:((pre.length+(txt k ad m).length:Nat):Int).toNat=pre.length+(txt k ad m).length:=by omega
  rw[e1,e2,List.append_assoc,List.take_left,←List.drop_drop,List.drop_left,List.append_assoc,List.drop_left];simp
 refine⟨_,hr,?_,by simp;omega⟩;by_cases h128:((pre++(txt k a n++suf))++[13,10]).length≤128
 ·right
  refine⟨h128,?_⟩;rw[zLo back (crl_mid hc (txt_cr k a n)) (by simp at h128⊢;omega),fnd_mk hS hp hs a ha n hn hn2];congr 1
 ·left
  exact⟨by omega,zWa back (by omega)⟩
theorem zLp(k a:Int)(ha:0≤a∧a≤4294967295)(n:Nat)(hn:n≤65535):(txt k a n).length≤40:=by
 rw[←zD3,zAz];unfold zB0;split
 ·have h1:=zDo zG1 (ad4 a) (zD1 a ha)
  have h2:=zDn n hn;have h3:(ad4 a).length*(5+zG1.size)=24:=rfl;have h4:zLy.size=3:=rfl;have h5:zDy.size=1:=rfl;simp only[ByteArray.size_append];omega
 ·split
  ·have h2:=zDn n hn
   omega
  ·have h1:=zDo cma (ad4 a++po2 n) (zB1 (zD1 a ha) (zP6 n (by omega)))
   have h3:(ad4 a++po2 n).length*(5+cma.size)=36:=rfl;omega
theorem zRz {k:Int} {back:Bool} {pre suf:List Int} (hS:Sh k back pre suf)(hp:Mt.By pre)(hs:Mt.By suf)(hcp:∀z∈pre,z≠13∧z≠10)(hcs:∀z∈suf,z≠13∧z≠10)(hl:pre.length+suf.length≤20)(a:Int)(ha:0≤a∧a≤4294967295)(n:Nat)(hn:0<n)(hn2:n≤65535)(S:ByteArray)(hSe:zBe S=suf++[13,10]):
  zEz (pre++(zBe (zB0 k a n)++zBe S)) back=fdY k (pre.length:Nat) ((pre.length+(txt k a n).length:Nat):Int) (if k=4 then 0 else a) n:=by
 rw[hSe,zD3,show pre++(txt k a n++(suf++[13,10]))=(pre++(txt k a n++suf))++[13,10] by simp];have h1:=zLp k a ha n hn2;rw[zLo back (by rw[zJw,zJw,zQf hcp,zQf (txt_cr k a n),zQf hcs];rfl) (by simp;omega)];exact fnd_mk hS hp hs a ha n hn hn2
theorem sh1:Sh 1 false [80,79,82,84,32] []:= .inl ⟨rfl,rfl,rfl,by decide+kernel,rfl⟩
def nnP:Nat:=tkn 1000 1063 5555
theorem zIm:1000≤nnP∧nnP≤1063:=zT9 (by omega)
def wsP:Nat→Nat:=wsR (zFb (zC1 1000 1063)) nnP
structure S0 (s:Gf):Prop where
 fs:s.fs=[]
 rw:s.rw=rwL []
 ex:s.ex=[]
 cnt:s.cnt=0
 trn:s.trn=0
 bg:s.bg=0
 lo:s.lo=1000
 hi:s.hi=1063
 now:0≤s.now∧s.now≤9
 ps:s.ps=[]
 ls:s.ls=[mqR]
 fe:s.fe=#[]
theorem S0.ltr {s:Gf} (h:S0 s)(n:Int)(v:Value)(hn:0≤n∧n≤9):S0 (ltr s n v):=⟨h.fs,h.rw,h.ex,h.cnt,h.trn,h.bg,h.lo,h.hi,hn,h.ps,h.ls,h.fe⟩
theorem S0.start(s:Gs)(hls:s.ls=[mqR])(hnw:0≤s.now∧s.now≤9):S0 (gfS 1000 1063 s):=⟨rfl,rfl,rfl,rfl,rfl,rfl,rfl,rfl,hnw,rfl,hls,rfl⟩
theorem mq_okP:okL [mqR]:=⟨by simp,fun r hr=>by have e:=List.mem_singleton.1 hr;rw[e];exact⟨by unfold wfR mqR;simp,by decide+kernel⟩⟩
theorem mq_fdP:[mqR].find? (mqB 167772162)=some mqR:=by decide+kernel
def TQP:TkP:=fun n ps pe cp=>n=nnP∧∃pb,ps=[⟨6,16909060,pb,wsP⟩]
theorem F1.first {s:Gf} (h:S0 s) {f:Fl} (hid:f.id=s.bg)(ho:f.o=oF)(hr:f.r=rF nnP)(hsd:f.side=0)(hms:f.ms= -1) {ps:List Pl} {pe:Array MapEntry} {cp:Nat} (hps:∃pb,ps=[⟨6,16909060,pb,wsP⟩]):
  F1 (bcS (opS (zUm s ps pe cp) f) f 1) (f.at 1 (s.now+120)) nnP 1 wsP []∧(bcS (opS (zUm s ps pe cp) f) f 1).trn=0+1+1+1+1:=by
 have hp:f.o.pr=6:=by rw[ho];rfl
 have hi0:f.id=0:=by rw[hid,h.bg]
 have hnw:=h.now
 have hop:opM (zUm s ps pe cp) f=(0+1+1,0+1+1,rwL (rw2 oF (rF nnP) 0 s.now (0+1) (0+1+1))):=by
  unfold opM;show ptT f.r f.id s.now (ptT f.o f.id s.now (s.cnt,s.trn,s.rw))=_
  rw[h.cnt,h.trn,h.rw,ho,hr,hi0];exact rw2_put oF (rF nnP) 0 s.now 0 (by unfold zEw;rw[decide_eq_true_eq];omega) (zM7 _)
 have hbc:bcM (opS (zUm s ps pe cp) f) f (s.now+120)=(0+1+1+1+1,rwL (rw2 oF (rF nnP) 0 (s.now+120) (0+1+1+1) (0+1+1+1+1))):=by
  unfold bcM opS;simp only[hop];rw[ho,hr];exact zH9 oF (rF nnP) 0 s.now (0+1) (0+1+1) _ (0+1+1) (by unfold zEw;rw[decide_eq_true_eq];omega) (zM7 _)
 have htm:tm f.o.pr 1=120:=by rw[hp];decide
 have hnow:(opS (zUm s ps pe cp) f).now=s.now:=rfl
 have hb1:(bcS (opS (zUm s ps pe cp) f) f 1).trn=0+1+1+1+1:=by
  show(bcM _ f (_+tm f.o.pr 1)).1=_
  rw[htm,hnow,hbc]
 refine⟨⟨?_,⟨s.now+120,0+1+1+1,0+1+1+1+1,?_,by omega⟩,hi0,ho,hr,hsd,hms,rfl,h.ex,⟨by simp,by simp⟩,?_,by rw[hb1];omega,?_,h.lo,h.hi,h.now,hps,zIm,by show EsI (s.fe.push _) (s.cf+1);rw[h.fe];exact EsI.pushP (EsI.nilP s.cf) _ _,h.ls⟩,hb1⟩
 ·show (s.fs++[f]).map (fun x=>if x.blk=f.blk then f.at 1 ((opS (zUm s ps pe cp) f).now+tm f.o.pr 1)else x)=_
  rw[h.fs,htm,hnow];simp
 ·show (bcM _ f (_+tm f.o.pr 1)).2=_
  rw[htm,hnow,hbc]
 ·show (opM (zUm s ps pe cp) f).1=_
  rw[hop];rfl
 ·show s.bg+1=_
  rw[h.bg];rfl
theorem synF(base g:Nat)(s:Gf)(nw sq ak:Int)(z:List Int)(sb:Value)(w:World)(hG:GF base w g s)(hS:S0 s)(hbs:base≤w.heap.size)(hT:TG 167772162 134744072 5555 21 sq ak 2 [] z)(nI:Nat)(hI:Ow nI w sb (tgB 64 167772162 134744072 z))(hnw:nw≤9)(hz:∀W,KG base w W→TX W)(hsq:0≤sq∧sq≤4294967295)(hak:0≤ak∧ak≤4294967295)(hgz:6≤w.heap.size):
  Calls Tryz.prog 7 #[.pointer (some ⟨g,0,none⟩),.int .i64 nw,.int .i64 0,sb] w fun e w'=>TpQ base w w' nw s.now (rF nnP) (fun n v y W=>(∃f2 hb,VF base g W f2 hb nnP 1 wsP [] [] [] [] n (0+1+1+1+1))∧TG 16909060 134744072 nnP 21 sq ak 2 [] y) e:=by
 have hn9:=zIm;have hqb:TuB (rF nnP):=by unfold TuB rF;simp;omega
 refine(zGy 457 (fun hb=> .pointer (some ⟨hb,0,none⟩)) 356 zJg zGx base g s 0 nw false (rF nnP) 167772162 134744072 5555 21 sq ak 2 [] z sb (fun n v fb f2 hb2 W=>f2.blk=fb∧oth f2 false=rF nnP∧VF base g W f2 hb2 nnP 1 wsP [] [] [] [] n (0+1+1+1+1)) (fun n v y W=>(∃f2 hb,VF base g W f2 hb nnP 1 wsP [] [] [] [] n (0+1+1+1+1))∧TG 16909060 134744072 nnP 21 sq ak 2 [] y) w hG hbs hT (by simp) nI hI (by omega) (by omega) (.inl rfl) hqb rfl ⟨hS.now.1,by have:=hS.now.2;omega⟩ (by rw[hS.ex];exact⟨by simp,fun _ _=>rfl⟩) (fun n hn=>by rw[hS.rw];exact zGs [] n (by simp)) (by rw[hS.rw];exact Nat.le_trans (zM6 [] 0 (by simp)) (by omega)) (fun W k=>(hz W k).1) ?hOW ?hOF ?hOL ?hCH ?hCS ?hCL ?hCT).mono (fun e w' h=>h)
 case hOW=>
  intro n v W so sd k hn hn1 hn2 hg hd
  have hS2:=hS.ltr n v ⟨hn.1,by have:=hS.now.2;omega⟩
  have hR:RdF (ltr s n v) 167772162 134744072 5555 21 mqR TQP:=⟨by show okL s.ls;rw[hS.ls];exact mq_okP,by show s.ls.find? _=_;rw[hS.ls];exact mq_fdP,by omega,by omega,by omega,by omega,by decide,rfl,by show kx _ _ _ _ _ s.rw=_;rw[hS.rw];rfl,fun m ps pe cp _=>by show kx _ _ _ _ _ s.rw=_;rw[hS.rw];rfl,by show s.fs.length<64;rw[hS.fs];decide,by omega,by show 0≤s.trn∧s.trn≤900000;rw[hS.trn];omega,hn,by show 0≤s.bg∧s.bg≤1000000;rw[hS.bg];omega,(fun y hy=>by
   have hy':y∈s.fs:=hy;rw[hS.fs]at hy';cases hy'),by show 0≤s.cnt∧s.cnt≤1000;rw[hS.cnt];omega,fun i=>by show(s.rw i).length≤4000;rw[hS.rw];exact Nat.le_trans (zM5 [] i) (by simp)⟩
  have hTK:Tk6 base W g (ltr s n v) 5555 mqR TQP:=fun W2 hg2 k2=>by
   have K:=k.trans k2
   refine(zUa base g (ltr s n v) 6 16909060 5555 W2 hg2 hS2.ps (by rw[hS2.lo];omega) (by rw[hS2.lo,hS2.hi];omega) (by rw[hS2.hi];omega) (by omega) (Nat.le_trans hbs K.size) (fun V hV=>(hz V (K.trans (KG.of_but hV (fun q e=>by
    have e':q=s.gp:=e;rw[e']
    exact⟨hg2.bf.2,fun ob ho=>by
     have hp:=hg2.pl;have hp':W2.heap[s.gp]? =some (.map s.pe s.cp):=hp;rw[hp']at ho;cases ho
     exact trivial⟩)))).2.1) (Nat.le_trans hgz K.size)).mono ?_
   rintro e w' ⟨b,rfl,hb,hbs2,hG2⟩;have hlo:(ltr s n v).lo=1000:=hS2.lo;have hhi:(ltr s n v).hi=1063:=hS2.hi;rw[hlo,hhi]at hG2⊢;exact⟨nnP,[⟨6,16909060,b,wsP⟩],_,_,rfl,⟨hb.os,hb.tape,hb.output,hb.size,fun i hi he=>hb.block i hi (fun q=>he (.inl q))⟩,hG2,by omega,rfl,b,rfl⟩
  refine(owner_F base g (ltr s n v) 0 0 64 167772162 134744072 false so sd z 167772162 134744072 5555 21 mqR TQP W hg hR (Nat.le_trans hbs k.size) hTK hT.by_ hd (by have:=hT.len;simp at this;omega) (by omega) (by omega) hT.ok (by rw[hT.fl];decide)).mono ?_;rintro e w2 ⟨f,hb,m,ps,pe,cp,hfb,rfl,k2,q1,q2,q3,q4,q5,q6,hg2,⟨rfl,hps⟩,hm,⟨hHV,hVB⟩,hHN⟩;obtain⟨r1,r2⟩:=F1.first hS2 q1 q2 q3 q4 q5 (pe:=pe) (cp:=cp) hps
  exact⟨f.at 1 ((ltr s n v).now+120),hb,rfl,k2,rfl,by show oth f false=_;unfold oth;rw[q3];rfl,⟨_,hg2,r1,rfl,r2⟩,q6,hHN.toS,hHV,hVB⟩
 case hOF=>
  rintro n v fb f2 hb2 W ⟨rfl,h3,hv⟩;obtain⟨s2,hg2,hS2,_⟩:=hv.gf;exact⟨rfl,(hg2.fb f2 (by rw[hS2.fs];simp)).2,h3,hv.hp⟩
 case hOL=>
  rintro n v fb f2 hb2 A B ⟨h1,h3,hv⟩ l;exact⟨h1,h3,hv.later l⟩
 case hCH=>
  rintro n v fb f2 hb2 n1 W so sd ao co ad cd hw1 hw2 k ⟨rfl,h3,hv⟩ ho hd;exact chgN hT (rF nnP) hqb (by simp) Mt.By.nil hsq hak hsq hak (by omega) g hb2 f2 [] [] [] (by simp) (by simp) (fun W=>∃f2 hb,VF base g W f2 hb nnP 1 wsP [] [] [] [] n (0+1+1+1+1)∧hb=hb2) 167772162 134744072 0 (.inl rfl) (.inl ⟨rfl,rfl,by unfold zGv;rw[if_neg (by decide)]⟩) so sd false rfl 6 167772162 134744072 5555 21 6 (rF nnP).dst (rF nnP).src (rF nnP).dp (rF nnP).sp ao ad co cd W (fun V l=>(hz V (k.trans (KG.of_later l))).2.2.1) ⟨f2,hb2,hv,rfl⟩ (fun A B ⟨f3,hb3,h5,h6⟩ l=>⟨f3,hb3,h5.later l,h6⟩) (fun A B k cur t fz ⟨f3,hb3,h5,h6⟩ hk ht hB=>⟨f3,hb3,h5.aside hk ht hB,h6⟩) (fun V ⟨f3,hb3,h5,h6⟩=>h6▸h5.hn) ⟨by omega,hw2⟩ ho hd|>.mono (fun e w' ⟨zd2,ao2,co2,ad2,cd2,q1,q2,q3,q4,⟨f3,hb3,h5,_⟩,q6⟩=>⟨zd2,ao2,co2,ad2,cd2,q1,q2,q3,q4,⟨f3,hb3,h5⟩,q6⟩)
 case hCS=>
  rintro n v y A B k cur t fz ⟨⟨f3,hb3,h5⟩,h6⟩ hk ht hB;exact⟨⟨f3,hb3,h5.aside hk (by rcases ht with h|h;exact .inl h;exact .inr (.inl h)) hB⟩,h6⟩
 case hCL=>
  rintro n v y W ⟨_,h6⟩;have:=h6.len
  simp at this
  omega
 case hCT=>
  rintro n v y A B ⟨⟨f3,hb3,h5⟩,h6⟩ l;exact⟨⟨f3,hb3,h5.later l⟩,h6⟩
theorem zJ2(first was:Int)(tl:Nat)(ta:Option Addr)(tc:Nat)(hf:0≤first∧first≤4294967295)(hw:1≤was∧was≤100)(ht:1≤tl∧tl≤100):
  zD0 [npP [] ((first+5) % 4294967296) was tl ta tc] first=first∧zD0 [npP [] ((first+5) % 4294967296) was tl ta tc] ((first+(5+was+2)) % 4294967296)=(first+(5+(tl:Int)+2)) % 4294967296:=by
 unfold zD0 npP shf;simp only[List.reverse_cons,List.reverse_nil,List.nil_append,List.isEmpty_nil,if_true];unfold acr bhd ahd;simp only;constructor
 ·rw[if_pos (by simp;omega)]
  rfl
 ·rw[if_neg (by simp;omega),if_neg (by simp;omega)]
  omega
theorem add_ok(s was:Int)(tl:Nat)(hw:1≤was∧was≤100)(ht:1≤tl∧tl≤100):adS [] s was tl=0:=by
 unfold adS okN pssd;simp
 omega
theorem zWd {k:Int} {pre:List Int} (hS:Sh k false pre [])(hk4:k≠4)(hl5:pre.length=5)(hp:Mt.By pre)(hcp:∀z∈pre,z≠13∧z≠10)(a0 a1:Int)(ha0:0≤a0∧a0≤4294967295)(ha1:0≤a1∧a1≤4294967295)(n0 n1:Nat)(h0:0<n0)(h1:0<n1)(g0:n0≤65535)(g1:n1≤65535):
  zEz (pre++(zBe (zB0 k a0 n0)++[13,10])) false=fdY k 5 (5+((zBe (zB0 k a0 n0)).length:Int)) a0 n0∧
  ∃c,rpl 5 (5+((zBe (zB0 k a0 n0)).length:Int)) (pre++(zBe (zB0 k a0 n0)++[13,10])) (zBe (zB0 k a1 n1))=c∧zEz c false=fdY k 5 (5+((zBe (zB0 k a1 n1)).length:Int)) a1 n1∧c.length=5+(zBe (zB0 k a1 n1)).length+2∧Mt.By c:=by
 have e0:=zRz hS hp Mt.By.nil hcp (fun z hz=>by simp at hz) (by simp;omega) a0 ha0 n0 h0 g0 ⟨#[13,10]⟩ rfl;rw[if_neg hk4,hl5]at e0
 have e0':zEz (pre++(zBe (zB0 k a0 n0)++[13,10])) false=fdY k 5 (5+((zBe (zB0 k a0 n0)).length:Int)) a0 n0:=by
  rw[show zBe (⟨#[13,10]⟩:ByteArray)=[13,10]from rfl]at e0;rw[e0,zD3];rfl
 refine⟨e0',?_⟩;have hB:Mt.By (pre++(zBe (zB0 k a0 n0)++[13,10])):=zB1 hp (zB1 (zJs _) zNi);obtain⟨c,hc1,hc2,hc3⟩:=zWc hB e0' a1 ha1 n1 h1 g1;have hl0:=zLp k a0 ha0 n0 g0;have hl1:=zLp k a1 ha1 n1 g1;rw[zD3]at hc3⊢;rw[zD3];rw[zD3]at hc1
 have hcl:c.length=5+(txt k a1 n1).length+2:=by
  simp only[List.length_append,List.length_cons,List.length_nil]at hc3;omega
 refine⟨c,hc1,?_,hcl,?_⟩
 ·rcases hc2 with⟨h,_⟩|⟨_,h⟩
  ·omega
  ·rw[h,if_neg hk4]
 ·rw[←hc1]
  unfold rpl;rw[zD3]at hB;split
  ·exact hB
  ·exact zB1 (hB.take _) (zB1 (zQd k a1 n1 ha1 g1) (fun z hz=>hB z (List.mem_of_mem_drop hz)))
def m2P (p:Nat):Nat:=tkn 1001 1063 p
theorem zG9(p:Nat):1001≤m2P p∧m2P p≤1063:=zT9 (by omega)
theorem nnP_is:nnP=1000:=by unfold nnP tkn;rw[if_neg (by omega)]
theorem els_same {ws ws':Nat→Nat} (h:∀m,m<65536→fr ws m=fr ws' m):els ws=els ws':=by
 rw[zT7,zT7];exact List.filter_congr (fun x hx=>h x (by simpa using hx))
theorem wsP_fr(m:Nat):fr wsP m=fr (zFb (zC1 1001 1063)) m:=by
 unfold wsP wsR;rw[zTz,zPn 1000 1063 m (by omega),zPn 1001 1063 m (by omega),nnP_is];by_cases h:m=1000
 ·subst h;decide
 ·simp only[h,decide_false,Bool.not_false,Bool.and_true,decide_eq_decide]
  omega
theorem zNt(p:Nat):fsb (fr wsP p) (els wsP)=true∧fsn (fr wsP p) p (els wsP)=m2P p:=by
 rw[els_same (fun m _=>wsP_fr m),wsP_fr p];exact⟨(zM3 1001 1063 p (by omega) (by omega)).2,(zM3 1001 1063 p (by omega) (by omega)).1⟩
def zL (p:Nat):List Int:=[80,79,82,84,32]++(zBe (zB0 1 167772162 p)++[13,10])
def tL (p:Nat):List Int:=zBe (zB0 1 16909060 (m2P p))
def wL (p:Nat):Int:=(zBe (zB0 1 167772162 p)).length
def yL (p:Nat):List Int:=rpl 5 (5+wL p) (zL p) (tL p)
theorem zNu(p:Nat)(h:p≤65535):1≤wL p∧wL p≤40:=by
 have h8:=zLp 1 167772162 (by omega) p h;have h9:=zWb 1 167772162 p;rw[←zD3]at h8 h9;unfold wL;omega
theorem zWe(p:Nat):1≤(tL p).length∧(tL p).length≤40:=by
 have hm:=zG9 p;have h8:=zLp 1 16909060 (by omega) (m2P p) (by omega);have h9:=zWb 1 16909060 (m2P p);rw[←zD3]at h8 h9;unfold tL;omega
theorem zLq(p:Nat):((zL p).length:Int)=5+wL p+2:=by
 unfold zL wL;rw[List.length_append,List.length_append];simp
 omega
theorem zIn(p:Nat):Mt.By (zL p):=zB1 (by unfold Mt.By;decide) (zB1 (zJs _) zNi)
theorem zC0(p:Nat)(h0:0<p)(h:p≤65535):zEz (zL p) false=fdY 1 5 (5+wL p) 167772162 p∧zEz (yL p) false=fdY 1 5 (5+((tL p).length:Int)) 16909060 (m2P p)∧(yL p).length=5+(tL p).length+2∧Mt.By (yL p):=by
 have hm:=zG9 p;obtain⟨h1,c,h2,h3,h4,h5⟩:=zWd (k:=1) sh1 (by decide) rfl (by unfold Mt.By;decide) (by decide) 167772162 16909060 (by omega) (by omega) p (m2P p) h0 (by omega) h (by omega);have e:yL p=c:=h2;rw[e];exact⟨h1,h3,h4,h5⟩
theorem unm_line(was:Int)(tl:Nat)(ta:Option Addr)(tc:Nat)(hw:1≤was∧was≤100)(ht:1≤tl∧tl≤100):
  zJd [npP [] 105 was tl ta tc] (100+(5+(tl:Int)+2))=100+(5+was+2):=by
 unfold zJd npP shf;simp only[List.reverse_cons,List.reverse_nil,List.nil_append,List.isEmpty_nil,if_true];unfold acr bhd ahd;simp only;rw[if_neg (by simp;omega),if_neg (by simp;omega)];omega
theorem add_book(p:Nat)(h0:0<p)(h:p≤65535)(now id:Int)(hn:0≤now∧now≤549755813888)(hi:id=0):zJ6 [] ⟨6,134744072,16909060,0,m2P p,167772162,p,id,now+60⟩=0:=by
 have hm:=zG9 p;subst hi
 have h1:rtX ⟨6,134744072,16909060,0,m2P p,167772162,p,0,now+60⟩=true:=by
  unfold rtX crX;simp
  omega
 unfold zJ6;rw[if_neg (by rw[h1];simp),if_neg (by simp),if_neg (by simp[ownN])]
def paL (p:Nat) (ta:Option Addr) (tc:Nat):Pa:=npP [] 105 (wL p) (tL p).length ta tc
def xL (p:Nat) (dl:Int):Ex:=⟨6,134744072,16909060,0,m2P p,167772162,p,0,dl⟩
def VL (base g:Nat) (W:World) (f:Fl) (hb p:Nat) (dl:Int) (ta:Option Addr) (tc:Nat) (now tr:Int):Prop:=VF base g W f hb nnP 3 (wsR wsP (m2P p)) [xL p dl] [paL p ta tc] [] (tL p) now tr
theorem VF.expect {base g:Nat} {w w':World} {f:Fl} {hb p:Nat} {now tr:Int} {s:Gf} (h:VF base g w f hb nnP 3 wsP [] [] [] [] now tr) {b1 pb:Nat} {v1:Value} {l1:List Pa} {e:Ending} (hS:F1 s f nnP 3 wsP [])(hsn:s.now=now)(hst:s.trn=tr)(hn0:0≤now)(hps:s.ps=[⟨6,16909060,pb,wsP⟩])(hl1:l1=[])(hbb:base≤hb)(hQ:FxQ base g hb b1 v1 [] l1 s pb (m2P p) wsP ⟨6,134744072,16909060,0,m2P p,167772162,p,f.id,s.now+60⟩ 105 (wL p) (tL p) w w' e):
  ∃ta tc,VL base g w' f hb p (now+60) ta tc now tr:=by
 obtain⟨xa,xc,_,_,hK,⟨b,v,hG⟩,b0,v0,ta,tc,hC,h0,h1,hO⟩:=hQ;have hid:=hS.id;rw[hS.ex,hid,hsn]at hG;subst hl1;refine⟨ta,tc,⟨_,hG,⟨hS.fs,hS.rw,hS.id,hS.o,hS.r,hS.sd,hS.ms,hS.st,rfl,⟨by simp,by simp[xL];omega⟩,hS.cnt,hS.trn,hS.bg,hS.lo,hS.hi,hS.now,⟨pb,rfl⟩,hS.n9,hS.es,hS.ls⟩,hsn,hst⟩,h.hp,⟨b0,b1,v0,v1,hbb,hC,h0,h1,fun q hq=> ?_⟩,FxQ.hv (nn:=nnP) (f:=f) hK h.hv,h.vb⟩;have e:q=npP [] 105 (wL p) (tL p).length ta tc:=List.mem_singleton.1 hq;rw[e];exact hO
theorem zNv(p:Nat)(h:p≤65535):IntKind.i64.wrap (5+wL p-5)=wL p:=by
 have:=zNu p h;rw[show 5+wL p-5=wL p by omega];exact zMx _ (by omega) (by omega)
theorem chgL {base n1:Nat} {p:Nat} (hp0:0<p)(hp9:p≤65535) {z:List Int} (hT0:TG 167772162 134744072 5555 21 100 1000 24 (zL p) z)(q:Tu)(hq:TuB q)(g hb:Nat)(f:Fl)(src dst:Int)(so sd:Value)(i3 i4:Int)(ao ad:Option Addr)(co cd:Nat)(now tr:Int)(W:World)(hn9:0≤now∧now≤9)(hgz:6≤base)(hz:∀V,KG base W V→TX V)
  (hV:VF base g W f hb nnP 3 wsP [] [] [] [] now tr)(hn:base≤n1∧n1≤W.heap.size)
  (hO:Ow n1 W (.slice ao 0 co) [])(hD:Ow n1 W (.slice ad z.length cd) (rwD 6 q.dst q.src q.dp q.sp z)):
  Calls Tryz.prog 356 #[.pointer (some ⟨hb,0,none⟩),.agg #[.pointer (some ⟨g,0,none⟩),.int .u8 0,.int .u16 0,.bool false,.int .u8 64,.int .u8 6,.int .u32 src,.int .u32 dst,so,sd,.int .i64 0,.pointer (some ⟨f.blk,0,none⟩),.bool false,.int .u8 6,.int .u32 167772162,.int .u32 134744072,.int .u16 5555,.int .u16 21,.int .u8 6,.int .u32 16909060,.int .u32 134744072,.int .u16 i3,.int .u16 i4],.agg #[.int .u8 0,.int .u16 0,.bool false,.int .u8 64,.int .u8 6,.int .u32 q.dst,.int .u32 q.src,.slice ao 0 co,.slice ad z.length cd]] W fun e w'=>ChT base n1 W w' 0 0 64 6 q false [] (fun y W'=>(∃ta tc,VL base g W' f hb p (now+60) ta tc now tr)∧TG q.dst q.src q.dp q.sp 100 1000 24 (yL p) y) e:=by
 obtain⟨hf1,hf2,hf3,hf4⟩:=zC0 p hp0 hp9;have hw:=zNu p hp9;have ht:=zWe p;have hzl:=zLq p;have htk:=zNt p;have hm:=zG9 p;have htop:=fun ta tc=>zJ2 100 (wL p) (tL p).length ta tc (by omega) (by omega) (by omega);refine zJj hT0 q hq (by omega) (by omega) (zIn p) hf4 (by omega) (by omega) (by omega) (by omega) (by omega) g hb f.blk (fun V=>VF base g V f hb nnP 3 wsP [] [] [] [] now tr∧KG base W V) (fun V=>∃ta tc,VL base g V f hb p (now+60) ta tc now tr) src dst 0 so sd false 6 167772162 134744072 5555 21 6 16909060 134744072 i3 i4 ao ad co cd W ⟨hV,KG.of_later (Later.refl _)⟩ (fun A B h l=>⟨h.1.later l,h.2.trans (KG.of_later l)⟩) (fun A B ⟨ta,tc,h⟩ l=>⟨ta,tc,h.later l⟩) (fun A B k cur t fz ⟨ta,tc,h⟩ hk ht hB=>⟨ta,tc,h.aside hk (by rcases ht with h|h;exact .inl h;exact .inr (.inr h)) hB⟩) (fun V ⟨ta,tc,h⟩=>HfS.st h.hn (by simp) (by simp) (.inl ⟨rfl,(htop ta tc).1,by unfold zGv;split<;>rfl⟩)) hn hO hD ?_;intro V n0 aO cO am cm l hV0 hn0 hn0V hm
 obtain⟨hV0,hk0⟩:=hV0;obtain⟨s,hG,hS,hsn,hst⟩:=hV0.gf;obtain⟨pb,hps⟩:=hS.ps;obtain⟨b0,b1,v0,v1,hbb,hC,h0,h1,_⟩:=hV0.hn;have hpb:=(hG.pb ⟨6,16909060,pb,wsP⟩ (by rw[hps];simp)).1;refine zP9 base n0 g hb b0 b1 f false false (zL p) (tL p) (yL p) (5+wL p) p (wL p) src dst so sd 6 134744072 5555 21 6 16909060 134744072 i3 i4 q.dp q.sp 1000 24 0 0 aO am cO cm (fun V=>∃ta tc,VL base g V f hb p (now+60) ta tc now tr) V hC (zIn p) (by omega) (by omega) hf1 (by omega) (zNv p hp9) rfl hn0V hm (fun U lu=>(hz U (hk0.trans (KG.of_later lu))).2.2.1) (fun A B ⟨ta,tc,h⟩ l=>⟨ta,tc,h.later l⟩) (fun U lu=>(zRw base b0 v0 105 (wL p) U (h0.later lu)).mono (fun e w' ⟨h,h'⟩=>⟨h'▸Later.refl _,none,0,0,h,fun h=>by cases h⟩)) (fun _ U lu=> ?_);refine(zNq base g hb b0 b1 v0 v1 [] [] s f pb (m2P p) p wsP 1 5 (5+wL p) 167772162 105 (wL p) src dst so sd false 6 167772162 134744072 5555 21 134744072 i3 i4 (tL p) U (hG.later lu) (by rw[hS.fs];simp) hps (Nat.le_trans hgz hpb) (by have:=lu.size;omega) hbb (zAb lu hC) (h0.later lu) (h1.later lu) (by simp) (by decide) (by omega) (by omega) (zNv p hp9) (by omega) htk.1 htk.2 (by omega) rfl (add_ok 105 (wL p) _ (by omega) (by omega)) (by rw[hS.ex];simp) (by rw[hS.ex];exact add_book p hp0 hp9 s.now f.id (by omega) hS.id) (fun X k=>hz X (hk0.trans ((KG.of_later lu).trans k)))).mono ?_;intro e w' hQ
 obtain⟨ta,tc,hVL⟩:=(hV0.later lu).expect hS hsn hst hn9.1 hps rfl hbb hQ;obtain⟨xa,xc,he,hR,hK,_⟩:=hQ;exact⟨xa,xc,he,hR,FxQ.kgl hbb hK,ta,tc,hVL⟩
theorem chgL2 {base n1:Nat} {p:Nat} (hp0:0<p)(hp9:p≤65535) {z:List Int} (hT0:TG 167772162 134744072 5555 21 100 1000 24 (zL p) z)(q:Tu)(hq:TuB q)(g hb:Nat)(f:Fl)(dl:Int)(ta:Option Addr)(tc:Nat)(VQ:World→Prop)(src dst:Int)(so sd:Value)(i3 i4:Int)(ao ad:Option Addr)(co cd:Nat)(W:World)(hz:∀V,KG base W V→TX V)
  (hV:VQ W)(hVL:∀A B,VQ A→Later A B→VQ B)(hVS:∀(A B:World) (k:Nat) (cur:Array Value) (t:TypeId) (fz:Nat × Nat),VQ A→A.heap[k]? =some (.cells cur t fz)→AsT t→But (fun q=>q=k) A B→VQ B)(hVH:∀V,VQ V→HfS base V hb [paL p ta tc] [] (tL p))(hn:base≤n1∧n1≤W.heap.size)
  (hO:Ow n1 W (.slice ao 0 co) [])(hD:Ow n1 W (.slice ad z.length cd) (rwD 6 q.dst q.src q.dp q.sp z)):
  Calls Tryz.prog 356 #[.pointer (some ⟨hb,0,none⟩),.agg #[.pointer (some ⟨g,0,none⟩),.int .u8 0,.int .u16 0,.bool false,.int .u8 64,.int .u8 6,.int .u32 src,.int .u32 dst,so,sd,.int .i64 0,.pointer (some ⟨f.blk,0,none⟩),.bool false,.int .u8 6,.int .u32 167772162,.int .u32 134744072,.int .u16 5555,.int .u16 21,.int .u8 6,.int .u32 16909060,.int .u32 134744072,.int .u16 i3,.int .u16 i4],.agg #[.int .u8 0,.int .u16 0,.bool false,.int .u8 64,.int .u8 6,.int .u32 q.dst,.int .u32 q.src,.slice ao 0 co,.slice ad z.length cd]] W fun e w'=>ChT base n1 W w' 0 0 64 6 q false [] (fun y W'=>VQ W'∧TG q.dst q.src q.dp q.sp 100 1000 24 (yL p) y) e:=by
 obtain⟨hf1,hf2,hf3,hf4⟩:=zC0 p hp0 hp9;have hw:=zNu p hp9;have ht:=zWe p;have hzl:=zLq p;have htop:=zJ2 100 (wL p) (tL p).length ta tc (by omega) (by omega) (by omega);refine zJj hT0 q hq (by omega) (by omega) (zIn p) hf4 (by omega) (by omega) (by omega) (by omega) (by omega) g hb f.blk (fun V=>VQ V∧KG base W V) VQ src dst 0 so sd false 6 167772162 134744072 5555 21 6 16909060 134744072 i3 i4 ao ad co cd W ⟨hV,KG.of_later (Later.refl _)⟩ (fun A B h l=>⟨hVL _ _ h.1 l,h.2.trans (KG.of_later l)⟩) hVL (fun A B k cur t fz h hk ht hB=>hVS A B k cur t fz h hk (by rcases ht with h|h;exact .inl h;exact .inr (.inr h)) hB) (fun V h=>(hVH V h).st (by simp) (by simp) (.inl ⟨rfl,htop.1,by unfold zGv;split<;>rfl⟩)) hn hO hD ?_;intro V n0 aO cO am cm l hV0 hn0 hn0V hm
 obtain⟨hV0,hk0⟩:=hV0;obtain⟨b0,b1,v0,v1,hbb,hC,h0,h1,htx⟩:=hVH V hV0;refine zP9 base n0 g hb b0 b1 f true false (zL p) (tL p) (yL p) (5+wL p) p (wL p) src dst so sd 6 134744072 5555 21 6 16909060 134744072 i3 i4 q.dp q.sp 1000 24 0 0 aO am cO cm VQ V hC (zIn p) (by omega) (by omega) hf1 (by omega) (zNv p hp9) rfl hn0V hm (fun U lu=>(hz U (hk0.trans (KG.of_later lu))).2.2.1) hVL (fun U lu=>(zVr base b0 v0 (paL p ta tc) 105 (wL p) (tL p) U (h0.later lu) rfl rfl (by omega) (by omega) ((htx _ (by simp)).later lu) (by omega)).mono (fun e w' ⟨l2,av,cv,he,ho⟩=>⟨l2,av,_,cv,he,fun _=>⟨rfl,ho.rd,hVL _ _ hV0 (lu.trans l2)⟩⟩)) (fun h=>by cases h)
theorem passL(base g:Nat)(f:Fl)(hb p:Nat)(now tr nw:Int)(z:List Int)(sb:Value)(w:World)(hp0:0<p)(hp9:p≤65535)(h:VF base g w f hb nnP 3 wsP [] [] [] [] now tr)(hgz:6≤base)(hbs:base≤w.heap.size)(hT:TG 167772162 134744072 5555 21 100 1000 24 (zL p) z)(nI:Nat)(hI:Ow nI w sb (tgB 64 167772162 134744072 z))(hnw:nw≤9)(hn0:0≤now∧now≤9)(htr:tr≤98)(hz:∀W,KG base w W→TX W):
  Calls Tryz.prog 7 #[.pointer (some ⟨g,0,none⟩),.int .i64 nw,.int .i64 0,sb] w fun e w'=>TpQ base w w' nw now (rF nnP) (fun n v y W=>(∃f2 ta tc dl,f2.blk=f.blk∧60≤dl∧VL base g W f2 hb p dl ta tc n (tr+1+1))∧TG 16909060 134744072 nnP 21 100 1000 24 (yL p) y) e:=by
 have hw:=zNu p hp9;have hzl:=zLq p;have ht:=zWe p;obtain⟨_,_,hyl,_⟩:=zC0 p hp0 hp9;have hn9:=zIm;refine passF base g f hb nnP 3 3 wsP [] [] [] [] now tr nw 0 false (rF nnP) 167772162 134744072 5555 21 100 1000 24 (zL p) z sb w (fun n y W=>(∃f2 ta tc dl,f2.blk=f.blk∧60≤dl∧VL base g W f2 hb p dl ta tc n (tr+1+1))∧TG 16909060 134744072 nnP 21 100 1000 24 (yL p) y) h hbs hT (by omega) nI hI (.inr ⟨rfl,rfl⟩) rfl rfl hnw htr (by decide) (by omega) (by decide) (fun W k=>(hz W k).1) ?hCH ?hCS ?hCL ?hCT
 case hCH=>
  intro n f2 n1 W so sd ao co ad cd hn1 hn2 hw1 hw2 k hfb hv ho hd
  rw[←hfb];refine(chgL hp0 hp9 hT (rF nnP) (zVo hn9) g hb f2 167772162 134744072 so sd nnP 21 ao ad co cd n (tr+1+1) W (by omega) hgz (fun V kv=>hz V (k.trans kv)) hv ⟨by omega,hw2⟩ ho hd).mono ?_;rintro e w' ⟨zd2,ao2,co2,ad2,cd2,q1,q2,q3,q4,⟨ta,tc,h5⟩,q6⟩;exact⟨zd2,ao2,co2,ad2,cd2,q1,q2,q3,q4,⟨f2,ta,tc,n+60,rfl,by omega,h5⟩,q6⟩
 case hCS=>
  rintro n y A B k cur t fz ⟨⟨f3,ta,tc,dl,e3,hdl,h5⟩,h6⟩ hk ht hB;exact⟨⟨f3,ta,tc,dl,e3,hdl,h5.aside hk (by rcases ht with h|h;exact .inl h;exact .inr (.inl h)) hB⟩,h6⟩
 case hCL=>
  rintro n y W ⟨_,h6⟩;have:=h6.len;omega
 case hCT=>
  rintro n y A B ⟨⟨f3,ta,tc,dl,e3,hdl,h5⟩,h6⟩ l;exact⟨⟨f3,ta,tc,dl,e3,hdl,h5.later l⟩,h6⟩
theorem passL2(base g:Nat)(f:Fl)(hb p:Nat)(dl:Int)(ta:Option Addr)(tc:Nat)(now tr nw:Int)(z:List Int)(sb:Value)(w:World)(hp0:0<p)(hp9:p≤65535)(h:VL base g w f hb p dl ta tc now tr)(hbs:base≤w.heap.size)(hT:TG 167772162 134744072 5555 21 100 1000 24 (zL p) z)(nI:Nat)(hI:Ow nI w sb (tgB 64 167772162 134744072 z))(hnw:nw≤9)(htr:tr≤98)(hz:∀W,KG base w W→TX W):
  Calls Tryz.prog 7 #[.pointer (some ⟨g,0,none⟩),.int .i64 nw,.int .i64 0,sb] w fun e w'=>TpQ base w w' nw now (rF nnP) (fun n v y W=>(∃f2,f2.blk=f.blk∧VL base g W f2 hb p dl ta tc n (tr+1+1))∧TG 16909060 134744072 nnP 21 100 1000 24 (yL p) y) e:=by
 have hw:=zNu p hp9;have hzl:=zLq p;have ht:=zWe p;obtain⟨_,_,hyl,_⟩:=zC0 p hp0 hp9;have hn9:=zIm;refine passF base g f hb nnP 3 3 (wsR wsP (m2P p)) [xL p dl] [paL p ta tc] [] (tL p) now tr nw 0 false (rF nnP) 167772162 134744072 5555 21 100 1000 24 (zL p) z sb w (fun n y W=>(∃f2,f2.blk=f.blk∧VL base g W f2 hb p dl ta tc n (tr+1+1))∧TG 16909060 134744072 nnP 21 100 1000 24 (yL p) y) h hbs hT (by omega) nI hI (.inr ⟨rfl,rfl⟩) rfl rfl hnw htr (by decide) (by omega) (by decide) (fun W k=>(hz W k).1) ?hCH ?hCS ?hCL ?hCT
 case hCH=>
  intro n f2 n1 W so sd ao co ad cd hn1 hn2 hw1 hw2 k hfb hv ho hd
  rw[←hfb];exact chgL2 hp0 hp9 hT (rF nnP) (zVo hn9) g hb f2 dl ta tc (fun W=>∃f3,f3.blk=f2.blk∧VL base g W f3 hb p dl ta tc n (tr+1+1)) 167772162 134744072 so sd nnP 21 ao ad co cd W (fun V kv=>hz V (k.trans kv)) ⟨f2,rfl,hv⟩ (fun A B ⟨f3,e3,h5⟩ l=>⟨f3,e3,h5.later l⟩) (fun A B k cur t fz ⟨f3,e3,h5⟩ hk ht hB=>⟨f3,e3,h5.aside hk ht hB⟩) (fun V ⟨f3,e3,h5⟩=>h5.hn) ⟨by omega,hw2⟩ ho hd
 case hCS=>
  rintro n y A B k cur t fz ⟨⟨f3,e3,h5⟩,h6⟩ hk ht hB;exact⟨⟨f3,e3,h5.aside hk (by rcases ht with h|h;exact .inl h;exact .inr (.inl h)) hB⟩,h6⟩
 case hCL=>
  rintro n y W ⟨_,h6⟩;have:=h6.len;omega
 case hCT=>
  rintro n y A B ⟨⟨f3,e3,h5⟩,h6⟩ l;exact⟨⟨f3,e3,h5.later l⟩,h6⟩
theorem zWf(o r:Tu)(i sd st0 tl0 ms:Int)(w:World)(hp:o.pr=6)(h1:r.sp≠21)(h2:sd=1):
  Calls Tryz.prog 313 #[.agg #[.int .i64 i,.int .u8 o.pr,.int .u32 o.src,.int .u32 o.dst,.int .u16 o.sp,.int .u16 o.dp,.int .u8 r.pr,.int .u32 r.src,.int .u32 r.dst,.int .u16 r.sp,.int .u16 r.dp,.int .i64 sd,.int .i64 st0,.int .i64 tl0,.int .i64 ms]] w fun e w'=>e= .returned noh∧Later w w':=by
 have l0:=zAg w (.cells #[.int .i64 i,.int .u8 o.pr,.int .u32 o.src,.int .u32 o.dst,.int .u16 o.sp,.int .u16 o.dp,.int .u8 r.pr,.int .u32 r.src,.int .u32 r.dst,.int .u16 r.sp,.int .u16 r.dp,.int .i64 sd,.int .i64 st0,.int .i64 tl0,.int .i64 ms] 106);have C0:=zAd (heap_alloc_new w (.cells #[.int .i64 i,.int .u8 o.pr,.int .u32 o.src,.int .u32 o.dst,.int .u16 o.sp,.int .u16 o.dp,.int .u8 r.pr,.int .u32 r.src,.int .u32 r.dst,.int .u16 r.sp,.int .u16 r.dp,.int .i64 sd,.int .i64 st0,.int .i64 tl0,.int .i64 ms] 106));have HP:=zAd hp;have h3:(r.sp==21)=false:=by simp[h1]
 obtain⟨b4,h4⟩:∃b,(r.sp==1723)=b:=⟨_,rfl⟩;subst h2;clear hp h1;go_enter Tryz.func313,Tryz.ntmps313;go_upto_region 1 with fail;generalize w.alloc _=w1 at*;generalize w.heap.size=gx at*;have k0:=zAa C0.out;rw[HP.out]at k0;cases b4
 ·go_wp2_with fail
  go_ret
  exact⟨rfl,l0⟩
 ·go_wp2_with fail
  go_ret
  exact⟨rfl,l0⟩
def HpO (base:Nat) (p:Int) (v:Value) (W:World):Prop:=(p≠21∧v=noh)∨(p=21∧∃hb,v=hft hb∧HfN base W hb)
theorem HpO.kg {base:Nat} {p:Int} {v:Value} {A B:World} (h:HpO base p v A)(k:KG base A B):HpO base p v B:=by
 rcases h with h|⟨h,hb,e,h2⟩
 ·exact .inl h
 ·exact .inr ⟨h,hb,e,h2.kg k⟩
def OpO (base:Nat) (w w':World) (g:Nat) (s:Gf) (o r:Tu) (sd ms:Int) (hv:Value) (e:Ending):Prop:=∃f:Fl,w.heap.size≤f.blk∧e= .returned (.pointer (some ⟨f.blk,0,none⟩))∧KG base w w'∧f.id=s.bg∧f.o=o∧f.r=r∧f.side=sd∧f.ms=ms∧f.hv=hv∧GF base w' g (bcS (opS s f) f 1)∧HpO base r.sp f.hp w'
theorem OpO.from {base g:Nat} {w w1 w':World} {s:Gf} {o r:Tu} {sd ms:Int} {hv:Value} {e:Ending} (h:OpO base w1 w' g s o r sd ms hv e)(l:Later w w1):OpO base w w' g s o r sd ms hv e:=by
 obtain⟨f,h1,h2,h3,h4⟩:=h;exact⟨f,Nat.le_trans l.size h1,h2,(KG.of_later l).trans h3,h4⟩
theorem open_out(base g:Nat)(s:Gf)(o r:Tu)(i0 st0 tl0 ms:Int)(ha:Option Addr)(hn hc:Nat)(w:World)(h:GF base w g s)(hp:o.pr=6)(hbs:base≤w.heap.size)(hBo:TuB o)(hBr:TuB r)(htr:0≤s.trn∧s.trn≤900000)(hnw:0≤s.now∧s.now≤549755813888)(hbg:0≤s.bg∧s.bg≤1000000)(hid:∀x∈s.fs,x.id≠s.bg)(hcn:0≤s.cnt∧s.cnt≤1000)(hln:∀i,(s.rw i).length≤4000):
  Calls Tryz.prog 284 #[.pointer (some ⟨g,0,none⟩),.agg #[.int .i64 i0,.int .u8 o.pr,.int .u32 o.src,.int .u32 o.dst,.int .u16 o.sp,.int .u16 o.dp,.int .u8 r.pr,.int .u32 r.src,.int .u32 r.dst,.int .u16 r.sp,.int .u16 r.dp,.int .i64 1,.int .i64 st0,.int .i64 tl0,.int .i64 ms],.slice ha hn hc] w fun e w'=>OpO base w w' g s o r 1 ms (.slice ha hn hc) e:=by
 refine(open_h base g s o r i0 1 st0 tl0 ms ha hn hc w h hp (fun hT hV W=>HpO base r.sp (.iface hT hV) W) (fun hT hV A B h k=>h.kg k) (fun W hw=> ?_) hbs hBo hBr htr hnw hbg hid hcn hln).mono ?_
 ·by_cases h21:r.sp=21
  ·exact (zIe o r s.bg 1 st0 tl0 ms W hp h21).mono (fun e w' ⟨hb,e1,l,hN⟩=>⟨_,_,e1,l,.inr ⟨h21,hb,rfl,hN.mono hw⟩⟩)
  ·exact (zWf o r s.bg 1 st0 tl0 ms W hp h21 rfl).mono (fun e w' ⟨e1,l⟩=>⟨_,_,e1,l,.inl ⟨h21,rfl⟩⟩)
 ·rintro e w' ⟨f,hT,hV,h1,h2,h3,h4,h5,h6,h7,h8,h9,h10,h11,h12⟩
  exact⟨f,h1,h2,h3,h4,h5,h6,h7,h8,h9,h11,by rw[h10];exact h12⟩
theorem zWg(base g:Nat)(s:Gf)(tos id ttl pr src dst:Int)(keep:Bool)(so sd:Value)(side x d a b host po ms:Int)(ha:Option Addr)(hn hc:Nat)(w:World)(h:GF base w g s)(hbs:base≤w.heap.size)(hk1:kx 6 x d a b s.rw=none)(hk2:kx 6 host x po a s.rw=none)(hx:0≤x∧x≤4294967295)(hd:0≤d∧d≤4294967295)(hha:0≤a∧a≤65535)(hb:0≤b∧b≤65535)(hho:0≤host∧host≤4294967295)(hpo:0≤po∧po≤65535)(hfs:s.fs.length<64)(hne:x≠host)(htr:0≤s.trn∧s.trn≤900000)(hnw:0≤s.now∧s.now≤549755813888)(hbg:0≤s.bg∧s.bg≤1000000)(hid:∀x∈s.fs,x.id≠s.bg)(hcn:0≤s.cnt∧s.cnt≤1000)(hln:∀i,(s.rw i).length≤4000):
  Calls Tryz.prog 286 #[.agg #[.pointer (some ⟨g,0,none⟩),.int .u8 tos,.int .u16 id,.bool keep,.int .u8 ttl,.int .u8 pr,.int .u32 src,.int .u32 dst,so,sd,.int .i64 side],.agg #[.int .u8 6,.int .u32 x,.int .u32 d,.int .u16 a,.int .u16 b],.int .u32 host,.int .u16 po,.int .i64 ms,.slice ha hn hc] w fun e w'=>OpO base w w' g s ⟨6,x,d,a,b⟩ ⟨6,host,x,po,a⟩ 1 ms (.slice ha hn hc) e:=by
 obtain⟨l0,c0,c1⟩:=zBa w (.cells #[.pointer (some ⟨g,0,none⟩),.int .u8 tos,.int .u16 id,.bool keep,.int .u8 ttl,.int .u8 pr,.int .u32 src,.int .u32 dst,so,sd,.int .i64 side] 139) (.cells #[.int .u8 6,.int .u32 x,.int .u32 d,.int .u16 a,.int .u16 b] 103);have C0:=zAd c0;have C1:=zAd c1;have HRM:=zAd (fun W (l:Later w W)=>zGq base g s 6 x d a b 6 host x po a W (h.later l) hk1 hk2 hx hd hha hb hho hx hpo hha hfs (fun e=>hne e.2.1));have HOP:=zAd (fun W (l:Later w W)=>open_out base g s ⟨6,x,d,a,b⟩ ⟨6,host,x,po,a⟩ 0 0 0 ms ha hn hc W (h.later l) rfl (Nat.le_trans hbs l.size) ⟨hx,hd,hha,hb⟩ ⟨hho,hx,hpo,hha⟩ htr hnw hbg hid hcn hln);clear c0 c1 h hk1 hk2 hid hln;go_enter Tryz.func286,Tryz.ntmps286;go_upto_region 1 with fail;generalize (w.alloc (.cells #[.pointer (some ⟨g,0,none⟩),.int .u8 tos,.int .u16 id,.bool keep,.int .u8 ttl,.int .u8 pr,.int .u32 src,.int .u32 dst,so,sd,.int .i64 side] 139)).alloc (.cells #[.int .u8 6,.int .u32 x,.int .u32 d,.int .u16 a,.int .u16 b] 103)=w1 at*;generalize hgx:w.heap.size=gx at C0 C1⊢;have k0:=zAa C0.out;have k1:=zAa C1.out;have la:=zAg w1 (.cells #[.int .u8 6,.int .u32 host,.int .u32 x,.int .u16 po,.int .u16 a] 103);have ca:=zAd (heap_alloc_new w1 (.cells #[.int .u8 6,.int .u32 host,.int .u32 x,.int .u16 po,.int .u16 a] 103));go_upto_region 2 with fail;change Code.wp _ _ _ _ (w1.alloc (.cells #[.int .u8 6,.int .u32 host,.int .u32 x,.int .u16 po,.int .u16 a] 103))
 generalize w1.alloc (.cells #[.int .u8 6,.int .u32 host,.int .u32 x,.int .u16 po,.int .u16 a] 103)=w2 at*;generalize w1.heap.size=g2 at*;have L2:=l0.trans la;have D0:=zAd (zAb la C0.out);have D1:=zAd (zAb la C1.out);clear k0 k1 C0 C1 l0 la;have k0:=zAa D0.out;have k1:=zAa D1.out;have k2:=zAa ca.out;go_wp2_with fail;refine(HRM.out w2 L2).mono ?_;rintro e w3 ⟨rfl,l3⟩;have l3':Later w2 w3:=l3;have E0:=zAd (zAb l3' D0.out);have E1:=zAd (zAb l3' D1.out);have E2:=zAd (zAb l3' ca.out);clear k0 k1 k2 D0 D1 ca l3 HRM;have L3:=L2.trans l3';have k0:=zAa E0.out;have k1:=zAa E1.out;have k2:=zAa E2.out;go_wp2_with fail;refine(zA0 4 _).mono ?_;rintro e w4 ⟨rfl,hw4⟩;subst hw4;have HO4:=zAd (HOP.out _ L3);go_wp2_with fail;refine HO4.out.mono ?_;rintro e w5 hq;have hq2:=hq.from L3;obtain⟨f,q1,rfl,q3⟩:=hq;clear k0 k1 k2;go_wp2_with fail;go_ret
 exact hq2
end Go.Proofs.YteaeilghamjjkaaGreatDoor
