import Derived.Test.YteaeilghamjjkaaGreatDoorX17
import Derived.Deep.DeepCutAuto
import Derived.Deep.CutBlock
import Derived.Test.YteaeilghamjjkaaGreatDoorX18
namespace Go.Proofs.YteaeilghamjjkaaGreatDoor
set_option maxHeartbeats 8000000
open Go.RowKit Go.Shelf
set_option maxRecDepth 100000
set_option linter.unusedVariables false
set_option linter.unusedSimpArgs false
def mvL (ls:Nat→List Rw) (i k:Nat) (till turn:Int):Nat→List Rw:=fun j=>if j=i then(ls i).modify k (fun r=> { r with till:=till,turn:=turn })else ls j
theorem zH5(x y:Int):∀(l:List Rw) (k:Nat),k<l.length→rws (l.modify k (fun r=> { r with till:=x,turn:=y }))=((rws l).set (k*8+6) (.int .i64 x)).set (k*8+7) (.int .i64 y)
 |r::l,0,_=>by simp[rws,rwc]
 |r::l,k+1,h=>by
  have ih:=zH5 x y l k (by simpa using h);unfold rws at ih⊢;simp only[List.modify_succ_cons,List.flatMap_cons,ih];rw[show (k+1)*8+6=(rwc r).length+(k*8+6)from by rw[zCt];omega,show(k+1)*8+7=(rwc r).length+(k*8+7)from by rw[zCt];omega];rw[List.set_append_right _ _ (by omega),List.set_append_right _ _ (by omega)];simp
theorem TBv.moved {base bt:Nat} {W:World} {lim cnt trn:Int} {vs:List Value} {ls:Nat→List Rw} (hT:TBv base W bt lim cnt trn vs ls)(i:Nat)(hi:i<256) {g cap k:Nat} (hv:vs[i]?.getD undef= .slice (some ⟨g,0,none⟩) (ls i).length cap)(hk:k<(ls i).length)(x y:Int):
  TBv base ((W.setCell ⟨g,k*8+6,none⟩ (.int .i64 x)).setCell ⟨g,k*8+7,none⟩ (.int .i64 y)) bt lim cnt trn vs (mvL ls i k x y):=by
 have hb:But (fun b=>b=g) W ((W.setCell ⟨g,k*8+6,none⟩ (.int .i64 x)).setCell ⟨g,k*8+7,none⟩ (.int .i64 y)):=((But.refl (fun b=>b=g) W).setCell (p:=⟨g,k*8+6,none⟩) rfl _).setCell (p:=⟨g,k*8+7,none⟩) rfl _;have hO:=hT.2.2.2.1 i hi;rw[hv]at hO
 have hgt:∃cur,W.heap[g]? =some (.cells cur 220 (0,0)):=by
  rcases hO.2 with⟨e,_⟩|⟨g',cp,cur,e,_,hh,_⟩
  ·cases e
  ·cases e;exact⟨cur,hh⟩
 have hne:bt≠g:=fun e=>by obtain⟨cur,hh⟩:=hgt;rw[←e,hT.2.2.1]at hh;cases hh
 refine⟨hT.1,hT.2.1,(hb.block bt (eS hT.2.2.1) hne).trans hT.2.2.1,fun j hj=> ?_,hT.2.2.2.2⟩;by_cases hji:j=i
 ·subst hji
  have h2:=((hO.stored (k*8+6) (.int .i64 x)).1.stored (k*8+7) (.int .i64 y)).1;rw[hv];unfold mvL;rw[if_pos rfl,List.length_modify,zH5 x y _ k hk];exact h2
 ·have h2:=hT.2.2.2.1 j hj
  unfold mvL;rw[if_neg hji];refine⟨h2.1,h2.2.imp id ?_⟩;rintro⟨g',cp,cur,e1,e2,e3,r⟩;have hgg:g'≠g:=fun e=>hT.2.2.2.2 i j hi hj (fun e=>hji e.symm) g (by rw[hv];rfl) (by rw[e1,e];rfl);exact⟨g',cp,cur,e1,e2,(hb.block g' (eS e3) hgg).trans e3,r⟩
def KT (w w':World):Prop:=∀(k:Nat) (cur:Array Value) (t:TypeId) (f:Nat × Nat),w.heap[k]? =some (.cells cur t f)→t≠217→t≠220→w'.heap[k]? =some (.cells cur t f)
theorem KT.of_but {E:Nat→Prop} {w w':World} (h:But E w w')(hE:∀g,E g→∃cur t f,w.heap[g]? =some (.cells cur t f)∧(t=217∨t=220)):KT w w':=fun k cur t f hk h1 h2=>by
 refine(h.block k (eS hk) (fun e=> ?_)).trans hk;obtain⟨c2,t2,f2,q,ht⟩:=hE k e;rw[hk]at q;cases q
 rcases ht with ht|ht
 ·exact h1 ht
 ·exact h2 ht
def KM (w w':World):Prop:=∀(k:Nat) (o:Obj),w.heap[k]? =some o→(∀cur t f,o= .cells cur t f→t≠217∧t≠220)→w'.heap[k]? =some o
theorem KM.of_but {E:Nat→Prop} {w w':World} (h:But E w w')(hE:∀g,E g→∃cur t f,w.heap[g]? =some (.cells cur t f)∧(t=217∨t=220)):KM w w':=fun k o hk h1=>by
 refine(h.block k (eS hk) (fun e=> ?_)).trans hk;obtain⟨c2,t2,f2,q,ht⟩:=hE k e;rw[hk]at q;obtain⟨q1,q2⟩:=h1 c2 t2 f2 (Option.some.inj q);rcases ht with ht|ht
 ·exact q1 ht
 ·exact q2 ht
theorem KM.of_later {w w':World} (h:Later w w'):KM w w':=fun k o hk _=>zAb h hk
theorem KM.map {w w':World} (h:KM w w') {k:Nat} {m:Array MapEntry} {c:Nat} (hk:w.heap[k]? =some (.map m c)):w'.heap[k]? =some (.map m c):=h k _ hk (fun _ _ _ e=>by cases e)
theorem KT.of_later {w w':World} (h:Later w w'):KT w w':=fun k cur t f hk _ _=>zAb h hk
theorem TBv.typed {base bt:Nat} {W:World} {lim cnt trn:Int} {vs:List Value} {ls:Nat→List Rw} (hT:TBv base W bt lim cnt trn vs ls)(i:Nat)(hi:i<256):∀g,(g=bt∨(vs[i]?.getD undef).ownBlock=some g)→∃cur t f,W.heap[g]? =some (.cells cur t f)∧(t=217∨t=220):=fun g h=>by
 rcases h with rfl|h
 ·exact ⟨_,_,_,hT.2.2.1,.inl rfl⟩
 ·rcases (hT.2.2.2.1 i hi).2 with⟨e,_⟩|⟨g',cp,cur,e,_,hh,_⟩
  ·rw[e]at h;cases h
  ·rw[e]at h
   cases h
   exact⟨_,_,_,hh,.inr rfl⟩
def move (ls:Nat→List Rw) (p s d a b till:Int):Int:=if zEw till=false then 2 else if kx p s d a b ls=none then 11 else 0
theorem move_any(base bt:Nat)(lim cnt trn:Int)(ls:Nat→List Rw)(p s d a b till:Int)(w:World)(hT:TB base w bt lim cnt trn ls)(hs:0≤s∧s≤4294967295)(hd:0≤d∧d≤4294967295)(ha:0≤a∧a≤65535)(hb:0≤b∧b≤65535)(hbs:base≤w.heap.size)(htr:0≤trn∧trn≤1000000):
  Calls Tryz.prog 242 #[.pointer (some ⟨bt,0,none⟩),.agg #[.int .u8 p,.int .u32 s,.int .u32 d,.int .u16 a,.int .u16 b],.int .i64 till] w fun e w'=>e= .returned (.int .i64 (move ls p s d a b till))∧
   ((move ls p s d a b till≠0∧TB base w' bt lim cnt trn ls∧Below w.heap.size w w')∨(move ls p s d a b till=0∧∃k g,kx p s d a b ls=some k∧base≤g∧TB base w' bt lim cnt (trn+1) (mvL ls (bki p s d a b) k till (trn+1))∧But (fun h=>h=bt∨h=g) w w'∧KT w w'∧KM w w')):=by
 obtain⟨vs,hT⟩:=hT;have lb0:Later w (w.alloc (.cells #[.int .u8 p,.int .u32 s,.int .u32 d,.int .u16 a,.int .u16 b] 103)):=bA _ _;have t0:=heap_alloc_new w (.cells #[.int .u8 p,.int .u32 s,.int .u32 d,.int .u16 a,.int .u16 b] 103);go_enter Tryz.func242,Tryz.ntmps242;go_wp2_with fail;generalize w.alloc (.cells #[.int .u8 p,.int .u32 s,.int .u32 d,.int .u16 a,.int .u16 b] 103)=w0 at*;refine(zKh till w0).mono ?_;rintro e w1 ⟨rfl,rfl⟩;have hT1:=hT.later lb0;cases hm:zEw till with
 |false=>
  have HQ:Hid (move ls p s d a b till=2):=if_pos hm;clear hm;go_wp2_with fail;go_ret
  exact⟨by rw[HQ.out];rfl,.inl ⟨by rw[HQ.out];decide,⟨vs,hT1⟩,lb0⟩⟩
 | true=>
  have k0:=zAa t0;go_wp2_with fail;clear k0;refine(zGe base bt lim cnt trn vs ls p s d a b w1 hT1 hs hd ha hb).mono ?_;rintro e w2 ⟨hb2,⟨hk,rfl⟩|⟨k,g2,cap,hk,hkl,hv,rfl⟩⟩
  ·have L2:=lb0.trans (show Later w1 w2 from hb2)
   have hT2:=hT.later L2;have HQ:Hid (move ls p s d a b till=11):=by show _=_;unfold move;rw[hm,hk];simp
   clear hm hk;go_wp2_with fail;go_ret
   exact⟨by rw[HQ.out];rfl,.inl ⟨by rw[HQ.out];decide,⟨vs,hT2⟩,L2⟩⟩
  ·have L2:=lb0.trans (show Later w1 w2 from hb2)
   have hT2:=hT.later L2;have HQ:Hid (move ls p s d a b till=0):=by show _=_;unfold move;rw[hm,hk];simp
   have HK:=zAd hk;have HV:=zAd hv;clear hm hk hv;go_wp2_with fail;refine(zO4 base bt lim cnt trn vs ls w2 hT2 htr).mono ?_;rintro e w3 ⟨rfl,hb3,hT3⟩;have hcc:=hT3.row _ (zDz p s d a b) HV.out hkl;have c6:=hcc 6 (by omega);have c7:=hcc 7 (by omega);have hgO:=hT3.2.2.2.1 _ (zDz p s d a b);rw[HV.out]at hgO
   have hgt:base≤g2∧∃cur,w3.heap[g2]? =some (.cells cur 220 (0,0)):=by
    rcases hgO.2 with⟨e,_⟩|⟨g',cp,cur,e,h1,hh,_⟩
    ·cases e
    ·cases e;exact⟨h1,cur,hh⟩
   obtain⟨hbg,cur,hcur⟩:=hgt;have F:=zAc hcur;have HM:=zAd (hT3.moved _ (zDz p s d a b) HV.out hkl till (trn+1))
   have HB:Hid (But (fun h=>h=bt∨h=g2) w ((w3.setCell ⟨g2,k*8+6,none⟩ (.int .i64 till)).setCell ⟨g2,k*8+7,none⟩ (.int .i64 (trn+1)))):=by
    show But _ _ _
    refine((But.trans (But.of L2) (⟨hb3.os,hb3.tape,hb3.output,hb3.size,fun q hq he=>hb3.block q hq (fun e=>he (.inl e))⟩:But (fun h=>h=bt∨h=g2) w2 w3)).setCell (p:=⟨g2,k*8+6,none⟩) (.inr rfl) _).setCell (p:=⟨g2,k*8+7,none⟩) (.inr rfl) _
   have HKT:Hid (KT w ((w3.setCell ⟨g2,k*8+6,none⟩ (.int .i64 till)).setCell ⟨g2,k*8+7,none⟩ (.int .i64 (trn+1)))):=KT.of_but HB.out (fun g hg=>hT.typed _ (zDz p s d a b) g (hg.imp id (fun e=>by rw[HV.out,e];rfl)));have HKM:Hid (KM w ((w3.setCell ⟨g2,k*8+6,none⟩ (.int .i64 till)).setCell ⟨g2,k*8+7,none⟩ (.int .i64 (trn+1)))):=KM.of_but HB.out (fun g hg=>hT.typed _ (zDz p s d a b) g (hg.imp id (fun e=>by rw[HV.out,e];rfl)));clear hcc hgO hT3 hT2 hT1 hT hb3 hcur;simp only[rwc,List.getElem?_cons_zero,List.getElem?_cons_succ]at c6 c7;go_wp2_with fail;go_ret
   exact⟨by rw[HQ.out];rfl,.inr ⟨HQ.out,k,g2,HK.out,hbg,⟨vs,HM.out⟩,HB.out,HKT.out,HKM.out⟩⟩
def tmT (s:Int):Int:=if s==1||s==4||s==6 then 120 else if s==2||s==5 then 60 else if s==3 then 432000 else if s==7 then 10 else 0
def tmO (s u e:Int):Int:=if s==8 then u else if s==3 then e else 0
def tm (p s:Int):Int:=if p==6 then tmT s else if p==17||p==47 then tmO s 30 180 else if p==1 then tmO s 30 30 else 0
theorem zI7(s:Int)(w:World):Calls Tryz.prog 289 #[.int .i64 s] w fun e w'=>e= .returned (.int .i64 (tmT s))∧w'=w:=by
 by_cases e1:s=1
 ·subst e1
  go_enter Tryz.func289,Tryz.ntmps289;go_wp2_with fail;go_ret
  exact⟨rfl,rfl⟩
 by_cases e2:s=2
 ·subst e2
  clear e1;go_enter Tryz.func289,Tryz.ntmps289;go_wp2_with fail;go_ret
  exact⟨rfl,rfl⟩
 by_cases e3:s=3
 ·subst e3
  clear e1 e2;go_enter Tryz.func289,Tryz.ntmps289;go_wp2_with fail;go_ret
  exact⟨rfl,rfl⟩
 by_cases e4:s=4
 ·subst e4
  clear e1 e2 e3;go_enter Tryz.func289,Tryz.ntmps289;go_wp2_with fail;go_ret
  exact⟨rfl,rfl⟩
 by_cases e5:s=5
 ·subst e5
  clear e1 e2 e3 e4;go_enter Tryz.func289,Tryz.ntmps289;go_wp2_with fail;go_ret
  exact⟨rfl,rfl⟩
 by_cases e6:s=6
 ·subst e6
  clear e1 e2 e3 e4 e5;go_enter Tryz.func289,Tryz.ntmps289;go_wp2_with fail;go_ret
  exact⟨rfl,rfl⟩
 by_cases e7:s=7
 ·subst e7
  clear e1 e2 e3 e4 e5 e6;go_enter Tryz.func289,Tryz.ntmps289;go_wp2_with fail;go_ret
  exact⟨rfl,rfl⟩
 have f1:(s==1)=false:=by simp[e1]
 have f2:(s==2)=false:=by simp[e2]
 have f3:(s==3)=false:=by simp[e3]
 have f4:(s==4)=false:=by simp[e4]
 have f5:(s==5)=false:=by simp[e5]
 have f6:(s==6)=false:=by simp[e6]
 have f7:(s==7)=false:=by simp[e7]
 clear e1 e2 e3 e4 e5 e6 e7;have ht:tmT s=0:=by unfold tmT;rw[f1,f2,f3,f4,f5,f6,f7];rfl
 rw[ht];clear ht;go_enter Tryz.func289,Tryz.ntmps289;go_wp2_with fail;go_ret
 exact⟨rfl,rfl⟩
theorem zCc(s u e:Int)(w:World):Calls Tryz.prog 290 #[.int .i64 s,.int .i64 u,.int .i64 e] w fun e1 w'=>e1= .returned (.int .i64 (tmO s u e))∧w'=w:=by
 rcases Bool.eq_false_or_eq_true (s==8)with f8|f8
 ·rw[show tmO s u e=u from by unfold tmO;rw[f8];rfl]
  go_enter Tryz.func290,Tryz.ntmps290;go_wp2_with fail;go_ret
  exact⟨rfl,rfl⟩
 rcases Bool.eq_false_or_eq_true (s==3)with f3|f3
 ·rw[show tmO s u e=e from by unfold tmO;rw[f8,f3];rfl]
  go_enter Tryz.func290,Tryz.ntmps290;go_wp2_with fail;go_ret
  exact⟨rfl,rfl⟩
 ·rw[show tmO s u e=0 from by unfold tmO;rw[f8,f3];rfl]
  go_enter Tryz.func290,Tryz.ntmps290;go_wp2_with fail;go_ret
  exact⟨rfl,rfl⟩
theorem time_any(p s:Int)(w:World):Calls Tryz.prog 241 #[.int .u8 p,.int .i64 s] w fun e w'=>e= .returned (.int .i64 (tm p s))∧w'=w:=by
 by_cases e6:p=6
 ·subst e6
  go_enter Tryz.func241,Tryz.ntmps241;go_wp2_with fail;refine(zI7 s _).mono ?_;rintro e w1 ⟨rfl,rfl⟩;go_wp2_with fail;go_ret
  exact⟨rfl,rfl⟩
 by_cases e17:p=17
 ·subst e17
  go_enter Tryz.func241,Tryz.ntmps241;go_wp2_with fail;refine(zCc s 30 180 _).mono ?_;rintro e w1 ⟨rfl,rfl⟩;go_wp2_with fail;go_ret
  exact⟨rfl,rfl⟩
 by_cases e47:p=47
 ·subst e47
  go_enter Tryz.func241,Tryz.ntmps241;go_wp2_with fail;refine(zCc s 30 180 _).mono ?_;rintro e w1 ⟨rfl,rfl⟩;go_wp2_with fail;go_ret
  exact⟨rfl,rfl⟩
 by_cases e1:p=1
 ·subst e1
  go_enter Tryz.func241,Tryz.ntmps241;go_wp2_with fail;refine(zCc s 30 30 _).mono ?_;rintro e w1 ⟨rfl,rfl⟩;go_wp2_with fail;go_ret
  exact⟨rfl,rfl⟩
 have f6:(p==6)=false:=by simp[e6]
 have f17:(p==17)=false:=by simp[e17]
 have f47:(p==47)=false:=by simp[e47]
 have f1:(p==1)=false:=by simp[e1]
 clear e6 e17 e47 e1;rw[show tm p s=0 from by unfold tm;rw[f6,f17,f47,f1];rfl];go_enter Tryz.func241,Tryz.ntmps241;go_wp2_with fail;go_ret
 exact⟨rfl,rfl⟩
structure Fl where
 blk:Nat
 id:Int
 o:Tu
 r:Tu
 side:Int
 st:Int
 till:Int
 ms:Int
 hv:Value
 hp:Value
def flc (f:Fl):List Value:=[.int .i64 f.id,.int .u8 f.o.pr,.int .u32 f.o.src,.int .u32 f.o.dst,.int .u16 f.o.sp,.int .u16 f.o.dp,.int .u8 f.r.pr,.int .u32 f.r.src,.int .u32 f.r.dst,.int .u16 f.r.sp,.int .u16 f.r.dp,.int .i64 f.side,.int .i64 f.st,.int .i64 f.till,.int .i64 f.ms,f.hv,f.hp]
structure Pl where
 pr:Int
 ad:Int
 blk:Nat
 ws:Nat→Nat
structure Gf where
 lo:Nat
 hi:Nat
 now:Int
 bg:Int
 ls:List Ru
 gr:Nat
 gf:Nat
 gt:Nat
 gb:Nat
 gp:Nat
 vr:Value
 ve:Value
 ex:List Ex
 cnt:Int
 trn:Int
 rw:Nat→List Rw
 fs:List Fl
 ps:List Pl
 fe:Array MapEntry
 pe:Array MapEntry
 cf:Nat
 cp:Nat
def gfc (s:Gf):List Value:=[.int .u16 (s.lo:Int),.int .u16 (s.hi:Int),.int .i64 s.now,.int .i64 s.bg,.pointer (some ⟨s.gr,0,none⟩),.map (some s.gf),.pointer (some ⟨s.gt,0,none⟩),.pointer (some ⟨s.gb,0,none⟩),.map (some s.gp)]
def flE (f:Fl):Value × Value:=(.int .i64 f.id,.pointer (some ⟨f.blk,0,none⟩))
def plE (p:Pl):Value × Value:=(.agg #[.int .u8 p.pr,.int .u32 p.ad],.pointer (some ⟨p.blk,0,none⟩))
structure GF (base:Nat) (W:World) (g:Nat) (s:Gf):Prop where
 bs:base≤g
 gc:W.heap[g]? =some (.cells (gfc s).toArray 91 (0,0))
 rl:RL 285 base W s.gr s.vr s.ls
 tb:TB base W s.gt 128 s.cnt s.trn s.rw
 bl:BL 174 base W s.gb s.ve s.ex
 fl:W.heap[s.gf]? =some (.map s.fe s.cf)
 pl:W.heap[s.gp]? =some (.map s.pe s.cp)
 ne:s.gf≠s.gp
 bf:base≤s.gf∧base≤s.gp
 fm:s.fe.toList.map (fun e=>(e.key,e.val))=s.fs.map flE
 pm:s.pe.toList.map (fun e=>(e.key,e.val))=s.ps.map plE
 fb:∀f∈s.fs,base≤f.blk∧W.heap[f.blk]? =some (.cells (flc f).toArray 111 (0,0))
 pb:∀p∈s.ps,PB base W p.blk (s.lo:Int) (s.hi:Int) p.ws
theorem GF.later {base:Nat} {A B:World} {g:Nat} {s:Gf} (h:GF base A g s)(l:Later A B):GF base B g s:=
 ⟨h.bs,zAb l h.gc,h.rl.later l,h.tb.laterD l,h.bl.later l,zAb l h.fl,zAb l h.pl,h.ne,h.bf,h.fm,h.pm,fun f hf=>⟨(h.fb f hf).1,zAb l (h.fb f hf).2⟩,fun p hp=>(h.pb p hp).later l⟩
def TE (W:World) (E:Nat→Prop) (ok:Obj→Prop):Prop:=∀b,E b→∃o,W.heap[b]? =some o∧ok o
theorem TE.keep {W W':World} {E:Nat→Prop} {ok:Obj→Prop} (hE:TE W E ok)(hb:But E W W') {b:Nat} {o:Obj} (h:W.heap[b]? =some o)(ho:¬ok o):W'.heap[b]? =some o:=
 (hb.block b (eS h) (fun e=>by
  obtain⟨o',h1,h2⟩:=hE b e;rw[h]at h1;exact ho (Option.some.inj h1▸h2))).trans h
theorem TE.own {W W':World} {E:Nat→Prop} {ok:Obj→Prop} (hE:TE W E ok)(hb:But E W W') {base:Nat} {e:TypeId} {size:Nat} {v:Value} {n:Nat} {xs:List Value} (h:W.ownsRow base e size v n xs)(ho:∀cur f,¬ok (.cells cur e f)):W'.ownsRow base e size v n xs:=by
 obtain⟨q1,q2|⟨b,cap,cur',e',hb',hh,r⟩⟩:=h
 ·exact ⟨q1,.inl q2⟩
 ·exact ⟨q1,.inr ⟨b,cap,cur',e',hb',hE.keep hb hh (ho _ _),r⟩⟩
theorem TE.table {W W':World} {E:Nat→Prop} {ok:Obj→Prop} (hE:TE W E ok)(hb:But E W W') {base bt:Nat} {lim cnt trn:Int} {ls:Nat→List Rw} (h:TB base W bt lim cnt trn ls)(h1:∀cur f,¬ok (.cells cur 217 f))(h2:∀cur f,¬ok (.cells cur 220 f)):TB base W' bt lim cnt trn ls:=by
 obtain⟨vs,q1,q2,q3,q4,q5⟩:=h;exact⟨vs,q1,q2,hE.keep hb q3 (h1 _ _),fun i hi=>hE.own hb (q4 i hi) h2,q5⟩
def isT (ts:List TypeId) (o:Obj):Prop:=∃cur t f,o= .cells cur t f∧t∈ts
theorem zAr {ts:List TypeId} {t:TypeId} (h:t∉ts)(cur:Array Value)(f:Nat × Nat):¬isT ts (.cells cur t f):=fun⟨_,_,_,e,hm⟩=>by cases e;exact h hm
theorem zBw {ts:List TypeId} (m:Array MapEntry)(c:Nat):¬isT ts (.map m c):=fun⟨_,_,_,e,_⟩=>by cases e
theorem TE.one {W:World} {g:Nat} {cur:Array Value} {t:TypeId} {f:Nat × Nat} (h:W.heap[g]? =some (.cells cur t f)):TE W (fun b=>b=g) (isT [t]):=fun b e=>by
 have e':b=g:=e;exact⟨_,by rw[e'];exact h,_,_,_,rfl,by simp⟩
theorem GF.keep {base g:Nat} {W W':World} {s:Gf} (h:GF base W g s) {E:Nat→Prop} {ts:List TypeId} (hE:TE W E (isT ts))(hb:But E W W')(hts:ts.all (fun t=>t==282||t==111)=true):
  W'.heap[g]? =some (.cells (gfc s).toArray 91 (0,0))∧RL 285 base W' s.gr s.vr s.ls∧TB base W' s.gt 128 s.cnt s.trn s.rw∧BL 174 base W' s.gb s.ve s.ex∧W'.heap[s.gf]? =some (.map s.fe s.cf)∧W'.heap[s.gp]? =some (.map s.pe s.cp):=by
 have hn:∀t:TypeId,(t==282||t==111)=false→t∉ts:=fun t ht hm=>by
  have:=List.all_eq_true.1 hts t hm;rw[ht]at this;cases this
 refine⟨hE.keep hb h.gc (zAr (hn _ (by decide)) _ _),⟨h.rl.1,hE.keep hb h.rl.2.1 (zAr (hn _ (by decide)) _ _),hE.own hb h.rl.2.2 (zAr (hn _ (by decide)))⟩,hE.table hb h.tb (zAr (hn _ (by decide))) (zAr (hn _ (by decide))),⟨h.bl.1,hE.keep hb h.bl.2.1 (zAr (hn _ (by decide)) _ _),hE.own hb h.bl.2.2 (zAr (hn _ (by decide)))⟩,hE.keep hb h.fl (zBw _ _),hE.keep hb h.pl (zBw _ _)⟩
theorem ins_src {w:World} {b c:Nat} (hb:w.heap[b]? =some (.map #[] c))(p a:Int)(v:Value):
  ∃w',(Instr.mapUpdate 89 (.map (some b)) (.agg #[.int .u8 p,.int .u32 a]) v).run Tryz.prog w= .ok () w'∧w'.heap[b]? =some (.map #[⟨.agg #[.int .u8 p,.int .u32 a],v,c⟩] (c+1))∧But (fun g=>g=b) w w':=by
 have hf:(Instr.findKey 119 (.agg #[.int .u8 p,.int .u32 a]) []).run Tryz.prog w= .ok none w:=MapKept.run_findKey Tryz.underlying119 rfl;have hlt:=(eS hb);refine⟨{ w with heap:=w.heap.setIfInBounds b (.map #[⟨.agg #[.int .u8 p,.int .u32 a],v,c⟩] (c+1)) },?_,?_,rfl,rfl,rfl,by simp,fun i hi he=> ?_⟩
 ·simp[Instr.mapUpdate,run_underlying Tryz.underlying89,MapKept.run_getObj_map hb,zTu,hf,MapKept.run_setObj_map _ hb,Result.andThen]
 ·simp[hlt]
 ·have he':i≠b:=he
  rw[Array.getElem?_setIfInBounds_ne (by omega)]
theorem pe_nil {s:Gf} {base g:Nat} {W:World} (h:GF base W g s)(hp:s.ps=[]):s.pe=#[]:=by
 have:=h.pm;rw[hp]at this
 simp at this
 exact this
def zI8 (s:Gf) (pr ad:Int) (b:Nat) (ws:Nat→Nat):Gf:= { s with ps:=[⟨pr,ad,b,ws⟩],pe:=#[⟨.agg #[.int .u8 pr,.int .u32 ad],.pointer (some ⟨b,0,none⟩),s.cp⟩],cp:=s.cp+1 }
def PnQ (base:Nat) (w w':World) (g:Nat) (s:Gf) (pr ad:Int) (e:Ending):Prop:=∃b,e= .returned (.pointer (some ⟨b,0,none⟩))∧But (fun b=>b=s.gp) w w'∧w.heap.size≤b∧GF base w' g (zI8 s pr ad b (zFb (zC1 s.lo s.hi)))
theorem zT6(base g:Nat)(s:Gf)(pr ad:Int)(w:World)(h:GF base w g s)(hps:s.ps=[])(h1:1≤s.lo)(h2:s.lo≤s.hi)(h3:s.hi<65536)(hbs:base≤w.heap.size):
  Calls Tryz.prog 163 #[.pointer (some ⟨g,0,none⟩),.agg #[.int .u8 pr,.int .u32 ad]] w fun e w'=>PnQ base w w' g s pr ad e:=by
 have l0:=zAg w (.cells #[.int .u8 pr,.int .u32 ad] 119);have C0:=zAd (heap_alloc_new w (.cells #[.int .u8 pr,.int .u32 ad] 119));have H1:=zAd (h.later l0);have hpe:=pe_nil h hps;have HPE:=zAd hpe;have HPS:=zAd hps;clear h hps hpe;go_enter Tryz.func163,Tryz.ntmps163;go_upto_region 1 with fail;generalize w.alloc _=w1 at*;generalize hgx:w.heap.size=gx at C0⊢;refine zAl (R:=Later) 7 rfl (by kernel_rfl) ?_;have ld:Later w1 w1.drew:=Later.drew w1;generalize w1.drew=w2 at*;have L2:Later w w2:=Later.trans l0 ld;have H2:=zAd (H1.out.later ld);have C2:=zAd (zAb ld C0.out);clear H1 C0 l0 ld;have q0:∀v,Later w2 v→∀j,v.cell? ⟨gx,j,none⟩=#[.int .u8 pr,.int .u32 ad][j]? :=fun v hv=>zAa (zAb hv C2.out);have q1:∀v,Later w2 v→∀j,v.cell? ⟨g,j,none⟩=(gfc s).toArray[j]? :=fun v hv=>zAa (zAb hv H2.out.gc);unfold gfc at q1;have q2:∀v,Later w2 v→(Instr.lookup 89 (.map (some s.gp)) (.agg #[.int .u8 pr,.int .u32 ad]) false).run Tryz.prog v= .ok (.pointer none) v:=fun v hv=>look_src (c:=s.cp) (by rw[←HPE.out];exact zAb hv H2.out.pl) pr ad;refine tX Later.pre 0 ?_;refine tX Later.pre 1 ?_;refine tX Later.pre 2 ?_;refine tX Later.pre 3 ?_;refine tX Later.pre 4 ?_;refine tX Later.pre 5 ?_;refine tX Later.pre 6 ?_;clear q0 q1 q2;refine tD ?_;go_upto_region 3 with fail;refine zAl (R:=Later) 10 rfl (by kernel_rfl) ?_;have ld:Later w2 w2.drew:=Later.drew w2;generalize w2.drew=w3 at*;have L3:Later w w3:=Later.trans L2 ld
 have H3:=zAd (H2.out.later ld);have C3:=zAd (zAb ld C2.out);clear H2 C2 L2 ld;have q1:∀v,Later w3 v→∀j,v.cell? ⟨g,j,none⟩=(gfc s).toArray[j]? :=fun v hv=>zAa (zAb hv H3.out.gc);unfold gfc at q1;refine tX Later.pre 0 ?_;refine tX Later.pre 1 ?_;refine tX Later.pre 2 ?_;refine tX Later.pre 3 ?_;refine tX Later.pre 4 ?_;refine tX Later.pre 5 ?_;refine tX Later.pre 6 ?_;refine tX Later.pre 7 ?_;clear q1;refine tO 8 ?_;refine zAj 221 #[.int .u16 (s.lo:Int),.int .u16 (s.hi:Int)] (by go_simp) ?_;refine(new8_yes s.lo s.hi h1 h2 h3 w3).mono ?_;rintro e w4 ⟨rfl,l4,hP4⟩;refine⟨l4,?_⟩;simp only[Act.put,sA,sB,sC];refine tX Later.pre 9 ?_;refine tD ?_;have L4:Later w w4:=Later.trans L3 l4;have H4:=zAd (H3.out.later l4);have C4:=zAd (zAb l4 C3.out);have HP4:=zAd hP4;have hs34:w.heap.size≤w3.heap.size:=L3.size;clear H3 C3 L3 l4 hP4;generalize hpb:w3.heap.size=pb at*;go_upto_region 4 with fail;refine zAl (R:=But (fun b=>b=s.gp)) 7 rfl (by kernel_rfl) ?_;have ld:Later w4 w4.drew:=Later.drew w4;generalize w4.drew=w5 at*;have L5:Later w w5:=Later.trans L4 ld;have H5:=zAd (H4.out.later ld);have C5:=zAd (zAb ld C4.out);have HP5:=zAd (HP4.out.later ld);clear H4 C4 L4 HP4 ld;have q0:∀v,But (fun b=>b=s.gp) w5 v→∀j,v.cell? ⟨gx,j,none⟩=#[.int .u8 pr,.int .u32 ad][j]? :=fun v hv=>zAa ((hv.block gx (eS C5.out) (fun e=>by have e':gx=s.gp:=e;have hh:=H5.out.pl;rw[←e',C5.out]at hh;cases hh)).trans C5.out)
 have q1:∀v,But (fun b=>b=s.gp) w5 v→∀j,v.cell? ⟨g,j,none⟩=(gfc s).toArray[j]? :=fun v hv=>zAa ((hv.block g (eS H5.out.gc) (fun e=>by have e':g=s.gp:=e;have hh:=H5.out.pl;rw[←e',H5.out.gc]at hh;cases hh)).trans H5.out.gc);unfold gfc at q1;refine tX (But.pre (fun b=>b=s.gp)) 0 ?_;refine tX (But.pre (fun b=>b=s.gp)) 1 ?_;refine tX (But.pre (fun b=>b=s.gp)) 2 ?_;refine tX (But.pre (fun b=>b=s.gp)) 3 ?_;refine tX (But.pre (fun b=>b=s.gp)) 4 ?_;refine tX (But.pre (fun b=>b=s.gp)) 5 ?_;clear q0 q1;obtain⟨w6,hrun,hm6,hb6⟩:=ins_src (w:=w5) (b:=s.gp) (c:=s.cp) (by rw[←HPE.out];exact H5.out.pl) pr ad (.pointer (some ⟨pb,0,none⟩));refine tO 6 ?_;have HB6:=zAd hb6;have HM6:=zAd hm6;clear hb6 hm6;unfold Oper.wp;go_simp;refine⟨HB6.out,?_⟩;refine tD ?_;clear hrun;have hk:∀(b:Nat) (cur:Array Value) (t:TypeId) (f:Nat × Nat),w5.heap[b]? =some (.cells cur t f)→w6.heap[b]? =some (.cells cur t f):=fun b cur t f hb=>(HB6.out.block b (eS hb) (fun e=>by have e':b=s.gp:=e;have hh:=H5.out.pl;rw[←e',hb]at hh;cases hh)).trans hb
 have hko:∀ {bs:Nat} {e:TypeId} {size:Nat} {v:Value} {n:Nat} {xs:List Value},w5.ownsRow bs e size v n xs→w6.ownsRow bs e size v n xs:=fun h=>by
  obtain⟨q1,q2|⟨b,cap,cur',e',hb',hh,r⟩⟩:=h
  ·exact ⟨q1,.inl q2⟩
  ·exact ⟨q1,.inr ⟨b,cap,cur',e',hb',hk _ _ _ _ hh,r⟩⟩
 have h6:GF base w6 g (zI8 s pr ad pb (zFb (zC1 s.lo s.hi))):=by
  have h5:=H5.out;obtain⟨vs,t1,t2,t3,t4,t5⟩:=h5.tb;refine⟨h5.bs,hk _ _ _ _ h5.gc,⟨h5.rl.1,hk _ _ _ _ h5.rl.2.1,hko h5.rl.2.2⟩,⟨vs,t1,t2,hk _ _ _ _ t3,fun i hi=>hko (t4 i hi),t5⟩,⟨h5.bl.1,hk _ _ _ _ h5.bl.2.1,hko h5.bl.2.2⟩,?_,HM6.out,h5.ne,h5.bf,h5.fm,rfl,fun f hf=>⟨(h5.fb f hf).1,hk _ _ _ _ (h5.fb f hf).2⟩,fun p hp=> ?_⟩
  ·exact (HB6.out.block s.gf (eS h5.fl) (fun e=>h5.ne e)).trans h5.fl
  ·have hp':p=⟨pr,ad,pb,zFb (zC1 s.lo s.hi)⟩:=by simpa[zI8]using hp
   subst hp';exact⟨Nat.le_trans (Nat.le_trans hbs hs34) HP5.out.1,HP5.out.2.1,hk _ _ _ _ HP5.out.2.2⟩
 have M6:But (fun b=>b=s.gp) w w6:=(But.of L5).trans HB6.out;go_wp2_with fail;go_ret
 exact⟨pb,rfl,M6,by omega,h6⟩
attribute [local go_sem] Oper.semAt_some
theorem zGp(p:Nat→Bool)(N a b:Nat)(hab:a≤b)(hb:b<N)(h:∀m,m<N→p m=decide (a≤m∧m≤b)):(List.range N).filter p=zC1 a b:=by
 obtain⟨r,hr⟩:∃r,N=a+(b-a+1)+r:=⟨N-b-1,by omega⟩
 have e1:(List.range a).filter p=[]:=by
  rw[List.filter_eq_nil_iff];intro m hm
  have:m<a:=by simpa using hm
  rw[h m (by omega)];simp
  omega
 have e2:((List.range (b-a+1)).map (fun i=>a+i)).filter p=zC1 a b:=by
  unfold zC1;rw[List.filter_eq_self];intro m hm
  obtain⟨i,hi,rfl⟩:=List.mem_map.1 hm;have:i<b-a+1:=by simpa using hi
  rw[h _ (by omega)];simp
  omega
 have e3:((List.range r).map (fun i=>a+(b-a+1)+i)).filter p=[]:=by
  rw[List.filter_eq_nil_iff];intro m hm
  obtain⟨i,hi,rfl⟩:=List.mem_map.1 hm;have:i<r:=by simpa using hi
  rw[h _ (by omega)];simp
  omega
 rw[hr,List.range_add,List.range_add,List.filter_append,List.filter_append,e1,e2,e3];simp
theorem zPm(ws:Nat→Nat):∀i,zFn ws i=(List.range (64*i)).filter (fr ws)
 |0=>by unfold zFn;simp
 |i+1=>by
  rw[zH0,zPm ws i,show 64*(i+1)=64*i+64 from by omega,List.range_add,List.filter_append];congr 1
  unfold wel Pm.bl;rw[List.filter_map];congr 1
  refine List.filter_congr fun j hj=> ?_;have:j<64:=by simpa using hj
  simp only[Function.comp];unfold fr;rw[show (64*i+j)/64=i from by omega,show(64*i+j) % 64=j from by omega]
theorem zT7(ws:Nat→Nat):els ws=(List.range 65536).filter (fr ws):=zPm ws 1024
theorem zK5(ws:Nat→Nat)(a b:Nat)(hab:a≤b)(hb:b<65536)(h:∀m,m<65536→fr ws m=decide (a≤m∧m≤b)):els ws=zC1 a b:=by
 rw[zT7];exact zGp (fr ws) 65536 a b hab hb h
theorem zT8(a b:Nat)(h:a≤b):∃L,zC1 a b=a::L:=by
 unfold zC1;rw[List.range_succ_eq_map];exact⟨_,rfl⟩
end Go.Proofs.YteaeilghamjjkaaGreatDoor
