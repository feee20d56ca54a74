import Derived.Test.YteaeilghamjjkaaGreatDoorPvg
import Derived.Test.YteaeilghamjjkaaGreatDoorX1
namespace Go.Proofs.YteaeilghamjjkaaGreatDoor
open Go.RowKit Go.Shelf
set_option maxRecDepth 100000
set_option linter.unusedVariables false
set_option linter.unusedSimpArgs false
def FpH (q:Tu) (CQ:Int→Value→List Int→World→Prop) (n0:Nat) (rc n:Int) (v sv:Value) (W:World):Prop:=rc=0∧∃z2,CQ n v z2 W∧Ow n0 W sv (fgB 8 q.dst q.src z2)
theorem FpH.s {q:Tu} {CQ:Int→Value→List Int→World→Prop} {n0:Nat} (hS:∀n v,CqS (CQ n v)):HqS (FpH q CQ n0):=fun rc n v sv A B k cur fz h hk hb=>by
 obtain⟨e,z2,h1,h2⟩:=h;exact⟨e,z2,hS n v _ _ _ _ _ _ _ h1 hk (.inr rfl) hb,h2.asideF hk (by decide) hb⟩
def FpQ (base g:Nat) (w w':World) (nw now:Int) (f:Fl) (hb nn c:Nat) (d st3:Int) (ws:Nat→Nat) (tr:Int) (q:Tu) (x:Int) (e:Ending):Prop:=∃(n sd2:Int) (sv:Value),e= .returned (.agg #[.int .i64 0,.int .i64 sd2,sv])∧Kgl base w w'∧(n≤nw∨n≤now)∧now≤n∧(∃f2,V3 base g w' f f2 hb nn c d st3 ws n (tr+1+1))∧Ow w.heap.size w' sv (fgB 8 q.dst q.src (frB q.sp x))
set_option maxHeartbeats 1000000 in
theorem frm3(base g:Nat)(f f2:Fl)(hb nn c:Nat)(d st2 st3:Int)(ws:Nat→Nat)(now tr nw side:Int)(bk:Bool)(q:Tu)(src dst cl x:Int)(sb:Value)(w:World)(h:V3 base g w f f2 hb nn c d st2 ws now tr)(hbs:base≤w.heap.size)(hc:c<65536)(hd:0≤d∧d≤65535)(hx:0≤x∧x≤255)(hq:q=if bk then oG (c:Int) d else rG d ((tkn 1000 1063 c:Nat):Int))(hu:(⟨47,src,dst,0,cl⟩:Tu)=if bk then⟨47,134744072,16909060,0,((tkn 1000 1063 c:Nat):Int)⟩else⟨47,167772162,134744072,0,d⟩)(hcm:zI3 side bk)(nI:Nat)(hI:Ow nI w sb (fgB 9 src dst (frB cl x)))(hnw:nw≤9)(htr:tr≤98)(hst:ot st2 bk=st3)(h3:st3=8∨st3=3)(hz:∀W,KG base w W→Tb W):
  Calls Tryz.prog 7 #[.pointer (some ⟨g,0,none⟩),.int .i64 nw,.int .i64 side,sb] w fun e w'=>FpQ base g w w' nw now f hb nn c d st3 ws tr q x e:=by
 obtain⟨s,hG,hS,rfl,rfl⟩:=h.gf;have htk:=zCx (lo:=1000) (hi:=1063) (wish:=c) (by omega);have hn9:=hS.n9;have hbo:TuB (oG (c:Int) d):=by unfold TuB oG;simp;omega
 have hbr:TuB (rG d ((tkn 1000 1063 c:Nat):Int)):=by unfold TuB rG;simp;omega
 have hqb:TuB q∧q.pr=47:=by cases bk<;>(rw[hq];first|exact⟨hbr,rfl⟩|exact⟨hbo,rfl⟩)
 obtain⟨hsr,hds,hcl⟩:(0≤src∧src≤4294967295)∧(0≤dst∧dst≤4294967295)∧(0≤cl∧cl≤65535):=by
  cases bk<;>(obtain⟨e1,e2,e3,e4,e5⟩:=Tu.mk.inj hu;refine⟨by omega,by omega,by omega⟩)
 have hside:side=0∨side=1:=by rcases hcm with⟨e,_⟩|⟨e,_⟩<;>simp[e]
 have hqo:oth f2 bk=q:=by unfold oth;rw[hq,hS.o2,hS.r2]
 have hB:=zGy cl x hcl hx;have hF:=zNi (ttl:=9) (src:=src) (dst:=dst) hB (by simp[frB]) (by omega) hsr hds;obtain⟨sa,sc,rfl,_,_⟩:=hI.slice
 have hCS:∀n v,CqS ((fun(n:Int) (v:Value) (y:List Int) (W:World)=>y=frB q.sp x∧∃f3,V3 base g W f f3 hb nn c d st3 ws n (s.trn+1+1)) n v):=by
  rintro n v y A B k cur t fz ⟨e,f3,h5⟩ hk ht hB;exact⟨e,f3,h5.aside hk ht hB⟩
 refine(zM7 base g s side nw hside _ (FpH q (fun(n:Int) (v:Value) (y:List Int) (W:World)=>y=frB q.sp x∧∃f3,V3 base g W f f3 hb nn c d st3 ws n (s.trn+1+1)) w.heap.size) w hG hbs ⟨_,_,_,rfl⟩ ⟨hS.now.1,by have:=hS.now.2;omega⟩ hS.ex (fun n hn=>hS.quiet n (by have:=hS.now.2;omega)) hS.all (FpH.s hCS) (fun W n v k hn hn1 hn2 hg=> ?_)).mono ?_
 ·refine (zM6 base g 47 side q (fun(y:List Int) (W:World)=>y=frB q.sp x∧∃f3,V3 base g W f f3 hb nn c d st3 ws n (s.trn+1+1)) _ _ W hF.by_ ((hI.kg k).rd) (by have:=hF.len;omega) (by omega) hside hqb.1 hF.rd hF.i9 (by rw[hF.i8];omega) (by rw[hF.zo];simp) (by rw[hF.zo];rfl) (fun y W2 hc2=>by rw[hF.zo];obtain⟨e,_⟩:=hc2;rw[e];simp[frB]) (hCS n v) (fun y A B ⟨e,f3,h5⟩ l=>⟨e,f3,h5.later l⟩) (fun W2 so sd l ho hd2=> ?_)).mono ?_
  ·rw [hF.zo]at ho
   rw[hF.zd]at hd2;rw[hF.i1,hF.w4,hF.w6,hF.i8,hF.src,hF.dst,hF.zo];have K2:=k.trans (KG.of_later (base:=base) l);have hS2:=hS.ltr n v ⟨hn.1,by have:=hS.now.2;omega⟩
   have hR:BelG (ltr s n v) f2 bk side src dst 0 cl:=by
    have hkr:∃(k:Nat) (r:Rw),kx 47 src dst 0 cl (ltr s n v).rw=some k∧((ltr s n v).rw (bki 47 src dst 0 cl))[k]? =some r∧r.id=f2.id:=by
     rw[hS.id2];cases bk
     ·obtain ⟨e1,e2,e3,e4,e5⟩:=Tu.mk.inj hu
      have:=hS2.look (t:=oG (c:Int) d) (u:=⟨47,167772162,134744072,0,d⟩) (id:=1) (by simp[ksG]) ⟨rfl,rfl,rfl,rfl,rfl⟩;rw[e2,e3,e5];exact this
     ·obtain ⟨e1,e2,e3,e4,e5⟩:=Tu.mk.inj hu
      have:=hS2.look (t:=rG d ((tkn 1000 1063 c:Nat):Int)) (u:=⟨47,134744072,16909060,0,((tkn 1000 1063 c:Nat):Int)⟩) (id:=1) (by simp[ksG]) ⟨rfl,rfl,rfl,rfl,rfl⟩;rw[e2,e3,e5];exact this
    refine⟨by show f2∈s.fs;rw[hS.fs];simp,fun a ha b hb2 e=>by rw[hS.ide a ha b hb2 e],hS.blk f2 (by rw[hS.fs];simp),hkr,hsr,hds,by omega,hcl,?_,hS.sd2,hcm,by rw[hS.o2];exact hbo,by rw[hS.r2];exact hbr,by rw[hS.o2];rfl,by rw[hS.r2];rfl,hS.hp2,⟨hS.trn.1,by show s.trn≤999999;have:=hS.trn.2;omega⟩,hn⟩;rw[hS.o2];cases bk
    ·obtain ⟨e1,e2,e3,e4,e5⟩:=Tu.mk.inj hu
     rw[e2,e3,e5];simp[oG,kyp]
    ·obtain ⟨e1,e2,e3,e4,e5⟩:=Tu.mk.inj hu
     rw[e2,e3,e5];simp[oG]
   refine(zHt base g (ltr s n v) f2 bk 0 0 9 src dst false so sd side [] (frB cl x) 0 cl W.heap.size W2 (hg.later l) hR (frB_ok cl x) rfl (zNh cl x hcl.1) (by unfold flt;rw[if_neg (by simp),if_neg (by simp[frB])]) Mt.By.nil hB ho hd2 (by simp) (by simp[frB]) (by omega) (by omega) (by omega) (Nat.le_trans hbs K2.size) (fun V k2=>hz V (K2.trans k2))).mono ?_;rintro e w2 ⟨ao,co,ad,cd,rfl,k2,hG2,hO2,hD2⟩;rw[hqo,frB_rw]at hD2;rw[hqo];have hst2:f2.st=st2:=hS.st2;rw[hst2,hst]at hG2;obtain⟨q1,q2⟩:=hS2.bc2 st3 h3 (by show s.trn≤98;omega);have hl9:(frB cl x).length=(frB q.sp x).length:=rfl;rw[hl9]at hD2⊢;exact⟨frB q.sp x,ao,co,ad,cd,rfl,Kgl.of_kg k2,hO2,hD2,rfl,_,⟨_,hG2,q1,rfl,q2⟩,h.hp,(h.hc.kg (K2.trans k2)),HvT.kg (nv:=f.hv) h.hv (K2.trans k2),h.nb⟩
  ·rintro e w2 ⟨zd2,v2,rfl,k2,hc2,ho2⟩
   rw[hF.i1,hF.w4,hF.w6,hF.i8,hF.zo]at ho2;obtain⟨va,vc,rfl,_,_⟩:=ho2.slice;have ho3:Ow w.heap.size w2 _ (fgB 8 q.dst q.src zd2):=ho2.mono k.size;exact⟨0,oppo side,va,_,vc,rfl,k2,rfl,zd2,hc2,ho3⟩
 ·rintro e w' ⟨rc,sd,va,ln,vc,n,v,rfl,hk,hn1,hn2,rfl,z2,⟨rfl,hV⟩,ho⟩
  exact⟨n,sd,_,rfl,hk,hn1,hn2,hV,ho⟩
end Go.Proofs.YteaeilghamjjkaaGreatDoor
