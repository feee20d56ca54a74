import Derived.Test.YteaeilghamjjkaaGreatDoorX14
namespace Go.Proofs.YteaeilghamjjkaaGreatDoor
set_option maxHeartbeats 8000000
open Go.RowKit Go.Shelf
set_option maxRecDepth 100000
set_option linter.unusedVariables false
set_option linter.unusedSimpArgs false
def SrE (p a:Int):Prop:=∀w:World,(Op.equal 119 (.agg #[.int .u8 p,.int .u32 a]) (.agg #[.int .u8 p,.int .u32 a])).run Tryz.prog w= .ok true w
theorem find_src(p a:Int)(hE:SrE p a)(v:Value)(bn:Nat)(w:World):(Instr.findKey 119 (.agg #[.int .u8 p,.int .u32 a]) [⟨.agg #[.int .u8 p,.int .u32 a],v,bn⟩]).run Tryz.prog w= .ok (some (0,v)) w:=by
 simp[Instr.findKey,run_underlying Tryz.underlying119,Instr.findNow,Instr.sameNow,Instr.findAsking,hE w,Result.andThen]
theorem zK9 {w:World} {b c bn:Nat} (p a:Int)(hE:SrE p a)(v:Value)(hb:w.heap[b]? =some (.map #[⟨.agg #[.int .u8 p,.int .u32 a],v,bn⟩] c)):(Instr.lookup 89 (.map (some b)) (.agg #[.int .u8 p,.int .u32 a]) false).run Tryz.prog w= .ok v w:=by
 simp[Instr.lookup,run_underlying Tryz.underlying89,MapKept.run_getObj_map hb,zTu,find_src p a hE,Result.andThen]
def oldP (s:Gf) (pr ad:Int) (b:Nat) (ws:Nat→Nat):Gf:= { s with ps:=[⟨pr,ad,b,ws⟩] }
theorem pe_one {s:Gf} {base g:Nat} {W:World} (h:GF base W g s) {pr ad:Int} {b:Nat} {ws:Nat→Nat} (hp:s.ps=[⟨pr,ad,b,ws⟩]):∃bn,s.pe=#[⟨.agg #[.int .u8 pr,.int .u32 ad],.pointer (some ⟨b,0,none⟩),bn⟩]:=by
 have hm:=h.pm;rw[hp]at hm
 obtain⟨e,hq⟩:∃e,s.pe.toList=[e]:=by
  have hl:=congrArg List.length hm;rw[List.length_map]at hl;exact List.length_eq_one_iff.1 hl
 rw[hq]at hm;have h1:(e.key,e.val)=plE ⟨pr,ad,b,ws⟩:=by simpa using hm
 have h2:e.key= .agg #[.int .u8 pr,.int .u32 ad]:=congrArg Prod.fst h1;have h3:e.val= .pointer (some ⟨b,0,none⟩):=congrArg Prod.snd h1;refine⟨e.born,?_⟩;have h4:s.pe=#[e]:=by rw[←Array.toArray_toList (xs:=s.pe),hq]
 rw[h4,←h2,←h3]
theorem GF.poolO {base g:Nat} {W W':World} {s:Gf} {pr ad:Int} {b:Nat} {ws ws':Nat→Nat} (h:GF base W g s)(hps:s.ps=[⟨pr,ad,b,ws⟩])(hb:But (fun x=>x=b) W W')(hp:PB base W' b (s.lo:Int) (s.hi:Int) ws'):GF base W' g (oldP s pr ad b ws'):=by
 have hP:=h.pb ⟨pr,ad,b,ws⟩ (by rw[hps];simp);have hE:=TE.one hP.2.2;obtain⟨k1,k2,k3,k4,k5,k6⟩:=h.keep hE hb (by decide);refine⟨h.bs,k1,k2,k3,k4,k5,k6,h.ne,h.bf,h.fm,?_,fun f hf=>⟨(h.fb f hf).1,hE.keep hb (h.fb f hf).2 (zAr (by decide) _ _)⟩,fun p hp'=> ?_⟩
 ·have:=h.pm
  rw[hps]at this;exact this
 ·have e:p=⟨pr,ad,b,ws'⟩:=by simpa[oldP]using hp'
  subst e;exact hp
theorem zUk(base g:Nat)(s:Gf)(pr ad:Int)(pb:Nat)(ws:Nat→Nat)(w:World)(h:GF base w g s)(hps:s.ps=[⟨pr,ad,pb,ws⟩])(hE:SrE pr ad):
  Calls Tryz.prog 163 #[.pointer (some ⟨g,0,none⟩),.agg #[.int .u8 pr,.int .u32 ad]] w fun e w'=>e= .returned (.pointer (some ⟨pb,0,none⟩))∧Later w w':=by
 have l0:=zAg w (.cells #[.int .u8 pr,.int .u32 ad] 119);have C0:=zAd (heap_alloc_new w (.cells #[.int .u8 pr,.int .u32 ad] 119));have H1:=zAd (h.later l0);obtain⟨bn,hpe⟩:=pe_one h hps;have HPE:=zAd hpe;clear h hps hpe;go_enter Tryz.func163,Tryz.ntmps163;go_upto_region 1 with fail;generalize w.alloc _=w1 at*;generalize hgx:w.heap.size=gx at C0⊢;refine zAl (R:=Later) 7 rfl (by kernel_rfl) ?_;have ld:Later w1 w1.drew:=Later.drew w1;generalize w1.drew=w2 at*;have L2:Later w w2:=Later.trans l0 ld;have H2:=zAd (H1.out.later ld);have C2:=zAd (zAb ld C0.out);clear H1 C0 l0 ld;have q0:∀v,Later w2 v→∀j,v.cell? ⟨gx,j,none⟩=#[.int .u8 pr,.int .u32 ad][j]? :=fun v hv=>zAa (zAb hv C2.out);have q1:∀v,Later w2 v→∀j,v.cell? ⟨g,j,none⟩=(gfc s).toArray[j]? :=fun v hv=>zAa (zAb hv H2.out.gc);unfold gfc at q1;have q2:∀v,Later w2 v→(Instr.lookup 89 (.map (some s.gp)) (.agg #[.int .u8 pr,.int .u32 ad]) false).run Tryz.prog v= .ok (.pointer (some ⟨pb,0,none⟩)) v:=fun v hv=>zK9 pr ad hE _ (by rw[←HPE.out];exact zAb hv H2.out.pl);refine tX Later.pre 0 ?_;refine tX Later.pre 1 ?_;refine tX Later.pre 2 ?_;refine tX Later.pre 3 ?_;refine tX Later.pre 4 ?_;refine tX Later.pre 5 ?_;refine tX Later.pre 6 ?_;clear q0 q1 q2;refine tD ?_;go_wp2_with fail;go_ret
 exact⟨rfl,L2⟩
def ToQ (base:Nat) (w w':World) (g:Nat) (s:Gf) (pr ad:Int) (pb:Nat) (ws:Nat→Nat) (wish:Nat) (e:Ending):Prop:=(fsb (fr ws wish) (els ws)=true∧e= .returned (.tuple #[.agg #[.int .u8 pr,.int .u32 ad,.int .u16 (fsn (fr ws wish) wish (els ws):Nat)],.bool true])∧But (fun b=>b=pb) w w'∧GF base w' g (oldP s pr ad pb (wsR ws (fsn (fr ws wish) wish (els ws)))))∨(fsb (fr ws wish) (els ws)=false∧e= .returned (.tuple #[.agg #[.int .u8 pr,.int .u32 ad,.int .u16 (fsn (fr ws wish) wish (els ws):Nat)],.bool false])∧Later w w')
theorem zJa {W W':World} {b:Nat} (h:But (fun x=>x=b) W W')(e:W'.heap[b]? =W.heap[b]?):Later W W':=⟨h.os,h.tape,h.output,h.size,fun i hi=>by
 by_cases q:i=b
 ·rw[q];exact e
 ·exact h.block i hi q⟩
theorem zUl(base g:Nat)(s:Gf)(pr ad:Int)(pb:Nat)(ws:Nat→Nat)(wish:Nat)(w:World)(h:GF base w g s)(hps:s.ps=[⟨pr,ad,pb,ws⟩])(hE:SrE pr ad)(hw:wish<65536)(hbs:base≤w.heap.size)(hz:∀W,Later w W→Dz W)(hg:6≤pb):
  Calls Tryz.prog 282 #[.pointer (some ⟨g,0,none⟩),.agg #[.int .u8 pr,.int .u32 ad],.int .u16 (wish:Int)] w fun e w'=>ToQ base w w' g s pr ad pb ws wish e:=by
 obtain⟨l0,c0,c1⟩:=zBa w (.cells #[.int .u8 pr,.int .u32 ad] 119) (.cells #[.int .u8 0,.int .u32 0,.int .u16 0] 230);have C0:=zAd c0;have C1:=zAd c1;have HPL:=zAd (zUk base g s pr ad pb ws _ (h.later l0) hps hE);have hPB:=h.pb ⟨pr,ad,pb,ws⟩ (by rw[hps];simp);have HPB:=zAd hPB;have hpbl:pb<w.heap.size:=hPB.lt;have HPS:=zAd hps;have HH:=zAd h;have HZ:=zAd hz;clear c0 c1 h hps hPB hz;go_enter Tryz.func282,Tryz.ntmps282;go_upto_region 1 with fail;generalize (w.alloc (.cells #[.int .u8 pr,.int .u32 ad] 119)).alloc (.cells #[.int .u8 0,.int .u32 0,.int .u16 0] 230)=w1 at*;generalize hgx:w.heap.size=gx at C0 C1⊢;have k0:=zAa C0.out;have hs1:w.heap.size≤w1.heap.size:=l0.size;go_wp2_with fail;refine HPL.out.mono ?_;rintro e w2 ⟨rfl,l2⟩;clear k0 HPL;have D0:=zAd (zAb l2 C0.out);have D1:=zAd (zAb l2 C1.out);have L2:Later w w2:=l0.trans l2;have HTK:=zAd (zKx base pb s.lo s.hi ws wish w2 (HPB.out.later L2) hw (HZ.out w2 L2) hg);clear C0 C1 l2 HZ;generalize hn:fsn (fr ws wish) wish (els ws)=n at*;generalize hf:fsb (fr ws wish) (els ws)=fb at*;have HN:=zAd hn;have HF:=zAd hf;unfold tke tkP at HTK;rw[hf]at HTK;clear hn hf;cases fb with
 | true=>
  simp only[if_true]at HTK;go_wp2_with fail;refine HTK.out.mono ?_;rintro e w3 ⟨rfl,hP3,m3⟩
  have hP3':PB base w3 pb (s.lo:Int) (s.hi:Int) (wsR ws n):=by
   rcases hP3 with⟨hf,_⟩|⟨_,hp⟩
   ·cases hf
   ·exact hp
  have h3':=(HH.out.later L2).poolO HPS.out m3 hP3';have E0:=zAd ((m3.block gx (eS D0.out) (fun e=>by have e':gx=pb:=e;omega)).trans D0.out);have E1:=zAd ((m3.block (gx+1) (eS D1.out) (fun e=>by have e':gx+1=pb:=e;omega)).trans D1.out);have M3:But (fun b=>b=pb) w w3:=(But.of L2).trans m3;clear HTK hP3 m3 D0 D1;have k0:=zAa E0.out;have k1:=zAa E1.out;have f1:=zAc E1.out;go_wp2_with fail;generalize hV:World.setCell _ ⟨gx+1,2,none⟩ _=V8;have hV9:V8=zAi w3 (gx+1) 0 [.int .u8 pr,.int .u32 ad,.int .u16 (n:Int)]:=hV.symm;have hb8:But (fun b=>b=gx+1) w3 V8:=by rw[hV9];exact zAf (E:=fun b=>b=gx+1) (n:=gx+1) rfl _ _ _ _ (But.refl _ _)
  have p8:=zAe [.int .u8 pr,.int .u32 ad,.int .u16 (n:Int)] E1.out rfl;rw[←hV9]at p8;clear hV hV9;have P8:=zAa p8;have h8:=h3'.other (TE.one E1.out) hb8 (by decide);have M8:But (fun b=>b=pb) w V8:=⟨hb8.os.trans M3.os,hb8.tape.trans M3.tape,hb8.output.trans M3.output,Nat.le_trans M3.size hb8.size,fun i hi he=>(hb8.block i (Nat.lt_of_lt_of_le hi M3.size) (fun e=>by have e':i=gx+1:=e;omega)).trans (M3.block i hi he)⟩;exact bodyPost_ret (v:= .tuple #[.agg #[.int .u8 pr,.int .u32 ad,.int .u16 (n:Int)],.bool true]) (by simp[results,Tryz.results282,go_sem,P8]) rfl (.inl ⟨HF.out,by rw[HN.out],M8,by rw[HN.out];exact h8⟩)
 | false=>
  simp only[Bool.false_eq_true,if_false]at HTK;go_wp2_with fail;refine HTK.out.mono ?_;rintro e w3 ⟨rfl,hP3,m3⟩
  have hP3':PB base w3 pb (s.lo:Int) (s.hi:Int) ws:=by
   rcases hP3 with⟨_,hp⟩|⟨hf,_⟩
   ·exact hp
   ·cases hf
  have L3:Later w w3:=L2.trans (zJa m3 (hP3'.2.2.trans (HPB.out.later L2).2.2.symm));have E0:=zAd ((m3.block gx (eS D0.out) (fun e=>by have e':gx=pb:=e;omega)).trans D0.out);have E1:=zAd ((m3.block (gx+1) (eS D1.out) (fun e=>by have e':gx+1=pb:=e;omega)).trans D1.out);clear HTK hP3 m3 D0 D1;have k0:=zAa E0.out;have k1:=zAa E1.out;have f1:=zAc E1.out;go_wp2_with fail;generalize hV:World.setCell _ ⟨gx+1,2,none⟩ _=V8;have hV9:V8=zAi w3 (gx+1) 0 [.int .u8 pr,.int .u32 ad,.int .u16 (n:Int)]:=hV.symm;have hb8:But (fun b=>b=gx+1) w3 V8:=by rw[hV9];exact zAf (E:=fun b=>b=gx+1) (n:=gx+1) rfl _ _ _ _ (But.refl _ _)
  have p8:=zAe [.int .u8 pr,.int .u32 ad,.int .u16 (n:Int)] E1.out rfl;rw[←hV9]at p8;clear hV hV9;have P8:=zAa p8;have L8:Later w V8:=⟨hb8.os.trans L3.os,hb8.tape.trans L3.tape,hb8.output.trans L3.output,Nat.le_trans L3.size hb8.size,fun i hi=>(hb8.block i (Nat.lt_of_lt_of_le hi L3.size) (fun e=>by have e':i=gx+1:=e;omega)).trans (L3.block i hi)⟩;exact bodyPost_ret (v:= .tuple #[.agg #[.int .u8 pr,.int .u32 ad,.int .u16 (n:Int)],.bool false]) (by simp[results,Tryz.results282,go_sem,P8]) rfl (.inr ⟨HF.out,by rw[HN.out],L8⟩)
abbrev TkP:=Nat→List Pl→Array MapEntry→Nat→Prop
def zUm (s:Gf) (ps:List Pl) (pe:Array MapEntry) (cp:Nat):Gf:= { s with ps:=ps,pe:=pe,cp:=cp }
def TkQ (base:Nat) (w w':World) (g:Nat) (s:Gf) (pr ad:Int) (TQ:TkP) (e:Ending):Prop:=∃(n:Nat) (ps:List Pl) (pe:Array MapEntry) (cp:Nat),e= .returned (.tuple #[.agg #[.int .u8 pr,.int .u32 ad,.int .u16 (n:Int)],.bool true])∧But (fun b=>b=s.gp∨∃p∈s.ps,p.blk=b) w w'∧GF base w' g (zUm s ps pe cp)∧n<65536∧TQ n ps pe cp
theorem zUn(p:Int)(w:World)(hp:p=6):Calls Tryz.prog 315 #[.int .u8 p] w fun e w'=>e= .returned (.int .i64 1)∧w'=w:=by
 subst hp;go_enter Tryz.func315,Tryz.ntmps315;go_wp2_with fail;go_ret
 exact⟨rfl,rfl⟩
def HvP (W:World) (f:Fl) (pr ad:Int) (n:Nat):Prop:=∃hb:Nat,f.hv= .slice (some ⟨hb,0,none⟩) 1 1∧W.heap[hb]? =some (.cells #[.int .u8 pr,.int .u32 ad,.int .u16 (n:Int)] 230 (0,0))
def HvB (base:Nat) (f:Fl):Prop:=∃k:Nat,base≤k∧f.hv= .slice (some ⟨k,0,none⟩) 1 1
theorem HvP.kg {base:Nat} {A B:World} {f:Fl} {pr ad:Int} {n:Nat} (h:HvP A f pr ad n)(k:KG base A B):HvP B f pr ad n:=by
 obtain⟨hb,e,hh⟩:=h;exact⟨hb,e,k.cells hh (by decide)⟩
theorem zJb(g:Nat)(tos id ttl src dst:Int)(keep:Bool)(so sd:Value)(side:Int)(zd:List Int)(w:World)(hB:Mt.By zd)(hI:Rd w.heap.size w sd zd)(hl:zd.length≤70000)(hsr:0≤src∧src≤4294967295)(hds:0≤dst∧dst≤4294967295)(hpt:pte 6 src dst zd=0):
  Calls Tryz.prog 237 #[.agg #[.pointer (some ⟨g,0,none⟩),.int .u8 tos,.int .u16 id,.bool keep,.int .u8 ttl,.int .u8 6,.int .u32 src,.int .u32 dst,so,sd,.int .i64 side]] w fun e w'=>e= .returned (.int .u8 (zd[13]?.getD 0))∧Later w w':=by
 have l0:=zAg w (.cells #[.pointer (some ⟨g,0,none⟩),.int .u8 tos,.int .u16 id,.bool keep,.int .u8 ttl,.int .u8 6,.int .u32 src,.int .u32 dst,so,sd,.int .i64 side] 139);have C0:=zAd (heap_alloc_new w (.cells #[.pointer (some ⟨g,0,none⟩),.int .u8 tos,.int .u16 id,.bool keep,.int .u8 ttl,.int .u8 6,.int .u32 src,.int .u32 dst,so,sd,.int .i64 side] 139));have HP:=zAd (zCk tos id ttl 6 src dst keep so sd zd _ hB (hI.later l0) (by omega) hsr hds);go_enter Tryz.func237,Tryz.ntmps237;go_upto_region 1 with fail;generalize w.alloc _=w1 at*;generalize w.heap.size=gx at*;have k0:=zAa C0.out;go_wp2_with fail;refine HP.out.mono ?_;rintro e w2 ⟨l2,⟨h1,rfl⟩|⟨h1,os,aO,cO,ad,cd,ho,rfl,hO,hD⟩⟩
 ·exact absurd hpt h1
 ·clear k0
  go_upto_region 2 with fail;have la:=zAg w2 (.cells #[.int .u16 (wat zd 0),.int .u16 (wat zd 2),.int .u32 (zAs zd 4),.int .u32 (zAs zd 8),.int .u8 (zd[13]?.getD 0),.int .u16 (wat zd 14),.int .u16 (wat zd 18),.slice aO os.length cO,.slice ad (zd.length-(thd zd).toNat) cd] 32);have kn:=zAa (heap_alloc_new w2 (.cells #[.int .u16 (wat zd 0),.int .u16 (wat zd 2),.int .u32 (zAs zd 4),.int .u32 (zAs zd 8),.int .u8 (zd[13]?.getD 0),.int .u16 (wat zd 14),.int .u16 (wat zd 18),.slice aO os.length cO,.slice ad (zd.length-(thd zd).toNat) cd] 32));generalize w2.alloc _=w3 at*;go_wp2_with fail;go_ret
  exact⟨rfl,Later.trans l0 (Later.trans l2 la)⟩
def Tk6 (base:Nat) (w:World) (g:Nat) (s:Gf) (a:Nat) (mr:Ru) (TQ:TkP):Prop:=∀W,GF base W g s→KG base w W→Calls Tryz.prog 282 #[.pointer (some ⟨g,0,none⟩),.agg #[.int .u8 6,.int .u32 mr.tt],.int .u16 (a:Int)] W fun e w'=>TkQ base W w' g s 6 mr.tt TQ e
theorem Tk6.kg {base:Nat} {w w1:World} {g:Nat} {s:Gf} {a:Nat} {mr:Ru} {TQ:TkP} (h:Tk6 base w g s a mr TQ)(k:KG base w w1):Tk6 base w1 g s a mr TQ:=fun W hg k2=>h W hg (k.trans k2)
theorem comes_6(g:Nat)(tos id ttl src dst:Int)(keep:Bool)(so sd:Value)(side:Int)(bk:Bool)(f:Fl)(w:World)(hF:w.heap[f.blk]? =some (.cells (flc f).toArray 111 (0,0)))(hs:f.side=0)(hb:zUj side bk):
  Calls Tryz.prog 170 #[.agg #[.pointer (some ⟨g,0,none⟩),.int .u8 tos,.int .u16 id,.bool keep,.int .u8 ttl,.int .u8 6,.int .u32 src,.int .u32 dst,so,sd,.int .i64 side],.pointer (some ⟨f.blk,0,none⟩),.bool bk] w fun e w'=>e= .returned (.bool true)∧Later w w':=by
 have l0:=zAg w (.cells #[.pointer (some ⟨g,0,none⟩),.int .u8 tos,.int .u16 id,.bool keep,.int .u8 ttl,.int .u8 6,.int .u32 src,.int .u32 dst,so,sd,.int .i64 side] 139);have C0:=zAd (heap_alloc_new w (.cells #[.pointer (some ⟨g,0,none⟩),.int .u8 tos,.int .u16 id,.bool keep,.int .u8 ttl,.int .u8 6,.int .u32 src,.int .u32 dst,so,sd,.int .i64 side] 139));have HF:=zAd (zAb l0 hF);have HS:=zAd hs;clear hF hs;rcases hb with⟨rfl,rfl⟩|⟨rfl,rfl⟩
 all_goals
  go_enter Tryz.func170,Tryz.ntmps170;go_upto_region 1 with fail;generalize w.alloc _=w1 at*;generalize w.heap.size=gx at*;refine zAn (R:=Later) Later.pre Later.drew 11 rfl (by kernel_rfl) (fun V0 hV0=> ?_);have q0:∀v,Later V0 v→∀j,v.cell? ⟨gx,j,none⟩=_:=fun v hv=>zAa (zAb (hV0.trans hv) C0.out);have q1:∀v,Later V0 v→∀j,v.cell? ⟨f.blk,j,none⟩=(flc f).toArray[j]? :=fun v hv=>zAa (zAb (hV0.trans hv) HF.out);unfold flc at q1;rw[HS.out]at q1;refine rX Later.pre 0 ?_;refine rX Later.pre 1 ?_;refine rX Later.pre 2 ?_;refine rX Later.pre 3 ?_;refine rX Later.pre 4 ?_;refine rX Later.pre 5 ?_;refine rX Later.pre 6 ?_;refine rX Later.pre 7 ?_;refine rX Later.pre 8 ?_;refine rX Later.pre 9 ?_;refine rX Later.pre 10 ?_;refine rD (fun V9 hV9=> ?_);go_wp2_with fail;go_ret
  exact⟨rfl,l0.trans (hV0.trans hV9)⟩
theorem next_6(g:Nat)(tos id ttl src dst:Int)(keep:Bool)(so sd:Value)(side:Int)(bk:Bool)(f:Fl)(zd:List Int)(w:World)(hF:w.heap[f.blk]? =some (.cells (flc f).toArray 111 (0,0)))(hB:Mt.By zd)(hI:Rd w.heap.size w sd zd)(hl:zd.length≤70000)(hsr:0≤src∧src≤4294967295)(hds:0≤dst∧dst≤4294967295)(hpe:pte 6 src dst zd=0)(hnx:nx f.st bk (zd[13]?.getD 0)≠0):
  Calls Tryz.prog 174 #[.agg #[.pointer (some ⟨g,0,none⟩),.int .u8 tos,.int .u16 id,.bool keep,.int .u8 ttl,.int .u8 6,.int .u32 src,.int .u32 dst,so,sd,.int .i64 side],.pointer (some ⟨f.blk,0,none⟩),.bool bk] w fun e w'=>e= .returned (.int .i64 (nx f.st bk (zd[13]?.getD 0)))∧Later w w':=by
 have l0:=zAg w (.cells #[.pointer (some ⟨g,0,none⟩),.int .u8 tos,.int .u16 id,.bool keep,.int .u8 ttl,.int .u8 6,.int .u32 src,.int .u32 dst,so,sd,.int .i64 side] 139);have C0:=zAd (heap_alloc_new w (.cells #[.pointer (some ⟨g,0,none⟩),.int .u8 tos,.int .u16 id,.bool keep,.int .u8 ttl,.int .u8 6,.int .u32 src,.int .u32 dst,so,sd,.int .i64 side] 139));have HF:=zAd (zAb l0 hF);have HFG:=zAd (fun W (l:Later w W)=>zJb g tos id ttl src dst keep so sd side zd W hB (hI.later l) hl hsr hds hpe);generalize hfl:zd[13]?.getD 0=fl at*;have t1:(nx f.st bk fl !=0)=true:=by simp[hnx]
 clear hF hB hI hpe hnx hfl;go_enter Tryz.func174,Tryz.ntmps174;go_upto_region 1 with fail;generalize w.alloc _=w1 at*;generalize w.heap.size=gx at*;have k0:=zAa C0.out;go_upto_region 3 with fail;clear k0;refine zAl (R:=Later) 14 rfl (by kernel_rfl) ?_;have ld:Later w1 w1.drew:=Later.drew w1;generalize w1.drew=wd at*;have k0:∀v,Later wd v→∀j,v.cell? ⟨gx,j,none⟩=_:=fun v hv=>zAa (zAb (ld.trans hv) C0.out);have k1:∀v,Later wd v→∀j,v.cell? ⟨f.blk,j,none⟩=(flc f).toArray[j]? :=fun v hv=>zAa (zAb (ld.trans hv) HF.out);unfold flc at k1;refine tX Later.pre 0 ?_;refine tX Later.pre 1 ?_;refine tX Later.pre 2 ?_;refine tX Later.pre 3 ?_;refine tX Later.pre 4 ?_;refine tX Later.pre 5 ?_;refine tX Later.pre 6 ?_;clear k0 k1;refine tO 7 ?_;refine zAj 237 #[.agg #[.pointer (some ⟨g,0,none⟩),.int .u8 tos,.int .u16 id,.bool keep,.int .u8 ttl,.int .u8 6,.int .u32 src,.int .u32 dst,so,sd,.int .i64 side]] (by go_simp) ?_;refine(HFG.out wd (l0.trans ld)).mono ?_;rintro e w2 ⟨rfl,l2⟩;refine⟨l2,?_⟩;simp only[Act.put,sA,sB,sC];refine tO 8 ?_;refine zAj 243 #[.int .i64 f.st,.bool bk,.int .u8 fl] (by go_simp) ?_;refine(next_any f.st bk fl w2).mono ?_;rintro e w3 ⟨rfl,l3⟩;have l3':Later w2 w3:=l3;refine⟨l3',?_⟩;simp only[Act.put,sA,sB,sC];refine tX Later.pre 9 ?_;refine tX Later.pre 10 ?_;refine tX Later.pre 11 ?_;refine tX Later.pre 12 ?_;refine tX Later.pre 13 ?_;refine tD ?_;have L3:=zAd (l0.trans (ld.trans (l2.trans l3')))
 generalize hxx:nx f.st bk fl=x at*;have HXX:=zAd hxx;clear hxx;go_wp2_with fail;refine(zA0 5 _).mono ?_;rintro e w4 ⟨rfl,hw4⟩;subst hw4;go_wp2_with fail;go_ret
 exact⟨by rw[HXX.out];rfl,L3.out⟩
theorem owner_t(base g:Nat)(s:Gf)(f:Fl)(bk:Bool)(tos id ttl src dst:Int)(keep:Bool)(so sd:Value)(side:Int)(zd:List Int)(p x d a b:Int)(k:Nat)(r:Rw)(w:World)(h:GF base w g s)(hf:f∈s.fs)(hu:IdU s)(huq:∀x∈s.fs,x.blk=f.blk→x=f)(hk:kx p x d a b s.rw=some k)(hr:(s.rw (bki p x d a b))[k]? =some r)(hid:r.id=f.id)(hs:0≤x∧x≤4294967295)(hd:0≤d∧d≤4294967295)(ha:0≤a∧a≤65535)(hb:0≤b∧b≤65535)
  (hbk:bk=true↔¬(p=f.o.pr∧x=f.o.src∧d=f.o.dst∧kyp p a=kyp f.o.pr f.o.sp∧b=f.o.dp))(hsd:f.side=0)(hcm:zUj side bk)(hbs:base≤w.heap.size)(hBo:TuB f.o)(hBr:TuB f.r)(htr:0≤s.trn∧s.trn≤999999)(hnw:0≤s.now∧s.now≤549755813888)(hBy:Mt.By zd)(hI:Rd w.heap.size w sd zd)(hl:zd.length≤70000)(hsr:0≤src∧src≤4294967295)(hds:0≤dst∧dst≤4294967295)(hpe:pte 6 src dst zd=0)(hnx:nx f.st bk (zd[13]?.getD 0)≠0):
  Calls Tryz.prog 114 #[.agg #[.pointer (some ⟨g,0,none⟩),.int .u8 tos,.int .u16 id,.bool keep,.int .u8 ttl,.int .u8 6,.int .u32 src,.int .u32 dst,so,sd,.int .i64 side],.agg #[.int .u8 p,.int .u32 x,.int .u32 d,.int .u16 a,.int .u16 b]] w fun e w'=>e= .returned (.tuple #[.pointer (some ⟨f.blk,0,none⟩),.bool bk])∧KG base w w'∧GF base w' g (bcS s f (nx f.st bk (zd[13]?.getD 0))):=by
 obtain⟨l0,c0,c1⟩:=zBa w (.cells #[.pointer (some ⟨g,0,none⟩),.int .u8 tos,.int .u16 id,.bool keep,.int .u8 ttl,.int .u8 6,.int .u32 src,.int .u32 dst,so,sd,.int .i64 side] 139) (.cells #[.int .u8 p,.int .u32 x,.int .u32 d,.int .u16 a,.int .u16 b] 103);have C0:=zAd c0;have C1:=zAd c1;have HL:=zAd (zM4 base g s f bk p x d a b k r _ (h.later l0) hf hu hk hr hid hs hd ha hb hbk);have HB:=zAd (fun W (l:Later w W)=>zH6 base g s f (nx f.st bk (zd[13]?.getD 0)) W (h.later l) hf huq (Nat.le_trans hbs l.size) hBo hBr htr hnw);have HF:=zAd (fun W (l:Later w W)=>zAb l (h.fb f hf).2);have HNX:=zAd (fun W (l:Later w W) (hF:W.heap[f.blk]? =some (.cells (flc f).toArray 111 (0,0)))=>next_6 g tos id ttl src dst keep so sd side bk f zd W hF hBy (hI.later l) hl hsr hds hpe hnx);have HSD:=zAd hsd;have HCM:=zAd hcm;clear c0 c1 h hf hu huq hk hr hid hs hd ha hb hbk hsd hcm hBo hBr htr hnw hBy hI hl hpe hnx;go_enter Tryz.func114,Tryz.ntmps114;go_upto_region 1 with fail;generalize (w.alloc (.cells #[.pointer (some ⟨g,0,none⟩),.int .u8 tos,.int .u16 id,.bool keep,.int .u8 ttl,.int .u8 6,.int .u32 src,.int .u32 dst,so,sd,.int .i64 side] 139)).alloc (.cells #[.int .u8 p,.int .u32 x,.int .u32 d,.int .u16 a,.int .u16 b] 103)=w1 at*;generalize hgx:w.heap.size=gx at C0 C1⊢;have k0:=zAa C0.out;have k1:=zAa C1.out;go_wp2_with fail;refine HL.out.mono ?_;rintro e w2 ⟨rfl,l2⟩;clear k0 k1 HL;have L2:Later w w2:=l0.trans l2;have k0:=zAa (zAb l2 C0.out)
 go_wp2_with fail;refine(comes_6 g tos id ttl src dst keep so sd side bk f w2 (HF.out w2 L2) HSD.out HCM.out).mono ?_;rintro e w3 ⟨rfl,l3⟩;clear k0;have L3:Later w w3:=L2.trans l3;go_wp2_with fail;refine(zA0 3 _).mono ?_;rintro e w4 ⟨rfl,hw4⟩;subst hw4;go_upto_region 5 with fail;refine zAl (R:=KG base) 8 rfl (by kernel_rfl) ?_;have ld:Later w3 w3.drew:=Later.drew w3;generalize w3.drew=wd at*;have D0:=zAd (zAb (l2.trans (l3.trans ld)) C0.out);have q0:∀v,KG base wd v→∀j,v.cell? ⟨gx,j,none⟩=_:=fun v hv=>zAa (hv.cells D0.out (by decide));refine tX (KG.pre base) 0 ?_;refine tX (KG.pre base) 1 ?_;refine tX (KG.pre base) 2 ?_;refine tX (KG.pre base) 3 ?_;refine tX (KG.pre base) 4 ?_;refine tX (KG.pre base) 5 ?_;clear q0;refine tO 6 ?_;refine zAj 174 #[.agg #[.pointer (some ⟨g,0,none⟩),.int .u8 tos,.int .u16 id,.bool keep,.int .u8 ttl,.int .u8 6,.int .u32 src,.int .u32 dst,so,sd,.int .i64 side],.pointer (some ⟨f.blk,0,none⟩),.bool bk] (by go_simp) ?_;refine(HNX.out wd (L3.trans ld) (HF.out wd (L3.trans ld))).mono ?_;rintro e w5 ⟨rfl,l5⟩;refine⟨KG.of_later l5,?_⟩;simp only[Act.put,sA,sB,sC];refine tO 7 ?_;refine zAj 173 #[.pointer (some ⟨g,0,none⟩),.pointer (some ⟨f.blk,0,none⟩),.int .i64 (nx f.st bk (zd[13]?.getD 0))] (by go_simp) ?_;refine(HB.out w5 (L3.trans (ld.trans l5))).mono ?_;rintro e w6 ⟨rfl,k6,hG⟩;refine⟨k6,?_⟩;simp only[Act.put,sA,sB,sC];refine tD ?_;go_wp2_with fail
 exact bodyPost_ret (v:= .tuple #[.pointer (some ⟨f.blk,0,none⟩),.bool bk]) (by simp[results,Tryz.results114,go_sem]) rfl ⟨rfl,(KG.of_later (L3.trans (ld.trans l5))).trans k6,hG⟩
theorem zBn(t:Tu)(id tl tn:Int):zDl t (roT t id tl tn)=true:=isK_yes t id tl tn
theorem zBh(t u:Tu)(id tl tn:Int)(h:¬tuA u t):zDl t (roT u id tl tn)=false:=isK_not t u id tl tn h
def rw2 (o r:Tu) (id t n1 n2:Int):List Rw:=[roT o id t n1,roT r id t n2]
theorem zPq(o r:Tu)(id t n1 n2:Int)(hne:¬tuA o r):UL (rw2 o r id t n1 n2):=by
 have h1:=zH8 (roT o id t n1) o (zBn o id t n1) (L:=[]) (by simp) UL_nil;refine zH8 (L:=[roT o id t n1]) (roT r id t n2) r (zBn r id t n2) (fun x hx=> ?_) h1;have e:x=roT o id t n1:=by simpa using hx
 rw[e];exact zBh r o id t n1 hne
theorem reT_ro(u:Tu)(id t n t2 n2:Int):reT t2 n2 (roT u id t n)=roT u id t2 n2:=rfl
theorem zPr {t u:Tu} (h:tuA t u):tuA u t:=by
 obtain⟨h1,h2,h3,h4,h5⟩:=h;exact⟨h1.symm,h2.symm,h3.symm,h4.symm,h5.symm⟩
theorem rw2_mv1(o r:Tu)(id t n1 n2 t2 m:Int)(hne:¬tuA o r):mvR o t2 m (rw2 o r id t n1 n2)=[roT o id t2 m,roT r id t n2]:=by
 unfold mvR rw2;simp only[List.map_cons,List.map_nil];rw[if_pos (zBn o id t n1),if_neg (by rw[zBh o r id t n2 (fun e=>hne (zPr e))];simp),reT_ro]
theorem rw2_mv2(o r:Tu)(id t n1 n2 t1 t2 m:Int)(hne:¬tuA o r):mvR r t2 m [roT o id t1 n1,roT r id t n2]=[roT o id t1 n1,roT r id t2 m]:=by
 unfold mvR;simp only[List.map_cons,List.map_nil];rw[if_neg (by rw[zBh r o id t1 n1 hne];simp),if_pos (zBn r id t n2),reT_ro]
theorem ul_pair(o r:Tu)(id t1 t2 n1 n2:Int)(hne:¬tuA o r):UL [roT o id t1 n1,roT r id t2 n2]:=by
 have h1:=zH8 (roT o id t1 n1) o (zBn o id t1 n1) (L:=[]) (by simp) UL_nil;refine zH8 (L:=[roT o id t1 n1]) (roT r id t2 n2) r (zBn r id t2 n2) (fun x hx=> ?_) h1;have e:x=roT o id t1 n1:=by simpa using hx
 rw[e];exact zBh r o id t1 n1 hne
theorem zH9(o r:Tu)(id t n1 n2 t2 trn:Int)(hm:zEw t2=true)(hne:¬tuA o r):mvT r t2 (mvT o t2 (trn,rwL (rw2 o r id t n1 n2)))=(trn+1+1,rwL (rw2 o r id t2 (trn+1) (trn+1+1))):=by
 rw[mvT_L o t2 trn (rw2 o r id t n1 n2) (roT o id t n1) hm (by simp[rw2]) (zBn o id t n1) (zPq o r id t n1 n2 hne),rw2_mv1 o r id t n1 n2 t2 (trn+1) hne];rw[mvT_L r t2 (trn+1) [roT o id t2 (trn+1),roT r id t n2] (roT r id t n2) hm (by simp) (zBn r id t n2) (ul_pair o r id t2 t (trn+1) n2 hne),rw2_mv2 o r id t (trn+1) n2 t2 t2 (trn+1+1) hne];rfl
theorem rw2_put(o r:Tu)(id t trn:Int)(hm:zEw t=true)(hne:¬tuA o r):ptT r id t (ptT o id t (0,trn,rwL []))=(0+1+1,trn+1+1,rwL (rw2 o r id t (trn+1) (trn+1+1))):=by
 rw[ptT_L o id t 0 trn [] hm (by omega) (by simp)]
 rw[ptT_L r id t (0+1) (trn+1) ([]++[roT o id t (trn+1)]) hm (by omega) (fun x hx=>by
  have e:x=roT o id t (trn+1):=by simpa using hx
  rw[e];exact zBh r o id t (trn+1) hne)]
 rfl
theorem zM5(L:List Rw)(j:Nat):(rwL L j).length≤L.length:=List.length_filter_le _ _
theorem zGs(L:List Rw)(n:Int)(h:∀r∈L,n<r.till):duR n (zE5 (rwL L))=[]:=by
 unfold duR;rw[List.filter_eq_nil_iff];intro x hx
 have:=h x ((allL_mem L x).1 hx);simp
 omega
theorem zM6(L:List Rw)(k:Nat)(h:L.length≤k):(zE5 (rwL L)).length≤256*k:=by
 show((List.range 256).flatMap (rwL L)).length≤_
 have:∀n,((List.range n).flatMap (rwL L)).length≤n*k:=by
  intro n
  induction n with
  |zero=>simp
  |succ n ih=>
   rw[List.range_succ,List.flatMap_append,List.length_append];have:=zM5 L n;simp only[List.flatMap_cons,List.flatMap_nil,List.append_nil];rw[Nat.succ_mul];omega
 exact this 256
theorem EsI.pushP {es:Array MapEntry} {cf:Nat} (h:EsI es cf)(z:Int)(v:Value):EsI (es.push ⟨.int .i64 z,v,cf⟩) (cf+1):=by
 refine⟨fun e he=> ?_,fun e he=> ?_,?_⟩
 ·rw[Array.toList_push]at he
  rcases List.mem_append.1 he with he|he
  ·exact h.ki e he
  ·rw[List.mem_singleton.1 he];exact⟨z,rfl⟩
 ·rw[Array.toList_push]at he
  rcases List.mem_append.1 he with he|he
  ·have:=h.bn e he;omega
  ·rw[List.mem_singleton.1 he];exact Nat.lt_succ_self cf
 ·rw[Array.toList_push,List.map_append,List.nodup_append]
  refine⟨h.nd,by simp,fun a ha b hb e=> ?_⟩;obtain⟨x,hx,rfl⟩:=List.mem_map.1 ha;have hb':b=cf:=by simpa using hb
  have:=h.bn x hx;omega
theorem EsI.nilP(cf:Nat):EsI #[] cf:=⟨by simp,by simp,by simp⟩
def oF:Tu:=⟨6,167772162,134744072,5555,21⟩
def rF (nn:Int):Tu:=⟨6,134744072,16909060,21,nn⟩
theorem zM7(nn:Int):¬tuA oF (rF nn):=fun e=>by
 have:(167772162:Int)=134744072:=e.2.1;omega
structure F1 (s:Gf) (f:Fl) (nn:Nat) (st:Int) (ws:Nat→Nat) (xe:List Ex):Prop where
 fs:s.fs=[f]
 rw:∃t n1 n2,s.rw=rwL (rw2 oF (rF nn) 0 t n1 n2)∧9<t
 id:f.id=0
 o:f.o=oF
 r:f.r=rF nn
 sd:f.side=0
 ms:f.ms= -1
 st:f.st=st
 ex:s.ex=xe
 dl:xe.length≤2∧∀x∈xe,9<x.dl
 cnt:s.cnt=2
 trn:0≤s.trn∧s.trn≤100
 bg:s.bg=1
 lo:s.lo=1000
 hi:s.hi=1063
 now:0≤s.now∧s.now≤9
 ps:∃pb,s.ps=[⟨6,16909060,pb,ws⟩]
 n9:1000≤nn∧nn≤1063
 es:EsI s.fe s.cf
 ls:s.ls=[mqR]
theorem F1.ltr {s:Gf} {f:Fl} {nn:Nat} {st:Int} {ws:Nat→Nat} {ex:List Ex} (h:F1 s f nn st ws ex)(n:Int)(v:Value)(hn:0≤n∧n≤9):F1 (ltr s n v) f nn st ws ex:=⟨h.fs,h.rw,h.id,h.o,h.r,h.sd,h.ms,h.st,h.ex,h.dl,h.cnt,h.trn,h.bg,h.lo,h.hi,hn,h.ps,h.n9,h.es,h.ls⟩
theorem F1.quiet {s:Gf} {f:Fl} {nn:Nat} {st:Int} {ws:Nat→Nat} {ex:List Ex} (h:F1 s f nn st ws ex)(n:Int)(hn:n≤9):duR n (zE5 s.rw)=[]:=by
 obtain⟨t,n1,n2,e,ht⟩:=h.rw;rw[e];refine zGs _ n (fun r hr=> ?_);have hr':r=roT oF 0 t n1∨r=roT (rF nn) 0 t n2:=by simpa[rw2]using hr
 rcases hr' with rfl|rfl
 ·show n<t;omega
 ·show n<t;omega
theorem F1.calm {s:Gf} {f:Fl} {nn:Nat} {st:Int} {ws:Nat→Nat} {ex:List Ex} (h:F1 s f nn st ws ex)(n:Int)(hn:n≤9):s.ex.filter (fun x=>decide (x.dl≤n))=[]:=by
 rw[h.ex,List.filter_eq_nil_iff];intro x hx
 have:=h.dl.2 x hx;simp
 omega
theorem F1.all {s:Gf} {f:Fl} {nn:Nat} {st:Int} {ws:Nat→Nat} {ex:List Ex} (h:F1 s f nn st ws ex):(zE5 s.rw).length≤5000:=by
 obtain⟨t,n1,n2,e,ht⟩:=h.rw;rw[e];exact Nat.le_trans (zM6 _ 2 (by simp[rw2])) (by omega)
theorem F1.ne {s:Gf} {f:Fl} {nn:Nat} {st:Int} {ws:Nat→Nat} {ex:List Ex} (h:F1 s f nn st ws ex):¬tuA f.o f.r:=by
 rw[h.o,h.r];exact zM7 _
theorem F1.become {s:Gf} {f:Fl} {nn:Nat} {st:Int} {ws:Nat→Nat} {ex:List Ex} (h:F1 s f nn st ws ex)(st2:Int)(ht:s.trn≤98)(h2:9<tm 6 st2):F1 (bcS s f st2) (f.at st2 (s.now+tm 6 st2)) nn st2 ws ex∧(bcS s f st2).trn=s.trn+1+1:=by
 have hp:f.o.pr=6:=by rw[h.o];rfl
 obtain⟨t,n1,n2,e,h9⟩:=h.rw;have hb:=tm_bd 6 st2;have hw:=h.now
 have hbc:bcM s f (s.now+tm 6 st2)=(s.trn+1+1,rwL (rw2 oF (rF nn) 0 (s.now+tm 6 st2) (s.trn+1) (s.trn+1+1))):=by
  unfold bcM;rw[e,h.o,h.r];exact zH9 oF (rF nn) 0 t n1 n2 _ s.trn (by unfold zEw;rw[decide_eq_true_eq];omega) (zM7 _)
 have htr:=h.trn;refine⟨⟨?_,⟨s.now+tm 6 st2,s.trn+1,s.trn+1+1,?_,by omega⟩,h.id,h.o,h.r,h.sd,h.ms,rfl,h.ex,h.dl,h.cnt,?_,h.bg,h.lo,h.hi,h.now,h.ps,h.n9,h.es,h.ls⟩,?_⟩
 ·show s.fs.map (fun x=>if x.blk=f.blk then _ else x)=_
  rw[h.fs,hp];simp[Fl.at]
 ·show (bcM s f (s.now+tm f.o.pr st2)).2=_
  rw[hp,hbc]
 ·show 0≤(bcM s f (s.now+tm f.o.pr st2)).1∧(bcM s f (s.now+tm f.o.pr st2)).1≤100
  rw[hp,hbc];show 0≤s.trn+1+1∧s.trn+1+1≤100
  omega
 ·show (bcM s f (s.now+tm f.o.pr st2)).1=_
  rw[hp,hbc]
theorem F1.forth {s:Gf} {f:Fl} {nn:Nat} {st:Int} {ws:Nat→Nat} {ex:List Ex} (h:F1 s f nn st ws ex):∃k r,kxT oF s.rw=some k∧(s.rw (bkT oF))[k]? =some r∧r.id=f.id:=by
 obtain⟨t,n1,n2,e,h9⟩:=h.rw;obtain⟨k,q1,q2⟩:=zI9 (rw2 oF (rF nn) 0 t n1 n2) oF (roT oF 0 t n1) (by simp[rw2]) (zBn _ _ _ _) (zPq _ _ _ _ _ _ (zM7 _));rw[e];exact⟨k,_,q1,q2,by rw[h.id];rfl⟩
theorem F1.back {s:Gf} {f:Fl} {nn:Nat} {st:Int} {ws:Nat→Nat} {ex:List Ex} (h:F1 s f nn st ws ex):∃k r,kxT (rF nn) s.rw=some k∧(s.rw (bkT (rF nn)))[k]? =some r∧r.id=f.id:=by
 obtain⟨t,n1,n2,e,h9⟩:=h.rw;obtain⟨k,q1,q2⟩:=zI9 (rw2 oF (rF nn) 0 t n1 n2) (rF nn) (roT (rF nn) 0 t n2) (by simp[rw2]) (zBn _ _ _ _) (zPq _ _ _ _ _ _ (zM7 _));rw[e];exact⟨k,_,q1,q2,by rw[h.id];rfl⟩
def oth (f:Fl) (bk:Bool):Tu:=if bk then f.o else f.r
theorem other_bk(f:Fl)(w:World)(h:w.heap[f.blk]? =some (.cells (flc f).toArray 111 (0,0))):
  Calls Tryz.prog 116 #[.pointer (some ⟨f.blk,0,none⟩),.bool true] w fun e w'=>e= .returned (.agg #[.int .u8 f.o.pr,.int .u32 f.o.src,.int .u32 f.o.dst,.int .u16 f.o.sp,.int .u16 f.o.dp])∧Later w w':=by
 have la:=zAg w (.cells #[.int .u8 0,.int .u32 0,.int .u32 0,.int .u16 0,.int .u16 0] 103);have C0:=zAd (heap_alloc_new w (.cells #[.int .u8 0,.int .u32 0,.int .u32 0,.int .u16 0,.int .u16 0] 103));have C1:=zAd (zAb la h);clear h;go_enter Tryz.func116,Tryz.ntmps116;go_upto_region 2 with fail;generalize w.alloc _=w1 at*;generalize hgx:w.heap.size=gx at C0⊢;have k0:=zAa C0.out;have f0:=zAc C0.out;have k1:=zAa C1.out;unfold flc at k1;go_wp2_with fail;generalize hV:World.setCell _ ⟨gx,4,none⟩ _=V8;have hV9:V8=zAi w1 gx 0 [.int .u8 f.o.pr,.int .u32 f.o.src,.int .u32 f.o.dst,.int .u16 f.o.sp,.int .u16 f.o.dp]:=hV.symm;have hb8:But (fun b=>b=gx) w1 V8:=by rw[hV9];exact zAf (E:=fun b=>b=gx) (n:=gx) rfl _ _ _ _ (But.refl _ _)
 have p8:=zAe [.int .u8 f.o.pr,.int .u32 f.o.src,.int .u32 f.o.dst,.int .u16 f.o.sp,.int .u16 f.o.dp] C0.out rfl;rw[←hV9]at p8;clear hV hV9;have P8:=zAa p8;exact bodyPost_ret (v:= .agg #[.int .u8 f.o.pr,.int .u32 f.o.src,.int .u32 f.o.dst,.int .u16 f.o.sp,.int .u16 f.o.dp]) (by simp[results,Tryz.results116,go_sem,P8]) rfl ⟨rfl,Below.trans la (hb8.below la.size (fun k hk e=>by have e':k=gx:=e;omega))⟩
theorem zRf(f:Fl)(bk:Bool)(w:World)(h:w.heap[f.blk]? =some (.cells (flc f).toArray 111 (0,0))):
  Calls Tryz.prog 116 #[.pointer (some ⟨f.blk,0,none⟩),.bool bk] w fun e w'=>e= .returned (.agg #[.int .u8 (oth f bk).pr,.int .u32 (oth f bk).src,.int .u32 (oth f bk).dst,.int .u16 (oth f bk).sp,.int .u16 (oth f bk).dp])∧Later w w':=by
 cases bk with
 |true=>exact other_bk f w h
 |false=>exact other_no f w h
end Go.Proofs.YteaeilghamjjkaaGreatDoor
