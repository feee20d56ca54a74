import Derived.Test.YteaeilghamjjkaaGreatDoorX18
namespace Go.Proofs.YteaeilghamjjkaaGreatDoor
set_option maxHeartbeats 16000000
open Go.RowKit Go.Shelf
set_option maxRecDepth 100000
attribute [local go_sem] Oper.semAt_some
set_option linter.unusedVariables false
set_option linter.unusedSimpArgs false
def fsn (q:Bool) (wish:Nat) (L:List Nat):Nat:=if q then wish else L.head?.getD 0
def fsb (q:Bool) (L:List Nat):Bool:=q|| !L.isEmpty
def XL (L:List Nat) (pre:List Nat) (x:Nat) (_V:World):Prop:=∃rest,pre++x::rest=L
def PF0 (rb:Nat) (pre:List Nat) (W:World):Prop:=pre=[]∧W.heap[rb]? =some (.cells #[.int .u16 0] 22 (0,0))∧W.heap[rb+1]? =some (.cells #[.bool false] 4 (0,0))
theorem PF0.ct {rb:Nat} {pre:List Nat} {A B:World} (h:PF0 rb pre A)(c:CT A B):PF0 rb pre B:=⟨h.1,c.2 _ _ h.2.1 rfl,c.2 _ _ h.2.2 rfl⟩
def PF1 (rb:Nat) (L pre:List Nat) (W:World):Prop:=∃x rest,pre=[x]∧L=x::rest∧W.heap[rb]? =some (.cells #[.int .u16 (x:Int)] 22 (0,0))∧W.heap[rb+1]? =some (.cells #[.bool true] 4 (0,0))
theorem PF1.ct {rb:Nat} {L pre:List Nat} {A B:World} (h:PF1 rb L pre A)(c:CT A B):PF1 rb L pre B:=by
 obtain⟨x,rest,h1,h2,h3,h4⟩:=h;exact⟨x,rest,h1,h2,c.2 _ _ h3 rfl,c.2 _ _ h4 rfl⟩
theorem zMz {W:World} {rb:Nat} {x0:Int} {t0:Bool} (h0:W.heap[rb]? =some (.cells #[.int .u16 x0] 22 (0,0)))(h1:W.heap[rb+1]? =some (.cells #[.bool t0] 4 (0,0)))(x:Int)(t:Bool):
  ((W.setCell ⟨rb,0,none⟩ (.int .u16 x)).setCell ⟨rb+1,0,none⟩ (.bool t)).heap[rb]? =some (.cells #[.int .u16 x] 22 (0,0))∧((W.setCell ⟨rb,0,none⟩ (.int .u16 x)).setCell ⟨rb+1,0,none⟩ (.bool t)).heap[rb+1]? =some (.cells #[.bool t] 4 (0,0))∧But (fun g=>g=rb∨g=rb+1) W ((W.setCell ⟨rb,0,none⟩ (.int .u16 x)).setCell ⟨rb+1,0,none⟩ (.bool t)):=by
 have v0:=zAh h0 0 (.int .u16 x);have v1:=(Below.heap_setCell W ⟨rb,0,none⟩ (.int .u16 x) (rb+1) (by simp)).trans h1;refine⟨(Below.heap_setCell _ ⟨rb+1,0,none⟩ (.bool t) rb (by simp)).trans v0,zAh v1 0 (.bool t),?_⟩;exact((But.refl (fun g=>g=rb∨g=rb+1) W).setCell (p:=⟨rb,0,none⟩) (.inl rfl) _).setCell (p:=⟨rb+1,0,none⟩) (.inr rfl) _
theorem zKw(rb D:Nat)(x:Int)(t:Bool)(W w:World)(hD:rb+1+1≤D)(hb:Below w.heap.size w W)(h1:W.heap[rb]? =some (.cells #[.int .u16 x] 22 (0,0)))(h2:W.heap[rb+1]? =some (.cells #[.bool t] 4 (0,0)))(hK:W.heap[D]? =some (.deferred (some [])))
  (hrb:w.heap.size≤rb)(t0 t1 t2 t3 t4 t5 t8 t9 t10 t11 t12 t13 t14 t15:Value):
  bodyPostM Fence.wide 5 Tryz.prog Tryz.f326 (fun e w'=>e= .returned (.tuple #[.int .u16 x,.bool t])∧Later w w') Exit.ret
   { tmps:=#[t0,t1,t2,t3,t4,t5,.pointer (some ⟨rb,0,none⟩),.pointer (some ⟨rb+1,0,none⟩),t8,t9,t10,t11,t12,t13,t14,t15],defers:=[{ target:= .collected D,args:=#[] }] } W:=by
 refine⟨by simp,.inl ⟨_,_,rfl,run_takeDeferred hK,?_⟩⟩;have z1:=(CT.put (o':= .deferred none) hK rfl).2 _ _ h1 rfl;have z2:=(CT.put (o':= .deferred none) hK rfl).2 _ _ h2 rfl;have k1:=zAa z1;have k2:=zAa z2;refine⟨.tuple #[.int .u16 x,.bool t],by simp[results,Tryz.results326,go_sem,k1,k2],rfl,hb.trans (belowK_b (w:=w) (Nat.le_refl _) W D _ _ (by omega) hK rfl rfl)⟩
theorem zRc(wish cf gf:Nat)(pb:Value)(lb:Array Value)(q:Bool)(L:List Nat)(Kp:World→World→Prop)(w:World)(eg:∀args w,(callFunc cf args).run Tryz.prog w= .ok (.enter cf args) w)(egf:∀args w,(callFunc gf args).run Tryz.prog w= .ok (.enter gf args) w)
  (hq:∀W,Later w W→Calls Tryz.prog cf #[pb,.int .u16 (wish:Int)] W fun e W'=>e= .returned (.bool q)∧Later W W')
  (hgen:∀w4,Later w w4→GenX Fence.wide 4 Tryz.prog gf lb encN Kp (XL L) (fun xs=>xs=L) (fun _=>True) w4)
  (hKt:∀ {A B C:World},Kp A B→Kp B C→Kp A C)(hKb:∀(w4 W:World) (l:Nat) (o o':Obj),Later w w4→w4.heap.size≤l→W.heap[l]? =some o→o.isCells=false→o.isWalk=false→Kp W (W.putObj l o'))
  (hKl:∀ {w4 A B:World},Later w w4→w4.heap.size≤A.heap.size→Later A B→Kp A B):
  Calls Tryz.prog 326 #[.int .u16 (wish:Int),.func (.func cf) #[pb] #[],.func (.func gf) #[] lb] w fun e w'=>e= .returned (.tuple #[.int .u16 (fsn q wish L:Nat),.bool (fsb q L)])∧Later w w':=by
 refine(callsIn_wide (n:=5)).1 ?_;refine callsIn_of_wp_marks Tryz.func326 rfl trivial ?_ rfl;simp only[Tryz.ntmps326,List.size_toArray,List.length_cons,List.length_nil,Nat.reduceAdd,Nat.reduceSub,Array.replicate_succ,Array.replicate_zero,List.push_toArray,List.append_toArray,List.nil_append,List.cons_append];have hb2:Later w ((w.alloc (.cells #[.int .u16 0] 22)).alloc (.cells #[.bool false] 4)):=(bA _ _).alloc (by simp) _;have c0:((w.alloc (.cells #[.int .u16 0] 22)).alloc (.cells #[.bool false] 4)).heap[w.heap.size]? =some (.cells #[.int .u16 0] 22):=(Below.heap_alloc _ _ _ (by simp)).trans (heap_alloc_new w _)
 have c1:((w.alloc (.cells #[.int .u16 0] 22)).alloc (.cells #[.bool false] 4)).heap[w.heap.size+1]? =some (.cells #[.bool false] 4):=by
  have:=heap_alloc_new (w.alloc (.cells #[.int .u16 0] 22)) (.cells #[.bool false] 4);rw[World.size_alloc]at this;exact this
 have C0:=zAd c0;have C1:=zAd c1;have HQ:=zAd hq;have HEG:=zAd eg;clear c0 c1 hq eg;gi_wp2
 refine⟨trivial,?_⟩;rw[HEG.out];simp only[Oper.uponIn];generalize hw2:(w.alloc (.cells #[.int .u16 0] 22)).alloc (.cells #[.bool false] 4)=w2 at*;clear hw2;refine⟨fun _=>by omega,(callsIn_wide.2 (HQ.out w2 hb2)).mono ?_⟩;rintro e w4 ⟨rfl,l4⟩;have hb4:Later w w4:=hb2.trans l4;have d0:=zAb l4 C0.out;have d1:=zAb l4 C1.out;have hs4:w.heap.size+1+1≤w4.heap.size:=by have:=(bl9 d1);omega
 cases q with
 |true=>
  have K0:=zAa d0;have K1:=zAa d1;have F0:=zAc d0;have F1:=zAc d1;gi_wp2
  obtain⟨v0,v1,hb5⟩:=zMz d0 d1 (wish:Int) true;generalize (w4.setCell ⟨w.heap.size,0,none⟩ (.int .u16 (wish:Int))).setCell ⟨w.heap.size+1,0,none⟩ (.bool true)=V at*;have k2:=zAa v0;have k3:=zAa v1;exact⟨.tuple #[.int .u16 (wish:Int),.bool true],by simp[results,Tryz.results326,go_sem,k2,k3],rfl,Below.trans hb4 (hb5.below hb4.size (fun k hk e=>by omega))⟩
 | false=>
  gi_wp2
  refine zB7 (w:=w4) rfl (by omega) (gf:=gf) (lb:=lb) rfl trivial egf (hgen w4 hb4) hKt (fun W l o o' hl ho hc hw=>hKb w4 W l o o' hb4 hl ho hc hw) (fun hA hL=>hKl hb4 hA hL) (fun _ _ _ _ h _=>h) (fun _ _ _ _ _ _ _ _ _ h=>h) (fun _=>rfl)
   (fun pre W=>PF0 w.heap.size pre W∧Below w.heap.size w W) (fun pre W=>PF1 w.heap.size L pre W∧Below w.heap.size w W)
   (OwnFrom.and (fun s A B row hs hg hr=>hs.ct (CT.row hg (fun r e=>(hr r e).2))) (ownFrom_below (Nat.le_refl _) (by omega)))
   (fun s A B h l=>⟨h.1.ct (CT.of l),h.2.trans (l.mono h.2.size)⟩)
   (OwnFrom.and (fun s A B row hs hg hr=>hs.ct (CT.row hg (fun r e=>(hr r e).2))) (ownFrom_below (Nat.le_refl _) (by omega)))
   ⟨⟨rfl,d0,d1⟩,hb4⟩
   (fun x a' W=>a'= { tmps:=#[.int .u16 (wish:Int),.func (.func cf) #[pb] #[],.func (.func gf) #[] lb,undef,undef,undef,.pointer (some ⟨w.heap.size,0,none⟩),.pointer (some ⟨w.heap.size+1,0,none⟩),.int .u16 (x:Int),.func (.func cf) #[pb] #[],.int .u16 (wish:Int),.bool false,undef,.func (.func gf) #[] lb,.int .u16 (x:Int),undef],defers:=[] })
   (fun x a' W l o o' hl ho hc h=>h) ?assign ?body ?done ?stop
  case assign=>
   rintro l pre x W K hsz _ hX hK;dsimp only[encN]
   gi_wp2
   exact hK _ _ (Later.refl _) rfl
  case body=>
   rintro l pre x a' W ⟨⟨rfl,h0,h1⟩,hbW⟩ hX rfl;obtain⟨rest,hL⟩:=hX;have K0:=zAa h0;have K1:=zAa h1;have F0:=zAc h0;have F1:=zAc h1;have hbsz:=hbW.size;gi_wp2
   obtain⟨v0,v1,hb5⟩:=zMz h0 h1 (x:Int) true;generalize (W.setCell ⟨w.heap.size,0,none⟩ (.int .u16 (x:Int))).setCell ⟨w.heap.size+1,0,none⟩ (.bool true)=V at*;exact⟨⟨hb5.size,fun i o hi ho hc=>(hb5.block i (bl9 ho) (by omega)).trans ho⟩,⟨x,rest,rfl,hL.symm,v0,v1⟩,hbW.trans (hb5.below hbsz (fun k hk e=>by omega))⟩
  case done=>
   rintro D xs W hD rfl ⟨⟨hx,h0,h1⟩,hbW⟩ hK;subst hx;have K0:=zAa h0;have K1:=zAa h1;have F0:=zAc h0;have F1:=zAc h1;have hbsz:=hbW.size;gi_wp2
   obtain⟨v0,v1,hb5⟩:=zMz h0 h1 0 false;have hD5:=(hb5.block D (bl9 hK) (by omega)).trans hK;generalize (W.setCell ⟨w.heap.size,0,none⟩ (.int .u16 0)).setCell ⟨w.heap.size+1,0,none⟩ (.bool false)=V at*;exact zKw w.heap.size D 0 false V w (by omega) (hbW.trans (hb5.below hbsz (fun k hk e=>by omega))) v0 v1 hD5 (Nat.le_refl _) _ _ _ _ _ _ _ _ _ _ _ _ _ _
  case stop=>
   rintro D pre W hD hSp ⟨⟨x,rest,rfl,hL,h0,h1⟩,hbW⟩ hK;subst hL;gi_wp2
   exact zKw w.heap.size D (x:Int) true W w (by omega) hbW h0 h1 hK (Nat.le_refl _) _ _ _ _ _ _ _ _ _ _ _ _ _ _
theorem all8_in(b:Nat)(w:World):Calls Tryz.prog 327 #[.pointer (some ⟨b,2,none⟩)] w fun e w'=>e= .returned (.func (.func 332) #[] #[.pointer (some ⟨w.heap.size,0,none⟩)])∧w'=w.alloc (.cells #[.pointer (some ⟨b,2,none⟩)] 346):=by
 go_enter Tryz.func327,Tryz.ntmps327;go_wp2_with fail;go_ret
 exact⟨rfl,rfl⟩
def wsR (ws:Nat→Nat) (n:Nat):Nat→Nat:=upd ws (n/64) (ws (n/64) &&& (18446744073709551615-2^(n % 64)))
def tkP (base:Nat) (W':World) (b low high:Nat) (ws:Nat→Nat) (q:Bool) (L:List Nat) (n:Nat):Prop:=(fsb q L=false∧PB base W' b (low:Int) (high:Int) ws)∨(fsb q L=true∧PB base W' b (low:Int) (high:Int) (wsR ws n))
def tke (q:Bool) (L:List Nat):Int:=if fsb q L=true then 0 else 9
theorem tke_t {q:Bool} {L:List Nat} (h:fsb q L=true):tke q L=0:=by unfold tke;rw[if_pos h]
theorem tke_f {q:Bool} {L:List Nat} (h:fsb q L=false):tke q L=9:=by unfold tke;rw[if_neg (by rw[h];simp)]
theorem els_lt {ws:Nat→Nat} {x:Nat} (h:x∈els ws):x<65536:=by
 unfold els zFn wel at h;obtain⟨i,hi,hx⟩:=List.mem_flatMap.1 h;obtain⟨j,hj,rfl⟩:=List.mem_map.1 hx;unfold Pm.bl at hj;have h1:=(List.mem_filter.1 hj).1
 simp at hi h1
 omega
theorem zKx(base b low high:Nat)(ws:Nat→Nat)(wish:Nat)(w:World)(hT:PB base w b (low:Int) (high:Int) ws)(hw:wish<65536)(hz:Dz w)(hgb:6≤b:=by omega):
  Calls Tryz.prog 312 #[.pointer (some ⟨b,0,none⟩),.int .u16 (wish:Int)] w fun e w'=>e= .returned (.tuple #[.int .u16 (fsn (fr ws wish) wish (els ws):Nat),.int .i64 (tke (fr ws wish) (els ws))])∧tkP base w' b low high ws (fr ws wish) (els ws) (fsn (fr ws wish) wish (els ws))∧But (fun g=>g=b) w w':=by
 go_enter Tryz.func312,Tryz.ntmps312;go_upto_region 3 with fail;refine zAl (R:=But (fun _=>False)) 15 rfl (by kernel_rfl) ?_;have ld:Later w w.drew:=Later.drew w;have hTd:=hT.later ld;have hzd:=hz.later ld;generalize w.drew=Wd at*;refine tX (But.pre _) 0 ?_;refine tX (But.pre _) 1 ?_;refine tX (But.pre _) 2 ?_;refine tX (But.pre _) 3 ?_;refine tX (But.pre _) 4 ?_;refine tX (But.pre _) 5 ?_;refine tX (But.pre _) 6 ?_;refine tX (But.pre _) 7 ?_;refine tO 8 ?_;refine zAj 327 #[.pointer (some ⟨b,2,none⟩)] (by go_simp) ?_;refine(all8_in b Wd).mono ?_;rintro e W1 ⟨rfl,hW1⟩;have la:Later Wd W1:=by rw[hW1];exact bA _ _
 have hbx:W1.heap[Wd.heap.size]? =some (.cells #[.pointer (some ⟨b,2,none⟩)] 346 (0,0)):=by rw[hW1];exact heap_alloc_new _ _
 clear hW1;refine⟨But.of la,?_⟩;simp only[Act.put,sA,sB,sC];have hT1:=hTd.later la;have hz1:=hzd.later la;have hbl:=hTd.lt;generalize Wd.heap.size=B at*;have hBl:B<W1.heap.size:=(bl9 hbx)
 have HF:=zAd (zRc wish 145 332 (.pointer (some ⟨b,2,none⟩)) #[.pointer (some ⟨B,0,none⟩)] (fr ws wish) (els ws) (KN (b+1) B) W1
  (enters_of Tryz.func145 (by kernel_rfl) rfl) (enters_of Tryz.func332 (by kernel_rfl) rfl)
  (fun W hW=>has_any base b (low:Int) (high:Int) ws wish W (hT1.later hW) hw)
  (fun w4 h4=>alln_gen 4 (by omega) B b (b+1) base (low:Int) (high:Int) ws w4 (zAb h4 hbx) (by have:=Below.size h4;omega) (hT1.later h4) (by omega) (hz1.later h4) (Nat.lt_succ_of_le hgb))
  (fun h k=>h.trans k) (fun w4 W l o o' h4 hl ho hc hw=>(kl_put (b:=b) (m:=w4.heap.size) (by have:=Below.size h4;omega) (by have:=Below.size h4;omega) (by have:=Below.size h4;omega) hl ho hc hw).1) (fun h4 hA hL=>KN.of hL (by have:=Below.size h4;omega)))
 refine tO 9 ?_;refine zAj 326 #[.int .u16 (wish:Int),.func (.func 145) #[.pointer (some ⟨b,2,none⟩)] #[],.func (.func 332) #[] #[.pointer (some ⟨B,0,none⟩)]] (by go_simp) ?_;refine HF.out.mono ?_;rintro e W2 ⟨rfl,l2⟩;refine⟨But.of l2,?_⟩;simp only[Act.put,sA,sB,sC]
 have hlim:fsb (fr ws wish) (els ws)=true→fsn (fr ws wish) wish (els ws)<65536:=fun h=>by
  unfold fsb at h;unfold fsn;cases hq:fr ws wish with
  |true=>simpa using hw
  | false=>
   rw[hq]at h;cases hL:els ws with
   |nil=>rw[hL]at h;simp at h
   |cons x L=>
    have:x∈els ws:=by rw[hL];simp
    simpa using els_lt this
 have HLM:=zAd hlim;have hbW2:But (fun g=>g=b) w W2:=(But.of ld).trans ((But.of la).trans (But.of l2));have hT2:=hT1.later l2;clear hlim HF la l2 ld hTd hT1 hzd hz1;generalize hqe:fr ws wish=q at*;generalize hLe:els ws=L at*;have HQE:=zAd hqe;have HLE:=zAd hLe;clear hqe hLe;generalize hne:fsn q wish L=n at*;have HNE:=zAd hne;clear hne;cases hbe:fsb q L with
 |true=>
  rw[hbe]at HLM;have hn:=HLM.out rfl;have HBE:=zAd hbe;clear hbe;refine tX (But.pre _) 10 ?_;refine tX (But.pre _) 11 ?_;refine tX (But.pre _) 12 ?_;refine tX (But.pre _) 13 ?_;refine tX (But.pre _) 14 ?_;refine tD ?_;go_wp2_with fail;refine(zQ9 base b (low:Int) (high:Int) ws n W2 hT2 hn).mono ?_;rintro e W3 ⟨⟨v,rfl⟩,hT3,hb3⟩;have hfb:=hbW2.trans hb3;go_wp2_with fail;refine bodyPost_ret (v:= .tuple #[.int .u16 (n:Int),.int .i64 0]) (by simp[results,Tryz.results312,go_sem]) rfl ?_;rw[HQE.out,HLE.out,HNE.out,tke_t HBE.out];exact⟨rfl,.inr ⟨HBE.out,hT3⟩,hfb⟩
 | false=>
  have HBE:=zAd hbe;clear hbe;refine tX (But.pre _) 10 ?_;refine tX (But.pre _) 11 ?_;refine tX (But.pre _) 12 ?_;refine tX (But.pre _) 13 ?_;refine tX (But.pre _) 14 ?_;refine tD ?_;go_wp2_with fail;refine bodyPost_ret (v:= .tuple #[.int .u16 0,.int .i64 9]) (by simp[results,Tryz.results312,go_sem]) rfl ?_;rw[HQE.out,HLE.out,HNE.out,tke_f HBE.out]
  have hn0:n=0:=by
   rw[←HNE.out];have:=HBE.out;unfold fsb at this;unfold fsn;cases q with
   |true=>simp at this
   |false=>
    cases L with
    |nil=>rfl
    |cons x L=>simp at this
  subst hn0;exact⟨rfl,.inl ⟨HBE.out,hT2⟩,hbW2⟩
open Go.RowKit
theorem flt_fit2 {lo ld:Nat} (hf:flt lo ld=0):lo≤40∧lo % 4=0∧20+lo+ld≤65535:=by
 unfold flt at hf;split at hf<;>first|omega|(split at hf<;>omega)
theorem zCw(s d p n:Int)(zs:List Int):Mt.tw true (psd s d p n++zs)=Mt.tw true (psd s d p n)+Mt.tw true zs:=by
 rw[Mt.tw_append,zBb];rfl
theorem zI5(s d p n:Int)(zs:List Int)(k:Nat)(hB:Mt.By (psd s d p n++zs))(hk:k % 2=0)(hl:k+1<zs.length)(h0:zs[k]?.getD 0=0)(h1:zs[k+1]?.getD 0=0):Mt.cks (psd s d p n++Mt.put2 zs k (Mt.cks (psd s d p n++zs)))=0:=by
 have hn:=Mt.tw_nonneg true _ hB;have hg:=Mt.fd_good _ hn;rw[zCw]at hn hg;unfold Mt.cks;rw[zCw,Mt.tw_put2 zs k _ hk hl,h0,h1,zCw];rw[show Mt.tw true (psd s d p n)+(Mt.tw true zs+(65535-Mt.fd (Mt.tw true (psd s d p n)+Mt.tw true zs))-(0*256+0))=Mt.tw true (psd s d p n)+Mt.tw true zs+(65535-Mt.fd (Mt.tw true (psd s d p n)+Mt.tw true zs))from by omega,hg];rfl
theorem zT1(s d p n:Int)(zs:List Int)(k:Nat)(hB:Mt.By (psd s d p n++zs))(hk:k % 2=0)(hl:k+1<zs.length)(h0:zs[k]?.getD 0=0)(h1:zs[k+1]?.getD 0=0)(hc:Mt.cks (psd s d p n++zs)=0):Mt.cks (psd s d p n++Mt.put2 zs k 65535)=0:=by
 have hg:=Mt.fd_eq _ (show Mt.fd (Mt.tw true (psd s d p n++zs))=65535 from by unfold Mt.cks at hc;omega);rw[zCw]at hg;unfold Mt.cks;rw[zCw,Mt.tw_put2 zs k _ hk hl,h0,h1,Mt.fd_of _ (by omega) (by omega)];rfl
section
variable (sp dp sq ak fl wn ur:Int) (ob:List Int) (src dst:Int) (zd:List Int)
def zPk (c:Int):List Int:=Mt.put2 ([sp,dp].flatMap b2++[sq,ak].flatMap b4++[(20+(ob.length:Int))/4*16,fl]++[wn,0,ur].flatMap b2) 16 c
theorem zCa(c:Int):(zPk sp dp sq ak fl wn ur ob c).length=20:=by simp[zPk,Mt.put2_length,b2,b4]
theorem zGm:tcp sp dp sq ak fl wn ur ob src dst zd=zPk sp dp sq ak fl wn ur ob (Mt.cks (psd src dst 6 (20+ob.length+zd.length:Nat)++zEy sp dp sq ak fl wn ur ob zd))++(ob++zd):=by
 unfold tcp zPk;generalize Mt.cks (psd src dst 6 (20+ob.length+zd.length:Nat)++zEy sp dp sq ak fl wn ur ob zd)=c;simp[zEy,Mt.put2,b2,b4]
theorem tcp_drop(h:Nat)(hh:h=20+ob.length):(tcp sp dp sq ak fl wn ur ob src dst zd).drop h=zd:=by
 subst hh;rw[zGm,List.drop_append,zCa,List.drop_of_length_le (by rw[zCa];omega),List.nil_append,show 20+ob.length-20=ob.length from by omega,List.drop_left]
theorem tcp_opt(h:Nat)(hh:h=20+ob.length):((tcp sp dp sq ak fl wn ur ob src dst zd).drop 20).take (h-20)=ob:=by
 subst hh;rw[zGm,List.drop_append,zCa,List.drop_of_length_le (by rw[zCa];omega),List.nil_append,Nat.sub_self,List.drop_zero,show 20+ob.length-20=ob.length from by omega,List.take_left]
theorem zPl(j:Nat)(hj:j<20):(tcp sp dp sq ak fl wn ur ob src dst zd)[j]?.getD 0=(zPk sp dp sq ak fl wn ur ob (Mt.cks (psd src dst 6 (20+ob.length+zd.length:Nat)++zEy sp dp sq ak fl wn ur ob zd)))[j]?.getD 0:=by
 rw[zGm,List.getElem?_append_left (by rw[zCa];exact hj)]
theorem tcp_12:(tcp sp dp sq ak fl wn ur ob src dst zd)[12]?.getD 0=(20+(ob.length:Int))/4*16:=by rw[zPl _ _ _ _ _ _ _ _ _ _ _ 12 (by omega)];simp[zPk,Mt.put2,b2,b4]
theorem tcp_13:(tcp sp dp sq ak fl wn ur ob src dst zd)[13]?.getD 0=fl:=by rw[zPl _ _ _ _ _ _ _ _ _ _ _ 13 (by omega)];simp[zPk,Mt.put2,b2,b4]
theorem zM0(h4:ob.length % 4=0):thd (tcp sp dp sq ak fl wn ur ob src dst zd)=20+(ob.length:Int):=by unfold thd;rw[tcp_12];omega
theorem zDj(j:Nat)(hj:j+1<20):wat (tcp sp dp sq ak fl wn ur ob src dst zd) j=wat (zPk sp dp sq ak fl wn ur ob (Mt.cks (psd src dst 6 (20+ob.length+zd.length:Nat)++zEy sp dp sq ak fl wn ur ob zd))) j:=by
 unfold wat;rw[zPl _ _ _ _ _ _ _ _ _ _ _ j (by omega),zPl _ _ _ _ _ _ _ _ _ _ _ (j+1) hj]
theorem tcp_w0:wat (tcp sp dp sq ak fl wn ur ob src dst zd) 0=sp:=by rw[zDj _ _ _ _ _ _ _ _ _ _ _ 0 (by omega)];simp[wat,zPk,Mt.put2,b2,b4];omega
theorem tcp_w2:wat (tcp sp dp sq ak fl wn ur ob src dst zd) 2=dp:=by rw[zDj _ _ _ _ _ _ _ _ _ _ _ 2 (by omega)];simp[wat,zPk,Mt.put2,b2,b4];omega
theorem tcp_w14:wat (tcp sp dp sq ak fl wn ur ob src dst zd) 14=wn:=by rw[zDj _ _ _ _ _ _ _ _ _ _ _ 14 (by omega)];simp[wat,zPk,Mt.put2,b2,b4];omega
theorem tcp_w18:wat (tcp sp dp sq ak fl wn ur ob src dst zd) 18=ur:=by rw[zDj _ _ _ _ _ _ _ _ _ _ _ 18 (by omega)];simp[wat,zPk,Mt.put2,b2,b4];omega
theorem tcp_w4:zAs (tcp sp dp sq ak fl wn ur ob src dst zd) 4=sq:=by unfold zAs;rw[zDj _ _ _ _ _ _ _ _ _ _ _ 4 (by omega),zDj _ _ _ _ _ _ _ _ _ _ _ (4+2) (by omega)];simp[wat,zPk,Mt.put2,b2,b4];omega
theorem tcp_w8:zAs (tcp sp dp sq ak fl wn ur ob src dst zd) 8=ak:=by unfold zAs;rw[zDj _ _ _ _ _ _ _ _ _ _ _ 8 (by omega),zDj _ _ _ _ _ _ _ _ _ _ _ (8+2) (by omega)];simp[wat,zPk,Mt.put2,b2,b4];omega
theorem tcp_good(hs:0≤src∧src≤4294967295)(hd:0≤dst∧dst≤4294967295)(hB:Mt.By (zEy sp dp sq ak fl wn ur ob zd)):Mt.cks (psd src dst 6 (20+ob.length+zd.length:Nat)++tcp sp dp sq ak fl wn ur ob src dst zd)=0:=
 zI5 src dst 6 _ _ 16 ((zFg src dst 6 _ hs hd (by omega)).append hB) (by omega) (by rw[zD9];omega) (by simp[zEy,b2,b4]) (by simp[zEy,b2,b4])
theorem tcp_ptc(proto:Int)(hp:proto=6)(s d:Int)(h4:ob.length % 4=0)(h40:ob.length≤40):ptc proto s d (tcp sp dp sq ak fl wn ur ob src dst zd)=if Mt.cks (psd s d 6 (20+ob.length+zd.length:Nat)++tcp sp dp sq ak fl wn ur ob src dst zd)≠0 then 5 else 0:=by
 unfold ptc;rw[if_neg (by simp[hp]),zHy,if_neg (by omega),zM0 _ _ _ _ _ _ _ _ _ _ _ h4,tcp_12,if_neg (by omega),if_neg (by omega)]
end
theorem tcp_hop(sp dp sq ak fl wn ur:Int)(ob:List Int)(src dst:Int)(zd:List Int)(h4:ob.length % 4=0):hop (tcp sp dp sq ak fl wn ur ob src dst zd)=ob:=by
 unfold hop;rw[zM0 _ _ _ _ _ _ _ _ _ _ _ h4];exact tcp_opt _ _ _ _ _ _ _ _ _ _ _ _ (by omega)
theorem tcp_pte(sp dp sq ak fl wn ur:Int)(os:List Opt)(src dst:Int)(zd:List Int)(hok:zSd os)(hs:0≤src∧src≤4294967295)(hd:0≤dst∧dst≤4294967295)(hB:Mt.By (zEy sp dp sq ak fl wn ur (pad (obs os)) zd)):
  pte 6 src dst (tcp sp dp sq ak fl wn ur (pad (obs os)) src dst zd)=0∧zCf (hop (tcp sp dp sq ak fl wn ur (pad (obs os)) src dst zd))=some os:=by
 have h1:ptc 6 src dst (tcp sp dp sq ak fl wn ur (pad (obs os)) src dst zd)=0:=by
  rw[tcp_ptc _ _ _ _ _ _ _ _ _ _ _ 6 rfl src dst (zMk _) (pad_le _ hok.2),if_neg (by rw[tcp_good _ _ _ _ _ _ _ _ _ _ _ hs hd hB];simp)]
 have h2:zCf (hop (tcp sp dp sq ak fl wn ur (pad (obs os)) src dst zd))=some os:=by rw[tcp_hop _ _ _ _ _ _ _ _ _ _ _ (zMk _)];exact opts_pad os hok
 refine⟨?_,h2⟩;unfold pte;rw[if_neg (by simp[h1]),h2];rfl
section
variable (sp dp:Int) (bare:Bool) (src dst:Int) (zm:List Int)
end
def prt (a b:Int) (zs:List Int):List Int:=Mt.put2 (Mt.put2 zs 0 a) 2 b
def nbr (x:Int):Int:=if x=0 then 65535 else x
def rwT (s d a b:Int) (zs:List Int):List Int:=Mt.put2 (Mt.put2 (prt a b zs) 16 0) 16 (Mt.cks (psd s d 6 zs.length++Mt.put2 (prt a b zs) 16 0))
def rwU (s d a b:Int) (zs:List Int):List Int:=if wat zs 6=0 then prt a b zs else Mt.put2 (Mt.put2 (prt a b zs) 6 0) 6 (nbr (Mt.cks (psd s d 17 zs.length++Mt.put2 (prt a b zs) 6 0)))
def rwI (a:Int) (zs:List Int):List Int:=Mt.put2 (Mt.put2 (Mt.put2 zs 4 a) 2 0) 2 (Mt.cks (Mt.put2 (Mt.put2 zs 4 a) 2 0))
def rwG (b:Int) (zs:List Int):List Int:=Mt.put2 zs 6 b
def rwD (pr s d a b:Int) (zs:List Int):List Int:=if pr=6 then rwT s d a b zs else if pr=17 then rwU s d a b zs else if pr=1 then rwI a zs else rwG b zs
theorem nbr_bd {x:Int} (h:0≤x∧x≤65535):0<nbr x∧nbr x≤65535:=by unfold nbr;split<;>omega
theorem zBc(a b:Int)(zs:List Int):(prt a b zs).length=zs.length:=by simp[prt,Mt.put2_length]
theorem zKy {a b:Int} {zs:List Int} (h:Mt.By zs)(ha:0≤a∧a≤65535)(hb:0≤b∧b≤65535):Mt.By (prt a b zs):=(h.put2 0 ha).put2 2 hb
theorem zCb(a b:Int)(zs:List Int)(j:Nat)(h:4≤j):(prt a b zs)[j]? =zs[j]? :=by
 unfold prt;rw[Mt.put2_other _ _ _ _ (by omega) (by omega),Mt.put2_other _ _ _ _ (by omega) (by omega)]
theorem zB4(s d a b:Int)(zs:List Int):(rwT s d a b zs).length=zs.length:=by simp[rwT,Mt.put2_length,zBc]
theorem zH1(s d a b:Int)(zs:List Int):(rwU s d a b zs).length=zs.length:=by unfold rwU;split<;>simp[Mt.put2_length,zBc]
theorem zH2(a:Int)(zs:List Int):(rwI a zs).length=zs.length:=by simp[rwI,Mt.put2_length]
theorem zH3(pr s d a b:Int)(zs:List Int):(rwD pr s d a b zs).length=zs.length:=by
 unfold rwD;split
 ·exact zB4 ..
 split
 ·exact zH1 ..
 split
 ·exact zH2 ..
 ·exact Mt.put2_length ..
theorem rwT_by {s d a b:Int} {zs:List Int} (h:Mt.By zs)(ha:0≤a∧a≤65535)(hb:0≤b∧b≤65535):Mt.By (rwT s d a b zs):=((zKy h ha hb).put2 16 (by omega)).put2 16 (Mt.cks_bd _)
theorem zGn(s d a b:Int)(zs:List Int)(j:Nat)(h:4≤j)(h2:j≠16)(h3:j≠17):(rwT s d a b zs)[j]? =zs[j]? :=by
 unfold rwT;rw[Mt.put2_other _ _ _ _ (by omega) (by omega),Mt.put2_other _ _ _ _ (by omega) (by omega),zCb _ _ _ _ h]
theorem zKz(s d a b:Int)(zs:List Int)(j:Nat)(h:4≤j)(h2:j≠6)(h3:j≠7):(rwU s d a b zs)[j]? =zs[j]? :=by
 unfold rwU;split
 ·exact zCb _ _ _ _ h
 ·rw[Mt.put2_other _ _ _ _ (by omega) (by omega),Mt.put2_other _ _ _ _ (by omega) (by omega),zCb _ _ _ _ h]
theorem zK0(a:Int)(zs:List Int)(j:Nat)(h:j<2∨6≤j):(rwI a zs)[j]? =zs[j]? :=by
 unfold rwI;rw[Mt.put2_other _ _ _ _ (by omega) (by omega),Mt.put2_other _ _ _ _ (by omega) (by omega),Mt.put2_other _ _ _ _ (by omega) (by omega)]
theorem zCl {xs zs:List Int} {k:Nat} (h0:xs[k]? =zs[k]?)(h1:xs[k+1]? =zs[k+1]?):wat xs k=wat zs k:=by unfold wat;rw[h0,h1]
theorem zK1 {xs zs:List Int} {k:Nat} (h:∀j,k≤j→j<k+4→xs[j]? =zs[j]?):zAs xs k=zAs zs k:=by
 unfold zAs;rw[zCl (h k (by omega) (by omega)) (h (k+1) (by omega) (by omega)),zCl (h (k+2) (by omega) (by omega)) (h (k+2+1) (by omega) (by omega))]
theorem zK2 {xs zs:List Int} {k:Nat} (h:∀j,k≤j→xs[j]? =zs[j]?):xs.drop k=zs.drop k:=by
 apply List.ext_getElem?
 intro i
 rw[List.getElem?_drop,List.getElem?_drop,h _ (by omega)]
theorem prt_w0(a b:Int)(zs:List Int)(h:4≤zs.length)(ha:0≤a):wat (prt a b zs) 0=a:=by
 unfold prt;rw[zBo _ _ _ _ (by omega),zIq _ _ _ (by omega) ha]
theorem prt_w2(a b:Int)(zs:List Int)(h:4≤zs.length)(hb:0≤b):wat (prt a b zs) 2=b:=by
 unfold prt;rw[zIq _ _ _ (by simp[Mt.put2_length];omega) hb]
theorem rwT_w0(s d a b:Int)(zs:List Int)(h:20≤zs.length)(ha:0≤a):wat (rwT s d a b zs) 0=a:=by
 unfold rwT;rw[zBo _ _ _ _ (by omega),zBo _ _ _ _ (by omega),prt_w0 _ _ _ (by omega) ha]
theorem rwT_w2(s d a b:Int)(zs:List Int)(h:20≤zs.length)(hb:0≤b):wat (rwT s d a b zs) 2=b:=by
 unfold rwT;rw[zBo _ _ _ _ (by omega),zBo _ _ _ _ (by omega),prt_w2 _ _ _ (by omega) hb]
theorem rwU_w6(s d a b:Int)(zs:List Int)(h:8≤zs.length):(wat (rwU s d a b zs) 6==0)=(wat zs 6==0):=by
 unfold rwU;split
 ·rename_i h0
  rw[zCl (zCb _ _ _ _ (by omega)) (zCb _ _ _ _ (by omega))]
 ·rename_i h0
  have:=nbr_bd (Mt.cks_bd (psd s d 17 zs.length++Mt.put2 (prt a b zs) 6 0));rw[zIq _ _ _ (by simp[Mt.put2_length,zBc];omega) (by omega)];have e1:(nbr (Mt.cks (psd s d 17 zs.length++Mt.put2 (prt a b zs) 6 0))==0)=false:=by simp;omega
  have e2:(wat zs 6==0)=false:=by simp[h0]
  rw[e1,e2]
theorem rwT_good {s d a b:Int} {zs:List Int} (h:Mt.By zs)(hl:20≤zs.length)(hs:0≤s∧s≤4294967295)(hd:0≤d∧d≤4294967295)(ha:0≤a∧a≤65535)(hb:0≤b∧b≤65535):Mt.cks (psd s d 6 zs.length++rwT s d a b zs)=0:=by
 unfold rwT;have hz:=Mt.put2_at (prt a b zs) 16 0 (by rw[zBc];omega);refine zI5 s d 6 zs.length _ 16 ?_ (by omega) (by simp[Mt.put2_length,zBc];omega) (by rw[hz.1];rfl) (by rw[hz.2];rfl);exact(zFg s d 6 zs.length hs hd (by omega)).append ((zKy h ha hb).put2 16 (by omega))
theorem rwU_good {s d a b:Int} {zs:List Int} (h:Mt.By zs)(hl:8≤zs.length)(hs:0≤s∧s≤4294967295)(hd:0≤d∧d≤4294967295)(ha:0≤a∧a≤65535)(hb:0≤b∧b≤65535):wat (rwU s d a b zs) 6≠0→Mt.cks (psd s d 17 zs.length++rwU s d a b zs)=0:=by
 intro h6
 have h60:wat zs 6≠0:=by
  intro e
  have:=rwU_w6 s d a b zs hl;rw[e]at this
  simp at this
  exact h6 this
 unfold rwU;rw[if_neg h60];have hz:=Mt.put2_at (prt a b zs) 6 0 (by rw[zBc];omega);have hBB:=(zFg s d 17 zs.length hs hd (by omega)).append ((zKy h ha hb).put2 6 (v:=0) (by omega));unfold nbr;split
 ·rename_i h0
  exact zT1 s d 17 zs.length _ 6 hBB (by omega) (by simp[Mt.put2_length,zBc];omega) (by rw[hz.1];rfl) (by rw[hz.2];rfl) h0
 ·exact zI5 s d 17 zs.length _ 6 hBB (by omega) (by simp[Mt.put2_length,zBc];omega) (by rw[hz.1];rfl) (by rw[hz.2];rfl)
theorem zT2(zs:List Int)(k:Nat)(hB:Mt.By zs)(hk:k % 2=0)(hl:k+1<zs.length)(h0:zs[k]?.getD 0=0)(h1:zs[k+1]?.getD 0=0):Mt.cks (Mt.put2 zs k (Mt.cks zs))=0:=by
 have hn:=Mt.tw_nonneg true _ hB;have hg:=Mt.fd_good _ hn;unfold Mt.cks;rw[Mt.tw_put2 zs k _ hk hl,h0,h1];rw[show Mt.tw true zs+(65535-Mt.fd (Mt.tw true zs))-(0*256+0)=Mt.tw true zs+(65535-Mt.fd (Mt.tw true zs))from by omega,hg];rfl
theorem rwI_good {a:Int} {zs:List Int} (h:Mt.By zs)(hl:8≤zs.length)(ha:0≤a∧a≤65535):Mt.cks (rwI a zs)=0:=by
 have hz:=Mt.put2_at (Mt.put2 zs 4 a) 2 0 (by rw[Mt.put2_length];omega);exact zT2 _ 2 ((h.put2 4 ha).put2 2 (by omega)) (by omega) (by simp[Mt.put2_length];omega) (by rw[hz.1];rfl) (by rw[hz.2];rfl)
theorem zT3 {src dst s d a b:Int} {zs:List Int} (h:Mt.By zs)(hp:pte 6 src dst zs=0)(hs:0≤s∧s≤4294967295)(hd:0≤d∧d≤4294967295)(ha:0≤a∧a≤65535)(hb:0≤b∧b≤65535):
  pte 6 s d (rwT s d a b zs)=0∧thd (rwT s d a b zs)=thd zs∧hop (rwT s d a b zs)=hop zs∧20≤zs.length∧20≤thd zs:=by
 have hpc:ptc 6 src dst zs=0:=by
  unfold pte at hp;split at hp
  ·rename_i h1;exact absurd hp h1
  ·rename_i h1;simpa using h1
 have hop':(zCf (hop zs)).isNone=false:=by
  unfold pte at hp;rw[if_neg (by simp[hpc])]at hp;split at hp
  ·omega
  ·rename_i h1;exact Bool.eq_false_iff.2 h1
 obtain⟨_,h20,ht20,htl,h16,_⟩:=zPd hpc;have e12:(rwT s d a b zs)[12]? =zs[12]? :=zGn _ _ _ _ _ _ (by omega) (by omega) (by omega);have et:thd (rwT s d a b zs)=thd zs:=by unfold thd;rw[e12]
 have eh:hop (rwT s d a b zs)=hop zs:=by unfold hop;rw[et,zK2 (fun j hj=>zGn s d a b zs j (by omega) (by omega) (by omega))]
 refine⟨?_,et,eh,h20,ht20⟩;have eg:=rwT_good h h20 hs hd ha hb
 have ep:ptc 6 s d (rwT s d a b zs)=0:=by
  unfold ptc;rw[zB4,et,e12,if_neg (by omega),if_neg (by omega),if_neg (by omega),if_neg (by omega),if_neg (by simp[eg])]
 unfold pte;rw[if_neg (by simp[ep]),eh,if_neg (by simp[hop'])]
theorem rwU_pue {src dst s d a b:Int} {zs:List Int} (h:Mt.By zs)(hp:pue 17 src dst zs=0)(hs:0≤s∧s≤4294967295)(hd:0≤d∧d≤4294967295)(ha:0≤a∧a≤65535)(hb:0≤b∧b≤65535):
  pue 17 s d (rwU s d a b zs)=0∧8≤zs.length:=by
 unfold pue at hp;rw[if_neg (by omega)]at hp;split at hp
 ·omega
 split at hp
 ·omega
 rename_i h8 h4
 have hl:8≤zs.length:=by omega
 refine⟨?_,hl⟩;have hg:=rwU_good h hl hs hd ha hb;unfold pue;rw[zH1,zCl (zKz s d a b zs 4 (by omega) (by omega) (by omega)) (zKz s d a b zs 5 (by omega) (by omega) (by omega)),if_neg (by omega),if_neg (by omega),if_neg h4,if_neg (fun e=>e.2 (hg e.1))]
theorem rwI_oie {a:Int} {zs:List Int} (h:Mt.By zs)(hp:oie zs=0)(ha:0≤a∧a≤65535):oie (rwI a zs)=0∧pie 1 (rwI a zs)=0∧pie 1 zs=0∧8≤zs.length:=by
 have hi:pie 1 zs=0:=by
  unfold oie at hp;split at hp
  ·rename_i h1;exact absurd hp h1
  ·rename_i h1;simpa using h1
 have hl:8≤zs.length:=by
  unfold pie at hi;rw[if_neg (by omega)]at hi;split at hi<;>omega
 have hi2:pie 1 (rwI a zs)=0:=by
  unfold pie;rw[zH2,rwI_good h hl ha,if_neg (by omega),if_neg (by omega),if_neg (by omega)]
 refine⟨?_,hi2,hi,hl⟩;unfold oie at hp⊢;rw[if_neg (by simp[hi])]at hp;rw[if_neg (by simp[hi2]),zK0 a zs 0 (by omega),zK0 a zs 1 (by omega)];exact hp
theorem rwG_pge {b:Int} {zs:List Int} (hp:pge 47 zs=0):pge 47 (rwG b zs)=0∧bgz (rwG b zs)=bgz zs∧8≤zs.length:=by
 have hl:8≤zs.length:=by
  unfold pge at hp;rw[if_neg (by omega)]at hp;split at hp<;>omega
 have e:∀j,j≠6→j≠7→(rwG b zs)[j]? =zs[j]? :=fun j h1 h2=>Mt.put2_other _ _ _ _ h1 h2;have eb:bgz (rwG b zs)=bgz zs:=by unfold bgz;rw[e 0 (by omega) (by omega),e 1 (by omega) (by omega),e 2 (by omega) (by omega),e 3 (by omega) (by omega)]
 refine⟨?_,eb,hl⟩;unfold pge at hp⊢;rw[show (rwG b zs).length=zs.length from Mt.put2_length _ _ _,eb,zCl (e 4 (by omega) (by omega)) (e 5 (by omega) (by omega))];exact hp
structure Un where
 p1:Int
 s1:Int
 d1:Int
 a1:Int
 b1:Int
 pr:Int
 s:Int
 d:Int
 a:Int
 b:Int
def unc (u:Un) (bv:Value):Array Value:=#[bv,.int .u8 u.p1,.int .u32 u.s1,.int .u32 u.d1,.int .u16 u.a1,.int .u16 u.b1,.int .u8 u.pr,.int .u32 u.s,.int .u32 u.d,.int .u16 u.a,.int .u16 u.b]
def UB (w:World) (g:Nat) (u:Un) (bv:Value):Prop:=w.heap[g]? =some (.cells (unc u bv) 326 (0,0))
def UR (w:World) (g:Nat) (u:Un) (zs:List Int):Prop:=∃bv,UB w g u bv∧Rd w.heap.size w bv zs
def US (base:Nat) (w:World) (g:Nat) (u:Un) (zs:List Int):Prop:=∃bv,UB w g u bv∧Ow base w bv zs
theorem US.ur {base:Nat} {w:World} {g:Nat} {u:Un} {zs:List Int} (h:US base w g u zs):UR w g u zs:=by
 obtain⟨bv,h1,h2⟩:=h;exact⟨bv,h1,h2.rd⟩
theorem UB.later {w w':World} {g:Nat} {u:Un} {bv:Value} (h:UB w g u bv)(l:Later w w'):UB w' g u bv:=(l.block g (bl9 h)).trans h
theorem UR.later {w w':World} {g:Nat} {u:Un} {zs:List Int} (h:UR w g u zs)(l:Later w w'):UR w' g u zs:=by
 obtain⟨bv,h1,h2⟩:=h;exact⟨bv,h1.later l,(h2.below l).mono l.size⟩
theorem US.later {base:Nat} {w w':World} {g:Nat} {u:Un} {zs:List Int} (h:US base w g u zs)(l:Later w w'):US base w' g u zs:=by
 obtain⟨bv,h1,h2⟩:=h;exact⟨bv,h1.later l,h2.later l⟩
def UQ (base:Nat) (w:World) (g:Nat) (u:Un) (zs:List Int) (e:Ending) (w':World):Prop:=e= .returned (.tuple #[])∧US base w' g u zs∧But (fun q=>q=g) w w'
theorem zBy(base:Nat)(g:Nat)(u:Un)(zs:List Int)(p v:Int)(w:World)(h:UR w g u zs)(hb:base≤w.heap.size)(hl:zs.length≤140737488355328)(hv:0≤v∧v≤65535):
  Calls Tryz.prog 296 #[.pointer (some ⟨g,0,none⟩),.int .i64 p,.int .u16 v] w fun e w'=>UQ base w g u (zBl zs p v) e w':=by
 obtain⟨bv,hU,hI⟩:=h;obtain⟨a,cap,rfl,hl1,hm1⟩:=hI.slice;have CU:=zAa hU;simp only[unc]at CU;go_enter Tryz.func296,Tryz.ntmps296;go_wp2_with fail;refine(zB6 _ zs p v w hl hI hv).mono ?_;rintro e w1 ⟨a1,rfl,hO,hb1⟩;have l1:Later w w1:=hb1;have hU1:=hU.later l1;have C1:=zAa hU1;have F1:=zAc hU1;simp only[unc]at C1;have hB:But (fun q=>q=g) w1 (w1.setCell ⟨g,0,none⟩ (.slice a1 zs.length zs.length)):=But.setCell (E:=fun q=>q=g) (But.refl _ _) (p:=⟨g,0,none⟩) rfl _;have hU2:UB (w1.setCell ⟨g,0,none⟩ (.slice a1 zs.length zs.length)) g u (.slice a1 zs.length zs.length):=zAh hU1 0 _;have HB:=zAd hB;have HU2:=zAd hU2;have hO2:=zAd (Ow.aside (hO.mono hb) hU1 (by decide) hB);clear hB hU2 CU hU hI;go_wp2_with fail;go_end0
 exact⟨rfl,⟨_,HU2.out,hO2.out⟩,(But.of l1).trans HB.out⟩
theorem uget_any {n:Nat} (g:Nat)(u:Un)(zs:List Int)(hB:Mt.By zs)(p:Int)(w:World)(h:UR w g u zs):
  Calls Tryz.prog 322 #[.pointer (some ⟨g,0,none⟩),.int .i64 p] w fun e w'=>e= .returned (.int .u16 (zAp zs p))∧∃n,w'=w.drewN n:=by
 obtain⟨bv,hU,hI⟩:=h;obtain⟨a,cap,rfl,hl1,hm1⟩:=hI.slice;have CU:=zAa hU;simp only[unc]at CU;go_enter Tryz.func322,Tryz.ntmps322;go_wp2_with fail;refine(zDt _ zs hB p w hI).mono ?_;rintro e w1 ⟨rfl,n,rfl⟩;go_wp2_with fail;go_ret
 exact⟨rfl,n,rfl⟩
theorem zT4(g:Nat)(u:Un)(zs:List Int)(hB:Mt.By zs)(w:World)(h:UR w g u zs):
  Calls Tryz.prog 298 #[.pointer (some ⟨g,0,none⟩)] w fun e w'=>e= .returned (.bool (zAp zs 6==0))∧Later w w':=by
 go_enter Tryz.func298,Tryz.ntmps298;go_wp2_with fail;refine(uget_any (n:=0) g u zs hB 6 w h).mono ?_;rintro e w1 ⟨rfl,n,hq⟩;have l1:Later w w1:=by rw[hq];exact zAk (Below.refl _ _) n
 clear hq;go_wp2_with fail;go_ret
 exact⟨rfl,l1⟩
theorem zM1(x:Int)(w:World):Calls Tryz.prog 299 #[.int .u16 x] w fun e w'=>e= .returned (.int .u16 (nbr x))∧w'=w:=by
 by_cases h:x=0
 ·subst h
  go_enter Tryz.func299,Tryz.ntmps299;go_wp2_with fail;go_ret
  exact⟨rfl,rfl⟩
 ·have h0:(x==0)=false:=by simp[h]
  rw[show nbr x=x from by unfold nbr;rw[if_neg h]];clear h;go_enter Tryz.func299,Tryz.ntmps299;go_wp2_with fail;go_ret
  exact⟨rfl,rfl⟩
theorem zH4(base:Nat)(g:Nat)(u:Un)(zs:List Int)(w:World)(h:UR w g u zs)(hb:base≤w.heap.size)(hl:zs.length≤140737488355328)(h4:4≤zs.length)(ha:0≤u.a∧u.a≤65535)(hbb:0≤u.b∧u.b≤65535):
  Calls Tryz.prog 295 #[.pointer (some ⟨g,0,none⟩)] w fun e w'=>UQ base w g u (prt u.a u.b zs) e w':=by
 have HP:=zAd (fun w (h:UR w g u zs) (hb:base≤w.heap.size)=>zBy base g u zs 0 u.a w h hb hl ha);rw[zAv zs 0 0 u.a rfl (by omega)]at HP;obtain⟨bv,hU,_⟩:=id h;have CU:=zAa hU;simp only[unc]at CU;go_enter Tryz.func295,Tryz.ntmps295;go_wp2_with fail;refine(HP.out w h hb).mono ?_;rintro e w1 ⟨rfl,hS,b1⟩;obtain⟨bv1,hU1,_⟩:=id hS;have C1:=zAa hU1;simp only[unc]at C1;have hbb1:base≤w1.heap.size:=Nat.le_trans hb b1.size;clear CU hU HP;go_wp2_with fail;refine(zBy base g u _ 2 u.b w1 hS.ur hbb1 (by rw[Mt.put2_length];exact hl) hbb).mono ?_;rw[zAv _ 2 2 u.b rfl (by rw[Mt.put2_length];omega)];rintro e w2 ⟨rfl,hS2,b2⟩;go_wp2_with fail;go_end0
 exact⟨rfl,hS2,b1.trans b2⟩
theorem zGo(g:Nat)(u:Un)(zs:List Int)(w:World)(h:UR w g u zs)(hl:12+zs.length≤140737488355328)(hsr:0≤u.s∧u.s≤4294967295)(hds:0≤u.d∧u.d≤4294967295):
  Calls Tryz.prog 297 #[.pointer (some ⟨g,0,none⟩)] w fun e w'=>∃a c,e= .returned (.slice a (12+zs.length) c)∧Ow w.heap.size w' (.slice a (12+zs.length) c) (psd u.s u.d u.pr zs.length++zs)∧Later w w':=by
 obtain⟨i0,hi,hz0,hz1,hz2⟩:=info_parts zBt;obtain⟨bv,hU,hI⟩:=h;obtain⟨a,cap,rfl,hl1,hm1⟩:=hI.slice;go_enter Tryz.func297,Tryz.ntmps297;go_upto_region 1 with fail;refine zAl (R:=Later) 27 rfl (by kernel_rfl) ?_;have hd:Later w w.drew:=Later.drew w;have hI1:=hI.below hd;have hs1:w.heap.size≤w.drew.heap.size:=hd.size;have qp:∀v1,Later w.drew v1→∀i,v1.cell? ⟨g,i,none⟩=#[Value.slice a zs.length cap,.int .u8 u.p1,.int .u32 u.s1,.int .u32 u.d1,.int .u16 u.a1,.int .u16 u.b1,.int .u8 u.pr,.int .u32 u.s,.int .u32 u.d,.int .u16 u.a,.int .u16 u.b][i]? :=fun v1 h=>zAa (hU.later (hd.trans h));generalize w.drew=W1 at*;refine tX Later.pre 0 ?_;refine tX Later.pre 1 ?_;refine tX Later.pre 2 ?_;refine tX Later.pre 3 ?_;refine tX Later.pre 4 ?_;refine tX Later.pre 5 ?_;refine tX Later.pre 6 ?_;refine tX Later.pre 7 ?_;refine tX Later.pre 8 ?_;refine tX Later.pre 9 ?_;refine tX Later.pre 10 ?_;refine tX Later.pre 11 ?_;refine tX Later.pre 12 ?_;refine tX Later.pre 13 ?_;refine tX Later.pre 14 ?_;refine tX Later.pre 15 ?_;refine tX Later.pre 16 ?_;refine tX Later.pre 17 ?_;refine tX Later.pre 18 ?_;refine tX Later.pre 19 ?_;refine tX Later.pre 21 ?_;refine tX Later.pre 22 ?_;refine tX Later.pre 23 ?_;refine tX Later.pre 24 ?_;refine tO 20 ?_;refine zAj 124 #[.int .u32 u.s,.int .u32 u.d,.int .u8 u.pr,.int .i64 zs.length] (by go_simp) ?_;refine(zHm u.s u.d u.pr zs.length hsr hds W1).mono ?_;rintro e w2 ⟨a2,rfl,hO2,hb2⟩;refine⟨hb2,?_⟩;simp only[Act.put,sA,sB,sC]
 have l2:Later w w2:=hd.trans hb2;obtain⟨v3,w3,hr3,hO3,hb3⟩:=zE2 (P:=Tryz.prog) w2 26 26 W1.heap.size i0 Tryz.underlying26 hi hz0 hz1 hz2 a2 12 _ hO2 (by simp[psd]) w.heap.size _ zs (hI.below l2) (by rw[zBb];omega) hb2.size;refine tO 25 ?_;obtain⟨a3,c3,rfl,_,_⟩:=hO3.slice;rw[List.length_append,zBb]at hr3 hO3;refine zC9 (.tmp 23) (.tmp 27) 26 rfl _ _ rfl rfl _ w3 hr3 ⟨hb3,?_⟩;simp only[Act.put,sA,sB,sC];clear qp;refine tX Later.pre 26 ?_;refine tD ?_;go_wp2_with fail;go_ret
 exact⟨a3,c3,rfl,hO3.mono hs1,l2.trans hb3⟩
def UOk (u:Un):Prop:=(0≤u.s∧u.s≤4294967295)∧(0≤u.d∧u.d≤4294967295)∧(0≤u.a∧u.a≤65535)∧(0≤u.b∧u.b≤65535)
theorem zK3(base:Nat)(g:Nat)(u:Un)(zs:List Int)(w:World)(hB:Mt.By zs)(h:UR w g u zs)(hb:base≤w.heap.size)(hl:12+zs.length≤140737488355328)(h20:20≤zs.length)(hu:UOk u)(hpr:u.pr=6):
  Calls Tryz.prog 245 #[.pointer (some ⟨g,0,none⟩)] w fun e w'=>UQ base w g u (rwT u.s u.d u.a u.b zs) e w':=by
 obtain⟨hs,hd,ha,hbb⟩:=hu;have H1:=zAd (zH4 base g u zs w h hb (by omega) (by omega) ha hbb);have hB1:=zKy hB ha hbb;have hB2:=hB1.put2 16 (v:=0) (by omega);have hL1:=zBc u.a u.b zs;have hL2:(Mt.put2 (prt u.a u.b zs) 16 0).length=zs.length:=by rw[Mt.put2_length,hL1]
 have HR:Hid (rwT u.s u.d u.a u.b zs=Mt.put2 (Mt.put2 (prt u.a u.b zs) 16 0) 16 (Mt.cks (psd u.s u.d u.pr (Mt.put2 (prt u.a u.b zs) 16 0).length++Mt.put2 (prt u.a u.b zs) 16 0))):=by show _=_;rw[hL2,hpr];rfl
 have HPR:Hid (0≤u.pr∧u.pr≤255):=by show _∧_;omega
 clear hpr;have HE:=zAd (zAv (prt u.a u.b zs) 16 16 0 rfl (by omega));have HE2:=zAd (fun v=>zAv (Mt.put2 (prt u.a u.b zs) 16 0) 16 16 v rfl (by omega));generalize prt u.a u.b zs=z1 at*;generalize Mt.put2 z1 16 0=z2 at*;have hl1:z1.length≤140737488355328:=by omega
 have hl2:12+z2.length≤140737488355328:=by omega
 have HL2:=zAd hL2;clear hL1 hL2;go_enter Tryz.func245,Tryz.ntmps245;go_wp2_with fail;refine H1.out.mono ?_;rintro e w1 ⟨rfl,S1,b1⟩;go_wp2_with fail;refine(zBy base g u z1 16 0 w1 S1.ur (Nat.le_trans hb b1.size) hl1 (by omega)).mono ?_;rw[HE.out];rintro e w2 ⟨rfl,S2,b2⟩;go_wp2_with fail;refine(zGo g u z2 w2 S2.ur hl2 hs hd).mono ?_;rintro e w3 ⟨a3,c3,rfl,hO3,l3⟩;have hBs:=(zFg u.s u.d u.pr z2.length hs hd HPR.out).append hB2;go_wp2_with fail;refine(zD4 _ _ hBs (by rw[List.length_append,zBb];omega) w3 hO3.rd).mono ?_;rintro e w4 ⟨rfl,l4⟩;have l4':Later w3 w4:=l4;have hc:=Mt.cks_bd (psd u.s u.d u.pr z2.length++z2);have S4:=(S2.later l3).later l4';generalize Mt.cks (psd u.s u.d u.pr z2.length++z2)=ck at*;go_wp2_with fail;refine(zBy base g u z2 16 _ w4 S4.ur (Nat.le_trans hb (Nat.le_trans b1.size (Nat.le_trans b2.size (l3.trans l4').size))) (by omega) hc).mono ?_;rw[HE2.out,←HR.out];rintro e w5 ⟨rfl,S5,b5⟩;go_wp2_with fail;go_end0
 exact⟨rfl,S5,b1.trans (b2.trans ((But.of (l3.trans l4')).trans b5))⟩
theorem zI6(base:Nat)(g:Nat)(u:Un)(zs:List Int)(w:World)(hB:Mt.By zs)(h:UR w g u zs)(hb:base≤w.heap.size)(hl:12+zs.length≤140737488355328)(h8:8≤zs.length)(hu:UOk u)(hpr:u.pr=17):
  Calls Tryz.prog 246 #[.pointer (some ⟨g,0,none⟩)] w fun e w'=>UQ base w g u (rwU u.s u.d u.a u.b zs) e w':=by
 obtain⟨hs,hd,ha,hbb⟩:=hu;have H1:=zAd (zH4 base g u zs w h hb (by omega) (by omega) ha hbb);have hB1:=zKy hB ha hbb;have hB2:=hB1.put2 6 (v:=0) (by omega);have hL1:=zBc u.a u.b zs;have hL2:(Mt.put2 (prt u.a u.b zs) 6 0).length=zs.length:=by rw[Mt.put2_length,hL1]
 have H6:Hid (zAp (prt u.a u.b zs) 6=wat zs 6):=by
  show _=_
  rw[zHt _ 6 6 rfl (by omega)];exact zCl (zCb _ _ _ _ (by omega)) (zCb _ _ _ _ (by omega))
 have HR:Hid (rwU u.s u.d u.a u.b zs=if wat zs 6=0 then prt u.a u.b zs else Mt.put2 (Mt.put2 (prt u.a u.b zs) 6 0) 6 (nbr (Mt.cks (psd u.s u.d u.pr (Mt.put2 (prt u.a u.b zs) 6 0).length++Mt.put2 (prt u.a u.b zs) 6 0)))):=by show _=_;rw[hL2,hpr];rfl
 have HPR:Hid (0≤u.pr∧u.pr≤255):=by show _∧_;omega
 clear hpr;have HE:=zAd (zAv (prt u.a u.b zs) 6 6 0 rfl (by omega));have HE2:=zAd (fun v=>zAv (Mt.put2 (prt u.a u.b zs) 6 0) 6 6 v rfl (by omega));generalize rwU u.s u.d u.a u.b zs=zr at*;generalize prt u.a u.b zs=z1 at*;generalize Mt.put2 z1 6 0=z2 at*;have hl1:z1.length≤140737488355328:=by omega
 have hl2:12+z2.length≤140737488355328:=by omega
 clear hL1 hL2;go_enter Tryz.func246,Tryz.ntmps246;go_wp2_with fail;refine H1.out.mono ?_;rintro e w1 ⟨rfl,S1,b1⟩;go_wp2_with fail;refine(zT4 g u z1 hB1 w1 S1.ur).mono ?_;rw[H6.out];rintro e w2 ⟨rfl,l2⟩;have S2:=S1.later l2;have b2:But (fun q=>q=g) w w2:=b1.trans (But.of l2);by_cases c0:wat zs 6=0
 ·have t0:(wat zs 6==0)=true:=by simp[c0]
  have HZ:Hid (zr=z1):=by show _=_;rw[HR.out,if_pos c0]
  clear c0;go_wp2_with fail;go_end0
  exact⟨rfl,by rw[HZ.out];exact S2,b2⟩
 have t0:(wat zs 6==0)=false:=by simp[c0]
 have HZ:Hid (zr=Mt.put2 z2 6 (nbr (Mt.cks (psd u.s u.d u.pr z2.length++z2)))):=by show _=_;rw[HR.out,if_neg c0]
 clear c0;go_wp2_with fail;refine(zBy base g u z1 6 0 w2 S2.ur (Nat.le_trans hb b2.size) hl1 (by omega)).mono ?_;rw[HE.out];rintro e w3 ⟨rfl,S3,b3⟩;go_wp2_with fail;refine(zGo g u z2 w3 S3.ur hl2 hs hd).mono ?_;rintro e w4 ⟨a4,c4,rfl,hO4,l4⟩;have hBs:=(zFg u.s u.d u.pr z2.length hs hd HPR.out).append hB2;go_wp2_with fail;refine(zD4 _ _ hBs (by rw[List.length_append,zBb];omega) w4 hO4.rd).mono ?_;rintro e w5 ⟨rfl,l5⟩;have l5':Later w4 w5:=l5;have S5:=(S3.later l4).later l5';have hc:=nbr_bd (Mt.cks_bd (psd u.s u.d u.pr z2.length++z2));generalize Mt.cks (psd u.s u.d u.pr z2.length++z2)=ck at*;go_wp2_with fail;refine(zM1 _ w5).mono ?_;rintro e w6 ⟨rfl,rfl⟩;go_wp2_with fail;refine(zBy base g u z2 6 _ w6 S5.ur (Nat.le_trans hb (Nat.le_trans b2.size (Nat.le_trans b3.size (l4.trans l5').size))) (by omega) (by omega)).mono ?_;rw[HE2.out,←HZ.out];rintro e w7 ⟨rfl,S7,b7⟩;go_wp2_with fail;go_end0
 exact⟨rfl,S7,b2.trans (b3.trans ((But.of (l4.trans l5')).trans b7))⟩
theorem zK4(base:Nat)(g:Nat)(u:Un)(zs:List Int)(w:World)(hB:Mt.By zs)(h:UR w g u zs)(hb:base≤w.heap.size)(hl:zs.length≤140737488355328)(h8:8≤zs.length)(hu:UOk u):
  Calls Tryz.prog 247 #[.pointer (some ⟨g,0,none⟩)] w fun e w'=>UQ base w g u (rwI u.a zs) e w':=by
 obtain⟨hs,hd,ha,hbb⟩:=hu;have H1:=zAd (zBy base g u zs 4 u.a w h hb hl ha);rw[zAv zs 4 4 u.a rfl (by omega)]at H1;have hB1:=hB.put2 4 ha;have hB2:=hB1.put2 2 (v:=0) (by omega);have hL1:=Mt.put2_length zs 4 u.a;have hL2:=Mt.put2_length (Mt.put2 zs 4 u.a) 2 0;have HR:Hid (rwI u.a zs=Mt.put2 (Mt.put2 (Mt.put2 zs 4 u.a) 2 0) 2 (Mt.cks (Mt.put2 (Mt.put2 zs 4 u.a) 2 0))):=rfl;have HE:=zAd (zAv (Mt.put2 zs 4 u.a) 2 2 0 rfl (by omega));have HE2:=zAd (fun v=>zAv (Mt.put2 (Mt.put2 zs 4 u.a) 2 0) 2 2 v rfl (by omega));generalize Mt.put2 zs 4 u.a=z1 at*;generalize Mt.put2 z1 2 0=z2 at*;have hl1:z1.length≤140737488355328:=by omega
 have hl2:z2.length≤140737488355328:=by omega
 clear hL1 hL2;obtain⟨bv,hU,_⟩:=id h;have CU:=zAa hU;simp only[unc]at CU;go_enter Tryz.func247,Tryz.ntmps247;go_wp2_with fail;refine H1.out.mono ?_;rintro e w1 ⟨rfl,S1,b1⟩;clear CU hU;go_wp2_with fail;refine(zBy base g u z1 2 0 w1 S1.ur (Nat.le_trans hb b1.size) hl1 (by omega)).mono ?_;rw[HE.out];rintro e w2 ⟨rfl,S2,b2⟩;obtain⟨bv2,hU2,hO2⟩:=id S2;obtain⟨a2,c2,rfl,_,_⟩:=hO2.slice;have C2:=zAa hU2;simp only[unc]at C2;go_wp2_with fail;refine(zD4 _ _ hB2 hl2 w2 hO2.rd).mono ?_;rintro e w3 ⟨rfl,l3⟩;have l3':Later w2 w3:=l3;have S3:=S2.later l3';have hc:=Mt.cks_bd z2;clear C2 hU2 hO2;go_wp2_with fail;refine(zBy base g u z2 2 _ w3 S3.ur (Nat.le_trans hb (Nat.le_trans b1.size (Nat.le_trans b2.size l3'.size))) hl2 hc).mono ?_;rw[HE2.out,←HR.out];rintro e w4 ⟨rfl,S4,b4⟩;go_wp2_with fail;go_end0
 exact⟨rfl,S4,b1.trans (b2.trans ((But.of l3').trans b4))⟩
theorem zRd(base:Nat)(g:Nat)(u:Un)(zs:List Int)(w:World)(h:UR w g u zs)(hb:base≤w.heap.size)(hl:zs.length≤140737488355328)(h8:8≤zs.length)(hu:UOk u):
  Calls Tryz.prog 248 #[.pointer (some ⟨g,0,none⟩)] w fun e w'=>UQ base w g u (rwG u.b zs) e w':=by
 obtain⟨hs,hd,ha,hbb⟩:=hu;have H1:=zAd (zBy base g u zs 6 u.b w h hb hl hbb);rw[zAv zs 6 6 u.b rfl (by omega)]at H1;obtain⟨bv,hU,_⟩:=id h;have CU:=zAa hU;simp only[unc]at CU;go_enter Tryz.func248,Tryz.ntmps248;go_wp2_with fail;refine H1.out.mono ?_;rintro e w1 ⟨rfl,S1,b1⟩;go_wp2_with fail;go_end0
 exact⟨rfl,S1,b1⟩
abbrev zpk:List Value:=[.int .u8 0,.int .u16 0,.bool false,.int .u8 0,.int .u8 0,.int .u32 0,.int .u32 0,.slice none 0 0,.slice none 0 0]
abbrev mth (f:FuncId) (g:Nat):Value:= .func (.func f) #[.pointer (some ⟨g,0,none⟩)] #[]
def whE (g:Nat):Array MapEntry:=#[⟨.int .u8 6,mth 245 g,0⟩,⟨.int .u8 17,mth 246 g,1⟩,⟨.int .u8 1,mth 247 g,2⟩,⟨.int .u8 47,mth 248 g,3⟩]
theorem zT5(g:Nat)(w:World):Calls Tryz.prog 175 #[.pointer (some ⟨g,0,none⟩)] w fun e w'=>∃m,e= .returned (.map (some m))∧Later w w'∧w'.heap[m]? =some (.map (whE g) 4):=by
 have hmm:= @run_makeMap Tryz.prog;have hb0:Below w.heap.size w (w.alloc (.map #[] 0)):=bA _ _;have hM0:=heap_alloc_new w (.map #[] 0);obtain⟨w1,r1,m1,l1⟩:=zCj (P:=Tryz.prog) Tryz.underlying327 Tryz.underlying5 hM0 6 (mth 245 g) (by kernel_rfl);obtain⟨w2,r2,m2,l2⟩:=zCj (P:=Tryz.prog) Tryz.underlying327 Tryz.underlying5 m1 17 (mth 246 g) (by kernel_rfl);obtain⟨w3,r3,m3,l3⟩:=zCj (P:=Tryz.prog) Tryz.underlying327 Tryz.underlying5 m2 1 (mth 247 g) (by kernel_rfl);obtain⟨w4,r4,m4,l4⟩:=zCj (P:=Tryz.prog) Tryz.underlying327 Tryz.underlying5 m3 47 (mth 248 g) (by kernel_rfl);have hb4:Below w.heap.size w w4:=(((hb0.trans (l1 _ (Nat.le_refl _))).trans (l2 _ (Nat.le_refl _))).trans (l3 _ (Nat.le_refl _))).trans (l4 _ (Nat.le_refl _));clear m1 m2 m3 l1 l2 l3 l4 hM0 hb0;have M4:=zAd m4;clear m4;go_enter Tryz.func175,Tryz.ntmps175;go_wp2_with fail;go_ret
 exact⟨_,rfl,hb4,M4.out⟩
theorem zEq {P:Program} {q:IntKind} {t kt et:TypeId} (ht:P.underlying t=some (.map kt et))(hk:P.underlying kt=some (.int q)) {w:World} {b:Nat} {es:Array MapEntry} {c:Nat} (hb:w.heap[b]? =some (.map es c))(z:Int)(v:Value)(j:Nat)
  (hf:Instr.findNow (.int q) (.int q z) es.toList 0=some (some (j,v))):(Instr.lookup t (.map (some b)) (.int q z) false).run P w= .ok v w:=by
 have hc:(Instr.checkKey es.isEmpty 10000 kt (.int q z)).run P w= .ok () w:=MapKept.run_checkKey (k:= .int q z) hk (by simp[MapKept.IsKey]) _ 9999;simp[Instr.lookup,run_underlying ht,MapKept.run_getObj_map hb,hc,MapKept.run_findKey hk hf,Result.andThen]
def uf (pr:Int):FuncId:=if pr=6 then 245 else if pr=17 then 246 else if pr=1 then 247 else 248
def pok (pr:Int):Prop:=pr=6∨pr=17∨pr=1∨pr=47
theorem ofe_pok {pr src dst:Int} {zd:List Int} (h:ofe pr src dst zd=0):pok pr:=by
 unfold ofe at h;unfold pok;split at h
 ·omega
 split at h
 ·omega
 split at h
 ·omega
 split at h
 ·omega
 ·omega
theorem look_uf {pr:Int} (h:pok pr)(g:Nat) {w:World} {m:Nat} (hm:w.heap[m]? =some (.map (whE g) 4)):(Instr.lookup 327 (.map (some m)) (.int .u8 pr) false).run Tryz.prog w= .ok (mth (uf pr) g) w:=by
 rcases h with rfl|rfl|rfl|rfl
 ·exact zEq Tryz.underlying327 Tryz.underlying5 hm 6 _ 0 (by kernel_rfl)
 ·exact zEq Tryz.underlying327 Tryz.underlying5 hm 17 _ 1 (by kernel_rfl)
 ·exact zEq Tryz.underlying327 Tryz.underlying5 hm 1 _ 2 (by kernel_rfl)
 ·exact zEq Tryz.underlying327 Tryz.underlying5 hm 47 _ 3 (by kernel_rfl)
theorem cf_uf {pr:Int} (h:pok pr)(args:Array Value)(w:World):(callFunc (uf pr) args).run Tryz.prog w= .ok (.enter (uf pr) args) w:=by
 rcases h with rfl|rfl|rfl|rfl<;>kernel_rfl
theorem uf_any {pr:Int} {src dst:Int} (base:Nat)(g:Nat)(u:Un)(zs:List Int)(w:World)(hB:Mt.By zs)(h:UR w g u zs)(hb:base≤w.heap.size)(hl:12+zs.length≤140737488355328)(hu:UOk u)(hpr:u.pr=pr)(ho:ofe pr src dst zs=0):
  Calls Tryz.prog (uf pr) #[.pointer (some ⟨g,0,none⟩)] w fun e w'=>UQ base w g u (rwD pr u.s u.d u.a u.b zs) e w':=by
 have hs:=hu.1;have hd:=hu.2.1;have ha:=hu.2.2.1;have hbb:=hu.2.2.2;unfold ofe at ho;by_cases h6:pr=6
 ·subst h6
  rw[if_pos rfl]at ho;rw[show uf 6=245 from rfl,show rwD 6 u.s u.d u.a u.b zs=rwT u.s u.d u.a u.b zs from by unfold rwD;rw[if_pos rfl]];exact zK3 base g u zs w hB h hb hl (zT3 (s:=u.s) (d:=u.d) (a:=u.a) (b:=u.b) hB ho hs hd ha hbb).2.2.2.1 hu hpr
 rw[if_neg h6]at ho;by_cases h17:pr=17
 ·subst h17
  rw[if_pos rfl]at ho;rw[show uf 17=246 from rfl,show rwD 17 u.s u.d u.a u.b zs=rwU u.s u.d u.a u.b zs from by unfold rwD;rw[if_neg h6,if_pos rfl]];exact zI6 base g u zs w hB h hb hl (rwU_pue (s:=u.s) (d:=u.d) (a:=u.a) (b:=u.b) hB ho hs hd ha hbb).2 hu hpr
 rw[if_neg h17]at ho;by_cases h1:pr=1
 ·subst h1
  rw[if_pos rfl]at ho;rw[show uf 1=247 from rfl,show rwD 1 u.s u.d u.a u.b zs=rwI u.a zs from by unfold rwD;rw[if_neg h6,if_neg h17,if_pos rfl]];exact zK4 base g u zs w hB h hb (by omega) (rwI_oie (a:=u.a) hB ho ha).2.2.2 hu
 rw[if_neg h1]at ho;by_cases h47:pr=47
 ·subst h47
  rw[if_pos rfl]at ho;rw[show uf 47=248 from rfl,show rwD 47 u.s u.d u.a u.b zs=rwG u.b zs from by unfold rwD;rw[if_neg h6,if_neg h17,if_neg h1]];exact zRd base g u zs w h hb (by omega) (rwG_pge (b:=u.b) ho).2.2 hu
 ·rw[if_neg h47]at ho
  omega
def rwe (pr tp src dst:Int) (lo:Nat) (zd:List Int):Int:=if pr≠tp then 12 else if ofe pr src dst zd≠0 then ofe pr src dst zd else flt lo zd.length
theorem zDk(w:World)(o:Obj):Later w (w.alloc o):=bA _ _
theorem zM2(tos id ttl pr src dst:Int)(keep:Bool)(so sd:Value)(zo zd:List Int)(tp s d a b:Int)(w:World)(hT:Tb w)(hBo:Mt.By zo)(hBd:Mt.By zd)(hIo:Rd w.heap.size w so zo)(hId:Rd w.heap.size w sd zd)(hlo:zo.length≤140737488355328)(hl:zd.length≤140737488351232)
  (ht:0≤tos∧tos≤255)(hid:0≤id∧id≤65535)(htt:0≤ttl∧ttl≤255)(hpr:0≤pr∧pr≤255)(hsr:0≤src∧src≤4294967295)(hds:0≤dst∧dst≤4294967295)(hs:0≤s∧s≤4294967295)(hd:0≤d∧d≤4294967295)(ha:0≤a∧a≤65535)(hb:0≤b∧b≤65535):
  Calls Tryz.prog 117 #[.agg #[.int .u8 tos,.int .u16 id,.bool keep,.int .u8 ttl,.int .u8 pr,.int .u32 src,.int .u32 dst,so,sd],.agg #[.int .u8 tp,.int .u32 s,.int .u32 d,.int .u16 a,.int .u16 b]] w fun e w'=>Below w.heap.size w w'∧((rwe pr tp src dst zo.length zd≠0∧e= .returned (.tuple #[.agg zpk.toArray,.int .i64 (rwe pr tp src dst zo.length zd)]))∨
   (rwe pr tp src dst zo.length zd=0∧∃ao co ad cd,e= .returned (.tuple #[.agg #[.int .u8 tos,.int .u16 id,.bool keep,.int .u8 ttl,.int .u8 pr,.int .u32 s,.int .u32 d,.slice ao zo.length co,.slice ad zd.length cd],.int .i64 0])∧Ow w.heap.size w' (.slice ao zo.length co) zo∧Ow w.heap.size w' (.slice ad zd.length cd) (rwD pr s d a b zd))):=by
 obtain⟨ao,co,rfl,hlo1,hmo1⟩:=hIo.slice;obtain⟨ad,cd,rfl,hl1,hm1⟩:=hId.slice;have hb0:Below w.heap.size w (((w.alloc (.cells #[.int .u8 tos,.int .u16 id,.bool keep,.int .u8 ttl,.int .u8 pr,.int .u32 src,.int .u32 dst,.slice ao zo.length co,.slice ad zd.length cd] 40)).alloc (.cells #[.int .u8 tp,.int .u32 s,.int .u32 d,.int .u16 a,.int .u16 b] 103)).alloc (.cells zpk.toArray 40)):=((bA _ _).alloc (by simp) _).alloc (by simp<;>omega) _;have p0:(((w.alloc (.cells #[.int .u8 tos,.int .u16 id,.bool keep,.int .u8 ttl,.int .u8 pr,.int .u32 src,.int .u32 dst,.slice ao zo.length co,.slice ad zd.length cd] 40)).alloc (.cells #[.int .u8 tp,.int .u32 s,.int .u32 d,.int .u16 a,.int .u16 b] 103)).alloc (.cells zpk.toArray 40)).heap[w.heap.size]? =some (.cells #[.int .u8 tos,.int .u16 id,.bool keep,.int .u8 ttl,.int .u8 pr,.int .u32 src,.int .u32 dst,.slice ao zo.length co,.slice ad zd.length cd] 40):=(Below.heap_alloc _ _ _ (by simp<;>omega)).trans ((Below.heap_alloc _ _ _ (by simp)).trans (heap_alloc_new w _))
 have t0:(((w.alloc (.cells #[.int .u8 tos,.int .u16 id,.bool keep,.int .u8 ttl,.int .u8 pr,.int .u32 src,.int .u32 dst,.slice ao zo.length co,.slice ad zd.length cd] 40)).alloc (.cells #[.int .u8 tp,.int .u32 s,.int .u32 d,.int .u16 a,.int .u16 b] 103)).alloc (.cells zpk.toArray 40)).heap[w.heap.size+1]? =some (.cells #[.int .u8 tp,.int .u32 s,.int .u32 d,.int .u16 a,.int .u16 b] 103):=by
  have:=heap_alloc_new (w.alloc (.cells #[.int .u8 tos,.int .u16 id,.bool keep,.int .u8 ttl,.int .u8 pr,.int .u32 src,.int .u32 dst,.slice ao zo.length co,.slice ad zd.length cd] 40)) (.cells #[.int .u8 tp,.int .u32 s,.int .u32 d,.int .u16 a,.int .u16 b] 103);rw[World.size_alloc]at this;exact(Below.heap_alloc _ _ _ (by simp)).trans this
 have r0:(((w.alloc (.cells #[.int .u8 tos,.int .u16 id,.bool keep,.int .u8 ttl,.int .u8 pr,.int .u32 src,.int .u32 dst,.slice ao zo.length co,.slice ad zd.length cd] 40)).alloc (.cells #[.int .u8 tp,.int .u32 s,.int .u32 d,.int .u16 a,.int .u16 b] 103)).alloc (.cells zpk.toArray 40)).heap[w.heap.size+1+1]? =some (.cells zpk.toArray 40):=by
  have:=heap_alloc_new ((w.alloc (.cells #[.int .u8 tos,.int .u16 id,.bool keep,.int .u8 ttl,.int .u8 pr,.int .u32 src,.int .u32 dst,.slice ao zo.length co,.slice ad zd.length cd] 40)).alloc (.cells #[.int .u8 tp,.int .u32 s,.int .u32 d,.int .u16 a,.int .u16 b] 103)) (.cells zpk.toArray 40);simpa only[World.size_alloc]using this
 have P0:=zAd p0;have T0:=zAd t0;have R0:=zAd r0;clear p0 t0 r0;go_enter Tryz.func117,Tryz.ntmps117;go_upto_region 1 with fail;generalize ((w.alloc _).alloc _).alloc _=W0 at*;have kP:=zAa P0.out;have kT:=zAa T0.out;by_cases c1:pr=tp
 case neg=>
  have t1:(pr !=tp)=true:=by simp[c1]
  have HF:Hid (rwe pr tp src dst zo.length zd=12):=by show _=_;unfold rwe;rw[if_pos c1]
  have HNZ:Hid ((12:Int)≠0):=by show(12:Int)≠0;decide
  have kR:=zAa R0.out;have fR:=zAc R0.out;clear c1;go_wp2_with fail;generalize hV:World.setCell _ ⟨w.heap.size+1+1,8,none⟩ _=V8;have hV9:V8=zAi W0 (w.heap.size+1+1) 0 zpk:=hV.symm;have hb8:But (fun b=>b=w.heap.size+1+1) W0 V8:=by { rw[hV9];exact zAf (E:=fun b=>b=w.heap.size+1+1) (n:=w.heap.size+1+1) rfl _ _ _ _ (But.refl _ _) };have p8:=zAe zpk R0.out rfl;rw[←hV9]at p8;clear hV hV9;have P8:=zAa p8;have hw8:Below w.heap.size w V8:=(hb0).trans (hb8.below (hb0).size (fun k h e=>by omega));exact bodyPost_ret (v:= .tuple #[.agg zpk.toArray,.int .i64 12]) (by simp[results,Tryz.results117,go_sem,P8,zpk]) rfl ⟨hw8,.inl ⟨by rw[HF.out];exact HNZ.out,by rw[HF.out]⟩⟩
 subst c1;have t1:(pr !=pr)=false:=by simp
 have hs0:w.heap.size+1+1<W0.heap.size:=(bl9 R0.out);go_upto_region 3 with fail;go_wp2_with fail;refine(zTp tos id ttl pr src dst keep _ _ zd W0 (hT.below hb0 hT.pos) hBd ((hId.below hb0).mono hb0.size) (by omega) hsr hds).mono ?_;obtain⟨oe,HO⟩:∃e,Hid (ofe pr src dst zd=e):=⟨_,rfl⟩;rw[HO.out];rintro e w1 ⟨hb1,rfl⟩;have l1:Later W0 w1:=hb1;have hw1:Below w.heap.size w w1:=Later.below hb0 (Nat.le_refl _) l1;by_cases c2:oe=0
 case neg=>
  rw[otv_no c2];have t2:(oe !=0)=true:=by simp[c2]
  have HF:Hid (rwe pr pr src dst zo.length zd=oe):=by show _=_;unfold rwe;rw[if_neg (by simp),HO.out,if_pos c2]
  have HNZ:Hid (oe≠0):=c2;have r1:=(l1.block (w.heap.size+1+1) hs0).trans R0.out;have lA:=zDk w1 (.cells #[.int .u8 0,.int .u32 0,.int .u32 0,.int .u16 0,.int .u16 0] 103);have r2:=(lA.block (w.heap.size+1+1) (bl9 r1)).trans r1;have hw2:Below w.heap.size w (w1.alloc (.cells #[.int .u8 0,.int .u32 0,.int .u32 0,.int .u16 0,.int .u16 0] 103)):=Later.below hw1 (Nat.le_refl _) lA;have R2:=zAd r2;clear c2 kP kT r1 r2 lA;go_upto_region 4 with fail;generalize w1.alloc _=w2 at*;have kR:=zAa R2.out;have fR:=zAc R2.out;go_wp2_with fail;generalize hV:World.setCell _ ⟨w.heap.size+1+1,8,none⟩ _=V8;have hV9:V8=zAi w2 (w.heap.size+1+1) 0 zpk:=hV.symm;have hb8:But (fun b=>b=w.heap.size+1+1) w2 V8:=by { rw[hV9];exact zAf (E:=fun b=>b=w.heap.size+1+1) (n:=w.heap.size+1+1) rfl _ _ _ _ (But.refl _ _) };have p8:=zAe zpk R2.out rfl;rw[←hV9]at p8;clear hV hV9;have P8:=zAa p8;have hw8:Below w.heap.size w V8:=(hw2).trans (hb8.below (hw2).size (fun k h e=>by omega));exact bodyPost_ret (v:= .tuple #[.agg zpk.toArray,.int .i64 oe]) (by simp[results,Tryz.results117,go_sem,P8,zpk]) rfl ⟨hw8,.inl ⟨by rw[HF.out];exact HNZ.out,by rw[HF.out]⟩⟩
 subst c2;have hok:=ofe_pok HO.out;rw[otv_ok];have HFL:Hid (rwe pr pr src dst zo.length zd=flt zo.length zd.length):=by show _=_;unfold rwe;rw[if_neg (by simp),HO.out,if_neg (by simp)]
 generalize ofa pr zd=wa at*;generalize ofb pr zd=wb at*;have P1:=zAd ((l1.block w.heap.size (by omega)).trans P0.out);have T1:=zAd ((l1.block (w.heap.size+1) (by omega)).trans T0.out);have R1:=zAd ((l1.block (w.heap.size+1+1) hs0).trans R0.out);have hs1:w.heap.size+1+1<w1.heap.size:=Nat.lt_of_lt_of_le hs0 l1.size;have lA:=zDk w1 (.cells #[.int .u8 pr,.int .u32 src,.int .u32 dst,.int .u16 wa,.int .u16 wb] 103);have W2:=zAd (heap_alloc_new w1 (.cells #[.int .u8 pr,.int .u32 src,.int .u32 dst,.int .u16 wa,.int .u16 wb] 103));clear kP kT P0 T0 R0;go_upto_region 6 with fail;generalize w1.alloc _=w2 at*;have P2:=zAd ((lA.block w.heap.size (by omega)).trans P1.out);have T2:=zAd ((lA.block (w.heap.size+1) (by omega)).trans T1.out);have R2:=zAd ((lA.block (w.heap.size+1+1) hs1).trans R1.out);have hs2:w1.heap.size<w2.heap.size:=(bl9 W2.out);have hw2:Below w.heap.size w w2:=Later.below hw1 (Nat.le_refl _) lA;have kP:=zAa P2.out;have kT:=zAa T2.out;have kW:=zAa W2.out;have lB:=zDk w2 (.cells #[.slice ad zd.length cd,.int .u8 pr,.int .u32 src,.int .u32 dst,.int .u16 wa,.int .u16 wb,.int .u8 pr,.int .u32 s,.int .u32 d,.int .u16 a,.int .u16 b] 326);have U3:Hid (UB (w2.alloc (.cells #[.slice ad zd.length cd,.int .u8 pr,.int .u32 src,.int .u32 dst,.int .u16 wa,.int .u16 wb,.int .u8 pr,.int .u32 s,.int .u32 d,.int .u16 a,.int .u16 b] 326)) w2.heap.size ⟨pr,src,dst,wa,wb,pr,s,d,a,b⟩ (.slice ad zd.length cd)):=heap_alloc_new w2 _;clear P1 T1 R1
 go_upto_region 7 with fail;generalize w2.alloc _=w3 at*;clear kP kT kW;generalize hg:w2.heap.size=g at*;have P3:=zAd ((lB.block w.heap.size (by omega)).trans P2.out);have T3:=zAd ((lB.block (w.heap.size+1) (by omega)).trans T2.out);have R3:=zAd ((lB.block (w.heap.size+1+1) (by omega)).trans R2.out);have hw3:Below w.heap.size w w3:=Later.below hw2 (Nat.le_refl _) lB;have hg3:g<w3.heap.size:=(bl9 U3.out);have hsg:w.heap.size+1+1<g:=by omega
 have hId3:Rd w3.heap.size w3 (.slice ad zd.length cd) zd:=(hId.below hw3).mono hw3.size;have HG:=zAd hg;clear hg lA lB P2 T2 R2 W2 hs2;refine zAl (R:=But (fun q=>q=g)) 5 rfl (by kernel_rfl) ?_;have hdr:Later w3 w3.drew:=Later.drew w3;have P4:=zAd ((hdr.block w.heap.size (by omega)).trans P3.out);have T4:=zAd ((hdr.block (w.heap.size+1) (by omega)).trans T3.out);have R4:=zAd ((hdr.block (w.heap.size+1+1) (by omega)).trans R3.out);have hUR:UR w3.drew g ⟨pr,src,dst,wa,wb,pr,s,d,a,b⟩ zd:=(show UR w3 g ⟨pr,src,dst,wa,wb,pr,s,d,a,b⟩ zd from⟨_,U3.out,hId3⟩).later hdr;have hw4:Below w.heap.size w w3.drew:=Later.below hw3 (Nat.le_refl _) hdr;have hg4:g<w3.drew.heap.size:=Nat.lt_of_lt_of_le hg3 hdr.size;generalize w3.drew=w4 at*;have qT:∀v1,But (fun q=>q=g) w4 v1→∀i,v1.cell? ⟨w.heap.size+1,i,none⟩=#[Value.int .u8 pr,.int .u32 s,.int .u32 d,.int .u16 a,.int .u16 b][i]? :=fun v1 h=>zAa ((h.block (w.heap.size+1) (by omega) (by omega)).trans T4.out);refine tX (But.pre _) 1 ?_;refine tX (But.pre _) 2 ?_;clear qT;refine tO 0 ?_;refine zAj 175 #[.pointer (some ⟨g,0,none⟩)] (by go_simp) ((zT5 g w4).mono ?_);rintro e w5 ⟨m,rfl,l5,hm5⟩;refine⟨But.of l5,?_⟩;simp only[Act.put,sA,sB,sC]
 have hmg:m≠g:=by
  intro e
  subst e;obtain⟨bv,hx,_⟩:=hUR.later l5;rw[UB,hm5]at hx;cases hx
 have qL:∀v1,But (fun q=>q=g) w5 v1→(Instr.lookup 327 (.map (some m)) (.int .u8 pr) false).run Tryz.prog v1= .ok (mth (uf pr) g) v1:=fun v1 h=>look_uf hok g ((h.block m (bl9 hm5) hmg).trans hm5);refine tX (But.pre _) 3 ?_;clear qL;refine tO 4 ?_;have hcf:=cf_uf hok #[.pointer (some ⟨g,0,none⟩)] w5;refine zAj (uf pr) #[.pointer (some ⟨g,0,none⟩)] (by go_simp) ((uf_any (pr:=pr) w.heap.size g ⟨pr,src,dst,wa,wb,pr,s,d,a,b⟩ zd w5 hBd (hUR.later l5) (Nat.le_trans hw4.size l5.size) (by omega) ⟨hs,hd,ha,hb⟩ rfl HO.out).mono ?_);rintro e w6 ⟨rfl,S6,b6⟩;refine⟨b6,?_⟩;simp only[Act.put,sA,sB,sC];refine tD ?_;obtain⟨bv6,hU6,hO6⟩:=S6;obtain⟨a6,c6,rfl,_,_⟩:=hO6.slice;rw[zH3]at hU6 hO6;have b46:But (fun q=>q=g) w4 w6:=(But.of l5).trans b6;have P6:=zAd ((b46.block w.heap.size (by omega) (by omega)).trans P4.out);have T6:=zAd ((b46.block (w.heap.size+1) (by omega) (by omega)).trans T4.out);have R6:=zAd ((b46.block (w.heap.size+1+1) (by omega) (by omega)).trans R4.out);have hw6:Below w.heap.size w w6:=hw4.trans (b46.below hw4.size (fun k hk e=>by omega));have hg6:g<w6.heap.size:=Nat.lt_of_lt_of_le hg4 b46.size;have U6:=zAd hU6;have O6:=zAd hO6;clear hU6 hO6 b6 l5 hm5 hmg b46 P4 T4 R4 hUR hw4 hg4 hcf P3 T3 R3 U3 hId3 hw3 hg3 hdr;go_upto_region 8 with fail;refine zAl (R:=But (fun q=>q=w.heap.size)) 17 rfl (by kernel_rfl) ?_;have hdr:Later w6 w6.drew:=Later.drew w6;have P7:=zAd ((hdr.block w.heap.size (by omega)).trans P6.out)
 have T7:=zAd ((hdr.block (w.heap.size+1) (by omega)).trans T6.out);have R7:=zAd ((hdr.block (w.heap.size+1+1) (by omega)).trans R6.out);have U7:=zAd (U6.out.later hdr);have O7:=zAd (O6.out.later hdr);have hw7:Below w.heap.size w w6.drew:=Later.below hw6 (Nat.le_refl _) hdr;have hg7:g<w6.drew.heap.size:=Nat.lt_of_lt_of_le hg6 hdr.size;generalize w6.drew=w7 at*;have qT:∀v1,But (fun q=>q=w.heap.size) w7 v1→∀i,v1.cell? ⟨w.heap.size+1,i,none⟩=#[Value.int .u8 pr,.int .u32 s,.int .u32 d,.int .u16 a,.int .u16 b][i]? :=fun v1 h=>zAa ((h.block (w.heap.size+1) (by omega) (by omega)).trans T7.out);have qU:∀v1,But (fun q=>q=w.heap.size) w7 v1→∀i,v1.cell? ⟨g,i,none⟩=#[Value.slice a6 zd.length c6,.int .u8 pr,.int .u32 src,.int .u32 dst,.int .u16 wa,.int .u16 wb,.int .u8 pr,.int .u32 s,.int .u32 d,.int .u16 a,.int .u16 b][i]? :=fun v1 h=>zAa ((h.block g hg7 (by omega)).trans U7.out);refine tX (But.pre _) 0 ?_;refine tX (But.pre _) 1 ?_;refine tX (But.pre _) 2 ?_;refine tX (But.pre _) 3 ?_;refine tX (But.pre _) 4 ?_;refine tX (But.pre _) 7 ?_;refine tX (But.pre _) 8 ?_;clear qT qU;have kP:=zAa P7.out;refine tO 5 ?_;unfold Oper.wp;go_simp;refine⟨But.refl _ _,?_⟩;clear kP;refine tX (But.pre _) 9 ?_;refine tO 6 ?_;refine zAj 71 #[.slice ao zo.length co] (by go_simp) ((zAx _ zo w7 (by omega) ((hIo.below hw7).mono hw7.size)).mono ?_);rintro e w8 ⟨a8,c8,rfl,hO8,hb8⟩;have l8:Later w7 w8:=hb8;refine⟨But.of l8,?_⟩;simp only[Act.put,sA,sB,sC]
 have P8:=zAd ((l8.block w.heap.size (by omega)).trans P7.out);have R8:=zAd ((l8.block (w.heap.size+1+1) (by omega)).trans R7.out);have O8:=zAd (hO8.mono hw7.size);have D8:=zAd (O7.out.later l8);have hw8:Below w.heap.size w w8:=Later.below hw7 (Nat.le_refl _) l8;have hs8:w.heap.size+1+1<w8.heap.size:=Nat.lt_of_lt_of_le (by omega) l8.size;have Bw8:But (fun q=>q=w.heap.size) w8 w8:=But.refl _ _;clear hO8 hb8 P7 T7 R7 U7 O7 hw7 hg7 l8 hdr U6 O6 T6 R6 P6;have kS:=zAa P8.out;have fS:=zAc P8.out;have P9:=zAd (zAh P8.out 5 (.int .u32 s));have bt:Hid (But (fun q=>q=w.heap.size) w8 (w8.setCell ⟨w.heap.size,5,none⟩ (.int .u32 s))):=But.setCell (E:=fun q=>q=w.heap.size) (But.refl _ _) (p:=⟨w.heap.size,5,none⟩) rfl _;refine tO 10 ?_;unfold Oper.wp;go_simp;refine⟨bt.out,?_⟩;have Bw9:=Bw8.trans bt.out;clear bt kS fS;generalize w8.setCell ⟨w.heap.size,5,none⟩ _=w9 at*;refine tX (But.pre _) 11 ?_;have kS:=zAa P9.out;have fS:=zAc P9.out;have P10:=zAd (zAh P9.out 6 (.int .u32 d));have bt:Hid (But (fun q=>q=w.heap.size) w9 (w9.setCell ⟨w.heap.size,6,none⟩ (.int .u32 d))):=But.setCell (E:=fun q=>q=w.heap.size) (But.refl _ _) (p:=⟨w.heap.size,6,none⟩) rfl _;refine tO 12 ?_;unfold Oper.wp;go_simp;refine⟨bt.out,?_⟩;have Bw10:=Bw9.trans bt.out;clear bt kS fS;generalize w9.setCell ⟨w.heap.size,6,none⟩ _=w10 at*;refine tX (But.pre _) 13 ?_;have kS:=zAa P10.out;have fS:=zAc P10.out
 have P11:=zAd (zAh P10.out 7 (.slice a8 zo.length c8));have bt:Hid (But (fun q=>q=w.heap.size) w10 (w10.setCell ⟨w.heap.size,7,none⟩ (.slice a8 zo.length c8))):=But.setCell (E:=fun q=>q=w.heap.size) (But.refl _ _) (p:=⟨w.heap.size,7,none⟩) rfl _;refine tO 14 ?_;unfold Oper.wp;go_simp;refine⟨bt.out,?_⟩;have Bw11:=Bw10.trans bt.out;clear bt kS fS;generalize w10.setCell ⟨w.heap.size,7,none⟩ _=w11 at*;refine tX (But.pre _) 15 ?_;have kS:=zAa P11.out;have fS:=zAc P11.out;have P12:=zAd (zAh P11.out 8 (.slice a6 zd.length c6));have bt:Hid (But (fun q=>q=w.heap.size) w11 (w11.setCell ⟨w.heap.size,8,none⟩ (.slice a6 zd.length c6))):=But.setCell (E:=fun q=>q=w.heap.size) (But.refl _ _) (p:=⟨w.heap.size,8,none⟩) rfl _;refine tO 16 ?_;unfold Oper.wp;go_simp;refine⟨bt.out,?_⟩;have Bw12:=Bw11.trans bt.out;clear bt kS fS;generalize w11.setCell ⟨w.heap.size,8,none⟩ _=w12 at*;refine tD ?_;have P13:Hid (w12.heap[w.heap.size]? =some (.cells #[.int .u8 tos,.int .u16 id,.bool keep,.int .u8 ttl,.int .u8 pr,.int .u32 s,.int .u32 d,.slice a8 zo.length c8,.slice a6 zd.length c6] 40)):=by have:=P12.out;simp at this;exact this
 have R13:=zAd ((Bw12.block (w.heap.size+1+1) hs8 (by omega)).trans R8.out);have O13:=zAd (Ow.aside O8.out P8.out (by decide) Bw12);have D13:=zAd (Ow.aside D8.out P8.out (by decide) Bw12);have hw12:Below w.heap.size w w12:=hw8.trans (Bw12.below hw8.size (fun k hk e=>by omega));have hs12:w.heap.size+1+1<w12.heap.size:=Nat.lt_of_lt_of_le hs8 Bw12.size;clear P8 P9 P10 P11 P12 R8 O8 D8 Bw8 Bw9 Bw10 Bw11 Bw12 hw8 hs8;have kP:=zAa P13.out;obtain⟨fl,HFF⟩:∃f,Hid (flt zo.length zd.length=f):=⟨_,rfl⟩;by_cases c3:fl=0
 case neg=>
  have hfn:flt zo.length zd.length≠0:=by rw[HFF.out];exact c3
  have t3:(fl !=0)=true:=by simp[c3]
  have HF:Hid (rwe pr pr src dst zo.length zd=fl):=by show _=_;rw[HFL.out,HFF.out]
  have HNZ:Hid (fl≠0):=c3;have HBN:=zAd (zOs tos id ttl pr s d keep a8 a6 zo.length c8 zd.length c6 w12 (by omega) (by omega) hfn);rw[HFF.out]at HBN;clear c3 hfn;go_wp2_with fail;refine HBN.out.mono ?_;rintro e w13 ⟨rfl,hb13⟩;have l13:Later w12 w13:=hb13;have R14:=zAd ((l13.block (w.heap.size+1+1) hs12).trans R13.out);have hw13:Below w.heap.size w w13:=Later.below hw12 (Nat.le_refl _) l13;have kR:=zAa R14.out;have fR:=zAc R14.out;clear kP;go_wp2_with fail;generalize hV:World.setCell _ ⟨w.heap.size+1+1,8,none⟩ _=V8;have hV9:V8=zAi w13 (w.heap.size+1+1) 0 zpk:=hV.symm;have hb8:But (fun b=>b=w.heap.size+1+1) w13 V8:=by { rw[hV9];exact zAf (E:=fun b=>b=w.heap.size+1+1) (n:=w.heap.size+1+1) rfl _ _ _ _ (But.refl _ _) };have p8:=zAe zpk R14.out rfl;rw[←hV9]at p8;clear hV hV9;have P8:=zAa p8;have hw8:Below w.heap.size w V8:=(hw13).trans (hb8.below (hw13).size (fun k h e=>by omega));exact bodyPost_ret (v:= .tuple #[.agg zpk.toArray,.int .i64 fl]) (by simp[results,Tryz.results117,go_sem,P8,zpk]) rfl ⟨hw8,.inl ⟨by rw[HF.out];exact HNZ.out,by rw[HF.out]⟩⟩
 subst c3;have hfit:=flt_fit2 HFF.out;have HF:Hid (rwe pr pr src dst zo.length zd=0):=by show _=_;rw[HFL.out,HFF.out]
 have HBY:=zAd (zEj tos id ttl pr s d keep (.slice a8 zo.length c8) (.slice a6 zd.length c6) zo (rwD pr s d a b zd) w12 hBo O13.out.rd D13.out.rd hfit.1 hfit.2.1 (by rw[zH3];exact hfit.2.2) ht hid htt hpr hs hd);clear hfit;go_wp2_with fail;refine HBY.out.mono ?_;rintro e w13 ⟨bv,rfl,hOb,hb13⟩;have l13:Later w12 w13:=hb13;have P14:=zAd ((l13.block w.heap.size (by omega)).trans P13.out);have R14:=zAd ((l13.block (w.heap.size+1+1) hs12).trans R13.out);have O14:=zAd (O13.out.later l13);have D14:=zAd (D13.out.later l13);have hw13:Below w.heap.size w w13:=Later.below hw12 (Nat.le_refl _) l13;clear kP hOb HBY hb13 l13 P13 R13 O13 D13;have kP:=zAa P14.out;have kR:=zAa R14.out;have fR:=zAc R14.out;go_wp2_with fail;generalize hV:World.setCell _ ⟨w.heap.size+1+1,8,none⟩ _=V8;have hV9:V8=zAi w13 (w.heap.size+1+1) 0 [.int .u8 tos,.int .u16 id,.bool keep,.int .u8 ttl,.int .u8 pr,.int .u32 s,.int .u32 d,.slice a8 zo.length c8,.slice a6 zd.length c6]:=hV.symm;have hb8:But (fun b=>b=w.heap.size+1+1) w13 V8:=by rw[hV9];exact zAf (E:=fun b=>b=w.heap.size+1+1) (n:=w.heap.size+1+1) rfl _ _ _ _ (But.refl _ _)
 have p8:=zAe [.int .u8 tos,.int .u16 id,.bool keep,.int .u8 ttl,.int .u8 pr,.int .u32 s,.int .u32 d,.slice a8 zo.length c8,.slice a6 zd.length c6] R14.out rfl;rw[←hV9]at p8;clear hV hV9;have P8:=zAa p8;have hw8:Below w.heap.size w V8:=hw13.trans (hb8.below hw13.size (fun k h e=>by omega));exact bodyPost_ret (v:= .tuple #[.agg #[.int .u8 tos,.int .u16 id,.bool keep,.int .u8 ttl,.int .u8 pr,.int .u32 s,.int .u32 d,.slice a8 zo.length c8,.slice a6 zd.length c6],.int .i64 0]) (by simp[results,Tryz.results117,go_sem,P8]) rfl ⟨hw8,.inr ⟨HF.out,a8,c8,a6,c6,rfl,Ow.aside O14.out R14.out (by decide) hb8,Ow.aside D14.out R14.out (by decide) hb8⟩⟩
end Go.Proofs.YteaeilghamjjkaaGreatDoor
