import Derived.Deep.AppendLies
import Derived.Test.YteaeilghamjjkaaGreatDoorX27
import Derived.Deep.MidRow
namespace Go.Proofs.YteaeilghamjjkaaGreatDoor
set_option maxHeartbeats 8000000
open Go.RowKit Go.Shelf
set_option maxRecDepth 100000
set_option linter.unusedVariables false
set_option linter.unusedSimpArgs false
theorem zQw:Tryz.zeroCells217=(Value.int .i64 0:: .int .i64 0:: .int .i64 0::List.replicate 256 (.slice none 0 0)).toArray:=by kernel_rfl
theorem zO5:(Tryz.prog.info? 220).map (fun i=>(i.zero,i.size,i.bytes))=some (some (.agg #[.int .u8 0,.int .u32 0,.int .u32 0,.int .u16 0,.int .u16 0,.int .i64 0,.int .i64 0,.int .i64 0]),8,40):=by kernel_rfl
theorem new_yes(n:Int)(w:World)(h1:1≤n)(h2:n≤4096):Calls Tryz.prog 93 #[.int .i64 n] w fun e w'=>e= .returned (.pointer (some ⟨w.heap.size,0,none⟩))∧Below w.heap.size w w'∧TB w.heap.size w' w.heap.size n 0 0 (fun _=>[]):=by
 have hb:Below w.heap.size w (w.alloc (.cells (Tryz.zeroCells217.setIfInBounds 0 (.int .i64 n)) 217)):=bA _ _
 have hT:TB w.heap.size (w.alloc (.cells (Tryz.zeroCells217.setIfInBounds 0 (.int .i64 n)) 217)) w.heap.size n 0 0 (fun _=>[]):=by
  refine⟨List.replicate 256 (.slice none 0 0),by simp,Nat.le_refl _,?_,fun i hi=> ?_,fun i j hi hj _ g hg=> ?_⟩
  ·rw[heap_alloc_new,zQw]
   simp
  ·have:(List.replicate 256 (Value.slice none 0 0))[i]?.getD undef= .slice none 0 0:=by rw[List.getElem?_replicate,if_pos hi];rfl
   rw[this];exact World.ownsRow_nil _ _ _ _
  ·have:(List.replicate 256 (Value.slice none 0 0))[i]?.getD undef= .slice none 0 0:=by rw[List.getElem?_replicate,if_pos hi];rfl
   rw[this]at hg;cases hg
 have HT:=zAd hT;clear hT;go_enter Tryz.func93,Tryz.ntmps93;go_wp2_with fail;go_ret
 exact⟨rfl,hb,HT.out⟩
def zSc (ls:Nat→List Rw) (i:Nat) (r:Rw):Nat→List Rw:=fun j=>if j=i then ls i++[r]else ls j
theorem TBv.added {base bt:Nat} {W W6 V:World} {lim cnt trn:Int} {vs:List Value} {ls:Nat→List Rw} (hT:TBv base W bt lim cnt trn vs ls)(i:Nat)(hi:i<256)(r:Rw) {g' cap':Nat}
  (hrow:W6.ownsRow base 220 8 (.slice (some ⟨g',0,none⟩) ((ls i).length+1) cap') ((ls i).length+1) (rws (ls i)++rwc r))(hg:W.grownBy W6 (vs[i]?.getD undef).ownBlock)(hpl:(vs[i]?.getD undef).ownBlock=some g'∨W.heap.size≤g')
  (hbV:But (fun g=>g=bt) W6 V)(hV:V.heap[bt]? =some (.cells (.int .i64 lim:: .int .i64 cnt:: .int .i64 trn::vs.set i (.slice (some ⟨g',0,none⟩) ((ls i).length+1) cap')).toArray 217 (0,0))):
  TBv base V bt lim cnt trn (vs.set i (.slice (some ⟨g',0,none⟩) ((ls i).length+1) cap')) (zSc ls i r):=by
 obtain⟨h1,h2,h3,h4,h5⟩:=hT
 have hb6:W6.heap[bt]? =some (.cells (.int .i64 lim:: .int .i64 cnt:: .int .i64 trn::vs).toArray 217 (0,0)):=by
  refine(hg.block bt (eS h3) (fun e=> ?_)).trans h3;obtain⟨_,⟨hn,_⟩|⟨g,cap,cur,hv,_,hh,_⟩⟩:=h4 i hi
  ·rw[hn]at e;cases e
  ·rw[hv]at e
   cases e
   rw[h3]at hh
   simp at hh
 have keep:∀(g:Nat) (cur:Array Value),W6.heap[g]? =some (.cells cur 220 (0,0))→V.heap[g]? =some (.cells cur 220 (0,0)):=fun g cur h=>
  (hbV.block g (eS h) (fun e=>by subst e;rw[hb6]at h;simp at h)).trans h
 refine⟨by simpa using h1,h2,hV,fun j hj=> ?_,fun j k hj hk hjk g hg1=> ?_⟩
 ·by_cases hji:j=i
  ·subst hji
   rw[List.getElem?_set_self (by omega)];unfold zSc;rw[if_pos rfl,List.length_append,List.length_singleton,show rws (ls j++[r])=rws (ls j)++rwc r from by simp[rws]];obtain⟨q1,⟨q2,q3⟩|⟨g,cap,cur,hv,hgb,hh,q⟩⟩:=hrow
   ·simp at q2
   ·exact ⟨q1,.inr ⟨g,cap,cur,hv,hgb,keep g cur hh,q⟩⟩
  ·rw[List.getElem?_set_ne (fun e=>hji e.symm)]
   unfold zSc;rw[if_neg hji];obtain⟨q1,q2|⟨g,cap,cur,hv,hgb,hh,q⟩⟩:=h4 j hj
   ·exact ⟨q1,.inl q2⟩
   ·refine ⟨q1,.inr ⟨g,cap,cur,hv,hgb,keep g cur ((hg.block g (eS hh) (fun e=> ?_)).trans hh),q⟩⟩
    have:=h5 j i hj hi hji g (by rw[hv];rfl);exact this e.symm
 ·have old:∀j,j<256→∀g,(vs[j]?.getD undef).ownBlock=some g→g<W.heap.size:=fun j hj g h=>by
   obtain⟨_,⟨hn,_⟩|⟨g2,cap,cur,hv,_,hh,_⟩⟩:=h4 j hj
   ·rw[hn]at h;cases h
   ·rw[hv]at h
    cases h
    exact(eS hh)
  by_cases hji:j=i
  ·subst hji
   rw[List.getElem?_set_self (by omega)]at hg1;cases hg1
   rw[List.getElem?_set_ne hjk];intro e
   rcases hpl with h|h
   ·exact h5 j k hj hk hjk g' h e
   ·have:=old k hk g' e;omega
  ·rw[List.getElem?_set_ne (fun e=>hji e.symm)]at hg1
   by_cases hki:k=i
   ·subst hki
    rw[List.getElem?_set_self (by omega)];intro e
    cases e
    rcases hpl with h|h
    ·exact h5 j k hj hk hjk g' hg1 h
    ·have:=old j hj g' hg1;omega
   ·rw[List.getElem?_set_ne (fun e=>hki e.symm)]
    exact h5 j k hj hk hjk g hg1
theorem zMg(W:World)(xs:List Value):∀j u,xs[j]? =some u→(W.alloc (.cells xs.toArray 220)).cell? ((⟨W.heap.size,0,none⟩:Addr).add j)=some u:=fun j u hj=>by
 rw[show (⟨W.heap.size,0,none⟩:Addr).add j=⟨W.heap.size,j,none⟩from by unfold Addr.add;split<;>simp_all,zAa (heap_alloc_new W _) j];simpa using hj
theorem tadd_any(base bt:Nat)(lim cnt trn:Int)(vs:List Value)(ls:Nat→List Rw)(h:Int)(i:Nat)(p s d a b id till turn:Int)(w:World)(hT:TBv base w bt lim cnt trn vs ls)(hh:0≤h∧h≤4294967295)(hhi:(h % 256).toNat=i)(hln:(ls i).length≤5000)(hbs:base≤w.heap.size):
  Calls Tryz.prog 330 #[.pointer (some ⟨bt,3,none⟩),.int .u32 h,.agg #[.int .u8 p,.int .u32 s,.int .u32 d,.int .u16 a,.int .u16 b,.int .i64 id,.int .i64 till,.int .i64 turn]] w fun e w'=>e= .returned (.tuple #[])∧TB base w' bt lim cnt trn (zSc ls i ⟨p,s,d,a,b,id,till,turn⟩)∧But (fun g=>g=bt∨(vs[i]?.getD undef).ownBlock=some g) w w':=by
 obtain⟨i0,hi0,hz0,hz1,hz2⟩:=info_parts zO5;have hi:i<256:=by omega
 have HI:=zAd hhi;clear hhi;have hO:=hT.2.2.2.1 i hi;generalize hvs:vs[i]?.getD undef=v at*;have HVS:=zAd hvs;clear hvs;obtain⟨av,cv,rfl,_,_⟩:=(zDd hO).slice
 have HNE:Hid (some bt≠Value.ownBlock (.slice av (ls i).length cv)):=by
  show _≠_
  intro e
  obtain⟨_,⟨hn,_⟩|⟨g,cap,cur,hv,_,hh2,_⟩⟩:=hO
  ·rw[hn]at e;cases e
  ·rw[hv]at e
   cases e
   rw[hT.2.2.1]at hh2
   simp at hh2
 have lb0:Later w (w.alloc (.cells #[.int .u8 p,.int .u32 s,.int .u32 d,.int .u16 a,.int .u16 b,.int .i64 id,.int .i64 till,.int .i64 turn] 220)):=bA _ _;have rb:=heap_alloc_new w (.cells #[.int .u8 p,.int .u32 s,.int .u32 d,.int .u16 a,.int .u16 b,.int .i64 id,.int .i64 till,.int .i64 turn] 220);have HO:=zAd hO;clear hO;go_enter Tryz.func330,Tryz.ntmps330;go_wp2_with fail;generalize w.alloc (.cells #[.int .u8 p,.int .u32 s,.int .u32 d,.int .u16 a,.int .u16 b,.int .i64 id,.int .i64 till,.int .i64 turn] 220)=w0 at*;refine(zO3 bt h w0 hh).mono ?_;rw[HI.out];rintro e w1 ⟨rfl,rfl⟩;go_upto_region 2 with fail;generalize hwx:w1=wx at*;clear hwx;refine zAl (R:=But (fun g=>g=bt∨Value.ownBlock (.slice av (ls i).length cv)=some g)) 9 rfl (by kernel_rfl) ?_;have ld:Later wx wx.drew:=Later.drew wx;have LD:=lb0.trans ld;have rd0:=zAb ld rb;generalize wx.drew=Wd at*;have hTd:=hT.later LD;have hnb:w.heap.size≠bt:=fun e=>by have:=(eS hT.2.2.1);omega
 have hnv:Value.ownBlock (.slice av (ls i).length cv)≠some w.heap.size:=fun e=>by have:=(HO.out.lt _ e).2;omega
 have ha:∀v1,But (fun g=>g=bt∨Value.ownBlock (.slice av (ls i).length cv)=some g) Wd v1→∀j,v1.cell? ⟨w.heap.size,j,none⟩=#[Value.int .u8 p,.int .u32 s,.int .u32 d,.int .u16 a,.int .u16 b,.int .i64 id,.int .i64 till,.int .i64 turn][j]? :=fun v1 hv=>zAa ((hv.block w.heap.size (eS rd0) (fun hE=>hE.elim hnb hnv)).trans rd0);refine tX (But.pre _) 0 ?_;refine tX (But.pre _) 1 ?_;refine tX (But.pre _) 2 ?_;refine tX (But.pre _) 4 ?_;clear ha;have kd:Wd.cell? ⟨bt,3+i,none⟩=some (.slice av (ls i).length cv):=(hTd.cell i hi).trans (by rw[HVS.out]);refine zBv 3 5 rfl rfl (by kernel_rfl) rfl rfl ?_ ?_
 ·unfold Oper.wp
  go_simp;refine⟨But.refl _ _,?_⟩;clear kd;refine tO 5 ?_;unfold Oper.wp;go_simp;have l1:Later Wd (Wd.alloc (.cells #[.int .u8 p,.int .u32 s,.int .u32 d,.int .u16 a,.int .u16 b,.int .i64 id,.int .i64 till,.int .i64 turn] 220)):=bA _ _;have HN1:=zMg Wd (rwc ⟨p,s,d,a,b,id,till,turn⟩);have LL:=LD.trans l1;refine⟨But.of l1,?_⟩;generalize hW1:Wd.alloc (.cells #[.int .u8 p,.int .u32 s,.int .u32 d,.int .u16 a,.int .u16 b,.int .i64 id,.int .i64 till,.int .i64 turn] 220)=W1 at*;rw[show Wd.alloc (.cells (rwc ⟨p,s,d,a,b,id,till,turn⟩).toArray 220)=W1 from hW1]at HN1;clear hW1;generalize Wd.heap.size=gn at*;have hT1:=hT.later LL;have hO1:=zCu HO.out LL;have hbs1:=Nat.le_trans hbs LL.size;refine tO 6 ?_;refine wp_append_lies W1 (.tmp 13) (.tmp 15) 210 rfl base 220 i0 (.agg #[.int .u8 0,.int .u32 0,.int .u32 0,.int .u16 0,.int .u16 0,.int .i64 0,.int .i64 0,.int .i64 0]) 8 40 Tryz.underlying210 hi0 hz0 hz1 hz2 rfl (by decide) (.slice av (ls i).length cv) (ls i).length (rws (ls i)) rfl hO1 ⟨gn,0,none⟩ 1 1 (rwc ⟨p,s,d,a,b,id,till,turn⟩) rfl rfl HN1 (by intro u hu;simp only[rwc,List.mem_cons,List.not_mem_nil,or_false]at hu;rcases hu with rfl|rfl|rfl|rfl|rfl|rfl|rfl|rfl<;>rfl) (by omega) (by unfold maxLen;omega) (by omega) hbs1 _ rfl ?_;intro g' cap' W6 hrow6 hg6 hpl hlt6
  have hb6:But (fun g=>g=bt∨Value.ownBlock (.slice av (ls i).length cv)=some g) W1 W6:=⟨hg6.os,hg6.tape,hg6.output,hg6.size,fun k hk he=>hg6.block k hk (fun e=>he (.inr e.symm))⟩;refine⟨hb6,?_⟩;simp only[Act.put,sA,sB,sC];have h6:W6.heap[bt]? =some (.cells (.int .i64 lim:: .int .i64 cnt:: .int .i64 trn::vs).toArray 217 (0,0)):=(hg6.block bt (eS hT1.2.2.1) HNE.out).trans hT1.2.2.1
  have k6:W6.cell? ⟨bt,3+i,none⟩=some (.slice av (ls i).length cv):=by
   rw[zAa h6,←zAa hT1.2.2.1];exact(hT1.cell i hi).trans (by rw[HVS.out])
  have f6:W6.frozen? ⟨bt,3+i,none⟩=false:=zAc h6 _;refine tX (But.pre _) 7 ?_;refine tO 8 ?_;unfold Oper.wp;go_simp;generalize hV:W6.setCell ⟨bt,3+i,none⟩ _=V;have hV3:=zAh h6 (3+i) (.slice (some ⟨g',0,none⟩) ((ls i).length+1) cap');rw[hV]at hV3;have hbV:But (fun g=>g=bt) W6 V:=by rw[←hV];exact(But.refl (fun g=>g=bt) _).setCell (p:=⟨bt,3+i,none⟩) rfl _
  have hbV2:But (fun g=>g=bt∨Value.ownBlock (.slice av (ls i).length cv)=some g) W6 V:=by rw[←hV];exact(But.refl (fun g=>g=bt∨Value.ownBlock (.slice av (ls i).length cv)=some g) _).setCell (p:=⟨bt,3+i,none⟩) (.inl rfl) _
  refine⟨hbV2,?_⟩;clear hV k6 f6;refine tD ?_
  have hset:(Value.int .i64 lim:: .int .i64 cnt:: .int .i64 trn::vs).toArray.setIfInBounds (3+i) (.slice (some ⟨g',0,none⟩) ((ls i).length+1) cap')=(Value.int .i64 lim:: .int .i64 cnt:: .int .i64 trn::vs.set i (.slice (some ⟨g',0,none⟩) ((ls i).length+1) cap')).toArray:=by
   rw[show 3+i=i+1+1+1 from by omega];simp
  rw[hset]at hV3;have hfin:=hT1.added i hi ⟨p,s,d,a,b,id,till,turn⟩ hrow6 (by rw[HVS.out];exact hg6) (by rw[HVS.out];exact hpl.imp (fun x=>x) (fun h=>by rw[h];exact Nat.le_refl _)) hbV hV3;have hbf:=(But.of LL).trans (hb6.trans hbV2);have HF:=zAd hfin;clear hfin;go_wp2_with fail;go_end0
  exact⟨rfl,⟨_,HF.out⟩,hbf⟩
 ·unfold Oper.wp
  go_simp;have l1:Later Wd (Wd.alloc (.cells #[.int .u8 p,.int .u32 s,.int .u32 d,.int .u16 a,.int .u16 b,.int .i64 id,.int .i64 till,.int .i64 turn] 220)):=bA _ _;have HN1:=zMg Wd (rwc ⟨p,s,d,a,b,id,till,turn⟩);have LL:=LD.trans l1;refine⟨But.of l1,?_⟩;have k1:=l1.cell kd;clear kd;generalize hW1:Wd.alloc (.cells #[.int .u8 p,.int .u32 s,.int .u32 d,.int .u16 a,.int .u16 b,.int .i64 id,.int .i64 till,.int .i64 turn] 220)=W1 at*;rw[show Wd.alloc (.cells (rwc ⟨p,s,d,a,b,id,till,turn⟩).toArray 220)=W1 from hW1]at HN1;clear hW1;generalize Wd.heap.size=gn at*;refine tO 3 ?_;unfold Oper.wp;go_simp;refine⟨But.refl _ _,?_⟩;clear k1;have hT1:=hT.later LL;have hO1:=zCu HO.out LL;have hbs1:=Nat.le_trans hbs LL.size;refine tO 6 ?_;refine wp_append_lies W1 (.tmp 13) (.tmp 15) 210 rfl base 220 i0 (.agg #[.int .u8 0,.int .u32 0,.int .u32 0,.int .u16 0,.int .u16 0,.int .i64 0,.int .i64 0,.int .i64 0]) 8 40 Tryz.underlying210 hi0 hz0 hz1 hz2 rfl (by decide) (.slice av (ls i).length cv) (ls i).length (rws (ls i)) rfl hO1 ⟨gn,0,none⟩ 1 1 (rwc ⟨p,s,d,a,b,id,till,turn⟩) rfl rfl HN1 (by intro u hu;simp only[rwc,List.mem_cons,List.not_mem_nil,or_false]at hu;rcases hu with rfl|rfl|rfl|rfl|rfl|rfl|rfl|rfl<;>rfl) (by omega) (by unfold maxLen;omega) (by omega) hbs1 _ rfl ?_;intro g' cap' W6 hrow6 hg6 hpl hlt6
  have hb6:But (fun g=>g=bt∨Value.ownBlock (.slice av (ls i).length cv)=some g) W1 W6:=⟨hg6.os,hg6.tape,hg6.output,hg6.size,fun k hk he=>hg6.block k hk (fun e=>he (.inr e.symm))⟩;refine⟨hb6,?_⟩;simp only[Act.put,sA,sB,sC];have h6:W6.heap[bt]? =some (.cells (.int .i64 lim:: .int .i64 cnt:: .int .i64 trn::vs).toArray 217 (0,0)):=(hg6.block bt (eS hT1.2.2.1) HNE.out).trans hT1.2.2.1
  have k6:W6.cell? ⟨bt,3+i,none⟩=some (.slice av (ls i).length cv):=by
   rw[zAa h6,←zAa hT1.2.2.1];exact(hT1.cell i hi).trans (by rw[HVS.out])
  have f6:W6.frozen? ⟨bt,3+i,none⟩=false:=zAc h6 _;refine tX (But.pre _) 7 ?_;refine tO 8 ?_;unfold Oper.wp;go_simp;generalize hV:W6.setCell ⟨bt,3+i,none⟩ _=V;have hV3:=zAh h6 (3+i) (.slice (some ⟨g',0,none⟩) ((ls i).length+1) cap');rw[hV]at hV3;have hbV:But (fun g=>g=bt) W6 V:=by rw[←hV];exact(But.refl (fun g=>g=bt) _).setCell (p:=⟨bt,3+i,none⟩) rfl _
  have hbV2:But (fun g=>g=bt∨Value.ownBlock (.slice av (ls i).length cv)=some g) W6 V:=by rw[←hV];exact(But.refl (fun g=>g=bt∨Value.ownBlock (.slice av (ls i).length cv)=some g) _).setCell (p:=⟨bt,3+i,none⟩) (.inl rfl) _
  refine⟨hbV2,?_⟩;clear hV k6 f6;refine tD ?_
  have hset:(Value.int .i64 lim:: .int .i64 cnt:: .int .i64 trn::vs).toArray.setIfInBounds (3+i) (.slice (some ⟨g',0,none⟩) ((ls i).length+1) cap')=(Value.int .i64 lim:: .int .i64 cnt:: .int .i64 trn::vs.set i (.slice (some ⟨g',0,none⟩) ((ls i).length+1) cap')).toArray:=by
   rw[show 3+i=i+1+1+1 from by omega];simp
  rw[hset]at hV3;have hfin:=hT1.added i hi ⟨p,s,d,a,b,id,till,turn⟩ hrow6 (by rw[HVS.out];exact hg6) (by rw[HVS.out];exact hpl.imp (fun x=>x) (fun h=>by rw[h];exact Nat.le_refl _)) hbV hV3;have hbf:=(But.of LL).trans (hb6.trans hbV2);have HF:=zAd hfin;clear hfin;go_wp2_with fail;go_end0
  exact⟨rfl,⟨_,HF.out⟩,hbf⟩
def zQx (lim cnt:Int) (ls:Nat→List Rw) (p s d a b till:Int):Int:=if zEw till=false then 2 else if kx p s d a b ls≠none then 10 else if lim≤cnt then 9 else 0
theorem TBv.but {base bt:Nat} {W V:World} {lim cnt trn c2:Int} {vs:List Value} {ls:Nat→List Rw} (hT:TBv base W bt lim cnt trn vs ls)(hb:But (fun g=>g=bt) W V)(hV:V.heap[bt]? =some (.cells (.int .i64 lim:: .int .i64 c2:: .int .i64 trn::vs).toArray 217 (0,0))):TBv base V bt lim c2 trn vs ls:=by
 refine⟨hT.1,hT.2.1,hV,fun i hi=> ?_,hT.2.2.2.2⟩;obtain⟨h1,h2|⟨g,cap,cur,hv,hg,hh2,r⟩⟩:=hT.2.2.2.1 i hi
 ·exact ⟨h1,.inl h2⟩
 ·have hne:g≠bt:=fun e=>by subst e;have:=hT.2.2.1;rw[hh2]at this;simp at this
  exact⟨h1,.inr ⟨g,cap,cur,hv,hg,(hb.block g (eS hh2) hne).trans hh2,r⟩⟩
theorem tput_any(base bt:Nat)(lim cnt trn:Int)(vs:List Value)(ls:Nat→List Rw)(p s d a b id till:Int)(w:World)(hT:TBv base w bt lim cnt trn vs ls)(hs:0≤s∧s≤4294967295)(hd:0≤d∧d≤4294967295)(ha:0≤a∧a≤65535)(hb:0≤b∧b≤65535)(hbs:base≤w.heap.size)(htr:0≤trn∧trn≤1000000)(hcn:0≤cnt∧cnt≤4096)(hlm:lim≤4096)(hln:(ls (bki p s d a b)).length≤5000):
  Calls Tryz.prog 314 #[.pointer (some ⟨bt,0,none⟩),.agg #[.int .u8 p,.int .u32 s,.int .u32 d,.int .u16 a,.int .u16 b],.int .i64 id,.int .i64 till] w fun e w'=>e= .returned (.int .i64 (zQx lim cnt ls p s d a b till))∧
   ((zQx lim cnt ls p s d a b till≠0∧TBv base w' bt lim cnt trn vs ls∧Below w.heap.size w w')∨(zQx lim cnt ls p s d a b till=0∧TB base w' bt lim (cnt+1) (trn+1) (zSc ls (bki p s d a b) ⟨p,s,d,kyp p a,b,id,till,trn+1⟩)∧But (fun g=>g=bt∨(vs[bki p s d a b]?.getD undef).ownBlock=some g) w w')):=by
 have lb0:Later w (w.alloc (.cells #[.int .u8 p,.int .u32 s,.int .u32 d,.int .u16 a,.int .u16 b] 103)):=bA _ _;have t0:=heap_alloc_new w (.cells #[.int .u8 p,.int .u32 s,.int .u32 d,.int .u16 a,.int .u16 b] 103);go_enter Tryz.func314,Tryz.ntmps314;go_wp2_with fail;generalize w.alloc (.cells #[.int .u8 p,.int .u32 s,.int .u32 d,.int .u16 a,.int .u16 b] 103)=w0 at*;refine(zKh till w0).mono ?_;rintro e w1 ⟨rfl,rfl⟩;have hT1:=hT.later lb0;cases hm:zEw till with
 |false=>
  have HQ:Hid (zQx lim cnt ls p s d a b till=2):=if_pos hm;clear hm;go_wp2_with fail;go_ret
  exact⟨by rw[HQ.out];rfl,.inl ⟨by rw[HQ.out];decide,hT1,lb0⟩⟩
 | true=>
  have k0:=zAa t0;go_wp2_with fail;clear k0;refine(zGe base bt lim cnt trn vs ls p s d a b w1 hT1 hs hd ha hb).mono ?_;rintro e w2 ⟨hb2,⟨hk,rfl⟩|⟨k,g2,cap,hk,hkl,hv,rfl⟩⟩
  ·have l2:Later w1 w2:=hb2
   have L2:=lb0.trans l2;have hT2:=hT.later L2;have t2:=zAb l2 t0;have c1:w2.cell? ⟨bt,1,none⟩=some (.int .i64 cnt):=by rw[zAa hT2.2.2.1];rfl
   have c0:w2.cell? ⟨bt,0,none⟩=some (.int .i64 lim):=by rw[zAa hT2.2.2.1];rfl
   have HP:Hid (zQx lim cnt ls p s d a b till=if lim≤cnt then 9 else 0):=by show _=_;unfold zQx;rw[hm,hk];simp
   clear hm hk;go_upto_region 7 with fail;refine zAn (R:=Later) Later.pre Later.drew 10 rfl (by kernel_rfl) (fun V1 hV1=> ?_);have q1:∀v1,Later V1 v1→v1.cell? ⟨bt,1,none⟩=some (.int .i64 cnt):=fun v1 h=>(hV1.trans h).cell c1;have q0:∀v1,Later V1 v1→v1.cell? ⟨bt,0,none⟩=some (.int .i64 lim):=fun v1 h=>(hV1.trans h).cell c0;clear c0 c1;refine rX Later.pre 0 ?_;refine rX Later.pre 1 ?_;refine rX Later.pre 2 ?_;refine rX Later.pre 3 ?_;refine rX Later.pre 4 ?_;refine rX Later.pre 5 ?_;refine rX Later.pre 6 ?_;refine rX Later.pre 7 ?_;refine rX Later.pre 8 ?_;refine rX Later.pre 9 ?_;refine rD (fun V2 hV2=> ?_);clear q0 q1;have L3:=L2.trans (hV1.trans hV2);have t3:=zAb (hV1.trans hV2) t2;have hT3:=hT.later L3;by_cases hful:lim≤cnt
   ·have HQ:Hid (zQx lim cnt ls p s d a b till=9):=HP.out.trans (if_pos hful)
    go_wp2_with fail;go_ret
    exact⟨by rw[HQ.out];rfl,.inl ⟨by rw[HQ.out];decide,hT3,L3⟩⟩
   ·have HQ:Hid (zQx lim cnt ls p s d a b till=0):=HP.out.trans (if_neg hful)
    have hnb:w.heap.size≠bt:=fun e=>by have:=(eS hT.2.2.1);omega
    have hnv:(vs[bki p s d a b]?.getD undef).ownBlock≠some w.heap.size:=fun e=>by have:=((hT.2.2.2.1 _ (zDz p s d a b)).lt _ e).2;omega
    go_upto_region 9 with fail;refine zAl (R:=But (fun g=>g=bt∨(vs[bki p s d a b]?.getD undef).ownBlock=some g)) 13 rfl (by kernel_rfl) ?_;have ld:Later V2 V2.drew:=Later.drew V2;have td:=zAb ld t3;have LD:=L3.trans ld;generalize V2.drew=Wd at*;have hq:∀v1,But (fun g=>g=bt∨(vs[bki p s d a b]?.getD undef).ownBlock=some g) Wd v1→∀j,v1.cell? ⟨w.heap.size,j,none⟩=#[Value.int .u8 p,.int .u32 s,.int .u32 d,.int .u16 a,.int .u16 b][j]? :=fun v1 hv=>zAa ((hv.block w.heap.size (eS td) (fun hE=>hE.elim hnb hnv)).trans td);refine tX (But.pre _) 0 ?_;refine tX (But.pre _) 1 ?_;refine tX (But.pre _) 2 ?_;refine tX (But.pre _) 3 ?_;refine tX (But.pre _) 5 ?_;refine tX (But.pre _) 7 ?_;refine tX (But.pre _) 8 ?_;refine tX (But.pre _) 9 ?_;clear hq;refine tO 4 ?_;refine zAj 161 #[.agg #[.int .u8 p,.int .u32 s,.int .u32 d,.int .u16 a,.int .u16 b]] (by go_simp) ?_;refine(zO2 p s d a b Wd hs hd ha hb).mono ?_;rintro e W1 ⟨rfl,hb1⟩;have k1:Later Wd W1:=hb1;refine⟨But.of k1,?_⟩;simp only[Act.put,sA,sB,sC];refine tO 6 ?_;refine zAj 104 #[.agg #[.int .u8 p,.int .u32 s,.int .u32 d,.int .u16 a,.int .u16 b]] (by go_simp) ?_;refine(zD8 p s d a b W1).mono ?_;rintro e W2 ⟨rfl,hb2'⟩;have k2:Later W1 W2:=hb2';refine⟨But.of k2,?_⟩;simp only[Act.put,sA,sB,sC];have LW2:=LD.trans (k1.trans k2);refine tO 10 ?_;refine zAj 292 #[.pointer (some ⟨bt,0,none⟩)] (by go_simp) ?_;refine(zO4 base bt lim cnt trn vs ls W2 (hT.later LW2) htr).mono ?_
    rintro e W3 ⟨rfl,hb3,hT4⟩;have hb3':But (fun g=>g=bt∨(vs[bki p s d a b]?.getD undef).ownBlock=some g) W2 W3:=⟨hb3.os,hb3.tape,hb3.output,hb3.size,fun k hk he=>hb3.block k hk (fun e=>he (.inl e))⟩;refine⟨hb3',?_⟩;simp only[Act.put,sA,sB,sC];refine tX (But.pre _) 11 ?_;refine tO 12 ?_;refine zAj 330 #[.pointer (some ⟨bt,3,none⟩),.int .u32 (hsh (tb p s d (kyp p a) b)),.agg #[.int .u8 p,.int .u32 s,.int .u32 d,.int .u16 (kyp p a),.int .u16 b,.int .i64 id,.int .i64 till,.int .i64 (trn+1)]] (by go_simp) ?_;refine(tadd_any base bt lim cnt (trn+1) vs ls (hsh (tb p s d (kyp p a) b)) (bki p s d a b) p s d (kyp p a) b id till (trn+1) W3 hT4 (zS4 _ _ _ _ _) rfl hln (Nat.le_trans (Nat.le_trans hbs LW2.size) hb3.size)).mono ?_;rintro e W4 ⟨rfl,⟨vs4,hT5⟩,hb4⟩;refine⟨hb4,?_⟩;simp only[Act.put,sA,sB,sC];refine tD ?_;have hbt:But (fun g=>g=bt∨(vs[bki p s d a b]?.getD undef).ownBlock=some g) w W4:=(But.of LW2).trans (hb3'.trans hb4);have hh5:=hT5.2.2.1;have c1:W4.cell? ⟨bt,1,none⟩=some (.int .i64 cnt):=by rw[zAa hh5];rfl
    have f1:=zAc hh5 1;have hst:=zAh hh5 1 (.int .i64 (cnt+1));have hb5:But (fun g=>g=bt) W4 (W4.setCell ⟨bt,1,none⟩ (.int .i64 (cnt+1))):=(But.refl (fun g=>g=bt) _).setCell (p:=⟨bt,1,none⟩) rfl _;have hb5':But (fun g=>g=bt∨(vs[bki p s d a b]?.getD undef).ownBlock=some g) W4 (W4.setCell ⟨bt,1,none⟩ (.int .i64 (cnt+1))):=⟨hb5.os,hb5.tape,hb5.output,hb5.size,fun k hk he=>hb5.block k hk (fun e=>he (.inl e))⟩;have hT6:=hT5.but (c2:=cnt+1) hb5 (by simpa using hst);have HT6:=zAd hT6;have HB6:=zAd (hbt.trans hb5');clear hT6 hb5 hb5' hst hh5 hT5;go_wp2_with fail;go_ret
    exact⟨by rw[HQ.out];rfl,.inr ⟨HQ.out,⟨_,HT6.out⟩,HB6.out⟩⟩
  ·have l2:Later w1 w2:=hb2
   have HQ:Hid (zQx lim cnt ls p s d a b till=10):=by show _=_;unfold zQx;rw[hm,hk];simp
   have L2:=lb0.trans l2;have hT2:=hT.later L2;clear hm hk hv;go_wp2_with fail;go_ret
   exact⟨by rw[HQ.out];rfl,.inl ⟨by rw[HQ.out];decide,hT2,L2⟩⟩
theorem zS6(n:Nat)(w:World)(hn:n≤12):Calls Tryz.prog 200 #[.int .u64 (n:Int)] w fun e w'=>(∃v,e= .returned (.int .i64 v))∧w'=w:=by
 have hc:n=0∨n=1∨n=2∨n=3∨n=4∨n=5∨n=6∨n=7∨n=8∨n=9∨n=10∨n=11∨n=12:=by omega
 clear hn;rcases hc with rfl|rfl|rfl|rfl|rfl|rfl|rfl|rfl|rfl|rfl|rfl|rfl|rfl
 all_goals
  go_enter Tryz.func200,Tryz.ntmps200;go_wp2_with fail;go_ret
  exact⟨⟨_,rfl⟩,rfl⟩
theorem len_few(n:Nat)(w:World)(hn:n≤12):Calls Tryz.prog 156 #[.int .u64 (n:Int)] w fun e w'=>(∃v,e= .returned (.int .i64 v))∧w'=w:=by
 go_enter Tryz.func156,Tryz.ntmps156;go_wp2_with fail;refine(zS6 n w hn).mono ?_;rintro e w1 ⟨⟨v,rfl⟩,rfl⟩;go_wp2_with fail;go_ret
 exact⟨⟨_,rfl⟩,rfl⟩
attribute [local go_sem] Oper.semAt_some
def zE5 (ls:Nat→List Rw):List Rw:=(List.range 256).flatMap ls
def zHc (ls:Nat→List Rw) (i:Nat):List Rw:=(List.range i).flatMap ls
theorem zHq(ls:Nat→List Rw)(i:Nat):zHc ls (i+1)=zHc ls i++ls i:=by
 unfold zHc;rw[List.range_succ,List.flatMap_append];simp
theorem allR_at(ls:Nat→List Rw)(i k:Nat)(hi:i<256)(hk:k<(ls i).length):∃rest,(zHc ls i++(ls i).take k)++(ls i)[k]::rest=zE5 ls:=by
 obtain⟨m,hm⟩:∃m,256=i+1+m:=⟨255-i,by omega⟩
 have e:zE5 ls=zHc ls (i+1)++((List.range m).map (i+1+ ·)).flatMap ls:=by
  unfold zE5 zHc;rw[hm,List.range_add,List.flatMap_append]
 refine⟨(ls i).drop (k+1)++((List.range m).map (i+1+ ·)).flatMap ls,?_⟩;rw[e,zHq]
 have h2:ls i=(ls i).take k++(ls i)[k]::(ls i).drop (k+1):=by
  rw[←List.drop_eq_getElem_cons hk,List.take_append_drop]
 rw[List.append_assoc,List.append_assoc];congr 1
 rw[←List.cons_append,←List.append_assoc,←h2]
def encR (r:Rw):Array Value:=#[.agg (rwc r).toArray]
def XR (ls:Nat→List Rw) (pre:List Rw) (x:Rw) (_V:World):Prop:=∃rest,pre++x::rest=zE5 ls
theorem zEk {F:Fence} {n:Nat} {P:Program} {ops:Array Oper} {rest:List Oper} {o:Oper} {a:Act} {Q:Exit→Act→World→Prop} {w:World} (k:Nat)(hd:o.dst=some k)(hg:o.guard=none)(v:Value)(ha:o.about P w a.eval=none)(h:(o.semAt F.round a.eval).run P w= .ok (.value v) w)
  (hk:wpListIn F n P ops Q rest (a.put o.dst v) w):wpListIn F n P ops Q (o::rest) a w:=wpListIn_plain hg fun K hK=>by unfold Oper.wpIn;rw[h];exact⟨fun f hf=>(by rw[ha]at hf;cases hf),hK _ _ hk⟩
theorem idx_arr(vs:List Value)(i:Nat)(w:World)(hv:vs.length=256)(hi:i<256):(Instr.index 213 (.agg vs.toArray) (.int .i64 (i:Int))).run Tryz.prog w= .ok (vs[i]?.getD undef) w:=by
 have h1:(i:Int)<256:=by omega
 have h2:i<vs.length:=by omega
 simp[Instr.index,go_sem,h1,h2,hv,hi]
theorem all1_in(n:Nat)(hn:1≤n)(l B bt n₀:Nat)(vs:List Value)(ls:Nat→List Rw)(hv:vs.length=256)(J Jx:List Rw→World→Prop)
  (hJ:∀s A B,J s A→Later A B→J s B)
  (hY:∀pre x V,J pre V→XR ls pre x V→YieldAt Fence.wide (n-1) Tryz.prog l (encR x) V fun e V'=>(e= .returned (.bool true)∧J (pre++[x]) V'∧Below n₀ V V')∨(e= .returned (.bool false)∧Jx (pre++[x]) V'))
  (W:World)(hB:W.cell? ⟨B,0,none⟩=some (.pointer (some ⟨bt,3,none⟩)))(hn0:n₀≤W.heap.size)(hc:∀i,i<256→W.cell? ⟨bt,3+i,none⟩=some (vs[i]?.getD undef))(hR:∀i,i<256→RdR n₀ W (vs[i]?.getD undef) (ls i))(h0:J [] W):
  CallsIn Fence.wide n Tryz.prog 154 #[.func (.yield l) #[] #[],.pointer (some ⟨B,0,none⟩)] W fun e W'=>(∃v,e= .returned v)∧((∃xs,xs=zE5 ls∧J xs W')∨(∃pre,True∧Jx pre W')):=by
 have hra:W.rangeAt bt 3 vs:=fun j v hj=>by
  have hlt:j<256:=by have:=(List.getElem?_eq_some_iff.1 hj).1;omega
  rw[hc j hlt,hj];rfl
 have hL:(Instr.loadAt 213 (.pointer (some ⟨bt,3,none⟩))).run Tryz.prog W= .ok (.agg vs.toArray) W:=run_loadAt_mid W bt 3 _ vs _ hra Tryz.underlying213 rfl (by rw[hv];kernel_rfl);have HC:=zAd hc;have HR:=zAd hR;have HL:=zAd hL;clear hc hR hra hL;refine callsIn_of_wp Tryz.func154 rfl trivial ?_ rfl;simp only[Tryz.ntmps154,List.size_toArray,List.length_cons,List.length_nil,Nat.reduceAdd,Nat.reduceSub,Array.replicate_succ,Array.replicate_zero,List.push_toArray,List.append_toArray,List.nil_append,List.cons_append];gi_wp2_with (refine zEk 10 rfl rfl (.agg vs.toArray) rfl (by go_loud (show Sem.run _ (Instr.loadAt 213 (.pointer (some ⟨bt,3,none⟩))>>=fun v=>pure (Next.value v)) _=_;rw[Sem.run_bind,HL.out];rfl)) ?_)
 gi_loopw [11] (fun i wr=>∃p:Nat,p≤256∧i= .int .i64 (p:Int)∧J (zHc ls p) wr∧Below n₀ W wr) (fun i _=>256-(intOf i).toNat)
 case atStart=>exact⟨0,by omega,rfl,h0,Below.refl _ _⟩
 case round=>
  obtain⟨p,hp,rfl,hJp,hbp⟩:=hrel;by_cases hlt:p<256
  ·have hlt':(p:Int)<256:=by omega
   have hRp:=(HR.out p hlt).below hbp;have hix:=idx_arr vs p wr hv hlt;generalize hvp:vs[p]?.getD undef=v at*;obtain⟨sa,cap,rfl,hc1,hc2⟩:=hRp.slice;have HIX:=zAd hix;have HRP:=zAd hRp;have HVP:=zAd hvp;clear hvp hix hRp;gi_wp2_with (refine zEk 13 rfl rfl (.slice sa (ls p).length cap) rfl (by go_loud (show Sem.run _ (Instr.index 213 (.agg vs.toArray) (.int .i64 (p:Int))>>=fun v=>pure (Next.value v)) _=_;rw[Sem.run_bind,HIX.out];rfl)) ?_)
   rename World=>w1
   gi_loopw [16] (fun i wx=>∃k:Nat,k≤(ls p).length∧i= .int .i64 (k:Int)∧J (zHc ls p++(ls p).take k) wx∧Below n₀ W wx) (fun i _=>(ls p).length-(intOf i).toNat)
   case atStart=>exact⟨0,by omega,rfl,by rw[List.take_zero,List.append_nil];exact hJp,hbp⟩
   case round=>
    obtain⟨k,hk,rfl,hJk,hbk⟩:=hrel;by_cases hkl:k<(ls p).length
    ·obtain ⟨g,off,cp,e,_,_,hgn,hcs⟩:=((HR.out p hlt).below hbk|>fun h=>show RdR n₀ wr (.slice sa (ls p).length cap) (ls p)from HVP.out▸h).cells (by omega)
     simp at e
     obtain⟨rfl,rfl⟩:=e;have c0:=hcs k hkl 0 (by omega);have c1:=hcs k hkl 1 (by omega);have c2:=hcs k hkl 2 (by omega);have c3:=hcs k hkl 3 (by omega);have c4:=hcs k hkl 4 (by omega);have c5:=hcs k hkl 5 (by omega);have c6:=hcs k hkl 6 (by omega);have c7:=hcs k hkl 7 (by omega);have hkl':(k:Int)<(ls p).length:=by omega
     have hat:=allR_at ls p k hlt hkl;have htk:zHc ls p++(ls p).take (k+1)=zHc ls p++(ls p).take k++[(ls p)[k]]:=by rw[List.append_assoc,List.take_append_getElem hkl]
     clear hcs;generalize hgo:(ls p)[k]=r at*;have HAT:=zAd hat;have HTK:=zAd htk;clear hgo hat htk;simp only[rwc,List.getElem?_cons_zero,List.getElem?_cons_succ,Nat.add_zero]at c0 c1 c2 c3 c4 c5 c6 c7;have la:Later wr (wr.alloc (.cells #[.int .u8 r.p,.int .u32 r.s,.int .u32 r.d,.int .u16 r.a,.int .u16 r.b,.int .i64 r.id,.int .i64 r.till,.int .i64 r.turn] 220)):=bA _ _;obtain⟨fn,tmps,assign,body,hy,hR⟩:=hY _ r _ (hJ _ _ _ hJk la) HAT.out;dsimp only[encR,rwc]at hy
     have hwr:=Nat.le_trans hn0 hbk.size;gi_wp2
     refine hR.mono ?_;rintro e W3 (⟨rfl,hJ3,hk3⟩|⟨rfl,hJx3⟩)
     ·gi_wp2
      go_roundw
      case rel=>exact⟨k+1,by omega,by go_num,by rw[HTK.out];exact hJ3,hbk.trans ((la.mono hwr).trans hk3)⟩
      case measure=>simp[intOf];omega
     ·gi_wp2
      refine bodyPost_ret (results_none rfl _ _ _) rfl ?_;exact⟨⟨_,rfl⟩,.inr ⟨_,trivial,hJx3⟩⟩
    ·obtain rfl:k=(ls p).length:=by omega
     gi_wp2
     go_roundw
     case rel=>exact⟨p+1,by omega,by go_num,by rw[zHq];rw[List.take_length]at hJk;exact hJk,hbk⟩
     case measure=>simp[intOf];omega
  ·obtain rfl:p=256:=by omega
   gi_wp2
   go_end0
   exact⟨⟨_,rfl⟩,.inl ⟨_,rfl,hJp⟩⟩
theorem all_gen(n:Nat)(hn:1≤n)(B bt n₀ base:Nat)(lim cnt trn:Int)(vs:List Value)(ls:Nat→List Rw)(w0 w:World)(hT:TBv base w0 bt lim cnt trn vs ls)(hn0:n₀=w0.heap.size)(hw:Later w0 w)(hBl:B<w.heap.size)(hB:w.cell? ⟨B,0,none⟩=some (.pointer (some ⟨bt,3,none⟩))):
  GenX Fence.wide n Tryz.prog 154 #[.pointer (some ⟨B,0,none⟩)] encR (Below n₀) (XR ls) (fun xs=>xs=zE5 ls) (fun _=>True) w:=fun l J Jx W hW hJ hY h0=>by
 subst hn0;have hwW:Later w0 W:=hw.trans hW;have hTW:=hT.later hwW;exact all1_in n hn l B bt w0.heap.size vs ls hT.1 J Jx hJ hY W ((hW.cell (p:=⟨B,0,none⟩) hBl).trans hB) hwW.size (fun i hi=>hTW.cell i hi) (fun i hi=>(zDd (hT.2.2.2.1 i hi)).below hwW) h0
theorem zQy(sv:Value)(n:Nat)(f:Value)(w:World)(hn:n≤1):Calls Tryz.prog 206 #[sv,.int .i64 0,.int .i64 (n:Int),f] w fun e w'=>(∃v,e= .returned v)∧w'=w:=by
 go_enter Tryz.func206,Tryz.ntmps206;go_wp2_with fail;go_loopw [8] (fun i wr=>i= .int .i64 1∧wr=w) (fun _ _=>0)
 case atStart=>exact⟨rfl,rfl⟩
 case round=>
  obtain⟨rfl,rfl⟩:=hrel;have h1:¬(1:Int)<(n:Int):=by omega
  go_wp2_with fail;go_end0
  exact⟨⟨_,rfl⟩,rfl⟩
theorem pdq_one(sv:Value)(n:Nat)(lm:Int)(f:Value)(w:World)(hn:n≤1):Calls Tryz.prog 155 #[sv,.int .i64 0,.int .i64 (n:Int),.int .i64 lm,f] w fun e w'=>(∃v,e= .returned v)∧w'=w:=by
 have h1:(n:Int)≤12:=by omega
 go_enter Tryz.func155,Tryz.ntmps155;go_wp2_with fail;go_loopw [1,2] (fun a b wr=>a= .int .i64 0∧b= .int .i64 (n:Int)∧wr=w) (fun _ _ _=>0)
 case atStart=>exact⟨rfl,rfl,rfl⟩
 case round=>
  obtain⟨rfl,rfl,rfl⟩:=hrel;go_wp2_with fail;refine(zQy sv n f wr hn).mono ?_;rintro e w1 ⟨⟨v,rfl⟩,rfl⟩;go_wp2_with fail;refine bodyPost_ret (results_none rfl _ _ _) rfl ?_;exact⟨⟨_,rfl⟩,rfl⟩
theorem sort_one(a:Option Addr)(n cap:Nat)(f:Value)(w:World)(hn:n≤1):Calls Tryz.prog 101 #[.slice a n cap,f] w fun e w'=>(∃v,e= .returned v)∧w'=w:=by
 have h1:(n:Int)≤12:=by omega
 go_enter Tryz.func101,Tryz.ntmps101;go_wp2_with fail;refine(len_few n w (by omega)).mono ?_;rintro e w1 ⟨⟨v,rfl⟩,rfl⟩;go_wp2_with fail;refine(pdq_one (.slice a n cap) n v f w1 hn).mono ?_;rintro e w2 ⟨⟨v2,rfl⟩,rfl⟩;go_wp2_with fail;go_end0
 exact⟨⟨_,rfl⟩,rfl⟩
attribute [local go_sem] Oper.semAt_some
theorem all_in(n bt:Nat)(w:World):
  CallsIn Fence.wide n Tryz.prog 100 #[.pointer (some ⟨bt,3,none⟩)] w fun e w'=>e= .returned (.func (.func 154) #[] #[.pointer (some ⟨w.heap.size,0,none⟩)])∧w'=w.alloc (.cells #[.pointer (some ⟨bt,3,none⟩)] 293):=by
 refine callsIn_of_wp Tryz.func100 rfl trivial ?_ rfl;simp only[Tryz.ntmps100,List.size_toArray,List.length_cons,List.length_nil,Nat.reduceAdd,Nat.reduceSub,Array.replicate_succ,Array.replicate_zero,List.push_toArray,List.append_toArray,List.nil_append,List.cons_append];gi_wp2
 go_ret
 exact⟨rfl,rfl⟩
def duR (now:Int) (l:List Rw):List Rw:=l.filter fun r=>decide (r.till≤now)
theorem duR_yes {now:Int} {l:List Rw} {r:Rw} (h:r.till≤now):duR now (l++[r])=duR now l++[r]:=by unfold duR;rw[List.filter_append];simp[h]
theorem duR_no {now:Int} {l:List Rw} {r:Rw} (h:¬r.till≤now):duR now (l++[r])=duR now l:=by unfold duR;rw[List.filter_append];simp[h]
theorem zHr(now:Int)(l:List Rw):(duR now l).length≤l.length:=List.length_filter_le _ _
theorem rws_snoc(l:List Rw)(r:Rw):rws (l++[r])=rws l++rwc r:=by unfold rws;simp
def CTy (A B:World):Prop:=A.heap.size≤B.heap.size∧∀(k:Nat) (o:Obj),A.heap[k]? =some o→o.isCells=true→B.heap[k]? =some o
theorem CTy.of {A B:World} (h:Later A B):CTy A B:=⟨h.size,fun k o ho _=>zAb h ho⟩
theorem CTy.row {A B:World} {row:Option Nat} (hg:A.grownBy B row)(hr:∀r,row=some r→∃o:Obj,A.heap[r]? =some o∧o.isCells=false):CTy A B:=
 ⟨hg.size,fun k o ho hc=>(hg.block k (eS ho) (fun e=>by obtain⟨o',h1,h2⟩:=hr k e.symm;rw[ho]at h1;cases h1;rw[hc]at h2;cases h2)).trans ho⟩
theorem CTy.put {A:World} {l:Nat} {o o':Obj} (h:A.heap[l]? =some o)(hc:o.isCells=false):CTy A (A.putObj l o'):=
 CTy.row (grownBy_putObj' A l o') (fun r e=>by cases e;exact⟨o,h,hc⟩)
theorem ownsR_ct {base:Nat} {e:TypeId} {size:Nat} {A B:World} {v:Value} {n:Nat} {xs:List Value} (h:A.ownsRow base e size v n xs)(c:CTy A B):B.ownsRow base e size v n xs:=by
 obtain⟨h1,h2|⟨g,cap,cur,hv,hg,hh,r⟩⟩:=h
 ·exact ⟨h1,.inl h2⟩
 ·exact ⟨h1,.inr ⟨g,cap,cur,hv,hg,c.2 _ _ hh rfl,r⟩⟩
def PD (rb base:Nat) (now:Int) (pre:List Rw) (W:World):Prop:=
 (∃v,W.heap[rb+1]? =some (.cells #[v] 210 (0,0))∧W.ownsRow base 220 8 v (duR now pre).length (rws (duR now pre)))∧W.heap[rb]? =some (.cells #[.int .i64 now] 3 (0,0))
theorem PD.ct {rb base:Nat} {now:Int} {pre:List Rw} {A B:World} (h:PD rb base now pre A)(c:CTy A B):PD rb base now pre B:=by
 obtain⟨⟨v,h1,h2⟩,h3⟩:=h;exact⟨⟨v,c.2 _ _ h1 rfl,ownsR_ct h2 c⟩,c.2 _ _ h3 rfl⟩
def zS7 (l l':List Rw):Prop:=l'.length=l.length∧∀(base:Nat) (v:Value) (W:World),W.ownsRow base 220 8 v l.length (rws l)→
 Calls Tryz.prog 101 #[v,.func (.func 102) #[] #[]] W fun e W'=>(∃u,e= .returned u)∧W'.ownsRow base 220 8 v l.length (rws l')∧But (fun g=>v.ownBlock=some g) W W'
theorem zS8(l:List Rw)(h:l.length≤1):zS7 l l:=⟨rfl,fun base v W hv=>by
 obtain⟨a,cap,rfl,_,_⟩:=(zDd hv).slice;refine(sort_one a l.length cap _ W h).mono ?_;rintro e W' ⟨hu,rfl⟩;exact⟨hu,hv,But.refl _ _⟩⟩
attribute [local go_sem] Oper.semAt_some
theorem zS9 {W:World} {n m j:Nat} {v:Value} {o:Obj} (h:W.heap[n]? =some o)(hne:n≠m):(W.setCell ⟨m,j,none⟩ v).heap[n]? =some o:=(Below.heap_setCell W ⟨m,j,none⟩ v n hne).trans h
def rks (l:List Rw):List Value:=l.flatMap rwk
theorem zQz(l:List Rw):(rks l).length=l.length*5:=by
 induction l with
 |nil=>rfl
 |cons r l ih=>unfold rks at ih⊢;simp[rwk]at ih⊢;omega
theorem rks_snoc(l:List Rw)(r:Rw):rks (l++[r])=rks l++rwk r:=by unfold rks;simp
theorem zHs {n:Nat} {t:TypeId} :∀(vs pre mid post:List Value) (W:World),W.heap[n]? =some (.cells (pre++(mid++post)).toArray t (0,0))→mid.length=vs.length→(zAi W n pre.length vs).heap[n]? =some (.cells (pre++(vs++post)).toArray t (0,0))
 | [],pre,mid,post,W,h,hl=>by
  have:mid=[]:=List.length_eq_zero_iff.1 hl;subst this;exact h
 |v::r,pre,[],post,W,h,hl=>by simp at hl
 | v::r,pre,p::mid,post,W,h,hl=>by
  have h1:=zAh h pre.length v
  have e:((pre++(p::mid++post)).toArray.setIfInBounds pre.length v)=((pre++[v])++(mid++post)).toArray:=by
   simp
  rw[e]at h1;have:=zHs r (pre++[v]) mid post _ h1 (by simpa using hl);simpa[zAi]using this
theorem zTa:(Tryz.prog.info? 103).map (fun i=>(i.zero,i.size,i.bytes))=some (some (.agg #[.int .u8 0,.int .u32 0,.int .u32 0,.int .u16 0,.int .u16 0]),5,16):=by kernel_rfl
theorem due_any(base bt:Nat)(lim cnt trn now:Int)(ls:Nat→List Rw)(l':List Rw)(w:World)(hT:TB base w bt lim cnt trn ls)(hS:zS7 (duR now (zE5 ls)) l')(hal:(zE5 ls).length≤5000):
  Calls Tryz.prog 48 #[.pointer (some ⟨bt,0,none⟩),.int .i64 now] w fun e w'=>Below w.heap.size w w'∧∃g,e= .returned (.slice (some ⟨g,0,none⟩) l'.length l'.length)∧w.heap.size≤g∧w'.heap[g]? =some (.cells (rks l').toArray 103 (0,0)):=by
 obtain⟨vs,hT⟩:=hT;refine(callsIn_wide (n:=5)).1 ?_;refine callsIn_of_wp_marks Tryz.func48 rfl trivial ?_ rfl;simp only[Tryz.ntmps48,List.size_toArray,List.length_cons,List.length_nil,Nat.reduceAdd,Nat.reduceSub,Array.replicate_succ,Array.replicate_zero,List.push_toArray,List.append_toArray,List.nil_append,List.cons_append];have hb4:Later w (((w.alloc (.cells #[.int .i64 now] 3)).alloc (.cells #[.slice none 0 0] 210)).alloc (.cells #[.pointer (some ⟨bt,3,none⟩)] 293)):=((bA _ _).alloc (by simp) _).alloc (by simp<;>omega) _;have c0:(((w.alloc (.cells #[.int .i64 now] 3)).alloc (.cells #[.slice none 0 0] 210)).alloc (.cells #[.pointer (some ⟨bt,3,none⟩)] 293)).heap[w.heap.size]? =some (.cells #[.int .i64 now] 3):=(Below.heap_alloc _ _ _ (by simp<;>omega)).trans ((Below.heap_alloc _ _ _ (by simp)).trans (heap_alloc_new w _))
 have c1:(((w.alloc (.cells #[.int .i64 now] 3)).alloc (.cells #[.slice none 0 0] 210)).alloc (.cells #[.pointer (some ⟨bt,3,none⟩)] 293)).heap[w.heap.size+1]? =some (.cells #[.slice none 0 0] 210):=by
  have:=heap_alloc_new (w.alloc (.cells #[.int .i64 now] 3)) (.cells #[.slice none 0 0] 210);rw[World.size_alloc]at this;exact(Below.heap_alloc _ _ _ (by simp)).trans this
 have c2:(((w.alloc (.cells #[.int .i64 now] 3)).alloc (.cells #[.slice none 0 0] 210)).alloc (.cells #[.pointer (some ⟨bt,3,none⟩)] 293)).heap[w.heap.size+1+1]? =some (.cells #[.pointer (some ⟨bt,3,none⟩)] 293):=by
  have:=heap_alloc_new ((w.alloc (.cells #[.int .i64 now] 3)).alloc (.cells #[.slice none 0 0] 210)) (.cells #[.pointer (some ⟨bt,3,none⟩)] 293);simpa only[World.size_alloc]using this
 have hs4:(((w.alloc (.cells #[.int .i64 now] 3)).alloc (.cells #[.slice none 0 0] 210)).alloc (.cells #[.pointer (some ⟨bt,3,none⟩)] 293)).heap.size=w.heap.size+1+1+1:=by simp
 have C0:=zAd c0;have C1:=zAd c1;have C2:=zAd c2;have HS4:=zAd hs4;clear c0 c1 c2 hs4;gi_wp2_with (refine⟨trivial,?_⟩;gi_at_call 100;refine(all_in _ _ _).mono ?_;rintro e w' ⟨rfl,rfl⟩)
 generalize ((w.alloc (.cells #[.int .i64 now] 3)).alloc (.cells #[.slice none 0 0] 210)).alloc (.cells #[.pointer (some ⟨bt,3,none⟩)] 293)=w4 at*;have hs4:w4.heap.size=w.heap.size+1+1+1:=HS4.out
 refine zB7 (w:=w4) rfl (by omega) (gf:=154) (lb:=#[.pointer (some ⟨w.heap.size+1+1,0,none⟩)]) rfl trivial (enters_of Tryz.func154 (by kernel_rfl) rfl)
  (all_gen 4 (by omega) (w.heap.size+1+1) bt w.heap.size base lim cnt trn vs ls w w4 hT rfl hb4 (by omega) (zAa C2.out 0))
  (fun h k=>h.trans k) (fun W l o o' hl ho hc hw=>belowK_b (w:=w4) (by omega) W l o o' hl ho hc hw) (fun hA hL=>hL.mono (by omega)) (fun _ _ _ _ h _=>h) (fun _ _ _ _ _ _ _ _ _ h=>h) (fun _=>rfl)
  (fun pre W=>PD w.heap.size (w.heap.size+1+1+1) now pre W∧Below w.heap.size w W) (fun pre W=>False)
  (OwnFrom.and (fun s A B row hs hg hr=>hs.ct (CTy.row hg (fun r e=>(hr r e).2))) (ownFrom_below (Nat.le_refl _) (by omega)))
  (fun s A B h l=>⟨h.1.ct (CTy.of l),h.2.trans (l.mono h.2.size)⟩)
  (fun s A B row hs hg hr=>hs)
  ⟨⟨⟨.slice none 0 0,C1.out,rfl,.inl ⟨rfl,rfl⟩⟩,C0.out⟩,hb4⟩
  (fun x a' W=>∃bx:Nat,w.heap.size+1+1+1≤bx∧W.heap[bx]? =some (.cells #[.int .u8 x.p,.int .u32 x.s,.int .u32 x.d,.int .u16 x.a,.int .u16 x.b,.int .i64 x.id,.int .i64 x.till,.int .i64 x.turn] 220 (0,0))∧a'= { tmps:=#[.pointer (some ⟨bt,0,none⟩),.int .i64 now,undef,.pointer (some ⟨w.heap.size,0,none⟩),.slice none 0 0,.pointer (some ⟨w.heap.size+1,0,none⟩),.pointer (some ⟨bx,0,none⟩),undef,undef,undef,.pointer (some ⟨bt,0,none⟩),.bool false,.pointer (some ⟨bt,0,none⟩),.pointer (some ⟨bt,0,none⟩),.pointer (some ⟨bt,3,none⟩),.func (.func 154) #[] #[.pointer (some ⟨w.heap.size+1+1,0,none⟩)],.agg #[.int .u8 x.p,.int .u32 x.s,.int .u32 x.d,.int .u16 x.a,.int .u16 x.b,.int .i64 x.id,.int .i64 x.till,.int .i64 x.turn],undef,undef,undef,undef,undef,undef,undef,undef,undef,undef,undef,undef,undef,undef,undef,undef,undef,undef,undef,undef,undef,undef,undef,undef,undef,undef,undef],defers:=[] })
  (fun x a' W l o o' hl ho hc h=>by obtain⟨bx,h1,h2,h3⟩:=h;exact⟨bx,h1,(CTy.put ho hc).2 _ _ h2 rfl,h3⟩) ?assign ?body ?done ?stop
 case assign=>
  rintro l pre x W K hsz _ hX hK;dsimp only[encR,rwc]
  gi_wp2
  refine hK _ _ ?_ ⟨W.heap.size,by omega,heap_alloc_new _ _,rfl⟩;exact(Below.refl _ W).alloc (Nat.le_refl _) _
 case body=>
  rintro l pre x a' W ⟨⟨⟨v,hob,hOw⟩,hr0⟩,hbW⟩ hX ⟨bx,hbx,hbo,rfl⟩;have hbsz:=hbW.size;have Kb:=zAa hbo;have Kn:=zAa hr0;have hobl:=(eS hob);have hbl:=(eS hbo);have hal2:pre.length≤5000:=by obtain⟨rest,e⟩:=hX;have:=congrArg List.length e;simp at this;omega
  by_cases htl:x.till≤now
  ·have hdu:=duR_yes (l:=pre) htl
   have hdl:(duR now pre).length≤5000:=Nat.le_trans (zHr now pre) hal2;have Kv:=zAa hob;have Fv:=zAc hob;obtain⟨sa,cap,rfl,_,_⟩:=(zDd hOw).slice;obtain⟨i0,hi,hz0,hz1,hz2⟩:=info_parts zO5;have la:Later W (W.alloc (.cells #[.int .u8 x.p,.int .u32 x.s,.int .u32 x.d,.int .u16 x.a,.int .u16 x.b,.int .i64 x.id,.int .i64 x.till,.int .i64 x.turn] 220)):=(Below.refl _ W).alloc (Nat.le_refl _) _;have hrowA:=zCu hOw la;have hnews:∀j u,[Value.int .u8 x.p,.int .u32 x.s,.int .u32 x.d,.int .u16 x.a,.int .u16 x.b,.int .i64 x.id,.int .i64 x.till,.int .i64 x.turn][j]? =some u→(W.alloc (.cells #[.int .u8 x.p,.int .u32 x.s,.int .u32 x.d,.int .u16 x.a,.int .u16 x.b,.int .i64 x.id,.int .i64 x.till,.int .i64 x.turn] 220)).cell? ((⟨W.heap.size,0,none⟩:Addr).add j)=some u:=zMg W [Value.int .u8 x.p,.int .u32 x.s,.int .u32 x.d,.int .u16 x.a,.int .u16 x.b,.int .i64 x.id,.int .i64 x.till,.int .i64 x.turn]
   have hbl2:∀r,(Value.slice sa (duR now pre).length cap).ownBlock=some r→∃cur,(W.alloc (.cells #[.int .u8 x.p,.int .u32 x.s,.int .u32 x.d,.int .u16 x.a,.int .u16 x.b,.int .i64 x.id,.int .i64 x.till,.int .i64 x.turn] 220)).heap[r]? =some (.cells cur 220 (0,0))∧w.heap.size+1+1+1≤r:=fun r hr=>by
    rcases hrowA.2 with⟨e,_⟩|⟨g,cp,cur,e,hg,hh,_⟩
    ·rw[e]at hr;cases hr
    ·rw[e]at hr;cases hr
     exact⟨cur,hh,hg⟩
   have HNW:=zAd hnews;have HRA:=zAd hrowA;have HB2:=zAd hbl2;have HDU:=zAd hdu;clear hnews hrowA hbl2 hOw hdu;gi_wp2_with (gi_at_builtin;refine wpListIn_append_own _ rfl (.tmp 21) (.tmp 23) 210 rfl (w.heap.size+1+1+1) 220 i0 (.agg #[.int .u8 0,.int .u32 0,.int .u32 0,.int .u16 0,.int .u16 0,.int .i64 0,.int .i64 0,.int .i64 0]) 8 40 Tryz.underlying210 hi hz0 hz1 hz2 rfl (by decide) _ (duR now pre).length (rws (duR now pre)) rfl HRA.out ⟨W.heap.size,0,none⟩ 1 1 [Value.int .u8 x.p,.int .u32 x.s,.int .u32 x.d,.int .u16 x.a,.int .u16 x.b,.int .i64 x.id,.int .i64 x.till,.int .i64 x.turn] rfl rfl HNW.out (by intro u hu;simp at hu;rcases hu with rfl|rfl|rfl|rfl|rfl|rfl|rfl|rfl<;>rfl) (by simp only[maxLen];omega) (by omega) (by simp;omega) ?_;intro v2 W2 hrow2 hg2 hnn;obtain⟨g2,cp2,rfl⟩:=ownsRow_succ hrow2;have hob2:=(hg2.block (w.heap.size+1) (by simp;omega) (fun e=>by obtain⟨_,_,h⟩:=HB2.out _ e.symm;omega)).trans ((Below.heap_alloc W _ (w.heap.size+1) hobl).trans hob);have Kv2:=zAa hob2;have Fv2:=zAc hob2)
   have hkeep:∀i o,W.heap[i]? =some o→some i≠(Value.slice sa (duR now pre).length cap).ownBlock→i≠w.heap.size+1→(W2.setCell ⟨w.heap.size+1,0,none⟩ (.slice (some ⟨g2,0,none⟩) ((duR now pre).length+1) cp2)).heap[i]? =some o:=fun i o hi h1 h2=>
    zS9 ((hg2.block i (by have:=(eS hi);simp;omega) h1).trans ((Below.heap_alloc W _ i (eS hi)).trans hi)) h2
   have hsz2:W.heap.size+1≤W2.heap.size:=by have:=hg2.size;simpa using this
   have hown2:(W2.setCell ⟨w.heap.size+1,0,none⟩ (.slice (some ⟨g2,0,none⟩) ((duR now pre).length+1) cp2)).ownsRow (w.heap.size+1+1+1) 220 8 (.slice (some ⟨g2,0,none⟩) ((duR now pre).length+1) cp2) ((duR now pre).length+1) (rws (duR now pre)++rwc x):=by
    refine⟨hrow2.1,hrow2.2.imp id ?_⟩;rintro⟨g,cp,cur,e1,e2,e3,r⟩;exact⟨g,cp,cur,e1,e2,zS9 e3 (by omega),r⟩
   have hbn:Below w.heap.size W (W2.setCell ⟨w.heap.size+1,0,none⟩ (.slice (some ⟨g2,0,none⟩) ((duR now pre).length+1) cp2)):=⟨hg2.os,hg2.tape,hg2.output,by simp;omega,fun i hi=>by
    cases hh:W.heap[i]? with
    |none=>have:=Array.getElem?_eq_none_iff.1 hh;omega
    |some o=>exact hkeep i o hh (fun e=>by obtain⟨_,_,h⟩:=HB2.out _ e.symm;omega) (by omega)⟩
   refine⟨⟨by simp;omega,fun i o hi ho hc=>hkeep i o ho (fun e=> ?_) (by omega)⟩,hbn,⟨⟨.slice (some ⟨g2,0,none⟩) ((duR now pre).length+1) cp2,zAh hob2 0 _,?_⟩,?_⟩,hbW.trans hbn⟩
   ·obtain ⟨c2,h2,_⟩:=HB2.out i e.symm
    rw[Below.heap_alloc W _ i (eS ho),ho]at h2;cases h2
    cases hc
   ·rw[HDU.out,List.length_append,List.length_singleton,rws_snoc]
    exact hown2
   ·exact hkeep _ _ hr0 (fun e=>by obtain⟨_,_,h⟩:=HB2.out _ e.symm;omega) (by omega)
  ·have hdu:=duR_no (l:=pre) htl
   have HDU:=zAd hdu;clear hdu;gi_wp2
   exact⟨KeepsFrom.refl _ _,Below.refl _ _,⟨⟨v,hob,by rw[HDU.out];exact hOw⟩,hr0⟩,hbW⟩
 case done=>
  rintro D xs W hD rfl ⟨⟨⟨v,h1,h2⟩,h3⟩,hbW⟩ hK;obtain⟨hl',hS⟩:=hS;have hbsz:=hbW.size;have K1:=zAa h1;have hdl:(duR now (zE5 ls)).length≤5000:=Nat.le_trans (zHr now _) hal;obtain⟨sa,cap,rfl,hcp,hcm⟩:=(zDd h2).slice;have HSO:=zAd (hS _ _ W h2)
  have hnb:∀i o,W.heap[i]? =some o→(o.isCells=false∨i<w.heap.size+1+1+1)→(Value.slice sa (duR now (zE5 ls)).length cap).ownBlock≠some i:=fun i o ho hh e=>by
   rcases h2.2 with⟨e2,_⟩|⟨g,cp,cur,e2,hg,hgh,_⟩
   ·rw[e2]at e;cases e
   ·rw[e2]at e
    have e3:g=i:=by simpa[Value.ownBlock]using e
    subst e3;rcases hh with hh|hh
    ·rw[hgh]at ho;cases ho;cases hh
    ·omega
  generalize (duR now (zE5 ls)).length=N at*;subst hl';gi_wp2
  refine⟨trivial,?_⟩;refine(callsIn_wide.2 HSO.out).mono ?_;rintro e W1 ⟨⟨u,rfl⟩,hr1,hbt1⟩;have h11:=(hbt1.block _ (eS h1) (hnb _ _ h1 (.inr (by omega)))).trans h1;have hD1:=(hbt1.block _ (eS hK) (hnb _ _ hK (.inl rfl))).trans hK
  have hb1:Below w.heap.size w W1:=hbW.trans (hbt1.below hbsz (fun k h e=>by
   rcases h2.2 with⟨e2,_⟩|⟨g,cp,cur,e2,hg,hgh,_⟩
   ·rw[e2]at e;cases e
   ·rw[e2]at e
    have e3:g=k:=by simpa[Value.ownBlock]using e
    omega))
  clear HSO h1 h2 hK hnb h3 K1 hbt1 hS;have K1:=zAa h11;gi_wp2
  obtain⟨i0,hi,hz0,hz1,hz2⟩:=info_parts zTa
  have hmk:(Instr.makeSlice 128 (.int .i64 (l'.length:Int)) (.int .i64 (l'.length:Int))).run Tryz.prog W1= .ok (.slice (some ⟨W1.heap.size,0,none⟩) l'.length l'.length) (W1.alloc (.cells (madeCells (Value.agg #[.int .u8 0,.int .u32 0,.int .u32 0,.int .u16 0,.int .u16 0]).cells (l'.length*5)) 103)):=by
   have:=run_make (P:=Tryz.prog) W1 128 103 i0 _ Tryz.underlying128 hi hz0 .i64 .i64 (l'.length:Int) (l'.length:Int) (by omega) (by omega) (by rw[hz2];omega) (by omega);rw[hz1]at this;simpa using this
  have hsz:(madeCells (Value.agg #[.int .u8 0,.int .u32 0,.int .u32 0,.int .u16 0,.int .u16 0]).cells (l'.length*5)).size=l'.length*5:=size_madeCells _ _;rw[hmk];clear hmk;generalize madeCells (Value.agg #[.int .u8 0,.int .u32 0,.int .u32 0,.int .u16 0,.int .u16 0]).cells (l'.length*5)=mk at*;have la:Later W1 (W1.alloc (.cells mk 103)):=bA _ _;have hgk:=heap_alloc_new W1 (.cells mk 103);have hV1:=zAb la h11;have hVD:=zAb la hD1;have hVr:=zCu hr1 la;have hbV:Below w.heap.size w (W1.alloc (.cells mk 103)):=hb1.trans (la.mono hb1.size);have hgsz:=hb1.size;clear h11 hD1 hr1 hb1 K1;generalize hgke:W1.heap.size=gk at*;generalize W1.alloc (.cells mk 103)=V at*;clear hgke la;have K1:=zAa hV1;gi_wp2
  clear K1;gi_loopw [32] (fun i wx=>∃k:Nat,k≤l'.length∧i= .int .i64 (k:Int)∧But (fun g=>g=gk) V wx∧∃rest:List Value,rest.length=(l'.length-k)*5∧wx.heap[gk]? =some (.cells (rks (l'.take k)++rest).toArray 103 (0,0))) (fun i _=>l'.length-(intOf i).toNat)
  case atStart=>exact⟨0,by omega,rfl,But.refl _ _,mk.toList,by simpa using hsz,by simpa[rks]using hgk⟩
  case round=>
   obtain⟨k,hk,rfl,hbk,rest,hrl,hgw⟩:=hrel;by_cases hkl:k<l'.length
   ·have hRw:RdR wr.heap.size wr (.slice sa l'.length cap) l':=by
     refine zDd (base:=w.heap.size+1+1+1) ⟨hVr.1,hVr.2.imp id ?_⟩;rintro⟨g,cp,cur,e1,e2,e3,r⟩;exact⟨g,cp,cur,e1,e2,(hbk.block g (eS e3) (fun e=>by rw[e,hgk]at e3;cases e3)).trans e3,r⟩
    obtain⟨g,off,cp,e,_,_,hgn,hcs⟩:=hRw.cells (by omega)
    simp at e
    obtain⟨rfl,rfl⟩:=e;have c0:=hcs k hkl 0 (by omega);have c1:=hcs k hkl 1 (by omega);have c2:=hcs k hkl 2 (by omega);have c3:=hcs k hkl 3 (by omega);have c4:=hcs k hkl 4 (by omega);have c5:=hcs k hkl 5 (by omega);have c6:=hcs k hkl 6 (by omega);have c7:=hcs k hkl 7 (by omega);have hkl':(k:Int)<l'.length:=by omega
    have htk:rks (l'.take (k+1))=rks (l'.take k)++rwk l'[k]:=by rw[←List.take_append_getElem hkl,rks_snoc]
    have hrk:(rks (l'.take k)).length=k*5:=by rw[zQz,List.length_take,Nat.min_eq_left hk]
    obtain⟨r0,r1,r2,r3,r4,rest',rfl⟩:∃r0 r1 r2 r3 r4 rest',rest=r0::r1::r2::r3::r4::rest':=by
     have h5:5≤rest.length:=by rw[hrl];omega
     match rest,h5 with
     |r0::r1::r2::r3::r4::rest',_=>exact⟨_,_,_,_,_,_,rfl⟩
    have hk5:∀j,wr.cell? ⟨gk,k*5+j,none⟩=(r0::r1::r2::r3::r4::rest')[j]? :=fun j=>by
     rw[zAa hgw,List.getElem?_toArray,List.getElem?_append_right (by omega),hrk,Nat.add_sub_cancel_left]
    have d0:=hk5 0;have d1:=hk5 1;have d2:=hk5 2;have d3:=hk5 3;have d4:=hk5 4;have Fg:=zAc hgw;have hgl:gk<wr.heap.size:=(eS hgw);clear hcs hk5;generalize hgo:l'[k]=r at*
    have hpt:(zAi wr gk (k*5) (rwk r)).heap[gk]? =some (.cells (rks (l'.take k)++(rwk r++rest')).toArray 103 (0,0)):=by
     have:=zHs (rwk r) (rks (l'.take k)) [r0,r1,r2,r3,r4] rest' wr hgw rfl;rw[hrk]at this;exact this
    have hpb:But (fun g=>g=gk) V (zAi wr gk (k*5) (rwk r)):=zAf (E:=fun g=>g=gk) rfl _ _ _ _ hbk;have HPT:=zAd hpt;have HPB:=zAd hpb;clear hpt hpb;have HTK:=zAd htk;have HRK:=zAd hrk;have HRL:=zAd hrl;clear hgo htk hrk hrl;simp only[rwc,List.getElem?_cons_zero,List.getElem?_cons_succ,Nat.add_zero]at c0 c1 c2 c3 c4 c5 c6 c7 d0 d1 d2 d3 d4;gi_wp2
    go_roundw
    case rel=>
     refine⟨k+1,by omega,by go_num,(show But _ V (zAi wr gk (k*5) (rwk r))from HPB.out).trans (But.of (bA _ _)),rest',?_,?_⟩
     ·have:=HRL.out
      simp at this
      omega
     ·rw[HTK.out,List.append_assoc]
      exact(Below.heap_alloc (zAi wr gk (k*5) (rwk r)) _ gk (eS HPT.out)).trans HPT.out
    case measure=>simp[intOf];omega
   ·obtain rfl:k=l'.length:=by omega
    have hrD:wr.heap[D]? =some (.deferred (some [])):=(hbk.block D (eS hVD) (fun e=>by rw[e,hgk]at hVD;cases hVD)).trans hVD;obtain rfl:rest=[]:=List.length_eq_zero_iff.1 (by rw[hrl];simp);rw[List.take_length,List.append_nil]at hgw;have hbw:Below w.heap.size w wr:=hbV.trans (hbk.below hbV.size (fun k h e=>by omega));gi_wp2
    refine⟨by simp,.inl ⟨_,_,rfl,run_takeDeferred hrD,?_⟩⟩;exact⟨.slice (some ⟨gk,0,none⟩) l'.length l'.length,by simp[results,Tryz.results48,go_sem],hbw.trans (belowK_b (w:=w) (Nat.le_refl _) wr D _ _ (by omega) hrD rfl rfl),gk,rfl,by omega,(CTy.put (o':= .deferred none) hrD rfl).2 _ _ hgw rfl⟩
 case stop=>
  rintro D pre W hD hSp hF hK;exact hF.elim
def zAp (zs:List Int) (p:Int):Int:=if 0≤p∧p+2≤zs.length then wat zs p.toNat else 0
end Go.Proofs.YteaeilghamjjkaaGreatDoor
