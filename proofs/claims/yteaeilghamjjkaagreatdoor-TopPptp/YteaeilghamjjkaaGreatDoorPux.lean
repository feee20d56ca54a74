import Derived.Test.YteaeilghamjjkaaGreatDoorX2
namespace Go.Proofs.YteaeilghamjjkaaGreatDoor
open Go.RowKit Go.Shelf
set_option maxRecDepth 100000
set_option linter.unusedVariables false
set_option linter.unusedSimpArgs false
theorem req1(base g:Nat)(f:Fl)(hb nn c:Nat)(ws:Nat→Nat)(now tr nw sq ak:Int)(zm z:List Int)(sb:Value)(w:World)(h:V1 base g w f hb nn 3 ws now tr)(hbs:base≤w.heap.size)(hT:TG 167772162 134744072 5555 1723 sq ak 16 zm z)(hl:zm.length≤500)(hBm:Mt.By zm)(hsq:0≤sq∧sq≤4294967295)(hak:0≤ak∧ak≤4294967295)(hok:lye zm=0)(h7:pmT zm=7)(hcc:zAl zm (lyC zm)=(c:Int))(hc:c<65536)(hlp:(zAq zm (lyC zm) ((tkn 1000 1063 c:Nat):Int)).length=zm.length)(hBp:Mt.By (zAq zm (lyC zm) ((tkn 1000 1063 c:Nat):Int)))(nI:Nat)(hI:Ow nI w sb (tgB 64 167772162 134744072 z))(hnw:nw≤9)(htr:tr≤98)(hz:∀W,KG base w W→Tb W∧Dz W)(hgz:6≤w.heap.size):
  Calls Tryz.prog 7 #[.pointer (some ⟨g,0,none⟩),.int .i64 nw,.int .i64 0,sb] w fun e w'=>TpQ base w w' nw now (rP nn) (fun n v y W=>(∃f2,f2.blk=f.blk∧V2 base g W f2 hb nn c ws n (tr+1+1))∧TG 16909060 134744072 nn 1723 sq ak 16 (zAq zm (lyC zm) ((tkn 1000 1063 c:Nat):Int)) y) e:=by
 obtain⟨s,hG,hS,rfl,rfl⟩:=h.gf;have hn9:=hS.n9;have hqb:TuB (rP nn):=by unfold TuB rP;simp;omega
 have hfo:=hS.o;have hfr:=hS.r;have hsd0:=hS.sd
 have hqo:oth f false=rP nn:=by
  unfold oth;rw[hfr];rfl
 refine(zD2 base g s 0 nw false (rP nn) 167772162 134744072 5555 1723 sq ak 16 zm z sb (fun n v fb f2 hb2 W=>f2.blk=fb∧hb2=hb∧oth f2 false=rP nn∧f2.blk=f.blk∧V1 base g W f2 hb nn 3 ws n (s.trn+1+1)) (fun n v y W=>(∃f2,f2.blk=f.blk∧V2 base g W f2 hb nn c ws n (s.trn+1+1))∧TG 16909060 134744072 nn 1723 sq ak 16 (zAq zm (lyC zm) ((tkn 1000 1063 c:Nat):Int)) y) w hG hbs hT hl nI hI (by omega) (by omega) (.inl rfl) hqb rfl ⟨hS.now.1,by have:=hS.now.2;omega⟩ hS.ex (fun n hn=>hS.quiet n (by have:=hS.now.2;omega)) hS.all (fun W k=>(hz W k).1) ?hOW ?hOF ?hOL ?hCH ?hCS ?hCL ?hCT).mono (fun e w' h=>h)
 case hOW=>
  intro n v W so sd k hn hn1 hn2 hg hd
  have hS2:=hS.ltr n v ⟨hn.1,by have:=hS.now.2;omega⟩;obtain⟨kk,r,hk1,hk2,hk3⟩:=hS2.forth
  refine(zHp base g (ltr s n v) f false 0 0 64 167772162 134744072 false so sd 0 z 6 167772162 134744072 5555 1723 kk r W hg (by show f∈s.fs;rw[hS.fs];simp) (fun x hx y hy _=>by
   have hx':x∈s.fs:=hx;have hy':y∈s.fs:=hy;rw[hS.fs]at hx' hy';rw[List.mem_singleton.1 hx',List.mem_singleton.1 hy']) (fun x hx _=>by
   have hx':x∈s.fs:=hx;rw[hS.fs]at hx';exact List.mem_singleton.1 hx') hk1 hk2 hk3 (by omega) (by omega) (by omega) (by omega) (by rw[hfo];simp[oP]) hsd0 (.inr ⟨rfl,rfl⟩) (Nat.le_trans hbs k.size) (by rw[hfo];unfold TuB oP;simp) (by rw[hfr];exact hqb) ⟨hS.trn.1,by show s.trn≤999999;omega⟩ hn hT.by_ hd (by have:=hT.len;omega) (by omega) (by omega) hT.ok (by rw[hS2.st,hT.fl];decide)).mono ?_
  rintro e w2 ⟨rfl,k2,hg2⟩;have hnx:nx 3 false 16=3:=by decide
  rw[hS2.st,hT.fl,hnx]at hg2;obtain⟨q1,q2⟩:=hS2.become 3 (by show s.trn≤98;omega) (by decide);refine⟨f.at 3 ((ltr s n v).now+tm 6 3),hb,rfl,k2,rfl,rfl,hqo,rfl,⟨_,hg2,q1,rfl,q2⟩,h.hp,?_,?_,h.vb,h.nb⟩
  ·exact (k.trans k2).cells h.hn (by decide)
  ·exact HvP.kg (f:=f) h.hv (k.trans k2)
 case hOF=>
  rintro n v fb f2 hb2 W ⟨rfl,rfl,h3,h4,hv⟩;obtain⟨s2,hg2,hS2,_⟩:=hv.gf;exact⟨rfl,(hg2.fb f2 (by rw[hS2.fs];simp)).2,h3,hv.hp⟩
 case hOL=>
  rintro n v fb f2 hb2 A B ⟨h1,h2,h3,h4,hv⟩ l;exact⟨h1,h2,h3,h4,hv.later l⟩
 case hCH=>
  rintro n v fb f2 hb2 n1 W so sd ao co ad cd hw1 hw2 k ⟨rfl,rfl,h3,h4,hv⟩ ho hd;obtain⟨s2,hg2,hS2,rfl,htr2⟩:=hv.gf;rw[←htr2];refine(chg_req hT (rP nn) hqb hl hBm hsq hak (by omega) hok h7 g hb2 nn c hcc s2 f2 ws hlp hBp W 167772162 134744072 so sd false 6 167772162 134744072 5555 1723 6 _ _ _ _ ao ad co cd hg2 hS2 hv.hn hv.hv ⟨Nat.le_trans hbs hw1,hw2⟩ hv.nb hv.vb hc ho hd (fun V k2=>(hz V (k.trans k2)).2) (Nat.le_trans hgz k.size)).mono ?_;rintro e w2 ⟨a7,c7,a8,c8,z2,rfl,k2,hcg,hT2,hO2,hD2⟩;obtain⟨f3,hfb,hV2⟩:=V2.made hcg hS2 hv.hp hv.nb (fun p hp=>(hg2.pb p hp).lt);exact⟨z2,a7,c7,a8,c8,rfl,k2,hO2,hD2,⟨f3,hfb.trans h4,hV2⟩,hT2⟩
 case hCS=>
  rintro n v y A B k cur t fz ⟨⟨f3,e3,h5⟩,h6⟩ hk ht hB;exact⟨⟨f3,e3,h5.aside hk ht hB⟩,h6⟩
 case hCL=>
  rintro n v y W ⟨_,h6⟩;have:=h6.len;omega
 case hCT=>
  rintro n v y A B ⟨⟨f3,e3,h5⟩,h6⟩ l;exact⟨⟨f3,e3,h5.later l⟩,h6⟩
end Go.Proofs.YteaeilghamjjkaaGreatDoor
