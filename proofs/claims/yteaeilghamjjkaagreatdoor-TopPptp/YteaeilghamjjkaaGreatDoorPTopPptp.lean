import Derived.Test.YteaeilghamjjkaaGreatDoorTe
import Derived.Test.YteaeilghamjjkaaGreatDoorOp2
import Derived.Test.YteaeilghamjjkaaGreatDoorPFaTP
import Derived.Test.YteaeilghamjjkaaGreatDoorPFbTP
import Derived.Test.YteaeilghamjjkaaGreatDoorPFcTP
import Derived.Test.YteaeilghamjjkaaGreatDoorPFdTP
import Derived.Test.YteaeilghamjjkaaGreatDoorPFeTP
import Derived.Test.YteaeilghamjjkaaGreatDoorPFfTP
import Derived.Test.YteaeilghamjjkaaGreatDoorPFgTP
import Derived.Test.YteaeilghamjjkaaGreatDoorPFhTP
import Derived.Test.YteaeilghamjjkaaGreatDoorPFiTP
import Derived.Test.YteaeilghamjjkaaGreatDoorPFjTP
import Derived.Test.YteaeilghamjjkaaGreatDoorPFkTP
import Derived.Test.YteaeilghamjjkaaGreatDoorPvr
import Derived.ShutString
import Derived.ChangeOld
import Derived.Below
namespace Go.Proofs.YteaeilghamjjkaaGreatDoor.topPptp
open Go.ChangeShapes Go.WideShapes Go.ChangeAt Go.RowKit
set_option maxRecDepth 100000
set_option linter.unusedVariables false
set_option linter.unusedSimpArgs false
theorem own:ownKnob Tryz.prog.godebug=none:=by kernel_rfl
theorem laidOut:laidOutB Tryz.prog=true:=by kernel_rfl
theorem contract(H:Type)(enc:TypeId × Value→H)(W:World)(base:Nat)(args:Array Value)(ds gs:List (DataW H))(before:List MemPlace)
  (hval0:∀(j:Nat) t v,Tryz.f4.params[j]? =some t→args[j]? =some v→Value.okWide Tryz.prog W .any base t v)
  (hW:DataW.Whole enc Tryz.prog Tryz.f4.params.toList Rows.topPptpSpec.vars false W args.toList ds gs before)(hL:laidMetH Tryz.prog Rows.topPptpRow.laid W)
  (hsz0:(DataW.weightsEach Tryz.prog (Tryz.f4.params.toList++Rows.topPptpSpec.plain.varTypes Tryz.prog) (ds++gs)).all (· ≤reachBytes)=true):
  Calls Tryz.prog 4 args W fun e W'=>∃v,e= .returned v∧Rows.topPptpSpec.post enc Tryz.prog Tryz.f4 false true false false W args v W':=by
 have hT:Tb W:=zLw hL;have hz:Dz W:=zLx hL;have hval:∀(j:Nat) t v,Tryz.f4.params[j]? =some t→args[j]? =some v→Value.okWide Tryz.prog W .any base t v:=hval0;have hW':=hW;obtain⟨p,q,hA0,hV,rfl,hfz,hnd⟩:=hW;have hA:DataW.TrodAll enc Tryz.prog W 0 (fun _=>true) true Tryz.f4.params.toList args.toList ds p:=hA0;have hsz:=hsz0;rw[Tryz.params4]at hA hval hsz;obtain⟨v0,vs0,d0,ds0,p0,q0,hargs,rfl,rfl,h0,r0⟩:=trodAll_cons hA;obtain⟨v1,vs1,d1,ds1,p1,q1,rfl,rfl,rfl,h1,r1⟩:=trodAll_cons r0;obtain⟨rfl,rfl,rfl⟩:=trodAll_nil r1;obtain rfl:args=#[v0,v1]:=by cases args;simp_all
 obtain⟨rfl,rfl⟩:=trodVars_none hV;obtain⟨a0,rfl,rfl,rfl,w0⟩:=open_int Tryz.underlying22 (hval 0 22 v0 rfl rfl) h0;have b0:0≤a0∧a0≤65535:=by simpa[Lit.wf,IntKind.min,IntKind.max,IntKind.signed,IntKind.bits]using w0
 obtain⟨a1,rfl,rfl,rfl,w1⟩:=open_int Tryz.underlying22 (hval 1 22 v1 rfl rfl) h1;have b1:0≤a1∧a1≤65535:=by simpa[Lit.wf,IntKind.min,IntKind.max,IntKind.signed,IntKind.bits]using w1
 clear hA0 hval0;refine(zJl W hT hz a0 b0 a1 b1).mono fun e W' ⟨he,bel⟩=> ?_;subst he;exact⟨_,rfl,_,_,_,[],_,[],hW',trodAll_mk1 (shut_bool Tryz.underlying4 _),(trodAll_cons_mk (shut_int Tryz.underlying22 w0) (trodAll_cons_mk (shut_int Tryz.underlying22 w1) trodAll_mk0)),rfl,bel.frame _,fun h=>by cases h⟩
theorem reads(os:Os) {H:Type} (enc:TypeId × Value→H):∃places,DataW.whole enc Tryz.prog ((zEk os).forCall (fun _ _=>0) ⟨#[],#[.int .u16 0,.int .u16 0],[]⟩).memory Tryz.f4.params.toList Rows.topPptpSpec.vars false #[(.int .u16 0:Value),.int .u16 0].toList 8=some ([.lit (.int .u16 0),.lit (.int .u16 0)],[],places):=
 ⟨[],by kernel_rfl⟩
set_option maxRecDepth 100000 in
set_option maxHeartbeats 2000000 in
theorem lifted(os:Os)(started:os.Started)(H:Type)(enc:TypeId × Value→H)(F:Stop.Interp):
  ReturnsInHanded {} Tryz.checked os 4 .any ((OpenSpec.ofChange Rows.topPptpSpec).preRow enc Tryz.prog Tryz.f4 Rows.topPptpRow.domain false Rows.topPptpRow.laid) (((OpenSpec.ofChange Rows.topPptpSpec).at F).post enc Tryz.prog Tryz.f4 false true false false):=by
 obtain⟨places,hx⟩:=reads os enc
 refine returnsInHanded_of_row (C:=Tryz.checked) (s:=OpenSpec.ofChange Rows.topPptpSpec) own started (by kernel_rfl) Tryz.func4
  (witness_row_at (enc:=enc) (C:=Tryz.checked) false (zEk os) #[.int .u16 0,.int .u16 0] rfl (by kernel_rfl) (by kernel_rfl) (by kernel_rfl)
   (OpenSpec.preRow_of_cond 8 hx (by kernel_rfl) (fun k hk=>by cases hk) (by kernel_rfl) (zR4 os _))) ?_
 intro W base args ds gs before hval hW _ hcond hsz hL _ _
 exact contract H enc W base args ds gs before hval hW hL hsz
theorem b2 {a b:Bool} (h1:a=true)(h2:b=true):(a && b)=true:=by rw[h1,h2];rfl
theorem closed:joinedFacts Tryz.pinned.checked.prog 4 Tryz.f4 (OpenSpec.ofChange Rows.topPptpSpec).bare Rows.topPptpRow=true:=by
 unfold joinedFacts;exact b2 (b2 (b2 (b2 (b2 (b2 (b2 (b2 (b2 (b2 (b2 (b2 (b2 (b2 (b2 (b2 (b2 (b2 (b2 (b2 (b2 (b2 (b2 (b2 (b2 (b2 (b2 (b2 (b2 (b2 (b2 zL2 zL3) zL4) zL5) zL6) zL7) zL8) zL9) zMa) zL1) zJm) zJn) zJo) zJp) zJq) zJr) zJs) zJt) zJu) zJv) zJw) zJx) zJy) zJz) zJ0) zJ1) zJ2) zJ3) zJ4) zJ5) zJ6) zJ7
set_option maxHeartbeats 2000000 in
theorem said:Rows.TopPptpSaid:=
 OpenClaim.holds_of_cond 4 Tryz.f4 rfl rfl rfl rfl rfl rfl rfl ⟨rfl,rfl,rfl,rfl,rfl⟩ rfl rfl rfl rfl rfl zD5 Tryz.func4 closed
  zJ9 (by unfold Func.isWrapper;first|(rw[if_pos (by decide+kernel)];kernel_rfl)|(rw[if_neg (by decide+kernel)];exact⟨rfl,rfl⟩))
  (fun os started H enc _ F=>by rw[OpenClaim.pre_eq_preRow];exact lifted os started H enc F)
theorem plain(f:FuncId)(fn:Func)(hf:Tryz.pinned.checked.prog.funcNamed "lychgate/lychgatetop.TopPptp" =some f)(hfn:Tryz.pinned.checked.prog.funcs[f]? =some fn):
  true=Tryz.pinned.checked.prog.looks []∧∀(j:Nat) t,fn.params[j]? =some t→Tryz.pinned.checked.prog.wantsStandIn t=false:=by
 obtain rfl:f=4:=Option.some.inj (zD5.symm.trans hf)|>.symm
 obtain rfl:fn=Tryz.f4:=(Option.some.inj (Tryz.func4.symm.trans hfn)).symm;refine⟨zHu,fun j t ht=> ?_⟩;rw[Tryz.params4]at ht;have hm:t∈ [22,22]:=by simpa using Array.mem_of_getElem? ht
 have hall:([22,22].all fun t=>Tryz.prog.wantsStandIn t==false)=true:=by kernel_rfl
 exact(show Tryz.prog.wantsStandIn t=false by simpa using List.all_eq_true.1 hall t hm)
theorem card:Rows.TopPptpCardSaid:=
 Claim7.holds_tied_plain_at .later [] _ _ _ _ said (fun _ h=>by cases h) zKa (fun _ h=>by cases h) topPptp_row_tie rfl ⟨rfl,rfl⟩ zKb rfl plain zJ8
end Go.Proofs.YteaeilghamjjkaaGreatDoor.topPptp
namespace Go.Proofs.YteaeilghamjjkaaGreatDoor
theorem proved_TopPptp:Rows.TopPptpCardSaid:=topPptp.card
#print axioms proved_TopPptp
end Go.Proofs.YteaeilghamjjkaaGreatDoor
