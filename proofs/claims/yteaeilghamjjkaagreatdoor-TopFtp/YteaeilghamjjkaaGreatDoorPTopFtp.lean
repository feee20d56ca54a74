import Derived.Test.YteaeilghamjjkaaGreatDoorT6t
import Derived.Test.YteaeilghamjjkaaGreatDoorOp2
import Derived.Test.YteaeilghamjjkaaGreatDoorPFaFT
import Derived.Test.YteaeilghamjjkaaGreatDoorPFbFT
import Derived.Test.YteaeilghamjjkaaGreatDoorPFcFT
import Derived.Test.YteaeilghamjjkaaGreatDoorPFdFT
import Derived.Test.YteaeilghamjjkaaGreatDoorPFeFT
import Derived.Test.YteaeilghamjjkaaGreatDoorPFfFT
import Derived.Test.YteaeilghamjjkaaGreatDoorPFgFT
import Derived.Test.YteaeilghamjjkaaGreatDoorPFhFT
import Derived.Test.YteaeilghamjjkaaGreatDoorPFiFT
import Derived.Test.YteaeilghamjjkaaGreatDoorPFjFT
import Derived.Test.YteaeilghamjjkaaGreatDoorPFkFT
import Derived.Test.YteaeilghamjjkaaGreatDoorPxg
import Derived.ShutString
import Derived.ChangeOld
import Derived.Below
namespace Go.Proofs.YteaeilghamjjkaaGreatDoor.topFtp
open Go.ChangeShapes Go.WideShapes Go.ChangeAt Go.RowKit
set_option maxRecDepth 100000
set_option linter.unusedVariables false
set_option linter.unusedSimpArgs false
theorem own:ownKnob Tryz.prog.godebug=none:=by kernel_rfl
theorem laidOut:laidOutB Tryz.prog=true:=by kernel_rfl
theorem contract(H:Type)(enc:TypeId × Value→H)(W:World)(base:Nat)(args:Array Value)(ds gs:List (DataW H))(before:List MemPlace)
  (hval0:∀(j:Nat) t v,Tryz.f3.params[j]? =some t→args[j]? =some v→Value.okWide Tryz.prog W .any base t v)
  (hW:DataW.Whole enc Tryz.prog Tryz.f3.params.toList Rows.topFtpSpec.vars false W args.toList ds gs before)(hL:laidMetH Tryz.prog Rows.topFtpRow.laid W)(hSh:W.ShapedOpen Tryz.prog)
  (hsz0:(DataW.weightsEach Tryz.prog (Tryz.f3.params.toList++Rows.topFtpSpec.plain.varTypes Tryz.prog) (ds++gs)).all (· ≤reachBytes)=true):
  Calls Tryz.prog 3 args W fun e W'=>∃v,e= .returned v∧Rows.topFtpSpec.post enc Tryz.prog Tryz.f3 false true false false W args v W':=by
 obtain⟨hT0,hU⟩:=zJ3 hL;have hTX:TX W:=⟨zNx hL,zNy hL,⟨zFo hSh,hT0⟩,hU⟩;have hval:∀(j:Nat) t v,Tryz.f3.params[j]? =some t→args[j]? =some v→Value.okWide Tryz.prog W .any base t v:=hval0;have hW':=hW;obtain⟨p,q,hA0,hV,rfl,hfz,hnd⟩:=hW;have hA:DataW.TrodAll enc Tryz.prog W 0 (fun _=>true) true Tryz.f3.params.toList args.toList ds p:=hA0;have hsz:=hsz0;rw[Tryz.params3]at hA hval hsz;obtain⟨v0,vs0,d0,ds0,p0,q0,hargs,rfl,rfl,h0,r0⟩:=trodAll_cons hA;obtain⟨rfl,rfl,rfl⟩:=trodAll_nil r0;obtain rfl:args=#[v0]:=by cases args;simp_all
 obtain⟨rfl,rfl⟩:=trodVars_none hV;obtain⟨a0,rfl,rfl,rfl,w0⟩:=open_int Tryz.underlying22 (hval 0 22 v0 rfl rfl) h0;have b0:0≤a0∧a0≤65535:=by simpa[Lit.wf,IntKind.min,IntKind.max,IntKind.signed,IntKind.bits]using w0
 clear hA0 hval0;obtain⟨n0,rfl⟩:∃n:Nat,a0=(n:Int):=⟨a0.toNat,by omega⟩;refine(zNz W hTX n0 (by omega)).mono fun e W' ⟨he,bel⟩=> ?_;subst he;exact⟨_,rfl,_,_,_,[],_,[],hW',trodAll_mk1 (shut_bool Tryz.underlying4 _),(trodAll_cons_mk (shut_int Tryz.underlying22 w0) trodAll_mk0),rfl,bel.frame _,fun h=>by cases h⟩
theorem reads(os:Os) {H:Type} (enc:TypeId × Value→H):∃places,DataW.whole enc Tryz.prog ((zFf os).forCall (fun _ _=>0) ⟨#[],#[.int .u16 0],[]⟩).memory Tryz.f3.params.toList Rows.topFtpSpec.vars false #[(.int .u16 0:Value)].toList 8=some ([.lit (.int .u16 0)],[],places):=
 ⟨[],by kernel_rfl⟩
set_option maxRecDepth 100000 in
set_option maxHeartbeats 2000000 in
theorem lifted(os:Os)(started:os.Started)(H:Type)(enc:TypeId × Value→H)(F:Stop.Interp):
  ReturnsInHanded {} Tryz.checked os 3 .any ((OpenSpec.ofChange Rows.topFtpSpec).preRow enc Tryz.prog Tryz.f3 Rows.topFtpRow.domain false Rows.topFtpRow.laid) (((OpenSpec.ofChange Rows.topFtpSpec).at F).post enc Tryz.prog Tryz.f3 false true false false):=by
 obtain⟨places,hx⟩:=reads os enc
 refine returnsInHanded_of_row (C:=Tryz.checked) (s:=OpenSpec.ofChange Rows.topFtpSpec) own started (by kernel_rfl) Tryz.func3
  (witness_row_at (enc:=enc) (C:=Tryz.checked) false (zFf os) #[.int .u16 0] rfl (by kernel_rfl) (by kernel_rfl) (by kernel_rfl)
   (OpenSpec.preRow_of_cond 8 hx (by kernel_rfl) (fun k hk=>by cases hk) (by kernel_rfl) (zWq os _))) ?_
 intro W base args ds gs before hval hW _ hcond hsz hL hSh _
 exact contract H enc W base args ds gs before hval hW hL hSh hsz
theorem b2 {a b:Bool} (h1:a=true)(h2:b=true):(a && b)=true:=by rw[h1,h2];rfl
theorem closed:joinedFacts Tryz.pinned.checked.prog 3 Tryz.f3 (OpenSpec.ofChange Rows.topFtpSpec).bare Rows.topFtpRow=true:=by
 unfold joinedFacts;exact b2 (b2 (b2 (b2 (b2 (b2 (b2 (b2 (b2 (b2 (b2 (b2 (b2 (b2 (b2 (b2 (b2 (b2 (b2 (b2 (b2 (b2 (b2 (b2 (b2 (b2 (b2 (b2 (b2 (b2 (b2 zR3 zR4) zR5) zR6) zR7) zR8) zR9) zSa) zSb) zR2) zN0) zN1) zN2) zN3) zN4) zN5) zN6) zN7) zN8) zN9) zOa) zOb) zOc) zOd) zOe) zOf) zOg) zOh) zOi) zOj) zOk) zOl
set_option maxHeartbeats 2000000 in
theorem said:Rows.TopFtpSaid:=
 OpenClaim.holds_of_cond 3 Tryz.f3 rfl rfl rfl rfl rfl rfl rfl ⟨rfl,rfl,rfl,rfl,rfl⟩ rfl rfl rfl rfl rfl zFm Tryz.func3 closed
  zOn (by unfold Func.isWrapper;first|(rw[if_pos (by decide+kernel)];kernel_rfl)|(rw[if_neg (by decide+kernel)];exact⟨rfl,rfl⟩))
  (fun os started H enc _ F=>by rw[OpenClaim.pre_eq_preRow];exact lifted os started H enc F)
theorem plain(f:FuncId)(fn:Func)(hf:Tryz.pinned.checked.prog.funcNamed "lychgate/lychgatetop.TopFtp" =some f)(hfn:Tryz.pinned.checked.prog.funcs[f]? =some fn):
  true=Tryz.pinned.checked.prog.looks []∧∀(j:Nat) t,fn.params[j]? =some t→Tryz.pinned.checked.prog.wantsStandIn t=false:=by
 obtain rfl:f=3:=Option.some.inj (zFm.symm.trans hf)|>.symm
 obtain rfl:fn=Tryz.f3:=(Option.some.inj (Tryz.func3.symm.trans hfn)).symm;refine⟨zLv,fun j t ht=> ?_⟩;rw[Tryz.params3]at ht;have hm:t∈ [22]:=by simpa using Array.mem_of_getElem? ht
 have hall:([22].all fun t=>Tryz.prog.wantsStandIn t==false)=true:=by kernel_rfl
 exact(show Tryz.prog.wantsStandIn t=false by simpa using List.all_eq_true.1 hall t hm)
theorem card:Rows.TopFtpCardSaid:=
 Claim7.holds_tied_plain_at .later [] _ _ _ _ said (fun _ h=>by cases h) zOo (fun _ h=>by cases h) topFtp_row_tie rfl ⟨rfl,rfl⟩ zOp rfl plain zOm
end Go.Proofs.YteaeilghamjjkaaGreatDoor.topFtp
namespace Go.Proofs.YteaeilghamjjkaaGreatDoor
theorem proved_TopFtp:Rows.TopFtpCardSaid:=topFtp.card
#print axioms proved_TopFtp
end Go.Proofs.YteaeilghamjjkaaGreatDoor
