import Derived.Test.YteaeilghamjjkaaGreatDoorPvf
import Derived.Test.YteaeilghamjjkaaGreatDoorX4
namespace Go.Proofs.YteaeilghamjjkaaGreatDoor
open Go.RowKit Go.Shelf
set_option maxRecDepth 100000
set_option linter.unusedVariables false
set_option linter.unusedSimpArgs false
def frB (cl x:Int):List Int:=[32,1,136,11,0,1,cl/256,cl % 256,x]
theorem zR6(cl x:Int):frB cl x=grb cl false false 0 0 [x]:=by simp[frB,grb,zGg]
theorem zGy(cl x:Int)(h:0≤cl∧cl≤65535)(hx:0≤x∧x≤255):Mt.By (frB cl x):=by
 rw[zR6];exact By_grb cl false false 0 0 [x] h (by omega) (by omega) (fun z hz=>by rw[List.mem_singleton.1 hz];exact hx)
theorem zLz(cl x:Int):bgz (frB cl x)=0:=by
 show bgo 32 1 136 11=0
 decide
theorem frB_ok(cl x:Int):pge 47 (frB cl x)=0:=by
 have h4:wat (frB cl x) 4=1:=rfl;have hl:(frB cl x).length=9:=rfl;have hg:ghd 0=8:=rfl;unfold pge;rw[zLz,h4,hl,hg];decide
theorem zNh(cl x:Int)(h:0≤cl):zAl (frB cl x) 6=cl:=by simp[zAl,frB,wat];omega
theorem frB_rw(s d a b cl x:Int):rwD 47 s d a b (frB cl x)=frB b x:=rfl
def fgB (ttl src dst:Int) (z:List Int):List Int:=hdr 0 0 false ttl 47 src dst [] (20+([]:List Int).length+z.length)++z
structure FgF (ttl src dst:Int) (zs z:List Int):Prop where
 by_:Mt.By zs
 len:zs.length≤600
 rd:rde false zs=0
 i9:zs[9]?.getD 0=47
 i8:zs[8]?.getD 0=ttl
 i1:zs[1]?.getD 0=0
 w4:wat zs 4=0
 w6:decide (16384≤wat zs 6 % 32768)=false
 src:zAx zs 12=src
 dst:zAx zs 16=dst
 zo:((zs.take (hl4 zs).toNat).drop 20)=[]
 zd:((zs.take (ral false zs).toNat).drop (hl4 zs).toNat)=z
theorem zNi {ttl src dst:Int} {z:List Int} (hB:Mt.By z)(hz:z.length≤550)(htt:0≤ttl∧ttl≤255)(hsr:0≤src∧src≤4294967295)(hds:0≤dst∧dst≤4294967295):FgF ttl src dst (fgB ttl src dst z) z:=by
 have hBh:=(zMf 0 0 false ttl 47 src dst ([]:List Int).length (20+([]:List Int).length+z.length) 0 (by simp) (by omega) (by omega) htt (by omega) hsr hds (by simp;omega) (by omega)).append Mt.By.nil
 have hBy:Mt.By (fgB ttl src dst z):=by
  unfold fgB;rw[zB9];exact((zMf 0 0 false ttl 47 src dst ([]:List Int).length (20+([]:List Int).length+z.length) _ (by simp) (by omega) (by omega) htt (by omega) hsr hds (by simp;omega) (Mt.cks_bd _)).append Mt.By.nil).append hB
 have hr:=zIm 0 0 false ttl 47 src dst [] z [] (by simp) (by simp) (by simp;omega) hBh;rw[List.append_nil]at hr;have e3:=zK4 0 0 false ttl 47 src dst [] z (20+([]:List Int).length+z.length) (by simp) (by simp);have e2:=zG3 0 0 false ttl 47 src dst [] z (20+([]:List Int).length+z.length)
 have hral:ral false (fgB ttl src dst z)=((20+([]:List Int).length+z.length:Nat):Int):=by
  have q0:∀zs:List Int,ral false zs=wat zs 2:=fun zs=>by simp[ral]
  unfold fgB;rw[q0,e2];simp
 refine⟨hBy,by unfold fgB;rw[List.length_append,zE6];simp;omega,hr,hdr_9 _ _ _ _ _ _ _ _ _ _,hdr_8 _ _ _ _ _ _ _ _ _ _,hdr_1 _ _ _ _ _ _ _ _ _ _,zMg _ _ _ _ _ _ _ _ _ _,?_,zO8 _ _ _ _ _ _ _ _ _ _,zO9 _ _ _ _ _ _ _ _ _ _,?_,?_⟩
 ·unfold fgB
  rw[zG4];decide
 ·unfold fgB
  rw[e3,Int.toNat_natCast,zHe,zMv]
 ·rw[hral]
  unfold fgB;rw[e3,Int.toNat_natCast,Int.toNat_natCast];have q:=zIl 0 0 false ttl 47 src dst [] z (20+([]:List Int).length+z.length) [];rw[List.append_nil]at q;exact q
theorem zJh(ttl src dst:Int)(so sd:Value)(z:List Int)(w:World)(hB:Mt.By z)(hz:z.length≤550)(hIo:Rd w.heap.size w so [])(hId:Rd w.heap.size w sd z)(htt:0≤ttl∧ttl≤255)(hsr:0≤src∧src≤4294967295)(hds:0≤dst∧dst≤4294967295):
  Calls Tryz.prog 24 #[.agg #[.int .u8 0,.int .u16 0,.bool false,.int .u8 ttl,.int .u8 47,.int .u32 src,.int .u32 dst,so,sd]] w fun e w'=>Later w w'∧∃v,e= .returned (.tuple #[v,.int .i64 0])∧Ow w.heap.size w' v (fgB ttl src dst z):=by
 refine(zCg 0 0 ttl 47 src dst false so sd [] z w Mt.By.nil hIo hId (by simp) (by simp) (by simp;omega) (by omega) (by omega) htt (by omega) hsr hds).mono ?_;rintro e w' ⟨v,rfl,hO,hb⟩;exact⟨hb,v,rfl,hO⟩
theorem zJi(ttl src dst:Int)(sv:Value)(z:List Int)(w:World)(hB:Mt.By z)(hz:z.length≤550)(hI:Rd w.heap.size w sv (fgB ttl src dst z))(htt:0≤ttl∧ttl≤255)(hsr:0≤src∧src≤4294967295)(hds:0≤dst∧dst≤4294967295):
  Calls Tryz.prog 25 #[sv] w fun e w'=>Later w w'∧∃a7 c7 a8 l8 c8,e= .returned (.tuple #[.agg #[.int .u8 0,.int .u16 0,.bool false,.int .u8 ttl,.int .u8 47,.int .u32 src,.int .u32 dst,.slice a7 0 c7,.slice a8 l8 c8],.int .i64 0])∧Ow w.heap.size w' (.slice a7 0 c7) []∧Ow w.heap.size w' (.slice a8 l8 c8) z:=by
 have hF:=zNi hB hz htt hsr hds;refine(zFh sv _ w hF.by_ (by have:=hF.len;omega) hI).mono ?_;rintro e w' ⟨hb,⟨hx,_⟩|⟨_,so,sd,rfl,hO,hD⟩⟩
 ·exact absurd hF.rd hx
 rw[hF.zo]at hO;rw[hF.zd]at hD;obtain⟨ao,co,rfl,_,_⟩:=hO.slice;obtain⟨ad,cd,rfl,_,_⟩:=hD.slice;refine⟨hb,ao,co,ad,_,cd,?_,hO,hD⟩;unfold pkt;rw[hF.i1,hF.w4,hF.w6,hF.i8,hF.i9,hF.src,hF.dst];rfl
end Go.Proofs.YteaeilghamjjkaaGreatDoor
