namespace Go.Proofs.YteaeilghamjjkaaGreatDoor
theorem eS {α:Type} {a:Array α} {i:Nat} {v:α} (h:a[i]? =some v):i<a.size:=(Array.getElem?_eq_some_iff.1 h).1
theorem bA(w:World)(b:Obj):RowKit.Below w.heap.size w (w.alloc b):=(RowKit.Below.refl _ _).alloc (Nat.le_refl _) _
end Go.Proofs.YteaeilghamjjkaaGreatDoor
namespace Go.Proofs.YteaeilghamjjkaaGreatDoor.Mt
set_option maxRecDepth 100000
def tw:Bool→List Int→Int
 |_,[]=>0
 |true,a::r=>a*256+tw false r
 |false,a::r=>a+tw true r
def fd (n:Int):Int:=if n≤0 then 0 else(n-1) % 65535+1
def cks (zs:List Int):Int:=65535-fd (tw true zs)
def By (zs:List Int):Prop:=∀z∈zs,0≤z∧z≤255
theorem By.nil:By []:=fun _ h=>by cases h
theorem By.cons {a:Int} {r:List Int} (h:By (a::r)):(0≤a∧a≤255)∧By r:=⟨h a (by simp),fun z hz=>h z (by simp[hz])⟩
theorem By.mk {a:Int} {r:List Int} (ha:0≤a∧a≤255)(h:By r):By (a::r):=fun z hz=>by
 rcases List.mem_cons.1 hz with rfl|hz
 ·exact ha
 ·exact h z hz
theorem By.append {a b:List Int} (ha:By a)(hb:By b):By (a++b):=fun z hz=>(List.mem_append.1 hz).elim (ha z) (hb z)
theorem By.take {a:List Int} (ha:By a)(k:Nat):By (a.take k):=fun z hz=>ha z (List.mem_of_mem_take hz)
theorem By.drop {a:List Int} (ha:By a)(k:Nat):By (a.drop k):=fun z hz=>ha z (List.mem_of_mem_drop hz)
theorem By.set {a:List Int} (ha:By a)(k:Nat) {v:Int} (hv:0≤v∧v≤255):By (a.set k v):=fun z hz=>by
 rcases List.mem_or_eq_of_mem_set hz with h|rfl
 ·exact ha z h
 ·exact hv
theorem By.at {a:List Int} (ha:By a)(k:Nat):0≤a[k]?.getD 0∧a[k]?.getD 0≤255:=by
 by_cases h:k<a.length
 ·have:=ha a[k] (List.getElem_mem h)
  simpa[h]using this
 ·simp[h]
theorem fd_bd(n:Int):0≤fd n∧fd n≤65535:=by unfold fd;split<;>omega
theorem fd_low(n:Int)(h0:0≤n)(h:n≤65535):fd n=n:=by unfold fd;split<;>omega
theorem fd_step(n:Int)(h0:0≤n):fd (n/65536+n % 65536)=fd n:=by unfold fd;split<;>split<;>omega
theorem fd_good(n:Int)(h0:0≤n):fd (n+(65535-fd n))=65535:=by unfold fd;split<;>split<;>omega
theorem fd_eq(n:Int)(h:fd n=65535):0<n∧n % 65535=0:=by unfold fd at h;split at h<;>omega
theorem fd_of(n:Int)(h:0<n)(h2:n % 65535=0):fd n=65535:=by unfold fd;split<;>omega
theorem tw_nonneg:∀(h:Bool) (zs:List Int),By zs→0≤tw h zs
 |_,[],_=>by simp[tw]
 |true,a::r,hb=>by have:=tw_nonneg false r hb.cons.2;have:=hb.cons.1;simp only[tw];omega
 |false,a::r,hb=>by have:=tw_nonneg true r hb.cons.2;have:=hb.cons.1;simp only[tw];omega
def turn (h:Bool) (n:Nat):Bool:=if n % 2=0 then h else !h
theorem zEd(h:Bool)(n:Nat):turn (!h) n=turn h (n+1):=by
 unfold turn;by_cases h1:n % 2=0
 ·rw[if_pos h1,if_neg (by omega)]
 ·rw[if_neg h1,if_pos (by omega),Bool.not_not]
theorem tw_append:∀(h:Bool) (a b:List Int),tw h (a++b)=tw h a+tw (turn h a.length) b
 |h,[],b=>by simp[tw,turn]
 |true,x::r,b=>by
  have:=tw_append false r b;rw[show false= !true from rfl,zEd]at this;simp only[List.cons_append,tw,List.length_cons];rw[←show(!true)=false from rfl]at*;omega
 |false,x::r,b=>by
  have:=tw_append true r b;rw[show true= !false from rfl,zEd]at this;simp only[List.cons_append,tw,List.length_cons];rw[←show(!false)=true from rfl]at*;omega
theorem zOq:∀(h:Bool) (zs:List Int) (k:Nat) (v:Int),k<zs.length→tw h (zs.set k v)=tw h zs+(v-zs[k]?.getD 0)*(if turn h k then 256 else 1)
 |h,[],k,v,hk=>by simp at hk
 |true,a::r,0,v,_=>by simp[tw,turn];omega
 |false,a::r,0,v,_=>by simp[tw,turn];omega
 |true,a::r,k+1,v,hk=>by
  have:=zOq false r k v (by simpa using hk);rw[show turn false k=turn true (k+1)from zEd true k]at this;simp only[List.set_cons_succ,tw,List.getElem?_cons_succ];omega
 |false,a::r,k+1,v,hk=>by
  have:=zOq true r k v (by simpa using hk);rw[show turn true k=turn false (k+1)from zEd false k]at this;simp only[List.set_cons_succ,tw,List.getElem?_cons_succ];omega
theorem take_two(zs:List Int)(k:Nat)(h:k+1<zs.length):zs.take (k+2)=zs.take k++[zs[k]?.getD 0,zs[k+1]?.getD 0]:=by
 rw[List.take_succ_eq_append_getElem (i:=k+1) (by omega),List.take_succ_eq_append_getElem (i:=k) (by omega),List.append_assoc];simp[show k<zs.length by omega,h]
theorem take_one(zs:List Int)(k:Nat)(h:k<zs.length):zs.take (k+1)=zs.take k++[zs[k]?.getD 0]:=by
 rw[List.take_succ_eq_append_getElem (by omega)];simp[h]
theorem tw_two(zs:List Int)(k:Nat)(he:k % 2=0)(h:k+1<zs.length):tw true (zs.take (k+2))=tw true (zs.take k)+(zs[k]?.getD 0*256+zs[k+1]?.getD 0):=by
 rw[take_two zs k h,tw_append];have:(zs.take k).length=k:=by simp;omega
 rw[this];simp[turn,he,tw]
theorem tw_one(zs:List Int)(k:Nat)(he:k % 2=0)(h:k<zs.length):tw true (zs.take (k+1))=tw true (zs.take k)+zs[k]?.getD 0*256:=by
 rw[take_one zs k h,tw_append];have:(zs.take k).length=k:=by simp;omega
 rw[this];simp[turn,he,tw]
theorem cks_bd(zs:List Int):0≤cks zs∧cks zs≤65535:=by have:=fd_bd (tw true zs);unfold cks;omega
def put2 (zs:List Int) (k:Nat) (v:Int):List Int:=(zs.set k (v/256)).set (k+1) (v % 256)
theorem put2_length(zs:List Int)(k:Nat)(v:Int):(put2 zs k v).length=zs.length:=by simp[put2]
theorem By.put2 {zs:List Int} (h:By zs)(k:Nat) {v:Int} (hv:0≤v∧v≤65535):By (put2 zs k v):=(h.set k (by omega)).set (k+1) (by omega)
theorem put2_at(zs:List Int)(k:Nat)(v:Int)(h:k+1<zs.length):(put2 zs k v)[k]?.getD 0=v/256∧(put2 zs k v)[k+1]?.getD 0=v % 256:=by
 have hk:k<zs.length:=by omega
 simp[put2,h,hk]
theorem put2_other(zs:List Int)(k j:Nat)(v:Int)(h:j≠k)(h2:j≠k+1):(put2 zs k v)[j]? =zs[j]? :=by
 simp[put2,List.getElem?_set];rw[if_neg (by omega),if_neg (by omega)]
theorem tw_put2(zs:List Int)(k:Nat)(v:Int)(he:k % 2=0)(h:k+1<zs.length):tw true (put2 zs k v)=tw true zs+v-(zs[k]?.getD 0*256+zs[k+1]?.getD 0):=by
 have h1:=zOq true zs k (v/256) (by omega);have h2:=zOq true (zs.set k (v/256)) (k+1) (v % 256) (by simpa using h);have e1:turn true k=true:=by simp[turn,he]
 have e2:turn true (k+1)=false:=by simp[turn];omega
 have e3:(zs.set k (v/256))[k+1]? =zs[k+1]? :=by rw[List.getElem?_set,if_neg (by omega)]
 rw[e1]at h1;rw[e2,e3]at h2
 simp at h1 h2
 unfold put2;rw[h2,h1];omega
end Go.Proofs.YteaeilghamjjkaaGreatDoor.Mt
namespace Go.Proofs.YteaeilghamjjkaaGreatDoor
theorem bl9 {α:Type} {a:Array α} {i:Nat} {o:α} (h:a[i]? =some o):i<a.size:=(eS h)
end Go.Proofs.YteaeilghamjjkaaGreatDoor
