import Derived.Test.YtgaddpkkjebekaaGreatDoorZ02
import Derived.Test.YtgaddpkkjebekaaGreatDoorZ08
import Derived.Test.YtgaddpkkjebekaaGreatDoorZ06
import Derived.Lib.AppendStr
import Derived.Deep.RegionLaw
import Derived.Lib.SlBytesConst
import Derived.ArgAppend
import Derived.Laws.Bits64b
import Derived.Maps.AppendAt
import Derived.Lib.SliceRun
import Derived.Deep.RegionHeld3
set_option maxHeartbeats 100000000
set_option maxRecDepth 100000
namespace Go.Proofs.YtgaddpkkjebekaaGreatDoor
open Go.RowKit Go.Lib
def iC (l:List Sc) (n:Int):List Int:=match l[n.toNat]? with|some x=>x.name|none=>[]
def aN (l:List Sc) (k n:Int):List Int:=if k=1 then [32,105,110,116] else if k=2 then [32,102,108,111,97,116] else if k=3 then [32,42,32]++iC l n else if k=4 then [32,91,32,93,32,105,110,116] else if k=5 then [32,91,32,93,32,102,108,111,97,116] else if k=6 then [32,91,32,93,32,42,32]++iC l n else []
def opL (n:Int):List Int:=if n=0 then [43] else if n=1 then [45] else if n=2 then [42] else if n=3 then [47] else if n=4 then [37] else if n=5 then [60] else [61,61]
def hexD (d:Nat):Int:=if d<10 then 48+(d:Int) else 87+(d:Int)
def dD:Nat->Nat->List Int
 | 0,_=>[]
 | k+1,u=>dD k (u / 16)++[hexD (u % 16)]
def hexL (n:Int):List Int:=[48,102]++dD 16 (n % 18446744073709551616).toNat
def kM:List (List Int)->List Int
 | []=>[]
 | x::r=>[32,44]++x++kM r
def joinL:List (List Int)->List Int
 | []=>[]
 | x::r=>x++kM r
def dU (l:List (List Int)) (i:Nat):List Int:=l.getD i []
def nV (l:List Sc) (k tk tn:Int) (name:List Int):List Int:=if k=5 then [32,109,97,107,101]++aN l tk tn else if k=9 then [32,108,101,110] else if k=12 then [32,105,110,116] else if k=13 then [32,102,108,111,97,116] else 32::name
def exL (l:List Sc) (k n tk tn:Int) (name:List Int) (ts:List (List Int)):List Int :=
 if k=0 then 32::iI n else if k=1 then 32::hexL n else if k=2 then [32,110,105,108,32]++iC l n else if k=3 then 32::name else if k=4 then [32,110,101,119,32]++iC l n else if k=11 then [32,114,101,97,100]
 else if k=7 then dU ts 0++[32,46,32]++name else if k=8 then dU ts 0++[32,91]++dU ts 1++[32,93] else if k=10 then [32,40]++dU ts 0++(32::opL n)++dU ts 1++[32,41]
 else nV l k tk tn name++[32,40]++joinL ts++[32,41]
mutual
def Ex.say (l:List Sc):Ex->List Int
 | .mk k n tk tn name kids=>exL l k n tk tn name (Ex.says l kids)
def Ex.says (l:List Sc):List Ex->List (List Int)
 | []=>[]
 | x::r=>Ex.say l x::Ex.says l r
end
theorem Ex.kQ (l:List Sc) (xs:List Ex):(Ex.says l xs).length=xs.length:=by
 induction xs with
 | nil=>rw[Ex.says];rfl
 | cons x r ih=>rw[Ex.says,List.length_cons,List.length_cons,ih]
theorem Ex.vY (l:List Sc):∀ (xs:List Ex) (j:Nat) (h:j<xs.length),dU (Ex.says l xs) j=Ex.say l xs[j]
 | x::r,0,_=>by rw[Ex.says];rfl
 | x::r,j+1,h=>by rw[Ex.says];exact Ex.vY l r j (by simpa using h)
def bu (t:List Int):List Int:=[32,123,10]++t++[125]
def stL (l:List Sc) (k tk tn:Int) (name:List Int) (ts:List (List Int)) (b e:List Int):List Int :=
 if k=0 then [118,97,114,32]++name++aN l tk tn++[32,59,10] else if k=1 then (dU ts 0).drop 1++[32,61]++dU ts 1++[32,59,10]
 else if k=2 then [105,102]++dU ts 0++bu b++[32,101,108,115,101]++bu e++[10] else if k=3 then [102,111,114]++dU ts 0++bu b++[10]
 else if k=4 then [114,101,116,117,114,110]++dU ts 0++[32,59,10] else if k=5 then [112,114,105,110,116]++dU ts 0++[32,59,10] else if k=6 then [112,97,110,105,99]++dU ts 0++[32,59,10] else [100,111]++dU ts 0++[32,59,10]
mutual
def St.say (l:List Sc):St->List Int
 | .mk k _ tk tn name kids body els=>stL l k tk tn name (Ex.says l kids) (St.says l body) (St.says l els)
def St.says (l:List Sc):List St->List Int
 | []=>[]
 | x::r=>St.say l x++St.says l r
end
def paL (l:List Sc) (x:Pa):List Int:=x.name++aN l x.tk x.tn
def bi (l:List Sc):List Pa->List Int
 | []=>[]
 | x::r=>paL l x++[32,59,10]++bi l r
def scL (l:List Sc) (x:Sc):List Int:=[116,121,112,101,32]++x.name++[32,115,116,114,117,99,116,32,123,10]++bi l x.fields++[125,10]
def ji (l:List Sc):List Sc->List Int
 | []=>[]
 | x::r=>scL l x++ji l r
def fuL (l:List Sc) (x:Fu):List Int:=[102,117,110,99,32]++x.name++[32,40]++joinL (x.params.map fun p=>32::paL l p)++[32,41]++aN l x.rk x.rn++bu (St.says l x.body)++[10]
def jI (l:List Sc):List Fu->List Int
 | []=>[]
 | x::r=>fuL l x++jI l r
def So.text (x:So):List Int:=ji x.structs x.structs++jI x.structs x.funcs
def aV (b:List Int):Bool:=match b.getLast? with|some z=>!(z==10)|none=>false
def xP (b t:List Int):List Int:=b++(if aV b then 32::t else t)
theorem aT (b:List Int) {t:List Int}(h:aV t=true):aV (b++t)=true:=by
 unfold aV at h ⊢
 cases ht:t.getLast? with
 | none=>rw[ht]at h;exact absurd h (by simp)
 | some z=>rw[List.getLast?_append,ht];rw[ht]at h;exact h
theorem Og {b:List Int}(h:aV b=true) (t:List Int):xP b t=b++32::t:=by unfold xP;rw[if_pos h]
theorem ES {b:List Int}(h:aV b=false) (t:List Int):xP b t=b++t:=by unfold xP;rw[if_neg (by rw[h];exact Bool.false_ne_true)]
theorem nJ (b:List Int):aV (b++[10])=false:=by unfold aV;rw[List.getLast?_append];rfl
def K8 (A w:World):Prop:=A.heap.size<=w.heap.size/\∀ (k:Nat) (C:Array Value) (t:TypeId) (fz:Nat × Nat),A.heap[k]?=some (.cells C t fz)->t≠5->w.heap[k]?=A.heap[k]?
theorem lt_of_some {w:World}{k:Nat}{o:Obj}(h:w.heap[k]?=some o):k<w.heap.size:=by
 rcases Nat.lt_or_ge k w.heap.size with h'|h'
 ·exact h'
 ·rw[Array.getElem?_eq_none h']at h;cases h
theorem Later.k8 {a b:World}(h:Later a b):K8 a b:=⟨h.size,fun k _ _ _ hk _=>h.block k (lt_of_some hk)⟩
theorem K8.grown {w w':World}{base n:Nat}{v:Value}{xs:List Value}(o:w.ownsRow base 5 1 v n xs) (g:w.grownBy w' v.ownBlock):K8 w w':=⟨g.size,fun k C t fz hk ht=>g.block k (lt_of_some hk) (fun e=>by
 rcases o.2 with ⟨rfl,_⟩|⟨b,cap,cur,rfl,_,hb,_⟩
 ·cases e
 ·cases e
  rw[hk]at hb
  cases hb
  exact ht rfl)⟩
end Go.Proofs.YtgaddpkkjebekaaGreatDoor
namespace Go.Proofs.YtgaddpkkjebekaaGreatDoor
open Go.RowKit Go.Lib
end Go.Proofs.YtgaddpkkjebekaaGreatDoor
namespace Go.Proofs.YtgaddpkkjebekaaGreatDoor
open Go.RowKit Go.Lib
end Go.Proofs.YtgaddpkkjebekaaGreatDoor
namespace Go.Proofs.YtgaddpkkjebekaaGreatDoor
open Go.RowKit Go.Lib
theorem iK (k u:Nat):(dD k u).length=k:=by
 induction k generalizing u with
 | zero=>rfl
 | succ k ih=>rw[dD,List.length_append,ih];rfl
theorem Ba (n:Int):(hexL n).length=18:=by unfold hexL;rw[List.length_append,iK];rfl
def Enters (P:Program) (f:FuncId):Prop:=∀ (args:Array Value) (w:World),(callFunc f args).run P w=.ok (.enter f args) w
theorem enters_of {P:Program}{f:FuncId}{fn:Func}(hf:P.funcs[f]?=some fn) (hname:(fn.name== "runtime.NumGoroutine")=false) (hb:fn.body.isNone=false):Enters P f:=by
 intro args w
 have h1:¬ fn.name= "runtime.NumGoroutine":=by simpa using hname
 have h2:¬ fn.body=none:=by intro h;rw[h]at hb;cases hb
 simp[callFunc,hf,h1,h2]
theorem eG {P:Program}{ops:Array Oper}{o:Oper}{a:Act}{w:World}{K:Act->World->Prop}{Q:Exit->Act->World->Prop}{E:Prop}
  (hg:o.guard=none) (f:FuncId) (he:Enters P f) (xs:List Operand) (ts:Array TypeId) (hop:o.op=Op.call { callee:=Callee.value (Operand.func f),args:=xs.toArray,argTypes:=ts })
  (vs:List Value) (hv:xs.map a.eval=vs) (R:Value->World->Prop) (hc:Calls P f vs.toArray w fun e w'=>∃ v,e=.returned v/\R v w')
  (h:∀ v w',R v w'->K (a.put o.dst v) w') :
  if Region.wanted o (yielded ops a.tmps)=true then Oper.wp P o a w K Q else E:=by
 have hw:Region.wanted o (yielded ops a.tmps)=true:=by simp[Region.wanted,hg]
 rw[if_pos hw];unfold Oper.wp
 have hr:(execOp a.eval o).run P w=.ok (.enter f vs.toArray) w:=by
  subst hv;have h1:=he (xs.map a.eval).toArray w;simpa[execOp,hop,resolve,invoke,Act.eval,Deferred.ofValue] using h1
 rw[hr,Oper.upon_enter];refine hc.mono ?_;rintro e w' ⟨v,rfl,hR⟩;exact h v w' hR
def BxT (b:Nat) (w:World) (cs:List Value) (t:TypeId):Prop:=w.heap[b]?=some (.cells cs.toArray t)
theorem BxT.new (w:World) (cs:List Value) (t:TypeId):BxT w.heap.size (w.alloc (.cells cs.toArray t)) cs t:=by
 show (w.heap.push _)[w.heap.size]?=_;simp
theorem BxT.cell {b:Nat}{w:World}{cs:List Value}{t:TypeId}(h:BxT b w cs t) (i:Nat) (u:Value) (hu:cs[i]?=some u):w.cell? ⟨b,i,none⟩=some u:=by
 show (match w.heap[b]? with|some (.cells c _ _)=>c[i]?|_=>none)=some u;rw[h];show cs.toArray[i]?=some u;rw[List.getElem?_toArray];exact hu
theorem OU {W:World}{v:Value}{nm:List Int}(h:RdN W v nm) (h1:1<=nm.length):∃ g off q,v=.slice (some ⟨g,off,none⟩) nm.length q/\g<W.heap.size/\∀ w',Later W w'->∀ j u,(nm.map (Value.int .u8))[j]?=some u->w'.cell? ((⟨g,off,none⟩:Addr).add j)=some u:=by
 obtain⟨y,q,rfl,hyl,hyb,hyc⟩:=h.rd;obtain⟨g0,off0,rfl,hg0,_⟩:=hyc 0 (by omega);refine⟨g0,off0,q,rfl,hg0,fun w' hw j u hj=>?_⟩
 have hj':j<nm.length:=by
  rcases Nat.lt_or_ge j nm.length with h|h
  ·exact h
  ·rw[List.getElem?_eq_none (by simpa using h)]at hj;cases hj
 obtain⟨g',off',e,_,hv⟩:=hyc j hj'
 cases e
 rw[Addr.add_lit,hw.cell (p:=⟨g0,off0+j,none⟩) hg0,hv];rw[List.getElem?_map,List.getElem?_eq_getElem hj']at hj;rw[<-hj,List.getD_eq_getElem?_getD,List.getElem?_eq_getElem hj'];rfl
theorem Lt {w:World}{base:Nat}{v:Value}{zs:List Int}(o:w.ownsRow base 5 1 v zs.length (zs.map (Value.int .u8))) (h1:1<=zs.length):∃ g q,v=.slice (some ⟨g,0,none⟩) zs.length q/\base<=g/\g<w.heap.size/\∀ j u,(zs.map (Value.int .u8))[j]?=some u->w.cell? ((⟨g,0,none⟩:Addr).add j)=some u:=by
 rcases o.2 with ⟨_,h0⟩|⟨g,q,cur,rfl,hb,hg,_⟩
 ·omega
 refine⟨g,q,rfl,hb,lt_of_some hg,fun j u hj=>?_⟩
 have hj':j<zs.length:=by
  rcases Nat.lt_or_ge j zs.length with h|h
  ·exact h
  ·rw[List.getElem?_eq_none (by simpa using h)]at hj;cases hj
 rw[Addr.add_lit,Nat.zero_add,o.cellAt j (by omega)];exact hj
end Go.Proofs.YtgaddpkkjebekaaGreatDoor
namespace Go.Proofs.YtgaddpkkjebekaaGreatDoor
open Go.RowKit Go.Maps
theorem hidx {α:Type}(x:α):∃ T,Hid (T=x):=⟨x,rfl⟩
theorem gQ {P:Program}{ops:Array Oper}{o:Oper}{a:Act}{w:World}{K:Act->World->Prop}{Q:Exit->Act->World->Prop}{E:Prop}
  (hg:o.guard=none) (s x:Operand) (t:TypeId) (hop:o.op=Op.call { callee:=Callee.builtin Builtin.append,args:=#[s,x],argTypes:=#[t,t] })
  (base:Nat) (e:TypeId) (i:TypeInfo) (z:Value) (size bytes:Nat) (ht:P.underlying t=some (.slice e)) (hi:P.info? e=some i) (hz:i.zero=some z)
  (hsize:i.size=size) (hby:i.bytes=bytes) (hzs:z.cells.size=size) (hsz:0<size)
  (v:Value) (n:Nat) (xs:List Value) (hs:a.eval s=v) (hown:w.ownsRow base e size v n xs)
  (ad:Addr) (m c:Nat) (news:List Value) (hx:a.eval x=.slice (some ad) m c) (hl:news.length=m*size) (hnews:∀ j u,news[j]?=some u->w.cell? (ad.add j)=some u) (h1:∀ u∈news,u.oneCell'=true)
  (h63:n+m<=maxLen) (hbytes:(n+m)*bytes<=140737488355328) (hbase:base<=w.heap.size)
  (h:∀ v' w',w'.ownsRow base e size v' (n+m) (xs++news)->w.grownBy w' v.ownBlock->(v'.ownBlock=v.ownBlock\/v'.ownBlock=some w.heap.size)->K (a.put o.dst v') w') :
  if Region.wanted o (yielded ops a.tmps)=true then Oper.wp P o a w K Q else E:=by
 have hw:Region.wanted o (yielded ops a.tmps)=true:=by simp[Region.wanted,hg]
 rw[if_pos hw];obtain⟨v',w',hr,h2,h3,_,h5⟩:=run_append_own_at (P:=P) w base t o.type e i z size bytes ht hi hz hsize hby hzs hsz v n xs hown ad m c news hl hnews h1 h63 hbytes hbase;unfold Oper.wp execOp;simp only[hop,resolve,invoke,builtin,Sem.run_bind,Sem.run_pure,Result.andThen_ok,List.map_toArray,List.map_cons,List.map_nil,hs,hx,hr];exact h v' w' h2 h3 h5
theorem Lu {w:World}{base:Nat}{v:Value}{zs:List Int}(h:w.ownsRow base 5 1 v zs.length (zs.map (Value.int .u8))) (hb:∀ j,isB (zs.getD j 0)) (hs:zs.length<=1048576):∃ F,Own base w (.bytes zs) [v] F:=by
 rcases h.2 with ⟨rfl,e⟩|⟨g,cap,cur,rfl,h1,h2,h3,h4,h5,h6⟩
 ·refine⟨[],Own.mk' ?_ (Fr.nil _ _)⟩;rw[ai];exact⟨none,0,by rw[e],⟨hs,by omega,by unfold maxLen;omega⟩,hb,fun hp=>by omega,fun _=>rfl⟩
 ·have hlt:=(h.lt g rfl).2;rcases Nat.eq_zero_or_pos zs.length with h0|h0
  ·refine⟨[],Own.mk' ?_ (Fr.nil _ _)⟩;rw[ai];exact⟨_,cap,rfl,⟨hs,h3,h4⟩,hb,fun hp=>by omega,fun _=>rfl⟩
  ·refine⟨[g],Own.mk' ?_ (Fr.one h1 hlt)⟩;rw[ai];refine⟨_,cap,rfl,⟨hs,h3,h4⟩,hb,fun _=>⟨g,rfl,rfl,hlt,fun j hj=>⟨?_,h.frozenAt j⟩⟩,fun hp=>by omega⟩;rw[h.cellAt j (by omega),List.getElem?_map,List.getElem?_eq_getElem hj,List.getD_eq_getElem?_getD,List.getElem?_eq_getElem hj];rfl
theorem LC {w:World}{v:Value}{zs:List Int}(h:RdN w v zs) (h1:0<zs.length):∃ g off q,v=.slice (some ⟨g,off,none⟩) zs.length q/\g<w.heap.size/\∀ j u,(zs.map (Value.int .u8))[j]?=some u->w.cell? ((⟨g,off,none⟩:Addr).add j)=some u:=by
 obtain⟨g,off,q,e,hg,hc⟩:=OU h h1;exact⟨g,off,q,e,hg,hc w (Later.refl _)⟩
theorem Ny (zs:List Int):∀ u∈zs.map (Value.int .u8),u.oneCell'=true:=by
 intro u hu;obtain⟨z,_,rfl⟩:=List.mem_map.1 hu;rfl
theorem eqnil (w:World) (a:Option Addr) (n c n' c':Nat):(binOp .eql 22 (.slice a n c) (.slice none n' c')).run Tryz.prog w=.ok (.bool a.isNone) w:=Lib.run_eql_slice_nil w _ _ a n c n' c' Tryz.underlying22
def QG (zs:List Int) (w:World) (e:Ending) (w':World):Prop:=∃ a c F,e=.returned (.slice a zs.length c)/\Own w.heap.size w' (.bytes zs) [.slice a zs.length c] F/\Later w w'
theorem BK {w:World}{base:Nat}(a:Option Addr) (cap:Nat) (h:cap<=maxLen):Own base w (.bytes []) [.slice a 0 cap] []:=by
 refine Own.mk' ?_ (Fr.nil _ _);rw[ai];exact⟨a,cap,rfl,⟨by decide,Nat.zero_le _,h⟩,fun _=>⟨by simp,by simp⟩,fun hp=>absurd hp (Nat.lt_irrefl _),fun _=>rfl⟩
theorem clone_any (v:Value) (zs:List Int) (w:World) (h:RdN w v zs) (hs:zs.length<=1048576):Calls Tryz.prog 52 #[v] w (QG zs w):=by
 have hb:=h.rd.isB;have qT:=eqnil;obtain⟨i0,hi,hz0,hz1,hz2⟩:=info_parts Tryz.info5
 have HP:Hid (∀ v' w',w'.ownsRow w.heap.size 5 1 v' zs.length (zs.map (Value.int .u8))->Later w w'->QG zs w (.returned v') w'):=fun v' w' ho hl=>by
  obtain⟨F,hF⟩:=Lu ho hb hs;obtain⟨a,c,rfl⟩:=aP ho;exact⟨a,c,F,rfl,hF,hl⟩
 have hE:(w.alloc (.cells #[] 5)).ownsRow w.heap.size 5 1 (.slice (some ⟨w.heap.size,0,none⟩) 0 0) 0 []:=World.ownsRow_lit w #[] 0 (Nat.le_refl _) (by unfold maxLen;omega) rfl;rcases Nat.eq_zero_or_pos zs.length with h0|h0
 ·obtain rfl:zs=[]:=List.eq_nil_of_length_eq_zero h0;obtain⟨a,cap,rfl,hc1,hc2⟩:=h.cap
  have HN:Hid (QG [] w (.returned (.slice none 0 0)) w):=⟨none,0,[],rfl,BK _ _ (by unfold maxLen;omega),Later.refl _⟩
  generalize hQ:QG [] w=Q at *
  clear hQ h hb
  cases a with
  | none =>
   go_enter Tryz.func52,Tryz.ntmps52;go_wp2_with fail
   exact HN.out
  | some x =>
   go_enter Tryz.func52,Tryz.ntmps52;go_wp2_with (at_builtin;refine wpList_append_own _ rfl _ _ 22 rfl w.heap.size 5 i0 (.int .u8 0) 1 1 Tryz.underlying22 hi hz0 hz1 hz2 rfl (by decide) _ _ _ rfl hE x 0 cap [] rfl rfl (fun j u hj=>by simp at hj) (by simp) (by unfold maxLen;omega) (by omega) (by simp) ?_;intro v3 w3 o3 g3 _;have HQ:=HP.out v3 w3 o3 (Later.trans' (v:=.slice (some ⟨w.heap.size,0,none⟩) 0 0) (ae _ _) g3 (fun g hg=>by cases hg;exact Nat.le_refl _));obtain⟨a3,p3,hv3⟩:=aP o3;rw[hv3]at HQ ⊢)
   exact HQ
 ·obtain⟨g,off,q,rfl,hg,hc⟩:=LC h h0
  have hc':∀ o j u,(zs.map (Value.int .u8))[j]?=some u->(w.alloc o).cell? ((⟨g,off,none⟩:Addr).add j)=some u:=fun o j u hj=>by
   rw[Addr.add_lit,(ae w o).cell (p:=⟨g,off+j,none⟩) hg,<- Addr.add_lit];exact hc j u hj
  have hll:(zs.map (Value.int .u8)).length=zs.length:=List.length_map ..;have hone:=Ny zs
  generalize hQ:QG zs w=Q at *
  generalize zs.map (Value.int .u8)=X at *
  clear hQ h hb hc
  generalize zs.length=N at *
  go_enter Tryz.func52,Tryz.ntmps52;go_wp2_with (at_builtin;refine wpList_append_own _ rfl _ _ 22 rfl w.heap.size 5 i0 (.int .u8 0) 1 1 Tryz.underlying22 hi hz0 hz1 hz2 rfl (by decide) _ _ _ rfl hE ⟨g,off,none⟩ N q X rfl (by rw[hll,Nat.mul_one]) (hc' _) hone (by unfold maxLen;omega) (by omega) (by simp) ?_;intro v3 w3 o3 g3 _;rw[Nat.zero_add,List.nil_append]at o3;have HQ:=HP.out v3 w3 o3 (Later.trans' (v:=.slice (some ⟨w.heap.size,0,none⟩) 0 0) (ae _ _) g3 (fun g hg=>by cases hg;exact Nat.le_refl _));obtain⟨a3,p3,hv3⟩:=aP o3;rw[hv3]at HQ ⊢)
  exact HQ
def dX (w:World) (k:Nat):List Dat->List Value->List Nat->Prop
 | [],xs,F=>xs=[]/\F=[]
 | d::r,xs,F=>∃ cs ys F1 F2,xs=cs++ys/\F=F1++F2/\cs.length=k/\ai w d cs F1/\dX w k r ys F2
theorem dX.agree {w w':World}(hs:w.heap.size<=w'.heap.size) {k:Nat}:∀ (l:List Dat) {xs:List Value}{F:List Nat},dX w k l xs F->(∀ b∈F,w'.heap[b]?=w.heap[b]?)->dX w' k l xs F
 | [],_,_,h,_=>h
 | d::r,xs,F,h,ha=>by
  obtain⟨cs,ys,F1,F2,rfl,rfl,hk,hd,hr⟩:=h;exact⟨cs,ys,F1,F2,rfl,rfl,hk,ai.agree hs d hd (fun b hb=>ha b (List.mem_append_left _ hb)),dX.agree hs r hr (fun b hb=>ha b (List.mem_append_right _ hb))⟩
theorem dX.snoc {w:World}{k:Nat}{d:Dat}{cs:List Value}{G:List Nat}(hk:cs.length=k) (hd:ai w d cs G):∀ (l:List Dat) {xs:List Value}{F:List Nat},dX w k l xs F->dX w k (l++[d]) (xs++cs) (F++G)
 | [],xs,F,h=>by
  obtain⟨rfl,rfl⟩:=h;exact⟨cs,[],G,[],by simp,by simp,hk,hd,rfl,rfl⟩
 | x::r,xs,F,h=>by
  obtain⟨c1,ys,F1,F2,rfl,rfl,hk1,hd1,hr⟩:=h;exact⟨c1,ys++cs,F1,F2++G,by simp,by simp,hk1,hd1,dX.snoc hk hd r hr⟩
theorem dX.own {w:World}{k g:Nat}:∀ (l:List Dat) {i:Nat}{xs:List Value}{F:List Nat},dX w k l xs F->(∀ m u,xs[m]?=some u->w.cell? ⟨g,i*k+m,none⟩=some u/\w.frozen? ⟨g,i*k+m,none⟩=false)->ax w k g i l F
 | [],i,xs,F,h,_=>by
  obtain⟨rfl,rfl⟩:=h;rw[ax]
 | d::r,i,xs,F,h,hc=>by
  obtain⟨cs,ys,F1,F2,rfl,rfl,hk,hd,hr⟩:=h;rw[ax];refine⟨cs,F1,F2,rfl,hk,fun m u hm=>?_,hd,dX.own r hr (fun m u hm=>?_)⟩
  ·have hml:m<cs.length:=by
    rcases Nat.lt_or_ge m cs.length with h|h
    ·exact h
    ·rw[List.getElem?_eq_none h]at hm;cases hm
   exact hc m u (by rw[List.getElem?_append_left hml];exact hm)
  ·have:=hc (k+m) u (by rw[List.getElem?_append_right (by omega),hk,Nat.add_sub_cancel_left];exact hm);rw[show i*k+(k+m)=(i+1)*k+m by rw[Nat.succ_mul];omega]at this;exact this
structure Bd (base:Nat) (w:World) (t:TypeId) (k:Nat) (v:Value) (l:List Dat) (xs:List Value) (F:List Nat):Prop where
 row:w.ownsRow base t k v l.length xs
 el:dX w k l xs F
 fr:Fr base w.heap.size F
 sep:∀ b,v.ownBlock=some b->b∉F
theorem Bd.nil (base:Nat) (w:World) (t:TypeId) (k:Nat):Bd base w t k (.slice none 0 0) [] [] []:=⟨World.ownsRow_nil _ _ _ _,⟨rfl,rfl⟩,Fr.nil _ _,fun b hb=>by cases hb⟩
theorem Later.kept {w w':World}(h:Later w w') (lo:Nat):Kept lo w w':=⟨h.size,fun b _ hb=>h.block b hb⟩
theorem Kept.trans {lo:Nat}{a b c:World}(h:Kept lo a b) (k:Kept lo b c):Kept lo a c:=⟨Nat.le_trans h.size k.size,fun x hx hl=>by rw[k.block x hx (Nat.lt_of_lt_of_le hl h.size),h.block x hx hl]⟩
theorem cu {base:Nat}{w w':World}{t:TypeId}{k n:Nat}{v:Value}{xs:List Value}(h:w.ownsRow base t k v n xs) (hk:Kept base w w'):w'.ownsRow base t k v n xs:=by
 refine⟨h.1,?_⟩;rcases h.2 with e|⟨g,cap,cur,rfl,h1,h2,h3⟩
 ·exact .inl e
 ·exact .inr ⟨g,cap,cur,rfl,h1,by rw[hk.block g h1 (h.lt g rfl).2];exact h2,h3⟩
theorem Bd.kept {base:Nat}{w w':World}{t:TypeId}{k:Nat}{v:Value}{l:List Dat}{xs:List Value}{F:List Nat}(h:Bd base w t k v l xs F) (hl:Kept base w w'):Bd base w' t k v l xs F :=
 ⟨cu h.row hl,dX.agree hl.size l h.el (fun b hb=>hl.block b (h.fr.2 b hb).1 (h.fr.2 b hb).2),h.fr.mono (Nat.le_refl _) hl.size,h.sep⟩
theorem Bd.push {base:Nat}{wr w1 w2 w':World}{t:TypeId}{k:Nat}{v v':Value}{l:List Dat}{xs:List Value}{F:List Nat}(h:Bd base wr t k v l xs F) {d:Dat}{cs:List Value}{G:List Nat}(hk:cs.length=k) (hd:Own wr.heap.size w1 d cs G) (l1:Kept base wr w1) (l2:Kept base w1 w2) (hbase:base<=wr.heap.size)
  (ho:w'.ownsRow base t k v' (l.length+1) (xs++cs)) (hg:w2.grownBy w' v.ownBlock) (hloc:v'.ownBlock=v.ownBlock\/v'.ownBlock=some w2.heap.size):Bd base w' t k v' (l++[d]) (xs++cs) (F++G):=by
 have s1:=l1.size;have s2:=l2.size;have s3:=hg.size
 have hF:∀ b∈F,w'.heap[b]?=wr.heap[b]?:=fun b hb=>by
  have:=h.fr.2 b hb;rw[hg.block b (by omega) (fun e=>h.sep b e.symm hb),l2.block b (by omega) (by omega),l1.block b (by omega) (by omega)]
 have hG:∀ b∈G,w'.heap[b]?=w1.heap[b]?:=fun b hb=>by
  have:=hd.fresh b hb;rw[hg.block b (by omega) (fun e=>by have:=(h.row.lt b e.symm).2;omega),l2.block b (by omega) (by omega)]
 refine⟨by rw[List.length_append];exact ho,dX.snoc hk (ai.agree (by omega) _ hd.own hG) _ (dX.agree (by omega) _ h.el hF),(h.fr.app hd.fr hbase s1).mono (Nat.le_refl _) (by omega),fun b hb hm=>?_⟩;rcases hloc with e|e
 ·rw[e]at hb;rcases List.mem_append.1 hm with q|q
  ·exact h.sep b hb q
  ·have:=(h.row.lt b hb).2;have:=hd.fresh b q;omega
 ·rw[e]at hb
  cases hb
  rcases List.mem_append.1 hm with q|q
  ·have:=h.fr.2 _ q;omega
  ·have:=hd.fresh _ q;omega
theorem Bd.done {base:Nat}{w:World}{t:TypeId}{k:Nat}{v:Value}{l:List Dat}{xs:List Value}{F:List Nat}(h:Bd base w t k v l xs F) (hs:l.length<=1048576):∃ G,Own base w (.list k l) [v] G:=by
 rcases h.row.2 with ⟨rfl,e⟩|⟨g,cap,cur,rfl,h1,h2,h3,h4,h5,h6⟩
 ·refine⟨[],Own.mk' ?_ (Fr.nil _ _)⟩;rw[ai];exact⟨none,0,by rw[e],⟨hs,by omega,by unfold maxLen;omega⟩,fun hp=>by omega,fun _=>rfl⟩
 ·have hlt:=(h.row.lt g rfl).2;rcases Nat.eq_zero_or_pos l.length with h0|h0
  ·refine⟨[],Own.mk' ?_ (Fr.nil _ _)⟩;rw[ai];exact⟨_,cap,rfl,⟨hs,h3,h4⟩,fun hp=>by omega,fun _=>rfl⟩
  ·refine⟨g::F,Own.mk' ?_ ⟨List.nodup_cons.2 ⟨h.sep g rfl,h.fr.1⟩,fun b hb=>?_⟩⟩
   ·rw[ai];refine⟨_,cap,rfl,⟨hs,h3,h4⟩,fun _=>⟨g,F,rfl,rfl,hlt,dX.own l h.el (fun m u hm=>?_)⟩,fun hp=>by omega⟩;rw[Nat.zero_mul,Nat.zero_add]
    have hm':m<l.length*k:=by
     rw[<-h.row.1];rcases Nat.lt_or_ge m xs.length with q|q
     ·exact q
     ·rw[List.getElem?_eq_none q]at hm;cases hm
    exact⟨by rw[h.row.cellAt m hm'];exact hm,h.row.frozenAt m⟩
   ·rcases List.mem_cons.1 hb with rfl|hb
    ·exact⟨h1,hlt⟩
    ·exact h.fr.2 b hb
theorem Pa.dC (l:List Pa):Pa.ah l=l.map Pa.dat:=by induction l with|nil=>rfl|cons x r ih=>rw[Pa.ah,ih];rfl
theorem Sc.dC (l:List Sc):Sc.ah l=l.map Sc.dat:=by induction l with|nil=>rfl|cons x r ih=>rw[Sc.ah,ih];rfl
theorem Ex.dC (l:List Ex):Ex.ah l=l.map Ex.dat:=by induction l with|nil=>rw[Ex.ah];rfl|cons x r ih=>rw[Ex.ah,ih];rfl
theorem St.dC (l:List St):St.ah l=l.map St.dat:=by induction l with|nil=>rw[St.ah];rfl|cons x r ih=>rw[St.ah,ih];rfl
theorem Fu.dC (l:List Fu):Fu.ah l=l.map Fu.dat:=by induction l with|nil=>rfl|cons x r ih=>rw[Fu.ah,ih];rfl
theorem qU {α β:Type}{l:List α}{j:Nat}(h:j<l.length) (f:α->β):(l.take (j+1)).map f=(l.take j).map f++[f l[j]]:=by rw[List.take_succ_eq_append_getElem h,List.map_append];rfl
structure Bxx (w:World) (B:Nat) (xs:List Value):Prop where
 lt:B<w.heap.size
 cell:∀ i u,xs[i]?=some u->w.cell? ⟨B,i,none⟩=some u/\w.frozen? ⟨B,i,none⟩=false
theorem Bxx.new (w:World) (cs:Array Value) (t:TypeId):Bxx (w.alloc (.cells cs t)) w.heap.size cs.toList:=by
 have e:(w.alloc (.cells cs t)).heap[w.heap.size]?=some (.cells cs t):=(MapKept.heap_alloc w _).1;refine⟨by simp,fun i u h=>⟨?_,?_⟩⟩
 ·have:=fA w cs t rfl i u h
  rwa [Addr.add_lit,Nat.zero_add]at this
 ·unfold World.frozen?;simp only[e];simp
theorem Bxx.later {w w':World}{B:Nat}{xs:List Value}(h:Bxx w B xs) (hl:Later w w'):Bxx w' B xs :=
 ⟨Nat.lt_of_lt_of_le h.lt hl.size,fun i u hi=>by rw[Below.cell hl (p:=⟨B,i,none⟩) h.lt,Below.frozen hl (p:=⟨B,i,none⟩) h.lt];exact h.cell i u hi⟩
theorem Bxx.kept {w w':World}{B:Nat}{xs:List Value}(h:Bxx w B xs) (hs:w.heap.size<=w'.heap.size) (hb:w'.heap[B]?=w.heap[B]?):Bxx w' B xs :=
 ⟨Nat.lt_of_lt_of_le h.lt hs,fun i u hi=>by rw[World.cell?_of_block (w:=w) (w':=w') (a:=⟨B,i,none⟩) hb,World.frozen?_of_block (w:=w) (w':=w') (a:=⟨B,i,none⟩) hb];exact h.cell i u hi⟩
theorem Bxx.only {K:Nat}{w w':World}{B:Nat}{xs:List Value}(h:Bxx w B xs) (ho:af K w w') (hK:B≠K):Bxx w' B xs:=h.kept ho.size (ho.block B h.lt hK)
theorem Bxx.set {w:World}{B:Nat}{xs:List Value}(h:Bxx w B xs) (i:Nat) (v:Value) (hi:i<xs.length):Bxx (w.setCell ⟨B,i,none⟩ v) B (xs.set i v):=by
 refine⟨by rw[World.size_setCell];exact h.lt,fun j u hj=>?_⟩;rw[World.frozen?_setCell];by_cases e:j=i
 ·subst e;rw[List.getElem?_set_self hi]at hj
  cases hj
  have:=h.cell j _ (List.getElem?_eq_getElem hi);exact⟨jo this.1,this.2⟩
 ·rw[List.getElem?_set_ne (Ne.symm e)]at hj;rw[JC _ _ _ (Ne.symm e)];exact h.cell j u hj
theorem Bxx.other {w:World}{B:Nat}{xs:List Value}(h:Bxx w B xs) {b o:Nat}(hb:B≠b) (v:Value):Bxx (w.setCell ⟨b,o,none⟩ v) B xs:=h.kept (by rw[World.size_setCell];exact Nat.le_refl _) (Below.heap_setCell _ _ _ _ hb)
theorem Bxx.alloc {w:World}{B:Nat}{xs:List Value}(h:Bxx w B xs) (o:Obj):Bxx (w.alloc o) B xs:=h.later (ae _ _)
def CpS (K:Nat) (w:World) (p:Int) (t:Bool):Prop:=Bxx w K [.int .i64 0,.int .i64 p,.bool t]
def GoP (K:Nat) (p:Int) (t b:Bool) (w:World) (e:Ending) (w':World):Prop:=e=.returned (.bool (!t&&b))/\af K w w'/\∃ p',CpS K w' p' (t||!b)/\(t=false->p'=p+1)
def EnP (K:Nat) (p d:Int) (t:Bool) (w:World) (e:Ending) (w':World):Prop:=∃ b p',e=.returned (.bool b)/\CpS K w' p' t/\af K w w'/\(0<=p->p<=400->p'=p+1/\b=(decide (p+1<=400)&&decide (d<=30)))
theorem I5 (K:Nat) (p d:Int) (t:Bool) (w:World) (hS:CpS K w p t):Calls Tryz.prog 112 #[.pointer (some ⟨K,0,none⟩),.int .i64 d] w (EnP K p d t w):=by
 have c1:=(hS.cell 1 _ rfl).1;have f1:=(hS.cell 1 _ rfl).2;have hK:=hS.lt
 have HS:Hid (∀ q b,(0<=p->p<=400->q=p+1/\b=(decide (p+1<=400)&&decide (d<=30)))->EnP K p d t w (.returned (.bool b)) (w.setCell ⟨K,1,none⟩ (.int .i64 q))):=fun q b h=>⟨b,q,rfl,hS.set 1 (.int .i64 q) (Nat.lt_of_sub_eq_succ rfl),(af.refl K w).set 1 _,h⟩
 generalize hQ:EnP K p d t w=Q at *
 clear hS hQ;by_cases hr:0<=p/\p<=400
 ·obtain⟨h0,h4⟩:=hr;by_cases h5:p+1<=400
  ·have HA:=HS.out (p+1) (decide (d<=30)) (fun _ _=>⟨rfl,by rw[decide_eq_true h5];rfl⟩);clear HS;go_enter Tryz.func112,Tryz.ntmps112;go_wp2_with fail
   exact HA
  ·have HA:=HS.out (p+1) false (fun _ _=>⟨rfl,by rw[decide_eq_false h5];rfl⟩);have h6:decide (p+1<=400)=false:=decide_eq_false h5;clear HS;go_enter Tryz.func112,Tryz.ntmps112;go_wp2_with fail
   exact HA
 ·obtain⟨q,hq⟩:∃ q,wrap64 (p+1)=q:=⟨_,rfl⟩
  have HA:Hid (∀ b,Q (.returned (.bool b)) (w.setCell ⟨K,1,none⟩ (.int .i64 q))):=fun b=>HS.out q b (fun a b=>absurd ⟨a,b⟩ hr);clear HS;by_cases h5:q<=400
  ·go_enter Tryz.func112,Tryz.ntmps112;go_wp2_with fail
   exact HA.out _
  ·have h6:decide (q<=400)=false:=decide_eq_false h5;go_enter Tryz.func112,Tryz.ntmps112;go_wp2_with fail
   exact HA.out _
theorem Gg (K:Nat) (p d:Int) (t:Bool) (a:Option Addr) (n c:Nat) (w:World) (hS:CpS K w p t) (hp:t=false->0<=p/\p<=400):Calls Tryz.prog 85 #[.pointer (some ⟨K,0,none⟩),.slice a n c,.int .i64 d] w (GoP K p t (decide (p+1<=400)&&decide (d<=30)&&decide (n<=8)) w):=by
 have hE:=I5 K p d t w hS
 have HP:Hid (∀ b p' w',CpS K w' p' (t||!b)->af K w w'->(t=false->p'=p+1/\b=(decide (p+1<=400)&&decide (d<=30)&&decide (n<=8)))->(∀ q,q=(!t&&b)->GoP K p t (decide (p+1<=400)&&decide (d<=30)&&decide (n<=8)) w (.returned (.bool q)) w')):=fun b p' w' hc ho hh q hq=>by
  cases t with
  | true =>
   refine⟨by rw[hq];rfl,ho,p',hc,fun h=>by cases h⟩
  | false =>
   obtain⟨e1,e2⟩:=hh rfl;subst e2;exact⟨by rw[hq],ho,p',hc,fun _=>e1⟩
 generalize hQ:GoP K p t (decide (p+1<=400)&&decide (d<=30)&&decide (n<=8)) w=Q at *
 clear hQ hS
 have hBn:(decide (n<=8))=!(decide ((8:Int)<(n:Int))):=by
  by_cases h:n<=8
  ·rw[decide_eq_true h,decide_eq_false (by omega)];rfl
  ·rw[decide_eq_false h,decide_eq_true (by omega)];rfl
 go_enter Tryz.func85,Tryz.ntmps85;go_wp2_with fail
 refine hE.mono ?_;rintro e w1 ⟨b,p',rfl,hc1,ho1,hv⟩;have c2:=(hc1.cell 2 _ rfl).1;have f2:=(hc1.cell 2 _ rfl).2;have hT:CpS K (w1.setCell ⟨K,2,none⟩ (.bool true)) p' true:=hc1.set 2 (.bool true) (Nat.lt_of_sub_eq_succ rfl);have hTo:af K w (w1.setCell ⟨K,2,none⟩ (.bool true)):=ho1.set 2 _
 have HF:Hid (b=false\/8<(n:Int)->Q (.returned (.bool false)) (w1.setCell ⟨K,2,none⟩ (.bool true))):=fun h=>HP.out false p' _ (by rw[Bool.not_false,Bool.or_true];exact hT) hTo (fun ht=>by
  obtain⟨h0,h4⟩:=hp ht;obtain⟨e1,e2⟩:=hv h0 h4;refine⟨e1,?_⟩;rcases h with h|h
  ·rw[<-e2,h];rfl
  ·rw[decide_eq_false (show ¬ n<=8 by omega),Bool.and_false]) false (by rw[Bool.and_false])
 have HT:Hid (b=true->¬ 8<(n:Int)->Q (.returned (.bool (!t))) w1):=fun h h'=>HP.out true p' _ (by rw[Bool.not_true,Bool.or_false];exact hc1) ho1 (fun ht=>by
  obtain⟨h0,h4⟩:=hp ht;obtain⟨e1,e2⟩:=hv h0 h4;refine⟨e1,?_⟩
  rw[<-e2,h,decide_eq_true (show n<=8 by omega)];rfl) (!t) (by rw[Bool.and_true])
 clear HP hv hE hT hTo hc1 ho1 hBn
 cases b with
 | false =>
  have HA:=HF.out (.inl rfl);clear HF HT;go_wp2_with fail
  exact HA
 | true =>
  by_cases h8:8<(n:Int)
  ·have HA:=HF.out (.inr h8);clear HF HT;go_wp2_with fail
   exact HA
  ·have HA:=HT.out rfl h8;have h9:decide (8<(n:Int))=false:=decide_eq_false h8;clear HF HT;go_wp2_with fail
   exact HA
def Ew (zs:List Int) (w:World) (v:Value) (w':World):Prop:=∃ a c F,v=.slice a zs.length c/\Own w.heap.size w' (.bytes zs) [.slice a zs.length c] F/\Later w w'
theorem Es (v:Value) (zs:List Int) (w:World) (h:RdN w v zs) (hs:zs.length<=1048576):Calls Tryz.prog 52 #[v] w fun e w'=>∃ u,e=.returned u/\Ew zs w u w':=by
 refine (clone_any v zs w h hs).mono ?_;rintro e w' ⟨a,c,F,rfl,hO,hl⟩;exact⟨_,rfl,a,c,F,rfl,hO,hl⟩
theorem rQ:Enters Tryz.prog 52:=enters_of Tryz.func52 (by kernel_rfl) (by kernel_rfl)
theorem GK (v:Value) (l:List Pa) (w:World) (h:RdL w 3 v (Pa.ah l)) (hlen:l.length<=1000000) (hN:∀ p∈l,p.name.length<=1048576) :
  Calls Tryz.prog 53 #[v] w fun e w'=>∃ a c F,e=.returned (.slice a l.length c)/\Own w.heap.size w' (.list 3 (Pa.ah l)) [.slice a l.length c] F/\Later w w':=by
 obtain⟨a,cap,rfl,hl⟩:=Pa.slice h;obtain⟨i0,hi,hz0,hz1,hz2⟩:=info_parts Tryz.IR;go_enter Tryz.func53,Tryz.ntmps53;go_wp2_with fail
 go_loopw [3,8] (fun r i wr=>∃ (j:Nat) (xs:List Value) (F:List Nat) (rv:Value),rv=r/\i=.int .i64 (j:Int)/\j<=l.length/\Later w wr/\Bd w.heap.size wr 75 3 rv (Pa.ah (l.take j)) xs F) (fun _ i _=>l.length - (intOf i).toNat)
 case atStart=>exact⟨0,[],[],_,rfl,rfl,Nat.zero_le _,Later.refl _,Bd.nil _ _ _ _⟩
 case round =>
  obtain⟨j,xs,F,rv,rfl,rfl,hj,lr,hB⟩:=hrel;by_cases hlt:j<l.length
  ·obtain⟨g,off,v0,rfl,hgs,c0,c1,c2,r0⟩:=Pa.elem (RdL.later lr h) j hlt;have i1:(j:Int)<(l.length:Int):=by omega
   have hlx:(Pa.ah (l.take j)).length=j:=by rw[Pa.az,List.length_take];omega
   have hrow:=hB.row;rw[hlx]at hrow;obtain⟨ra,rc,hra⟩:=aP hrow;have hsz:=lr.size;obtain⟨wb,hwb⟩:=hidx (wr.alloc (.cells #[v0,.int .i64 l[j].tk,.int .i64 l[j].tn] 75));have hbx:Bxx wb wr.heap.size [v0,.int .i64 l[j].tk,.int .i64 l[j].tn]:=by rw[hwb.out];exact Bxx.new _ _ _
   have lb:Later wr wb:=by rw[hwb.out];exact ae _ _
   have HC:Hid (∀ w',Later wb w'->Calls Tryz.prog 52 #[v0] w' fun e w''=>∃ u,e=.returned u/\Ew l[j].name w' u w''):=fun w' ll=>Es v0 l[j].name w' (r0.later (lb.trans ll)) (hN _ (List.getElem_mem hlt));have HR:Hid (∀ w',Later wb w'->w'.ownsRow w.heap.size 75 3 rv j xs):=fun w' ll=>cu hrow ((lb.trans ll).kept _)
   have HS:Hid (∀ w',Later wb w'->w'.cell? ⟨wr.heap.size,0,none⟩=some v0/\w'.cell? ⟨wr.heap.size,1,none⟩=some (.int .i64 l[j].tk)/\w'.cell? ⟨wr.heap.size,2,none⟩=some (.int .i64 l[j].tn)):=fun w' ll=>⟨((hbx.later ll).cell 0 _ rfl).1,((hbx.later ll).cell 1 _ rfl).1,((hbx.later ll).cell 2 _ rfl).1⟩
   have HP:Hid (∀ w3 w4 w' v' a3 p3 G,Later wb w3->Own wb.heap.size w3 (.bytes l[j].name) [.slice a3 l[j].name.length p3] G->Later w3 w4->w'.ownsRow w.heap.size 75 3 v' (j+1) (xs++[.slice a3 l[j].name.length p3,.int .i64 l[j].tk,.int .i64 l[j].tn])->w4.grownBy w' rv.ownBlock->(v'.ownBlock=rv.ownBlock\/v'.ownBlock=some w4.heap.size)->Later w w'/\(w'.cell? ⟨wr.heap.size,0,none⟩=some v0/\w'.cell? ⟨wr.heap.size,1,none⟩=some (.int .i64 l[j].tk)/\w'.cell? ⟨wr.heap.size,2,none⟩=some (.int .i64 l[j].tn))/\∃ xs' F',Bd w.heap.size w' 75 3 v' (Pa.ah (l.take (j+1))) xs' F'):=fun w3 w4 w' v' a3 p3 G l3 hO l4 ho hg hloc=>by
    have hb4:=hbx.later (l3.trans l4);have hb5:Bxx w' wr.heap.size [v0,.int .i64 l[j].tk,.int .i64 l[j].tn]:=hb4.kept hg.size (hg.block _ hb4.lt (fun e=>by have:=(hrow.lt _ e.symm).2;omega));refine⟨Later.trans' ((lr.trans lb).trans (l3.trans l4)) hg (fun g hg=>(hrow.lt g hg).1),⟨(hb5.cell 0 _ rfl).1,(hb5.cell 1 _ rfl).1,(hb5.cell 2 _ rfl).1⟩,xs++[.slice a3 l[j].name.length p3,.int .i64 l[j].tk,.int .i64 l[j].tn],F++G,?_⟩;rw[Pa.dC,qU hlt,<- Pa.dC];exact hB.push (cs:=[.slice a3 l[j].name.length p3,.int .i64 l[j].tk,.int .i64 l[j].tn]) rfl (Own.mk' (Pa.own hO.own) (hO.fr.mono (by have:=lb.size;omega) (Nat.le_refl _))) ((lb.trans l3).kept _) (l4.kept _) hsz (by rw[hlx];exact ho) hg hloc
   have hs3:w.heap.size<wb.heap.size:=Nat.lt_of_le_of_lt hsz hbx.lt;obtain⟨y0,q0,rfl,_⟩:=r0.slice
   generalize l[j].tk=z_tk at *
   generalize l[j].tn=z_tn at *
   clear h hB r0 hlx hrow hbx;subst hra;go_wp2_with fail
   rw[<-hwb.out]
   go_region_held3 (fun w'=>w'.cell? ⟨wr.heap.size,0,none⟩=some (.slice y0 l[j].name.length q0)/\w'.cell? ⟨wr.heap.size,1,none⟩=some (.int .i64 z_tk)/\w'.cell? ⟨wr.heap.size,2,none⟩=some (.int .i64 z_tn)) (first|exact hS4|exact HS.out _ (Later.drew _)|exact HS.out _ ((Later.drew _).trans l3)|exact HS.out _ ((Later.drew _).trans (l3.trans (ae _ _)))) (first
    | (refine eG rfl 52 rQ _ _ rfl [.slice y0 l[j].name.length q0] rfl (fun v w'=>Ew l[j].name _ v w') (HC.out _ (Later.drew _)) ?_;intro u3 w3 hc3;obtain⟨a3,p3,G3,rfl,hO3,l3⟩:=hc3)
    | (refine gQ rfl _ _ 50 rfl w.heap.size 75 i0 (.agg #[.slice none 0 0,.int .i64 0,.int .i64 0]) 3 40 Tryz.underlying50 hi hz0 hz1 hz2 rfl (by decide) _ _ _ rfl ((HR.out _ ((Later.drew _).trans l3)).alloc _) _ 1 1 [.slice a3 l[j].name.length p3,.int .i64 z_tk,.int .i64 z_tn] rfl rfl (fA _ _ _ rfl) (by simp[Value.oneCell']) (by unfold maxLen;omega) (by omega) (Nat.le_trans (Nat.le_of_lt hs3) ((Later.drew _).trans (l3.trans (ae _ _))).size) ?_;intro v4 w4 o4 g4 h4;obtain⟨L4,hS4,xs',F',hB4⟩:=HP.out _ _ _ _ _ _ _ ((Later.drew _).trans l3) hO3 (ae _ _) o4 g4 h4;obtain⟨a4,p4,hv4⟩:=aP o4;rw[hv4]at hB4 ⊢))
   all_goals
    go_wp2_with fail
    go_roundw
    case rel=>exact⟨j+1,_,_,_,rfl,by go_num,by omega,L4,hB4⟩
    case measure=>simp[intOf];omega
  ·have i1:¬ (j:Int)<(l.length:Int):=by omega
   have i2:decide ((j:Int)<(l.length:Int))=false:=decide_eq_false i1;have hjj:j=l.length:=by omega
   have HR:Hid (∃ a c F,rv=.slice a l.length c/\Own w.heap.size wr (.list 3 (Pa.ah l)) [.slice a l.length c] F):=by
    rw[hjj,List.take_length]at hB;obtain⟨G,hG⟩:=hB.done (by rw[Pa.az];omega);obtain⟨a,c,e⟩:=aP hB.row;rw[Pa.az]at e;exact⟨a,c,G,e,by rw[<-e];exact hG⟩
   clear h hB;obtain⟨ra,rc,G,rfl,hG⟩:=HR.out;go_wp2_with fail
   go_ret;exact⟨_,_,rfl,⟨_,hG⟩,lr⟩
end Go.Proofs.YtgaddpkkjebekaaGreatDoor
