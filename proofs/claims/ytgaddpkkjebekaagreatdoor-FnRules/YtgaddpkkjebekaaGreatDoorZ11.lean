import Derived.Test.YtgaddpkkjebekaaGreatDoorZ10
import Derived.Test.YtgaddpkkjebekaaGreatDoorZ09
import Derived.Test.YtgaddpkkjebekaaGreatDoorZ06
import Derived.Test.YtgaddpkkjebekaaGreatDoorZ07
import Derived.Test.YtgaddpkkjebekaaGreatDoorZ08
import Derived.BigQuiet
set_option maxHeartbeats 100000000
set_option maxRecDepth 100000
namespace Go.Proofs.YtgaddpkkjebekaaGreatDoor
open Go.RowKit Go.Maps
end Go.Proofs.YtgaddpkkjebekaaGreatDoor
namespace Go.Proofs.YtgaddpkkjebekaaGreatDoor
open Go.RowKit Go.Maps
theorem JE (l:List Pa):(aO l).length=l.length:=by unfold aO;rw[List.length_map]
mutual
def Ex.lN (fs seen:List (List Int)):Ex->Bool
 | .mk k _ _ _ nm ks=>(!(k==3)||decide (nm∈seen))&&(!(k==6)||decide (nm∈fs))&&Ex.bM fs seen ks
def Ex.bM (fs seen:List (List Int)):List Ex->Bool
 | []=>true
 | x::r=>x.lN fs seen&&Ex.bM fs seen r
end
theorem Ex.qP (fs seen:List (List Int)) (x:Ex):x.lN fs seen=((!(x.kind==3)||decide (x.name∈seen))&&(!(x.kind==6)||decide (x.name∈fs))&&Ex.bM fs seen x.kids):=by obtain⟨k,n,tk,tn,nm,ks⟩:=x;rw[Ex.lN];rfl
def jk (k:Int) (nm:List Int):List (List Int):=if k=0 then [nm] else []
def St.jQ (x:St):List (List Int):=jk x.kind x.name
def St.bU:List St->List (List Int)
 | []=>[]
 | x::r=>x.jQ++St.bU r
mutual
def St.decl:St->List (List Int)
 | .mk k _ _ _ nm _ bo el=>jk k nm++St.decls bo++St.decls el
def St.decls:List St->List (List Int)
 | []=>[]
 | x::r=>x.decl++St.decls r
end
mutual
def St.Bi (fs:List (List Int)):List (List Int)->List (List Int)->St->Bool
 | all,seen,.mk k _ _ _ nm ks bo el=>Ex.bM fs seen ks&&(!(k==0)||!(decide (nm∈all)))&&St.bP fs (all++jk k nm) (seen++jk k nm) bo&&St.bP fs (all++jk k nm++St.decls bo) (seen++jk k nm) el
def St.bP (fs:List (List Int)):List (List Int)->List (List Int)->List St->Bool
 | _,_,[]=>true
 | all,seen,x::r=>St.Bi fs all seen x&&St.bP fs (all++x.decl) (seen++x.jQ) r
end
mutual
def St.num:St->Nat
 | .mk _ _ _ _ _ _ bo el=>1+St.nums bo+St.nums el
def St.nums:List St->Nat
 | []=>0
 | x::r=>x.num+St.nums r
end
theorem St.Ep (x:St):x.decl=jk x.kind x.name++St.decls x.body++St.decls x.els:=by obtain⟨k,n,tk,tn,nm,ks,bo,el⟩:=x;rw[St.decl];rfl
theorem St.D6 (x:St):x.num=1+St.nums x.body+St.nums x.els:=by obtain⟨k,n,tk,tn,nm,ks,bo,el⟩:=x;rw[St.num];rfl
theorem St.Bg (fs all seen:List (List Int)) (x:St):St.Bi fs all seen x=(Ex.bM fs seen x.kids&&(!(x.kind==0)||!(decide (x.name∈all)))&&St.bP fs (all++jk x.kind x.name) (seen++jk x.kind x.name) x.body&&St.bP fs (all++jk x.kind x.name++St.decls x.body) (seen++jk x.kind x.name) x.els):=by obtain⟨k,n,tk,tn,nm,ks,bo,el⟩:=x;rw[St.Bi];rfl
theorem St.Ns (l r:List St):St.decls (l++r)=St.decls l++St.decls r:=by induction l with|nil=>rw[List.nil_append,St.decls,List.nil_append]|cons x l ih=>rw[List.cons_append,St.decls,St.decls,ih,List.append_assoc]
theorem St.CG (l r:List St):St.bU (l++r)=St.bU l++St.bU r:=by induction l with|nil=>rfl|cons x l ih=>rw[List.cons_append,St.bU,St.bU,ih,List.append_assoc]
theorem St.OQ (l r:List St):St.nums (l++r)=St.nums l+St.nums r:=by induction l with|nil=>rw[List.nil_append,St.nums,Nat.zero_add]|cons x l ih=>rw[List.cons_append,St.nums,St.nums,ih];omega
theorem St.Jk {l:List St}{j:Nat}(h:j<l.length):St.decls (l.take (j+1))=St.decls (l.take j)++l[j].decl:=by rw[List.take_succ_eq_append_getElem h,St.Ns,St.decls,St.decls,List.append_nil]
theorem St.Ij {l:List St}{j:Nat}(h:j<l.length):St.bU (l.take (j+1))=St.bU (l.take j)++l[j].jQ:=by rw[List.take_succ_eq_append_getElem h,St.CG,St.bU,St.bU,List.append_nil]
theorem OO (k:Int) (nm:List Int):(jk k nm).length<=1:=by unfold jk;split <;> simp
mutual
theorem St.Qo:∀ (x:St),x.decl.length<=x.num
 | .mk k n tk tn nm ks bo el=>by
  rw[St.decl,St.num,List.length_append,List.length_append];have:=OO k nm;have:=St.jJ bo;have:=St.jJ el;omega
theorem St.jJ:∀ (l:List St),(St.decls l).length<=St.nums l
 | []=>by rw[St.decls];exact Nat.le_refl _
 | x::r=>by
  rw[St.decls,St.nums,List.length_append];have:=St.Qo x;have:=St.jJ r;omega
end
theorem St.Si (x:St):1<=x.num:=by rw[St.D6];omega
theorem St.Ae {l:List St}{j:Nat}(h:j<l.length):St.nums l=St.nums (l.take j)+l[j].num+St.nums (l.drop (j+1)):=by
 have e:l=l.take j++(l[j]::l.drop (j+1)):=by rw[<-List.drop_eq_getElem_cons h,List.take_append_drop]
 conv=>lhs;rw[e]
 rw[St.OQ,St.nums];omega
theorem ax.lens {w:World}{k g:Nat}:∀ (l:List Dat) {i:Nat}{F:List Nat}(j:Nat) (hj:j<l.length),ax w k g i l F ->
  ∃ cs F1 Fj F2,F=F1++(Fj++F2)/\cs.length=k/\(∀ m u,cs[m]?=some u->w.cell? ⟨g,(i+j)*k+m,none⟩=some u/\w.frozen? ⟨g,(i+j)*k+m,none⟩=false)/\ai w l[j] cs Fj /\
   ∀ (w':World) (d:Dat) (cs':List Value),cs'.length=k->(∀ m u,cs'[m]?=some u->w'.cell? ⟨g,(i+j)*k+m,none⟩=some u/\w'.frozen? ⟨g,(i+j)*k+m,none⟩=false)->ai w' d cs' Fj->w.heap.size<=w'.heap.size ->
    (∀ o,o<(i+j)*k\/(i+j+1)*k<=o->w'.cell? ⟨g,o,none⟩=w.cell? ⟨g,o,none⟩/\w'.frozen? ⟨g,o,none⟩=w.frozen? ⟨g,o,none⟩)->(∀ b,b∈F1\/b∈F2->w'.heap[b]?=w.heap[b]?)->ax w' k g i (l.set j d) F
 | [],i,F,j,hj,h=>absurd hj (Nat.not_lt_zero _)
 | d0::r,i,F,0,hj,h=>by
  rw[ax]at h;obtain⟨cs,F1,F2,rfl,hk,hc,hd,hr⟩:=h;refine⟨cs,[],F1,F2,by rw[List.nil_append],hk,hc,hd,fun w' d cs' hk' hc' hd' hs ho hb=>?_⟩;rw[List.set_cons_zero,ax];refine⟨cs',F1,F2,rfl,hk',hc',hd',ax.agree' hs r hr (fun o h1 h2=>ho o (.inr (by simpa using h1))) (fun b q=>hb b (.inr q))⟩
 | d0::r,i,F,j+1,hj,h=>by
  rw[ax]at h;obtain⟨cs,F1,F2,rfl,hk,hc,hd,hr⟩:=h;obtain⟨cs1,A1,Aj,A2,rfl,hk1,hc1,hd1,HK⟩:=ax.lens r j (Nat.lt_of_succ_lt_succ hj) hr;have e:i+1+j=i+(j+1):=by omega
  rw[e]at hc1 HK;refine⟨cs1,F1++A1,Aj,A2,by simp[List.append_assoc],hk1,hc1,hd1,fun w' d cs' hk' hc' hd' hs ho hb=>?_⟩;rw[List.set_cons_succ,ax];refine⟨cs,F1,A1++(Aj++A2),rfl,hk,fun m u hm=>?_,ai.agree hs d0 hd (fun b q=>hb b (.inl (List.mem_append_left _ q))),HK w' d cs' hk' hc' hd' hs ho (fun b q=>hb b (q.imp (fun q=>List.mem_append_right _ q) id))⟩;have hm':m<k:=by have:=(List.getElem?_eq_some_iff.1 hm).1;omega
  have hlt:i*k+m<(i+(j+1))*k:=by
   have:(i+1)*k<=(i+(j+1))*k:=Nat.mul_le_mul_right _ (by omega);rw[Nat.succ_mul]at this;omega
  have:=ho (i*k+m) (.inl hlt);rw[this.1,this.2];exact hc m u hm
structure OnlyC (g o:Nat) (F:List Nat) (w w':World):Prop where
 os:w'.os=w.os
 tape:w'.tape=w.tape
 output:w'.output=w.output
 size:w.heap.size<=w'.heap.size
 block:∀ b,b<w.heap.size->b∉F->b≠g->w'.heap[b]?=w.heap[b]?
 cells:∀ x,x≠o->w'.cell? ⟨g,x,none⟩=w.cell? ⟨g,x,none⟩
 Jf:∀ x,w'.frozen? ⟨g,x,none⟩=w.frozen? ⟨g,x,none⟩
theorem OnlyC.iw {g o:Nat}{F:List Nat}{w w':World}(h:ay F w w') (hg:g∉F) (hl:g<w.heap.size):OnlyC g o F w w' :=
 ⟨h.os,h.tape,h.output,h.size,fun b hb hn _=>h.block b hb hn,fun x _=>by unfold World.cell?;rw[h.block g hl hg],fun x=>by unfold World.frozen?;rw[h.block g hl hg]⟩
theorem OnlyC.trans {g o:Nat}{F:List Nat}{a b c:World}(h:OnlyC g o F a b) (k:OnlyC g o F b c):OnlyC g o F a c :=
 ⟨k.os.trans h.os,k.tape.trans h.tape,k.output.trans h.output,Nat.le_trans h.size k.size,fun x hx hn hg=>by rw[k.block x (Nat.lt_of_lt_of_le hx h.size) hn hg,h.block x hx hn hg],fun x hx=>by rw[k.cells x hx,h.cells x hx],fun x=>by rw[k.Jf,h.Jf]⟩
theorem OnlyC.only {g o:Nat}{F:List Nat}{a b:World}(h:OnlyC g o F a b):ay (g::F) a b:=⟨h.os,h.tape,h.output,h.size,fun x hx hn=>h.block x hx (fun q=>hn (List.mem_cons_of_mem _ q)) (fun q=>hn (q ▸ List.mem_cons_self ..))⟩
def NoA (T X:TypeId):Prop:=∀ (v:Value) (w:World),(Instr.typeAssert (.iface T v) 105 X true).run Tryz.prog w=.ok (.tuple #[.agg #[.pointer none],.bool false]) w
def IsM (T:TypeId) (v:Value) (m:String) (f:Nat) (a:Option Addr):Prop:=∀ w:World,(method 366 T v m).run Tryz.prog w=.ok (f,.agg #[.pointer a]) w
theorem dY (a:Option Addr) (x y:Int):IsM 202 (.agg #[.pointer a,.int .i64 x,.int .i64 y]) "loop.example/g00306/impl.kids" 197 a:=fun w=>by kernel_rfl
theorem dH (a:Option Addr) (x y:Int):IsM 202 (.agg #[.pointer a,.int .i64 x,.int .i64 y]) "loop.example/g00306/impl.blocks" 196 a:=fun w=>by kernel_rfl
theorem di:NoA 202 141:=fun v w=>by kernel_rfl
theorem dV:NoA 202 146:=fun v w=>by kernel_rfl
theorem dM:NoA 202 149:=fun v w=>by kernel_rfl
theorem kX (a:Option Addr) :IsM 146 (.agg #[.pointer a]) "loop.example/g00306/impl.kids" 197 a:=fun w=>by kernel_rfl
theorem jF (a:Option Addr) :IsM 146 (.agg #[.pointer a]) "loop.example/g00306/impl.blocks" 196 a:=fun w=>by kernel_rfl
theorem qB:NoA 146 141:=fun v w=>by kernel_rfl
theorem xm (v:Value) (w:World):(Instr.typeAssert (.iface 146 v) 105 146 true).run Tryz.prog w=.ok (.tuple #[v,.bool true]) w:=by kernel_rfl
theorem pM (a:Option Addr) :IsM 203 (.agg #[.pointer a]) "loop.example/g00306/impl.kids" 197 a:=fun w=>by kernel_rfl
theorem mg (a:Option Addr) :IsM 203 (.agg #[.pointer a]) "loop.example/g00306/impl.blocks" 196 a:=fun w=>by kernel_rfl
theorem pG:NoA 203 141:=fun v w=>by kernel_rfl
theorem vG:NoA 203 146:=fun v w=>by kernel_rfl
theorem uy:NoA 203 149:=fun v w=>by kernel_rfl
theorem jZ (a:Option Addr) :IsM 149 (.agg #[.pointer a]) "loop.example/g00306/impl.kids" 197 a:=fun w=>by kernel_rfl
theorem jq (a:Option Addr) :IsM 149 (.agg #[.pointer a]) "loop.example/g00306/impl.blocks" 196 a:=fun w=>by kernel_rfl
theorem pJ:NoA 149 141:=fun v w=>by kernel_rfl
theorem vK:NoA 149 146:=fun v w=>by kernel_rfl
theorem uC (v:Value) (w:World):(Instr.typeAssert (.iface 149 v) 105 149 true).run Tryz.prog w=.ok (.tuple #[v,.bool true]) w:=by kernel_rfl
theorem jG (a:Option Addr) :IsM 204 (.agg #[.pointer a]) "loop.example/g00306/impl.kids" 197 a:=fun w=>by kernel_rfl
theorem iW (a:Option Addr) :IsM 204 (.agg #[.pointer a]) "loop.example/g00306/impl.blocks" 196 a:=fun w=>by kernel_rfl
theorem og:NoA 204 141:=fun v w=>by kernel_rfl
theorem uA:NoA 204 146:=fun v w=>by kernel_rfl
theorem sD:NoA 204 149:=fun v w=>by kernel_rfl
theorem nP (a:Option Addr) :IsM 205 (.agg #[.pointer a]) "loop.example/g00306/impl.kids" 197 a:=fun w=>by kernel_rfl
theorem lg (a:Option Addr) :IsM 205 (.agg #[.pointer a]) "loop.example/g00306/impl.blocks" 196 a:=fun w=>by kernel_rfl
theorem nZ:NoA 205 141:=fun v w=>by kernel_rfl
theorem uz:NoA 205 146:=fun v w=>by kernel_rfl
theorem su:NoA 205 149:=fun v w=>by kernel_rfl
theorem rD (a:Option Addr) :IsM 206 (.agg #[.pointer a]) "loop.example/g00306/impl.kids" 197 a:=fun w=>by kernel_rfl
theorem nO (a:Option Addr) :IsM 206 (.agg #[.pointer a]) "loop.example/g00306/impl.blocks" 196 a:=fun w=>by kernel_rfl
theorem qE:NoA 206 141:=fun v w=>by kernel_rfl
theorem xu:NoA 206 146:=fun v w=>by kernel_rfl
theorem vH:NoA 206 149:=fun v w=>by kernel_rfl
theorem iZ (a:Option Addr) (x y x2 y2:Int):IsM 208 (.agg #[.pointer a,.int .i64 x,.int .i64 y,.int .i64 x2,.int .i64 y2]) "loop.example/g00306/impl.kids" 197 a:=fun w=>by kernel_rfl
theorem gZ (a:Option Addr) (x y x2 y2:Int):IsM 208 (.agg #[.pointer a,.int .i64 x,.int .i64 y,.int .i64 x2,.int .i64 y2]) "loop.example/g00306/impl.blocks" 196 a:=fun w=>by kernel_rfl
theorem iE:NoA 208 141:=fun v w=>by kernel_rfl
theorem jC:NoA 208 146:=fun v w=>by kernel_rfl
theorem jr:NoA 208 149:=fun v w=>by kernel_rfl
theorem rG (a:Option Addr) :IsM 209 (.agg #[.pointer a]) "loop.example/g00306/impl.kids" 197 a:=fun w=>by kernel_rfl
theorem nS (a:Option Addr) :IsM 209 (.agg #[.pointer a]) "loop.example/g00306/impl.blocks" 196 a:=fun w=>by kernel_rfl
theorem qF:NoA 209 141:=fun v w=>by kernel_rfl
theorem xA:NoA 209 146:=fun v w=>by kernel_rfl
theorem vM:NoA 209 149:=fun v w=>by kernel_rfl
theorem yX (a:Option Addr) :IsM 144 (.agg #[.pointer a]) "loop.example/g00306/impl.kids" 197 a:=fun w=>by kernel_rfl
theorem wQ (a:Option Addr) :IsM 144 (.agg #[.pointer a]) "loop.example/g00306/impl.blocks" 196 a:=fun w=>by kernel_rfl
theorem pI:NoA 144 141:=fun v w=>by kernel_rfl
theorem vJ:NoA 144 146:=fun v w=>by kernel_rfl
theorem uB:NoA 144 149:=fun v w=>by kernel_rfl
theorem iY (a:Option Addr) :IsM 141 (.agg #[.pointer a]) "loop.example/g00306/impl.kids" 195 a:=fun w=>by kernel_rfl
theorem gY (a:Option Addr) :IsM 141 (.agg #[.pointer a]) "loop.example/g00306/impl.blocks" 194 a:=fun w=>by kernel_rfl
theorem lM (v:Value) (w:World):(Instr.typeAssert (.iface 141 v) 105 141 true).run Tryz.prog w=.ok (.tuple #[v,.bool true]) w:=by kernel_rfl
theorem rC (a:Option Addr) :IsM 150 (.agg #[.pointer a]) "loop.example/g00306/impl.kids" 195 a:=fun w=>by kernel_rfl
theorem nK (a:Option Addr) :IsM 150 (.agg #[.pointer a]) "loop.example/g00306/impl.blocks" 194 a:=fun w=>by kernel_rfl
theorem jA:NoA 150 141:=fun v w=>by kernel_rfl
theorem xq:NoA 150 146:=fun v w=>by kernel_rfl
theorem vF:NoA 150 149:=fun v w=>by kernel_rfl
theorem uD (a:Option Addr) :IsM 151 (.agg #[.pointer a]) "loop.example/g00306/impl.kids" 195 a:=fun w=>by kernel_rfl
theorem pR (a:Option Addr) :IsM 151 (.agg #[.pointer a]) "loop.example/g00306/impl.blocks" 194 a:=fun w=>by kernel_rfl
theorem jV:NoA 151 141:=fun v w=>by kernel_rfl
theorem yw:NoA 151 146:=fun v w=>by kernel_rfl
theorem xw:NoA 151 149:=fun v w=>by kernel_rfl
theorem rE (a:Option Addr) :IsM 152 (.agg #[.pointer a]) "loop.example/g00306/impl.kids" 195 a:=fun w=>by kernel_rfl
theorem nR (a:Option Addr) :IsM 152 (.agg #[.pointer a]) "loop.example/g00306/impl.blocks" 194 a:=fun w=>by kernel_rfl
theorem jB:NoA 152 141:=fun v w=>by kernel_rfl
theorem xx:NoA 152 146:=fun v w=>by kernel_rfl
theorem vI:NoA 152 149:=fun v w=>by kernel_rfl
theorem lZ (a:Option Addr) :IsM 153 (.agg #[.pointer a]) "loop.example/g00306/impl.kids" 195 a:=fun w=>by kernel_rfl
theorem kw (a:Option Addr) :IsM 153 (.agg #[.pointer a]) "loop.example/g00306/impl.blocks" 194 a:=fun w=>by kernel_rfl
theorem iM:NoA 153 141:=fun v w=>by kernel_rfl
theorem rX:NoA 153 146:=fun v w=>by kernel_rfl
theorem qC:NoA 153 149:=fun v w=>by kernel_rfl
theorem nM (a:Option Addr) :IsM 154 (.agg #[.pointer a]) "loop.example/g00306/impl.kids" 195 a:=fun w=>by kernel_rfl
theorem kY (a:Option Addr) :IsM 154 (.agg #[.pointer a]) "loop.example/g00306/impl.blocks" 194 a:=fun w=>by kernel_rfl
theorem jf:NoA 154 141:=fun v w=>by kernel_rfl
theorem ut:NoA 154 146:=fun v w=>by kernel_rfl
theorem rY:NoA 154 149:=fun v w=>by kernel_rfl
theorem nN (a:Option Addr) :IsM 155 (.agg #[.pointer a]) "loop.example/g00306/impl.kids" 195 a:=fun w=>by kernel_rfl
theorem kZ (a:Option Addr) :IsM 155 (.agg #[.pointer a]) "loop.example/g00306/impl.blocks" 194 a:=fun w=>by kernel_rfl
theorem jg:NoA 155 141:=fun v w=>by kernel_rfl
theorem uw:NoA 155 146:=fun v w=>by kernel_rfl
theorem rZ:NoA 155 149:=fun v w=>by kernel_rfl
theorem uF (a:Option Addr) :IsM 156 (.agg #[.pointer a]) "loop.example/g00306/impl.kids" 195 a:=fun w=>by kernel_rfl
theorem pU (a:Option Addr) :IsM 156 (.agg #[.pointer a]) "loop.example/g00306/impl.blocks" 194 a:=fun w=>by kernel_rfl
theorem jW:NoA 156 141:=fun v w=>by kernel_rfl
theorem yx:NoA 156 146:=fun v w=>by kernel_rfl
theorem xy:NoA 156 149:=fun v w=>by kernel_rfl
theorem yV (a:Option Addr) :IsM 139 (.agg #[.pointer a]) "loop.example/g00306/impl.kids" 195 a:=fun w=>by kernel_rfl
theorem wP (a:Option Addr) :IsM 139 (.agg #[.pointer a]) "loop.example/g00306/impl.blocks" 194 a:=fun w=>by kernel_rfl
theorem pF:NoA 139 141:=fun v w=>by kernel_rfl
theorem vC:NoA 139 146:=fun v w=>by kernel_rfl
theorem uq:NoA 139 149:=fun v w=>by kernel_rfl
structure ig (T:TypeId) (v:Value) (a:Addr) (fk fb:Nat):Prop where
 kids:∀ w,(method 366 T v "loop.example/g00306/impl.kids").run Tryz.prog w=.ok (fk,.agg #[.pointer (some a)]) w
 blocks:∀ w,(method 366 T v "loop.example/g00306/impl.blocks").run Tryz.prog w=.ok (fb,.agg #[.pointer (some a)]) w
structure QD (T:TypeId) (v:Value):Prop where
 d:∀ w,(Instr.typeAssert (.iface T v) 105 141 true).run Tryz.prog w=.ok (.tuple #[.agg #[.pointer none],.bool false]) w
 u:∀ w,(Instr.typeAssert (.iface T v) 105 146 true).run Tryz.prog w=.ok (.tuple #[.agg #[.pointer none],.bool false]) w
 c:∀ w,(Instr.typeAssert (.iface T v) 105 149 true).run Tryz.prog w=.ok (.tuple #[.agg #[.pointer none],.bool false]) w
theorem Ql (k n:Int) (g o:Nat):∃ T v,exV k n g o=.iface T v/\ig T v ⟨g,o,none⟩ 197 196/\(k≠3->k≠6->QD T v):=by
 unfold exV;rcases mD k with (rfl|rfl|rfl|rfl|rfl|rfl|rfl|rfl|rfl|rfl|rfl|rfl|rfl|rfl)|⟨n0,n1,n2,n3,n4,n5,n6,n7,n8,n9,n10,n11,n12,n13⟩
 ·exact⟨_,_,rfl,⟨fun w=>dY _ _ _ w,fun w=>dH _ _ _ w⟩,fun h3 h6=>⟨fun w=>di _ w,fun w=>dV _ w,fun w=>dM _ w⟩⟩
 ·exact⟨_,_,rfl,⟨fun w=>dY _ _ _ w,fun w=>dH _ _ _ w⟩,fun h3 h6=>⟨fun w=>di _ w,fun w=>dV _ w,fun w=>dM _ w⟩⟩
 ·exact⟨_,_,rfl,⟨fun w=>dY _ _ _ w,fun w=>dH _ _ _ w⟩,fun h3 h6=>⟨fun w=>di _ w,fun w=>dV _ w,fun w=>dM _ w⟩⟩
 ·exact⟨_,_,rfl,⟨fun w=>kX _ w,fun w=>jF _ w⟩,fun h3 h6=>absurd rfl h3⟩
 ·exact⟨_,_,rfl,⟨fun w=>dY _ _ _ w,fun w=>dH _ _ _ w⟩,fun h3 h6=>⟨fun w=>di _ w,fun w=>dV _ w,fun w=>dM _ w⟩⟩
 ·exact⟨_,_,rfl,⟨fun w=>pM _ w,fun w=>mg _ w⟩,fun h3 h6=>⟨fun w=>pG _ w,fun w=>vG _ w,fun w=>uy _ w⟩⟩
 ·exact⟨_,_,rfl,⟨fun w=>jZ _ w,fun w=>jq _ w⟩,fun h3 h6=>absurd rfl h6⟩
 ·exact⟨_,_,rfl,⟨fun w=>jG _ w,fun w=>iW _ w⟩,fun h3 h6=>⟨fun w=>og _ w,fun w=>uA _ w,fun w=>sD _ w⟩⟩
 ·exact⟨_,_,rfl,⟨fun w=>nP _ w,fun w=>lg _ w⟩,fun h3 h6=>⟨fun w=>nZ _ w,fun w=>uz _ w,fun w=>su _ w⟩⟩
 ·exact⟨_,_,rfl,⟨fun w=>rD _ w,fun w=>nO _ w⟩,fun h3 h6=>⟨fun w=>qE _ w,fun w=>xu _ w,fun w=>vH _ w⟩⟩
 ·exact⟨_,_,rfl,⟨fun w=>rG _ w,fun w=>nS _ w⟩,fun h3 h6=>⟨fun w=>qF _ w,fun w=>xA _ w,fun w=>vM _ w⟩⟩
 ·exact⟨_,_,rfl,⟨fun w=>dY _ _ _ w,fun w=>dH _ _ _ w⟩,fun h3 h6=>⟨fun w=>di _ w,fun w=>dV _ w,fun w=>dM _ w⟩⟩
 ·exact⟨_,_,rfl,⟨fun w=>iZ _ _ _ _ _ w,fun w=>gZ _ _ _ _ _ w⟩,fun h3 h6=>⟨fun w=>iE _ w,fun w=>jC _ w,fun w=>jr _ w⟩⟩
 ·exact⟨_,_,rfl,⟨fun w=>iZ _ _ _ _ _ w,fun w=>gZ _ _ _ _ _ w⟩,fun h3 h6=>⟨fun w=>iE _ w,fun w=>jC _ w,fun w=>jr _ w⟩⟩
 ·rw[if_neg n0,if_neg n1,if_neg n2,if_neg n3,if_neg n4,if_neg n5,if_neg n6,if_neg n7,if_neg n8,if_neg n9,if_neg n10,if_neg n11,if_neg n12,if_neg n13];exact⟨_,_,rfl,⟨fun w=>yX _ w,fun w=>wQ _ w⟩,fun h3 h6=>⟨fun w=>pI _ w,fun w=>vJ _ w,fun w=>uB _ w⟩⟩
theorem zL (k:Int) (g o:Nat):ig (stT k) (.agg #[.pointer (some ⟨g,o,none⟩)]) ⟨g,o,none⟩ 195 194/\(k≠0->QD (stT k) (.agg #[.pointer (some ⟨g,o,none⟩)])):=by
 unfold stT;rcases jd k with (rfl|rfl|rfl|rfl|rfl|rfl|rfl|rfl)|⟨n0,n1,n2,n3,n4,n5,n6,n7⟩
 ·exact⟨⟨fun w=>iY _ w,fun w=>gY _ w⟩,fun h0=>absurd rfl h0⟩
 ·exact⟨⟨fun w=>rC _ w,fun w=>nK _ w⟩,fun h0=>⟨fun w=>jA _ w,fun w=>xq _ w,fun w=>vF _ w⟩⟩
 ·exact⟨⟨fun w=>uD _ w,fun w=>pR _ w⟩,fun h0=>⟨fun w=>jV _ w,fun w=>yw _ w,fun w=>xw _ w⟩⟩
 ·exact⟨⟨fun w=>rE _ w,fun w=>nR _ w⟩,fun h0=>⟨fun w=>jB _ w,fun w=>xx _ w,fun w=>vI _ w⟩⟩
 ·exact⟨⟨fun w=>lZ _ w,fun w=>kw _ w⟩,fun h0=>⟨fun w=>iM _ w,fun w=>rX _ w,fun w=>qC _ w⟩⟩
 ·exact⟨⟨fun w=>nM _ w,fun w=>kY _ w⟩,fun h0=>⟨fun w=>jf _ w,fun w=>ut _ w,fun w=>rY _ w⟩⟩
 ·exact⟨⟨fun w=>nN _ w,fun w=>kZ _ w⟩,fun h0=>⟨fun w=>jg _ w,fun w=>uw _ w,fun w=>rZ _ w⟩⟩
 ·exact⟨⟨fun w=>uF _ w,fun w=>pU _ w⟩,fun h0=>⟨fun w=>jW _ w,fun w=>yx _ w,fun w=>xy _ w⟩⟩
 ·rw[if_neg n0,if_neg n1,if_neg n2,if_neg n3,if_neg n4,if_neg n5,if_neg n6,if_neg n7];exact⟨⟨fun w=>yV _ w,fun w=>wP _ w⟩,fun h0=>⟨fun w=>pF _ w,fun w=>vC _ w,fun w=>uq _ w⟩⟩
end Go.Proofs.YtgaddpkkjebekaaGreatDoor
