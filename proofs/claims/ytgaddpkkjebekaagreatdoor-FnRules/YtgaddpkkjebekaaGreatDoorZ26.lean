import Derived.Test.YtgaddpkkjebekaaGreatDoorZ22
import Derived.Test.YtgaddpkkjebekaaGreatDoorZ25
import Derived.Test.YtgaddpkkjebekaaGreatDoorZ09
import Derived.Laws.OwnMore
import Derived.Deep.RegionHeld3
set_option maxHeartbeats 100000000
set_option maxRecDepth 100000
namespace Go.Proofs.YtgaddpkkjebekaaGreatDoor
open Go.RowKit Go.Maps
def Fu.nb (fs:List (List Int)) (x:Fu):Fu:=.mk x.name x.params x.rk x.rn (St.nbl fs (aO x.params) (aO x.params) x.body)
def fM (fs:List (List Int)) (l:List Fu) (j:Nat):List Fu:=(l.take j).map (Fu.nb fs)++l.drop j
theorem rO (fs:List (List Int)) (l:List Fu) (j:Nat):(fM fs l j).length=l.length:=by unfold fM;rw[List.length_append,List.length_map,List.length_take,List.length_drop];omega
theorem Je (fs:List (List Int)) (l:List Fu) (j:Nat) (h:j<l.length):(fM fs l j)[j]'(by rw[rO];exact h)=l[j]:=by
 unfold fM;have e:((l.take j).map (Fu.nb fs)).length=j:=by rw[List.length_map,List.length_take];omega
 rw[List.getElem_append_right (by omega)];simp only[List.getElem_drop,e,Nat.sub_self,Nat.add_zero]
theorem Gj (fs:List (List Int)) (l:List Fu) (j:Nat) (h:j<l.length):(fM fs l j).set j (Fu.nb fs l[j])=fM fs l (j+1):=by
 unfold fM;have e:((l.take j).map (Fu.nb fs)).length=j:=by rw[List.length_map,List.length_take];omega
 rw[List.set_append_right _ _ (by omega),e,Nat.sub_self,List.drop_eq_getElem_cons h,List.set_cons_zero,List.take_succ_eq_append_getElem h,List.map_append,List.append_assoc];rfl
theorem Eh (fs:List (List Int)) (l:List Fu):fM fs l 0=l:=by unfold fM;rw[List.take_zero];rfl
theorem Gl (fs:List (List Int)) (l:List Fu):fM fs l l.length=l.map (Fu.nb fs):=by unfold fM;rw[List.take_length,List.drop_length,List.append_nil]
theorem Tc {wr:World}{fs:List (List Int)}{l:List Fu}{gk:Nat}{F:List Nat}{j:Nat}(hl:gk<wr.heap.size) (hA:ax wr 5 gk 0 (Fu.ah (fM fs l j)) F) (hnd:(gk::F).Nodup) (hj:j<l.length) :
  ∃ u0 u1 u2 H0 H1 H2,(∀ m u,[u0,u1,.int .i64 l[j].rk,.int .i64 l[j].rn,u2][m]?=some u->wr.cell? ⟨gk,j*5+m,none⟩=some u)/\ai wr (.bytes l[j].name) [u0] H0/\ai wr (.list 3 (Pa.ah l[j].params)) [u1] H1/\ai wr (.list 8 (St.ah l[j].body)) [u2] H2/\H2.Nodup/\gk∉H2/\(∀ b∈H2,b∈F) /\
   ∀ w2 (S:List Nat),(∀ b∈S,b∉gk::F)->ay (S++H2) wr w2->ai w2 (.list 8 (St.ah (St.nbl fs (aO l[j].params) (aO l[j].params) l[j].body))) [u2] H2->ax w2 5 gk 0 (Fu.ah (fM fs l (j+1))) F:=by
 have hjl:j<(Fu.ah (fM fs l j)).length:=by rw[Fu.az,rO];exact hj
 obtain⟨cs,F1,Fj,F2,rfl,hk,hc,hd,HK⟩:=ax.lens _ j hjl hA;rw[Fu.dP _ j (by rw[rO];exact hj),Je _ _ _ hj]at hd;obtain⟨u0,u1,u2,H0,H1,H2,rfl,rfl,hn,hp,hb⟩:=Fu.iO hd;rw[Nat.zero_add]at hc HK;have hin:∀ b∈H0++H1++H2,b∈F1++((H0++H1++H2)++F2):=fun b q=>List.mem_append_right _ (List.mem_append_left _ q);have hnd':=List.nodup_cons.1 hnd;have n1:=List.nodup_append.1 hnd'.2;have n2:=List.nodup_append.1 n1.2.1;have n3:=List.nodup_append.1 n2.1;refine⟨u0,u1,u2,H0,H1,H2,fun m u hm=>(hc m u hm).1,hn,hp,hb,n3.2.1,fun q=>hnd'.1 (hin _ (List.mem_append_right _ q)),fun b q=>hin b (List.mem_append_right _ q),fun w2 S hS o2 hb2=>?_⟩
 have hfar:∀ b∈gk::(F1++((H0++H1++H2)++F2)),b∉H2->b<wr.heap.size->w2.heap[b]?=wr.heap[b]?:=fun b q hn' hb'=>o2.block b hb' (fun q'=>by
  rcases List.mem_append.1 q' with q'|q'
  ·exact hS b q' q
  ·exact hn' q')
 have hgb:=hfar gk (List.mem_cons_self ..) (fun q=>hnd'.1 (hin _ (List.mem_append_right _ q))) hl;have hn2:ai w2 (.bytes l[j].name) [u0] H0:=ai.agree o2.size _ hn (fun b q=>hfar b (List.mem_cons_of_mem _ (hin b (by simp[q]))) (fun q'=>n3.2.2 b (List.mem_append_left _ q) b q' rfl) (ai.lt _ hn b q));have hp2:ai w2 (.list 3 (Pa.ah l[j].params)) [u1] H1:=ai.agree o2.size _ hp (fun b q=>hfar b (List.mem_cons_of_mem _ (hin b (by simp[q]))) (fun q'=>n3.2.2 b (List.mem_append_right _ q) b q' rfl) (ai.lt _ hp b q));have hd2:=Fu.own (x:=Fu.nb fs l[j]) hn2 hp2 hb2;rw[show H0++(H1++H2)=H0++H1++H2 by simp[List.append_assoc]]at hd2;have hgoal:=HK w2 (Fu.nb fs l[j]).dat _ rfl (fun m u hm=>?_) hd2 o2.size (fun y _=>aj hgb) (fun b q=>?_)
 ·rw[Fu.dC,<- List.map_set,Gj _ _ _ hj,<- Fu.dC]at hgoal;exact hgoal
 ·rw[(aj hgb).1,(aj hgb).2];exact hc m u hm
 ·have hbm:b∈F1++((H0++H1++H2)++F2):=by rcases q with q|q;exact List.mem_append_left _ q;exact List.mem_append_right _ (List.mem_append_right _ q)
  refine hfar b (List.mem_cons_of_mem _ hbm) (fun q'=>?_) (ax.lt _ hA b hbm);rcases q with q|q
  ·exact n1.2.2 b q b (List.mem_append_left _ (List.mem_append_right _ q')) rfl
  ·exact n2.2.2 b (List.mem_append_right _ q') b q rfl
end Go.Proofs.YtgaddpkkjebekaaGreatDoor
namespace Go.Proofs.YtgaddpkkjebekaaGreatDoor
open Go.RowKit Go.Lib
theorem GH (n:Int):1<=(iI n).length/\(iI n).length<=21:=by
 unfold iI;have h1:=Gy 20 (-n).toNat;have h2:=Gy 20 n.toNat;have h3:0<(kE 20 n.toNat).length:=Bq 19 n.toNat;split
 ·rw[List.length_cons];omega
 ·omega
end Go.Proofs.YtgaddpkkjebekaaGreatDoor
namespace Go.Proofs.YtgaddpkkjebekaaGreatDoor
open Go.RowKit Go.Lib
end Go.Proofs.YtgaddpkkjebekaaGreatDoor
namespace Go.Proofs.YtgaddpkkjebekaaGreatDoor
open Go.RowKit Go.Lib
end Go.Proofs.YtgaddpkkjebekaaGreatDoor
namespace Go.Proofs.YtgaddpkkjebekaaGreatDoor
open Go.RowKit Go.Lib
end Go.Proofs.YtgaddpkkjebekaaGreatDoor
namespace Go.Proofs.YtgaddpkkjebekaaGreatDoor
open Go.RowKit Go.Lib
theorem BX (x y:List (List Int)):kM (x++y)=kM x++kM y:=by
 induction x with
 | nil=>rfl
 | cons a r ih=>rw[List.cons_append,kM,kM,ih];simp only[List.append_assoc]
theorem Ar (ts:List (List Int)) (j:Nat) (h:j<ts.length):joinL (ts.take (j+1))=joinL (ts.take j)++(if j=0 then [] else [32,44])++ts[j]:=by
 cases ts with
 | nil=>simp at h
 | cons x r =>
  cases j with
  | zero=>simp[joinL,kM]
  | succ j =>
   have hj:j<r.length:=by simpa using h
   rw[List.take_succ_cons,List.take_succ_cons,joinL,joinL,List.take_add_one,BX,List.getElem?_eq_getElem hj];simp[kM]
theorem MH (ts:List (List Int)) (j:Nat):(joinL (ts.take j)).length<=(joinL ts).length:=by
 have h:∀ x y:List (List Int),(joinL x).length<=(joinL (x++y)).length:=by
  intro x y
  cases x with
  | nil=>simp[joinL]
  | cons a r=>rw[List.cons_append,joinL,joinL,BX];simp only[List.length_append];omega
 have:=h (ts.take j) (ts.drop j)
 rwa [List.take_append_drop]at this
theorem Pg (ts:List (List Int)) (j:Nat) (h:j<ts.length):(joinL (ts.take j)).length+(if j=0 then 0 else 2)+ts[j].length<=(joinL ts).length:=by
 have h1:=MH ts (j+1);rw[Ar ts j h]at h1;by_cases h0:j=0
 ·rw[if_pos h0]at h1 ⊢;simp only[List.length_append,List.length_nil]at h1;omega
 ·rw[if_neg h0]at h1 ⊢;simp only[List.length_append,List.length_cons,List.length_nil]at h1;omega
end Go.Proofs.YtgaddpkkjebekaaGreatDoor
namespace Go.Proofs.YtgaddpkkjebekaaGreatDoor
open Go.RowKit Go.Lib
end Go.Proofs.YtgaddpkkjebekaaGreatDoor
namespace Go.Proofs.YtgaddpkkjebekaaGreatDoor
open Go.RowKit Go.Lib
structure Jv (l:List Sc) (k n tk tn:Int) (name:List Int) (m:Nat):Prop where
 k0:0<=k
 k13:k<=13
 n64:InR n
 many:m<=1000
 short:name.length<=1000
 st:k=2\/k=4->0<=n/\n<l.length
 op:k=10->0<=n/\n<7
 nm:k=3\/k=6\/k=7->1<=name.length
 one:k=7\/k=8\/k=10->1<=m
 two:k=8\/k=10->2<=m
 ty:k=5->tk=3\/tk=6->0<=tn/\tn<l.length
inductive Ex.Fine (l:List Sc):Ex->Prop
 | mk {k n tk tn:Int}{name:List Int}{kids:List Ex}(h:Jv l k n tk tn name kids.length) (hs:∀ x∈kids,Ex.Fine l x):Ex.Fine l (.mk k n tk tn name kids)
theorem EQ (l:List Sc) (xs:List Ex) (j:Nat) (h:j<(Ex.says l xs).length) (h':j<xs.length):(Ex.says l xs)[j]=Ex.say l xs[j]:=by
 have:=Ex.vY l xs j h';unfold dU at this;rw[List.getD_eq_getElem?_getD,List.getElem?_eq_getElem h]at this;exact this
theorem fourteen {k:Int}(h0:0<=k) (h1:k<=13):k=0\/k=1\/k=2\/k=3\/k=4\/k=5\/k=6\/k=7\/k=8\/k=9\/k=10\/k=11\/k=12\/k=13:=by omega
end Go.Proofs.YtgaddpkkjebekaaGreatDoor
namespace Go.Proofs.YtgaddpkkjebekaaGreatDoor
open Go.RowKit Go.Lib
end Go.Proofs.YtgaddpkkjebekaaGreatDoor
namespace Go.Proofs.YtgaddpkkjebekaaGreatDoor
open Go.RowKit Go.Lib
theorem Nq (Ts:List (List Int)) (j:Nat) (h:j<Ts.length):(Ts.take (j+1)).flatten=(Ts.take j).flatten++Ts[j]:=by
 rw[List.take_add_one,List.getElem?_eq_getElem h,List.flatten_append];show _++(Ts[j]++[])=_;rw[List.append_nil]
theorem Qh (Ts:List (List Int)) (j:Nat):(Ts.take j).flatten.length<=Ts.flatten.length:=by
 have:Ts.flatten=(Ts.take j).flatten++(Ts.drop j).flatten:=by rw[<-List.flatten_append,List.take_append_drop]
 rw[this,List.length_append];omega
structure VB (l:List Sc) (k tk tn:Int) (name:List Int) (m:Nat):Prop where
 k0:0<=k
 k7:k<=7
 nm:k=0->1<=name.length
 ty:k=0->tk=3\/tk=6->0<=tn/\tn<l.length
 two:k=1->2<=m
 one:k=2\/k=3\/k=5\/k=6\/k=7->1<=m
theorem Lm (l:List Sc) (ss:List St):St.says l ss=(ss.map (St.say l)).flatten:=by
 induction ss with
 | nil=>rw[St.says];rfl
 | cons x r ih=>rw[St.says,List.map_cons,List.flatten_cons,ih]
theorem Rl {l:List Sc}{x:Ex}(h:Ex.Fine l x):2<=(Ex.say l x).length:=by
 cases h with
 | @mk k n tk tn name kids h hs =>
 rw[Ex.say];have hd:=GH n;have hh:=Ba n;obtain rfl|rfl|rfl|rfl|rfl|rfl|rfl|rfl|rfl|rfl|rfl|rfl|rfl|rfl:=fourteen h.k0 h.k13
 ·show 2<=(32::iI n).length;rw[List.length_cons];omega
 ·show 2<=(32::hexL n).length;rw[List.length_cons];omega
 ·show 2<=([32,110,105,108,32]++iC l n).length;simp
 ·have:=h.nm (.inl rfl);show 2<=(32::name).length;rw[List.length_cons];omega
 ·show 2<=([32,110,101,119,32]++iC l n).length;simp
 ·show 2<=(nV l 5 tk tn name++[32,40]++joinL (Ex.says l kids)++[32,41]).length;simp;omega
 ·show 2<=(nV l 6 tk tn name++[32,40]++joinL (Ex.says l kids)++[32,41]).length;simp;omega
 ·show 2<=(dU (Ex.says l kids) 0++[32,46,32]++name).length;simp;omega
 ·show 2<=(dU (Ex.says l kids) 0++[32,91]++dU (Ex.says l kids) 1++[32,93]).length;simp;omega
 ·show 2<=(nV l 9 tk tn name++[32,40]++joinL (Ex.says l kids)++[32,41]).length;simp;omega
 ·show 2<=([32,40]++dU (Ex.says l kids) 0++(32::opL n)++dU (Ex.says l kids) 1++[32,41]).length;simp
 ·show 2<=[32,114,101,97,100].length;simp
 ·show 2<=(nV l 12 tk tn name++[32,40]++joinL (Ex.says l kids)++[32,41]).length;simp;omega
 ·show 2<=(nV l 13 tk tn name++[32,40]++joinL (Ex.says l kids)++[32,41]).length;simp;omega
theorem yM (l:List Sc) (x y:List Pa):bi l (x++y)=bi l x++bi l y:=by
 induction x with
 | nil=>rfl
 | cons a r ih=>rw[List.cons_append,bi,bi,ih];simp only[List.append_assoc]
theorem EP (l:List Sc) (x y:List Sc):ji l (x++y)=ji l x++ji l y:=by
 induction x with
 | nil=>rfl
 | cons a r ih=>rw[List.cons_append,ji,ji,ih];simp only[List.append_assoc]
theorem Gh (l:List Sc) (x y:List Fu):jI l (x++y)=jI l x++jI l y:=by
 induction x with
 | nil=>rfl
 | cons a r ih=>rw[List.cons_append,jI,jI,ih];simp only[List.append_assoc]
theorem take_snoc {α:Type}(xs:List α) (j:Nat) (h:j<xs.length):xs.take (j+1)=xs.take j++[xs[j]]:=by
 rw[List.take_add_one,List.getElem?_eq_getElem h];rfl
theorem Em (l:List Sc) (xs:List Pa) (j:Nat) (h:j<xs.length):bi l (xs.take (j+1))=bi l (xs.take j)++(paL l xs[j]++[32,59,10]):=by
 rw[take_snoc xs j h,yM,bi,bi,List.append_nil]
theorem Ll (l:List Sc) (xs:List Sc) (j:Nat) (h:j<xs.length):ji l (xs.take (j+1))=ji l (xs.take j)++scL l xs[j]:=by
 rw[take_snoc xs j h,EP,ji,ji,List.append_nil]
theorem Nk (l:List Sc) (xs:List Fu) (j:Nat) (h:j<xs.length):jI l (xs.take (j+1))=jI l (xs.take j)++fuL l xs[j]:=by
 rw[take_snoc xs j h,Gh,jI,jI,List.append_nil]
theorem Gs (l:List Sc) (xs:List Pa) (j:Nat):(bi l (xs.take j)).length<=(bi l xs).length:=by
 have:=yM l (xs.take j) (xs.drop j);rw[List.take_append_drop]at this;rw[this,List.length_append];omega
theorem Oa (l:List Sc) (xs:List Sc) (j:Nat):(ji l (xs.take j)).length<=(ji l xs).length:=by
 have:=EP l (xs.take j) (xs.drop j);rw[List.take_append_drop]at this;rw[this,List.length_append];omega
theorem PZ (l:List Sc) (xs:List Fu) (j:Nat):(jI l (xs.take j)).length<=(jI l xs).length:=by
 have:=Gh l (xs.take j) (xs.drop j);rw[List.take_append_drop]at this;rw[this,List.length_append];omega
end Go.Proofs.YtgaddpkkjebekaaGreatDoor
