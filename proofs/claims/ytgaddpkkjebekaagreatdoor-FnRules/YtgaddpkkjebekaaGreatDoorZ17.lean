import Derived.Test.YtgaddpkkjebekaaGreatDoorZ12
set_option maxHeartbeats 100000000
set_option maxRecDepth 100000
namespace Go.Proofs.YtgaddpkkjebekaaGreatDoor
open Go.RowKit Go.Maps
mutual
def St.nb (fs:List (List Int)):List (List Int)->List (List Int)->St->St
 | all,seen,.mk k n tk tn nm ks bo el=>.mk k (if k=0 then (all.length:Int) else n) tk tn nm (Ex.nbs fs (all++jk k nm) (seen++jk k nm) ks) (St.nbl fs (all++jk k nm) (seen++jk k nm) bo) (St.nbl fs (all++jk k nm++St.decls bo) (seen++jk k nm) el)
def St.nbl (fs:List (List Int)):List (List Int)->List (List Int)->List St->List St
 | _,_,[]=>[]
 | all,seen,x::r=>St.nb fs all seen x::St.nbl fs (all++x.decl) (seen++x.jQ) r
end
theorem St.Fh (fs all seen:List (List Int)) (x:St):(St.nb fs all seen x).kind=x.kind/\(St.nb fs all seen x).n=(if x.kind=0 then (all.length:Int) else x.n)/\(St.nb fs all seen x).tk=x.tk/\(St.nb fs all seen x).tn=x.tn/\(St.nb fs all seen x).name=x.name/\(St.nb fs all seen x).kids=Ex.nbs fs (all++x.jQ) (seen++x.jQ) x.kids/\(St.nb fs all seen x).body=St.nbl fs (all++x.jQ) (seen++x.jQ) x.body/\(St.nb fs all seen x).els=St.nbl fs (all++x.jQ++St.decls x.body) (seen++x.jQ) x.els:=by
 obtain⟨k,n,tk,tn,nm,ks,bo,el⟩:=x;rw[St.nb];exact⟨rfl,rfl,rfl,rfl,rfl,rfl,rfl,rfl⟩
theorem St.Sr (fs:List (List Int)) (l r:List St):∀ all seen,St.nbl fs all seen (l++r)=St.nbl fs all seen l++St.nbl fs (all++St.decls l) (seen++St.bU l) r:=by
 induction l with
 | nil=>intro all seen;rw[List.nil_append,St.nbl,List.nil_append,St.decls,St.bU,List.append_nil,List.append_nil]
 | cons x l ih=>intro all seen;rw[List.cons_append,St.nbl,St.nbl,ih,St.decls,St.bU,List.cons_append,List.append_assoc,List.append_assoc]
theorem St.oN (fs:List (List Int)) (l:List St):∀ all seen,(St.nbl fs all seen l).length=l.length:=by
 induction l with
 | nil=>intro all seen;rw[St.nbl]
 | cons x l ih=>intro all seen;rw[St.nbl,List.length_cons,List.length_cons,ih]
def eQ (fs all seen:List (List Int)) (l:List St) (j:Nat):List St:=St.nbl fs all seen (l.take j)++l.drop j
theorem qX (fs all seen:List (List Int)) (l:List St) (j:Nat):(eQ fs all seen l j).length=l.length:=by unfold eQ;rw[List.length_append,St.oN,List.length_take,List.length_drop];omega
theorem Hu (fs all seen:List (List Int)) (l:List St) (j:Nat) (h:j<l.length):(eQ fs all seen l j)[j]'(by rw[qX];exact h)=l[j]:=by
 unfold eQ;have e:(St.nbl fs all seen (l.take j)).length=j:=by rw[St.oN,List.length_take];omega
 rw[List.getElem_append_right (by omega)];simp[e]
theorem EK (fs all seen:List (List Int)) (l:List St) (j:Nat) (h:j<l.length):(eQ fs all seen l j).set j (St.nb fs (all++St.decls (l.take j)) (seen++St.bU (l.take j)) l[j])=eQ fs all seen l (j+1):=by
 unfold eQ;have e:(St.nbl fs all seen (l.take j)).length=j:=by rw[St.oN,List.length_take];omega
 rw[List.set_append_right _ _ (by omega),e,Nat.sub_self,List.drop_eq_getElem_cons h,List.set_cons_zero,List.take_succ_eq_append_getElem h,St.Sr,St.nbl,St.nbl,List.append_assoc];rfl
theorem DJ (fs all seen:List (List Int)) (l:List St):eQ fs all seen l 0=l:=by unfold eQ;rw[List.take_zero,St.nbl];rfl
theorem EL (fs all seen:List (List Int)) (l:List St):eQ fs all seen l l.length=St.nbl fs all seen l:=by unfold eQ;rw[List.take_length,List.drop_length,List.append_nil]
structure SIn (w:World) (K bf bd bs:Nat) (fs all seen:List (List Int)) (x:St) (g o:Nat) (v0 v1 v2 v3:Value) (G0 G1 G2 G3:List Nat):Prop where
 ng:Ng w K bf bd bs fs all seen
 ty:TyE w
 lt:g<w.heap.size
 cells:∀ m u,[.int .i64 x.kind,.int .i64 x.n,.int .i64 x.tk,.int .i64 x.tn,v0,v1,v2,v3][m]?=some u->w.cell? ⟨g,o+m,none⟩=some u/\w.frozen? ⟨g,o+m,none⟩=false
 nm:ai w (.bytes x.name) [v0] G0
 kids:ai w (.list 6 (Ex.ah x.kids)) [v1] G1
 body:ai w (.list 8 (St.ah x.body)) [v2] G2
 els:ai w (.list 8 (St.ah x.els)) [v3] G3
 nd:(g::(G0++G1++G2++G3)).Nodup
 sep:∀ b∈g::(G0++G1++G2++G3),Sp K bf bd bs b
theorem bz {w w':World}{d:Dat}{cs:List Value}{F:List Nat}(h:ai w d cs F) (l:Later w w'):ai w' d cs F:=ai.agree l.size _ h (fun b q=>l.block b (ai.lt _ h b q))
theorem SIn.later {w w':World}{K bf bd bs:Nat}{fs all seen:List (List Int)}{x:St}{g o:Nat}{v0 v1 v2 v3:Value}{G0 G1 G2 G3:List Nat}(h:SIn w K bf bd bs fs all seen x g o v0 v1 v2 v3 G0 G1 G2 G3) (l:Later w w'):SIn w' K bf bd bs fs all seen x g o v0 v1 v2 v3 G0 G1 G2 G3:=by
 have hb:=fun y=>aj (w:=w) (w':=w') (b:=g) (o:=y) (l.block g h.lt);exact⟨h.ng.later l,h.ty.later l,Nat.lt_of_lt_of_le h.lt l.size,fun m u hm=>by rw[(hb (o+m)).1,(hb (o+m)).2];exact h.cells m u hm,bz h.nm l,bz h.kids l,bz h.body l,bz h.els l,h.nd,h.sep⟩
def SPt (w:World) (K bf bd bs:Nat) (fs all seen:List (List Int)) (x:St) (g o:Nat) (v1 v2 v3:Value) (G1 G2 G3:List Nat) (e:Ending) (w':World):Prop :=
 ∃ b,e=.returned (.bool b)/\b=St.Bi fs all seen x/\OnlyC g (o+1) (bd::bs::(G1++G2++G3)) w w' /\
  (b=true->w'.cell? ⟨g,o+1,none⟩=some (.int .i64 (if x.kind=0 then (all.length:Int) else x.n))/\ai w' (.list 6 (Ex.ah (Ex.nbs fs (all++x.jQ) (seen++x.jQ) x.kids))) [v1] G1/\ai w' (.list 8 (St.ah (St.nbl fs (all++x.jQ) (seen++x.jQ) x.body))) [v2] G2/\ai w' (.list 8 (St.ah (St.nbl fs (all++x.jQ++St.decls x.body) (seen++x.jQ) x.els))) [v3] G3/\Ng w' K bf bd bs fs (all++x.decl) (seen++x.jQ))
def SBl (w:World) (K bf bd bs:Nat) (fs all seen:List (List Int)) (l:List St) (v:Value) (G:List Nat) (e:Ending) (w':World):Prop :=
 ∃ b,e=.returned (.bool b)/\b=St.bP fs all seen l/\ay (bd::bs::G) w w'/\(b=true->ai w' (.list 8 (St.ah (St.nbl fs all seen l))) [v] G/\Ng w' K bf bd bs fs (all++St.decls l) seen)
theorem Ri {w wr:World}{K bf bd bs:Nat}{fs all seen:List (List Int)}{l:List St}{gk:Nat}{F:List Nat}{j:Nat}(hng:Ng wr K bf bd bs fs (all++St.decls (l.take j)) (seen++St.bU (l.take j))) (hty:TyE wr) (hl:gk<w.heap.size) (hO:ay (bd::bs::gk::F) w wr) (hA:ax wr 8 gk 0 (St.ah (eQ fs all seen l j)) F) (hnd:(gk::F).Nodup) (hsp:∀ b∈gk::F,Sp K bf bd bs b) (hj:j<l.length) :
  ∃ u0 u1 u2 u3 H0 H1 H2 H3,SIn wr K bf bd bs fs (all++St.decls (l.take j)) (seen++St.bU (l.take j)) l[j] gk (j*8) u0 u1 u2 u3 H0 H1 H2 H3/\∀ w1 w2,Later wr w1->OnlyC gk (j*8+1) (bd::bs::(H1++H2++H3)) w1 w2->ay (bd::bs::gk::F) w w2 /\
   (w2.cell? ⟨gk,j*8+1,none⟩=some (.int .i64 (St.nb fs (all++St.decls (l.take j)) (seen++St.bU (l.take j)) l[j]).n)->ai w2 (.list 6 (Ex.ah (St.nb fs (all++St.decls (l.take j)) (seen++St.bU (l.take j)) l[j]).kids)) [u1] H1->ai w2 (.list 8 (St.ah (St.nb fs (all++St.decls (l.take j)) (seen++St.bU (l.take j)) l[j]).body)) [u2] H2->ai w2 (.list 8 (St.ah (St.nb fs (all++St.decls (l.take j)) (seen++St.bU (l.take j)) l[j]).els)) [u3] H3->ax w2 8 gk 0 (St.ah (eQ fs all seen l (j+1))) F):=by
 have hjl:j<(St.ah (eQ fs all seen l j)).length:=by rw[St.az,qX];exact hj
 obtain⟨cs,F1,Fj,F2,rfl,hk,hc,hd,HK⟩:=ax.lens _ j hjl hA;rw[St.dP _ j (by rw[qX];exact hj),Hu _ _ _ _ _ hj]at hd;obtain⟨u0,u1,u2,u3,H0,H1,H2,H3,rfl,rfl,hn,hkd,hbd,hel⟩:=St.iO hd;rw[Nat.zero_add]at hc HK;have hlr:gk<wr.heap.size:=Nat.lt_of_lt_of_le hl hO.size;have hin:∀ b∈H0++H1++H2++H3,b∈F1++((H0++H1++H2++H3)++F2):=fun b q=>List.mem_append_right _ (List.mem_append_left _ q);have hsub:∀ b∈H1++H2++H3,b∈H0++H1++H2++H3:=fun b q=>by simp only[List.mem_append]at q ⊢;rcases q with (q|q)|q <;> simp[q]
 have hnd':=List.nodup_cons.1 hnd;have hgn:gk∉H0++H1++H2++H3:=fun q=>hnd'.1 (hin _ q);have n1:=List.nodup_append.1 hnd'.2;have n2:=List.nodup_append.1 n1.2.1
 have n0:∀ b∈H0,b∉H1++H2++H3:=fun b q q'=>by
  have:(H0++(H1++H2++H3)).Nodup:=by simpa[List.append_assoc] using n2.1
  exact (List.nodup_append.1 this).2.2 b q b q' rfl
 have hspF:∀ b∈F1++((H0++H1++H2++H3)++F2),b≠bd/\b≠bs:=fun b q=>⟨(hsp b (List.mem_cons_of_mem _ q)).2.2.1,(hsp b (List.mem_cons_of_mem _ q)).2.2.2.1⟩
 refine⟨u0,u1,u2,u3,H0,H1,H2,H3,⟨hng,hty,hlr,hc,hn,hkd,hbd,hel,List.nodup_cons.2 ⟨hgn,n2.1⟩,fun b q=>hsp b ?_⟩,fun w1 w2 l1 oc=>⟨?_,fun hcell hk2 hb2 he2=>?_⟩⟩
 ·rcases List.mem_cons.1 q with rfl|q
  ·exact List.mem_cons_self ..
  ·exact List.mem_cons_of_mem _ (hin b q)
 ·refine (hO.trans (ay.of_later l1)).trans (oc.only.mono fun b q=>?_);rcases List.mem_cons.1 q with rfl|q
  ·simp
  ·rcases List.mem_cons.1 q with rfl|q
   ·simp
   ·rcases List.mem_cons.1 q with rfl|q
    ·simp
    ·exact List.mem_cons_of_mem _ (List.mem_cons_of_mem _ (List.mem_cons_of_mem _ (hin b (hsub b q))))
 ·have hb1:∀ b,b<wr.heap.size->b∉H1++H2++H3->b≠bd->b≠bs->b≠gk->w2.heap[b]?=wr.heap[b]?:=fun b hb hn h1 h2 hg=>by rw[oc.block b (Nat.lt_of_lt_of_le hb l1.size) (fun q=>by rcases List.mem_cons.1 q with q|q;exact h1 q;rcases List.mem_cons.1 q with q|q;exact h2 q;exact hn q) hg,l1.block b hb]
  have hcell1:∀ y,y≠j*8+1->w2.cell? ⟨gk,y,none⟩=wr.cell? ⟨gk,y,none⟩:=fun y hy=>by rw[oc.cells y hy,(aj (l1.block gk hlr)).1]
  have hfr1:∀ y,w2.frozen? ⟨gk,y,none⟩=wr.frozen? ⟨gk,y,none⟩:=fun y=>by rw[oc.Jf y,(aj (l1.block gk hlr)).2]
  have hsz:wr.heap.size<=w2.heap.size:=Nat.le_trans l1.size oc.size;have hn2:ai w2 (.bytes l[j].name) [u0] H0:=ai.agree hsz _ hn (fun b q=>hb1 b (ai.lt _ hn b q) (n0 b q) (hspF b (hin b (by simp[q]))).1 (hspF b (hin b (by simp[q]))).2 (fun e=>hgn (by rw[<-e];simp[q])));obtain⟨e1,e2,e3,e4,e5,e6,e7,e8⟩:=St.Fh fs (all++St.decls (l.take j)) (seen++St.bU (l.take j)) l[j];have hd2:=St.own (x:=St.nb fs (all++St.decls (l.take j)) (seen++St.bU (l.take j)) l[j]) (by rw[e5];exact hn2) hk2 hb2 he2;rw[show H0++(H1++(H2++H3))=H0++H1++H2++H3 by simp[List.append_assoc]]at hd2;have hgoal:=HK w2 (St.nb fs (all++St.decls (l.take j)) (seen++St.bU (l.take j)) l[j]).dat _ rfl (fun m u hm=>?_) hd2 hsz (fun y hy=>⟨hcell1 y (by omega),hfr1 y⟩) (fun b q=>?_)
  ·rw[St.dC,<- List.map_set,EK _ _ _ _ _ hj,<- St.dC]at hgoal;exact hgoal
  ·by_cases hm1:m=1
   ·subst hm1;have:u=.int .i64 (St.nb fs (all++St.decls (l.take j)) (seen++St.bU (l.take j)) l[j]).n:=by simpa using hm.symm
    rw[this];exact⟨hcell,by rw[hfr1];exact (hc 1 _ rfl).2⟩
   ·rw[e1,e3,e4]at hm
    have:[Value.int .i64 l[j].kind,.int .i64 l[j].n,.int .i64 l[j].tk,.int .i64 l[j].tn,u0,u1,u2,u3][m]?=some u:=by
     rcases m with _|_|m
     ·exact hm
     ·exact absurd rfl hm1
     ·exact hm
    rw[hcell1 _ (by omega),hfr1];exact hc m u this
  ·have hbm:b∈F1++((H0++H1++H2++H3)++F2):=by rcases q with q|q;exact List.mem_append_left _ q;exact List.mem_append_right _ (List.mem_append_right _ q)
   refine hb1 b ?_ (fun q'=>?_) (hspF b hbm).1 (hspF b hbm).2 (fun e=>hnd'.1 (e ▸ hbm))
   ·exact ax.lt _ hA b hbm
   ·rcases q with q|q
    ·exact n1.2.2 b q b (List.mem_append_left _ (hsub b q')) rfl
    ·exact n2.2.2 b (hsub b q') b q rfl
mutual
def St.noK:St->Prop
 | .mk k _ _ _ _ ks bo el=>(k=0->ks=[])/\St.ru bo/\St.ru el
def St.ru:List St->Prop
 | []=>True
 | x::r=>x.noK/\St.ru r
end
theorem St.OT (x:St):x.noK↔(x.kind=0->x.kids=[])/\St.ru x.body/\St.ru x.els:=by obtain⟨k,n,tk,tn,nm,ks,bo,el⟩:=x;rw[St.noK];exact Iff.rfl
theorem St.JM:∀ (l:List St),St.ru l->∀ j (h:j<l.length),l[j].noK
 | x::r,h,0,_=>by rw[St.ru]at h;exact h.1
 | x::r,h,j+1,q=>by rw[St.ru]at h;exact St.JM r h.2 j (Nat.lt_of_succ_lt_succ q)
def mO (l:List St):Prop:=∀ w K bf bd bs fs all seen v G,Ng w K bf bd bs fs all seen->TyE w->ai w (.list 8 (St.ah l)) [v] G->G.Nodup->(∀ b∈G,Sp K bf bd bs b)->all.length+St.nums l<=700000->St.ru l->bd≠0/\bd≠1/\bs≠0/\bs≠1->Calls Tryz.prog 27 #[.pointer (some ⟨K,0,none⟩),v] w (SBl w K bf bd bs fs all seen l v G)
def SWi (w:World) (K bf bd bs:Nat) (fs all seen:List (List Int)) (ks:List Ex) (bo el:List St) (v1 v2 v3:Value) (G1 G2 G3:List Nat) (e:Ending) (w':World):Prop :=
 ∃ b,e=.returned (.bool b)/\b=(Ex.bM fs seen ks&&St.bP fs all seen bo&&St.bP fs (all++St.decls bo) seen el)/\ay (bd::bs::(G1++G2++G3)) w w' /\
  (b=true->ai w' (.list 6 (Ex.ah (Ex.nbs fs all seen ks))) [v1] G1/\ai w' (.list 8 (St.ah (St.nbl fs all seen bo))) [v2] G2/\ai w' (.list 8 (St.ah (St.nbl fs (all++St.decls bo) seen el))) [v3] G3/\Ng w' K bf bd bs fs (all++St.decls bo++St.decls el) seen)
theorem dI {w:World}{k:Nat}{l:List Dat}{v:Value}{G:List Nat}(h:ai w (.list k l) [v] G):∃ a n c,v=.slice a n c:=by
 rw[ai]at h;obtain⟨a,c,e,_⟩:=h;exact⟨a,_,c,by simpa using e⟩
theorem TyE.JK {w w':World}{bd bs:Nat}{K bf:Nat}{F:List Nat}(h:TyE w) (o:ay (bd::bs::F) w w') (hs:∀ b∈F,Sp K bf bd bs b) (hm:bd≠0/\bd≠1/\bs≠0/\bs≠1):TyE w':=by
 have hi:=o.block _ (aK h.i0) (fun q=>by rcases List.mem_cons.1 q with q|q;exact hm.1 q.symm;rcases List.mem_cons.1 q with q|q;exact hm.2.2.1 q.symm;exact (hs _ q).2.2.2.2.1 rfl);have hf:=o.block _ (aK h.f0) (fun q=>by rcases List.mem_cons.1 q with q|q;exact hm.2.1 q.symm;rcases List.mem_cons.1 q with q|q;exact hm.2.2.2 q.symm;exact (hs _ q).2.2.2.2.2 rfl);exact⟨by rw[(aj hi).1];exact h.i0,by rw[(aj hi).1];exact h.i1,by rw[(aj hf).1];exact h.f0,by rw[(aj hf).1];exact h.f1⟩
structure Mid (w W:World) (K bf bd bs:Nat) (fs all seen:List (List Int)) (ks:List Ex) (bo el:List St) (v1 v2 v3:Value) (G1 G2 G3:List Nat) (B:Nat):Prop where
 o:ay (bd::bs::(G1++G2++G3)) w W
 k:ai W (.list 6 (Ex.ah ks)) [v1] G1
 b:ai W (.list 8 (St.ah bo)) [v2] G2
 e:ai W (.list 8 (St.ah el)) [v3] G3
 ng:Ng W K bf bd bs fs all seen
 ty:TyE W
 d0:W.cell? ⟨B,0,none⟩=some v2
 d1:W.cell? ⟨B,1,none⟩=some v3
 lt:B<W.heap.size
 far:∀ b∈bd::bs::(G1++G2++G3),b<B
theorem Mid.two {w W w':World}{K bf bd bs:Nat}{fs all seen all':List (List Int)}{ks:List Ex}{bo el bo':List St}{v1 v2 v3:Value}{G1 G2 G3:List Nat}{B:Nat}(h:Mid w W K bf bd bs fs all seen ks bo el v1 v2 v3 G1 G2 G3 B) (hN:(G1++G2++G3).Nodup) (hS:∀ b∈G1++G2++G3,Sp K bf bd bs b) (hm:bd≠0/\bd≠1/\bs≠0/\bs≠1) (o2:ay (bd::bs::G2) W w') :
  ay (bd::bs::(G1++G2++G3)) w w'/\(ai w' (.list 8 (St.ah bo')) [v2] G2->Ng w' K bf bd bs fs all' seen->Mid w w' K bf bd bs fs all' seen ks bo' el v1 v2 v3 G1 G2 G3 B):=by
 have hs2:∀ b∈bd::bs::G2,b∈bd::bs::(G1++G2++G3):=fun b q=>by simp only[List.mem_cons,List.mem_append]at q ⊢;rcases q with q|q|q <;> simp[q]
 have hx:=o2.block B h.lt (fun q=>by have:=h.far B (hs2 B q);omega)
 have hd:∀ G:List Nat,(∀ b∈G,b∈G1++G2++G3)->(∀ b∈G,b∉G2)->∀ b∈G,b∉bd::bs::G2:=fun G h1 h2 b q q'=>by
  rcases List.mem_cons.1 q' with e|q'
  ·exact (hS b (h1 b q)).2.2.1 e
  ·rcases List.mem_cons.1 q' with e|q'
   ·exact (hS b (h1 b q)).2.2.2.1 e
   ·exact h2 b q q'
 have m1:=List.nodup_append.1 hN;have m2:=List.nodup_append.1 m1.1;refine⟨h.o.trans (o2.mono hs2),fun hb hg=>⟨h.o.trans (o2.mono hs2),ai.only h.k o2 (hd G1 (fun b q=>by simp[q]) (fun b q q'=>m2.2.2 b q b q' rfl)),hb,ai.only h.e o2 (hd G3 (fun b q=>by simp[q]) (fun b q q'=>m1.2.2 b (List.mem_append_right _ q') b q rfl)),hg,h.ty.JK o2 (fun b q=>hS b (by simp[q])) hm,by rw[(aj hx).1];exact h.d0,by rw[(aj hx).1];exact h.d1,Nat.lt_of_lt_of_le h.lt o2.size,h.far⟩⟩
theorem Mid.three {w W w':World}{K bf bd bs:Nat}{fs all seen all':List (List Int)}{ks:List Ex}{bo el el':List St}{v1 v2 v3:Value}{G1 G2 G3:List Nat}{B:Nat}(h:Mid w W K bf bd bs fs all seen ks bo el v1 v2 v3 G1 G2 G3 B) (hN:(G1++G2++G3).Nodup) (hS:∀ b∈G1++G2++G3,Sp K bf bd bs b) (hm:bd≠0/\bd≠1/\bs≠0/\bs≠1) (o2:ay (bd::bs::G3) W w') :
  ay (bd::bs::(G1++G2++G3)) w w'/\(ai w' (.list 8 (St.ah el')) [v3] G3->Ng w' K bf bd bs fs all' seen->Mid w w' K bf bd bs fs all' seen ks bo el' v1 v2 v3 G1 G2 G3 B):=by
 have hs2:∀ b∈bd::bs::G3,b∈bd::bs::(G1++G2++G3):=fun b q=>by simp only[List.mem_cons,List.mem_append]at q ⊢;rcases q with q|q|q <;> simp[q]
 have hx:=o2.block B h.lt (fun q=>by have:=h.far B (hs2 B q);omega)
 have hd:∀ G:List Nat,(∀ b∈G,b∈G1++G2++G3)->(∀ b∈G,b∉G3)->∀ b∈G,b∉bd::bs::G3:=fun G h1 h2 b q q'=>by
  rcases List.mem_cons.1 q' with e|q'
  ·exact (hS b (h1 b q)).2.2.1 e
  ·rcases List.mem_cons.1 q' with e|q'
   ·exact (hS b (h1 b q)).2.2.2.1 e
   ·exact h2 b q q'
 have m1:=List.nodup_append.1 hN;refine⟨h.o.trans (o2.mono hs2),fun hb hg=>⟨h.o.trans (o2.mono hs2),ai.only h.k o2 (hd G1 (fun b q=>by simp[q]) (fun b q q'=>m1.2.2 b (List.mem_append_left _ q) b q' rfl)),ai.only h.b o2 (hd G2 (fun b q=>by simp[q]) (fun b q q'=>m1.2.2 b (List.mem_append_right _ q) b q' rfl)),hb,hg,h.ty.JK o2 (fun b q=>hS b (by simp[q])) hm,by rw[(aj hx).1];exact h.d0,by rw[(aj hx).1];exact h.d1,Nat.lt_of_lt_of_le h.lt o2.size,h.far⟩⟩
theorem FT (ks:List Ex) (bo el:List St) (hI:∀ j (hj:j<ks.length),oq ks[j]) (hBo:mO bo) (hEl:mO el) (w:World) (K bf bd bs:Nat) (fs all seen:List (List Int)) (g o:Nat) (v1 v2 v3:Value) (G1 G2 G3:List Nat) (T:TypeId) (pv:Value)
  (hng:Ng w K bf bd bs fs all seen) (hty:TyE w) (hgl:g<w.heap.size) (h5:w.cell? ⟨g,o+5,none⟩=some v1) (h6:w.cell? ⟨g,o+6,none⟩=some v2) (h7:w.cell? ⟨g,o+7,none⟩=some v3) (hk:ai w (.list 6 (Ex.ah ks)) [v1] G1) (hb:ai w (.list 8 (St.ah bo)) [v2] G2) (he:ai w (.list 8 (St.ah el)) [v3] G3)
  (hgn:g∉G1) (hN:(G1++G2++G3).Nodup) (hS:∀ b∈G1++G2++G3,Sp K bf bd bs b) (hm:bd≠0/\bd≠1/\bs≠0/\bs≠1) (hz:all.length+St.nums bo+St.nums el<=700000) (hn2:St.ru bo) (hn3:St.ru el)
  (hV:ig T pv ⟨g,o,none⟩ 195 194) :
  Calls Tryz.prog 88 #[.pointer (some ⟨K,0,none⟩),.iface T pv] w (SWi w K bf bd bs fs all seen ks bo el v1 v2 v3 G1 G2 G3):=by
 have m1:=List.nodup_append.1 hN;have m2:=List.nodup_append.1 m1.1;have hnd:=m2.1;have hsp:∀ b∈G1,Sp K bf bd bs b:=fun b q=>hS b (List.mem_append_left _ (List.mem_append_left _ q));have hsub:∀ b∈G1,b∈bd::bs::(G1++G2++G3):=fun b q=>by simp[q]
 obtain⟨a,cap,rfl,hlen,hpos,hback⟩:=CS (fs:=fs) (all:=all) (seen:=seen) hk;obtain⟨a2,l2,c2,rfl⟩:=dI hb;obtain⟨a3,l3,c3,rfl⟩:=dI he;have hmk:=hV.kids;have hmb:=hV.blocks;have hK:=PI g o a ks.length cap w h5
 have HF:Hid (∀ w' j,(hj:j<ks.length)->ay G1 w w'->ks[j].lN fs seen=false->SWi w K bf bd bs fs all seen ks bo el (.slice a ks.length cap) (.slice a2 l2 c2) (.slice a3 l3 c3) G1 G2 G3 (.returned (.bool false)) w'):=fun w' j hj o1 hb=>⟨false,rfl,by rw[zD hj hb];rfl,o1.mono hsub,fun h=>by cases h⟩
 have hB:=fun w' (h:ay G1 w w')=>PS g o a2 a3 l2 c2 l3 c3 w' (by rw[(aj (h.block g hgl hgn)).1];exact h6) (by rw[(aj (h.block g hgl hgn)).1];exact h7)
 have HT:Hid (∀ w',ay G1 w w'->(∀ g F,G1=g::F->0<ks.length->ax w' 6 g 0 (Ex.ah (sofar fs all seen ks ks.length)) F)->Ex.bM fs seen (ks.take ks.length)=true->ai w' (.list 6 (Ex.ah (Ex.nbs fs all seen ks))) [.slice a ks.length cap] G1/\Ex.bM fs seen ks=true):=fun w' o1 hA hu=>⟨hback w' o1.size (fun g F e q=>by have:=hA g F e q;rw[Cb]at this;exact this),by rw[List.take_length]at hu;exact hu⟩
 have HS:Hid (∀ g F,G1=g::F->0<ks.length->ax w 6 g 0 (Ex.ah (sofar fs all seen ks 0)) F):=fun g' F e q=>by
  obtain⟨g2,F2,_,e2,_,hA⟩:=hpos q;rw[e]at e2
  cases e2
  rw[zM];exact hA
 have HP:Hid (0<ks.length->∃ g F,a=some ⟨g,0,none⟩/\G1=g::F/\g<w.heap.size):=fun q=>by obtain⟨g2,F2,e1,e2,e3,_⟩:=hpos q;exact⟨g2,F2,e1,e2,e3⟩
 have HL:Hid (∀ b∈G1,b<w.heap.size):=fun b q=>ai.lt _ hk b q;have hI':Hid _:=hI;have HB2:Hid _:=hBo;have HB3:Hid _:=hEl;have HNd:Hid _:=hN
 have Hdj:Hid ((∀ b∈G2,b∉G1)/\(∀ b∈G3,b∉G1)):=⟨fun b q q'=>m2.2.2 b q' b q rfl,fun b q q'=>m1.2.2 b (List.mem_append_left _ q') b q rfl⟩
 have Hlt:Hid (∀ b∈bd::bs::(G1++G2++G3),b<w.heap.size):=fun b q=>by
  obtain⟨_,_,hms⟩:=hng.ms;simp only[List.mem_cons,List.mem_append]at q;rcases q with rfl|rfl|(q|q)|q
  ·exact hng.md.lt
  ·exact hms.lt
  ·exact ai.lt _ hk b q
  ·exact ai.lt _ hb b q
  ·exact ai.lt _ he b q
 have HSp:Hid _:=hS;have Hhb:Hid _:=hb;have Hhe:Hid _:=he;have HBl:Hid _:=hB;clear hV hback hpos hk hI h5 h6 h7 hB hBo hEl m1 m2 hS hN hb he hsub
 generalize hQ:SWi w K bf bd bs fs all seen ks bo el (.slice a ks.length cap) (.slice a2 l2 c2) (.slice a3 l3 c3) G1 G2 G3=Q at *
 have HQ:Hid _:=hQ;clear hQ;go_enter Tryz.func88,Tryz.ntmps88;go_wp2_with fail
 refine hK.mono ?_;rintro e w1 ⟨rfl,l1⟩;have o1:ay G1 w w1:=ay.of_later l1
 have HS1:Hid (∀ g F,G1=g::F->0<ks.length->ax w1 6 g 0 (Ex.ah (sofar fs all seen ks 0)) F):=fun g' F e q=>by
  obtain⟨g2,F2,e1,e2,e3⟩:=HP.out q;rw[e2]at e
  cases e
  exact ax.agree l1.size _ (HS.out _ _ e2 q) (l1.block _ e3) (fun b hb=>l1.block b (HL.out b (by rw[e2];exact List.mem_cons_of_mem _ hb)))
 clear hK HS l1;go_wp2_with fail
 go_loopw [13] (fun i wr=>∃ (j:Nat),i=.int .i64 (j:Int)/\j<=ks.length/\ay G1 w wr/\(∀ g F,G1=g::F->0<ks.length->ax wr 6 g 0 (Ex.ah (sofar fs all seen ks j)) F)/\Hid (Ex.bM fs seen (ks.take j)=true)) (fun i _=>ks.length - (intOf i).toNat)
 case atStart=>exact⟨0,rfl,Nat.zero_le _,o1,HS1.out,by unfold Hid;rw[List.take_zero,Ex.bM]⟩
 case round =>
  obtain⟨j,rfl,hj,oR,hA,HU⟩:=hrel;clear o1 HS1;by_cases hlt:j<ks.length
  ·obtain⟨gk,F,rfl,rfl,hgk⟩:=HP.out (by omega);have i1:(j:Int)<(ks.length:Int):=by omega
   obtain⟨u0,u1,H0,H1,hE,HK⟩:=FN hng hty hgk oR (hA _ _ rfl (by omega)) hnd hsp hlt;have hP1:=AQ ks[j].kind ks[j].n gk (j*6) wr hE.ty (hE.cells 0 _ rfl).1 (hE.cells 1 _ rfl).1;have hP2:=fun w' (l:Later wr w')=>hI'.out j hlt w' K bf bd bs fs all seen gk (j*6) u0 u1 H0 H1 (hE.later l);have HK':Hid _:=HK;have hgw:=hE.lt;clear HK hE hA oR;go_wp2_with fail
   refine hP1.mono ?_;rintro e w2 ⟨rfl,l2⟩;have hP3:=hP2 w2 l2;clear hP1 hP2
   generalize hxv:exV ks[j].kind ks[j].n gk (j*6)=xv at *
   clear hxv;go_wp2_with fail
   refine hP3.mono ?_;rintro e w3 ⟨b,rfl,hb,oc,hok⟩;obtain⟨o3,HA⟩:=HK'.out w2 w3 l2 oc;have HB2:Hid (b=true->ax w3 6 gk 0 (Ex.ah (sofar fs all seen ks (j+1))) F):=fun q=>HA (hok q).1 (hok q).2;have HU2:Hid (b=true->Ex.bM fs seen (ks.take (j+1))=true):=fun q=>by rw[qO hlt,HU.out,<- hb,q];rfl
   have HF2:Hid (b=false->Q (.returned (.bool false)) w3):=fun q=>HF.out w3 j hlt o3 (by rw[<-hb,q]);clear hP3 hok HA HK' oc hb HU
   cases b with
   | false =>
    have HF3:=HF2.out rfl;clear HF2 HU2 HB2;go_wp2_with fail
    exact HF3
   | true =>
    have hA3:=HB2.out rfl;have HU3:Hid (Ex.bM fs seen (ks.take (j+1))=true):=HU2.out rfl;clear HF2 HU2 HB2;go_wp2_with fail
    go_roundw
    case rel=>exact⟨j+1,by go_num,by omega,o3,fun g' F' e _=>by cases e;exact hA3,HU3⟩
    case measure=>simp[intOf];omega
  ·have i1:¬ (j:Int)<(ks.length:Int):=by omega
   have i2:decide ((j:Int)<(ks.length:Int))=false:=decide_eq_false i1;have hjj:j=ks.length:=by omega
   subst hjj;obtain⟨hk1,hu1⟩:=HT.out wr oR hA HU.out;have hB2:=HBl.out wr oR;clear HT hA HU HF hI' HP HL HBl;go_wp2_with fail
   refine hB2.mono ?_;rintro e w4 ⟨bv,rfl,⟨B,rfl,hBg,hBl,d0,d1⟩,l4⟩
   have hM0:Mid w w4 K bf bd bs fs all seen (Ex.nbs fs all seen ks) bo el (.slice a ks.length cap) (.slice a2 l2 c2) (.slice a3 l3 c3) G1 G2 G3 B :=
    ⟨(oR.mono (fun b q=>by simp[q])).trans (ay.of_later l4),bz hk1 l4,bz (ai.only Hhb.out oR Hdj.out.1) l4,bz (ai.only Hhe.out oR Hdj.out.2) l4,(hng.wO oR hsp).later l4,(hty.wO oR hsp).later l4,d0,d1,hBl,fun b q=>Nat.lt_of_lt_of_le (Hlt.out b q) (Nat.le_trans oR.size hBg)⟩
   have HQ2:Hid (∀ w',(St.bP fs all seen bo=false\/St.bP fs all seen bo=true/\St.bP fs (all++St.decls bo) seen el=false)->ay (bd::bs::(G1++G2++G3)) w w'->Q (.returned (.bool false)) w'):=fun w' hf o'=>by
    rw[<-HQ.out];exact⟨false,rfl,by rcases hf with h|⟨h,h'⟩;rw[h];simp;rw[h,h'];simp,o',fun h=>by cases h⟩
   have HQ3:Hid (∀ w',St.bP fs all seen bo=true->St.bP fs (all++St.decls bo) seen el=true->Mid w w' K bf bd bs fs (all++St.decls bo++St.decls el) seen (Ex.nbs fs all seen ks) (St.nbl fs all seen bo) (St.nbl fs (all++St.decls bo) seen el) (.slice a ks.length cap) (.slice a2 l2 c2) (.slice a3 l3 c3) G1 G2 G3 B->Q (.returned (.bool true)) w'):=fun w' h1 h2 hM=>by
    rw[<-HQ.out];exact⟨true,rfl,by rw[hu1,h1,h2];rfl,hM.o,fun _=>⟨hM.k,hM.b,hM.e,hM.ng⟩⟩
   have HC2:Hid (∀ W,Mid w W K bf bd bs fs all seen (Ex.nbs fs all seen ks) bo el (.slice a ks.length cap) (.slice a2 l2 c2) (.slice a3 l3 c3) G1 G2 G3 B->Calls Tryz.prog 27 #[.pointer (some ⟨K,0,none⟩),.slice a2 l2 c2] W (SBl W K bf bd bs fs all seen bo (.slice a2 l2 c2) G2)):=fun W hM=>HB2.out W K bf bd bs fs all seen _ G2 hM.ng hM.ty hM.b (List.nodup_append.1 (List.nodup_append.1 HNd.out).1).2.1 (fun b q=>HSp.out b (by simp[q])) (by omega) hn2 hm;have HC3:Hid (∀ W,Mid w W K bf bd bs fs (all++St.decls bo) seen (Ex.nbs fs all seen ks) (St.nbl fs all seen bo) el (.slice a ks.length cap) (.slice a2 l2 c2) (.slice a3 l3 c3) G1 G2 G3 B->Calls Tryz.prog 27 #[.pointer (some ⟨K,0,none⟩),.slice a3 l3 c3] W (SBl W K bf bd bs fs (all++St.decls bo) seen el (.slice a3 l3 c3) G3)):=fun W hM=>HB3.out W K bf bd bs fs (all++St.decls bo) seen _ G3 hM.ng hM.ty hM.e (List.nodup_append.1 HNd.out).2.1 (fun b q=>HSp.out b (by simp[q])) (by have:=St.jJ bo;rw[List.length_append];omega) hn3 hm;have Hm:Hid _:=hm;clear hB2 hk1 hu1 HQ d0 d1 hBg hBl l4 oR HB2 HB3 Hhb Hhe Hdj Hlt hm hng hty hn2 hn3 hz hnd hsp hgn;go_wp2_with fail
   go_loopw [27] (fun i W=>(i=.int .i64 0/\Mid w W K bf bd bs fs all seen (Ex.nbs fs all seen ks) bo el (.slice a ks.length cap) (.slice a2 l2 c2) (.slice a3 l3 c3) G1 G2 G3 B)\/(i=.int .i64 1/\Mid w W K bf bd bs fs (all++St.decls bo) seen (Ex.nbs fs all seen ks) (St.nbl fs all seen bo) el (.slice a ks.length cap) (.slice a2 l2 c2) (.slice a3 l3 c3) G1 G2 G3 B/\Hid (St.bP fs all seen bo=true))\/(i=.int .i64 2/\Mid w W K bf bd bs fs (all++St.decls bo++St.decls el) seen (Ex.nbs fs all seen ks) (St.nbl fs all seen bo) (St.nbl fs (all++St.decls bo) seen el) (.slice a ks.length cap) (.slice a2 l2 c2) (.slice a3 l3 c3) G1 G2 G3 B/\Hid (St.bP fs all seen bo=true)/\Hid (St.bP fs (all++St.decls bo) seen el=true))) (fun i _=>2 - (intOf i).toNat)
   case atStart=>exact .inl ⟨rfl,hM0⟩
   case round =>
    clear hM0;rcases hrel with ⟨rfl,hM⟩|⟨rfl,hM,hf1⟩|⟨rfl,hM,hf1,hf2⟩
    ·have hC:=HC2.out _ hM;have d0:=hM.d0;have HM2:Hid (∀ w',ay (bd::bs::G2) wr w'->ay (bd::bs::(G1++G2++G3)) w w'/\(ai w' (.list 8 (St.ah (St.nbl fs all seen bo))) [.slice a2 l2 c2] G2->Ng w' K bf bd bs fs (all++St.decls bo) seen->Mid w w' K bf bd bs fs (all++St.decls bo) seen (Ex.nbs fs all seen ks) (St.nbl fs all seen bo) el (.slice a ks.length cap) (.slice a2 l2 c2) (.slice a3 l3 c3) G1 G2 G3 B)):=fun w' o'=>hM.two HNd.out HSp.out Hm.out o';have hlb:=hM.lt;clear hM HC2 HC3;go_wp2_with fail
     refine hC.mono ?_;rintro e w5 ⟨b,rfl,hb,o5,hok⟩;obtain⟨o6,hnext⟩:=HM2.out w5 o5;have HF6:Hid (b=false->Q (.returned (.bool false)) w5):=fun q=>HQ2.out w5 (.inl (by rw[<-hb,q])) o6
     have HT6:Hid (b=true->Mid w w5 K bf bd bs fs (all++St.decls bo) seen (Ex.nbs fs all seen ks) (St.nbl fs all seen bo) el (.slice a ks.length cap) (.slice a2 l2 c2) (.slice a3 l3 c3) G1 G2 G3 B/\Hid (St.bP fs all seen bo=true)):=fun q=>⟨hnext (hok q).1 (hok q).2,by unfold Hid;rw[<-hb,q]⟩
     clear hC hnext hok o5 o6 hb HM2 d0 hlb
     cases b with
     | false =>
      have HZ:=HF6.out rfl;clear HF6 HT6;go_wp2_with fail
      exact HZ
     | true =>
      have HZ:=HT6.out rfl;clear HF6 HT6;go_wp2_with fail
      go_roundw
      case rel=>exact .inr (.inl ⟨by go_num,HZ.1,HZ.2⟩)
      case measure=>simp[intOf]
    ·have hC:=HC3.out _ hM;have d1:=hM.d1;have HM2:Hid (∀ w',ay (bd::bs::G3) wr w'->ay (bd::bs::(G1++G2++G3)) w w'/\(ai w' (.list 8 (St.ah (St.nbl fs (all++St.decls bo) seen el))) [.slice a3 l3 c3] G3->Ng w' K bf bd bs fs (all++St.decls bo++St.decls el) seen->Mid w w' K bf bd bs fs (all++St.decls bo++St.decls el) seen (Ex.nbs fs all seen ks) (St.nbl fs all seen bo) (St.nbl fs (all++St.decls bo) seen el) (.slice a ks.length cap) (.slice a2 l2 c2) (.slice a3 l3 c3) G1 G2 G3 B)):=fun w' o'=>hM.three HNd.out HSp.out Hm.out o';have hlb:=hM.lt;clear hM HC2 HC3;go_wp2_with fail
     refine hC.mono ?_;rintro e w5 ⟨b,rfl,hb,o5,hok⟩;obtain⟨o6,hnext⟩:=HM2.out w5 o5;have HF6:Hid (b=false->Q (.returned (.bool false)) w5):=fun q=>HQ2.out w5 (.inr ⟨hf1.out,by rw[<-hb,q]⟩) o6
     have HT6:Hid (b=true->Mid w w5 K bf bd bs fs (all++St.decls bo++St.decls el) seen (Ex.nbs fs all seen ks) (St.nbl fs all seen bo) (St.nbl fs (all++St.decls bo) seen el) (.slice a ks.length cap) (.slice a2 l2 c2) (.slice a3 l3 c3) G1 G2 G3 B/\Hid (St.bP fs (all++St.decls bo) seen el=true)):=fun q=>⟨hnext (hok q).1 (hok q).2,by unfold Hid;rw[<-hb,q]⟩
     clear hC hnext hok o5 o6 hb HM2 d1 hlb
     cases b with
     | false =>
      have HZ:=HF6.out rfl;clear HF6 HT6;go_wp2_with fail
      exact HZ
     | true =>
      have HZ:=HT6.out rfl;clear HF6 HT6;go_wp2_with fail
      go_roundw
      case rel=>exact .inr (.inr ⟨by go_num,HZ.1,hf1,HZ.2⟩)
      case measure=>simp[intOf]
    ·have HZ:=HQ3.out _ hf1.out hf2.out hM;clear hM HC2 HC3 HQ2 HQ3;go_wp2_with fail
     exact HZ
end Go.Proofs.YtgaddpkkjebekaaGreatDoor
