/- My texts N17, N18, N19, N20, N21 in one. -/
import Derived.Test.YtmdejbphoafjlaaGreatDoorHg
set_option maxHeartbeats 100000000
set_option maxRecDepth 100000
namespace Go.Proofs.YtmdejbphoafjlaaGreatDoor
open Go.RowKit Go.Maps
mutual
def St.nb (fs:List (List Int)):List (List Int)→List (List Int)→St→St
 | all,seen,.mk k n tk tn nm ks bo el=>.mk k (if k=0 then (all.length:Int) else n) tk tn nm (Ex.nbs fs (all++ownL k nm) (seen++ownL k nm) ks) (St.nbl fs (all++ownL k nm) (seen++ownL k nm) bo) (St.nbl fs (all++ownL k nm++St.decls bo) (seen++ownL k nm) el)
def St.nbl (fs:List (List Int)):List (List Int)→List (List Int)→List St→List St
 | _,_,[]=>[]
 | all,seen,x::r=>St.nb fs all seen x::St.nbl fs (all++x.decl) (seen++x.ownN) r
end
theorem St.nb_eq (fs all seen:List (List Int)) (x:St):(St.nb fs all seen x).kind=x.kind∧(St.nb fs all seen x).n=(if x.kind=0 then (all.length:Int) else x.n)∧(St.nb fs all seen x).tk=x.tk∧(St.nb fs all seen x).tn=x.tn∧(St.nb fs all seen x).name=x.name∧(St.nb fs all seen x).kids=Ex.nbs fs (all++x.ownN) (seen++x.ownN) x.kids∧(St.nb fs all seen x).body=St.nbl fs (all++x.ownN) (seen++x.ownN) x.body∧(St.nb fs all seen x).els=St.nbl fs (all++x.ownN++St.decls x.body) (seen++x.ownN) x.els:=by
 obtain⟨k,n,tk,tn,nm,ks,bo,el⟩:=x
 rw[St.nb]
 exact⟨rfl,rfl,rfl,rfl,rfl,rfl,rfl,rfl⟩
theorem St.nbl_app (fs:List (List Int)) (l r:List St):∀ all seen,St.nbl fs all seen (l++r)=St.nbl fs all seen l++St.nbl fs (all++St.decls l) (seen++St.ownNs l) r:=by
 induction l with
 | nil=>intro all seen;rw[List.nil_append,St.nbl,List.nil_append,St.decls,St.ownNs,List.append_nil,List.append_nil]
 | cons x l ih=>intro all seen;rw[List.cons_append,St.nbl,St.nbl,ih,St.decls,St.ownNs,List.cons_append,List.append_assoc,List.append_assoc]
theorem St.nbl_len (fs:List (List Int)) (l:List St):∀ all seen,(St.nbl fs all seen l).length=l.length:=by
 induction l with
 | nil=>intro all seen;rw[St.nbl]
 | cons x l ih=>intro all seen;rw[St.nbl,List.length_cons,List.length_cons,ih]
def stSofar (fs all seen:List (List Int)) (l:List St) (j:Nat):List St:=St.nbl fs all seen (l.take j)++l.drop j
theorem stSofar_len (fs all seen:List (List Int)) (l:List St) (j:Nat):(stSofar fs all seen l j).length=l.length:=by unfold stSofar;rw[List.length_append,St.nbl_len,List.length_take,List.length_drop];omega
theorem stSofar_at (fs all seen:List (List Int)) (l:List St) (j:Nat) (h:j<l.length):(stSofar fs all seen l j)[j]'(by rw[stSofar_len];exact h)=l[j]:=by
 unfold stSofar
 have e:(St.nbl fs all seen (l.take j)).length=j:=by rw[St.nbl_len,List.length_take];omega
 rw[List.getElem_append_right (by omega)]
 simp[e]
theorem stSofar_set (fs all seen:List (List Int)) (l:List St) (j:Nat) (h:j<l.length):(stSofar fs all seen l j).set j (St.nb fs (all++St.decls (l.take j)) (seen++St.ownNs (l.take j)) l[j])=stSofar fs all seen l (j+1):=by
 unfold stSofar
 have e:(St.nbl fs all seen (l.take j)).length=j:=by rw[St.nbl_len,List.length_take];omega
 rw[List.set_append_right _ _ (by omega),e,Nat.sub_self,List.drop_eq_getElem_cons h,List.set_cons_zero,List.take_succ_eq_append_getElem h,St.nbl_app,St.nbl,St.nbl,List.append_assoc]
 rfl
theorem stSofar_zero (fs all seen:List (List Int)) (l:List St):stSofar fs all seen l 0=l:=by unfold stSofar;rw[List.take_zero,St.nbl];rfl
theorem stSofar_all (fs all seen:List (List Int)) (l:List St):stSofar fs all seen l l.length=St.nbl fs all seen l:=by unfold stSofar;rw[List.take_length,List.drop_length,List.append_nil]
structure SIn (w:World) (K bf bd bs:Nat) (fs all seen:List (List Int)) (x:St) (g o:Nat) (v0 v1 v2 v3:Value) (G0 G1 G2 G3:List Nat):Prop where
 ng:Ng w K bf bd bs fs all seen
 ty:TyE w
 lt:g<w.heap.size
 cells:∀ m u,[.int .i64 x.kind,.int .i64 x.n,.int .i64 x.tk,.int .i64 x.tn,v0,v1,v2,v3][m]?=some u→w.cell? ⟨g,o+m,none⟩=some u∧w.frozen? ⟨g,o+m,none⟩=false
 nm:OwnD w (.bytes x.name) [v0] G0
 kids:OwnD w (.list 6 (Ex.dats x.kids)) [v1] G1
 body:OwnD w (.list 8 (St.dats x.body)) [v2] G2
 els:OwnD w (.list 8 (St.dats x.els)) [v3] G3
 nd:(g::(G0++G1++G2++G3)).Nodup
 sep:∀ b∈g::(G0++G1++G2++G3),Sp K bf bd bs b
theorem own_later {w w':World}{d:Dat}{cs:List Value}{F:List Nat}(h:OwnD w d cs F) (l:Later w w'):OwnD w' d cs F:=OwnD.agree l.size _ h (fun b q=>l.block b (OwnD.lt _ h b q))
theorem SIn.later {w w':World}{K bf bd bs:Nat}{fs all seen:List (List Int)}{x:St}{g o:Nat}{v0 v1 v2 v3:Value}{G0 G1 G2 G3:List Nat}(h:SIn w K bf bd bs fs all seen x g o v0 v1 v2 v3 G0 G1 G2 G3) (l:Later w w'):SIn w' K bf bd bs fs all seen x g o v0 v1 v2 v3 G0 G1 G2 G3:=by
 have hb:=fun y=>cell_block (w:=w) (w':=w') (b:=g) (o:=y) (l.block g h.lt)
 exact⟨h.ng.later l,h.ty.later l,Nat.lt_of_lt_of_le h.lt l.size,fun m u hm=>by rw[(hb (o+m)).1,(hb (o+m)).2];exact h.cells m u hm,own_later h.nm l,own_later h.kids l,own_later h.body l,own_later h.els l,h.nd,h.sep⟩
def SPt (w:World) (K bf bd bs:Nat) (fs all seen:List (List Int)) (x:St) (g o:Nat) (v1 v2 v3:Value) (G1 G2 G3:List Nat) (e:Ending) (w':World):Prop :=
 ∃ b,e=.returned (.bool b)∧b=St.fineB fs all seen x∧OnlyC g (o+1) (bd::bs::(G1++G2++G3)) w w' ∧
  (b=true→w'.cell? ⟨g,o+1,none⟩=some (.int .i64 (if x.kind=0 then (all.length:Int) else x.n))∧OwnD w' (.list 6 (Ex.dats (Ex.nbs fs (all++x.ownN) (seen++x.ownN) x.kids))) [v1] G1∧OwnD w' (.list 8 (St.dats (St.nbl fs (all++x.ownN) (seen++x.ownN) x.body))) [v2] G2∧OwnD w' (.list 8 (St.dats (St.nbl fs (all++x.ownN++St.decls x.body) (seen++x.ownN) x.els))) [v3] G3∧Ng w' K bf bd bs fs (all++x.decl) (seen++x.ownN))
def SBl (w:World) (K bf bd bs:Nat) (fs all seen:List (List Int)) (l:List St) (v:Value) (G:List Nat) (e:Ending) (w':World):Prop :=
 ∃ b,e=.returned (.bool b)∧b=St.fineBs fs all seen l∧OnlyF (bd::bs::G) w w'∧(b=true→OwnD w' (.list 8 (St.dats (St.nbl fs all seen l))) [v] G∧Ng w' K bf bd bs fs (all++St.decls l) seen)
theorem st_step {w wr:World}{K bf bd bs:Nat}{fs all seen:List (List Int)}{l:List St}{gk:Nat}{F:List Nat}{j:Nat}(hng:Ng wr K bf bd bs fs (all++St.decls (l.take j)) (seen++St.ownNs (l.take j))) (hty:TyE wr) (hl:gk<w.heap.size) (hO:OnlyF (bd::bs::gk::F) w wr) (hA:OwnAll wr 8 gk 0 (St.dats (stSofar fs all seen l j)) F) (hnd:(gk::F).Nodup) (hsp:∀ b∈gk::F,Sp K bf bd bs b) (hj:j<l.length) :
  ∃ u0 u1 u2 u3 H0 H1 H2 H3,SIn wr K bf bd bs fs (all++St.decls (l.take j)) (seen++St.ownNs (l.take j)) l[j] gk (j*8) u0 u1 u2 u3 H0 H1 H2 H3∧∀ w1 w2,Later wr w1→OnlyC gk (j*8+1) (bd::bs::(H1++H2++H3)) w1 w2→OnlyF (bd::bs::gk::F) w w2 ∧
   (w2.cell? ⟨gk,j*8+1,none⟩=some (.int .i64 (St.nb fs (all++St.decls (l.take j)) (seen++St.ownNs (l.take j)) l[j]).n)→OwnD w2 (.list 6 (Ex.dats (St.nb fs (all++St.decls (l.take j)) (seen++St.ownNs (l.take j)) l[j]).kids)) [u1] H1→OwnD w2 (.list 8 (St.dats (St.nb fs (all++St.decls (l.take j)) (seen++St.ownNs (l.take j)) l[j]).body)) [u2] H2→OwnD w2 (.list 8 (St.dats (St.nb fs (all++St.decls (l.take j)) (seen++St.ownNs (l.take j)) l[j]).els)) [u3] H3→OwnAll w2 8 gk 0 (St.dats (stSofar fs all seen l (j+1))) F):=by
 have hjl:j<(St.dats (stSofar fs all seen l j)).length:=by rw[St.dats_len,stSofar_len];exact hj
 obtain⟨cs,F1,Fj,F2,rfl,hk,hc,hd,HK⟩:=OwnAll.lens _ j hjl hA
 rw[St.dats_at _ j (by rw[stSofar_len];exact hj),stSofar_at _ _ _ _ _ hj]at hd
 obtain⟨u0,u1,u2,u3,H0,H1,H2,H3,rfl,rfl,hn,hkd,hbd,hel⟩:=St.ownView hd
 rw[Nat.zero_add]at hc HK
 have hlr:gk<wr.heap.size:=Nat.lt_of_lt_of_le hl hO.size
 have hin:∀ b∈H0++H1++H2++H3,b∈F1++((H0++H1++H2++H3)++F2):=fun b q=>List.mem_append_right _ (List.mem_append_left _ q)
 have hsub:∀ b∈H1++H2++H3,b∈H0++H1++H2++H3:=fun b q=>by simp only[List.mem_append]at q ⊢;rcases q with (q|q)|q <;> simp[q]
 have hnd':=List.nodup_cons.1 hnd
 have hgn:gk∉H0++H1++H2++H3:=fun q=>hnd'.1 (hin _ q)
 have n1:=List.nodup_append.1 hnd'.2
 have n2:=List.nodup_append.1 n1.2.1
 have n0:∀ b∈H0,b∉H1++H2++H3:=fun b q q'=>by
  have:(H0++(H1++H2++H3)).Nodup:=by simpa[List.append_assoc] using n2.1
  exact (List.nodup_append.1 this).2.2 b q b q' rfl
 have hspF:∀ b∈F1++((H0++H1++H2++H3)++F2),b≠bd∧b≠bs:=fun b q=>⟨(hsp b (List.mem_cons_of_mem _ q)).2.2.1,(hsp b (List.mem_cons_of_mem _ q)).2.2.2.1⟩
 refine⟨u0,u1,u2,u3,H0,H1,H2,H3,⟨hng,hty,hlr,hc,hn,hkd,hbd,hel,List.nodup_cons.2 ⟨hgn,n2.1⟩,fun b q=>hsp b ?_⟩,fun w1 w2 l1 oc=>⟨?_,fun hcell hk2 hb2 he2=>?_⟩⟩
 ·rcases List.mem_cons.1 q with rfl|q
  ·exact List.mem_cons_self ..
  ·exact List.mem_cons_of_mem _ (hin b q)
 ·refine (hO.trans (OnlyF.of_later l1)).trans (oc.only.mono fun b q=>?_)
  rcases List.mem_cons.1 q with rfl|q
  ·simp
  ·rcases List.mem_cons.1 q with rfl|q
   ·simp
   ·rcases List.mem_cons.1 q with rfl|q
    ·simp
    ·exact List.mem_cons_of_mem _ (List.mem_cons_of_mem _ (List.mem_cons_of_mem _ (hin b (hsub b q))))
 ·have hb1:∀ b,b<wr.heap.size→b∉H1++H2++H3→b≠bd→b≠bs→b≠gk→w2.heap[b]?=wr.heap[b]?:=fun b hb hn h1 h2 hg=>by rw[oc.block b (Nat.lt_of_lt_of_le hb l1.size) (fun q=>by rcases List.mem_cons.1 q with q|q;exact h1 q;rcases List.mem_cons.1 q with q|q;exact h2 q;exact hn q) hg,l1.block b hb]
  have hcell1:∀ y,y≠j*8+1→w2.cell? ⟨gk,y,none⟩=wr.cell? ⟨gk,y,none⟩:=fun y hy=>by rw[oc.cells y hy,(cell_block (l1.block gk hlr)).1]
  have hfr1:∀ y,w2.frozen? ⟨gk,y,none⟩=wr.frozen? ⟨gk,y,none⟩:=fun y=>by rw[oc.froz y,(cell_block (l1.block gk hlr)).2]
  have hsz:wr.heap.size≤w2.heap.size:=Nat.le_trans l1.size oc.size
  have hn2:OwnD w2 (.bytes l[j].name) [u0] H0:=OwnD.agree hsz _ hn (fun b q=>hb1 b (OwnD.lt _ hn b q) (n0 b q) (hspF b (hin b (by simp[q]))).1 (hspF b (hin b (by simp[q]))).2 (fun e=>hgn (by rw[←e];simp[q])))
  obtain⟨e1,e2,e3,e4,e5,e6,e7,e8⟩:=St.nb_eq fs (all++St.decls (l.take j)) (seen++St.ownNs (l.take j)) l[j]
  have hd2:=St.own (x:=St.nb fs (all++St.decls (l.take j)) (seen++St.ownNs (l.take j)) l[j]) (by rw[e5];exact hn2) hk2 hb2 he2
  rw[show H0++(H1++(H2++H3))=H0++H1++H2++H3 by simp[List.append_assoc]]at hd2
  have hgoal:=HK w2 (St.nb fs (all++St.decls (l.take j)) (seen++St.ownNs (l.take j)) l[j]).dat _ rfl (fun m u hm=>?_) hd2 hsz (fun y hy=>⟨hcell1 y (by omega),hfr1 y⟩) (fun b q=>?_)
  ·rw[St.datsMap,← List.map_set,stSofar_set _ _ _ _ _ hj,← St.datsMap]at hgoal
   exact hgoal
  ·by_cases hm1:m=1
   ·subst hm1
    have:u=.int .i64 (St.nb fs (all++St.decls (l.take j)) (seen++St.ownNs (l.take j)) l[j]).n:=by simpa using hm.symm
    rw[this]
    exact⟨hcell,by rw[hfr1];exact (hc 1 _ rfl).2⟩
   ·rw[e1,e3,e4]at hm
    have:[Value.int .i64 l[j].kind,.int .i64 l[j].n,.int .i64 l[j].tk,.int .i64 l[j].tn,u0,u1,u2,u3][m]?=some u:=by
     rcases m with _|_|m
     ·exact hm
     ·exact absurd rfl hm1
     ·exact hm
    rw[hcell1 _ (by omega),hfr1]
    exact hc m u this
  ·have hbm:b∈F1++((H0++H1++H2++H3)++F2):=by rcases q with q|q;exact List.mem_append_left _ q;exact List.mem_append_right _ (List.mem_append_right _ q)
   refine hb1 b ?_ (fun q'=>?_) (hspF b hbm).1 (hspF b hbm).2 (fun e=>hnd'.1 (e ▸ hbm))
   ·exact OwnAll.lt _ hA b hbm
   ·rcases q with q|q
    ·exact n1.2.2 b q b (List.mem_append_left _ (hsub b q')) rfl
    ·exact n2.2.2 b (hsub b q') b q rfl
mutual
def St.noK:St→Prop
 | .mk k _ _ _ _ ks bo el=>(k=0→ks=[])∧St.noKs bo∧St.noKs el
def St.noKs:List St→Prop
 | []=>True
 | x::r=>x.noK∧St.noKs r
end
theorem St.noK_eq (x:St):x.noK↔(x.kind=0→x.kids=[])∧St.noKs x.body∧St.noKs x.els:=by obtain⟨k,n,tk,tn,nm,ks,bo,el⟩:=x;rw[St.noK];exact Iff.rfl
theorem St.noKs_at:∀ (l:List St),St.noKs l→∀ j (h:j<l.length),l[j].noK
 | x::r,h,0,_=>by rw[St.noKs]at h;exact h.1
 | x::r,h,j+1,q=>by rw[St.noKs]at h;exact St.noKs_at r h.2 j (Nat.lt_of_succ_lt_succ q)
def SBlock (l:List St):Prop:=∀ w K bf bd bs fs all seen v G,Ng w K bf bd bs fs all seen→TyE w→OwnD w (.list 8 (St.dats l)) [v] G→G.Nodup→(∀ b∈G,Sp K bf bd bs b)→all.length+St.nums l≤700000→St.noKs l→bd≠0∧bd≠1∧bs≠0∧bs≠1→Calls Tryz.prog 63 #[.pointer (some ⟨K,0,none⟩),v] w (SBl w K bf bd bs fs all seen l v G)
def SWi (w:World) (K bf bd bs:Nat) (fs all seen:List (List Int)) (ks:List Ex) (bo el:List St) (v1 v2 v3:Value) (G1 G2 G3:List Nat) (e:Ending) (w':World):Prop :=
 ∃ b,e=.returned (.bool b)∧b=(Ex.usesBs fs seen ks&&St.fineBs fs all seen bo&&St.fineBs fs (all++St.decls bo) seen el)∧OnlyF (bd::bs::(G1++G2++G3)) w w' ∧
  (b=true→OwnD w' (.list 6 (Ex.dats (Ex.nbs fs all seen ks))) [v1] G1∧OwnD w' (.list 8 (St.dats (St.nbl fs all seen bo))) [v2] G2∧OwnD w' (.list 8 (St.dats (St.nbl fs (all++St.decls bo) seen el))) [v3] G3∧Ng w' K bf bd bs fs (all++St.decls bo++St.decls el) seen)
theorem list_slice {w:World}{k:Nat}{l:List Dat}{v:Value}{G:List Nat}(h:OwnD w (.list k l) [v] G):∃ a n c,v=.slice a n c:=by
 rw[OwnD]at h
 obtain⟨a,c,e,_⟩:=h
 exact⟨a,_,c,by simpa using e⟩
theorem TyE.onlyM {w w':World}{bd bs:Nat}{K bf:Nat}{F:List Nat}(h:TyE w) (o:OnlyF (bd::bs::F) w w') (hs:∀ b∈F,Sp K bf bd bs b) (hm:bd≠0∧bd≠1∧bs≠0∧bs≠1):TyE w':=by
 have hi:=o.block _ (ltCell h.i0) (fun q=>by rcases List.mem_cons.1 q with q|q;exact hm.1 q.symm;rcases List.mem_cons.1 q with q|q;exact hm.2.2.1 q.symm;exact (hs _ q).2.2.2.2.1 rfl)
 have hf:=o.block _ (ltCell h.f0) (fun q=>by rcases List.mem_cons.1 q with q|q;exact hm.2.1 q.symm;rcases List.mem_cons.1 q with q|q;exact hm.2.2.2 q.symm;exact (hs _ q).2.2.2.2.2 rfl)
 exact⟨by rw[(cell_block hi).1];exact h.i0,by rw[(cell_block hi).1];exact h.i1,by rw[(cell_block hf).1];exact h.f0,by rw[(cell_block hf).1];exact h.f1⟩
structure Mid (w W:World) (K bf bd bs:Nat) (fs all seen:List (List Int)) (ks:List Ex) (bo el:List St) (v1 v2 v3:Value) (G1 G2 G3:List Nat) (B:Nat):Prop where
 o:OnlyF (bd::bs::(G1++G2++G3)) w W
 k:OwnD W (.list 6 (Ex.dats ks)) [v1] G1
 b:OwnD W (.list 8 (St.dats bo)) [v2] G2
 e:OwnD W (.list 8 (St.dats el)) [v3] G3
 ng:Ng W K bf bd bs fs all seen
 ty:TyE W
 d0:W.cell? ⟨B,0,none⟩=some v2
 d1:W.cell? ⟨B,1,none⟩=some v3
 lt:B<W.heap.size
 far:∀ b∈bd::bs::(G1++G2++G3),b<B
theorem Mid.two {w W w':World}{K bf bd bs:Nat}{fs all seen all':List (List Int)}{ks:List Ex}{bo el bo':List St}{v1 v2 v3:Value}{G1 G2 G3:List Nat}{B:Nat}(h:Mid w W K bf bd bs fs all seen ks bo el v1 v2 v3 G1 G2 G3 B) (hN:(G1++G2++G3).Nodup) (hS:∀ b∈G1++G2++G3,Sp K bf bd bs b) (hm:bd≠0∧bd≠1∧bs≠0∧bs≠1) (o2:OnlyF (bd::bs::G2) W w') :
  OnlyF (bd::bs::(G1++G2++G3)) w w'∧(OwnD w' (.list 8 (St.dats bo')) [v2] G2→Ng w' K bf bd bs fs all' seen→Mid w w' K bf bd bs fs all' seen ks bo' el v1 v2 v3 G1 G2 G3 B):=by
 have hs2:∀ b∈bd::bs::G2,b∈bd::bs::(G1++G2++G3):=fun b q=>by simp only[List.mem_cons,List.mem_append]at q ⊢;rcases q with q|q|q <;> simp[q]
 have hx:=o2.block B h.lt (fun q=>by have:=h.far B (hs2 B q);omega)
 have hd:∀ G:List Nat,(∀ b∈G,b∈G1++G2++G3)→(∀ b∈G,b∉G2)→∀ b∈G,b∉bd::bs::G2:=fun G h1 h2 b q q'=>by
  rcases List.mem_cons.1 q' with e|q'
  ·exact (hS b (h1 b q)).2.2.1 e
  ·rcases List.mem_cons.1 q' with e|q'
   ·exact (hS b (h1 b q)).2.2.2.1 e
   ·exact h2 b q q'
 have m1:=List.nodup_append.1 hN
 have m2:=List.nodup_append.1 m1.1
 refine⟨h.o.trans (o2.mono hs2),fun hb hg=>⟨h.o.trans (o2.mono hs2),OwnD.only h.k o2 (hd G1 (fun b q=>by simp[q]) (fun b q q'=>m2.2.2 b q b q' rfl)),hb,OwnD.only h.e o2 (hd G3 (fun b q=>by simp[q]) (fun b q q'=>m1.2.2 b (List.mem_append_right _ q') b q rfl)),hg,h.ty.onlyM o2 (fun b q=>hS b (by simp[q])) hm,by rw[(cell_block hx).1];exact h.d0,by rw[(cell_block hx).1];exact h.d1,Nat.lt_of_lt_of_le h.lt o2.size,h.far⟩⟩
theorem Mid.three {w W w':World}{K bf bd bs:Nat}{fs all seen all':List (List Int)}{ks:List Ex}{bo el el':List St}{v1 v2 v3:Value}{G1 G2 G3:List Nat}{B:Nat}(h:Mid w W K bf bd bs fs all seen ks bo el v1 v2 v3 G1 G2 G3 B) (hN:(G1++G2++G3).Nodup) (hS:∀ b∈G1++G2++G3,Sp K bf bd bs b) (hm:bd≠0∧bd≠1∧bs≠0∧bs≠1) (o2:OnlyF (bd::bs::G3) W w') :
  OnlyF (bd::bs::(G1++G2++G3)) w w'∧(OwnD w' (.list 8 (St.dats el')) [v3] G3→Ng w' K bf bd bs fs all' seen→Mid w w' K bf bd bs fs all' seen ks bo el' v1 v2 v3 G1 G2 G3 B):=by
 have hs2:∀ b∈bd::bs::G3,b∈bd::bs::(G1++G2++G3):=fun b q=>by simp only[List.mem_cons,List.mem_append]at q ⊢;rcases q with q|q|q <;> simp[q]
 have hx:=o2.block B h.lt (fun q=>by have:=h.far B (hs2 B q);omega)
 have hd:∀ G:List Nat,(∀ b∈G,b∈G1++G2++G3)→(∀ b∈G,b∉G3)→∀ b∈G,b∉bd::bs::G3:=fun G h1 h2 b q q'=>by
  rcases List.mem_cons.1 q' with e|q'
  ·exact (hS b (h1 b q)).2.2.1 e
  ·rcases List.mem_cons.1 q' with e|q'
   ·exact (hS b (h1 b q)).2.2.2.1 e
   ·exact h2 b q q'
 have m1:=List.nodup_append.1 hN
 refine⟨h.o.trans (o2.mono hs2),fun hb hg=>⟨h.o.trans (o2.mono hs2),OwnD.only h.k o2 (hd G1 (fun b q=>by simp[q]) (fun b q q'=>m1.2.2 b (List.mem_append_left _ q) b q' rfl)),OwnD.only h.b o2 (hd G2 (fun b q=>by simp[q]) (fun b q q'=>m1.2.2 b (List.mem_append_right _ q) b q' rfl)),hb,hg,h.ty.onlyM o2 (fun b q=>hS b (by simp[q])) hm,by rw[(cell_block hx).1];exact h.d0,by rw[(cell_block hx).1];exact h.d1,Nat.lt_of_lt_of_le h.lt o2.size,h.far⟩⟩
theorem iwithinS (ks:List Ex) (bo el:List St) (hI:∀ j (hj:j<ks.length),EPart ks[j]) (hBo:SBlock bo) (hEl:SBlock el) (w:World) (K bf bd bs:Nat) (fs all seen:List (List Int)) (g o:Nat) (v1 v2 v3:Value) (G1 G2 G3:List Nat) (T:TypeId) (pv:Value)
  (hng:Ng w K bf bd bs fs all seen) (hty:TyE w) (hgl:g<w.heap.size) (h5:w.cell? ⟨g,o+5,none⟩=some v1) (h6:w.cell? ⟨g,o+6,none⟩=some v2) (h7:w.cell? ⟨g,o+7,none⟩=some v3) (hk:OwnD w (.list 6 (Ex.dats ks)) [v1] G1) (hb:OwnD w (.list 8 (St.dats bo)) [v2] G2) (he:OwnD w (.list 8 (St.dats el)) [v3] G3)
  (hgn:g∉G1) (hN:(G1++G2++G3).Nodup) (hS:∀ b∈G1++G2++G3,Sp K bf bd bs b) (hm:bd≠0∧bd≠1∧bs≠0∧bs≠1) (hz:all.length+St.nums bo+St.nums el≤700000) (hn2:St.noKs bo) (hn3:St.noKs el)
  (hV:PartV T pv ⟨g,o,none⟩ 253 252) :
  Calls Tryz.prog 145 #[.pointer (some ⟨K,0,none⟩),.iface T pv] w (SWi w K bf bd bs fs all seen ks bo el v1 v2 v3 G1 G2 G3):=by
 have m1:=List.nodup_append.1 hN
 have m2:=List.nodup_append.1 m1.1
 have hnd:=m2.1
 have hsp:∀ b∈G1,Sp K bf bd bs b:=fun b q=>hS b (List.mem_append_left _ (List.mem_append_left _ q))
 have hsub:∀ b∈G1,b∈bd::bs::(G1++G2++G3):=fun b q=>by simp[q]
 obtain⟨a,cap,rfl,hlen,hpos,hback⟩:=kids_open (fs:=fs) (all:=all) (seen:=seen) hk
 obtain⟨a2,l2,c2,rfl⟩:=list_slice hb
 obtain⟨a3,l3,c3,rfl⟩:=list_slice he
 have hmk:=hV.kids
 have hmb:=hV.blocks
 have hK:=ikidS g o a ks.length cap w h5
 have HF:Hid (∀ w' j,(hj:j<ks.length)→OnlyF G1 w w'→ks[j].usesB fs seen=false→SWi w K bf bd bs fs all seen ks bo el (.slice a ks.length cap) (.slice a2 l2 c2) (.slice a3 l3 c3) G1 G2 G3 (.returned (.bool false)) w'):=fun w' j hj o1 hb=>⟨false,rfl,by rw[usesBs_not hj hb];rfl,o1.mono hsub,fun h=>by cases h⟩
 have hB:=fun w' (h:OnlyF G1 w w')=>iblkS g o a2 a3 l2 c2 l3 c3 w' (by rw[(cell_block (h.block g hgl hgn)).1];exact h6) (by rw[(cell_block (h.block g hgl hgn)).1];exact h7)
 have HT:Hid (∀ w',OnlyF G1 w w'→(∀ g F,G1=g::F→0<ks.length→OwnAll w' 6 g 0 (Ex.dats (sofar fs all seen ks ks.length)) F)→Ex.usesBs fs seen (ks.take ks.length)=true→OwnD w' (.list 6 (Ex.dats (Ex.nbs fs all seen ks))) [.slice a ks.length cap] G1∧Ex.usesBs fs seen ks=true):=fun w' o1 hA hu=>⟨hback w' o1.size (fun g F e q=>by have:=hA g F e q;rw[sofar_all]at this;exact this),by rw[List.take_length]at hu;exact hu⟩
 have HS:Hid (∀ g F,G1=g::F→0<ks.length→OwnAll w 6 g 0 (Ex.dats (sofar fs all seen ks 0)) F):=fun g' F e q=>by
  obtain⟨g2,F2,_,e2,_,hA⟩:=hpos q
  rw[e]at e2
  cases e2
  rw[sofar_zero]
  exact hA
 have HP:Hid (0<ks.length→∃ g F,a=some ⟨g,0,none⟩∧G1=g::F∧g<w.heap.size):=fun q=>by obtain⟨g2,F2,e1,e2,e3,_⟩:=hpos q;exact⟨g2,F2,e1,e2,e3⟩
 have HL:Hid (∀ b∈G1,b<w.heap.size):=fun b q=>OwnD.lt _ hk b q
 have hI':Hid (∀ j (hj:j<ks.length),EPart ks[j]):=hI
 have HB2:Hid _:=hBo
 have HB3:Hid _:=hEl
 have HNd:Hid _:=hN
 have Hdj:Hid ((∀ b∈G2,b∉G1)∧(∀ b∈G3,b∉G1)):=⟨fun b q q'=>m2.2.2 b q' b q rfl,fun b q q'=>m1.2.2 b (List.mem_append_left _ q') b q rfl⟩
 have Hlt:Hid (∀ b∈bd::bs::(G1++G2++G3),b<w.heap.size):=fun b q=>by
  obtain⟨_,_,hms⟩:=hng.ms
  simp only[List.mem_cons,List.mem_append]at q
  rcases q with rfl|rfl|(q|q)|q
  ·exact hng.md.lt
  ·exact hms.lt
  ·exact OwnD.lt _ hk b q
  ·exact OwnD.lt _ hb b q
  ·exact OwnD.lt _ he b q
 have HSp:Hid _:=hS
 have Hhb:Hid _:=hb
 have Hhe:Hid _:=he
 have HBl:Hid (∀ w',OnlyF G1 w w'→Calls Tryz.prog 252 #[.agg #[.pointer (some ⟨g,o,none⟩)]] w' fun e w''=>∃ v,e=.returned v∧Two w' w'' v (.slice a2 l2 c2) (.slice a3 l3 c3)∧Later w' w''):=hB
 clear hV hback hpos hk hI h5 h6 h7 hB hBo hEl m1 m2 hS hN hb he hsub
 generalize hQ:SWi w K bf bd bs fs all seen ks bo el (.slice a ks.length cap) (.slice a2 l2 c2) (.slice a3 l3 c3) G1 G2 G3=Q at *
 have HQ:Hid (SWi w K bf bd bs fs all seen ks bo el (.slice a ks.length cap) (.slice a2 l2 c2) (.slice a3 l3 c3) G1 G2 G3=Q):=hQ
 clear hQ
 go_enter Tryz.func145,Tryz.ntmps145
 go_wp2_with fail
 refine hK.mono ?_
 rintro e w1 ⟨rfl,l1⟩
 have o1:OnlyF G1 w w1:=OnlyF.of_later l1
 have HS1:Hid (∀ g F,G1=g::F→0<ks.length→OwnAll w1 6 g 0 (Ex.dats (sofar fs all seen ks 0)) F):=fun g' F e q=>by
  obtain⟨g2,F2,e1,e2,e3⟩:=HP.out q
  rw[e2]at e
  cases e
  exact OwnAll.agree l1.size _ (HS.out _ _ e2 q) (l1.block _ e3) (fun b hb=>l1.block b (HL.out b (by rw[e2];exact List.mem_cons_of_mem _ hb)))
 clear hK HS l1
 go_wp2_with fail
 go_loopw [13] (fun i wr=>∃ (j:Nat),i=.int .i64 (j:Int)∧j≤ks.length∧OnlyF G1 w wr∧(∀ g F,G1=g::F→0<ks.length→OwnAll wr 6 g 0 (Ex.dats (sofar fs all seen ks j)) F)∧Hid (Ex.usesBs fs seen (ks.take j)=true)) (fun i _=>ks.length - (intOf i).toNat)
 case atStart=>exact⟨0,rfl,Nat.zero_le _,o1,HS1.out,by unfold Hid;rw[List.take_zero,Ex.usesBs]⟩
 case round =>
  obtain⟨j,rfl,hj,oR,hA,HU⟩:=hrel
  clear o1 HS1
  by_cases hlt:j<ks.length
  ·obtain⟨gk,F,rfl,rfl,hgk⟩:=HP.out (by omega)
   have i1:(j:Int)<(ks.length:Int):=by omega
   obtain⟨u0,u1,H0,H1,hE,HK⟩:=kid_step hng hty hgk oR (hA _ _ rfl (by omega)) hnd hsp hlt
   have hP1:=ipex_any ks[j].kind ks[j].n gk (j*6) wr hE.ty (hE.cells 0 _ rfl).1 (hE.cells 1 _ rfl).1
   have hP2:=fun w' (l:Later wr w')=>hI'.out j hlt w' K bf bd bs fs all seen gk (j*6) u0 u1 H0 H1 (hE.later l)
   have HK':Hid (∀ w1 w2,Later wr w1→OnlyC gk (j*6+1) H1 w1 w2→OnlyF (gk::F) w w2∧(w2.cell? ⟨gk,j*6+1,none⟩=some (.int .i64 (nbN fs all seen ks[j].kind ks[j].n ks[j].name))→OwnD w2 (.list 6 (Ex.dats (Ex.nbs fs all seen ks[j].kids))) [u1] H1→OwnAll w2 6 gk 0 (Ex.dats (sofar fs all seen ks (j+1))) F)):=HK
   have hgw:=hE.lt
   clear HK hE hA oR
   go_wp2_with fail
   refine hP1.mono ?_
   rintro e w2 ⟨rfl,l2⟩
   have hP3:=hP2 w2 l2
   clear hP1 hP2
   generalize hxv:exV ks[j].kind ks[j].n gk (j*6)=xv at *
   clear hxv
   go_wp2_with fail
   refine hP3.mono ?_
   rintro e w3 ⟨b,rfl,hb,oc,hok⟩
   obtain⟨o3,HA⟩:=HK'.out w2 w3 l2 oc
   have HB2:Hid (b=true→OwnAll w3 6 gk 0 (Ex.dats (sofar fs all seen ks (j+1))) F):=fun q=>HA (hok q).1 (hok q).2
   have HU2:Hid (b=true→Ex.usesBs fs seen (ks.take (j+1))=true):=fun q=>by rw[usesBs_take hlt,HU.out,← hb,q];rfl
   have HF2:Hid (b=false→Q (.returned (.bool false)) w3):=fun q=>HF.out w3 j hlt o3 (by rw[←hb,q])
   clear hP3 hok HA HK' oc hb HU
   cases b with
   | false =>
    have HF3:=HF2.out rfl
    clear HF2 HU2 HB2
    go_wp2_with fail
    exact HF3
   | true =>
    have hA3:=HB2.out rfl
    have HU3:Hid (Ex.usesBs fs seen (ks.take (j+1))=true):=HU2.out rfl
    clear HF2 HU2 HB2
    go_wp2_with fail
    go_roundw
    case rel=>exact⟨j+1,by go_num,by omega,o3,fun g' F' e _=>by cases e;exact hA3,HU3⟩
    case measure=>simp[intOf];omega
  ·have i1:¬ (j:Int)<(ks.length:Int):=by omega
   have i2:decide ((j:Int)<(ks.length:Int))=false:=decide_eq_false i1
   have hjj:j=ks.length:=by omega
   subst hjj
   obtain⟨hk1,hu1⟩:=HT.out wr oR hA HU.out
   have hB2:=HBl.out wr oR
   clear HT hA HU HF hI' HP HL HBl
   go_wp2_with fail
   refine hB2.mono ?_
   rintro e w4 ⟨bv,rfl,⟨B,rfl,hBg,hBl,d0,d1⟩,l4⟩
   have hM0:Mid w w4 K bf bd bs fs all seen (Ex.nbs fs all seen ks) bo el (.slice a ks.length cap) (.slice a2 l2 c2) (.slice a3 l3 c3) G1 G2 G3 B :=
    ⟨(oR.mono (fun b q=>by simp[q])).trans (OnlyF.of_later l4),own_later hk1 l4,own_later (OwnD.only Hhb.out oR Hdj.out.1) l4,own_later (OwnD.only Hhe.out oR Hdj.out.2) l4,(hng.onlyF oR hsp).later l4,(hty.onlyF oR hsp).later l4,d0,d1,hBl,fun b q=>Nat.lt_of_lt_of_le (Hlt.out b q) (Nat.le_trans oR.size hBg)⟩
   have HQ2:Hid (∀ w',(St.fineBs fs all seen bo=false∨St.fineBs fs all seen bo=true∧St.fineBs fs (all++St.decls bo) seen el=false)→OnlyF (bd::bs::(G1++G2++G3)) w w'→Q (.returned (.bool false)) w'):=fun w' hf o'=>by
    rw[←HQ.out]
    exact⟨false,rfl,by rcases hf with h|⟨h,h'⟩;rw[h];simp;rw[h,h'];simp,o',fun h=>by cases h⟩
   have HQ3:Hid (∀ w',St.fineBs fs all seen bo=true→St.fineBs fs (all++St.decls bo) seen el=true→Mid w w' K bf bd bs fs (all++St.decls bo++St.decls el) seen (Ex.nbs fs all seen ks) (St.nbl fs all seen bo) (St.nbl fs (all++St.decls bo) seen el) (.slice a ks.length cap) (.slice a2 l2 c2) (.slice a3 l3 c3) G1 G2 G3 B→Q (.returned (.bool true)) w'):=fun w' h1 h2 hM=>by
    rw[←HQ.out]
    exact⟨true,rfl,by rw[hu1,h1,h2];rfl,hM.o,fun _=>⟨hM.k,hM.b,hM.e,hM.ng⟩⟩
   have HC2:Hid (∀ W,Mid w W K bf bd bs fs all seen (Ex.nbs fs all seen ks) bo el (.slice a ks.length cap) (.slice a2 l2 c2) (.slice a3 l3 c3) G1 G2 G3 B→Calls Tryz.prog 63 #[.pointer (some ⟨K,0,none⟩),.slice a2 l2 c2] W (SBl W K bf bd bs fs all seen bo (.slice a2 l2 c2) G2)):=fun W hM=>HB2.out W K bf bd bs fs all seen _ G2 hM.ng hM.ty hM.b (List.nodup_append.1 (List.nodup_append.1 HNd.out).1).2.1 (fun b q=>HSp.out b (by simp[q])) (by omega) hn2 hm
   have HC3:Hid (∀ W,Mid w W K bf bd bs fs (all++St.decls bo) seen (Ex.nbs fs all seen ks) (St.nbl fs all seen bo) el (.slice a ks.length cap) (.slice a2 l2 c2) (.slice a3 l3 c3) G1 G2 G3 B→Calls Tryz.prog 63 #[.pointer (some ⟨K,0,none⟩),.slice a3 l3 c3] W (SBl W K bf bd bs fs (all++St.decls bo) seen el (.slice a3 l3 c3) G3)):=fun W hM=>HB3.out W K bf bd bs fs (all++St.decls bo) seen _ G3 hM.ng hM.ty hM.e (List.nodup_append.1 HNd.out).2.1 (fun b q=>HSp.out b (by simp[q])) (by have:=St.decls_len bo;rw[List.length_append];omega) hn3 hm
   have Hm:Hid _:=hm
   clear hB2 hk1 hu1 HQ d0 d1 hBg hBl l4 oR HB2 HB3 Hhb Hhe Hdj Hlt hm hng hty hn2 hn3 hz hnd hsp hgn
   go_wp2_with fail
   go_loopw [27] (fun i W=>(i=.int .i64 0∧Mid w W K bf bd bs fs all seen (Ex.nbs fs all seen ks) bo el (.slice a ks.length cap) (.slice a2 l2 c2) (.slice a3 l3 c3) G1 G2 G3 B)∨(i=.int .i64 1∧Mid w W K bf bd bs fs (all++St.decls bo) seen (Ex.nbs fs all seen ks) (St.nbl fs all seen bo) el (.slice a ks.length cap) (.slice a2 l2 c2) (.slice a3 l3 c3) G1 G2 G3 B∧Hid (St.fineBs fs all seen bo=true))∨(i=.int .i64 2∧Mid w W K bf bd bs fs (all++St.decls bo++St.decls el) seen (Ex.nbs fs all seen ks) (St.nbl fs all seen bo) (St.nbl fs (all++St.decls bo) seen el) (.slice a ks.length cap) (.slice a2 l2 c2) (.slice a3 l3 c3) G1 G2 G3 B∧Hid (St.fineBs fs all seen bo=true)∧Hid (St.fineBs fs (all++St.decls bo) seen el=true))) (fun i _=>2 - (intOf i).toNat)
   case atStart=>exact .inl ⟨rfl,hM0⟩
   case round =>
    clear hM0
    rcases hrel with ⟨rfl,hM⟩|⟨rfl,hM,hf1⟩|⟨rfl,hM,hf1,hf2⟩
    ·have hC:=HC2.out _ hM
     have d0:=hM.d0
     have HM2:Hid (∀ w',OnlyF (bd::bs::G2) wr w'→OnlyF (bd::bs::(G1++G2++G3)) w w'∧(OwnD w' (.list 8 (St.dats (St.nbl fs all seen bo))) [.slice a2 l2 c2] G2→Ng w' K bf bd bs fs (all++St.decls bo) seen→Mid w w' K bf bd bs fs (all++St.decls bo) seen (Ex.nbs fs all seen ks) (St.nbl fs all seen bo) el (.slice a ks.length cap) (.slice a2 l2 c2) (.slice a3 l3 c3) G1 G2 G3 B)):=fun w' o'=>hM.two HNd.out HSp.out Hm.out o'
     have hlb:=hM.lt
     clear hM HC2 HC3
     go_wp2_with fail
     refine hC.mono ?_
     rintro e w5 ⟨b,rfl,hb,o5,hok⟩
     obtain⟨o6,hnext⟩:=HM2.out w5 o5
     have HF6:Hid (b=false→Q (.returned (.bool false)) w5):=fun q=>HQ2.out w5 (.inl (by rw[←hb,q])) o6
     have HT6:Hid (b=true→Mid w w5 K bf bd bs fs (all++St.decls bo) seen (Ex.nbs fs all seen ks) (St.nbl fs all seen bo) el (.slice a ks.length cap) (.slice a2 l2 c2) (.slice a3 l3 c3) G1 G2 G3 B∧Hid (St.fineBs fs all seen bo=true)):=fun q=>⟨hnext (hok q).1 (hok q).2,by unfold Hid;rw[←hb,q]⟩
     clear hC hnext hok o5 o6 hb HM2 d0 hlb
     cases b with
     | false =>
      have HZ:=HF6.out rfl
      clear HF6 HT6
      go_wp2_with fail
      exact HZ
     | true =>
      have HZ:=HT6.out rfl
      clear HF6 HT6
      go_wp2_with fail
      go_roundw
      case rel=>exact .inr (.inl ⟨by go_num,HZ.1,HZ.2⟩)
      case measure=>simp[intOf]
    ·have hC:=HC3.out _ hM
     have d1:=hM.d1
     have HM2:Hid (∀ w',OnlyF (bd::bs::G3) wr w'→OnlyF (bd::bs::(G1++G2++G3)) w w'∧(OwnD w' (.list 8 (St.dats (St.nbl fs (all++St.decls bo) seen el))) [.slice a3 l3 c3] G3→Ng w' K bf bd bs fs (all++St.decls bo++St.decls el) seen→Mid w w' K bf bd bs fs (all++St.decls bo++St.decls el) seen (Ex.nbs fs all seen ks) (St.nbl fs all seen bo) (St.nbl fs (all++St.decls bo) seen el) (.slice a ks.length cap) (.slice a2 l2 c2) (.slice a3 l3 c3) G1 G2 G3 B)):=fun w' o'=>hM.three HNd.out HSp.out Hm.out o'
     have hlb:=hM.lt
     clear hM HC2 HC3
     go_wp2_with fail
     refine hC.mono ?_
     rintro e w5 ⟨b,rfl,hb,o5,hok⟩
     obtain⟨o6,hnext⟩:=HM2.out w5 o5
     have HF6:Hid (b=false→Q (.returned (.bool false)) w5):=fun q=>HQ2.out w5 (.inr ⟨hf1.out,by rw[←hb,q]⟩) o6
     have HT6:Hid (b=true→Mid w w5 K bf bd bs fs (all++St.decls bo++St.decls el) seen (Ex.nbs fs all seen ks) (St.nbl fs all seen bo) (St.nbl fs (all++St.decls bo) seen el) (.slice a ks.length cap) (.slice a2 l2 c2) (.slice a3 l3 c3) G1 G2 G3 B∧Hid (St.fineBs fs (all++St.decls bo) seen el=true)):=fun q=>⟨hnext (hok q).1 (hok q).2,by unfold Hid;rw[←hb,q]⟩
     clear hC hnext hok o5 o6 hb HM2 d1 hlb
     cases b with
     | false =>
      have HZ:=HF6.out rfl
      clear HF6 HT6
      go_wp2_with fail
      exact HZ
     | true =>
      have HZ:=HT6.out rfl
      clear HF6 HT6
      go_wp2_with fail
      go_roundw
      case rel=>exact .inr (.inr ⟨by go_num,HZ.1,hf1,HZ.2⟩)
      case measure=>simp[intOf]
    ·have HZ:=HQ3.out _ hf1.out hf2.out hM
     clear hM HC2 HC3 HQ2 HQ3
     go_wp2_with fail
     exact HZ
def SPart (x:St):Prop:=∀ w K bf bd bs fs all seen g o v0 v1 v2 v3 G0 G1 G2 G3,SIn w K bf bd bs fs all seen x g o v0 v1 v2 v3 G0 G1 G2 G3→bd≠0∧bd≠1∧bs≠0∧bs≠1→all.length+x.num≤700000→x.noK→Calls Tryz.prog 108 #[.pointer (some ⟨K,0,none⟩),stV x.kind g o] w (SPt w K bf bd bs fs all seen x g o v1 v2 v3 G1 G2 G3)
theorem SIn.apart {w:World}{K bf bd bs:Nat}{fs all seen:List (List Int)}{x:St}{g o:Nat}{v0 v1 v2 v3:Value}{G0 G1 G2 G3:List Nat}(h:SIn w K bf bd bs fs all seen x g o v0 v1 v2 v3 G0 G1 G2 G3):g∉bd::bs::(G1++G2++G3)∧g∉G1∧(G1++G2++G3).Nodup∧(∀ b∈G1++G2++G3,Sp K bf bd bs b)∧(∀ b∈g::(G1++G2++G3),b∉[bd,bs])∧g∉G1++G2++G3:=by
 have nd:=List.nodup_cons.1 h.nd
 have hsub:∀ b∈G1++G2++G3,b∈G0++G1++G2++G3:=fun b q=>by simp only[List.mem_append]at q ⊢;rcases q with (q|q)|q <;> simp[q]
 have hg:g∉G1++G2++G3:=fun q=>nd.1 (hsub g q)
 have sg:=h.sep g (List.mem_cons_self ..)
 have sG:∀ b∈G1++G2++G3,Sp K bf bd bs b:=fun b q=>h.sep b (List.mem_cons_of_mem _ (hsub b q))
 refine⟨fun q=>?_,fun q=>hg (by simp[q]),?_,sG,fun b q=>?_,hg⟩
 ·rcases List.mem_cons.1 q with e|q
  ·exact sg.2.2.1 e
  ·rcases List.mem_cons.1 q with e|q
   ·exact sg.2.2.2.1 e
   ·exact hg q
 ·have:(G0++(G1++G2++G3)).Nodup:=by simpa[List.append_assoc] using nd.2
  exact (List.nodup_append.1 this).2.1
 ·rcases List.mem_cons.1 q with e|q
  ·subst e;simp[sg.2.2.1,sg.2.2.2.1]
  ·simp[(sG b q).2.2.1,(sG b q).2.2.2.1]
theorem sipart_plain (x:St) (hE:∀ j (hj:j<x.kids.length),EPart x.kids[j]) (hBo:SBlock x.body) (hEl:SBlock x.els) (h0:x.kind≠0):SPart x:=by
 intro w K bf bd bs fs all seen g o v0 v1 v2 v3 G0 G1 G2 G3 h hm hz hn
 obtain⟨hP,hV⟩:=stV_part x.kind g o
 have hV:=hV h0
 have ad:=hV.d
 have au:=hV.u
 have ac:=hV.c
 obtain⟨hg,hg1,hnd,hsp,_,_⟩:=h.apart
 have hnk:=(St.noK_eq x).1 hn
 have hW:=iwithinS x.kids x.body x.els hE hBo hEl w K bf bd bs fs all seen g o v1 v2 v3 G1 G2 G3 (stT x.kind) (.agg #[.pointer (some ⟨g,o,none⟩)]) h.ng h.ty h.lt (h.cells 5 _ rfl).1 (h.cells 6 _ rfl).1 (h.cells 7 _ rfl).1 h.kids h.body h.els hg1 hnd hsp hm (by rw[St.num_eq]at hz;omega) hnk.2.1 hnk.2.2 hP
 have hown:x.ownN=[]:=by unfold St.ownN ownL;rw[if_neg h0]
 have HE:Hid (∀ b w',b=(Ex.usesBs fs seen x.kids&&St.fineBs fs all seen x.body&&St.fineBs fs (all++St.decls x.body) seen x.els)→OnlyF (bd::bs::(G1++G2++G3)) w w'→(b=true→OwnD w' (.list 6 (Ex.dats (Ex.nbs fs all seen x.kids))) [v1] G1∧OwnD w' (.list 8 (St.dats (St.nbl fs all seen x.body))) [v2] G2∧OwnD w' (.list 8 (St.dats (St.nbl fs (all++St.decls x.body) seen x.els))) [v3] G3∧Ng w' K bf bd bs fs (all++St.decls x.body++St.decls x.els) seen)→SPt w K bf bd bs fs all seen x g o v1 v2 v3 G1 G2 G3 (.returned (.bool b)) w'):=fun b w' hb o1 hk=>by
  refine⟨b,rfl,?_,OnlyC.of_only o1 hg h.lt,fun q=>⟨?_,?_⟩⟩
  ·have hl0:ownL x.kind x.name=[]:=hown
   have hk0:(x.kind==0)=false:=by simpa using h0
   rw[St.fineB_eq,hb,hl0,List.append_nil,List.append_nil,hk0,Bool.not_false,Bool.true_or,Bool.and_true]
  ·rw[if_neg h0,(cell_block (o1.block g h.lt hg)).1]
   exact (h.cells 1 _ rfl).1
  ·have hl0:ownL x.kind x.name=[]:=hown
   rw[hown,St.decl_eq,hl0,List.append_nil,List.append_nil,List.nil_append,← List.append_assoc]
   exact hk q
 unfold stV
 generalize stT x.kind=T at *
 generalize hQ:SPt w K bf bd bs fs all seen x g o v1 v2 v3 G1 G2 G3=Q at *
 clear hQ h hP hV hnk hown hn hz
 go_enter Tryz.func108,Tryz.ntmps108
 go_wp2_with fail
 refine hW.mono ?_
 rintro e w1 ⟨b,rfl,hb,o1,hk⟩
 have HZ:=HE.out b w1 hb o1 hk
 clear hW HE hb o1 hk
 go_wp2_with fail
 exact HZ
def DecR (wd:World) (K bf bd bs:Nat) (fs all seen:List (List Int)) (z:List Int) (u:Value) (w':World):Prop :=
 ∃ nv bb,u=.tuple #[.int .i64 nv,.bool bb]∧OnlyF [bd,bs] wd w'∧(bb=true→z∉all∧nv=(all.length:Int)∧Ng w' K bf bd bs fs (all++[z]) (seen++[z]))∧(bb=false→z∈all)
theorem idecR (w:World) (K bf bd bs:Nat) (fs all seen:List (List Int)) (z:List Int) (h:Ng w K bf bd bs fs all seen) (hz:Nm z) (hl:all.length≤800000) :
  Calls Tryz.prog 144 #[.pointer (some ⟨K,0,none⟩),.string (strOfNums z)] w fun e w'=>∃ u,e=.returned u∧DecR w K bf bd bs fs all seen z u w':=by
 refine (ideclare_any w K bf bd bs fs all seen z h hz hl).mono ?_
 rintro e w' (⟨hm,rfl,rfl⟩|⟨hm,rfl,hn,ho⟩)
 ·exact⟨_,rfl,0,false,rfl,OnlyF.refl _ _,fun q=>(by cases q),fun _=>hm⟩
 ·exact⟨_,rfl,(all.length:Int),true,rfl,ho,fun _=>⟨hm,rfl,hn⟩,fun q=>(by cases q)⟩
theorem en_decl:Enters Tryz.prog 144:=enters_of Tryz.func144 (by kernel_rfl) (by kernel_rfl)
theorem SIn.put {w w5:World}{K bf bd bs:Nat}{fs all seen all' seen':List (List Int)}{x:St}{g o:Nat}{v0 v1 v2 v3:Value}{G0 G1 G2 G3:List Nat}(h:SIn w K bf bd bs fs all seen x g o v0 v1 v2 v3 G0 G1 G2 G3) (hm:bd≠0∧bd≠1∧bs≠0∧bs≠1) (l:OnlyF [bd,bs] w w5) (N:Int) :
  OnlyC g (o+1) (bd::bs::(G1++G2++G3)) w (w5.setCell ⟨g,o+1,none⟩ (.int .i64 N))∧(Ng w5 K bf bd bs fs all' seen'→Ng (w5.setCell ⟨g,o+1,none⟩ (.int .i64 N)) K bf bd bs fs all' seen')∧TyE (w5.setCell ⟨g,o+1,none⟩ (.int .i64 N))∧(∀ m u,m≠1→[.int .i64 x.kind,.int .i64 x.n,.int .i64 x.tk,.int .i64 x.tn,v0,v1,v2,v3][m]?=some u→(w5.setCell ⟨g,o+1,none⟩ (.int .i64 N)).cell? ⟨g,o+m,none⟩=some u)∧OwnD (w5.setCell ⟨g,o+1,none⟩ (.int .i64 N)) (.list 6 (Ex.dats x.kids)) [v1] G1∧OwnD (w5.setCell ⟨g,o+1,none⟩ (.int .i64 N)) (.list 8 (St.dats x.body)) [v2] G2∧OwnD (w5.setCell ⟨g,o+1,none⟩ (.int .i64 N)) (.list 8 (St.dats x.els)) [v3] G3∧(w5.setCell ⟨g,o+1,none⟩ (.int .i64 N)).cell? ⟨g,o+1,none⟩=some (.int .i64 N)∧g<(w5.setCell ⟨g,o+1,none⟩ (.int .i64 N)).heap.size∧(w5.cell? ⟨g,o+1,none⟩=some (.int .i64 x.n)∧w5.frozen? ⟨g,o+1,none⟩=false):=by
 obtain⟨hg,hg1,hnd,hsp,hbb,hgG⟩:=h.apart
 have hgb:=l.block g h.lt (hbb g (List.mem_cons_self ..))
 have hS:OnlyF [g] w5 (w5.setCell ⟨g,o+1,none⟩ (.int .i64 N)):=OnlyF.set (OnlyF.refl _ _) _ (List.mem_singleton.2 rfl)
 have hsg:∀ b∈[g],Sp K bf bd bs b:=fun b q=>h.sep b (by rw[List.mem_singleton.1 q];exact List.mem_cons_self ..)
 have c1:=h.cells 1 _ rfl
 have c15:w5.cell? ⟨g,o+1,none⟩=some (.int .i64 x.n):=by rw[(cell_block hgb).1];exact c1.1
 have own2:∀ {d:Dat}{cs:List Value}{G:List Nat},OwnD w d cs G→(∀ b∈G,b∈G1++G2++G3)→OwnD (w5.setCell ⟨g,o+1,none⟩ (.int .i64 N)) d cs G:=fun hd hG=>OwnD.only (OwnD.only hd l (fun b q=>hbb b (List.mem_cons_of_mem _ (hG b q)))) hS (fun b q e=>hgG (by rw[←List.mem_singleton.1 e];exact hG b q))
 refine⟨⟨hS.os.trans l.os,hS.tape.trans l.tape,hS.output.trans l.output,Nat.le_trans l.size hS.size,fun b hb hn hbg=>?_,fun y hy=>?_,fun y=>?_⟩,fun hn=>hn.onlyF hS hsg,(h.ty.onlyM (F:=[]) (K:=K) (bf:=bf) l (fun b q=>by cases q) hm).onlyF hS hsg,fun m u hm1 hu=>?_,own2 h.kids (fun b q=>by simp[q]),own2 h.body (fun b q=>by simp[q]),own2 h.els (fun b q=>by simp[q]),set_same c15,by rw[World.size_setCell];exact Nat.lt_of_lt_of_le h.lt l.size,c15,by rw[(cell_block hgb).2];exact c1.2⟩
 ·rw[hS.block b (Nat.lt_of_lt_of_le hb l.size) (by simpa using hbg),l.block b hb (fun q=>hn (by simp only[List.mem_cons]at q ⊢;rcases q with q|q|q <;> simp_all))]
 ·rw[World.cell?_setCell_other w5 _ _ _ (by simp;try omega),(cell_block hgb).1]
 ·rw[World.frozen?_setCell,(cell_block hgb).2]
 ·rw[World.cell?_setCell_other w5 _ _ _ (by simp;try omega),(cell_block hgb).1]
  exact (h.cells m u hu).1
theorem sipart_decl (x:St) (hE0:∀ j (hj:j<x.kids.length),EPart x.kids[j]) (hBo:SBlock x.body) (hEl:SBlock x.els) (h0:x.kind=0):SPart x:=by
 intro w K bf bd bs fs all seen g o v0 v1 v2 v3 G0 G1 G2 G3 h hm hz hn
 have eT:stV x.kind g o=.iface 190 (.agg #[.pointer (some ⟨g,o,none⟩)]):=by rw[h0];rfl
 rw[eT]
 have ad:=a_declarePart_declarePart (.agg #[.pointer (some ⟨g,o,none⟩)])
 obtain⟨hg,hg1,hnd,hsp,_,hgG⟩:=h.apart
 have hnk:=(St.noK_eq x).1 hn
 have hk0:=hnk.1 h0
 obtain⟨wb,hwb⟩:=hidx (w.alloc (.cells #[.pointer (some ⟨g,o,none⟩)] 190))
 have lb:Later w wb:=by rw[hwb.out];exact later1 _ _
 have lb2:Later w wb.drew:=lb.trans (Later.drew _)
 have hbx:Bxx wb.drew w.heap.size [.pointer (some ⟨g,o,none⟩)]:=by rw[hwb.out];exact (Bxx.new _ _ _).later (Later.drew _)
 have hE:=h.later lb2
 have x0:=(hbx.cell 0 _ rfl).1
 have hNm:Nm x.name:=by have:=h.nm;rw[OwnD]at this;obtain⟨_,_,_,q1,q2,_⟩:=this;exact⟨q2,q1.1⟩
 have hrd:RdN wb.drew v0 x.name:=by obtain⟨u,hu,hr⟩:=RdN.iff.1 (OwnD.rd _ hE.nm);cases hu;exact hr
 have hcv:=conv_here hrd.rd
 have c4:=(hE.cells 4 _ rfl).1
 obtain⟨y0,q0,rfl,_⟩:=hrd.slice
 have HD:Hid (Calls Tryz.prog 144 #[.pointer (some ⟨K,0,none⟩),.string (strOfNums x.name)] wb.drew fun e w'=>∃ u,e=.returned u∧DecR wb.drew K bf bd bs fs all seen x.name u w'):=idecR wb.drew K bf bd bs fs all seen x.name hE.ng hNm (by have:=St.num_pos x;omega)
 have hbd:bd<w.heap.size:=h.ng.md.lt
 have hbs:bs<w.heap.size:=by obtain⟨_,_,q⟩:=h.ng.ms;exact q.lt
 have HX:Hid (∀ w5,OnlyF [bd,bs] wb.drew w5→w5.cell? ⟨w.heap.size,0,none⟩=some (.pointer (some ⟨g,o,none⟩))∧w5.cell? ⟨g,o+1,none⟩=some (.int .i64 x.n)∧w5.frozen? ⟨g,o+1,none⟩=false):=fun w5 o5=>by
  have hb:=o5.block w.heap.size hbx.lt (by simp;omega)
  obtain⟨_,_,_,_,_,_,_,_,_,q1,q2⟩:=hE.put (all':=all) (seen':=seen) hm o5 0
  exact⟨by rw[(cell_block hb).1];exact x0,q1,q2⟩
 have HF:Hid (∀ w5 nv,OnlyF [bd,bs] wb.drew w5→x.name∈all→SPt w K bf bd bs fs all seen x g o v1 v2 v3 G1 G2 G3 (.returned (.bool false)) (w5.setCell ⟨g,o+1,none⟩ (.int .i64 nv))):=fun w5 nv o5 hm1=>by
  obtain⟨oc,_⟩:=hE.put (all':=all) (seen':=seen) hm o5 nv
  refine⟨false,rfl,?_,(OnlyC.of_only (OnlyF.of_later lb2) hg h.lt).trans oc,fun q=>by cases q⟩
  rw[St.fineB_eq,h0]
  simp[hm1]
 have hown:ownL x.kind x.name=[x.name]:=by unfold ownL;rw[if_pos h0]
 have HW:Hid (∀ w5 nv,OnlyF [bd,bs] wb.drew w5→Ng w5 K bf bd bs fs (all++[x.name]) (seen++[x.name])→Calls Tryz.prog 145 #[.pointer (some ⟨K,0,none⟩),.iface 190 (.agg #[.pointer (some ⟨g,o,none⟩)])] (w5.setCell ⟨g,o+1,none⟩ (.int .i64 nv)) (SWi (w5.setCell ⟨g,o+1,none⟩ (.int .i64 nv)) K bf bd bs fs (all++[x.name]) (seen++[x.name]) x.kids x.body x.els v1 v2 v3 G1 G2 G3)):=fun w5 nv o5 hng=>by
  obtain⟨oc,hn5,hty5,hc5,k5,b5,e5,_,hl5,_,_⟩:=hE.put (all':=all++[x.name]) (seen':=seen++[x.name]) hm o5 nv
  exact iwithinS x.kids x.body x.els hE0 hBo hEl _ K bf bd bs fs (all++[x.name]) (seen++[x.name]) g o v1 v2 v3 G1 G2 G3 190 (.agg #[.pointer (some ⟨g,o,none⟩)]) (hn5 hng) hty5 hl5 (hc5 5 _ (by decide) rfl) (hc5 6 _ (by decide) rfl) (hc5 7 _ (by decide) rfl) k5 b5 e5 hg1 hnd hsp hm (by rw[St.num_eq]at hz;simp;omega) hnk.2.1 hnk.2.2 ⟨fun w=>m_declarePart_kids _ w,fun w=>m_declarePart_blocks _ w⟩
 have HT:Hid (∀ w5 b w',OnlyF [bd,bs] wb.drew w5→x.name∉all→b=(Ex.usesBs fs (seen++[x.name]) x.kids&&St.fineBs fs (all++[x.name]) (seen++[x.name]) x.body&&St.fineBs fs (all++[x.name]++St.decls x.body) (seen++[x.name]) x.els)→OnlyF (bd::bs::(G1++G2++G3)) (w5.setCell ⟨g,o+1,none⟩ (.int .i64 (all.length:Int))) w'→(b=true→OwnD w' (.list 6 (Ex.dats (Ex.nbs fs (all++[x.name]) (seen++[x.name]) x.kids))) [v1] G1∧OwnD w' (.list 8 (St.dats (St.nbl fs (all++[x.name]) (seen++[x.name]) x.body))) [v2] G2∧OwnD w' (.list 8 (St.dats (St.nbl fs (all++[x.name]++St.decls x.body) (seen++[x.name]) x.els))) [v3] G3∧Ng w' K bf bd bs fs (all++[x.name]++St.decls x.body++St.decls x.els) (seen++[x.name]))→SPt w K bf bd bs fs all seen x g o v1 v2 v3 G1 G2 G3 (.returned (.bool b)) w'):=fun w5 b w' o5 hnm hb o1 hk=>by
  obtain⟨oc,_,_,_,_,_,_,hcell,hl5,_,_⟩:=hE.put (all':=all) (seen':=seen) hm o5 (all.length:Int)
  refine⟨b,rfl,?_,((OnlyC.of_only (OnlyF.of_later lb2) hg h.lt).trans oc).trans (OnlyC.of_only o1 hg hl5),fun q=>⟨?_,?_⟩⟩
  ·rw[St.fineB_eq,hb,hown,hk0,Ex.usesBs,Ex.usesBs,h0]
   simp[hnm]
  ·rw[if_pos h0,(cell_block (o1.block g hl5 hg)).1]
   exact hcell
  ·have e2:x.ownN=[x.name]:=hown
   rw[e2,St.decl_eq,hown,← List.append_assoc,← List.append_assoc]
   exact hk q
 have hl:w.heap.size<wb.drew.heap.size:=hbx.lt
 have hgl:=hE.lt
 have hKl:=hE.ng.box.lt
 generalize hQ:SPt w K bf bd bs fs all seen x g o v1 v2 v3 G1 G2 G3=Q at *
 clear hQ eT hE hbx hrd h hnk hn hz hNm hown hk0 lb lb2 hE0 hBo hEl hm
 go_enter Tryz.func108,Tryz.ntmps108
 go_wp2_with fail
 rw[←hwb.out]
 go_region_law (first
  | (refine step_call rfl 144 en_decl _ _ rfl [.pointer (some ⟨K,0,none⟩),.string (strOfNums x.name)] rfl (fun u w'=>DecR wb.drew K bf bd bs fs all seen x.name u w') HD.out ?_;intro u5 w5 hd5;obtain⟨nv,bb,rfl,o5,hyes,hno⟩:=hd5;obtain⟨z0,z1,z2⟩:=HX.out w5 o5)
  | fail "none")
 all_goals
  have HY:Hid (bb=true→x.name∉all∧nv=(all.length:Int)∧Ng w5 K bf bd bs fs (all++[x.name]) (seen++[x.name])):=hyes
  have HN:Hid (bb=false→x.name∈all):=hno
  clear hyes hno x0 hcv c4 hl hgl hKl hwb z0 z1 z2 HX HD
  cases bb with
  | false =>
   have HZ:=HF.out w5 nv o5 (HN.out rfl)
   clear HF HT HW HY HN o5
   generalize w5.setCell ⟨g,o+1,none⟩ (.int .i64 nv)=W2 at *
   go_wp2_with fail
   exact HZ
  | true =>
   obtain⟨hm1,rfl,hng5⟩:=HY.out rfl
   have hW:=HW.out w5 (all.length:Int) o5 hng5
   have HT1:=fun b w'=>HT.out w5 b w' o5 hm1
   have HT2:Hid _:=HT1
   clear HT1
   clear HF HT HW HY HN o5 hng5 hm1
   generalize w5.setCell ⟨g,o+1,none⟩ (.int .i64 (all.length:Int))=W2 at *
   go_wp2_with fail
   refine hW.mono ?_
   rintro e w1 ⟨b,rfl,hb,o1,hk⟩
   have HZ:=HT2.out b w1 hb o1 hk
   clear hW HT2 hb o1 hk
   go_wp2_with fail
   exact HZ
theorem St.fineBs_app (fs:List (List Int)) (l r:List St):∀ all seen,St.fineBs fs all seen (l++r)=(St.fineBs fs all seen l&&St.fineBs fs (all++St.decls l) (seen++St.ownNs l) r):=by
 induction l with
 | nil=>intro all seen;rw[List.nil_append,St.fineBs,Bool.true_and,St.decls,St.ownNs,List.append_nil,List.append_nil]
 | cons x l ih=>intro all seen;rw[List.cons_append,St.fineBs,St.fineBs,ih,Bool.and_assoc,St.decls,St.ownNs,List.append_assoc,List.append_assoc]
theorem St.fineBs_take {fs all seen:List (List Int)}{l:List St}{j:Nat}(h:j<l.length):St.fineBs fs all seen (l.take (j+1))=(St.fineBs fs all seen (l.take j)&&St.fineB fs (all++St.decls (l.take j)) (seen++St.ownNs (l.take j)) l[j]):=by rw[List.take_succ_eq_append_getElem h,St.fineBs_app,St.fineBs,St.fineBs,Bool.and_true]
theorem St.fineBs_not {fs all seen:List (List Int)}{l:List St}{j:Nat}(h:j<l.length) (hb:St.fineB fs (all++St.decls (l.take j)) (seen++St.ownNs (l.take j)) l[j]=false):St.fineBs fs all seen l=false:=by
 have e:=List.take_append_drop (j+1) l
 rw[←e,St.fineBs_app,St.fineBs_take h,hb,Bool.and_false,Bool.false_and]
theorem St.ownNs_sub:∀ (l:List St),(St.ownNs l).Sublist (St.decls l)
 | []=>List.Sublist.refl _
 | x::r=>by
  rw[St.ownNs,St.decls,St.decl_eq]
  exact ((List.sublist_append_left (ownL x.kind x.name) (St.decls x.body)).trans (List.sublist_append_left _ (St.decls x.els))).append (St.ownNs_sub r)
theorem St.ownNs_drop {l:List St}{j:Nat}(h:j<l.length):St.ownNs (l.drop j)=l[j].ownN++St.ownNs (l.drop (j+1)):=by rw[List.drop_eq_getElem_cons h,St.ownNs]
theorem St.ownNs_dsub (l:List St) (j:Nat):(St.ownNs (l.drop j)).Sublist (St.ownNs l):=by
 have e:=St.ownNs_app (l.take j) (l.drop j)
 rw[List.take_append_drop]at e
 rw[e]
 exact List.sublist_append_right _ _
theorem blk_open {w:World}{fs all seen:List (List Int)}{l:List St}{v:Value}{G:List Nat}(h:OwnD w (.list 8 (St.dats l)) [v] G):∃ a cap,v=.slice a l.length cap∧l.length≤1048576∧(0<l.length→∃ g F,a=some ⟨g,0,none⟩∧G=g::F∧g<w.heap.size∧OwnAll w 8 g 0 (St.dats l) F) ∧
  (∀ w',w.heap.size≤w'.heap.size→(∀ g F,G=g::F→0<l.length→OwnAll w' 8 g 0 (St.dats (St.nbl fs all seen l)) F)→OwnD w' (.list 8 (St.dats (St.nbl fs all seen l))) [v] G):=by
 rw[OwnD]at h
 obtain⟨a,cap,hc,⟨h1,h2,h3⟩,hp,hz⟩:=h
 have hv:v=.slice a (St.dats l).length cap:=by simpa using hc
 rw[St.dats_len]at *
 subst hv
 refine⟨a,cap,rfl,h1,hp,fun w' hs hA=>?_⟩
 rw[OwnD,St.dats_len,St.nbl_len]
 refine⟨a,cap,rfl,⟨h1,h2,h3⟩,fun q=>?_,hz⟩
 obtain⟨g,F,e1,e2,e3,_⟩:=hp q
 exact⟨g,F,e1,e2,by omega,hA g F e2 q⟩
theorem St.nbl_at (fs:List (List Int)):∀ (l:List St) (all seen:List (List Int)) (j:Nat) (h:j<l.length),∃ a' s',(St.nbl fs all seen l)[j]'(by rw[St.nbl_len];exact h)=St.nb fs a' s' l[j]
 | x::r,all,seen,0,_=>⟨all,seen,by simp only[St.nbl];rfl⟩
 | x::r,all,seen,j+1,h=>by
  obtain⟨a',s',e⟩:=St.nbl_at fs r (all++x.decl) (seen++x.ownN) j (Nat.lt_of_succ_lt_succ h)
  exact⟨a',s',by simp only[St.nbl,List.getElem_cons_succ];exact e⟩
theorem bytes_slice {w:World}{z:List Int}{v:Value}{G:List Nat}(h:OwnD w (.bytes z) [v] G):∃ a c,v=.slice a z.length c:=by
 rw[OwnD]at h
 obtain⟨a,c,e,_⟩:=h
 exact⟨a,c,by simpa using e⟩
theorem Ng.cut {w w':World}{K bf bd bs n':Nat}{fs all seen r:List (List Int)}{z:List Int}(h:Ng w K bf bd bs fs all (seen++(z::r))) (hz:z∉seen++r) (hM:Mp w' bs n' (cut (seenF all (seen++(z::r))) z)) (hn:n'≤all.length) (ht:w.mapTurned w' bs):Ng w' K bf bd bs fs all (seen++r)∧OnlyF [bs] w w':=by
 obtain⟨hb1,hs1,ho1,hta1,hou1⟩:=mapTurned_block ht
 obtain⟨m,_,hms⟩:=h.ms
 have hKs:=map_ne h.box hms
 obtain⟨nf,hf⟩:=h.mf
 refine⟨⟨h.box.kept (by omega) (hb1 K hKs),⟨nf,hf.kept (hb1 bf h.ne.2.2)⟩,h.md.kept (hb1 bd h.ne.1),⟨n',hn,hM.congr fun y _=>?_⟩,h.ne,h.nd,fun y hy=>h.sub y (by simp only[List.mem_append,List.mem_cons]at hy ⊢;rcases hy with hy|hy <;> simp[hy])⟩,⟨ho1,hta1,hou1,by omega,fun b _ hn=>hb1 b (by simpa using hn)⟩⟩
 unfold Go.Proofs.YtmdejbphoafjlaaGreatDoor.cut seenF
 by_cases e:y=z
 ·subst e
  rw[if_pos rfl,if_neg hz]
 ·rw[if_neg e]
  by_cases hy:y∈seen++r
  ·rw[if_pos hy,if_pos (by simp only[List.mem_append,List.mem_cons]at hy ⊢;rcases hy with hy|hy <;> simp[hy])]
  ·rw[if_neg hy,if_neg (fun q=>hy (by simp only[List.mem_append,List.mem_cons]at q ⊢;rcases q with q|q|q;exact .inl q;exact absurd q e;exact .inr q))]
theorem iblock_of (l:List St) (hP:∀ j (hj:j<l.length),SPart l[j]):SBlock l:=by
 intro w K bf bd bs fs all seen v G hng hty hk hnd hsp hz hno hm
 obtain⟨a,cap,rfl,hlen,hpos,hback⟩:=blk_open (fs:=fs) (all:=all) (seen:=seen) hk
 have HF:Hid (∀ w' j,(hj:j<l.length)→OnlyF (bd::bs::G) w w'→St.fineB fs (all++St.decls (l.take j)) (seen++St.ownNs (l.take j)) l[j]=false→SBl w K bf bd bs fs all seen l (.slice a l.length cap) G (.returned (.bool false)) w'):=fun w' j hj o1 hb=>⟨false,rfl,(St.fineBs_not hj hb).symm,o1,fun h=>by cases h⟩
 have HT:Hid (∀ w',OnlyF (bd::bs::G) w w'→(∀ g F,G=g::F→0<l.length→OwnAll w' 8 g 0 (St.dats (St.nbl fs all seen l)) F)→St.fineBs fs all seen l=true→Ng w' K bf bd bs fs (all++St.decls l) seen→SBl w K bf bd bs fs all seen l (.slice a l.length cap) G (.returned (.bool true)) w'):=fun w' o1 hA hu hn=>⟨true,rfl,hu.symm,o1,fun _=>⟨hback w' o1.size hA,hn⟩⟩
 have HS:Hid (∀ g F,G=g::F→0<l.length→OwnAll w 8 g 0 (St.dats (stSofar fs all seen l 0)) F):=fun g' F e q=>by
  obtain⟨g2,F2,_,e2,_,hA⟩:=hpos q
  rw[e]at e2
  cases e2
  rw[stSofar_zero]
  exact hA
 have HP:Hid (0<l.length→∃ g F,a=some ⟨g,0,none⟩∧G=g::F∧g<w.heap.size):=fun q=>by obtain⟨g2,F2,e1,e2,e3,_⟩:=hpos q;exact⟨g2,F2,e1,e2,e3⟩
 have hI':Hid (∀ j (hj:j<l.length),SPart l[j]):=hP
 have Hz:Hid (∀ j (hj:j<l.length),(all++St.decls (l.take j)).length+l[j].num≤700000):=fun j hj=>by
  have:=St.nums_split hj
  have:=St.decls_len (l.take j)
  rw[List.length_append]
  omega
 have HSub:Hid (∀ z∈seen,z∈all):=hng.sub
 have Hm:Hid _:=hm
 have Hno:Hid _:=hno
 have Hsp:Hid _:=hsp
 have Hnd:Hid _:=hnd
 have Hty:Hid (∀ w',OnlyF (bd::bs::G) w w'→TyE w'):=fun w' o=>hty.onlyM o hsp hm
 have hng0:Ng w K bf bd bs fs (all++St.decls (l.take 0)) (seen++St.ownNs (l.take 0)):=by rw[List.take_zero,St.decls,St.ownNs,List.append_nil,List.append_nil];exact hng
 clear hback hpos hk hP hty hng hm hno hsp hnd hz
 generalize hQ:SBl w K bf bd bs fs all seen l (.slice a l.length cap) G=Q at *
 clear hQ
 go_enter Tryz.func63,Tryz.ntmps63
 go_wp2_with fail
 go_loopw [10] (fun i wr=>∃ (j:Nat),i=.int .i64 (j:Int)∧j≤l.length∧OnlyF (bd::bs::G) w wr∧(∀ g F,G=g::F→0<l.length→OwnAll wr 8 g 0 (St.dats (stSofar fs all seen l j)) F)∧Ng wr K bf bd bs fs (all++St.decls (l.take j)) (seen++St.ownNs (l.take j))∧Hid (St.fineBs fs all seen (l.take j)=true)) (fun i _=>l.length - (intOf i).toNat)
 case atStart=>exact⟨0,rfl,Nat.zero_le _,OnlyF.refl _ _,HS.out,hng0,by unfold Hid;rw[List.take_zero,St.fineBs]⟩
 case round =>
  obtain⟨j,rfl,hj,oR,hA,hngR,HU⟩:=hrel
  clear hng0 HS
  by_cases hlt:j<l.length
  ·obtain⟨gk,F,rfl,rfl,hgk⟩:=HP.out (by omega)
   have i1:(j:Int)<(l.length:Int):=by omega
   obtain⟨u0,u1,u2,u3,H0,H1,H2,H3,hE,HK⟩:=st_step hngR (Hty.out _ oR) hgk oR (hA _ _ rfl (by omega)) Hnd.out Hsp.out hlt
   have hP1:=ipst_any l[j].kind gk (j*8) wr (hE.cells 0 _ rfl).1
   have hP2:=fun w' (q:Later wr w')=>hI'.out j hlt w' K bf bd bs fs _ _ gk (j*8) u0 u1 u2 u3 H0 H1 H2 H3 (hE.later q) Hm.out (Hz.out j hlt) (St.noKs_at l Hno.out j hlt)
   have HK':Hid _:=HK
   have hgw:=hE.lt
   clear HK hE hA oR hngR
   go_wp2_with fail
   refine hP1.mono ?_
   rintro e w2 ⟨rfl,l2⟩
   have hP3:=hP2 w2 l2
   clear hP1 hP2
   generalize hxv:stV l[j].kind gk (j*8)=xv at *
   clear hxv
   go_wp2_with fail
   refine hP3.mono ?_
   rintro e w3 ⟨b,rfl,hb,oc,hok⟩
   obtain⟨o3,HA⟩:=HK'.out w2 w3 l2 oc
   obtain⟨e1,e2,e3,e4,e5,e6,e7,e8⟩:=St.nb_eq fs (all++St.decls (l.take j)) (seen++St.ownNs (l.take j)) l[j]
   have HB2:Hid (b=true→OwnAll w3 8 gk 0 (St.dats (stSofar fs all seen l (j+1))) F∧Ng w3 K bf bd bs fs (all++St.decls (l.take (j+1))) (seen++St.ownNs (l.take (j+1)))):=fun q=>by
    obtain⟨k1,k2,k3,k4,k5⟩:=hok q
    refine⟨HA (by rw[e2];exact k1) (by rw[e6];exact k2) (by rw[e7];exact k3) (by rw[e8];exact k4),?_⟩
    rw[St.decls_take hlt,St.ownNs_take hlt,← List.append_assoc,← List.append_assoc]
    exact k5
   have HU2:Hid (b=true→St.fineBs fs all seen (l.take (j+1))=true):=fun q=>by rw[St.fineBs_take hlt,HU.out,← hb,q];rfl
   have HF2:Hid (b=false→Q (.returned (.bool false)) w3):=fun q=>HF.out w3 j hlt o3 (by rw[←hb,q])
   clear hP3 hok HA HK' oc hb HU e1 e2 e3 e4 e5 e6 e7 e8
   cases b with
   | false =>
    have HF3:=HF2.out rfl
    clear HF2 HU2 HB2
    go_wp2_with fail
    exact HF3
   | true =>
    obtain⟨hA3,hn3⟩:=HB2.out rfl
    have HU3:Hid (St.fineBs fs all seen (l.take (j+1))=true):=HU2.out rfl
    clear HF2 HU2 HB2
    go_wp2_with fail
    go_roundw
    case rel=>exact⟨j+1,by go_num,by omega,o3,fun g' F' e _=>by cases e;exact hA3,hn3,HU3⟩
    case measure=>simp[intOf];omega
  ·have i1:¬ (j:Int)<(l.length:Int):=by omega
   have i2:decide ((j:Int)<(l.length:Int))=false:=decide_eq_false i1
   have hjj:j=l.length:=by omega
   subst hjj
   rw[stSofar_all]at hA
   rw[List.take_length]at hngR HU
   have HA:Hid (∀ g F,G=g::F→0<l.length→OwnAll wr 8 g 0 (St.dats (St.nbl fs all seen l)) F):=hA
   have hng1:Ng wr K bf bd bs fs (all++St.decls l) (seen++St.ownNs (l.drop 0)):=by rw[List.drop_zero];exact hngR
   clear hA hngR HF hI' Hz Hno i1 i2
   have Hfin:Hid (∀ w',OnlyF (bd::bs::G) w w'→(∀ g F,G=g::F→0<l.length→OwnAll w' 8 g 0 (St.dats (St.nbl fs all seen l)) F)→Ng w' K bf bd bs fs (all++St.decls l) (seen++St.ownNs (l.drop l.length))→Q (.returned (.bool true)) w'):=fun w' o' hA' hn=>HT.out w' o' hA' HU.out (by rw[List.drop_length,St.ownNs,List.append_nil]at hn;exact hn)
   clear HT HU
   generalize wr=wo at *
   go_wp2_with fail
   go_loopw [23] (fun i wr=>∃ (j:Nat),i=.int .i64 (j:Int)∧j≤l.length∧OnlyF (bd::bs::G) w wr∧(∀ g F,G=g::F→0<l.length→OwnAll wr 8 g 0 (St.dats (St.nbl fs all seen l)) F)∧Ng wr K bf bd bs fs (all++St.decls l) (seen++St.ownNs (l.drop j))) (fun i _=>l.length - (intOf i).toNat)
   case atStart=>exact⟨0,rfl,Nat.zero_le _,oR,HA.out,hng1⟩
   case round =>
    obtain⟨j,rfl,hj,oR,hA,hngR⟩:=hrel
    clear hng1 HA
    by_cases hlt:j<l.length
    ·obtain⟨gk,F,rfl,rfl,hgk⟩:=HP.out (by omega)
     have i1:(j:Int)<(l.length:Int):=by omega
     have hA1:=hA _ _ rfl (by omega)
     have hjl:j<(St.dats (St.nbl fs all seen l)).length:=by rw[St.dats_len,St.nbl_len];exact hlt
     obtain⟨cs,F1,Fj,F2,eF,_,hc,hd,_⟩:=OwnAll.lens _ j hjl hA1
     rw[St.dats_at _ j (by rw[St.nbl_len];exact hlt)]at hd
     obtain⟨a',s',enb⟩:=St.nbl_at fs l all seen j hlt
     rw[enb]at hd
     obtain⟨u0,u1,u2,u3,H0,H1,H2,H3,rfl,_,hn,hkd,hbd,hel⟩:=St.ownView hd
     obtain⟨e1,e2,e3,e4,e5,e6,e7,e8⟩:=St.nb_eq fs a' s' l[j]
     rw[Nat.zero_add,e1,e3,e4]at hc
     rw[e5]at hn
     have hgw:gk<wr.heap.size:=Nat.lt_of_lt_of_le hgk oR.size
     have c0:wr.cell? ⟨gk,j*8,none⟩=some (.int .i64 l[j].kind):=(hc 0 _ rfl).1
     have c1:=(hc 1 _ rfl).1
     have c2:=(hc 2 _ rfl).1
     have c3:=(hc 3 _ rfl).1
     have c4:=(hc 4 _ rfl).1
     have c5:=(hc 5 _ rfl).1
     have c6:=(hc 6 _ rfl).1
     have c7:=(hc 7 _ rfl).1
     obtain⟨s0,t0,rfl⟩:=bytes_slice hn
     obtain⟨s1,r1,t1,rfl⟩:=list_slice hkd
     obtain⟨s2,r2,t2,rfl⟩:=list_slice hbd
     obtain⟨s3,r3,t3,rfl⟩:=list_slice hel
     clear e1 e2 e3 e4 e5 e6 e7 e8 hkd hbd hel hd hc enb
     generalize (St.nb fs a' s' l[j]).n=nn at *
     obtain⟨wb,hwb⟩:=hidx (wr.alloc (.cells #[.int .i64 l[j].kind,.int .i64 nn,.int .i64 l[j].tk,.int .i64 l[j].tn,.slice s0 l[j].name.length t0,.slice s1 r1 t1,.slice s2 r2 t2,.slice s3 r3 t3] 93))
     have lb:Later wr wb:=by rw[hwb.out];exact later1 _ _
     have lb2:Later wr wb.drew:=lb.trans (Later.drew _)
     have hbx:Bxx wb wr.heap.size [.int .i64 l[j].kind,.int .i64 nn,.int .i64 l[j].tk,.int .i64 l[j].tn,.slice s0 l[j].name.length t0,.slice s1 r1 t1,.slice s2 r2 t2,.slice s3 r3 t3]:=by rw[hwb.out];exact Bxx.new _ _ _
     have hdrop:=St.ownNs_drop hlt
     have HOa:Hid (∀ w',OnlyF [bs] wr w'→∀ g' F',gk::F=g'::F'→0<l.length→OwnAll w' 8 g' 0 (St.dats (St.nbl fs all seen l)) F'):=fun w' o' g' F' e _=>by
      cases e
      exact OwnAll.agree o'.size _ hA1 (o'.block gk hgw (by have:=(Hsp.out gk (List.mem_cons_self ..)).2.2.2.1;simpa using this)) (fun b q=>o'.block b (OwnAll.lt _ hA1 b q) (by have:=(Hsp.out b (List.mem_cons_of_mem _ q)).2.2.2.1;simpa using this))
     by_cases h0:l[j].kind=0
     ·have hown:l[j].ownN=[l[j].name]:=by unfold St.ownN ownL;rw[if_pos h0]
      rw[hdrop,hown,List.singleton_append]at hngR
      have hNm:Nm l[j].name:=by have:=hn;rw[OwnD]at this;obtain⟨_,_,_,q1,q2,_⟩:=this;exact⟨q2,q1.1⟩
      have hngD:=hngR.later lb2
      have hnin:l[j].name∉seen++St.ownNs (l.drop (j+1)):=fun q=>by
       have hall:=hngR.nd
       have hsubl:(St.ownNs (l.drop j)).Sublist (St.decls l):=(St.ownNs_dsub l j).trans (St.ownNs_sub l)
       rw[hdrop,hown]at hsubl
       have hndl:=(List.nodup_append.1 hall)
       have hnd1:=hsubl.nodup hndl.2.1
       rcases List.mem_append.1 q with q|q
       ·exact hndl.2.2 _ (HSub.out _ q) _ (hsubl.subset (List.mem_append_left _ (List.mem_singleton.2 rfl))) rfl
       ·exact (List.nodup_cons.1 hnd1).1 q
      obtain⟨m,hm1,hms⟩:=hngD.ms
      obtain⟨w5,n5,hrun,hM5,hn5,ht5⟩:=hms.del hNm 0
      obtain⟨hng5,o5⟩:=hngD.cut hnin hM5 (Nat.le_trans hn5 hm1) ht5
      have O5:OnlyF (bd::bs::gk::F) w w5:=(oR.trans (OnlyF.of_later lb2)).trans (o5.mono (fun b q=>by rw[List.mem_singleton.1 q];simp))
      have hA5:=HOa.out w5 ((OnlyF.of_later lb2).trans o5)
      have x2:=(hngD.box.cell 2 _ rfl).1
      have hKl:=hngD.box.lt
      have hrd:RdN wb.drew (.slice s0 l[j].name.length t0) l[j].name:=by obtain⟨u,hu,hr⟩:=RdN.iff.1 (OwnD.rd _ (own_later hn lb2));cases hu;exact hr
      have hcv:=conv_here hrd.rd
      have b4:wb.drew.cell? ⟨wr.heap.size,4,none⟩=some (.slice s0 l[j].name.length t0):=((hbx.later (Later.drew _)).cell 4 _ rfl).1
      rw[h0]at c0 hwb
      clear hA hA1 hngR HOa hn hrd hnin hms hM5 hn5 ht5 hngD hbx hdrop hown hNm lb lb2 o5 Hfin
      go_wp2_with fail
      rw[←hwb.out]
      clear hwb
      go_region_law fail
      all_goals
       go_wp2_with fail
       go_roundw
       case rel=>exact⟨j+1,by go_num,by omega,O5,hA5,hng5⟩
       case measure=>simp[intOf];omega
     ·have hown:l[j].ownN=[]:=by unfold St.ownN ownL;rw[if_neg h0]
      rw[hdrop,hown,List.nil_append]at hngR
      have hng5:=hngR.later lb
      have O5:OnlyF (bd::bs::gk::F) w wb:=oR.trans (OnlyF.of_later lb)
      have hA5:=HOa.out wb (OnlyF.of_later lb)
      have m0:=neb h0
      clear hA hA1 hngR HOa hn hbx hdrop hown lb lb2 Hfin h0
      go_wp2_with fail
      rw[←hwb.out]
      go_roundw
      case rel=>exact⟨j+1,by go_num,by omega,O5,hA5,hng5⟩
      case measure=>simp[intOf];omega
    ·have i1:¬ (j:Int)<(l.length:Int):=by omega
     have i2:decide ((j:Int)<(l.length:Int))=false:=decide_eq_false i1
     have hjj:j=l.length:=by omega
     subst hjj
     have HZ:=Hfin.out wr oR hA hngR
     clear Hfin hA hngR oR
     go_wp2_with fail
     exact HZ
end Go.Proofs.YtmdejbphoafjlaaGreatDoor
