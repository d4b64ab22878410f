import Derived.Test.YtgaddpkkjebekaaGreatDoorZ14
set_option maxHeartbeats 100000000
set_option maxRecDepth 100000
namespace Go.Proofs.YtgaddpkkjebekaaGreatDoor
open Go.RowKit Go.Maps
mutual
def St.cp:Int->Int->St->Option Int
 | d,p,.mk _ _ _ _ nm ks bo el=>if p+1<=400/\d<=30/\nm.length<=8 then (match Ex.cps (d+1) (p+1) ks with|none=>none|some p1=>match St.cps (d+1) p1 bo with|none=>none|some p2=>St.cps (d+1) p2 el) else none
def St.cps:Int->Int->List St->Option Int
 | _,p,[]=>some p
 | d,p,x::r=>match St.cp d p x with|none=>none|some q=>St.cps d q r
end
mutual
def St.bare:St->St
 | .mk k n tk tn nm ks bo el=>.mk k (if k=0 then 0 else n) tk tn nm (Ex.aU ks) (St.aU bo) (St.aU el)
def St.aU:List St->List St
 | []=>[]
 | x::r=>x.bare::St.aU r
end
theorem St.GL (d p:Int) (x:St):St.cp d p x=if p+1<=400/\d<=30/\x.name.length<=8 then (match Ex.cps (d+1) (p+1) x.kids with|none=>none|some p1=>match St.cps (d+1) p1 x.body with|none=>none|some p2=>St.cps (d+1) p2 x.els) else none:=by obtain⟨k,n,tk,tn,nm,ks,bo,el⟩:=x;rw[St.cp];rfl
theorem St.bare_eq (x:St):x.bare=.mk x.kind (if x.kind=0 then 0 else x.n) x.tk x.tn x.name (Ex.aU x.kids) (St.aU x.body) (St.aU x.els):=by obtain⟨k,n,tk,tn,nm,ks,bo,el⟩:=x;rw[St.bare];rfl
theorem St.kC (x:St):x.name.length<=x.sz:=by obtain⟨k,n,tk,tn,nm,ks,bo,el⟩:=x;simp only[St.sz,St.name];omega
theorem St.wV (x:St):Ex.szs x.kids<=x.sz:=by obtain⟨k,n,tk,tn,nm,ks,bo,el⟩:=x;simp only[St.sz,St.kids];omega
theorem St.Qv (x:St):St.szs x.body<=x.sz:=by obtain⟨k,n,tk,tn,nm,ks,bo,el⟩:=x;simp only[St.sz,St.body];omega
theorem St.Tv (x:St):St.szs x.els<=x.sz:=by obtain⟨k,n,tk,tn,nm,ks,bo,el⟩:=x;simp only[St.sz,St.els];omega
theorem St.fH (l:List St):St.aU l=l.map St.bare:=by induction l with|nil=>rw[St.aU];rfl|cons x r ih=>rw[St.aU,ih];rfl
theorem St.rV (d p:Int) (x:St) (r:List St):St.cps d p (x::r)=match St.cp d p x with|none=>none|some q=>St.cps d q r:=by rw[St.cps]
theorem St.xg {d p:Int}{l:List St}{j:Nat}(h:j<l.length) (hc:St.cp d p l[j]=none):St.cps d p (l.drop j)=none:=by rw[List.drop_eq_getElem_cons h,St.rV,hc]
theorem St.Bz {d p q:Int}{l:List St}{j:Nat}(h:j<l.length) (hc:St.cp d p l[j]=some q):St.cps d p (l.drop j)=St.cps d q (l.drop (j+1)):=by rw[List.drop_eq_getElem_cons h,St.rV,hc]
theorem St.Jl {d p:Int}{l:List St}{j:Nat}(h:j<l.length) (hc:((p+1<=400/\d<=30)->¬ l[j].name.length<=8)):(if false=true then none else St.cps d p (l.drop j))=none:=by
 rw[if_neg (by simp)];refine St.xg h ?_;rw[St.GL,if_neg (fun q=>hc ⟨q.1,q.2.1⟩ q.2.2)]
theorem PO (N:Nat):∀ (v:Value) (l:List St) (K:Nat) (p:Int) (t:Bool) (d:Int) (w0 w:World),St.szs l<=N->St.szs l<=1048576->RdL w0 8 v (St.ah l)->Later w0 w->w0.heap.size<=K->CpS K w p t->(t=false->0<=p/\p<=400)->0<=d->d<=31 ->
  Calls Tryz.prog 56 #[.pointer (some ⟨K,0,none⟩),v,.int .i64 d] w (CpP K w 8 (St.ah (St.aU l)) (if t then none else St.cps d p l)):=by
 induction N using Nat.strongRecOn with
 | _ N IH =>
 intro v l K p t d w0 w hN hM h hL hK hS hp hd0 hd1;obtain⟨a,cap,rfl,hl⟩:=St.slice h;obtain⟨i0,hi,hz0,hz1,hz2⟩:=info_parts Tryz.J8;have hll:l.length<=1048576:=by have:=St.jD l;omega
 have hKw:=hS.lt
 have HQ:Hid (∀ e w' a n c p' t',af K w w'->e=.returned (.slice a n c)->CpS K w' p' t'->((if t then none else St.cps d p l)=if t' then none else some p')->(t'=false->0<=p'/\p'<=400/\n=(St.ah (St.aU l)).length/\∃ F,Own w.heap.size w' (.list 8 (St.ah (St.aU l))) [.slice a n c] F)->CpP K w 8 (St.ah (St.aU l)) (if t then none else St.cps d p l) e w'):=fun e w' a n c p' t' h1 h2 h3 h4 h5=>⟨h1,a,n,c,p',t',h2,h3,h4,h5⟩
 generalize hQ:CpP K w 8 (St.ah (St.aU l)) (if t then none else St.cps d p l)=Q at *
 clear hQ;go_enter Tryz.func56,Tryz.ntmps56;go_wp2_with fail
 go_loopw [7,12] (fun r i wr=>∃ (j:Nat) (xs:List Value) (rv:Value) (q:Int) (tq:Bool),rv=r/\i=.int .i64 (j:Int)/\j<=l.length/\af K w wr/\wr.ownsRow w.heap.size 110 8 rv j xs/\CpS K wr q tq/\Hid (tq=false->t=false/\0<=q/\q<=400/\St.cps d p l=St.cps d q (l.drop j)/\∃ F,Bd w.heap.size wr 110 8 rv (St.ah (St.aU (l.take j))) xs F)/\Hid (tq=true->(if t then none else St.cps d p l)=none)) (fun _ i _=>l.length - (intOf i).toNat)
 case atStart =>
  exact⟨0,[],_,p,t,rfl,rfl,Nat.zero_le _,af.refl _ _,World.ownsRow_nil _ _ _ _,hS,fun ht=>⟨ht,(hp ht).1,(hp ht).2,rfl,[],by rw[List.take_zero,St.aU,St.ah];exact Bd.nil _ _ _ _⟩,fun ht=>by rw[ht];rfl⟩
 case round =>
  obtain⟨j,xs,rv,q,tq,rfl,rfl,hj,oR,hrow,hSr,HG,HT⟩:=hrel;by_cases hlt:j<l.length
  ·obtain⟨g,off,v0,v1,v2,v3,rfl,hgs,c0,c1,c2,c3,c4,c5,c6,c7,r0,r1,r2,r3⟩:=St.elem h j hlt;have i1:(j:Int)<(l.length:Int):=by omega
   have lw0:Later w0 wr:=aB hL oR hK;have c0:wr.cell? ⟨g,off+j*8,none⟩=some (.int .i64 l[j].kind):=by rw[Below.cell lw0 (p:=⟨g,off+j*8,none⟩) hgs];exact c0
   have c1:wr.cell? ⟨g,off+j*8+1,none⟩=some (.int .i64 l[j].n):=by rw[Below.cell lw0 (p:=⟨g,off+j*8+1,none⟩) hgs];exact c1
   have c2:wr.cell? ⟨g,off+j*8+2,none⟩=some (.int .i64 l[j].tk):=by rw[Below.cell lw0 (p:=⟨g,off+j*8+2,none⟩) hgs];exact c2
   have c3:wr.cell? ⟨g,off+j*8+3,none⟩=some (.int .i64 l[j].tn):=by rw[Below.cell lw0 (p:=⟨g,off+j*8+3,none⟩) hgs];exact c3
   have c4:wr.cell? ⟨g,off+j*8+4,none⟩=some (v0):=by rw[Below.cell lw0 (p:=⟨g,off+j*8+4,none⟩) hgs];exact c4
   have c5:wr.cell? ⟨g,off+j*8+5,none⟩=some (v1):=by rw[Below.cell lw0 (p:=⟨g,off+j*8+5,none⟩) hgs];exact c5
   have c6:wr.cell? ⟨g,off+j*8+6,none⟩=some (v2):=by rw[Below.cell lw0 (p:=⟨g,off+j*8+6,none⟩) hgs];exact c6
   have c7:wr.cell? ⟨g,off+j*8+7,none⟩=some (v3):=by rw[Below.cell lw0 (p:=⟨g,off+j*8+7,none⟩) hgs];exact c7
   obtain⟨ra,rc,hra⟩:=aP hrow;have hsz:w.heap.size<=wr.heap.size:=oR.size;obtain⟨wb,hwb⟩:=hidx (wr.alloc (.cells #[.int .i64 l[j].kind,.int .i64 l[j].n,.int .i64 l[j].tk,.int .i64 l[j].tn,v0,v1,v2,v3] 110));have hbb:Bxx wb wr.heap.size [.int .i64 l[j].kind,.int .i64 l[j].n,.int .i64 l[j].tk,.int .i64 l[j].tn,v0,v1,v2,v3]:=by rw[hwb.out];exact Bxx.new _ _ _
   have lb:Later wr wb:=by rw[hwb.out];exact ae _ _
   have hKB:wr.heap.size≠K:=by omega
   have hSb:CpS K wb q tq:=Bxx.later hSr lb;have hnl:l[j].name.length<=1048576:=by have:=St.dW l j hlt;have:=St.kC l[j];omega
   have hC:=fun w' (ll:Later w0 w')=>clone_any v0 l[j].name w' (r0.later ll) hnl;have hGo:=fun a n c=>Gg K q d tq a n c wb hSb (fun ht=>⟨(HG.out ht).2.1,(HG.out ht).2.2.1⟩);have hI0:=fun p' t' w' (ll:Later w0 w') (hs:CpS K w' p' t') (hh:t'=false->0<=p'/\p'<=400) (hd:d+1<=31)=>PP (Ex.szs l[j].kids) v1 l[j].kids K p' t' (d+1) w0 w' (Nat.le_refl _) (by have:=St.dW l j hlt;have:=St.wV l[j];omega) r1 ll hK hs hh (by omega) hd;have hI1:=fun p' t' w' (hb:St.szs l[j].body<St.szs l) (ll:Later w0 w') (hs:CpS K w' p' t') (hh:t'=false->0<=p'/\p'<=400) (hd:d+1<=31)=>IH (St.szs l[j].body) (by omega) v2 l[j].body K p' t' (d+1) w0 w' (Nat.le_refl _) (by omega) r2 ll hK hs hh (by omega) hd;have hJ1:St.szs l[j].body<St.szs l:=by have:=St.dW l j hlt;have:=St.Qv l[j];omega
   have hI2:=fun p' t' w' (hb:St.szs l[j].els<St.szs l) (ll:Later w0 w') (hs:CpS K w' p' t') (hh:t'=false->0<=p'/\p'<=400) (hd:d+1<=31)=>IH (St.szs l[j].els) (by omega) v3 l[j].els K p' t' (d+1) w0 w' (Nat.le_refl _) (by omega) r3 ll hK hs hh (by omega) hd;have hJ2:St.szs l[j].els<St.szs l:=by have:=St.dW l j hlt;have:=St.Tv l[j];omega
   have HX:Hid (∀ b,(tq=false->b=(decide (q+1<=400)&&decide (d<=30)&&decide (l[j].name.length<=8)))->((!tq&&b)=false)->(if t then none else St.cps d p l)=none):=fun b hb hf=>by
    cases tq with
    | true=>exact HT.out rfl
    | false =>
     obtain⟨e0,e1,e2,e3,_⟩:=HG.out rfl;rw[e0,e3];rw[hb rfl]at hf;exact St.Jl hlt (by simpa using hf)
   obtain⟨y0,q0,rfl,_⟩:=r0.slice;obtain⟨y1,q1,rfl,_⟩:=Ex.slice r1;obtain⟨y2,q2,rfl,_⟩:=St.slice r2;obtain⟨y3,q3,rfl,_⟩:=St.slice r3;subst hra;have hGo1:=hGo y0 l[j].name.length q0;clear h r0 r1 r2 r3 hGo hL;go_wp2_with fail
   rw[<-hwb.out];refine hGo1.mono ?_;rintro e w1 ⟨rfl,o1,p1,hS1,hp1⟩;have lo1:af K w w1:=(oR.trans (af.of_later lb)).trans o1;obtain⟨bb,hbb0⟩:=hidx (decide (q+1<=400)&&decide (d<=30)&&decide (l[j].name.length<=8));rw[<-hbb0.out]at hS1 ⊢;have hb1:=hbb.only o1 hKB
   cases hbt:(!tq&&bb) with
   | false =>
    have HZ:=HQ.out _ w1 none 0 0 p1 true lo1 rfl (by cases tq <;> cases bb <;> first|exact hS1|cases hbt) (by rw[HX.out bb (fun _=>hbb0.out) hbt];rfl) (fun hf=>by cases hf);clear hI0 hI1 hI2 HX HQ HG HT hGo1 hC;go_wp2_with fail
    exact HZ
   | true =>
    obtain⟨rfl,rfl⟩:tq=false/\bb=true:=by cases tq <;> cases bb <;> first|exact⟨rfl,rfl⟩|cases hbt
    obtain⟨e0,e1,e2,e3,FF,hBd⟩:=HG.out rfl;have hok:q+1<=400/\d<=30/\l[j].name.length<=8:=by have:=hbb0.out;simpa[and_assoc] using this.symm
    obtain rfl:p1=q+1:=hp1 rfl;have hS2:CpS K w1 (q+1) false:=hS1;have hd31:d+1<=31:=by omega
    have kp1:Kept w.heap.size wr w1:=(lb.kept _).trans (o1.kept hKw);have s1:wr.heap.size<w1.heap.size:=hb1.lt;have lw1:Later w0 w1:=aB (lw0.trans lb) o1 hK;subst e0;have HE:Hid (∀ (ts:List (Bool × Int)),True):=fun _=>trivial;clear HX hGo1 hbt hS1 hp1 HE HT;have HT2:Hid True:=trivial;rcases (by omega:l[j].kind=0\/l[j].kind≠0) with kk|kk
    all_goals
     first
     |have kk:l[j].kind=0:=kk
      have HB:Hid (l[j].bare=St.mk l[j].kind 0 l[j].tk l[j].tn l[j].name (Ex.aU l[j].kids) (St.aU l[j].body) (St.aU l[j].els)):=by
       unfold Hid;rw[St.bare_eq];simp[kk]
      rw[kk]at hb1 HB ⊢;clear kk;obtain⟨x0,f0⟩:=hb1.cell 0 _ rfl;obtain⟨x1,f1⟩:=hb1.cell 1 _ rfl;obtain⟨x2,f2⟩:=hb1.cell 2 _ rfl;obtain⟨x3,f3⟩:=hb1.cell 3 _ rfl;obtain⟨x4,f4⟩:=hb1.cell 4 _ rfl;obtain⟨x5,f5⟩:=hb1.cell 5 _ rfl;obtain⟨x6,f6⟩:=hb1.cell 6 _ rfl;obtain⟨x7,f7⟩:=hb1.cell 7 _ rfl;obtain⟨W,hW⟩:=hidx (w1.setCell ⟨wr.heap.size,1,none⟩ (.int .i64 0));have hbW:Bxx W wr.heap.size [.int .i64 0,.int .i64 0,.int .i64 l[j].tk,.int .i64 l[j].tn,.slice y0 l[j].name.length q0,.slice y1 l[j].kids.length q1,.slice y2 l[j].body.length q2,.slice y3 l[j].els.length q3]:=by rw[hW.out];exact (hb1.set 1 (.int .i64 0) (Nat.lt_of_sub_eq_succ rfl))
      have lwW:Later w0 W:=by rw[hW.out];exact (Later.setAt lw1 (by have:=oR.size;have:=lw0.size;omega) 1 _)
      have loW:af K w W:=by rw[hW.out];exact (af.cO lo1 hsz 1 _)
      have kpW:Kept w.heap.size wr W:=by rw[hW.out];exact (Kept.cO kp1 (Nat.le_refl _) 1 _)
      have hSW:CpS K W (q+1) false:=by rw[hW.out];exact (Bxx.other hS2 (Ne.symm hKB) _)
      have hC2:=hC W lwW;go_wp2_with fail
      rw[<-hW.out];clear x0 f0 x1 f1 x2 f2 x3 f3 x4 f4 x5 f5 x6 f6 x7 f7 hb1 hS2 lo1 kp1 lw1
      obtain⟨kv,nv,tv,uv,hbW,HB⟩:∃ kv nv tv uv,Bxx W wr.heap.size [.int .i64 kv,.int .i64 nv,.int .i64 tv,.int .i64 uv,.slice y0 l[j].name.length q0,.slice y1 l[j].kids.length q1,.slice y2 l[j].body.length q2,.slice y3 l[j].els.length q3]/\Hid (l[j].bare=St.mk kv nv tv uv l[j].name (Ex.aU l[j].kids) (St.aU l[j].body) (St.aU l[j].els)):=⟨_,_,_,_,hbW,HB⟩
     |have k0:l[j].kind≠0:=kk
      have HB:Hid (l[j].bare=St.mk l[j].kind l[j].n l[j].tk l[j].tn l[j].name (Ex.aU l[j].kids) (St.aU l[j].body) (St.aU l[j].els)):=by
       unfold Hid;rw[St.bare_eq];simp[k0]
      have n0:=neb k0;clear k0;obtain⟨x0,f0⟩:=hb1.cell 0 _ rfl;obtain⟨x1,f1⟩:=hb1.cell 1 _ rfl;obtain⟨x2,f2⟩:=hb1.cell 2 _ rfl;obtain⟨x3,f3⟩:=hb1.cell 3 _ rfl;obtain⟨x4,f4⟩:=hb1.cell 4 _ rfl;obtain⟨x5,f5⟩:=hb1.cell 5 _ rfl;obtain⟨x6,f6⟩:=hb1.cell 6 _ rfl;obtain⟨x7,f7⟩:=hb1.cell 7 _ rfl;obtain⟨W,hW⟩:=hidx w1;have hbW:Bxx W wr.heap.size [.int .i64 l[j].kind,.int .i64 l[j].n,.int .i64 l[j].tk,.int .i64 l[j].tn,.slice y0 l[j].name.length q0,.slice y1 l[j].kids.length q1,.slice y2 l[j].body.length q2,.slice y3 l[j].els.length q3]:=by rw[hW.out];exact hb1
      have lwW:Later w0 W:=by rw[hW.out];exact lw1
      have loW:af K w W:=by rw[hW.out];exact lo1
      have kpW:Kept w.heap.size wr W:=by rw[hW.out];exact kp1
      have hSW:CpS K W (q+1) false:=by rw[hW.out];exact hS2
      have hC2:=hC W lwW;go_wp2_with fail
      have hWe:=hW.out;rw[<-hWe];clear hWe;clear x0 f0 x1 f1 x2 f2 x3 f3 x4 f4 x5 f5 x6 f6 x7 f7 hb1 hS2 lo1 kp1 lw1
      obtain⟨kv,nv,tv,uv,hbW,HB⟩:∃ kv nv tv uv,Bxx W wr.heap.size [.int .i64 kv,.int .i64 nv,.int .i64 tv,.int .i64 uv,.slice y0 l[j].name.length q0,.slice y1 l[j].kids.length q1,.slice y2 l[j].body.length q2,.slice y3 l[j].els.length q3]/\Hid (l[j].bare=St.mk kv nv tv uv l[j].name (Ex.aU l[j].kids) (St.aU l[j].body) (St.aU l[j].els)):=⟨_,_,_,_,hbW,HB⟩
    all_goals
     refine hC2.mono ?_;rintro e w2 ⟨a2,m2,G2,rfl,hO2,l2⟩;have hb2:=hbW.later l2;obtain⟨x0,f0⟩:=hb2.cell 0 _ rfl;obtain⟨x1,f1⟩:=hb2.cell 1 _ rfl;obtain⟨x2,f2⟩:=hb2.cell 2 _ rfl;obtain⟨x3,f3⟩:=hb2.cell 3 _ rfl;obtain⟨x4,f4⟩:=hb2.cell 4 _ rfl;obtain⟨x5,f5⟩:=hb2.cell 5 _ rfl;obtain⟨x6,f6⟩:=hb2.cell 6 _ rfl;obtain⟨x7,f7⟩:=hb2.cell 7 _ rfl;obtain⟨A4,hA4⟩:=hidx (w2.setCell ⟨wr.heap.size,4,none⟩ (.slice a2 l[j].name.length m2));have hbA4:Bxx A4 wr.heap.size [.int .i64 kv,.int .i64 nv,.int .i64 tv,.int .i64 uv,.slice a2 l[j].name.length m2,.slice y1 l[j].kids.length q1,.slice y2 l[j].body.length q2,.slice y3 l[j].els.length q3]:=by rw[hA4.out];exact hb2.set 4 _ (Nat.lt_of_sub_eq_succ rfl)
     have lA4:Later w0 A4:=by rw[hA4.out];exact Later.setAt (lwW.trans l2) (by have:=oR.size;have:=lw0.size;omega) 4 _
     have oA4:af K w A4:=by rw[hA4.out];exact af.cO (loW.trans (af.of_later l2)) hsz 4 _
     have kA4:Kept w.heap.size wr A4:=by rw[hA4.out];exact Kept.cO (kpW.trans (l2.kept _)) (Nat.le_refl _) 4 _
     have SA4:CpS K A4 (q+1) false:=by rw[hA4.out];exact Bxx.other (Bxx.later hSW l2) (Ne.symm hKB) _
     have nA4:ai A4 (.bytes l[j].name) [.slice a2 l[j].name.length m2] G2:=by rw[hA4.out];exact ai.agree (by rw[World.size_setCell];exact Nat.le_refl _) _ hO2.own (fun b hb=>hset (fun e=>by have:=(hO2.fresh b hb).1;have:=hbW.lt;omega))
     have fr2:Fr wr.heap.size A4.heap.size G2:=by rw[hA4.out,World.size_setCell];exact hO2.fr.mono (Nat.le_of_lt hbW.lt) (Nat.le_refl _)
     have hR0:=hI0 (q+1) false A4 lA4 SA4 (fun _=>by omega) hd31;go_wp2_with fail
     rw[<-hA4.out];clear x0 f0 x1 f1 x2 f2 x3 f3 x4 f4 x5 f5 x6 f6 x7 f7;refine hR0.mono ?_;rintro e u5 ⟨ou5,a5,m5,z5,p5,t5,rfl,Su5,eq0,in0'⟩;have EQ0:Hid _:=eq0;have in0:Hid _:=in0';clear eq0 in0' hR0;have hbu5:=hbA4.only ou5 hKB;obtain⟨x0,f0⟩:=hbu5.cell 0 _ rfl;obtain⟨x1,f1⟩:=hbu5.cell 1 _ rfl;obtain⟨x2,f2⟩:=hbu5.cell 2 _ rfl;obtain⟨x3,f3⟩:=hbu5.cell 3 _ rfl;obtain⟨x4,f4⟩:=hbu5.cell 4 _ rfl;obtain⟨x5,f5⟩:=hbu5.cell 5 _ rfl;obtain⟨x6,f6⟩:=hbu5.cell 6 _ rfl;obtain⟨x7,f7⟩:=hbu5.cell 7 _ rfl;obtain⟨A5,hA5⟩:=hidx (u5.setCell ⟨wr.heap.size,5,none⟩ (.slice a5 m5 z5));have hbA5:Bxx A5 wr.heap.size [.int .i64 kv,.int .i64 nv,.int .i64 tv,.int .i64 uv,.slice a2 l[j].name.length m2,.slice a5 m5 z5,.slice y2 l[j].body.length q2,.slice y3 l[j].els.length q3]:=by rw[hA5.out];exact hbu5.set 5 _ (Nat.lt_of_sub_eq_succ rfl)
     have lA5:Later w0 A5:=by rw[hA5.out];exact Later.setAt (aB lA4 ou5 hK) (by have:=oR.size;have:=lw0.size;omega) 5 _
     have oA5:af K w A5:=by rw[hA5.out];exact af.cO (oA4.trans ou5) hsz 5 _
     have kA5:Kept w.heap.size wr A5:=by rw[hA5.out];exact Kept.cO (kA4.trans (ou5.kept hKw)) (Nat.le_refl _) 5 _
     have SA5:CpS K A5 p5 t5:=by rw[hA5.out];exact Bxx.other Su5 (Ne.symm hKB) _
     have ag5:∀ b,wr.heap.size<b->b<A4.heap.size->A5.heap[b]?=A4.heap[b]?:=fun b h1 h2=>by rw[hA5.out,hset (by omega)];exact ou5.block b h2 (by omega)
     have sz5:A4.heap.size<=A5.heap.size:=by rw[hA5.out,World.size_setCell];exact ou5.size
     have nn5:Hid (t5=false->m5=(Ex.ah (Ex.aU l[j].kids)).length/\∃ F,ai A5 (.list 6 (Ex.ah (Ex.aU l[j].kids))) [.slice a5 m5 z5] F/\Fr A4.heap.size A5.heap.size F):=fun ht=>by
      obtain⟨_,_,h3,F,hF⟩:=in0.out ht;refine⟨h3,F,by rw[hA5.out];exact ai.agree (by rw[World.size_setCell];exact Nat.le_refl _) _ hF.own (fun b hb=>hset (fun e=>by have:=(hF.fresh b hb).1;have:=hbA4.lt;omega)),by rw[hA5.out,World.size_setCell];exact hF.fr⟩
     have hR1:=hI1 p5 t5 A5 hJ1 lA5 SA5 (fun ht=>⟨(in0.out ht).1,(in0.out ht).2.1⟩) hd31;go_wp2_with fail
     rw[<-hA5.out];clear x0 f0 x1 f1 x2 f2 x3 f3 x4 f4 x5 f5 x6 f6 x7 f7;refine hR1.mono ?_;rintro e u6 ⟨ou6,a6,m6,z6,p6,t6,rfl,Su6,eq1,in1'⟩;have EQ1:Hid _:=eq1;have in1:Hid _:=in1';clear eq1 in1' hR1;have hbu6:=hbA5.only ou6 hKB;obtain⟨x0,f0⟩:=hbu6.cell 0 _ rfl;obtain⟨x1,f1⟩:=hbu6.cell 1 _ rfl;obtain⟨x2,f2⟩:=hbu6.cell 2 _ rfl;obtain⟨x3,f3⟩:=hbu6.cell 3 _ rfl;obtain⟨x4,f4⟩:=hbu6.cell 4 _ rfl;obtain⟨x5,f5⟩:=hbu6.cell 5 _ rfl;obtain⟨x6,f6⟩:=hbu6.cell 6 _ rfl;obtain⟨x7,f7⟩:=hbu6.cell 7 _ rfl;obtain⟨A6,hA6⟩:=hidx (u6.setCell ⟨wr.heap.size,6,none⟩ (.slice a6 m6 z6));have hbA6:Bxx A6 wr.heap.size [.int .i64 kv,.int .i64 nv,.int .i64 tv,.int .i64 uv,.slice a2 l[j].name.length m2,.slice a5 m5 z5,.slice a6 m6 z6,.slice y3 l[j].els.length q3]:=by rw[hA6.out];exact hbu6.set 6 _ (Nat.lt_of_sub_eq_succ rfl)
     have lA6:Later w0 A6:=by rw[hA6.out];exact Later.setAt (aB lA5 ou6 hK) (by have:=oR.size;have:=lw0.size;omega) 6 _
     have oA6:af K w A6:=by rw[hA6.out];exact af.cO (oA5.trans ou6) hsz 6 _
     have kA6:Kept w.heap.size wr A6:=by rw[hA6.out];exact Kept.cO (kA5.trans (ou6.kept hKw)) (Nat.le_refl _) 6 _
     have SA6:CpS K A6 p6 t6:=by rw[hA6.out];exact Bxx.other Su6 (Ne.symm hKB) _
     have ag6:∀ b,wr.heap.size<b->b<A5.heap.size->A6.heap[b]?=A5.heap[b]?:=fun b h1 h2=>by rw[hA6.out,hset (by omega)];exact ou6.block b h2 (by omega)
     have sz6:A5.heap.size<=A6.heap.size:=by rw[hA6.out,World.size_setCell];exact ou6.size
     have nn6:Hid (t6=false->m6=(St.ah (St.aU l[j].body)).length/\∃ F,ai A6 (.list 8 (St.ah (St.aU l[j].body))) [.slice a6 m6 z6] F/\Fr A5.heap.size A6.heap.size F):=fun ht=>by
      obtain⟨_,_,h3,F,hF⟩:=in1.out ht;refine⟨h3,F,by rw[hA6.out];exact ai.agree (by rw[World.size_setCell];exact Nat.le_refl _) _ hF.own (fun b hb=>hset (fun e=>by have:=(hF.fresh b hb).1;have:=hbA5.lt;omega)),by rw[hA6.out,World.size_setCell];exact hF.fr⟩
     have hR2:=hI2 p6 t6 A6 hJ2 lA6 SA6 (fun ht=>⟨(in1.out ht).1,(in1.out ht).2.1⟩) hd31;go_wp2_with fail
     rw[<-hA6.out];clear x0 f0 x1 f1 x2 f2 x3 f3 x4 f4 x5 f5 x6 f6 x7 f7;refine hR2.mono ?_;rintro e u7 ⟨ou7,a7,m7,z7,p7,t7,rfl,Su7,eq2,in2'⟩;have EQ2:Hid _:=eq2;have in2:Hid _:=in2';clear eq2 in2' hR2;have hbu7:=hbA6.only ou7 hKB;obtain⟨x0,f0⟩:=hbu7.cell 0 _ rfl;obtain⟨x1,f1⟩:=hbu7.cell 1 _ rfl;obtain⟨x2,f2⟩:=hbu7.cell 2 _ rfl;obtain⟨x3,f3⟩:=hbu7.cell 3 _ rfl;obtain⟨x4,f4⟩:=hbu7.cell 4 _ rfl;obtain⟨x5,f5⟩:=hbu7.cell 5 _ rfl;obtain⟨x6,f6⟩:=hbu7.cell 6 _ rfl;obtain⟨x7,f7⟩:=hbu7.cell 7 _ rfl;obtain⟨A7,hA7⟩:=hidx (u7.setCell ⟨wr.heap.size,7,none⟩ (.slice a7 m7 z7));have hbA7:Bxx A7 wr.heap.size [.int .i64 kv,.int .i64 nv,.int .i64 tv,.int .i64 uv,.slice a2 l[j].name.length m2,.slice a5 m5 z5,.slice a6 m6 z6,.slice a7 m7 z7]:=by rw[hA7.out];exact hbu7.set 7 _ (Nat.lt_of_sub_eq_succ rfl)
     have lA7:Later w0 A7:=by rw[hA7.out];exact Later.setAt (aB lA6 ou7 hK) (by have:=oR.size;have:=lw0.size;omega) 7 _
     have oA7:af K w A7:=by rw[hA7.out];exact af.cO (oA6.trans ou7) hsz 7 _
     have kA7:Kept w.heap.size wr A7:=by rw[hA7.out];exact Kept.cO (kA6.trans (ou7.kept hKw)) (Nat.le_refl _) 7 _
     have SA7:CpS K A7 p7 t7:=by rw[hA7.out];exact Bxx.other Su7 (Ne.symm hKB) _
     have ag7:∀ b,wr.heap.size<b->b<A6.heap.size->A7.heap[b]?=A6.heap[b]?:=fun b h1 h2=>by rw[hA7.out,hset (by omega)];exact ou7.block b h2 (by omega)
     have sz7:A6.heap.size<=A7.heap.size:=by rw[hA7.out,World.size_setCell];exact ou7.size
     have nn7:Hid (t7=false->m7=(St.ah (St.aU l[j].els)).length/\∃ F,ai A7 (.list 8 (St.ah (St.aU l[j].els))) [.slice a7 m7 z7] F/\Fr A6.heap.size A7.heap.size F):=fun ht=>by
      obtain⟨_,_,h3,F,hF⟩:=in2.out ht;refine⟨h3,F,by rw[hA7.out];exact ai.agree (by rw[World.size_setCell];exact Nat.le_refl _) _ hF.own (fun b hb=>hset (fun e=>by have:=(hF.fresh b hb).1;have:=hbA6.lt;omega)),by rw[hA7.out,World.size_setCell];exact hF.fr⟩
     have HPU:Hid (∀ w' v',w'.ownsRow w.heap.size 110 8 v' (j+1) (xs++[.int .i64 kv,.int .i64 nv,.int .i64 tv,.int .i64 uv,.slice a2 l[j].name.length m2,.slice a5 m5 z5,.slice a6 m6 z6,.slice a7 m7 z7])->∀ wz,Later A7 wz->wz.grownBy w' (Value.slice ra j rc).ownBlock->(v'.ownBlock=(Value.slice ra j rc).ownBlock\/v'.ownBlock=some wz.heap.size)->af K w w'/\CpS K w' p7 t7/\(t7=false->t7=false/\0<=p7/\p7<=400/\St.cps d p l=St.cps d p7 (l.drop (j+1))/\∃ F,Bd w.heap.size w' 110 8 v' (St.ah (St.aU (l.take (j+1)))) (xs++[.int .i64 kv,.int .i64 nv,.int .i64 tv,.int .i64 uv,.slice a2 l[j].name.length m2,.slice a5 m5 z5,.slice a6 m6 z6,.slice a7 m7 z7]) F)/\(t7=true->St.cps d p l=none)):=fun w' v' ho wz lz hg hloc=>by
      have hcp:St.cp d q l[j]=if t7 then none else some p7:=by
       rw[St.GL,if_pos hok];have z0:=EQ0.out;rw[if_neg (by simp)]at z0;rw[z0];have z1:=EQ1.out
       cases t5 with
       | true=>simp at z1;subst z1;have z2:=EQ2.out;simp at z2;subst z2;rfl
       | false =>
       rw[if_neg (by simp)]at z1;simp only[Bool.false_eq_true,if_false];rw[z1];have z2:=EQ2.out
       cases t6 with
       | true=>simp at z2;subst z2;rfl
       | false =>
       rw[if_neg (by simp)]at z2;simp only[Bool.false_eq_true,if_false];rw[z2]
       try (first|rfl|(cases t7 <;> rfl))
      have hne:∀ b,(Value.slice ra j rc).ownBlock=some b->w.heap.size<=b/\b<wr.heap.size:=hrow.lt;have oz:af K w wz:=oA7.trans (af.of_later lz);refine⟨⟨hg.os.trans oz.os,hg.tape.trans oz.tape,hg.output.trans oz.output,Nat.le_trans oz.size hg.size,fun b hb hn=>?_⟩,?_,fun ht=>⟨ht,?_⟩,fun ht=>by rw[e3];exact St.xg hlt (by rw[hcp,ht];rfl)⟩
      ·rw[hg.block b (Nat.lt_of_lt_of_le hb oz.size) (fun e=>by have:=(hne b e.symm).1;omega)];exact oz.block b hb hn
      ·exact Bxx.kept (Bxx.later SA7 lz) hg.size (hg.block K (Nat.lt_of_lt_of_le hKw oz.size) (fun e=>by have:=(hne K e.symm).1;omega))
      ·rw[ht]at hcp;have hcp':St.cp d q l[j]=some p7:=hcp
       have tt6:t6=false:=by
        cases q:t6 with
        | false=>rfl
        | true =>
         have z:=EQ2.out;rw[q,ht]at z;simp at z
       have tt5:t5=false:=by
        cases q:t5 with
        | false=>rfl
        | true =>
         have z:=EQ1.out;rw[q,tt6]at z;simp at z
       refine⟨(in2.out ht).1,(in2.out ht).2.1,by rw[e3];exact St.Bz hlt hcp',?_⟩;obtain⟨em5,F5,hF5,fr5⟩:=nn5.out tt5;obtain⟨em6,F6,hF6,fr6⟩:=nn6.out tt6;obtain⟨em7,F7,hF7,fr7⟩:=nn7.out ht;have gz2:∀ b∈G2,wr.heap.size<b:=fun b hb=>Nat.lt_of_lt_of_le hbW.lt (hO2.fresh b hb).1
       have nF:=(ai.agree sz7 _ (ai.agree sz6 _ (ai.agree sz5 _ nA4 (fun b hb=>ag5 b (gz2 b hb) (by have:=(fr2.2 b hb).2; omega))) (fun b hb=>ag6 b (gz2 b hb) (by have:=(fr2.2 b hb).2;have:=sz5;omega))) (fun b hb=>ag7 b (gz2 b hb) (by have:=(fr2.2 b hb).2;have:=sz5;have:=sz6;omega)))
       have pF5:=(ai.agree sz7 _ (ai.agree sz6 _ hF5 (fun b hb=>ag6 b (by have:=(fr5.2 b hb).1;have:=hbA4.lt;omega) (by have:=(fr5.2 b hb).2; omega))) (fun b hb=>ag7 b (by have:=(fr5.2 b hb).1;have:=hbA4.lt;omega) (by have:=(fr5.2 b hb).2;have:=sz6;omega)))
       have pF6:=(ai.agree sz7 _ hF6 (fun b hb=>ag7 b (by have:=(fr6.2 b hb).1;have:=hbA5.lt;omega) (by have:=(fr6.2 b hb).2; omega)))
       have pF7:=hF7
       have frA:=(Fr.app (Fr.app (Fr.app fr2 fr5 (by have:=hbA4.lt; omega) sz5) fr6 (by have:=hbA4.lt;have:=sz5;omega) sz6) fr7 (by have:=hbA4.lt;have:=sz5;have:=sz6;omega) sz7)
       have hel:∃ G,ai A7 l[j].bare.dat [.int .i64 kv,.int .i64 nv,.int .i64 tv,.int .i64 uv,.slice a2 l[j].name.length m2,.slice a5 m5 z5,.slice a6 m6 z6,.slice a7 m7 z7] G/\Fr wr.heap.size A7.heap.size G:=by
        rw[HB.out];subst em5;subst em6;subst em7;exact⟨_,St.own (x:=St.mk _ _ _ _ _ _ _ _) nF pF5 pF6 pF7,by simpa[List.append_assoc] using frA⟩
       obtain⟨G,hG1,hG2⟩:=hel;refine⟨FF++G,?_⟩;rw[St.fH,St.dC,List.map_map,qU hlt,<- List.map_map,<- St.dC,<- St.fH];exact hBd.push (cs:=[.int .i64 kv,.int .i64 nv,.int .i64 tv,.int .i64 uv,.slice a2 l[j].name.length m2,.slice a5 m5 z5,.slice a6 m6 z6,.slice a7 m7 z7]) rfl (Own.mk' hG1 hG2) kA7 (lz.kept _) hsz (by rw[St.az,St.fH,List.length_map,List.length_take,Nat.min_eq_left (by omega)];exact ho) hg hloc
     have hrA:A7.ownsRow w.heap.size 110 8 (.slice ra j rc) j xs:=cu hrow kA7;have bA:w.heap.size<=A7.heap.size:=oA7.size;clear hI0 hI1 hI2 hC hC2 HQ HB nA4 hbW hSW kpW loW lwW hBd hb2 l2 hO2 fr2 e3 nn5 in0 EQ0 ag5 nn6 in1 EQ1 ag6 nn7 in2 EQ2 ag7;go_wp2_with (at_builtin;refine wpList_append_own_at _ rfl _ _ 53 rfl w.heap.size 110 i0 (.agg #[.int .i64 0,.int .i64 0,.int .i64 0,.int .i64 0,.slice none 0 0,.slice none 0 0,.slice none 0 0,.slice none 0 0]) 8 128 Tryz.underlying53 hi hz0 hz1 hz2 rfl (by decide) _ _ _ rfl ((by rw[<-hA7.out];exact hrA.alloc _)) _ 1 1 [.int .i64 kv,.int .i64 nv,.int .i64 tv,.int .i64 uv,.slice a2 l[j].name.length m2,.slice a5 m5 z5,.slice a6 m6 z6,.slice a7 m7 z7] rfl rfl (fA _ _ _ (by simp)) (by simp[Value.oneCell']) (by unfold maxLen;omega) (by omega) (by rw[<-hA7.out];exact Nat.le_trans bA (ae _ _).size) ?_;intro v9 w9 o9 g9 _ h9;obtain⟨L9,S9,D9,T9⟩:=HPU.out _ _ o9 _ (by rw[hA7.out];exact ae _ _) g9 h9;obtain⟨a9,p9,hv9⟩:=aP o9;rw[hv9]at D9 o9 ⊢)
     go_roundw
     case rel=>exact⟨j+1,_,_,p7,t7,rfl,by go_num,by omega,L9,o9,S9,fun ht=>⟨by first|rfl|trivial,(D9 ht).2⟩,fun ht=>by first|exact T9 ht|(rw[if_neg (by simp)];exact T9 ht)⟩
     case measure=>simp[intOf];omega
  ·have i1:¬ (j:Int)<(l.length:Int):=by omega
   have i2:decide ((j:Int)<(l.length:Int))=false:=decide_eq_false i1;have hjj:j=l.length:=by omega
   obtain⟨ra,rc,hra⟩:=aP hrow
   have HZ:=HQ.out (.returned rv) wr ra j rc q tq oR (by rw[hra]) hSr (by
    cases tq with
    | true=>rw[HT.out rfl];rfl
    | false =>
     obtain⟨e0,e1,e2,e3,_⟩:=HG.out rfl
     rw[e0,e3,hjj,List.drop_length,St.cps];try rfl) (fun ht=>by
    obtain⟨e0,e1,e2,e3,F,hB⟩:=HG.out ht;rw[hjj,List.take_length]at hB;obtain⟨G,hG⟩:=hB.done (by rw[St.az,St.fH,List.length_map];exact hll)
    exact⟨e1,e2,by rw[St.az,St.fH,List.length_map];exact hjj,G,by rw[<-hra];exact hG⟩)
   clear h HG HT HQ hL hjj;subst hra;go_wp2_with fail
   exact HZ
end Go.Proofs.YtgaddpkkjebekaaGreatDoor
