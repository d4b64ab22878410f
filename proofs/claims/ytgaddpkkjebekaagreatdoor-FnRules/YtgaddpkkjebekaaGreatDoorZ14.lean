import Derived.Test.YtgaddpkkjebekaaGreatDoorZ09
import Derived.Test.YtgaddpkkjebekaaGreatDoorZ07
import Derived.Test.YtgaddpkkjebekaaGreatDoorZ12
import Derived.Deep.QuietTactic
import Derived.BigQuiet
set_option maxHeartbeats 100000000
set_option maxRecDepth 100000
namespace Go.Proofs.YtgaddpkkjebekaaGreatDoor
open Go.RowKit Go.Maps
theorem hset {w:World}{b o k:Nat}{v:Value}(h:k≠b):(w.setCell ⟨b,o,none⟩ v).heap[k]?=w.heap[k]?:=Below.heap_setCell _ _ _ _ h
theorem af.cO {K:Nat}{a w:World}(h:af K a w) {b:Nat}(hb:a.heap.size<=b) (o:Nat) (u:Value):af K a (w.setCell ⟨b,o,none⟩ u) :=
 ⟨h.os,h.tape,h.output,by rw[World.size_setCell];exact h.size,fun k hk hn=>by rw[hset (by omega)];exact h.block k hk hn⟩
theorem Kept.cO {lo:Nat}{a w:World}(h:Kept lo a w) {b:Nat}(hb:a.heap.size<=b) (o:Nat) (u:Value):Kept lo a (w.setCell ⟨b,o,none⟩ u) :=
 ⟨by rw[World.size_setCell];exact h.size,fun k hl hk=>by rw[hset (by omega)];exact h.block k hl hk⟩
theorem af.kept {K lo:Nat}{a w:World}(h:af K a w) (hK:K<lo):Kept lo a w:=⟨h.size,fun b hb hw=>h.block b hw (by omega)⟩
def CpP (K:Nat) (w:World) (k:Nat) (ds:List Dat) (r:Option Int) (e:Ending) (w':World):Prop:=af K w w'/\∃ a n c p' t',e=.returned (.slice a n c)/\CpS K w' p' t'/\(r=if t' then none else some p')/\(t'=false->0<=p'/\p'<=400/\n=ds.length/\∃ F,Own w.heap.size w' (.list k ds) [.slice a n c] F)
mutual
def Ex.cp:Int->Int->Ex->Option Int
 | d,p,.mk _ _ _ _ nm ks=>if p+1<=400/\d<=30/\nm.length<=8 then Ex.cps (d+1) (p+1) ks else none
def Ex.cps:Int->Int->List Ex->Option Int
 | _,p,[]=>some p
 | d,p,x::r=>match Ex.cp d p x with|none=>none|some q=>Ex.cps d q r
end
mutual
def Ex.bare:Ex->Ex
 | .mk k n tk tn nm ks=>.mk k (if k=3\/k=6\/k=7 then 0 else n) (if k=5 then tk else 0) (if k=5 then tn else 0) nm (Ex.aU ks)
def Ex.aU:List Ex->List Ex
 | []=>[]
 | x::r=>x.bare::Ex.aU r
end
theorem Ex.GL (d p:Int) (x:Ex):Ex.cp d p x=if p+1<=400/\d<=30/\x.name.length<=8 then Ex.cps (d+1) (p+1) x.kids else none:=by obtain⟨k,n,tk,tn,nm,ks⟩:=x;rw[Ex.cp];rfl
theorem Ex.bare_eq (x:Ex):x.bare=.mk x.kind (if x.kind=3\/x.kind=6\/x.kind=7 then 0 else x.n) (if x.kind=5 then x.tk else 0) (if x.kind=5 then x.tn else 0) x.name (Ex.aU x.kids):=by obtain⟨k,n,tk,tn,nm,ks⟩:=x;rw[Ex.bare];rfl
theorem Ex.kC (x:Ex):x.name.length<=x.sz:=by obtain⟨k,n,tk,tn,nm,ks⟩:=x;show nm.length<=nm.length+Ex.szs ks;omega
theorem Ex.wV (x:Ex):Ex.szs x.kids<=x.sz:=by obtain⟨k,n,tk,tn,nm,ks⟩:=x;show Ex.szs ks<=nm.length+Ex.szs ks;omega
theorem Ex.fH (l:List Ex):Ex.aU l=l.map Ex.bare:=by induction l with|nil=>rw[Ex.aU];rfl|cons x r ih=>rw[Ex.aU,ih];rfl
theorem Ex.rV (d p:Int) (x:Ex) (r:List Ex):Ex.cps d p (x::r)=match Ex.cp d p x with|none=>none|some q=>Ex.cps d q r:=by rw[Ex.cps]
theorem Ex.xg {d p:Int}{l:List Ex}{j:Nat}(h:j<l.length) (hc:Ex.cp d p l[j]=none):Ex.cps d p (l.drop j)=none:=by rw[List.drop_eq_getElem_cons h,Ex.rV,hc]
theorem Ex.Bz {d p q:Int}{l:List Ex}{j:Nat}(h:j<l.length) (hc:Ex.cp d p l[j]=some q):Ex.cps d p (l.drop j)=Ex.cps d q (l.drop (j+1)):=by rw[List.drop_eq_getElem_cons h,Ex.rV,hc]
theorem Ex.Jl {d p:Int}{l:List Ex}{j:Nat}(h:j<l.length) (hc:((p+1<=400/\d<=30)->¬ l[j].name.length<=8)):(if false=true then none else Ex.cps d p (l.drop j))=none:=by
 rw[if_neg (by simp)];refine Ex.xg h ?_;rw[Ex.GL,if_neg (fun q=>hc ⟨q.1,q.2.1⟩ q.2.2)]
theorem PP (N:Nat):∀ (v:Value) (l:List Ex) (K:Nat) (p:Int) (t:Bool) (d:Int) (w0 w:World),Ex.szs l<=N->Ex.szs l<=1048576->RdL w0 6 v (Ex.ah l)->Later w0 w->w0.heap.size<=K->CpS K w p t->(t=false->0<=p/\p<=400)->0<=d->d<=31 ->
  Calls Tryz.prog 86 #[.pointer (some ⟨K,0,none⟩),v,.int .i64 d] w (CpP K w 6 (Ex.ah (Ex.aU l)) (if t then none else Ex.cps d p l)):=by
 induction N using Nat.strongRecOn with
 | _ N IH =>
 intro v l K p t d w0 w hN hM h hL hK hS hp hd0 hd1;obtain⟨a,cap,rfl,hl⟩:=Ex.slice h;obtain⟨i0,hi,hz0,hz1,hz2⟩:=info_parts Tryz.J7;have hll:l.length<=1048576:=by have:=Ex.jD l;omega
 have hKw:=hS.lt
 have HQ:Hid (∀ e w' a n c p' t',af K w w'->e=.returned (.slice a n c)->CpS K w' p' t'->((if t then none else Ex.cps d p l)=if t' then none else some p')->(t'=false->0<=p'/\p'<=400/\n=(Ex.ah (Ex.aU l)).length/\∃ F,Own w.heap.size w' (.list 6 (Ex.ah (Ex.aU l))) [.slice a n c] F)->CpP K w 6 (Ex.ah (Ex.aU l)) (if t then none else Ex.cps d p l) e w'):=fun e w' a n c p' t' h1 h2 h3 h4 h5=>⟨h1,a,n,c,p',t',h2,h3,h4,h5⟩
 generalize hQ:CpP K w 6 (Ex.ah (Ex.aU l)) (if t then none else Ex.cps d p l)=Q at *
 clear hQ;go_enter Tryz.func86,Tryz.ntmps86;go_wp2_with fail
 go_loopw [7,12] (fun r i wr=>∃ (j:Nat) (xs:List Value) (rv:Value) (q:Int) (tq:Bool),rv=r/\i=.int .i64 (j:Int)/\j<=l.length/\af K w wr/\wr.ownsRow w.heap.size 148 6 rv j xs/\CpS K wr q tq/\Hid (tq=false->t=false/\0<=q/\q<=400/\Ex.cps d p l=Ex.cps d q (l.drop j)/\∃ F,Bd w.heap.size wr 148 6 rv (Ex.ah (Ex.aU (l.take j))) xs F)/\Hid (tq=true->(if t then none else Ex.cps d p l)=none)) (fun _ i _=>l.length - (intOf i).toNat)
 case atStart =>
  exact⟨0,[],_,p,t,rfl,rfl,Nat.zero_le _,af.refl _ _,World.ownsRow_nil _ _ _ _,hS,fun ht=>⟨ht,(hp ht).1,(hp ht).2,rfl,[],by rw[List.take_zero,Ex.aU,Ex.ah];exact Bd.nil _ _ _ _⟩,fun ht=>by rw[ht];rfl⟩
 case round =>
  obtain⟨j,xs,rv,q,tq,rfl,rfl,hj,oR,hrow,hSr,HG,HT⟩:=hrel;by_cases hlt:j<l.length
  ·obtain⟨g,off,v0,v1,rfl,hgs,c0,c1,c2,c3,c4,c5,r0,r1⟩:=Ex.elem h j hlt;have i1:(j:Int)<(l.length:Int):=by omega
   have lw0:Later w0 wr:=aB hL oR hK;have c0:wr.cell? ⟨g,off+j*6,none⟩=some (.int .i64 l[j].kind):=by rw[Below.cell lw0 (p:=⟨g,off+j*6,none⟩) hgs];exact c0
   have c1:wr.cell? ⟨g,off+j*6+1,none⟩=some (.int .i64 l[j].n):=by rw[Below.cell lw0 (p:=⟨g,off+j*6+1,none⟩) hgs];exact c1
   have c2:wr.cell? ⟨g,off+j*6+2,none⟩=some (.int .i64 l[j].tk):=by rw[Below.cell lw0 (p:=⟨g,off+j*6+2,none⟩) hgs];exact c2
   have c3:wr.cell? ⟨g,off+j*6+3,none⟩=some (.int .i64 l[j].tn):=by rw[Below.cell lw0 (p:=⟨g,off+j*6+3,none⟩) hgs];exact c3
   have c4:wr.cell? ⟨g,off+j*6+4,none⟩=some (v0):=by rw[Below.cell lw0 (p:=⟨g,off+j*6+4,none⟩) hgs];exact c4
   have c5:wr.cell? ⟨g,off+j*6+5,none⟩=some (v1):=by rw[Below.cell lw0 (p:=⟨g,off+j*6+5,none⟩) hgs];exact c5
   obtain⟨ra,rc,hra⟩:=aP hrow;have hsz:w.heap.size<=wr.heap.size:=oR.size;obtain⟨wb,hwb⟩:=hidx (wr.alloc (.cells #[.int .i64 l[j].kind,.int .i64 l[j].n,.int .i64 l[j].tk,.int .i64 l[j].tn,v0,v1] 148));have hbb:Bxx wb wr.heap.size [.int .i64 l[j].kind,.int .i64 l[j].n,.int .i64 l[j].tk,.int .i64 l[j].tn,v0,v1]:=by rw[hwb.out];exact Bxx.new _ _ _
   have lb:Later wr wb:=by rw[hwb.out];exact ae _ _
   have hKB:wr.heap.size≠K:=by omega
   have hSb:CpS K wb q tq:=Bxx.later hSr lb;have hnl:l[j].name.length<=1048576:=by have:=Ex.dW l j hlt;have:=Ex.kC l[j];omega
   have hC:=fun w' (ll:Later w0 w')=>clone_any v0 l[j].name w' (r0.later ll) hnl;have hGo:=fun a n c=>Gg K q d tq a n c wb hSb (fun ht=>⟨(HG.out ht).2.1,(HG.out ht).2.2.1⟩);have hI0:=fun p' t' w' (hb:Ex.szs l[j].kids<Ex.szs l) (ll:Later w0 w') (hs:CpS K w' p' t') (hh:t'=false->0<=p'/\p'<=400) (hd:d+1<=31)=>IH (Ex.szs l[j].kids) (by omega) v1 l[j].kids K p' t' (d+1) w0 w' (Nat.le_refl _) (by omega) r1 ll hK hs hh (by omega) hd;have hJ0:Ex.szs l[j].kids<Ex.szs l:=by have:=Ex.dW l j hlt;have:=Ex.wV l[j];omega
   have HX:Hid (∀ b,(tq=false->b=(decide (q+1<=400)&&decide (d<=30)&&decide (l[j].name.length<=8)))->((!tq&&b)=false)->(if t then none else Ex.cps d p l)=none):=fun b hb hf=>by
    cases tq with
    | true=>exact HT.out rfl
    | false =>
     obtain⟨e0,e1,e2,e3,_⟩:=HG.out rfl;rw[e0,e3];rw[hb rfl]at hf;exact Ex.Jl hlt (by simpa using hf)
   obtain⟨y0,q0,rfl,_⟩:=r0.slice;obtain⟨y1,q1,rfl,_⟩:=Ex.slice r1;subst hra;have hGo1:=hGo y0 l[j].name.length q0;clear h r0 r1 hGo hL;go_wp2_with fail
   rw[<-hwb.out];refine hGo1.mono ?_;rintro e w1 ⟨rfl,o1,p1,hS1,hp1⟩;have lo1:af K w w1:=(oR.trans (af.of_later lb)).trans o1;obtain⟨bb,hbb0⟩:=hidx (decide (q+1<=400)&&decide (d<=30)&&decide (l[j].name.length<=8));rw[<-hbb0.out]at hS1 ⊢;have hb1:=hbb.only o1 hKB
   cases hbt:(!tq&&bb) with
   | false =>
    have HZ:=HQ.out _ w1 none 0 0 p1 true lo1 rfl (by cases tq <;> cases bb <;> first|exact hS1|cases hbt) (by rw[HX.out bb (fun _=>hbb0.out) hbt];rfl) (fun hf=>by cases hf);clear hI0  HX HQ HG HT hGo1 hC;go_wp2_with fail
    exact HZ
   | true =>
    obtain⟨rfl,rfl⟩:tq=false/\bb=true:=by cases tq <;> cases bb <;> first|exact⟨rfl,rfl⟩|cases hbt
    obtain⟨e0,e1,e2,e3,FF,hBd⟩:=HG.out rfl;have hok:q+1<=400/\d<=30/\l[j].name.length<=8:=by have:=hbb0.out;simpa[and_assoc] using this.symm
    obtain rfl:p1=q+1:=hp1 rfl;have hS2:CpS K w1 (q+1) false:=hS1;have hd31:d+1<=31:=by omega
    have kp1:Kept w.heap.size wr w1:=(lb.kept _).trans (o1.kept hKw);have s1:wr.heap.size<w1.heap.size:=hb1.lt;have lw1:Later w0 w1:=aB (lw0.trans lb) o1 hK;subst e0;have HE:Hid (∀ (ts:List (Bool × Int)),True):=fun _=>trivial;clear HX hGo1 hbt hS1 hp1 HE HT;have HT2:Hid True:=trivial;rcases (by omega:l[j].kind=3\/l[j].kind=6\/l[j].kind=7\/l[j].kind=5\/(l[j].kind≠3/\l[j].kind≠6/\l[j].kind≠7/\l[j].kind≠5)) with kk|kk|kk|kk|kk
    all_goals
     first
     |have kk:l[j].kind=3:=kk
      have HB:Hid (l[j].bare=Ex.mk l[j].kind 0 0 0 l[j].name (Ex.aU l[j].kids)):=by
       unfold Hid;rw[Ex.bare_eq];simp[kk]
      rw[kk]at hb1 HB ⊢;clear kk;obtain⟨x0,f0⟩:=hb1.cell 0 _ rfl;obtain⟨x1,f1⟩:=hb1.cell 1 _ rfl;obtain⟨x2,f2⟩:=hb1.cell 2 _ rfl;obtain⟨x3,f3⟩:=hb1.cell 3 _ rfl;obtain⟨x4,f4⟩:=hb1.cell 4 _ rfl;obtain⟨x5,f5⟩:=hb1.cell 5 _ rfl;have hbt:=dQ;obtain⟨W,hW⟩:=hidx (((w1.setCell ⟨wr.heap.size,1,none⟩ (.int .i64 0)).setCell ⟨wr.heap.size,2,none⟩ (.int .i64 0)).setCell ⟨wr.heap.size,3,none⟩ (.int .i64 0));have hbW:Bxx W wr.heap.size [.int .i64 3,.int .i64 0,.int .i64 0,.int .i64 0,.slice y0 l[j].name.length q0,.slice y1 l[j].kids.length q1]:=by rw[hW.out];exact (((hb1.set 1 (.int .i64 0) (Nat.lt_of_sub_eq_succ rfl)).set 2 (.int .i64 0) (Nat.lt_of_sub_eq_succ rfl)).set 3 (.int .i64 0) (Nat.lt_of_sub_eq_succ rfl))
      have lwW:Later w0 W:=by rw[hW.out];exact (Later.setAt (Later.setAt (Later.setAt lw1 (by have:=oR.size;have:=lw0.size;omega) 1 _) (by have:=oR.size;have:=lw0.size;omega) 2 _) (by have:=oR.size;have:=lw0.size;omega) 3 _)
      have loW:af K w W:=by rw[hW.out];exact (af.cO (af.cO (af.cO lo1 hsz 1 _) hsz 2 _) hsz 3 _)
      have kpW:Kept w.heap.size wr W:=by rw[hW.out];exact (Kept.cO (Kept.cO (Kept.cO kp1 (Nat.le_refl _) 1 _) (Nat.le_refl _) 2 _) (Nat.le_refl _) 3 _)
      have hSW:CpS K W (q+1) false:=by rw[hW.out];exact (Bxx.other (Bxx.other (Bxx.other hS2 (Ne.symm hKB) _) (Ne.symm hKB) _) (Ne.symm hKB) _)
      have hC2:=hC W lwW;go_wp2_with fail
      rw[<-hW.out];clear x0 f0 x1 f1 x2 f2 x3 f3 x4 f4 x5 f5 hb1 hS2 lo1 kp1 lw1 hbt
      obtain⟨kv,nv,tv,uv,hbW,HB⟩:∃ kv nv tv uv,Bxx W wr.heap.size [.int .i64 kv,.int .i64 nv,.int .i64 tv,.int .i64 uv,.slice y0 l[j].name.length q0,.slice y1 l[j].kids.length q1]/\Hid (l[j].bare=Ex.mk kv nv tv uv l[j].name (Ex.aU l[j].kids)):=⟨_,_,_,_,hbW,HB⟩
     |have kk:l[j].kind=6:=kk
      have HB:Hid (l[j].bare=Ex.mk l[j].kind 0 0 0 l[j].name (Ex.aU l[j].kids)):=by
       unfold Hid;rw[Ex.bare_eq];simp[kk]
      rw[kk]at hb1 HB ⊢;clear kk;obtain⟨x0,f0⟩:=hb1.cell 0 _ rfl;obtain⟨x1,f1⟩:=hb1.cell 1 _ rfl;obtain⟨x2,f2⟩:=hb1.cell 2 _ rfl;obtain⟨x3,f3⟩:=hb1.cell 3 _ rfl;obtain⟨x4,f4⟩:=hb1.cell 4 _ rfl;obtain⟨x5,f5⟩:=hb1.cell 5 _ rfl;have hbt:=dQ;obtain⟨W,hW⟩:=hidx (((w1.setCell ⟨wr.heap.size,1,none⟩ (.int .i64 0)).setCell ⟨wr.heap.size,2,none⟩ (.int .i64 0)).setCell ⟨wr.heap.size,3,none⟩ (.int .i64 0));have hbW:Bxx W wr.heap.size [.int .i64 6,.int .i64 0,.int .i64 0,.int .i64 0,.slice y0 l[j].name.length q0,.slice y1 l[j].kids.length q1]:=by rw[hW.out];exact (((hb1.set 1 (.int .i64 0) (Nat.lt_of_sub_eq_succ rfl)).set 2 (.int .i64 0) (Nat.lt_of_sub_eq_succ rfl)).set 3 (.int .i64 0) (Nat.lt_of_sub_eq_succ rfl))
      have lwW:Later w0 W:=by rw[hW.out];exact (Later.setAt (Later.setAt (Later.setAt lw1 (by have:=oR.size;have:=lw0.size;omega) 1 _) (by have:=oR.size;have:=lw0.size;omega) 2 _) (by have:=oR.size;have:=lw0.size;omega) 3 _)
      have loW:af K w W:=by rw[hW.out];exact (af.cO (af.cO (af.cO lo1 hsz 1 _) hsz 2 _) hsz 3 _)
      have kpW:Kept w.heap.size wr W:=by rw[hW.out];exact (Kept.cO (Kept.cO (Kept.cO kp1 (Nat.le_refl _) 1 _) (Nat.le_refl _) 2 _) (Nat.le_refl _) 3 _)
      have hSW:CpS K W (q+1) false:=by rw[hW.out];exact (Bxx.other (Bxx.other (Bxx.other hS2 (Ne.symm hKB) _) (Ne.symm hKB) _) (Ne.symm hKB) _)
      have hC2:=hC W lwW;go_wp2_with fail
      rw[<-hW.out];clear x0 f0 x1 f1 x2 f2 x3 f3 x4 f4 x5 f5 hb1 hS2 lo1 kp1 lw1 hbt
      obtain⟨kv,nv,tv,uv,hbW,HB⟩:∃ kv nv tv uv,Bxx W wr.heap.size [.int .i64 kv,.int .i64 nv,.int .i64 tv,.int .i64 uv,.slice y0 l[j].name.length q0,.slice y1 l[j].kids.length q1]/\Hid (l[j].bare=Ex.mk kv nv tv uv l[j].name (Ex.aU l[j].kids)):=⟨_,_,_,_,hbW,HB⟩
     |have kk:l[j].kind=7:=kk
      have HB:Hid (l[j].bare=Ex.mk l[j].kind 0 0 0 l[j].name (Ex.aU l[j].kids)):=by
       unfold Hid;rw[Ex.bare_eq];simp[kk]
      rw[kk]at hb1 HB ⊢;clear kk;obtain⟨x0,f0⟩:=hb1.cell 0 _ rfl;obtain⟨x1,f1⟩:=hb1.cell 1 _ rfl;obtain⟨x2,f2⟩:=hb1.cell 2 _ rfl;obtain⟨x3,f3⟩:=hb1.cell 3 _ rfl;obtain⟨x4,f4⟩:=hb1.cell 4 _ rfl;obtain⟨x5,f5⟩:=hb1.cell 5 _ rfl;have hbt:=dQ;obtain⟨W,hW⟩:=hidx (((w1.setCell ⟨wr.heap.size,1,none⟩ (.int .i64 0)).setCell ⟨wr.heap.size,2,none⟩ (.int .i64 0)).setCell ⟨wr.heap.size,3,none⟩ (.int .i64 0));have hbW:Bxx W wr.heap.size [.int .i64 7,.int .i64 0,.int .i64 0,.int .i64 0,.slice y0 l[j].name.length q0,.slice y1 l[j].kids.length q1]:=by rw[hW.out];exact (((hb1.set 1 (.int .i64 0) (Nat.lt_of_sub_eq_succ rfl)).set 2 (.int .i64 0) (Nat.lt_of_sub_eq_succ rfl)).set 3 (.int .i64 0) (Nat.lt_of_sub_eq_succ rfl))
      have lwW:Later w0 W:=by rw[hW.out];exact (Later.setAt (Later.setAt (Later.setAt lw1 (by have:=oR.size;have:=lw0.size;omega) 1 _) (by have:=oR.size;have:=lw0.size;omega) 2 _) (by have:=oR.size;have:=lw0.size;omega) 3 _)
      have loW:af K w W:=by rw[hW.out];exact (af.cO (af.cO (af.cO lo1 hsz 1 _) hsz 2 _) hsz 3 _)
      have kpW:Kept w.heap.size wr W:=by rw[hW.out];exact (Kept.cO (Kept.cO (Kept.cO kp1 (Nat.le_refl _) 1 _) (Nat.le_refl _) 2 _) (Nat.le_refl _) 3 _)
      have hSW:CpS K W (q+1) false:=by rw[hW.out];exact (Bxx.other (Bxx.other (Bxx.other hS2 (Ne.symm hKB) _) (Ne.symm hKB) _) (Ne.symm hKB) _)
      have hC2:=hC W lwW;go_wp2_with fail
      rw[<-hW.out];clear x0 f0 x1 f1 x2 f2 x3 f3 x4 f4 x5 f5 hb1 hS2 lo1 kp1 lw1 hbt
      obtain⟨kv,nv,tv,uv,hbW,HB⟩:∃ kv nv tv uv,Bxx W wr.heap.size [.int .i64 kv,.int .i64 nv,.int .i64 tv,.int .i64 uv,.slice y0 l[j].name.length q0,.slice y1 l[j].kids.length q1]/\Hid (l[j].bare=Ex.mk kv nv tv uv l[j].name (Ex.aU l[j].kids)):=⟨_,_,_,_,hbW,HB⟩
     |have kk:l[j].kind=5:=kk
      have HB:Hid (l[j].bare=Ex.mk l[j].kind l[j].n l[j].tk l[j].tn l[j].name (Ex.aU l[j].kids)):=by
       unfold Hid;rw[Ex.bare_eq];simp[kk]
      rw[kk]at hb1 HB ⊢;clear kk;obtain⟨x0,f0⟩:=hb1.cell 0 _ rfl;obtain⟨x1,f1⟩:=hb1.cell 1 _ rfl;obtain⟨x2,f2⟩:=hb1.cell 2 _ rfl;obtain⟨x3,f3⟩:=hb1.cell 3 _ rfl;obtain⟨x4,f4⟩:=hb1.cell 4 _ rfl;obtain⟨x5,f5⟩:=hb1.cell 5 _ rfl;obtain⟨W,hW⟩:=hidx w1;have hbW:Bxx W wr.heap.size [.int .i64 5,.int .i64 l[j].n,.int .i64 l[j].tk,.int .i64 l[j].tn,.slice y0 l[j].name.length q0,.slice y1 l[j].kids.length q1]:=by rw[hW.out];exact hb1
      have lwW:Later w0 W:=by rw[hW.out];exact lw1
      have loW:af K w W:=by rw[hW.out];exact lo1
      have kpW:Kept w.heap.size wr W:=by rw[hW.out];exact kp1
      have hSW:CpS K W (q+1) false:=by rw[hW.out];exact hS2
      have hC2:=hC W lwW;go_wp2_with fail
      have hWe:=hW.out;rw[<-hWe];clear hWe;clear x0 f0 x1 f1 x2 f2 x3 f3 x4 f4 x5 f5 hb1 hS2 lo1 kp1 lw1
      obtain⟨kv,nv,tv,uv,hbW,HB⟩:∃ kv nv tv uv,Bxx W wr.heap.size [.int .i64 kv,.int .i64 nv,.int .i64 tv,.int .i64 uv,.slice y0 l[j].name.length q0,.slice y1 l[j].kids.length q1]/\Hid (l[j].bare=Ex.mk kv nv tv uv l[j].name (Ex.aU l[j].kids)):=⟨_,_,_,_,hbW,HB⟩
     |obtain⟨k3,k6,k7,k5⟩:=kk
      have HB:Hid (l[j].bare=Ex.mk l[j].kind l[j].n 0 0 l[j].name (Ex.aU l[j].kids)):=by
       unfold Hid;rw[Ex.bare_eq];simp[k3,k6,k7,k5]
      have n3:=neb k3;have n6:=neb k6;have n7:=neb k7;have n5:=neb k5;clear k3 k6 k7 k5;obtain⟨x0,f0⟩:=hb1.cell 0 _ rfl;obtain⟨x1,f1⟩:=hb1.cell 1 _ rfl;obtain⟨x2,f2⟩:=hb1.cell 2 _ rfl;obtain⟨x3,f3⟩:=hb1.cell 3 _ rfl;obtain⟨x4,f4⟩:=hb1.cell 4 _ rfl;obtain⟨x5,f5⟩:=hb1.cell 5 _ rfl;have hbt:=dQ;obtain⟨W,hW⟩:=hidx ((w1.setCell ⟨wr.heap.size,2,none⟩ (.int .i64 0)).setCell ⟨wr.heap.size,3,none⟩ (.int .i64 0));have hbW:Bxx W wr.heap.size [.int .i64 l[j].kind,.int .i64 l[j].n,.int .i64 0,.int .i64 0,.slice y0 l[j].name.length q0,.slice y1 l[j].kids.length q1]:=by rw[hW.out];exact ((hb1.set 2 (.int .i64 0) (Nat.lt_of_sub_eq_succ rfl)).set 3 (.int .i64 0) (Nat.lt_of_sub_eq_succ rfl))
      have lwW:Later w0 W:=by rw[hW.out];exact (Later.setAt (Later.setAt lw1 (by have:=oR.size;have:=lw0.size;omega) 2 _) (by have:=oR.size;have:=lw0.size;omega) 3 _)
      have loW:af K w W:=by rw[hW.out];exact (af.cO (af.cO lo1 hsz 2 _) hsz 3 _)
      have kpW:Kept w.heap.size wr W:=by rw[hW.out];exact (Kept.cO (Kept.cO kp1 (Nat.le_refl _) 2 _) (Nat.le_refl _) 3 _)
      have hSW:CpS K W (q+1) false:=by rw[hW.out];exact (Bxx.other (Bxx.other hS2 (Ne.symm hKB) _) (Ne.symm hKB) _)
      have hC2:=hC W lwW;go_wp2_with fail
      rw[<-hW.out];clear x0 f0 x1 f1 x2 f2 x3 f3 x4 f4 x5 f5 hb1 hS2 lo1 kp1 lw1 hbt
      obtain⟨kv,nv,tv,uv,hbW,HB⟩:∃ kv nv tv uv,Bxx W wr.heap.size [.int .i64 kv,.int .i64 nv,.int .i64 tv,.int .i64 uv,.slice y0 l[j].name.length q0,.slice y1 l[j].kids.length q1]/\Hid (l[j].bare=Ex.mk kv nv tv uv l[j].name (Ex.aU l[j].kids)):=⟨_,_,_,_,hbW,HB⟩
    all_goals
     refine hC2.mono ?_;rintro e w2 ⟨a2,m2,G2,rfl,hO2,l2⟩;have hb2:=hbW.later l2;obtain⟨x0,f0⟩:=hb2.cell 0 _ rfl;obtain⟨x1,f1⟩:=hb2.cell 1 _ rfl;obtain⟨x2,f2⟩:=hb2.cell 2 _ rfl;obtain⟨x3,f3⟩:=hb2.cell 3 _ rfl;obtain⟨x4,f4⟩:=hb2.cell 4 _ rfl;obtain⟨x5,f5⟩:=hb2.cell 5 _ rfl;obtain⟨A4,hA4⟩:=hidx (w2.setCell ⟨wr.heap.size,4,none⟩ (.slice a2 l[j].name.length m2));have hbA4:Bxx A4 wr.heap.size [.int .i64 kv,.int .i64 nv,.int .i64 tv,.int .i64 uv,.slice a2 l[j].name.length m2,.slice y1 l[j].kids.length q1]:=by rw[hA4.out];exact hb2.set 4 _ (Nat.lt_of_sub_eq_succ rfl)
     have lA4:Later w0 A4:=by rw[hA4.out];exact Later.setAt (lwW.trans l2) (by have:=oR.size;have:=lw0.size;omega) 4 _
     have oA4:af K w A4:=by rw[hA4.out];exact af.cO (loW.trans (af.of_later l2)) hsz 4 _
     have kA4:Kept w.heap.size wr A4:=by rw[hA4.out];exact Kept.cO (kpW.trans (l2.kept _)) (Nat.le_refl _) 4 _
     have SA4:CpS K A4 (q+1) false:=by rw[hA4.out];exact Bxx.other (Bxx.later hSW l2) (Ne.symm hKB) _
     have nA4:ai A4 (.bytes l[j].name) [.slice a2 l[j].name.length m2] G2:=by rw[hA4.out];exact ai.agree (by rw[World.size_setCell];exact Nat.le_refl _) _ hO2.own (fun b hb=>hset (fun e=>by have:=(hO2.fresh b hb).1;have:=hbW.lt;omega))
     have fr2:Fr wr.heap.size A4.heap.size G2:=by rw[hA4.out,World.size_setCell];exact hO2.fr.mono (Nat.le_of_lt hbW.lt) (Nat.le_refl _)
     have hR0:=hI0 (q+1) false A4 hJ0 lA4 SA4 (fun _=>by omega) hd31;go_wp2_with fail
     rw[<-hA4.out];clear x0 f0 x1 f1 x2 f2 x3 f3 x4 f4 x5 f5;refine hR0.mono ?_;rintro e u5 ⟨ou5,a5,m5,z5,p5,t5,rfl,Su5,eq0,in0'⟩;have EQ0:Hid _:=eq0;have in0:Hid _:=in0';clear eq0 in0' hR0;have hbu5:=hbA4.only ou5 hKB;obtain⟨x0,f0⟩:=hbu5.cell 0 _ rfl;obtain⟨x1,f1⟩:=hbu5.cell 1 _ rfl;obtain⟨x2,f2⟩:=hbu5.cell 2 _ rfl;obtain⟨x3,f3⟩:=hbu5.cell 3 _ rfl;obtain⟨x4,f4⟩:=hbu5.cell 4 _ rfl;obtain⟨x5,f5⟩:=hbu5.cell 5 _ rfl;obtain⟨A5,hA5⟩:=hidx (u5.setCell ⟨wr.heap.size,5,none⟩ (.slice a5 m5 z5));have hbA5:Bxx A5 wr.heap.size [.int .i64 kv,.int .i64 nv,.int .i64 tv,.int .i64 uv,.slice a2 l[j].name.length m2,.slice a5 m5 z5]:=by rw[hA5.out];exact hbu5.set 5 _ (Nat.lt_of_sub_eq_succ rfl)
     have lA5:Later w0 A5:=by rw[hA5.out];exact Later.setAt (aB lA4 ou5 hK) (by have:=oR.size;have:=lw0.size;omega) 5 _
     have oA5:af K w A5:=by rw[hA5.out];exact af.cO (oA4.trans ou5) hsz 5 _
     have kA5:Kept w.heap.size wr A5:=by rw[hA5.out];exact Kept.cO (kA4.trans (ou5.kept hKw)) (Nat.le_refl _) 5 _
     have SA5:CpS K A5 p5 t5:=by rw[hA5.out];exact Bxx.other Su5 (Ne.symm hKB) _
     have ag5:∀ b,wr.heap.size<b->b<A4.heap.size->A5.heap[b]?=A4.heap[b]?:=fun b h1 h2=>by rw[hA5.out,hset (by omega)];exact ou5.block b h2 (by omega)
     have sz5:A4.heap.size<=A5.heap.size:=by rw[hA5.out,World.size_setCell];exact ou5.size
     have nn5:Hid (t5=false->m5=(Ex.ah (Ex.aU l[j].kids)).length/\∃ F,ai A5 (.list 6 (Ex.ah (Ex.aU l[j].kids))) [.slice a5 m5 z5] F/\Fr A4.heap.size A5.heap.size F):=fun ht=>by
      obtain⟨_,_,h3,F,hF⟩:=in0.out ht;refine⟨h3,F,by rw[hA5.out];exact ai.agree (by rw[World.size_setCell];exact Nat.le_refl _) _ hF.own (fun b hb=>hset (fun e=>by have:=(hF.fresh b hb).1;have:=hbA4.lt;omega)),by rw[hA5.out,World.size_setCell];exact hF.fr⟩
     have HPU:Hid (∀ w' v',w'.ownsRow w.heap.size 148 6 v' (j+1) (xs++[.int .i64 kv,.int .i64 nv,.int .i64 tv,.int .i64 uv,.slice a2 l[j].name.length m2,.slice a5 m5 z5])->∀ wz,Later A5 wz->wz.grownBy w' (Value.slice ra j rc).ownBlock->(v'.ownBlock=(Value.slice ra j rc).ownBlock\/v'.ownBlock=some wz.heap.size)->af K w w'/\CpS K w' p5 t5/\(t5=false->t5=false/\0<=p5/\p5<=400/\Ex.cps d p l=Ex.cps d p5 (l.drop (j+1))/\∃ F,Bd w.heap.size w' 148 6 v' (Ex.ah (Ex.aU (l.take (j+1)))) (xs++[.int .i64 kv,.int .i64 nv,.int .i64 tv,.int .i64 uv,.slice a2 l[j].name.length m2,.slice a5 m5 z5]) F)/\(t5=true->Ex.cps d p l=none)):=fun w' v' ho wz lz hg hloc=>by
      have hcp:Ex.cp d q l[j]=if t5 then none else some p5:=by
       rw[Ex.GL,if_pos hok];have z0:=EQ0.out;rw[if_neg (by simp)]at z0;rw[z0]
       try (first|rfl|(cases t5 <;> rfl))
      have hne:∀ b,(Value.slice ra j rc).ownBlock=some b->w.heap.size<=b/\b<wr.heap.size:=hrow.lt;have oz:af K w wz:=oA5.trans (af.of_later lz);refine⟨⟨hg.os.trans oz.os,hg.tape.trans oz.tape,hg.output.trans oz.output,Nat.le_trans oz.size hg.size,fun b hb hn=>?_⟩,?_,fun ht=>⟨ht,?_⟩,fun ht=>by rw[e3];exact Ex.xg hlt (by rw[hcp,ht];rfl)⟩
      ·rw[hg.block b (Nat.lt_of_lt_of_le hb oz.size) (fun e=>by have:=(hne b e.symm).1;omega)];exact oz.block b hb hn
      ·exact Bxx.kept (Bxx.later SA5 lz) hg.size (hg.block K (Nat.lt_of_lt_of_le hKw oz.size) (fun e=>by have:=(hne K e.symm).1;omega))
      ·rw[ht]at hcp;have hcp':Ex.cp d q l[j]=some p5:=hcp;refine⟨(in0.out ht).1,(in0.out ht).2.1,by rw[e3];exact Ex.Bz hlt hcp',?_⟩;obtain⟨em5,F5,hF5,fr5⟩:=nn5.out ht;have gz2:∀ b∈G2,wr.heap.size<b:=fun b hb=>Nat.lt_of_lt_of_le hbW.lt (hO2.fresh b hb).1
       have nF:=(ai.agree sz5 _ nA4 (fun b hb=>ag5 b (gz2 b hb) (by have:=(fr2.2 b hb).2; omega)))
       have pF5:=hF5
       have frA:=(Fr.app fr2 fr5 (by have:=hbA4.lt; omega) sz5)
       have hel:∃ G,ai A5 l[j].bare.dat [.int .i64 kv,.int .i64 nv,.int .i64 tv,.int .i64 uv,.slice a2 l[j].name.length m2,.slice a5 m5 z5] G/\Fr wr.heap.size A5.heap.size G:=by
        rw[HB.out];subst em5;exact⟨_,Ex.own (x:=Ex.mk _ _ _ _ _ _) nF pF5,by simpa[List.append_assoc] using frA⟩
       obtain⟨G,hG1,hG2⟩:=hel;refine⟨FF++G,?_⟩;rw[Ex.fH,Ex.dC,List.map_map,qU hlt,<- List.map_map,<- Ex.dC,<- Ex.fH];exact hBd.push (cs:=[.int .i64 kv,.int .i64 nv,.int .i64 tv,.int .i64 uv,.slice a2 l[j].name.length m2,.slice a5 m5 z5]) rfl (Own.mk' hG1 hG2) kA5 (lz.kept _) hsz (by rw[Ex.az,Ex.fH,List.length_map,List.length_take,Nat.min_eq_left (by omega)];exact ho) hg hloc
     have hrA:A5.ownsRow w.heap.size 148 6 (.slice ra j rc) j xs:=cu hrow kA5;have bA:w.heap.size<=A5.heap.size:=oA5.size;clear hI0 hC hC2 HQ HB nA4 hbW hSW kpW loW lwW hBd hb2 l2 hO2 fr2 e3 nn5 in0 EQ0 ag5;go_wp2_with (at_builtin;refine wpList_append_own_at _ rfl _ _ 108 rfl w.heap.size 148 i0 (.agg #[.int .i64 0,.int .i64 0,.int .i64 0,.int .i64 0,.slice none 0 0,.slice none 0 0]) 6 80 Tryz.underlying108 hi hz0 hz1 hz2 rfl (by decide) _ _ _ rfl ((by rw[<-hA5.out];exact hrA.alloc _)) _ 1 1 [.int .i64 kv,.int .i64 nv,.int .i64 tv,.int .i64 uv,.slice a2 l[j].name.length m2,.slice a5 m5 z5] rfl rfl (fA _ _ _ (by simp)) (by simp[Value.oneCell']) (by unfold maxLen;omega) (by omega) (by rw[<-hA5.out];exact Nat.le_trans bA (ae _ _).size) ?_;intro v9 w9 o9 g9 _ h9;obtain⟨L9,S9,D9,T9⟩:=HPU.out _ _ o9 _ (by rw[hA5.out];exact ae _ _) g9 h9;obtain⟨a9,p9,hv9⟩:=aP o9;rw[hv9]at D9 o9 ⊢)
     go_roundw
     case rel=>exact⟨j+1,_,_,p5,t5,rfl,by go_num,by omega,L9,o9,S9,fun ht=>⟨by first|rfl|trivial,(D9 ht).2⟩,fun ht=>by first|exact T9 ht|(rw[if_neg (by simp)];exact T9 ht)⟩
     case measure=>simp[intOf];omega
  ·have i1:¬ (j:Int)<(l.length:Int):=by omega
   have i2:decide ((j:Int)<(l.length:Int))=false:=decide_eq_false i1;have hjj:j=l.length:=by omega
   obtain⟨ra,rc,hra⟩:=aP hrow
   have HZ:=HQ.out (.returned rv) wr ra j rc q tq oR (by rw[hra]) hSr (by
    cases tq with
    | true=>rw[HT.out rfl];rfl
    | false =>
     obtain⟨e0,e1,e2,e3,_⟩:=HG.out rfl
     rw[e0,e3,hjj,List.drop_length,Ex.cps];try rfl) (fun ht=>by
    obtain⟨e0,e1,e2,e3,F,hB⟩:=HG.out ht;rw[hjj,List.take_length]at hB;obtain⟨G,hG⟩:=hB.done (by rw[Ex.az,Ex.fH,List.length_map];exact hll)
    exact⟨e1,e2,by rw[Ex.az,Ex.fH,List.length_map];exact hjj,G,by rw[<-hra];exact hG⟩)
   clear h HG HT HQ hL hjj;subst hra;go_wp2_with fail
   exact HZ
theorem IC (N:Nat):∀ (v:Value) (l:List St) (K:Nat) (s p d:Int) (w0 w:World),St.szs l<=N->(St.aZ l)->RdL w0 8 v (St.ah l)->Later w0 w->w0.heap.size<=K->Sv K w s p->0<=p->p<=400->0<=d->d<=31 ->
  Calls Tryz.prog 108 #[.pointer (some ⟨K,0,none⟩),v,.int .i64 d] w fun e w'=>SvP K s w (St.runs s d (400 - p) l) e w':=by
 induction N using Nat.strongRecOn with
 | _ N IH =>
 intro v l K s p d w0 w hN hg h hL hK hS hp0 hp1 hd0 hd1;obtain⟨a,cap,rfl,hl⟩:=St.slice h;go_enter Tryz.func108,Tryz.ntmps108;go_wp2_with fail
 go_loopw [11] (fun i wr=>∃ (j:Nat) (q:Int),i=.int .i64 (j:Int)/\j<=l.length/\af K w wr/\Sv K wr s q/\0<=q/\q<=400/\Hid (St.dL s d (400 - p) l j (400 - q))) (fun i _=>l.length - (intOf i).toNat)
 case atStart=>exact⟨0,p,rfl,Nat.zero_le _,af.refl _ _,hS,hp0,hp1,St.jM _ _ _ _⟩
 case round =>
  obtain⟨j,q,rfl,hj,oR,hSr,hq0,hq1,HS⟩:=hrel;by_cases hlt:j<l.length
  ·obtain⟨g,off,v0,v1,v2,v3,rfl,hgs,c0,c1,c2,c3,c4,c5,c6,c7,r0,r1,r2,r3⟩:=St.elem h j hlt;have i1:(j:Int)<(l.length:Int):=by omega
   have hLr:=aB hL oR hK;have c0:wr.cell? ⟨g,off+j*8,none⟩=some (.int .i64 l[j].kind):=by rw[Below.cell hLr (p:=⟨g,off+j*8,none⟩) hgs];exact c0
   have c1:wr.cell? ⟨g,off+j*8+1,none⟩=some (.int .i64 l[j].n):=by rw[Below.cell hLr (p:=⟨g,off+j*8+1,none⟩) hgs];exact c1
   have c2:wr.cell? ⟨g,off+j*8+2,none⟩=some (.int .i64 l[j].tk):=by rw[Below.cell hLr (p:=⟨g,off+j*8+2,none⟩) hgs];exact c2
   have c3:wr.cell? ⟨g,off+j*8+3,none⟩=some (.int .i64 l[j].tn):=by rw[Below.cell hLr (p:=⟨g,off+j*8+3,none⟩) hgs];exact c3
   have c4:wr.cell? ⟨g,off+j*8+4,none⟩=some (v0):=by rw[Below.cell hLr (p:=⟨g,off+j*8+4,none⟩) hgs];exact c4
   have c5:wr.cell? ⟨g,off+j*8+5,none⟩=some (v1):=by rw[Below.cell hLr (p:=⟨g,off+j*8+5,none⟩) hgs];exact c5
   have c6:wr.cell? ⟨g,off+j*8+6,none⟩=some (v2):=by rw[Below.cell hLr (p:=⟨g,off+j*8+6,none⟩) hgs];exact c6
   have c7:wr.cell? ⟨g,off+j*8+7,none⟩=some (v3):=by rw[Below.cell hLr (p:=⟨g,off+j*8+7,none⟩) hgs];exact c7
   obtain⟨y0,q0,rfl,_⟩:=r0.slice;obtain⟨y1,q1,rfl,_⟩:=Ex.slice r1;obtain⟨y2,q2,rfl,_⟩:=St.slice r2;obtain⟨y3,q3,rfl,_⟩:=St.slice r3;have hE:=fun w' (lw:Later wr w')=>MN l[j] _ _ _ _ K s q d w0 w' (St.nX l j hlt hg) r0 r1 r2 r3 (hLr.trans lw) hK (hSr.later lw) hq0 hq1 hd0 hd1 (fun v' l' p' d' w' g' h' s' L' S' a b c e=>IH (St.szs l') (by have:=St.dW l j hlt;omega) v' l' K s p' d' w0 w' (Nat.le_refl _) g' h' L' hK S' a b c e)
   have HN:Hid (∀ l',St.run s d (400 - q) l[j]=some l'->St.dL s d (400 - p) l (j+1) l'/\0<=l'/\l'<400 - q):=fun l' hr=>⟨St.kN HS.out hlt hr,St.kR s _ _ _ _ hr⟩
   have HB:Hid (St.run s d (400 - q) l[j]=none->St.runs s d (400 - p) l=none):=fun hr=>St.mZ HS.out hlt hr;clear r0 r1 r2 r3 h HS
   generalize St.run s d (400 - q) l[j]=R at *
   generalize l[j].kind=z_kind at *
   generalize l[j].n=z_n at *
   generalize l[j].tk=z_tk at *
   generalize l[j].tn=z_tn at *
   go_wp2_with fail
   refine (hE _ (ae _ _)).mono ?_;rintro e w1 ⟨o1,hm⟩;have o:=oR.trans ((af.of_later (ae _ _)).trans o1)
   cases R with
   | none =>
    obtain⟨rfl,p',hS1⟩:=hm;have hb:Hid (St.runs s d (400 - p) l=none):=HB.out rfl;go_wp2_with fail
    go_ret;exact SvP.no o hb.out rfl hS1
   | some l' =>
    obtain⟨rfl,hS1⟩:=hm;obtain⟨n1,n2,n3⟩:=HN.out l' rfl;have HN1:Hid (St.dL s d (400 - p) l (j+1) (400 - (400 - l'))):=by rw[show (400:Int) - (400 - l')=l' by omega];exact n1
    clear n1 HN HB hE;go_wp2_with fail
    go_roundw
    case rel=>exact⟨j+1,400 - l',by go_num,by omega,o,hS1,by omega,by omega,HN1⟩
    case measure=>simp[intOf];omega
  ·have i1:¬ (j:Int)<(l.length:Int):=by omega
   have i2:decide ((j:Int)<(l.length:Int))=false:=decide_eq_false i1;have hjj:j=l.length:=by omega
   subst hjj;have HD:Hid (St.runs s d (400 - p) l=some (400 - q)):=St.kP HS.out;clear h HS;go_wp2_with fail
   go_ret;exact SvP.yes oR HD.out rfl hSr (by omega)
theorem IB (v:Value) (l:List St) (K:Nat) (s p d:Int) (w0 w:World) (hg:St.aZ l) (h:RdL w0 8 v (St.ah l)) (hL:Later w0 w) (hK:w0.heap.size<=K) (hS:Sv K w s p) (hp0:0<=p) (hp1:p<=400) (hd0:0<=d) (hd1:d<=31) :
  Calls Tryz.prog 108 #[.pointer (some ⟨K,0,none⟩),v,.int .i64 d] w fun e w'=>SvP K s w (St.runs s d (400 - p) l) e w':=IC _ v l K s p d w0 w (Nat.le_refl _) hg h hL hK hS hp0 hp1 hd0 hd1
def yS (s:Int) (x:Pa):Bool:=aQ x.name&&tyB x.tk x.tn s false
def gV (most s:Int) (l:List Pa):Bool:=decide ((l.length:Int)<=most)&&l.all (yS s)
theorem Vw {α:Type}{l:List α}{f:α->Bool}{j:Nat}(h:j<l.length) (hf:f l[j]=false):l.all f=false:=by
 rw[<-Bool.not_eq_true,List.all_eq_true];intro ha;rw[ha _ (List.getElem_mem h)]at hf
 cases hf
theorem TI {α:Type}{l:List α}{f:α->Bool}(h:∀ j (hj:j<l.length),f l[j]=true):l.all f=true:=by
 rw[List.all_eq_true];intro x hx;obtain⟨j,hj,rfl⟩:=List.mem_iff_getElem.1 hx;exact h j hj
theorem rJ (v:Value) (l:List Pa) (most s:Int) (w:World) (h:RdL w 3 v (Pa.ah l)):Calls Tryz.prog 55 #[v,.int .i64 most,.int .i64 s] w fun e w'=>e=.returned (.bool (gV most s l))/\Later w w':=by
 obtain⟨a,cap,rfl,hl⟩:=Pa.slice h;unfold gV;by_cases hm:(l.length:Int)<=most
 ·rw[decide_eq_true hm,Bool.true_and];have hm':¬ most<(l.length:Int):=by omega
  go_enter Tryz.func55,Tryz.ntmps55;go_wp2_with fail
  go_loopw [15] (fun i wr=>∃ (j:Nat),i=.int .i64 (j:Int)/\j<=l.length/\Later w wr/\Hid (∀ i (hi:i<l.length),i<j->yS s l[i]=true)) (fun i _=>l.length - (intOf i).toNat)
  case atStart=>exact⟨0,rfl,Nat.zero_le _,Later.refl _,fun i _ hj=>absurd hj (Nat.not_lt_zero _)⟩
  case round =>
   obtain⟨j,rfl,hj,lr,HA⟩:=hrel;by_cases hlt:j<l.length
   ·obtain⟨g,off,v0,rfl,hgs,c0,c1,c2,r0⟩:=Pa.elem (RdL.later lr h) j hlt;have i1:(j:Int)<(l.length:Int):=by omega
    have hN:=fun w' (ll:Later wr w')=>nU v0 l[j].name w' (r0.later ll);have hT:=fun w'=>zy l[j].tk l[j].tn s w';obtain⟨y0,q0,rfl,_⟩:=r0.slice;have HB:Hid (yS s l[j]=false->l.all (yS s)=false):=fun hf=>Vw hlt hf
    have HG:Hid (yS s l[j]=true->∀ i (hi:i<l.length),i<j+1->yS s l[i]=true):=fun hf i hi hij=>by
     rcases Nat.lt_or_ge i j with a|a
     ·exact HA.out i hi a
     ·have:i=j:=by omega
      subst this;exact hf
    have HQ:Hid (yS s l[j]=(aQ l[j].name&&tyB l[j].tk l[j].tn s false)):=rfl;clear r0 HA h
    generalize yS s l[j]=ok at *
    generalize aQ l[j].name=nb at *
    generalize tyB l[j].tk l[j].tn s false=tb at *
    generalize l[j].tk=z_tk at *
    generalize l[j].tn=z_tn at *
    cases nb
    ·have hb:=HB.out HQ.out;have HB':Hid (l.all (yS s)=false):=hb;clear hb HG HB hT;go_wp2_with (go_at_call 54;refine (hN _ (ae _ _)).mono ?_;rintro e w1 ⟨rfl,hww⟩;obtain rfl:=hww.symm)
     go_ret;exact⟨dh HB'.out.symm,lr.alloc _⟩
    ·cases tb
     ·have hb:=HB.out HQ.out;have HB':Hid (l.all (yS s)=false):=hb;clear hb HG HB;go_wp2_with (first|(go_at_call 54;refine (hN _ (ae _ _)).mono ?_;rintro e w1 ⟨rfl,hww⟩;obtain rfl:=hww.symm)|(go_at_call 84;refine (hT _).mono ?_;rintro e w1 ⟨rfl,l1⟩))
      go_ret;exact⟨dh HB'.out.symm,(lr.alloc _).trans l1⟩
     ·have hb:=HG.out HQ.out;have HG':Hid _:=hb;clear hb HG HB;go_wp2_with (first|(go_at_call 54;refine (hN _ (ae _ _)).mono ?_;rintro e w1 ⟨rfl,hww⟩;obtain rfl:=hww.symm)|(go_at_call 84;refine (hT _).mono ?_;rintro e w1 ⟨rfl,l1⟩))
      go_roundw
      case rel=>exact⟨j+1,by go_num,by omega,(lr.alloc _).trans l1,HG'⟩
      case measure=>simp[intOf];omega
   ·have i1:¬ (j:Int)<(l.length:Int):=by omega
    have i2:decide ((j:Int)<(l.length:Int))=false:=decide_eq_false i1;have HY:Hid (l.all (yS s)=true):=TI fun i hi=>HA.out i hi (by omega);clear HA h;go_wp2_with fail
    go_ret;exact⟨dh HY.out.symm,lr⟩
 ·rw[decide_eq_false hm,Bool.false_and];have hm':most<(l.length:Int):=by omega
  go_enter Tryz.func55,Tryz.ntmps55;go_wp2_with fail
  go_ret;exact⟨rfl,Later.refl _⟩
theorem yj (v u:Value) (xs ys:List Int) (w:World) (h:RdB w v xs) (k:RdB w u ys):Calls Tryz.prog 62 #[v,u] w fun e w'=>e=.returned (.bool (decide (xs=ys)))/\w'=w:=by
 have hc:=eH h;have kc:=eH k;have hs:=lQ h.isB k.isB;obtain⟨a,cap,rfl,_⟩:=h.slice;obtain⟨b,cap',rfl,_⟩:=k.slice;clear h k;go_enter Tryz.func62,Tryz.ntmps62;go_wp2_with fail
 go_ret;exact⟨rfl,rfl⟩
def BD (l:List Sc) (nm:List Int):Bool:=l.any fun x=>x.name==nm
theorem TG {l:List Sc}{nm:List Int}{j:Nat}(h:j<l.length) (e:l[j].name=nm):BD l nm=true:=by
 unfold BD;rw[List.any_eq_true];exact⟨_,List.getElem_mem h,by rw[e];exact beq_self_eq_true _⟩
theorem Vu {l:List Sc}{nm:List Int}(h:∀ j (hj:j<l.length),l[j].name≠nm):BD l nm=false:=by
 unfold BD;rw[<-Bool.not_eq_true,List.any_eq_true];rintro ⟨x,hx,e⟩;obtain⟨j,hj,rfl⟩:=List.mem_iff_getElem.1 hx;exact h j hj (by simpa using e)
theorem IU (v u:Value) (l:List Sc) (nm:List Int) (w:World) (h:RdL w 2 v (Sc.ah l)) (k:RdB w u nm):Calls Tryz.prog 73 #[v,u] w fun e w'=>(∃ n,e=.returned (.int .i64 n)/\decide (0<=n)=BD l nm)/\Later w w':=by
 obtain⟨a,cap,rfl,hl⟩:=Sc.slice h;obtain⟨b,cap',rfl,_⟩:=k.slice;refine Calls.mono (R:=fun e w'=>Hid ((∃ n,e=.returned (.int .i64 n)/\decide (0<=n)=BD l nm)/\Later w w')) ?_ (fun _ _ h=>h.out);go_enter Tryz.func73,Tryz.ntmps73;go_wp2_with fail
 go_loopw [9] (fun i wr=>∃ (j:Nat),i=.int .i64 (j:Int)/\j<=l.length/\Later w wr/\Hid (∀ i (hi:i<l.length),i<j->l[i].name≠nm)) (fun i _=>l.length - (intOf i).toNat)
 case atStart=>exact⟨0,rfl,Nat.zero_le _,Later.refl _,fun i _ hj=>absurd hj (Nat.not_lt_zero _)⟩
 case round =>
  obtain⟨j,rfl,hj,lr,HA⟩:=hrel;by_cases hlt:j<l.length
  ·obtain⟨g,off,v0,v1,rfl,hgs,c0,c1,r0,r1⟩:=Sc.elem (RdL.later lr h) j hlt;have i1:(j:Int)<(l.length:Int):=by omega
   have hE:=fun w' (ll:Later wr w')=>yj v0 _ l[j].name nm w' (r0.later ll).rd (k.later (lr.trans ll));obtain⟨y0,q0,rfl,_⟩:=r0.slice;obtain⟨y1,q1,rfl,_⟩:=Pa.slice r1;by_cases q:l[j].name=nm
   ·have HY:Hid (BD l nm=true):=TG hlt q;rw[decide_eq_true q]at hE;clear r0 r1 HA h k q;go_wp2_with (go_at_call 62;refine (hE _ (ae _ _)).mono ?_;rintro e w1 ⟨rfl,hww⟩;obtain rfl:=hww.symm)
    go_ret;exact⟨⟨_,rfl,by rw[HY.out];exact decide_eq_true (by omega)⟩,lr.alloc _⟩
   ·have HN:Hid (∀ i (hi:i<l.length),i<j+1->l[i].name≠nm):=fun i hi hij=>by
     rcases Nat.lt_or_ge i j with a|a
     ·exact HA.out i hi a
     ·have:i=j:=by omega
      subst this;exact q
    rw[decide_eq_false q]at hE;clear r0 r1 HA h k q;go_wp2_with (go_at_call 62;refine (hE _ (ae _ _)).mono ?_;rintro e w1 ⟨rfl,hww⟩;obtain rfl:=hww.symm)
    go_roundw
    case rel=>exact⟨j+1,by go_num,by omega,lr.alloc _,HN⟩
    case measure=>simp[intOf];omega
  ·have i1:¬ (j:Int)<(l.length:Int):=by omega
   have i2:decide ((j:Int)<(l.length:Int))=false:=decide_eq_false i1;have HN:Hid (BD l nm=false):=Vu fun i hi=>HA.out i hi (by omega);clear HA h k;go_wp2_with fail
   go_ret;exact⟨⟨_,rfl,by rw[HN.out];rfl⟩,lr⟩
def TP (S:List Sc) (nm:List Int) (t:TyP) (g o:Nat) (w:World) (e:Ending) (w':World):Prop:=∃ a b ok,e=.returned (.tuple #[.agg #[.int .i64 a,.int .i64 b],.bool ok])/\OnlyC g (o+1) [] w w'/\(ok=false->oV S nm t=none)/\(ok=true->∃ m,oV S nm t=some (m,a,b)/\w'.cell? ⟨g,o+1,none⟩=some (.int .i64 m))
theorem Qg {S:List Sc}{nm:List Int}{t:TyP}(h:t.1≠3):oV S nm t=none:=by unfold oV;rw[if_neg h]
theorem OnlyC.cO {g o:Nat}{F:List Nat}{a w:World}(h:OnlyC g o F a w) {b:Nat}(hb:a.heap.size<=b) (hg:g<a.heap.size) (x:Nat) (u:Value):OnlyC g o F a (w.setCell ⟨b,x,none⟩ u) :=
 ⟨h.os,h.tape,h.output,by rw[World.size_setCell];exact h.size,fun k hk hn hgn=>by rw[hset (by omega)];exact h.block k hk hn hgn,fun y hy=>by rw[(aj (hset (by omega))).1];exact h.cells y hy,fun y=>by rw[(aj (hset (by omega))).2];exact h.Jf y⟩
theorem OnlyC.put {g o:Nat}{F:List Nat}{a w:World}(h:OnlyC g o F a w) (u:Value):OnlyC g o F a (w.setCell ⟨g,o,none⟩ u) :=
 ⟨h.os,h.tape,h.output,by rw[World.size_setCell];exact h.size,fun k hk hn hgn=>by rw[hset hgn];exact h.block k hk hn hgn,fun y hy=>by rw[World.cell?_setCell_other w _ _ _ (by simp <;> omega)];exact h.cells y hy,fun y=>by rw[World.frozen?_setCell];exact h.Jf y⟩
theorem IY (X:List Nat) (w:World) (K:Nat) (v0 v1:Value) (S:List Sc) (Fs:List Fu) (res:TyP) (ts:List TyP) (hT:Tg X w K v0 v1 S Fs res ts) (g o:Nat) (n:Int) (u0 u1:Value) (nm:List Int) (ks:List Ex)
  (hgl:g<w.heap.size) (c1:w.cell? ⟨g,o+1,none⟩=some (.int .i64 n)) (f1:w.frozen? ⟨g,o+1,none⟩=false) (c4:w.cell? ⟨g,o+4,none⟩=some u0) (c5:w.cell? ⟨g,o+5,none⟩=some u1) (hn:RdN w u0 nm) (hk:RdL w 6 u1 (Ex.ah ks))
  (hv:(kTy ks 0).1=3->0<=(kTy ks 0).2/\(kTy ks 0).2.toNat<S.length) :
  Calls Tryz.prog 143 #[.pointer (some ⟨K,0,none⟩),.agg #[.pointer (some ⟨g,o,none⟩)]] w (TP S nm (kTy ks 0) g o w):=by
 have hb:=dQ;obtain⟨hH,hty⟩:=hT.now;obtain⟨vs,hbx,_⟩:=hT.box;have hs:=hH.st;obtain⟨sa,sc,rfl,_⟩:=Sc.slice hs;obtain⟨na,nc,rfl,_⟩:=hn.slice;have k0:=(hbx.cell 0 _ rfl).1;have kl:=hbx.lt;clear hT hH hbx hty
 have HFl:Hid (∀ w',Later w w'->∀ a b,oV S nm (kTy ks 0)=none->TP S nm (kTy ks 0) g o w (.returned (.tuple #[.agg #[.int .i64 a,.int .i64 b],.bool false])) w'):=fun w' l a b h=>⟨a,b,false,rfl,OnlyC.iw (ay.of_later l) (by simp) hgl,fun _=>h,fun h=>by cases h⟩
 have HTr:Hid (∀ w' m a b,OnlyC g (o+1) [] w w'->oV S nm (kTy ks 0)=some (m,a,b)->w'.cell? ⟨g,o+1,none⟩=some (.int .i64 m)->TP S nm (kTy ks 0) g o w (.returned (.tuple #[.agg #[.int .i64 a,.int .i64 b],.bool true])) w'):=fun w' m a b l h hc=>⟨a,b,true,rfl,l,fun h=>(by cases h),fun _=>⟨m,h,hc⟩⟩
 generalize hQ:TP S nm (kTy ks 0) g o w=Q at *
 clear hQ;obtain⟨w1,hw1⟩:=hidx ((w.alloc (.cells #[.pointer (some ⟨g,o,none⟩)] 204)).alloc (.cells #[.int .i64 0,.int .i64 0] 52));have L1:Later w w1:=by rw[hw1.out];exact bF _ _ _
 have hbA:Bxx w1 w.heap.size [.pointer (some ⟨g,o,none⟩)]:=by rw[hw1.out];exact (Bxx.new _ _ _).later (ae _ _)
 have hbB:Bxx w1 (w.heap.size+1) [.int .i64 0,.int .i64 0]:=by rw[hw1.out];have:=Bxx.new (w.alloc (.cells #[.pointer (some ⟨g,o,none⟩)] 204)) #[.int .i64 0,.int .i64 0] 52;simpa using this
 have hK1:=iQ 204 (.agg #[.pointer (some ⟨g,o,none⟩)]) g o 0 ks u1 w1 ⟨fun w=>jG _ w,fun w=>iW _ w⟩ (by rw[Below.cell L1 (p:=⟨g,o+5,none⟩) hgl];exact c5) (RdL.later L1 hk) (by decide);clear hk c5
 generalize kTy ks 0=kt at *
 obtain⟨t1,t2⟩:=kt;dsimp only at hv hK1 HFl HTr;go_enter Tryz.func143,Tryz.ntmps143;go_wp2_with fail
 rw[<-hw1.out];refine hK1.mono ?_;rintro e w2 ⟨rfl,l2⟩;clear hK1;obtain⟨w3,hw3⟩:=hidx (w2.alloc (.cells #[.int .i64 t1,.int .i64 t2] 52));have l3:Later w2 w3:=by rw[hw3.out];exact ae _ _
 have L3:Later w w3:=(L1.trans l2).trans l3;have hbC:Bxx w3 w2.heap.size [.int .i64 t1,.int .i64 t2]:=by rw[hw3.out];exact Bxx.new _ _ _
 have hbA3:=hbA.later (l2.trans l3);have hbB3:=hbB.later (l2.trans l3);have hs2:w.heap.size+1<w2.heap.size:=Nat.lt_of_lt_of_le hbB.lt l2.size;have p0:=(hbA3.cell 0 _ rfl).1;have pl:=hbA3.lt;have q0:=(hbC.cell 0 _ rfl).1;have q1:=(hbC.cell 1 _ rfl).1;have ql:=hbC.lt;obtain⟨r0,s0⟩:=hbB3.cell 0 _ rfl;obtain⟨r1,s1⟩:=hbB3.cell 1 _ rfl;have rl:=hbB3.lt;obtain⟨rr0',ss0⟩:=(hbB.later l2).cell 0 _ rfl;obtain⟨rr1',ss1⟩:=(hbB.later l2).cell 1 _ rfl;by_cases h3:t1=3
 ·subst h3;obtain⟨hm0,hm⟩:=hv rfl
  obtain⟨M,rfl⟩:∃ M:Nat,t2=(M:Int):=⟨t2.toNat,by omega⟩
  simp only[Int.toNat_natCast]at hm;obtain⟨gs,os,m0,m1,rfl,hgs,d0,d1,rr0,rr1⟩:=Sc.elem hs M hm;have i0:(0:Int)<=(M:Int):=by omega
  have i1:(M:Int)<(S.length:Int):=by omega
  have e1:w3.cell? ⟨gs,os+M*2+1,none⟩=some m1:=by rw[Below.cell L3 (p:=⟨gs,os+M*2+1,none⟩) hgs];exact d1
  have k3:w3.cell? ⟨K,0,none⟩=some (.slice (some ⟨gs,os,none⟩) S.length sc):=by rw[Below.cell L3 (p:=⟨K,0,none⟩) kl];exact k0
  have gs3:gs<w3.heap.size:=Nat.lt_of_lt_of_le hgs L3.size;have kl3:K<w3.heap.size:=Nat.lt_of_lt_of_le kl L3.size
  have HY:Hid (∀ (j:Nat) (hj:j<S[M].fields.length),S[M].fields[j].name=nm->(∀ i (hi:i<S[M].fields.length),i<j->S[M].fields[i].name≠nm)->oV S nm (3,(M:Int))=some ((j:Int),S[M].fields[j].tk,S[M].fields[j].tn)):=fun j hj he hb=>by
   have:=Qe (S:=S) (nm:=nm) (m:=(M:Int)) (j:=j) (by simpa using hm) (by simpa using hj) (by simpa using he) (by simpa using hb);simpa using this
  have HN:Hid ((∀ i (hi:i<S[M].fields.length),S[M].fields[i].name≠nm)->oV S nm (3,(M:Int))=none):=fun hb=>Td (S:=S) (nm:=nm) (m:=(M:Int)) (by simpa using hm) (by simpa using hb);obtain⟨fa,fc,rfl,hfl⟩:=Pa.slice rr1
  generalize hFl:S[M].fields=fl at *
  clear hFl d0 d1 rr0 hs hv hm hm0 k0;go_wp2_with fail
  rw[<-hw3.out];go_quiet (fail)
  go_wp2_with fail
  generalize hwq:w3.drewN _=w4 at *
  have l4:Later w3 w4:=by rw[<-hwq];exact bg (Later.refl _) _
  clear hwq;have L4:=L3.trans l4;have hbA4:=hbA3.later l4;have hbB4:=hbB3.later l4;clear k3 e1 q0 q1 p0 r0 r1 s0 s1 hbC;go_loopw [27] (fun i wr=>∃ (j:Nat),i=.int .i64 (j:Int)/\j<=fl.length/\Later w4 wr/\Hid (∀ i (hi:i<fl.length),i<j->fl[i].name≠nm)) (fun i _=>fl.length - (intOf i).toNat)
  case atStart=>exact⟨0,rfl,Nat.zero_le _,Later.refl _,fun i _ hj=>absurd hj (Nat.not_lt_zero _)⟩
  case round =>
   obtain⟨j,rfl,hj,lr,HJ⟩:=hrel;have Lr:=L4.trans lr;have hbAr:=hbA4.later lr;have hbBr:=hbB4.later lr;have p0:=(hbAr.cell 0 _ rfl).1;have pl':=hbAr.lt;obtain⟨r0,s0⟩:=hbBr.cell 0 _ rfl;obtain⟨r1,s1⟩:=hbBr.cell 1 _ rfl;have rl':=hbBr.lt;by_cases hlt:j<fl.length
   ·obtain⟨gp,op,e0,rfl,hgp,y0,y1,y2,rn⟩:=Pa.elem (RdL.later Lr rr1) j hlt;have j1:(j:Int)<(fl.length:Int):=by omega
    have hE:=fun w' (l:Later wr w')=>yj e0 (.slice na nm.length nc) fl[j].name nm w' (rn.later l).rd (hn.later (Lr.trans l)).rd;obtain⟨z0,z1,rfl,_⟩:=rn.slice;obtain⟨w5,hw5⟩:=hidx (wr.alloc (.cells #[.slice z0 fl[j].name.length z1,.int .i64 fl[j].tk,.int .i64 fl[j].tn] 75));have l5:Later wr w5:=by rw[hw5.out];exact ae _ _
    have L5:=Lr.trans l5;have hb5:Bxx w5 wr.heap.size [.slice z0 fl[j].name.length z1,.int .i64 fl[j].tk,.int .i64 fl[j].tn]:=by rw[hw5.out];exact Bxx.new _ _ _
    have t0:=(hb5.cell 0 _ rfl).1;have t1:=(hb5.cell 1 _ rfl).1;have t2:=(hb5.cell 2 _ rfl).1;have tl:=hb5.lt;have p5:=((hbAr.later l5).cell 0 _ rfl).1;have pl5:=(hbAr.later l5).lt;have n5:w5.cell? ⟨g,o+4,none⟩=some (.slice na nm.length nc):=by rw[Below.cell L5 (p:=⟨g,o+4,none⟩) hgl];exact c4
    have g5:g<w5.heap.size:=Nat.lt_of_lt_of_le hgl L5.size
    have HNx:Hid (fl[j].name≠nm->∀ i (hi:i<fl.length),i<j+1->fl[i].name≠nm):=fun hne i hi hij=>by
     rcases Nat.lt_or_ge i j with q|q
     ·exact HJ.out i hi q
     ·have:i=j:=by omega
      subst this;exact hne
    have HYj:Hid (fl[j].name=nm->oV S nm (3,(M:Int))=some ((j:Int),fl[j].tk,fl[j].tn)):=fun he=>HY.out j hlt he HJ.out;clear HJ rn hn rr1;go_wp2_with fail
    rw[<-hw5.out];clear y0 y1 y2;by_cases he:fl[j].name=nm
    ·have hE5:=fun w' (l:Later wr w')=>hE w' l;rw[decide_eq_true he]at hE5;have HZ:=HYj.out he;clear HYj HNx hE HFl HN HY he;go_quiet ((go_at_call 62;exact Calls.quiet_of_same (hE5 _ (l5.trans (bg (Later.refl _) _)))))
     generalize hwq:w5.drewN _=w6 at *
     have l6:Later w5 w6:=by rw[<-hwq];exact bg (Later.refl _) _
     clear hwq hE5;have L6:=L5.trans l6;obtain⟨r0',s0'⟩:=(hbBr.later (l5.trans l6)).cell 0 _ rfl;obtain⟨r1',s1'⟩:=(hbBr.later (l5.trans l6)).cell 1 _ rfl;have rl6:=(hbBr.later (l5.trans l6)).lt;have t1':=((hb5.later l6).cell 1 _ rfl).1;have t2':=((hb5.later l6).cell 2 _ rfl).1;have tl':=(hb5.later l6).lt;have p6:=((hbAr.later (l5.trans l6)).cell 0 _ rfl).1;have pl6:=(hbAr.later (l5.trans l6)).lt;have c1':w6.cell? ⟨g,o+1,none⟩=some (.int .i64 n):=by rw[Below.cell L6 (p:=⟨g,o+1,none⟩) hgl];exact c1
     have f1':w6.frozen? ⟨g,o+1,none⟩=false:=by rw[(aj (L6.block g hgl)).2];exact f1
     have g6:g<w6.heap.size:=Nat.lt_of_lt_of_le hgl L6.size;have h1:g≠wr.heap.size:=by omega
     have h2:g≠w.heap.size+1:=by omega
     have h3:g≠w.heap.size:=by omega
     have h4:wr.heap.size≠w.heap.size+1:=by omega
     have HW:=HTr.out (((w6.setCell ⟨g,o+1,none⟩ (.int .i64 (j:Int))).setCell ⟨w.heap.size+1,0,none⟩ (.int .i64 fl[j].tk)).setCell ⟨w.heap.size+1,1,none⟩ (.int .i64 fl[j].tn)) (j:Int) fl[j].tk fl[j].tn (OnlyC.cO (OnlyC.cO (OnlyC.put (OnlyC.iw (ay.of_later L6) (by simp) hgl) _) (by omega) hgl 0 _) (by omega) hgl 1 _) HZ (by rw[World.cell?_setCell_other _ _ _ _ (by simp <;> omega),World.cell?_setCell_other _ _ _ _ (by simp <;> omega)];exact jo c1');clear HTr HZ hb5 hbAr hbBr hbA4 hbB4 t0 t1 t2 p5 n5 p0 r0 r1 s0 s1;go_wp2_with fail
     exact bodyPost_ret (v:=.tuple #[.agg #[.int .i64 fl[j].tk,.int .i64 fl[j].tn],.bool true]) (by simp[results,Tryz.results143,go_sem,World.cell?_setCell_same',r0',r1']) rfl HW
    ·have hE5:=fun w' (l:Later wr w')=>hE w' l;rw[decide_eq_false he]at hE5;have HZ:Hid _:=HNx.out he;clear HYj HNx hE HFl HTr HN HY he;go_quiet ((go_at_call 62;exact Calls.quiet_of_same (hE5 _ (l5.trans (bg (Later.refl _) _)))))
     go_wp2_with fail
     go_roundw
     case rel=>exact⟨j+1,by go_num,by omega,(lr.trans l5).trans (bg (Later.refl _) _),HZ⟩
     case measure=>simp[intOf];omega
   ·have j1:¬ (j:Int)<(fl.length:Int):=by omega
    have j2:decide ((j:Int)<(fl.length:Int))=false:=decide_eq_false j1;have HZ:=HFl.out ((wr.setCell ⟨w.heap.size+1,0,none⟩ (.int .i64 0)).setCell ⟨w.heap.size+1,1,none⟩ (.int .i64 0)) (Later.setAt (Later.setAt Lr (by omega) 0 _) (by omega) 1 _) 0 0 (HN.out fun i hi=>HJ.out i hi (by omega));clear HJ HFl HTr HY HN hn rr1;go_wp2_with fail
    exact bodyPost_ret (v:=.tuple #[.agg #[.int .i64 0,.int .i64 0],.bool false]) (by simp[results,Tryz.results143,go_sem,World.cell?_setCell_same',r0,r1]) rfl HZ
 ·have n3:=neb h3;have HZ:=HFl.out (((w2.setCell ⟨w.heap.size+1,0,none⟩ (.int .i64 0)).setCell ⟨w.heap.size+1,1,none⟩ (.int .i64 0)).alloc (.cells #[.int .i64 t1,.int .i64 t2] 52)) ((Later.setAt (Later.setAt (L1.trans l2) (by omega) 0 _) (by omega) 1 _).alloc _) 0 0 (Qg h3);have hs3:w.heap.size+1<w2.heap.size:=hs2;clear HFl HTr hn hs hv r0 r1 s0 s1 q0 q1 p0;go_wp2_with fail
  exact bodyPost_ret (v:=.tuple #[.agg #[.int .i64 0,.int .i64 0],.bool false]) (by simp[results,Tryz.results143,go_sem,World.cell?_setCell_same',rr0',rr1',hs3]) rfl HZ
def bZ (S:List Sc) (Fs:List Fu) (ts:List TyP) (k n tk tn:Int) (nm:List Int) (ks:List Ex):Option (Int × Int × Int) :=
 if k=0\/k=11 then some (n,1,0) else if k=1 then some (n,2,0) else if k=2\/k=4 then some (n,3,n)
 else if k=3 then (ts[n.toNat]?).map fun t=>(n,t.1,t.2)
 else if k=5 then (if kTy ks 0=(1,0) then some (n,tk,tn) else none)
 else if k=6 then (match Fs[n.toNat]? with|none=>none|some f=>if gK f.params ks then some (n,f.rk,f.rn) else none)
 else if k=7 then oV S nm (kTy ks 0)
 else if k=8 then (match lH (kTy ks 0) with|none=>none|some t=>if kTy ks 1=(1,0) then some (n,t.1,t.2) else none)
 else if k=9 then (match lH (kTy ks 0) with|none=>none|some _=>some (n,1,0))
 else if k=10 then (rW n (kTy ks 0) (kTy ks 1)).map fun t=>(n,t.1,t.2)
 else if k=12 then (if kTy ks 0=(2,0) then some (n,1,0) else none)
 else if k=13 then (if kTy ks 0=(1,0) then some (n,2,0) else none)
 else none
structure XIn (X:List Nat) (w:World) (K:Nat) (v0 v1:Value) (S:List Sc) (Fs:List Fu) (res:TyP) (ts:List TyP) (g o:Nat) (k n tk tn:Int) (u0 u1:Value) (nm:List Int) (ks:List Ex):Prop where
 tg:Tg X w K v0 v1 S Fs res ts
 lt:g<w.heap.size
 cells:∀ m u,[.int .i64 k,.int .i64 n,.int .i64 tk,.int .i64 tn,u0,u1][m]?=some u->w.cell? ⟨g,o+m,none⟩=some u/\w.frozen? ⟨g,o+m,none⟩=false
 nm:RdN w u0 nm
 kids:RdL w 6 u1 (Ex.ah ks)
theorem XIn.later {X:List Nat}{w w':World}{K:Nat}{v0 v1:Value}{S:List Sc}{Fs:List Fu}{res:TyP}{ts:List TyP}{g o:Nat}{k n tk tn:Int}{u0 u1:Value}{nm:List Int}{ks:List Ex}(h:XIn X w K v0 v1 S Fs res ts g o k n tk tn u0 u1 nm ks) (l:Later w w'):XIn X w' K v0 v1 S Fs res ts g o k n tk tn u0 u1 nm ks :=
 ⟨h.tg.later l,Nat.lt_of_lt_of_le h.lt l.size,fun m u hm=>by rw[(aj (l.block g h.lt)).1,(aj (l.block g h.lt)).2];exact h.cells m u hm,h.nm.later l,RdL.later l h.kids⟩
def fQ (T:Option (Int × Int × Int)) (g o:Nat) (w:World) (e:Ending) (w':World):Prop:=∃ a b ok,e=.returned (.tuple #[.agg #[.int .i64 a,.int .i64 b],.bool ok])/\OnlyC g (o+1) [] w w'/\(ok=false->T=none)/\(ok=true->∃ m,T=some (m,a,b)/\w'.cell? ⟨g,o+1,none⟩=some (.int .i64 m))
theorem fQ.same {T:Option (Int × Int × Int)}{g o:Nat}{w W:World}{n a b:Int}{ok:Bool}(hl:g<w.heap.size) (hc:w.cell? ⟨g,o+1,none⟩=some (.int .i64 n)) (l:Later w W) (h:T=if ok then some (n,a,b) else none):fQ T g o w (.returned (.tuple #[.agg #[.int .i64 a,.int .i64 b],.bool ok])) W :=
 ⟨a,b,ok,rfl,OnlyC.iw (ay.of_later l) (by simp) hl,fun e=>by rw[h,e];rfl,fun e=>⟨n,by rw[h,e];rfl,by rw[(aj (l.block g hl)).1];exact hc⟩⟩
def NoZ (T X:TypeId) (z:Value):Prop:=∀ (v:Value) (w:World),(Instr.typeAssert (.iface T v) 105 X true).run Tryz.prog w=.ok (.tuple #[z,.bool false]) w
def sF (T:TypeId):Prop:=∀ (v:Value) (w:World),(Instr.typeAssert (.iface T v) 105 T true).run Tryz.prog w=.ok (.tuple #[v,.bool true]) w
theorem Ez:sF 202:=fun v w=>by kernel_rfl
theorem mV:NoZ 208 202 (.agg #[.pointer none,.int .i64 0,.int .i64 0]):=fun v w=>by kernel_rfl
theorem BH:sF 208:=fun v w=>by kernel_rfl
theorem tC:NoZ 146 202 (.agg #[.pointer none,.int .i64 0,.int .i64 0]):=fun v w=>by kernel_rfl
theorem qc:NoZ 146 208 (.agg #[.pointer none,.int .i64 0,.int .i64 0,.int .i64 0,.int .i64 0]):=fun v w=>by kernel_rfl
theorem KF:sF 146:=fun v w=>by kernel_rfl
theorem qI:NoZ 203 202 (.agg #[.pointer none,.int .i64 0,.int .i64 0]):=fun v w=>by kernel_rfl
theorem oD:NoZ 203 208 (.agg #[.pointer none,.int .i64 0,.int .i64 0,.int .i64 0,.int .i64 0]):=fun v w=>by kernel_rfl
theorem uK:NoZ 203 146 (.agg #[.pointer none]):=fun v w=>by kernel_rfl
theorem Ha:sF 203:=fun v w=>by kernel_rfl
theorem qN:NoZ 149 202 (.agg #[.pointer none,.int .i64 0,.int .i64 0]):=fun v w=>by kernel_rfl
theorem oG:NoZ 149 208 (.agg #[.pointer none,.int .i64 0,.int .i64 0,.int .i64 0,.int .i64 0]):=fun v w=>by kernel_rfl
theorem uS:NoZ 149 146 (.agg #[.pointer none]):=fun v w=>by kernel_rfl
theorem uj:NoZ 149 203 (.agg #[.pointer none]):=fun v w=>by kernel_rfl
theorem He:sF 149:=fun v w=>by kernel_rfl
theorem qj:NoZ 204 202 (.agg #[.pointer none,.int .i64 0,.int .i64 0]):=fun v w=>by kernel_rfl
theorem mQ:NoZ 204 208 (.agg #[.pointer none,.int .i64 0,.int .i64 0,.int .i64 0,.int .i64 0]):=fun v w=>by kernel_rfl
theorem uh:NoZ 204 146 (.agg #[.pointer none]):=fun v w=>by kernel_rfl
theorem qL:NoZ 204 203 (.agg #[.pointer none]):=fun v w=>by kernel_rfl
theorem qM:NoZ 204 149 (.agg #[.pointer none]):=fun v w=>by kernel_rfl
theorem EE:sF 204:=fun v w=>by kernel_rfl
theorem qh:NoZ 205 202 (.agg #[.pointer none,.int .i64 0,.int .i64 0]):=fun v w=>by kernel_rfl
theorem mP:NoZ 205 208 (.agg #[.pointer none,.int .i64 0,.int .i64 0,.int .i64 0,.int .i64 0]):=fun v w=>by kernel_rfl
theorem uf:NoZ 205 146 (.agg #[.pointer none]):=fun v w=>by kernel_rfl
theorem qJ:NoZ 205 203 (.agg #[.pointer none]):=fun v w=>by kernel_rfl
theorem qK:NoZ 205 149 (.agg #[.pointer none]):=fun v w=>by kernel_rfl
theorem qi:NoZ 205 204 (.agg #[.pointer none]):=fun v w=>by kernel_rfl
theorem ED:sF 205:=fun v w=>by kernel_rfl
theorem tX:NoZ 206 202 (.agg #[.pointer none,.int .i64 0,.int .i64 0]):=fun v w=>by kernel_rfl
theorem qg:NoZ 206 208 (.agg #[.pointer none,.int .i64 0,.int .i64 0,.int .i64 0,.int .i64 0]):=fun v w=>by kernel_rfl
theorem vO:NoZ 206 146 (.agg #[.pointer none]):=fun v w=>by kernel_rfl
theorem uM:NoZ 206 203 (.agg #[.pointer none]):=fun v w=>by kernel_rfl
theorem uN:NoZ 206 149 (.agg #[.pointer none]):=fun v w=>by kernel_rfl
theorem tZ:NoZ 206 204 (.agg #[.pointer none]):=fun v w=>by kernel_rfl
theorem tY:NoZ 206 205 (.agg #[.pointer none]):=fun v w=>by kernel_rfl
theorem KH:sF 206:=fun v w=>by kernel_rfl
theorem uk:NoZ 209 202 (.agg #[.pointer none,.int .i64 0,.int .i64 0]):=fun v w=>by kernel_rfl
theorem qm:NoZ 209 208 (.agg #[.pointer none,.int .i64 0,.int .i64 0,.int .i64 0,.int .i64 0]):=fun v w=>by kernel_rfl
theorem vS:NoZ 209 146 (.agg #[.pointer none]):=fun v w=>by kernel_rfl
theorem uT:NoZ 209 203 (.agg #[.pointer none]):=fun v w=>by kernel_rfl
theorem uU:NoZ 209 149 (.agg #[.pointer none]):=fun v w=>by kernel_rfl
theorem um:NoZ 209 204 (.agg #[.pointer none]):=fun v w=>by kernel_rfl
theorem ul:NoZ 209 205 (.agg #[.pointer none]):=fun v w=>by kernel_rfl
theorem vT:NoZ 209 206 (.agg #[.pointer none]):=fun v w=>by kernel_rfl
theorem KJ:sF 209:=fun v w=>by kernel_rfl
end Go.Proofs.YtgaddpkkjebekaaGreatDoor
