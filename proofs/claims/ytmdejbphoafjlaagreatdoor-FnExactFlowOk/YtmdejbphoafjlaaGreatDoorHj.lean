import Derived.Test.YtmdejbphoafjlaaGreatDoorHd
set_option maxHeartbeats 100000000
set_option maxRecDepth 100000
namespace Go.Proofs.YtmdejbphoafjlaaGreatDoor
open Go.RowKit Go.Maps
theorem hset {w:World}{b o k:Nat}{v:Value}(h:k≠b):(w.setCell ⟨b,o,none⟩ v).heap[k]?=w.heap[k]?:=Below.heap_setCell _ _ _ _ h
theorem OnlyK.setHi {K:Nat}{a w:World}(h:OnlyK K a w) {b:Nat}(hb:a.heap.size≤b) (o:Nat) (u:Value):OnlyK K a (w.setCell ⟨b,o,none⟩ u) :=
 ⟨h.os,h.tape,h.output,by rw[World.size_setCell];exact h.size,fun k hk hn=>by rw[hset (by omega)];exact h.block k hk hn⟩
theorem Kept.setHi {lo:Nat}{a w:World}(h:Kept lo a w) {b:Nat}(hb:a.heap.size≤b) (o:Nat) (u:Value):Kept lo a (w.setCell ⟨b,o,none⟩ u) :=
 ⟨by rw[World.size_setCell];exact h.size,fun k hl hk=>by rw[hset (by omega)];exact h.block k hl hk⟩
theorem OnlyK.kept {K lo:Nat}{a w:World}(h:OnlyK K a w) (hK:K<lo):Kept lo a w:=⟨h.size,fun b hb hw=>h.block b hw (by omega)⟩
def CpP (K:Nat) (w:World) (k:Nat) (ds:List Dat) (r:Option Int) (e:Ending) (w':World):Prop:=OnlyK K w w'∧∃ a n c p' t',e=.returned (.slice a n c)∧CpS K w' p' t'∧(r=if t' then none else some p')∧(t'=false→0≤p'∧p'≤400∧n=ds.length∧∃ F,Own w.heap.size w' (.list k ds) [.slice a n c] F)
mutual
def Ex.cp:Int→Int→Ex→Option Int
 | d,p,.mk _ _ _ _ nm ks=>if p+1≤400∧d≤30∧nm.length≤8 then Ex.cps (d+1) (p+1) ks else none
def Ex.cps:Int→Int→List Ex→Option Int
 | _,p,[]=>some p
 | d,p,x::r=>match Ex.cp d p x with|none=>none|some q=>Ex.cps d q r
end
mutual
def Ex.bare:Ex→Ex
 | .mk k n tk tn nm ks=>.mk k (if k=3∨k=6∨k=7 then 0 else n) (if k=5 then tk else 0) (if k=5 then tn else 0) nm (Ex.bares ks)
def Ex.bares:List Ex→List Ex
 | []=>[]
 | x::r=>x.bare::Ex.bares r
end
theorem Ex.cp_eq (d p:Int) (x:Ex):Ex.cp d p x=if p+1≤400∧d≤30∧x.name.length≤8 then Ex.cps (d+1) (p+1) x.kids else none:=by obtain⟨k,n,tk,tn,nm,ks⟩:=x;rw[Ex.cp];rfl
theorem Ex.bare_eq (x:Ex):x.bare=.mk x.kind (if x.kind=3∨x.kind=6∨x.kind=7 then 0 else x.n) (if x.kind=5 then x.tk else 0) (if x.kind=5 then x.tn else 0) x.name (Ex.bares x.kids):=by obtain⟨k,n,tk,tn,nm,ks⟩:=x;rw[Ex.bare];rfl
theorem Ex.name_le (x:Ex):x.name.length≤x.sz:=by obtain⟨k,n,tk,tn,nm,ks⟩:=x;show nm.length≤nm.length+Ex.szs ks;omega
theorem Ex.kids_le2 (x:Ex):Ex.szs x.kids≤x.sz:=by obtain⟨k,n,tk,tn,nm,ks⟩:=x;show Ex.szs ks≤nm.length+Ex.szs ks;omega
theorem Ex.bares_map (l:List Ex):Ex.bares l=l.map Ex.bare:=by induction l with|nil=>rw[Ex.bares];rfl|cons x r ih=>rw[Ex.bares,ih];rfl
theorem Ex.cps_cons (d p:Int) (x:Ex) (r:List Ex):Ex.cps d p (x::r)=match Ex.cp d p x with|none=>none|some q=>Ex.cps d q r:=by rw[Ex.cps]
theorem Ex.cps_bad {d p:Int}{l:List Ex}{j:Nat}(h:j<l.length) (hc:Ex.cp d p l[j]=none):Ex.cps d p (l.drop j)=none:=by rw[List.drop_eq_getElem_cons h,Ex.cps_cons,hc]
theorem Ex.cps_next {d p q:Int}{l:List Ex}{j:Nat}(h:j<l.length) (hc:Ex.cp d p l[j]=some q):Ex.cps d p (l.drop j)=Ex.cps d q (l.drop (j+1)):=by rw[List.drop_eq_getElem_cons h,Ex.cps_cons,hc]
theorem Ex.cps_no {d p:Int}{l:List Ex}{j:Nat}(h:j<l.length) (hc:((p+1≤400∧d≤30)→¬ l[j].name.length≤8)):(if false=true then none else Ex.cps d p (l.drop j))=none:=by
 rw[if_neg (by simp)]
 refine Ex.cps_bad h ?_
 rw[Ex.cp_eq,if_neg (fun q=>hc ⟨q.1,q.2.1⟩ q.2.2)]
theorem icEx_all (N:Nat):∀ (v:Value) (l:List Ex) (K:Nat) (p:Int) (t:Bool) (d:Int) (w0 w:World),Ex.szs l≤N→Ex.szs l≤1048576→RdL w0 6 v (Ex.dats l)→Later w0 w→w0.heap.size≤K→CpS K w p t→(t=false→0≤p∧p≤400)→0≤d→d≤31 →
  Calls Tryz.prog 128 #[.pointer (some ⟨K,0,none⟩),v,.int .i64 d] w (CpP K w 6 (Ex.dats (Ex.bares l)) (if t then none else Ex.cps d p l)):=by
 induction N using Nat.strongRecOn with
 | _ N IH =>
 intro v l K p t d w0 w hN hM h hL hK hS hp hd0 hd1
 obtain⟨a,cap,rfl,hl⟩:=Ex.slice h
 obtain⟨i0,hi,hz0,hz1,hz2⟩:=info_parts Tryz.info96
 have hll:l.length≤1048576:=by have:=Ex.szs_ge l;omega
 have hKw:=hS.lt
 have HQ:Hid (∀ e w' a n c p' t',OnlyK K w w'→e=.returned (.slice a n c)→CpS K w' p' t'→((if t then none else Ex.cps d p l)=if t' then none else some p')→(t'=false→0≤p'∧p'≤400∧n=(Ex.dats (Ex.bares l)).length∧∃ F,Own w.heap.size w' (.list 6 (Ex.dats (Ex.bares l))) [.slice a n c] F)→CpP K w 6 (Ex.dats (Ex.bares l)) (if t then none else Ex.cps d p l) e w'):=fun e w' a n c p' t' h1 h2 h3 h4 h5=>⟨h1,a,n,c,p',t',h2,h3,h4,h5⟩
 generalize hQ:CpP K w 6 (Ex.dats (Ex.bares l)) (if t then none else Ex.cps d p l)=Q at *
 clear hQ
 go_enter Tryz.func128,Tryz.ntmps128
 go_wp2_with fail
 go_loopw [7,12] (fun r i wr=>∃ (j:Nat) (xs:List Value) (rv:Value) (q:Int) (tq:Bool),rv=r∧i=.int .i64 (j:Int)∧j≤l.length∧OnlyK K w wr∧wr.ownsRow w.heap.size 96 6 rv j xs∧CpS K wr q tq∧Hid (tq=false→t=false∧0≤q∧q≤400∧Ex.cps d p l=Ex.cps d q (l.drop j)∧∃ F,Bd w.heap.size wr 96 6 rv (Ex.dats (Ex.bares (l.take j))) xs F)∧Hid (tq=true→(if t then none else Ex.cps d p l)=none)) (fun _ i _=>l.length - (intOf i).toNat)
 case atStart =>
  exact⟨0,[],_,p,t,rfl,rfl,Nat.zero_le _,OnlyK.refl _ _,World.ownsRow_nil _ _ _ _,hS,fun ht=>⟨ht,(hp ht).1,(hp ht).2,rfl,[],by rw[List.take_zero,Ex.bares,Ex.dats];exact Bd.nil _ _ _ _⟩,fun ht=>by rw[ht];rfl⟩
 case round =>
  obtain⟨j,xs,rv,q,tq,rfl,rfl,hj,oR,hrow,hSr,HG,HT⟩:=hrel
  by_cases hlt:j<l.length
  ·obtain⟨g,off,v0,v1,rfl,hgs,c0,c1,c2,c3,c4,c5,r0,r1⟩:=Ex.elem h j hlt
   have i1:(j:Int)<(l.length:Int):=by omega
   have lw0:Later w0 wr:=later_only hL oR hK
   have c0:wr.cell? ⟨g,off+j*6,none⟩=some (.int .i64 l[j].kind):=by rw[Below.cell lw0 (p:=⟨g,off+j*6,none⟩) hgs];exact c0
   have c1:wr.cell? ⟨g,off+j*6+1,none⟩=some (.int .i64 l[j].n):=by rw[Below.cell lw0 (p:=⟨g,off+j*6+1,none⟩) hgs];exact c1
   have c2:wr.cell? ⟨g,off+j*6+2,none⟩=some (.int .i64 l[j].tk):=by rw[Below.cell lw0 (p:=⟨g,off+j*6+2,none⟩) hgs];exact c2
   have c3:wr.cell? ⟨g,off+j*6+3,none⟩=some (.int .i64 l[j].tn):=by rw[Below.cell lw0 (p:=⟨g,off+j*6+3,none⟩) hgs];exact c3
   have c4:wr.cell? ⟨g,off+j*6+4,none⟩=some (v0):=by rw[Below.cell lw0 (p:=⟨g,off+j*6+4,none⟩) hgs];exact c4
   have c5:wr.cell? ⟨g,off+j*6+5,none⟩=some (v1):=by rw[Below.cell lw0 (p:=⟨g,off+j*6+5,none⟩) hgs];exact c5
   obtain⟨ra,rc,hra⟩:=row_form hrow
   have hsz:w.heap.size≤wr.heap.size:=oR.size
   obtain⟨wb,hwb⟩:=hidx (wr.alloc (.cells #[.int .i64 l[j].kind,.int .i64 l[j].n,.int .i64 l[j].tk,.int .i64 l[j].tn,v0,v1] 96))
   have hbb:Bxx wb wr.heap.size [.int .i64 l[j].kind,.int .i64 l[j].n,.int .i64 l[j].tk,.int .i64 l[j].tn,v0,v1]:=by rw[hwb.out];exact Bxx.new _ _ _
   have lb:Later wr wb:=by rw[hwb.out];exact later1 _ _
   have hKB:wr.heap.size≠K:=by omega
   have hSb:CpS K wb q tq:=Bxx.later hSr lb
   have hnl:l[j].name.length≤1048576:=by have:=Ex.sz_at l j hlt;have:=Ex.name_le l[j];omega
   have hC:=fun w' (ll:Later w0 w')=>clone_any v0 l[j].name w' (r0.later ll) hnl
   have hGo:=fun a n c=>goes_any K q d tq a n c wb hSb (fun ht=>⟨(HG.out ht).2.1,(HG.out ht).2.2.1⟩)
   have hI0:=fun p' t' w' (hb:Ex.szs l[j].kids<Ex.szs l) (ll:Later w0 w') (hs:CpS K w' p' t') (hh:t'=false→0≤p'∧p'≤400) (hd:d+1≤31)=>IH (Ex.szs l[j].kids) (by omega) v1 l[j].kids K p' t' (d+1) w0 w' (Nat.le_refl _) (by omega) r1 ll hK hs hh (by omega) hd
   have hJ0:Ex.szs l[j].kids<Ex.szs l:=by have:=Ex.sz_at l j hlt;have:=Ex.kids_le2 l[j];omega
   have HX:Hid (∀ b,(tq=false→b=(decide (q+1≤400)&&decide (d≤30)&&decide (l[j].name.length≤8)))→((!tq&&b)=false)→(if t then none else Ex.cps d p l)=none):=fun b hb hf=>by
    cases tq with
    | true=>exact HT.out rfl
    | false =>
     obtain⟨e0,e1,e2,e3,_⟩:=HG.out rfl
     rw[e0,e3]
     rw[hb rfl]at hf
     exact Ex.cps_no hlt (by simpa using hf)
   obtain⟨y0,q0,rfl,_⟩:=r0.slice
   obtain⟨y1,q1,rfl,_⟩:=Ex.slice r1
   subst hra
   have hGo1:=hGo y0 l[j].name.length q0
   clear h r0 r1 hGo hL
   go_wp2_with fail
   rw[←hwb.out]
   refine hGo1.mono ?_
   rintro e w1 ⟨rfl,o1,p1,hS1,hp1⟩
   have lo1:OnlyK K w w1:=(oR.trans (OnlyK.of_later lb)).trans o1
   obtain⟨bb,hbb0⟩:=hidx (decide (q+1≤400)&&decide (d≤30)&&decide (l[j].name.length≤8))
   rw[←hbb0.out]at hS1 ⊢
   have hb1:=hbb.only o1 hKB
   cases hbt:(!tq&&bb) with
   | false =>
    have HZ:=HQ.out _ w1 none 0 0 p1 true lo1 rfl (by cases tq <;> cases bb <;> first|exact hS1|cases hbt) (by rw[HX.out bb (fun _=>hbb0.out) hbt];rfl) (fun hf=>by cases hf)
    clear hI0  HX HQ HG HT hGo1 hC
    go_wp2_with fail
    exact HZ
   | true =>
    obtain⟨rfl,rfl⟩:tq=false∧bb=true:=by cases tq <;> cases bb <;> first|exact⟨rfl,rfl⟩|cases hbt
    obtain⟨e0,e1,e2,e3,FF,hBd⟩:=HG.out rfl
    have hok:q+1≤400∧d≤30∧l[j].name.length≤8:=by have:=hbb0.out;simpa[and_assoc] using this.symm
    obtain rfl:p1=q+1:=hp1 rfl
    have hS2:CpS K w1 (q+1) false:=hS1
    have hd31:d+1≤31:=by omega
    have kp1:Kept w.heap.size wr w1:=(lb.kept _).trans (o1.kept hKw)
    have s1:wr.heap.size<w1.heap.size:=hb1.lt
    have lw1:Later w0 w1:=later_only (lw0.trans lb) o1 hK
    subst e0
    have HE:Hid (∀ (ts:List (Bool × Int)),True):=fun _=>trivial
    clear HX hGo1 hbt hS1 hp1 HE HT
    have HT2:Hid True:=trivial
    rcases (by omega:l[j].kind=3∨l[j].kind=6∨l[j].kind=7∨l[j].kind=5∨(l[j].kind≠3∧l[j].kind≠6∧l[j].kind≠7∧l[j].kind≠5)) with kk|kk|kk|kk|kk
    all_goals
     first
     |have kk:l[j].kind=3:=kk
      have HB:Hid (l[j].bare=Ex.mk l[j].kind 0 0 0 l[j].name (Ex.bares l[j].kids)):=by
       unfold Hid;rw[Ex.bare_eq];simp[kk]
      rw[kk]at hb1 HB ⊢
      clear kk
      obtain⟨x0,f0⟩:=hb1.cell 0 _ rfl
      obtain⟨x1,f1⟩:=hb1.cell 1 _ rfl
      obtain⟨x2,f2⟩:=hb1.cell 2 _ rfl
      obtain⟨x3,f3⟩:=hb1.cell 3 _ rfl
      obtain⟨x4,f4⟩:=hb1.cell 4 _ rfl
      obtain⟨x5,f5⟩:=hb1.cell 5 _ rfl
      have hbt:=buildTy
      obtain⟨W,hW⟩:=hidx (((w1.setCell ⟨wr.heap.size,1,none⟩ (.int .i64 0)).setCell ⟨wr.heap.size,2,none⟩ (.int .i64 0)).setCell ⟨wr.heap.size,3,none⟩ (.int .i64 0))
      have hbW:Bxx W wr.heap.size [.int .i64 3,.int .i64 0,.int .i64 0,.int .i64 0,.slice y0 l[j].name.length q0,.slice y1 l[j].kids.length q1]:=by rw[hW.out];exact (((hb1.set 1 (.int .i64 0) (Nat.lt_of_sub_eq_succ rfl)).set 2 (.int .i64 0) (Nat.lt_of_sub_eq_succ rfl)).set 3 (.int .i64 0) (Nat.lt_of_sub_eq_succ rfl))
      have lwW:Later w0 W:=by rw[hW.out];exact (Later.setAt (Later.setAt (Later.setAt lw1 (by have:=oR.size;have:=lw0.size;omega) 1 _) (by have:=oR.size;have:=lw0.size;omega) 2 _) (by have:=oR.size;have:=lw0.size;omega) 3 _)
      have loW:OnlyK K w W:=by rw[hW.out];exact (OnlyK.setHi (OnlyK.setHi (OnlyK.setHi lo1 hsz 1 _) hsz 2 _) hsz 3 _)
      have kpW:Kept w.heap.size wr W:=by rw[hW.out];exact (Kept.setHi (Kept.setHi (Kept.setHi kp1 (Nat.le_refl _) 1 _) (Nat.le_refl _) 2 _) (Nat.le_refl _) 3 _)
      have hSW:CpS K W (q+1) false:=by rw[hW.out];exact (Bxx.other (Bxx.other (Bxx.other hS2 (Ne.symm hKB) _) (Ne.symm hKB) _) (Ne.symm hKB) _)
      have hC2:=hC W lwW
      go_wp2_with fail
      rw[←hW.out]
      clear x0 f0 x1 f1 x2 f2 x3 f3 x4 f4 x5 f5 hb1 hS2 lo1 kp1 lw1 hbt
      obtain⟨kv,nv,tv,uv,hbW,HB⟩:∃ kv nv tv uv,Bxx W wr.heap.size [.int .i64 kv,.int .i64 nv,.int .i64 tv,.int .i64 uv,.slice y0 l[j].name.length q0,.slice y1 l[j].kids.length q1]∧Hid (l[j].bare=Ex.mk kv nv tv uv l[j].name (Ex.bares l[j].kids)):=⟨_,_,_,_,hbW,HB⟩
     |have kk:l[j].kind=6:=kk
      have HB:Hid (l[j].bare=Ex.mk l[j].kind 0 0 0 l[j].name (Ex.bares l[j].kids)):=by
       unfold Hid;rw[Ex.bare_eq];simp[kk]
      rw[kk]at hb1 HB ⊢
      clear kk
      obtain⟨x0,f0⟩:=hb1.cell 0 _ rfl
      obtain⟨x1,f1⟩:=hb1.cell 1 _ rfl
      obtain⟨x2,f2⟩:=hb1.cell 2 _ rfl
      obtain⟨x3,f3⟩:=hb1.cell 3 _ rfl
      obtain⟨x4,f4⟩:=hb1.cell 4 _ rfl
      obtain⟨x5,f5⟩:=hb1.cell 5 _ rfl
      have hbt:=buildTy
      obtain⟨W,hW⟩:=hidx (((w1.setCell ⟨wr.heap.size,1,none⟩ (.int .i64 0)).setCell ⟨wr.heap.size,2,none⟩ (.int .i64 0)).setCell ⟨wr.heap.size,3,none⟩ (.int .i64 0))
      have hbW:Bxx W wr.heap.size [.int .i64 6,.int .i64 0,.int .i64 0,.int .i64 0,.slice y0 l[j].name.length q0,.slice y1 l[j].kids.length q1]:=by rw[hW.out];exact (((hb1.set 1 (.int .i64 0) (Nat.lt_of_sub_eq_succ rfl)).set 2 (.int .i64 0) (Nat.lt_of_sub_eq_succ rfl)).set 3 (.int .i64 0) (Nat.lt_of_sub_eq_succ rfl))
      have lwW:Later w0 W:=by rw[hW.out];exact (Later.setAt (Later.setAt (Later.setAt lw1 (by have:=oR.size;have:=lw0.size;omega) 1 _) (by have:=oR.size;have:=lw0.size;omega) 2 _) (by have:=oR.size;have:=lw0.size;omega) 3 _)
      have loW:OnlyK K w W:=by rw[hW.out];exact (OnlyK.setHi (OnlyK.setHi (OnlyK.setHi lo1 hsz 1 _) hsz 2 _) hsz 3 _)
      have kpW:Kept w.heap.size wr W:=by rw[hW.out];exact (Kept.setHi (Kept.setHi (Kept.setHi kp1 (Nat.le_refl _) 1 _) (Nat.le_refl _) 2 _) (Nat.le_refl _) 3 _)
      have hSW:CpS K W (q+1) false:=by rw[hW.out];exact (Bxx.other (Bxx.other (Bxx.other hS2 (Ne.symm hKB) _) (Ne.symm hKB) _) (Ne.symm hKB) _)
      have hC2:=hC W lwW
      go_wp2_with fail
      rw[←hW.out]
      clear x0 f0 x1 f1 x2 f2 x3 f3 x4 f4 x5 f5 hb1 hS2 lo1 kp1 lw1 hbt
      obtain⟨kv,nv,tv,uv,hbW,HB⟩:∃ kv nv tv uv,Bxx W wr.heap.size [.int .i64 kv,.int .i64 nv,.int .i64 tv,.int .i64 uv,.slice y0 l[j].name.length q0,.slice y1 l[j].kids.length q1]∧Hid (l[j].bare=Ex.mk kv nv tv uv l[j].name (Ex.bares l[j].kids)):=⟨_,_,_,_,hbW,HB⟩
     |have kk:l[j].kind=7:=kk
      have HB:Hid (l[j].bare=Ex.mk l[j].kind 0 0 0 l[j].name (Ex.bares l[j].kids)):=by
       unfold Hid;rw[Ex.bare_eq];simp[kk]
      rw[kk]at hb1 HB ⊢
      clear kk
      obtain⟨x0,f0⟩:=hb1.cell 0 _ rfl
      obtain⟨x1,f1⟩:=hb1.cell 1 _ rfl
      obtain⟨x2,f2⟩:=hb1.cell 2 _ rfl
      obtain⟨x3,f3⟩:=hb1.cell 3 _ rfl
      obtain⟨x4,f4⟩:=hb1.cell 4 _ rfl
      obtain⟨x5,f5⟩:=hb1.cell 5 _ rfl
      have hbt:=buildTy
      obtain⟨W,hW⟩:=hidx (((w1.setCell ⟨wr.heap.size,1,none⟩ (.int .i64 0)).setCell ⟨wr.heap.size,2,none⟩ (.int .i64 0)).setCell ⟨wr.heap.size,3,none⟩ (.int .i64 0))
      have hbW:Bxx W wr.heap.size [.int .i64 7,.int .i64 0,.int .i64 0,.int .i64 0,.slice y0 l[j].name.length q0,.slice y1 l[j].kids.length q1]:=by rw[hW.out];exact (((hb1.set 1 (.int .i64 0) (Nat.lt_of_sub_eq_succ rfl)).set 2 (.int .i64 0) (Nat.lt_of_sub_eq_succ rfl)).set 3 (.int .i64 0) (Nat.lt_of_sub_eq_succ rfl))
      have lwW:Later w0 W:=by rw[hW.out];exact (Later.setAt (Later.setAt (Later.setAt lw1 (by have:=oR.size;have:=lw0.size;omega) 1 _) (by have:=oR.size;have:=lw0.size;omega) 2 _) (by have:=oR.size;have:=lw0.size;omega) 3 _)
      have loW:OnlyK K w W:=by rw[hW.out];exact (OnlyK.setHi (OnlyK.setHi (OnlyK.setHi lo1 hsz 1 _) hsz 2 _) hsz 3 _)
      have kpW:Kept w.heap.size wr W:=by rw[hW.out];exact (Kept.setHi (Kept.setHi (Kept.setHi kp1 (Nat.le_refl _) 1 _) (Nat.le_refl _) 2 _) (Nat.le_refl _) 3 _)
      have hSW:CpS K W (q+1) false:=by rw[hW.out];exact (Bxx.other (Bxx.other (Bxx.other hS2 (Ne.symm hKB) _) (Ne.symm hKB) _) (Ne.symm hKB) _)
      have hC2:=hC W lwW
      go_wp2_with fail
      rw[←hW.out]
      clear x0 f0 x1 f1 x2 f2 x3 f3 x4 f4 x5 f5 hb1 hS2 lo1 kp1 lw1 hbt
      obtain⟨kv,nv,tv,uv,hbW,HB⟩:∃ kv nv tv uv,Bxx W wr.heap.size [.int .i64 kv,.int .i64 nv,.int .i64 tv,.int .i64 uv,.slice y0 l[j].name.length q0,.slice y1 l[j].kids.length q1]∧Hid (l[j].bare=Ex.mk kv nv tv uv l[j].name (Ex.bares l[j].kids)):=⟨_,_,_,_,hbW,HB⟩
     |have kk:l[j].kind=5:=kk
      have HB:Hid (l[j].bare=Ex.mk l[j].kind l[j].n l[j].tk l[j].tn l[j].name (Ex.bares l[j].kids)):=by
       unfold Hid;rw[Ex.bare_eq];simp[kk]
      rw[kk]at hb1 HB ⊢
      clear kk
      obtain⟨x0,f0⟩:=hb1.cell 0 _ rfl
      obtain⟨x1,f1⟩:=hb1.cell 1 _ rfl
      obtain⟨x2,f2⟩:=hb1.cell 2 _ rfl
      obtain⟨x3,f3⟩:=hb1.cell 3 _ rfl
      obtain⟨x4,f4⟩:=hb1.cell 4 _ rfl
      obtain⟨x5,f5⟩:=hb1.cell 5 _ rfl
      obtain⟨W,hW⟩:=hidx w1
      have hbW:Bxx W wr.heap.size [.int .i64 5,.int .i64 l[j].n,.int .i64 l[j].tk,.int .i64 l[j].tn,.slice y0 l[j].name.length q0,.slice y1 l[j].kids.length q1]:=by rw[hW.out];exact hb1
      have lwW:Later w0 W:=by rw[hW.out];exact lw1
      have loW:OnlyK K w W:=by rw[hW.out];exact lo1
      have kpW:Kept w.heap.size wr W:=by rw[hW.out];exact kp1
      have hSW:CpS K W (q+1) false:=by rw[hW.out];exact hS2
      have hC2:=hC W lwW
      go_wp2_with fail
      have hWe:=hW.out;rw[←hWe];clear hWe
      clear x0 f0 x1 f1 x2 f2 x3 f3 x4 f4 x5 f5 hb1 hS2 lo1 kp1 lw1
      obtain⟨kv,nv,tv,uv,hbW,HB⟩:∃ kv nv tv uv,Bxx W wr.heap.size [.int .i64 kv,.int .i64 nv,.int .i64 tv,.int .i64 uv,.slice y0 l[j].name.length q0,.slice y1 l[j].kids.length q1]∧Hid (l[j].bare=Ex.mk kv nv tv uv l[j].name (Ex.bares l[j].kids)):=⟨_,_,_,_,hbW,HB⟩
     |obtain⟨k3,k6,k7,k5⟩:=kk
      have HB:Hid (l[j].bare=Ex.mk l[j].kind l[j].n 0 0 l[j].name (Ex.bares l[j].kids)):=by
       unfold Hid;rw[Ex.bare_eq];simp[k3,k6,k7,k5]
      have n3:=neb k3
      have n6:=neb k6
      have n7:=neb k7
      have n5:=neb k5
      clear k3 k6 k7 k5
      obtain⟨x0,f0⟩:=hb1.cell 0 _ rfl
      obtain⟨x1,f1⟩:=hb1.cell 1 _ rfl
      obtain⟨x2,f2⟩:=hb1.cell 2 _ rfl
      obtain⟨x3,f3⟩:=hb1.cell 3 _ rfl
      obtain⟨x4,f4⟩:=hb1.cell 4 _ rfl
      obtain⟨x5,f5⟩:=hb1.cell 5 _ rfl
      have hbt:=buildTy
      obtain⟨W,hW⟩:=hidx ((w1.setCell ⟨wr.heap.size,2,none⟩ (.int .i64 0)).setCell ⟨wr.heap.size,3,none⟩ (.int .i64 0))
      have hbW:Bxx W wr.heap.size [.int .i64 l[j].kind,.int .i64 l[j].n,.int .i64 0,.int .i64 0,.slice y0 l[j].name.length q0,.slice y1 l[j].kids.length q1]:=by rw[hW.out];exact ((hb1.set 2 (.int .i64 0) (Nat.lt_of_sub_eq_succ rfl)).set 3 (.int .i64 0) (Nat.lt_of_sub_eq_succ rfl))
      have lwW:Later w0 W:=by rw[hW.out];exact (Later.setAt (Later.setAt lw1 (by have:=oR.size;have:=lw0.size;omega) 2 _) (by have:=oR.size;have:=lw0.size;omega) 3 _)
      have loW:OnlyK K w W:=by rw[hW.out];exact (OnlyK.setHi (OnlyK.setHi lo1 hsz 2 _) hsz 3 _)
      have kpW:Kept w.heap.size wr W:=by rw[hW.out];exact (Kept.setHi (Kept.setHi kp1 (Nat.le_refl _) 2 _) (Nat.le_refl _) 3 _)
      have hSW:CpS K W (q+1) false:=by rw[hW.out];exact (Bxx.other (Bxx.other hS2 (Ne.symm hKB) _) (Ne.symm hKB) _)
      have hC2:=hC W lwW
      go_wp2_with fail
      rw[←hW.out]
      clear x0 f0 x1 f1 x2 f2 x3 f3 x4 f4 x5 f5 hb1 hS2 lo1 kp1 lw1 hbt
      obtain⟨kv,nv,tv,uv,hbW,HB⟩:∃ kv nv tv uv,Bxx W wr.heap.size [.int .i64 kv,.int .i64 nv,.int .i64 tv,.int .i64 uv,.slice y0 l[j].name.length q0,.slice y1 l[j].kids.length q1]∧Hid (l[j].bare=Ex.mk kv nv tv uv l[j].name (Ex.bares l[j].kids)):=⟨_,_,_,_,hbW,HB⟩
    all_goals
     refine hC2.mono ?_
     rintro e w2 ⟨a2,m2,G2,rfl,hO2,l2⟩
     have hb2:=hbW.later l2
     obtain⟨x0,f0⟩:=hb2.cell 0 _ rfl
     obtain⟨x1,f1⟩:=hb2.cell 1 _ rfl
     obtain⟨x2,f2⟩:=hb2.cell 2 _ rfl
     obtain⟨x3,f3⟩:=hb2.cell 3 _ rfl
     obtain⟨x4,f4⟩:=hb2.cell 4 _ rfl
     obtain⟨x5,f5⟩:=hb2.cell 5 _ rfl
     obtain⟨A4,hA4⟩:=hidx (w2.setCell ⟨wr.heap.size,4,none⟩ (.slice a2 l[j].name.length m2))
     have hbA4:Bxx A4 wr.heap.size [.int .i64 kv,.int .i64 nv,.int .i64 tv,.int .i64 uv,.slice a2 l[j].name.length m2,.slice y1 l[j].kids.length q1]:=by rw[hA4.out];exact hb2.set 4 _ (Nat.lt_of_sub_eq_succ rfl)
     have lA4:Later w0 A4:=by rw[hA4.out];exact Later.setAt (lwW.trans l2) (by have:=oR.size;have:=lw0.size;omega) 4 _
     have oA4:OnlyK K w A4:=by rw[hA4.out];exact OnlyK.setHi (loW.trans (OnlyK.of_later l2)) hsz 4 _
     have kA4:Kept w.heap.size wr A4:=by rw[hA4.out];exact Kept.setHi (kpW.trans (l2.kept _)) (Nat.le_refl _) 4 _
     have SA4:CpS K A4 (q+1) false:=by rw[hA4.out];exact Bxx.other (Bxx.later hSW l2) (Ne.symm hKB) _
     have nA4:OwnD A4 (.bytes l[j].name) [.slice a2 l[j].name.length m2] G2:=by rw[hA4.out];exact OwnD.agree (by rw[World.size_setCell];exact Nat.le_refl _) _ hO2.own (fun b hb=>hset (fun e=>by have:=(hO2.fresh b hb).1;have:=hbW.lt;omega))
     have fr2:Fr wr.heap.size A4.heap.size G2:=by rw[hA4.out,World.size_setCell];exact hO2.fr.mono (Nat.le_of_lt hbW.lt) (Nat.le_refl _)
     have hR0:=hI0 (q+1) false A4 hJ0 lA4 SA4 (fun _=>by omega) hd31
     go_wp2_with fail
     rw[←hA4.out]
     clear x0 f0 x1 f1 x2 f2 x3 f3 x4 f4 x5 f5
     refine hR0.mono ?_
     rintro e u5 ⟨ou5,a5,m5,z5,p5,t5,rfl,Su5,eq0,in0'⟩
     have EQ0:Hid _:=eq0
     have in0:Hid _:=in0'
     clear eq0 in0' hR0
     have hbu5:=hbA4.only ou5 hKB
     obtain⟨x0,f0⟩:=hbu5.cell 0 _ rfl
     obtain⟨x1,f1⟩:=hbu5.cell 1 _ rfl
     obtain⟨x2,f2⟩:=hbu5.cell 2 _ rfl
     obtain⟨x3,f3⟩:=hbu5.cell 3 _ rfl
     obtain⟨x4,f4⟩:=hbu5.cell 4 _ rfl
     obtain⟨x5,f5⟩:=hbu5.cell 5 _ rfl
     obtain⟨A5,hA5⟩:=hidx (u5.setCell ⟨wr.heap.size,5,none⟩ (.slice a5 m5 z5))
     have hbA5:Bxx A5 wr.heap.size [.int .i64 kv,.int .i64 nv,.int .i64 tv,.int .i64 uv,.slice a2 l[j].name.length m2,.slice a5 m5 z5]:=by rw[hA5.out];exact hbu5.set 5 _ (Nat.lt_of_sub_eq_succ rfl)
     have lA5:Later w0 A5:=by rw[hA5.out];exact Later.setAt (later_only lA4 ou5 hK) (by have:=oR.size;have:=lw0.size;omega) 5 _
     have oA5:OnlyK K w A5:=by rw[hA5.out];exact OnlyK.setHi (oA4.trans ou5) hsz 5 _
     have kA5:Kept w.heap.size wr A5:=by rw[hA5.out];exact Kept.setHi (kA4.trans (ou5.kept hKw)) (Nat.le_refl _) 5 _
     have SA5:CpS K A5 p5 t5:=by rw[hA5.out];exact Bxx.other Su5 (Ne.symm hKB) _
     have ag5:∀ b,wr.heap.size<b→b<A4.heap.size→A5.heap[b]?=A4.heap[b]?:=fun b h1 h2=>by rw[hA5.out,hset (by omega)];exact ou5.block b h2 (by omega)
     have sz5:A4.heap.size≤A5.heap.size:=by rw[hA5.out,World.size_setCell];exact ou5.size
     have nn5:Hid (t5=false→m5=(Ex.dats (Ex.bares l[j].kids)).length∧∃ F,OwnD A5 (.list 6 (Ex.dats (Ex.bares l[j].kids))) [.slice a5 m5 z5] F∧Fr A4.heap.size A5.heap.size F):=fun ht=>by
      obtain⟨_,_,h3,F,hF⟩:=in0.out ht
      refine⟨h3,F,by rw[hA5.out];exact OwnD.agree (by rw[World.size_setCell];exact Nat.le_refl _) _ hF.own (fun b hb=>hset (fun e=>by have:=(hF.fresh b hb).1;have:=hbA4.lt;omega)),by rw[hA5.out,World.size_setCell];exact hF.fr⟩
     have HPU:Hid (∀ w' v',w'.ownsRow w.heap.size 96 6 v' (j+1) (xs++[.int .i64 kv,.int .i64 nv,.int .i64 tv,.int .i64 uv,.slice a2 l[j].name.length m2,.slice a5 m5 z5])→∀ wz,Later A5 wz→wz.grownBy w' (Value.slice ra j rc).ownBlock→(v'.ownBlock=(Value.slice ra j rc).ownBlock∨v'.ownBlock=some wz.heap.size)→OnlyK K w w'∧CpS K w' p5 t5∧(t5=false→t5=false∧0≤p5∧p5≤400∧Ex.cps d p l=Ex.cps d p5 (l.drop (j+1))∧∃ F,Bd w.heap.size w' 96 6 v' (Ex.dats (Ex.bares (l.take (j+1)))) (xs++[.int .i64 kv,.int .i64 nv,.int .i64 tv,.int .i64 uv,.slice a2 l[j].name.length m2,.slice a5 m5 z5]) F)∧(t5=true→Ex.cps d p l=none)):=fun w' v' ho wz lz hg hloc=>by
      have hcp:Ex.cp d q l[j]=if t5 then none else some p5:=by
       rw[Ex.cp_eq,if_pos hok]
       have z0:=EQ0.out
       rw[if_neg (by simp)]at z0
       rw[z0]
       try (first|rfl|(cases t5 <;> rfl))
      have hne:∀ b,(Value.slice ra j rc).ownBlock=some b→w.heap.size≤b∧b<wr.heap.size:=hrow.lt
      have oz:OnlyK K w wz:=oA5.trans (OnlyK.of_later lz)
      refine⟨⟨hg.os.trans oz.os,hg.tape.trans oz.tape,hg.output.trans oz.output,Nat.le_trans oz.size hg.size,fun b hb hn=>?_⟩,?_,fun ht=>⟨ht,?_⟩,fun ht=>by rw[e3];exact Ex.cps_bad hlt (by rw[hcp,ht];rfl)⟩
      ·rw[hg.block b (Nat.lt_of_lt_of_le hb oz.size) (fun e=>by have:=(hne b e.symm).1;omega)];exact oz.block b hb hn
      ·exact Bxx.kept (Bxx.later SA5 lz) hg.size (hg.block K (Nat.lt_of_lt_of_le hKw oz.size) (fun e=>by have:=(hne K e.symm).1;omega))
      ·rw[ht]at hcp
       have hcp':Ex.cp d q l[j]=some p5:=hcp
       refine⟨(in0.out ht).1,(in0.out ht).2.1,by rw[e3];exact Ex.cps_next hlt hcp',?_⟩
       obtain⟨em5,F5,hF5,fr5⟩:=nn5.out ht
       have gz2:∀ b∈G2,wr.heap.size<b:=fun b hb=>Nat.lt_of_lt_of_le hbW.lt (hO2.fresh b hb).1
       have nF:=(OwnD.agree sz5 _ nA4 (fun b hb=>ag5 b (gz2 b hb) (by have:=(fr2.2 b hb).2; omega)))
       have pF5:=hF5
       have frA:=(Fr.app fr2 fr5 (by have:=hbA4.lt; omega) sz5)
       have hel:∃ G,OwnD A5 l[j].bare.dat [.int .i64 kv,.int .i64 nv,.int .i64 tv,.int .i64 uv,.slice a2 l[j].name.length m2,.slice a5 m5 z5] G∧Fr wr.heap.size A5.heap.size G:=by
        rw[HB.out]
        subst em5
        exact⟨_,Ex.own (x:=Ex.mk _ _ _ _ _ _) nF pF5,by simpa[List.append_assoc] using frA⟩
       obtain⟨G,hG1,hG2⟩:=hel
       refine⟨FF++G,?_⟩
       rw[Ex.bares_map,Ex.datsMap,List.map_map,takeSnoc hlt,← List.map_map,← Ex.datsMap,← Ex.bares_map]
       exact hBd.push (cs:=[.int .i64 kv,.int .i64 nv,.int .i64 tv,.int .i64 uv,.slice a2 l[j].name.length m2,.slice a5 m5 z5]) rfl (Own.mk' hG1 hG2) kA5 (lz.kept _) hsz (by rw[Ex.dats_len,Ex.bares_map,List.length_map,List.length_take,Nat.min_eq_left (by omega)];exact ho) hg hloc
     have hrA:A5.ownsRow w.heap.size 96 6 (.slice ra j rc) j xs:=row_kept hrow kA5
     have bA:w.heap.size≤A5.heap.size:=oA5.size
     clear hI0 hC hC2 HQ HB nA4 hbW hSW kpW loW lwW hBd hb2 l2 hO2 fr2 e3 nn5 in0 EQ0 ag5
     go_wp2_with (at_builtin;refine wpList_append_own_at _ rfl _ _ 91 rfl w.heap.size 96 i0 (.agg #[.int .i64 0,.int .i64 0,.int .i64 0,.int .i64 0,.slice none 0 0,.slice none 0 0]) 6 80 Tryz.underlying91 hi hz0 hz1 hz2 rfl (by decide) _ _ _ rfl ((by rw[←hA5.out];exact hrA.alloc _)) _ 1 1 [.int .i64 kv,.int .i64 nv,.int .i64 tv,.int .i64 uv,.slice a2 l[j].name.length m2,.slice a5 m5 z5] rfl rfl (new_row _ _ _ (by simp)) (by simp[Value.oneCell']) (by unfold maxLen;omega) (by omega) (by rw[←hA5.out];exact Nat.le_trans bA (later1 _ _).size) ?_;intro v9 w9 o9 g9 _ h9;obtain⟨L9,S9,D9,T9⟩:=HPU.out _ _ o9 _ (by rw[hA5.out];exact later1 _ _) g9 h9;obtain⟨a9,p9,hv9⟩:=row_form o9;rw[hv9]at D9 o9 ⊢)
     go_roundw
     case rel=>exact⟨j+1,_,_,p5,t5,rfl,by go_num,by omega,L9,o9,S9,fun ht=>⟨by first|rfl|trivial,(D9 ht).2⟩,fun ht=>by first|exact T9 ht|(rw[if_neg (by simp)];exact T9 ht)⟩
     case measure=>simp[intOf];omega
  ·have i1:¬ (j:Int)<(l.length:Int):=by omega
   have i2:decide ((j:Int)<(l.length:Int))=false:=decide_eq_false i1
   have hjj:j=l.length:=by omega
   obtain⟨ra,rc,hra⟩:=row_form hrow
   have HZ:=HQ.out (.returned rv) wr ra j rc q tq oR (by rw[hra]) hSr (by
    cases tq with
    | true=>rw[HT.out rfl];rfl
    | false =>
     obtain⟨e0,e1,e2,e3,_⟩:=HG.out rfl
     rw[e0,e3,hjj,List.drop_length,Ex.cps];try rfl) (fun ht=>by
    obtain⟨e0,e1,e2,e3,F,hB⟩:=HG.out ht
    rw[hjj,List.take_length]at hB
    obtain⟨G,hG⟩:=hB.done (by rw[Ex.dats_len,Ex.bares_map,List.length_map];exact hll)
    exact⟨e1,e2,by rw[Ex.dats_len,Ex.bares_map,List.length_map];exact hjj,G,by rw[←hra];exact hG⟩)
   clear h HG HT HQ hL hjj
   subst hra
   go_wp2_with fail
   exact HZ
end Go.Proofs.YtmdejbphoafjlaaGreatDoor
