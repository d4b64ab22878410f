import Derived.Test.YtgholpilmdebmaaGreatDoorZ27
set_option maxHeartbeats 100000000
set_option maxRecDepth 100000
namespace Go.Proofs.YtgholpilmdebmaaGreatDoor
open Go.RowKit Go.Lib
structure StNode (l:List Sc) (k tk tn:Int) (name:List Int) (m:Nat):Prop where
 k0:0≤k
 k7:k≤7
 nm:k=0→1≤name.length
 ty:k=0→tk=3∨tk=6→0≤tn∧tn<l.length
 two:k=1→2≤m
 one:k=2∨k=3∨k=5∨k=6∨k=7→1≤m
inductive St.Fine (l:List Sc):St→Prop
 | mk {k n tk tn:Int}{name:List Int}{kids:List Ex}{body els:List St}(h:StNode l k tk tn name kids.length) (hm:body.length≤1000000∧els.length≤1000000) (hk:∀ x∈kids,Ex.Fine l x) (hb:∀ x∈body,St.Fine l x) (he:∀ x∈els,St.Fine l x):St.Fine l (.mk k n tk tn name kids body els)
theorem says_flat (l:List Sc) (ss:List St):St.says l ss=(ss.map (St.say l)).flatten:=by
 induction ss with
 | nil=>rw[St.says];rfl
 | cons x r ih=>rw[St.says,List.map_cons,List.flatten_cons,ih]
theorem say_two {l:List Sc}{x:Ex}(h:Ex.Fine l x):2≤(Ex.say l x).length:=by
 cases h with
 | @mk k n tk tn name kids h hs =>
 rw[Ex.say];have hd:=zcz n;have hh:=zdx n;obtain rfl|rfl|rfl|rfl|rfl|rfl|rfl|rfl|rfl|rfl|rfl|rfl|rfl|rfl:=fourteen h.k0 h.k13
 ·show 2≤(32::decL n).length;rw[List.length_cons];omega
 ·show 2≤(32::hexL n).length;rw[List.length_cons];omega
 ·show 2≤([32,110,105,108,32]++nmAt l n).length;simp
 ·have:=h.nm (.inl rfl);show 2≤(32::name).length;rw[List.length_cons];omega
 ·show 2≤([32,110,101,119,32]++nmAt l n).length;simp
 ·show 2≤(headL l 5 tk tn name++[32,40]++joinL (Ex.says l kids)++[32,41]).length;simp;omega
 ·show 2≤(headL l 6 tk tn name++[32,40]++joinL (Ex.says l kids)++[32,41]).length;simp;omega
 ·show 2≤(kidL (Ex.says l kids) 0++[32,46,32]++name).length;simp;omega
 ·show 2≤(kidL (Ex.says l kids) 0++[32,91]++kidL (Ex.says l kids) 1++[32,93]).length;simp;omega
 ·show 2≤(headL l 9 tk tn name++[32,40]++joinL (Ex.says l kids)++[32,41]).length;simp;omega
 ·show 2≤([32,40]++kidL (Ex.says l kids) 0++(32::opL n)++kidL (Ex.says l kids) 1++[32,41]).length;simp
 ·show 2≤[32,114,101,97,100].length;simp
 ·show 2≤(headL l 12 tk tn name++[32,40]++joinL (Ex.says l kids)++[32,41]).length;simp;omega
 ·show 2≤(headL l 13 tk tn name++[32,40]++joinL (Ex.says l kids)++[32,41]).length;simp;omega
theorem blk_all {W:World}{l:List Sc}{sv:Value}(hl:RdL W 2 sv (Sc.dats l)) (hnm:NamesFit l) (N:Nat):∀ (ss:List St) (v:Value),St.szs ss<N→ss.length≤1000000→(∀ x∈ss,St.Fine l x)→RdL W 8 v (St.dats ss)→Blk W sv v (St.says l ss):=by
 induction N with
 | zero=>intro ss v hx;exact absurd hx (Nat.not_lt_zero _)
 | succ N ih =>
  intro ss v hN hm hf hr;obtain⟨a1,cap1,rfl,hsl⟩:=St.slice hr;rw[says_flat];have hlen:(ss.map (St.say l)).length=ss.length:=List.length_map _;have key:=blk_one W sv l hl hnm a1 cap1 (ss.map (St.say l)) (by rw[hlen];omega) (fun j hj=>?_)
  ·rw[hlen]at key;exact key
  have hj':j<ss.length:=by rw[hlen]at hj;exact hj
  rw[hlen,List.getElem_map];obtain⟨g,off,v0,v1,v2,v3,rfl,hgs,c0,c1,c2,c3,c4,c5,c6,c7,r0,r1,r2,r3⟩:=St.elem hr j hj';have hsz:=St.sz_at ss j hj';have hF:=hf _ (List.getElem_mem hj')
  generalize ss[j]=x at *
  cases hF with
  | @mk k n tk tn name kids body els h hmb hk hb he =>
  replace r0:RdN W v0 name:=r0
  replace r1:RdL W 6 v1 (Ex.dats kids):=r1
  replace r2:RdL W 8 v2 (St.dats body):=r2
  replace r3:RdL W 8 v3 (St.dats els):=r3
  rw[St.sz]at hsz;have hB:=ih body v2 (by omega) hmb.1 hb r2;have hE:=ih els v3 (by omega) hmb.2 he r3;obtain⟨y0,t0,rfl,_⟩:=r0.slice;obtain⟨y1,t1,rfl,_⟩:=Ex.slice r1;obtain⟨y2,t2,rfl,_⟩:=St.slice r2;obtain⟨y3,t3,rfl,_⟩:=St.slice r3;have hK:∀ (i:Nat) (hi:i<kids.length),Kid W sv (.slice y1 kids.length t1) kids.length i (Ex.say l kids[i]):=fun i hi=>kid_of r1 i hi rfl (fun A w v u0 u1 zs q0 q1 qB qb=>say_any hl hnm kids[i] (hk _ (List.getElem_mem hi)) A w v u0 u1 zs q0 q1 qB qb);refine⟨g,off,cap1,k,n,tk,tn,y0,y1,y2,y3,name.length,kids.length,body.length,els.length,t0,t1,t2,t3,rfl,hgs,fun w' hw=>?_,?_⟩
  ·exact⟨by rw[hw.cell (p:=⟨g,off+j*8,none⟩) hgs];exact c0,by rw[hw.cell (p:=⟨g,off+j*8+1,none⟩) hgs];exact c1,by rw[hw.cell (p:=⟨g,off+j*8+2,none⟩) hgs];exact c2,by rw[hw.cell (p:=⟨g,off+j*8+3,none⟩) hgs];exact c3,by rw[hw.cell (p:=⟨g,off+j*8+4,none⟩) hgs];exact c4,by rw[hw.cell (p:=⟨g,off+j*8+5,none⟩) hgs];exact c5,by rw[hw.cell (p:=⟨g,off+j*8+6,none⟩) hgs];exact c6,by rw[hw.cell (p:=⟨g,off+j*8+7,none⟩) hgs];exact c7⟩
  have hk0:∀ (i:0<kids.length),kidL (Ex.says l kids) 0=Ex.say l kids[0]:=fun i=>Ex.says_at l kids 0 i;have hk1:∀ (i:1<kids.length),kidL (Ex.says l kids) 1=Ex.say l kids[1]:=fun i=>Ex.says_at l kids 1 i;refine⟨h.k0,h.k7,fun e=>?_,fun e=>?_,fun e=>?_,fun e=>?_,fun e=>?_,fun e=>?_,fun e=>?_,fun e=>?_⟩
  ·subst e;exact⟨name,r0,h.nm rfl,h.ty rfl,rfl⟩
  ·subst e;have h2:=h.two rfl;exact⟨kids.length,Ex.say l kids[0],Ex.say l kids[1],hK 0 (by omega),hK 1 (by omega),say_two (hk _ (List.getElem_mem (by omega))),by rw[←hk0 (by omega),← hk1 (by omega)];rfl⟩
  ·subst e;have h2:=h.one (.inl rfl);exact⟨Ex.say l kids[0],St.says l body,St.says l els,⟨_,hK 0 h2⟩,hB,hE,by rw[←hk0 h2];rfl⟩
  ·subst e;have h2:=h.one (.inr (.inl rfl));exact⟨Ex.say l kids[0],St.says l body,⟨_,hK 0 h2⟩,hB,by rw[←hk0 h2];rfl⟩
  ·subst e;rcases Nat.eq_zero_or_pos kids.length with h0|h2
   ·right
    refine⟨y1,t1,by rw[h0],?_⟩;have:kids=[]:=List.eq_nil_of_length_eq_zero h0;subst this;rfl
   ·left
    exact⟨Ex.say l kids[0],⟨_,hK 0 h2⟩,by rw[←hk0 h2];rfl⟩
  ·subst e;have h2:=h.one (.inr (.inr (.inl rfl)));exact⟨Ex.say l kids[0],⟨_,hK 0 h2⟩,by rw[←hk0 h2];rfl⟩
  ·subst e;have h2:=h.one (.inr (.inr (.inr (.inl rfl))));exact⟨Ex.say l kids[0],⟨_,hK 0 h2⟩,by rw[←hk0 h2];rfl⟩
  ·subst e;have h2:=h.one (.inr (.inr (.inr (.inr rfl))));exact⟨Ex.say l kids[0],⟨_,hK 0 h2⟩,by rw[←hk0 h2];rfl⟩
theorem blk_any {W:World}{l:List Sc}{sv:Value}(hl:RdL W 2 sv (Sc.dats l)) (hnm:NamesFit l) (ss:List St) (v:Value) (hm:ss.length≤1000000) (hf:∀ x∈ss,St.Fine l x) (hr:RdL W 8 v (St.dats ss)):Blk W sv v (St.says l ss) :=
 blk_all hl hnm _ ss v (Nat.lt_succ_self _) hm hf hr
def TyOk (l:List Sc) (tk tn:Int):Prop:=tk=3∨tk=6→0≤tn∧tn<l.length
structure PaFine (l:List Sc) (x:Pa):Prop where
 nm:1≤x.name.length
 ty:TyOk l x.tk x.tn
structure FuFine (l:List Sc) (x:Fu):Prop where
 nm:1≤x.name.length
 ps:∀ p∈x.params,PaFine l p
 few:x.params.length≤1000
 ty:TyOk l x.rk x.rn
 few2:x.body.length≤1000000
 body:∀ s∈x.body,St.Fine l s
structure SoFine (x:So):Prop where
 names:NamesFit x.structs
 fs:∀ s∈x.structs,∀ p∈s.fields,PaFine x.structs p
 few:∀ s∈x.structs,s.fields.length≤1000
 fu:∀ f∈x.funcs,FuFine x.structs f
 few1:x.structs.length≤1000
 few2:x.funcs.length≤1000
 len:x.text.length≤1000000
theorem fieldsL_app (l:List Sc) (x y:List Pa):fieldsL l (x++y)=fieldsL l x++fieldsL l y:=by
 induction x with
 | nil=>rfl
 | cons a r ih=>rw[List.cons_append,fieldsL,fieldsL,ih];simp only[List.append_assoc]
theorem scsL_app (l:List Sc) (x y:List Sc):scsL l (x++y)=scsL l x++scsL l y:=by
 induction x with
 | nil=>rfl
 | cons a r ih=>rw[List.cons_append,scsL,scsL,ih];simp only[List.append_assoc]
theorem fusL_app (l:List Sc) (x y:List Fu):fusL l (x++y)=fusL l x++fusL l y:=by
 induction x with
 | nil=>rfl
 | cons a r ih=>rw[List.cons_append,fusL,fusL,ih];simp only[List.append_assoc]
theorem take_snoc {α:Type}(xs:List α) (j:Nat) (h:j<xs.length):xs.take (j+1)=xs.take j++[xs[j]]:=by
 rw[List.take_add_one,List.getElem?_eq_getElem h];rfl
theorem fieldsL_step (l:List Sc) (xs:List Pa) (j:Nat) (h:j<xs.length):fieldsL l (xs.take (j+1))=fieldsL l (xs.take j)++(paL l xs[j]++[32,59,10]):=by
 rw[take_snoc xs j h,fieldsL_app,fieldsL,fieldsL,List.append_nil]
theorem scsL_step (l:List Sc) (xs:List Sc) (j:Nat) (h:j<xs.length):scsL l (xs.take (j+1))=scsL l (xs.take j)++scL l xs[j]:=by
 rw[take_snoc xs j h,scsL_app,scsL,scsL,List.append_nil]
theorem fusL_step (l:List Sc) (xs:List Fu) (j:Nat) (h:j<xs.length):fusL l (xs.take (j+1))=fusL l (xs.take j)++fuL l xs[j]:=by
 rw[take_snoc xs j h,fusL_app,fusL,fusL,List.append_nil]
theorem fieldsL_pre (l:List Sc) (xs:List Pa) (j:Nat):(fieldsL l (xs.take j)).length≤(fieldsL l xs).length:=by
 have:=fieldsL_app l (xs.take j) (xs.drop j);rw[List.take_append_drop]at this;rw[this,List.length_append];omega
theorem scsL_pre (l:List Sc) (xs:List Sc) (j:Nat):(scsL l (xs.take j)).length≤(scsL l xs).length:=by
 have:=scsL_app l (xs.take j) (xs.drop j);rw[List.take_append_drop]at this;rw[this,List.length_append];omega
theorem fusL_pre (l:List Sc) (xs:List Fu) (j:Nat):(fusL l (xs.take j)).length≤(fusL l xs).length:=by
 have:=fusL_app l (xs.take j) (xs.drop j);rw[List.take_append_drop]at this;rw[this,List.length_append];omega
theorem print_any (x:So) (hx:SoFine x) (W w:World) (v0 v1:Value) (hW:Later W w) (h0:RdL W 2 v0 (Sc.dats x.structs)) (h1:RdL W 5 v1 (Fu.dats x.funcs)) :
  Calls Tryz.prog 21 #[.agg #[v0,v1]] w (SayP w W x.text):=by
 obtain⟨l,fu⟩:=x
 replace h0:RdL W 2 v0 (Sc.dats l):=h0
 replace h1:RdL W 5 v1 (Fu.dats fu):=h1
 obtain⟨i0,hi,hz0,hz1,hz2⟩:=info_parts Tryz.info5;obtain⟨sa,scap,rfl,hsl⟩:=Sc.slice h0;obtain⟨fa,fcap,rfl,hfl⟩:=Fu.slice h1;have hnm:NamesFit l:=hx.names;have hfs:∀ s∈l,∀ p∈s.fields,PaFine l p:=hx.fs;have hfew:∀ s∈l,s.fields.length≤1000:=hx.few;have hfu:∀ f∈fu,FuFine l f:=hx.fu;have hf1:l.length≤1000:=hx.few1;have hf2:fu.length≤1000:=hx.few2;have htx:(scsL l l).length+(fusL l fu).length≤1000000:=by have:=hx.len;rw[show (So.mk l fu).text=scsL l l++fusL l fu from rfl,List.length_append]at this;exact this
 show Calls Tryz.prog 21 #[.agg #[.slice sa l.length scap,.slice fa fu.length fcap]] w (SayP w W (scsL l l++fusL l fu))
 obtain⟨w1,hw1⟩:∃ w1,Hid (w1=w.alloc (.cells #[.slice sa l.length scap,.slice fa fu.length fcap] 46)):=⟨_,rfl⟩
 have hbx:BxT w.heap.size w1 [.slice sa l.length scap,.slice fa fu.length fcap] 46:=by rw[hw1.out];exact BxT.new w _ _
 have hL1:Later w w1:=by rw[hw1.out];exact later1 _ _
 have hA1:Bf w1 W w1 (.slice none 0 0) []:=⟨World.ownsRow_nil _ _ _ _,hW.trans hL1,K8.refl _⟩
 have HQ0:Hid (∀ w',K8 w1 w'→w'.cell? ⟨w.heap.size,0,none⟩=some (.slice sa l.length scap)):=hbx.at (by decide) 0 _ rfl;have HQ1:Hid (∀ w',K8 w1 w'→w'.cell? ⟨w.heap.size,1,none⟩=some (.slice fa fu.length fcap)):=hbx.at (by decide) 1 _ rfl
 have HF:Hid (∀ v' w',Bf w1 W w' v' (scsL l l++fusL l fu)→SayP w W (scsL l l++fusL l fu) (.returned v') w'):=fun v' w' h=>⟨v',rfl,h.back hL1.k8⟩
 have HT:Hid (∀ tk tn:Int,TyOk l tk tn→∀ A w v zs,Bf A W w v zs→zs.length≤1000000→Calls Tryz.prog 36 #[v,.agg #[.int .i64 tk,.int .i64 tn],.slice sa l.length scap] w (SayP A W (zs++sayTy l tk tn))):=fun tk tn hk A w v zs h hb=>sayTy_any A W w v zs l tk tn _ h hb h0 hk hnm;have HB:Hid (∀ f∈fu,∀ v,RdL W 8 v (St.dats f.body)→Blk W (.slice sa l.length scap) v (St.says l f.body)):=fun f hf v hv=>blk_any h0 hnm f.body v (hfu f hf).few2 (hfu f hf).body hv;have HE:Hid (∀ (j:Nat) (hj:j<l.length),∃ g off u0 u1,sa=some ⟨g,off,none⟩∧g<W.heap.size∧W.cell? ⟨g,off+j*2,none⟩=some u0∧W.cell? ⟨g,off+j*2+1,none⟩=some u1∧RdN W u0 l[j].name∧RdL W 3 u1 (Pa.dats l[j].fields)):=fun j hj=>Sc.elem h0 j hj
 have HP:Hid ((∀ s∈l,∀ p∈s.fields,PaFine l p)∧(∀ s∈l,s.fields.length≤1000)∧NamesFit l):=⟨hfs,hfew,hnm⟩
 have HFu:Hid ((∀ f∈fu,FuFine l f)∧∀ (j:Nat) (hj:j<fu.length),∃ g off v0 v1 v2,fa=some ⟨g,off,none⟩∧g<W.heap.size∧W.cell? ⟨g,off+j*5,none⟩=some (v0)∧W.cell? ⟨g,off+j*5+1,none⟩=some (v1)∧W.cell? ⟨g,off+j*5+2,none⟩=some (.int .i64 fu[j].rk)∧W.cell? ⟨g,off+j*5+3,none⟩=some (.int .i64 fu[j].rn)∧W.cell? ⟨g,off+j*5+4,none⟩=some (v2)∧RdN W v0 fu[j].name∧RdL W 3 v1 (Pa.dats fu[j].params)∧RdL W 8 v2 (St.dats fu[j].body)):=⟨hfu,fun j hj=>Fu.elem h1 j hj⟩
 generalize hQ:SayP w W (scsL l l++fusL l fu)=Q
 rw[hQ]at HF;clear hQ hx hnm hfs hfew hfu h0 h1 hbx;go_enter Tryz.func21,Tryz.ntmps21;go_wp2_with fail
 rw[←hw1.out];go_loopw [3,4] (fun b i wr=>∃ j:Nat,i=.int .i64 (j:Int)∧j≤l.length∧Bf w1 W wr b (scsL l (l.take j))) (fun _ i _=>l.length - (intOf i).toNat)
 case atStart=>exact⟨0,rfl,Nat.zero_le _,hA1⟩
 case round =>
  obtain⟨j,rfl,hj,hbr⟩:=hrel;obtain⟨ar,Mr,pr,rfl,hMr⟩:=hbr.shape2;have qr:=HQ0.out _ hbr.3;have hpre:=scsL_pre l l j;by_cases hlt:j<l.length
  ·as_aux_lemma =>
    obtain⟨g,off,u0,u1,rfl,hgW,e0,e1,r0,r1⟩:=HE.out j hlt;have i1:(j:Int)<(l.length:Int):=by omega
    have hss:=scsL_step l l j hlt;have hsp:=scsL_pre l l (j+1);obtain⟨hn1,hn2⟩:=HP.out.2.2 l[j] (List.getElem_mem hlt);have hPf:=HP.out.1 l[j] (List.getElem_mem hlt);have hPn:=HP.out.2.1 l[j] (List.getElem_mem hlt);have hsc:scL l l[j]=[116,121,112,101,32]++l[j].name++[32,115,116,114,117,99,116,32,123,10]++fieldsL l l[j].fields++[125,10]:=rfl;have HN:Hid (∀ v' w',Bf w1 W w' v' (scsL l (l.take j)++([116,121,112,101,32]++l[j].name++[32,115,116,114,117,99,116,32,123,10]++fieldsL l l[j].fields++[125,10]))→Bf w1 W w' v' (scsL l (l.take (j+1)))):=fun v' w' h=>by rw[hss,hsc];exact h
    rw[hss,hsc]at hsp;simp only[List.length_append,List.length_cons,List.length_nil]at hsp;clear hss hsc hpre
    generalize scsL l (l.take j)=zj at *
    generalize l[j].name=nm at *
    generalize l[j].fields=fs at *
    obtain⟨g0,off0,q,rfl,hg0,hcells⟩:=zbm r0 hn1;obtain⟨a2,cap2,rfl,hsl2⟩:=Pa.slice r1;have HC:Hid _:=hcells
    obtain⟨X,hX⟩:∃ X,Hid (X=nm.map (Value.int .u8)):=⟨_,rfl⟩
    have hXl:X.length=nm.length:=by rw[hX.out];simp
    have hX1:∀ u∈X,u.oneCell'=true:=by rw[hX.out];exact zbe nm
    rw[←hX.out]at HC;have HS0:Hid (∀ w',Later W w'→w'.cell? ⟨g,off+j*2,none⟩=some (.slice (some ⟨g0,off0,none⟩) nm.length q)):=fun w' hw=>by rw[hw.cell (p:=⟨g,off+j*2,none⟩) hgW];exact e0
    have HS1:Hid (∀ w',Later W w'→w'.cell? ⟨g,off+j*2+1,none⟩=some (.slice a2 fs.length cap2)):=fun w' hw=>by rw[hw.cell (p:=⟨g,off+j*2+1,none⟩) hgW];exact e1
    have HEf:Hid (∀ (k:Nat) (hk:k<fs.length),∃ g off v0,a2=some ⟨g,off,none⟩∧g<W.heap.size∧W.cell? ⟨g,off+k*3,none⟩=some v0∧W.cell? ⟨g,off+k*3+1,none⟩=some (.int .i64 fs[k].tk)∧W.cell? ⟨g,off+k*3+2,none⟩=some (.int .i64 fs[k].tn)∧RdN W v0 fs[k].name):=fun k hk=>Pa.elem r1 k hk;have HPf:Hid _:=hPf
    have HS:Hid (∀ w',K8 w1 w'→Later W w'→(fun w'=>w'.cell? ⟨w.heap.size,0,none⟩=some (.slice (some ⟨g,off,none⟩) l.length scap)∧w'.cell? ⟨g,off+j*2,none⟩=some (.slice (some ⟨g0,off0,none⟩) nm.length q)) w'):=fun w' k8 la=>⟨HQ0.out _ k8,HS0.out _ la⟩
    have hB0:=hbr.later (Later.drew _);have hlj:zj.length=zj.length:=rfl;clear hcells r0 r1 e0 e1 hPf HP HE;go_wp2_with fail
    go_region_held3 (fun w'=>w'.cell? ⟨w.heap.size,0,none⟩=some (.slice (some ⟨g,off,none⟩) l.length scap)∧w'.cell? ⟨g,off+j*2,none⟩=some (.slice (some ⟨g0,off0,none⟩) nm.length q))
     (first|exact HS.out _ hb5.3 hb5.2|exact HS.out _ hb3.3 hb3.2|exact HS.out _ hB0.3 hB0.2)
     (first
     | ((have _g:=hb3);(refine zab rfl _ _ 22 rfl W.heap.size 5 i0 (.int .u8 0) 1 1 Tryz.underlying22 hi hz0 hz1 hz2 rfl (by decide) (.slice a3 M3 p3) _ _ rfl hb3.1 ⟨g0,off0,none⟩ nm.length q X rfl (by rw[hXl,Nat.mul_one]) (HC.out _ hb3.2) hX1 (by rw[hl3];unfold maxLen;omega) (by rw[hl3];omega) hb3.2.size ?_;intro v5 w5 o5 g5;have hb5:=hb3.put o5 rfl hX.out g5))
     | (refine zad rfl _ _ 22 9 rfl W.heap.size 5 i0 Tryz.underlying22 Tryz.underlying9 hi hz0 hz1 hz2 (.slice ar Mr pr) _ _ rfl hB0.1 _ rfl (by show _+5≤maxLen;unfold maxLen;omega) (by show _+5≤_;omega) hB0.2.size ?_;intro v3 w3 o3 g3;have hb3:Bf w1 W w3 v3 (zj++[116,121,112,101,32]):=hB0.put o3 rfl rfl g3;have hl3:(zj++[116,121,112,101,32]).length=zj.length+5:=(by simp);obtain⟨a3,M3,p3,rfl,hM3⟩:=hb3.shape2)
     | fail "none")
    all_goals
     have hl5:(zj++[116,121,112,101,32]++nm).length=zj.length+5+nm.length:=by simp;omega
     obtain⟨a5,M5,p5,rfl,hM5⟩:=hb5.shape2;go_wp2_with (at_builtin;refine Go.Lib.wpList_append_own_string _ rfl _ _ 22 9 rfl W.heap.size 5 i0 Tryz.underlying22 Tryz.underlying9 hi hz0 hz1 hz2 (.slice a5 M5 p5) _ _ rfl hb5.1 _ rfl (by rw[hl5];show _+10≤maxLen;unfold maxLen;omega) (by rw[hl5];show _+10≤_;omega) hb5.2.size ?_;intro v6 w6 o6 g6 _;have hb6:=hb5.put o6 (ts:=[32,115,116,114,117,99,116,32,123,10]) rfl rfl g6;have hl6:(zj++[116,121,112,101,32]++nm++[32,115,116,114,117,99,116,32,123,10]).length=zj.length+5+nm.length+10:=(by rw[List.length_append,hl5];rfl);obtain⟨a6,M6,p6,rfl,hM6⟩:=hb6.shape2)
     have HN2:Hid (∀ v' w',Bf w1 W w' v' ((zj++[116,121,112,101,32]++nm++[32,115,116,114,117,99,116,32,123,10])++fieldsL l fs++[125,10])→Bf w1 W w' v' (scsL l (l.take (j+1)))):=fun v' w' h=>HN.out _ _ (by simpa only[List.append_assoc] using h);clear HN hb3 hb5 hB0 hbr
     generalize (zj++[116,121,112,101,32]++nm++[32,115,116,114,117,99,116,32,123,10])=zk at *
     go_loopw [3,5] (fun b k wk=>∃ kk:Nat,k=.int .i64 (kk:Int)∧kk≤fs.length∧Bf w1 W wk b (zk++fieldsL l (fs.take kk))) (fun _ k _=>fs.length - (intOf k).toNat)
     case atStart=>exact⟨0,rfl,Nat.zero_le _,by simpa[fieldsL] using hb6⟩
     case round =>
      generalize wr=wk at *
      obtain⟨kk,rfl,hkk,hbk⟩:=hrel;obtain⟨ak,Mk,pk,rfl,hMk⟩:=hbk.shape2;have qk:=HQ0.out _ hbk.3;have qk1:=HS1.out _ hbk.2;have hpk:=fieldsL_pre l fs kk;by_cases hlk:kk<fs.length
      ·obtain⟨g2,off2,x0,rfl,hg2,f0,f1,f2,rf⟩:=HEf.out kk hlk;have i2:(kk:Int)<(fs.length:Int):=by omega
       have hP:=HPf.out fs[kk] (List.getElem_mem hlk);obtain⟨g3,off3,q3,rfl,hg3,hcells3⟩:=zbm rf hP.nm;have hst:=fieldsL_step l fs kk hlk;have hpk1:=fieldsL_pre l fs (kk+1);have HT1:=HT.out fs[kk].tk fs[kk].tn hP.ty;have hpa:paL l fs[kk]=fs[kk].name++sayTy l fs[kk].tk fs[kk].tn:=rfl;have HN3:Hid (∀ v' w',Bf w1 W w' v' (zk++fieldsL l (fs.take kk)++fs[kk].name++sayTy l fs[kk].tk fs[kk].tn++[32,59,10])→Bf w1 W w' v' (zk++fieldsL l (fs.take (kk+1)))):=fun v' w' h=>by rw[hst,hpa];simpa only[List.append_assoc] using h
       rw[hst,hpa]at hpk1;simp only[List.length_append,List.length_cons,List.length_nil]at hpk1;have hlzk:(zk++fieldsL l (fs.take kk)).length=zk.length+(fieldsL l (fs.take kk)).length:=by rw[List.length_append]
       clear hst hpa hpk hP;have f0:wk.cell? ⟨g2,off2+kk*3,none⟩=some (.slice (some ⟨g3,off3,none⟩) fs[kk].name.length q3):=by rw[hbk.2.cell (p:=⟨g2,off2+kk*3,none⟩) hg2];exact f0
       have f1:wk.cell? ⟨g2,off2+kk*3+1,none⟩=some (.int .i64 fs[kk].tk):=by rw[hbk.2.cell (p:=⟨g2,off2+kk*3+1,none⟩) hg2];exact f1
       have f2:wk.cell? ⟨g2,off2+kk*3+2,none⟩=some (.int .i64 fs[kk].tn):=by rw[hbk.2.cell (p:=⟨g2,off2+kk*3+2,none⟩) hg2];exact f2
       have hgk:g2<wk.heap.size:=Nat.lt_of_lt_of_le hg2 hbk.2.size
       generalize zk++fieldsL l (fs.take kk)=zf at *
       generalize fs[kk].name=nn at *
       generalize fs[kk].tk=tk at *
       generalize fs[kk].tn=tn at *
       generalize sayTy l tk tn=ty at *
       have HTy:Hid _:=HT1;have HC2:Hid _:=hcells3
       obtain⟨X2,hX2⟩:∃ X,Hid (X=nn.map (Value.int .u8)):=⟨_,rfl⟩
       have hX2l:X2.length=nn.length:=by rw[hX2.out];simp
       have hX21:∀ u∈X2,u.oneCell'=true:=by rw[hX2.out];exact zbe nn
       rw[←hX2.out]at HC2
       obtain⟨w2,hw2⟩:∃ w2,Hid (w2=wk.alloc (.cells #[.slice (some ⟨g3,off3,none⟩) nn.length q3,.int .i64 tk,.int .i64 tn] 69)):=⟨_,rfl⟩
       have hbx2:BxT wk.heap.size w2 [.slice (some ⟨g3,off3,none⟩) nn.length q3,.int .i64 tk,.int .i64 tn] 69:=by rw[hw2.out];exact BxT.new wk _ _
       have hA2:Bf w2 W w2 (.slice ak Mk pk) zf:=by rw[hw2.out];exact (hbk.alloc _).from
       have hK2:K8 w1 w2:=by rw[hw2.out];exact (hbk.alloc _).3
       have HS2:Hid (∀ w',K8 w2 w'→(fun w'=>w'.cell? ⟨w.heap.size,0,none⟩=some (.slice (some ⟨g,off,none⟩) l.length scap)∧w'.cell? ⟨wk.heap.size,0,none⟩=some (.slice (some ⟨g3,off3,none⟩) nn.length q3)∧w'.cell? ⟨wk.heap.size,1,none⟩=some (.int .i64 tk)∧w'.cell? ⟨wk.heap.size,2,none⟩=some (.int .i64 tn)) w'):=fun w' k8=>⟨HQ0.out _ (hK2.trans k8),hbx2.at (by decide) 0 _ rfl w' k8,hbx2.at (by decide) 1 _ rfl w' k8,hbx2.at (by decide) 2 _ rfl w' k8⟩
       have HN4:Hid (∀ v' w',Bf w2 W w' v' (zf++nn++ty++[32,59,10])→Bf w1 W w' v' (zk++fieldsL l (fs.take (kk+1)))):=fun v' w' h=>HN3.out _ _ (h.back hK2);have hB2:=hA2.later (Later.drew _);clear hbx2 hcells3 rf HT1 HN3;go_wp2_with fail
       rw[←hw2.out]
       go_region_held3 (fun w'=>w'.cell? ⟨w.heap.size,0,none⟩=some (.slice (some ⟨g,off,none⟩) l.length scap)∧w'.cell? ⟨wk.heap.size,0,none⟩=some (.slice (some ⟨g3,off3,none⟩) nn.length q3)∧w'.cell? ⟨wk.heap.size,1,none⟩=some (.int .i64 tk)∧w'.cell? ⟨wk.heap.size,2,none⟩=some (.int .i64 tn))
        (first|exact HS2.out _ hb9.3|exact HS2.out _ hb8.3|exact HS2.out _ hB2.3)
        (first
        | ((have _g:=hb8);(refine zaa rfl 36 en_ty _ _ rfl [.slice a8 M8 p8,.agg #[.int .i64 tk,.int .i64 tn],.slice (some ⟨g,off,none⟩) l.length scap] rfl (fun v w'=>Bf w2 W w' v (zf++nn++ty)) (HTy.out _ _ _ _ hb8 (by rw[hl8];omega)) ?_;intro v9 w9 hb9;obtain⟨a9,M9,p9,rfl,hM9⟩:=hb9.shape2))
        | (refine zab rfl _ _ 22 rfl W.heap.size 5 i0 (.int .u8 0) 1 1 Tryz.underlying22 hi hz0 hz1 hz2 rfl (by decide) (.slice ak Mk pk) _ _ rfl hB2.1 ⟨g3,off3,none⟩ nn.length q3 X2 rfl (by rw[hX2l,Nat.mul_one]) (HC2.out _ hB2.2) hX21 (by rw[hlzk];unfold maxLen;omega) (by rw[hlzk];omega) hB2.2.size ?_;intro v8 w8 o8 g8;have hb8:=hB2.put o8 rfl hX2.out g8;have hl8:(zf++nn).length=zk.length+(fieldsL l (fs.take kk)).length+nn.length:=(by rw[List.length_append,hlzk]);obtain⟨a8,M8,p8,rfl,hM8⟩:=hb8.shape2)
        | fail "none")
       all_goals
        have hl9:(zf++nn++ty).length=zk.length+(fieldsL l (fs.take kk)).length+nn.length+ty.length:=by rw[List.length_append,hl8]
        go_wp2_with (at_builtin;refine Go.Lib.wpList_append_own_string _ rfl _ _ 22 9 rfl W.heap.size 5 i0 Tryz.underlying22 Tryz.underlying9 hi hz0 hz1 hz2 (.slice a9 M9 p9) _ _ rfl hb9.1 _ rfl (by rw[hl9];show _+3≤maxLen;unfold maxLen;omega) (by rw[hl9];show _+3≤_;omega) hb9.2.size ?_;intro v7 w7 o7 g7 _;have hb7:=hb9.put o7 (ts:=[32,59,10]) rfl rfl g7)
        go_roundw
        case rel=>exact⟨kk+1,by go_num,by omega,HN4.out _ _ hb7⟩
        case measure=>simp[intOf];omega
      ·have hke:kk=fs.length:=by omega
       have i2:¬ (kk:Int)<(fs.length:Int):=by omega
       have hte:fs.take kk=fs:=by rw[hke];exact List.take_length
       rw[hte]at hbk hMk;have hlk2:(zk++fieldsL l fs).length=zk.length+(fieldsL l fs).length:=by rw[List.length_append]
       go_wp2_with (at_builtin;refine Go.Lib.wpList_append_own_string _ rfl _ _ 22 9 rfl W.heap.size 5 i0 Tryz.underlying22 Tryz.underlying9 hi hz0 hz1 hz2 (.slice ak Mk pk) _ _ rfl hbk.1 _ rfl (by rw[hlk2];show _+2≤maxLen;unfold maxLen;omega) (by rw[hlk2];show _+2≤_;omega) hbk.2.size ?_;intro v7 w7 o7 g7 _;have hb7:=hbk.put o7 (ts:=[125,10]) rfl rfl g7)
       go_roundw
       case rel=>exact⟨j+1,by go_num,by omega,HN2.out _ _ hb7⟩
       case measure=>simp[intOf];omega
  ·have hje:j=l.length:=by omega
   have i1:¬ (j:Int)<(l.length:Int):=by omega
   have hte:l.take j=l:=by rw[hje];exact List.take_length
   rw[hte]at hbr;clear HP HE hMr hte hje hpre;go_wp2_with fail
   go_loopw [3,7] (fun b i wf=>∃ m:Nat,i=.int .i64 (m:Int)∧m≤fu.length∧Bf w1 W wf b (scsL l l++fusL l (fu.take m))) (fun _ i _=>fu.length - (intOf i).toNat)
   case atStart=>exact⟨0,rfl,Nat.zero_le _,by simpa[fusL] using hbr⟩
   case round =>
    generalize wr=wf at *
    obtain⟨m,rfl,hm,hbf⟩:=hrel;obtain⟨af,Mf,pf,rfl,hMf⟩:=hbf.shape2;have qf:=HQ1.out _ hbf.3;by_cases hlt:m<fu.length
    ·as_aux_lemma =>
      obtain⟨g,off,u0,u1,u2,rfl,hgW,e0,e1,e2,e3,e4,r0,r1,r2⟩:=HFu.out.2 m hlt;have i3:(m:Int)<(fu.length:Int):=by omega
      have hF:=HFu.out.1 fu[m] (List.getElem_mem hlt);have hBk:=HB.out fu[m] (List.getElem_mem hlt) u2 r2;have HTr:=HT.out fu[m].rk fu[m].rn hF.ty;have hn1:=hF.nm;have hps:=hF.ps;have hpf:=hF.few;have hfs:=fusL_step l fu m hlt;have hfp:=fusL_pre l fu (m+1);have hfe:fuL l fu[m]=[102,117,110,99,32]++fu[m].name++[32,40]++joinL (fu[m].params.map fun p=>32::paL l p)++[32,41]++sayTy l fu[m].rk fu[m].rn++blockL (St.says l fu[m].body)++[10]:=rfl;have HN:Hid (∀ v' w',Bf w1 W w' v' (scsL l l++fusL l (fu.take m)++([102,117,110,99,32]++fu[m].name++[32,40]++joinL (fu[m].params.map fun p=>32::paL l p)++[32,41]++sayTy l fu[m].rk fu[m].rn++blockL (St.says l fu[m].body)++[10]))→Bf w1 W w' v' (scsL l l++fusL l (fu.take (m+1)))):=fun v' w' h=>by rw[hfs,hfe,← List.append_assoc];exact h
      rw[hfs,hfe]at hfp;simp only[List.length_append,List.length_cons,List.length_nil]at hfp;have hzl:(scsL l l++fusL l (fu.take m)).length=(scsL l l).length+(fusL l (fu.take m)).length:=by rw[List.length_append]
      clear hfs hfe hF
      generalize scsL l l++fusL l (fu.take m)=zj at *
      generalize fu[m].name=nm at *
      generalize fu[m].params=ps at *
      generalize fu[m].rk=rk at *
      generalize fu[m].rn=rn at *
      generalize fu[m].body=bo at *
      obtain⟨g0,off0,q,rfl,hg0,hcells⟩:=zbm r0 hn1;obtain⟨a2,cap2,rfl,hsl2⟩:=Pa.slice r1;obtain⟨yb,cb,hub,_⟩:=St.slice r2
      obtain⟨mb,hmb⟩:∃ mb,bo.length=mb:=⟨_,rfl⟩
      rw[hmb]at hub;subst hub
      obtain⟨tsz,htsz⟩:∃ ts,Hid (ts=ps.map fun p=>32::paL l p):=⟨_,rfl⟩
      have htl:tsz.length=ps.length:=by rw[htsz.out,List.length_map]
      rw[←htsz.out]at HN hfp
      have htg:Hid (∀ (k:Nat) (h1:k<tsz.length) (h2:k<ps.length),tsz[k]=32::(ps[k].name++sayTy l ps[k].tk ps[k].tn)):=fun k h1 h2=>by
       have:=htsz.out;subst this;rw[List.getElem_map];rfl
      have HTr':Hid _:=HTr;have HBk:Hid _:=hBk
      generalize sayTy l rk rn=tr at *
      generalize blockL (St.says l bo)=tb at *
      have HC:Hid _:=hcells
      obtain⟨X,hX⟩:∃ X,Hid (X=nm.map (Value.int .u8)):=⟨_,rfl⟩
      have hXl:X.length=nm.length:=by rw[hX.out];simp
      have hX1:∀ u∈X,u.oneCell'=true:=by rw[hX.out];exact zbe nm
      rw[←hX.out]at HC;have HEp:Hid (∀ (k:Nat) (hk:k<ps.length),∃ g off v0,a2=some ⟨g,off,none⟩∧g<W.heap.size∧W.cell? ⟨g,off+k*3,none⟩=some v0∧W.cell? ⟨g,off+k*3+1,none⟩=some (.int .i64 ps[k].tk)∧W.cell? ⟨g,off+k*3+2,none⟩=some (.int .i64 ps[k].tn)∧RdN W v0 ps[k].name):=fun k hk=>Pa.elem r1 k hk;have HPp:Hid _:=hps;have hgf:g<wf.heap.size:=Nat.lt_of_lt_of_le hgW hbf.2.size;have e0:wf.cell? ⟨g,off+m*5,none⟩=some (.slice (some ⟨g0,off0,none⟩) nm.length q):=by rw[hbf.2.cell (p:=⟨g,off+m*5,none⟩) hgW];exact e0
      have e1:wf.cell? ⟨g,off+m*5+1,none⟩=some (.slice a2 ps.length cap2):=by rw[hbf.2.cell (p:=⟨g,off+m*5+1,none⟩) hgW];exact e1
      have e2:wf.cell? ⟨g,off+m*5+2,none⟩=some (.int .i64 rk):=by rw[hbf.2.cell (p:=⟨g,off+m*5+2,none⟩) hgW];exact e2
      have e3:wf.cell? ⟨g,off+m*5+3,none⟩=some (.int .i64 rn):=by rw[hbf.2.cell (p:=⟨g,off+m*5+3,none⟩) hgW];exact e3
      have e4:wf.cell? ⟨g,off+m*5+4,none⟩=some (.slice yb mb cb):=by rw[hbf.2.cell (p:=⟨g,off+m*5+4,none⟩) hgW];exact e4
      obtain⟨w2,hw2⟩:∃ w2,Hid (w2=wf.alloc (.cells #[.slice (some ⟨g0,off0,none⟩) nm.length q,.slice a2 ps.length cap2,.int .i64 rk,.int .i64 rn,.slice yb mb cb] 73)):=⟨_,rfl⟩
      have hbx2:BxT wf.heap.size w2 [.slice (some ⟨g0,off0,none⟩) nm.length q,.slice a2 ps.length cap2,.int .i64 rk,.int .i64 rn,.slice yb mb cb] 73:=by rw[hw2.out];exact BxT.new wf _ _
      have hA2:Bf w2 W w2 (.slice af Mf pf) zj:=by rw[hw2.out];exact (hbf.alloc _).from
      have hK2:K8 w1 w2:=by rw[hw2.out];exact (hbf.alloc _).3
      have HQ20:Hid (∀ w',K8 w2 w'→w'.cell? ⟨wf.heap.size,0,none⟩=some (.slice (some ⟨g0,off0,none⟩) nm.length q)):=hbx2.at (by decide) 0 _ rfl;have HQ21:Hid (∀ w',K8 w2 w'→w'.cell? ⟨wf.heap.size,1,none⟩=some (.slice a2 ps.length cap2)):=hbx2.at (by decide) 1 _ rfl;have HQ24:Hid (∀ w',K8 w2 w'→w'.cell? ⟨wf.heap.size,4,none⟩=some (.slice yb mb cb)):=hbx2.at (by decide) 4 _ rfl;have HQs:Hid (∀ w',K8 w2 w'→w'.cell? ⟨w.heap.size,0,none⟩=some (.slice sa l.length scap)):=fun w' k8=>HQ0.out _ (hK2.trans k8)
      have HS5:Hid (∀ w',K8 w2 w'→(fun w'=>w'.cell? ⟨wf.heap.size,2,none⟩=some (.int .i64 rk)∧w'.cell? ⟨wf.heap.size,3,none⟩=some (.int .i64 rn)∧w'.cell? ⟨w.heap.size,0,none⟩=some (.slice sa l.length scap)) w'):=fun w' k8=>⟨hbx2.at (by decide) 2 _ rfl w' k8,hbx2.at (by decide) 3 _ rfl w' k8,HQs.out _ k8⟩
      have HN2:Hid (∀ v' w',Bf w2 W w' v' (zj++([102,117,110,99,32]++nm++[32,40]++joinL tsz++[32,41]++tr++tb++[10]))→Bf w1 W w' v' (scsL l l++fusL l (fu.take (m+1)))):=fun v' w' h=>HN.out _ _ (h.back hK2);have hB2:=hA2.later (Later.drew _);clear hbx2 hcells r0 r1 r2 HTr hBk HN hps HFu HB HF;go_wp2_with fail
      rw[←hw2.out]
      go_region_held3 (fun w'=>w'.cell? ⟨wf.heap.size,0,none⟩=some (.slice (some ⟨g0,off0,none⟩) nm.length q))
       (first|exact HQ20.out _ hb5.3|exact HQ20.out _ hb3.3|exact HQ20.out _ hB2.3)
       (first
       | ((have _g:=hb3);(refine zab rfl _ _ 22 rfl W.heap.size 5 i0 (.int .u8 0) 1 1 Tryz.underlying22 hi hz0 hz1 hz2 rfl (by decide) (.slice a3 M3 p3) _ _ rfl hb3.1 ⟨g0,off0,none⟩ nm.length q X rfl (by rw[hXl,Nat.mul_one]) (HC.out _ hb3.2) hX1 (by rw[hl3];unfold maxLen;omega) (by rw[hl3];omega) hb3.2.size ?_;intro v5 w5 o5 g5;have hb5:=hb3.put o5 rfl hX.out g5))
       | (refine zad rfl _ _ 22 9 rfl W.heap.size 5 i0 Tryz.underlying22 Tryz.underlying9 hi hz0 hz1 hz2 (.slice af Mf pf) _ _ rfl hB2.1 _ rfl (by rw[hzl];show _+5≤maxLen;unfold maxLen;omega) (by rw[hzl];show _+5≤_;omega) hB2.2.size ?_;intro v3 w3 o3 g3;have hb3:Bf w2 W w3 v3 (zj++[102,117,110,99,32]):=hB2.put o3 rfl rfl g3;have hl3:(zj++[102,117,110,99,32]).length=(scsL l l).length+(fusL l (fu.take m)).length+5:=(by rw[List.length_append,hzl];rfl);obtain⟨a3,M3,p3,rfl,hM3⟩:=hb3.shape2)
       | fail "none")
      all_goals
       have hl5:(zj++[102,117,110,99,32]++nm).length=(scsL l l).length+(fusL l (fu.take m)).length+5+nm.length:=by rw[List.length_append,hl3]
       obtain⟨a5,M5,p5,rfl,hM5⟩:=hb5.shape2;go_wp2_with (at_builtin;refine Go.Lib.wpList_append_own_string _ rfl _ _ 22 9 rfl W.heap.size 5 i0 Tryz.underlying22 Tryz.underlying9 hi hz0 hz1 hz2 (.slice a5 M5 p5) _ _ rfl hb5.1 _ rfl (by rw[hl5];show _+2≤maxLen;unfold maxLen;omega) (by rw[hl5];show _+2≤_;omega) hb5.2.size ?_;intro v6 w6 o6 g6 _;have hb6:=hb5.put o6 (ts:=[32,40]) rfl rfl g6)
       have hl6:(zj++[102,117,110,99,32]++nm++[32,40]).length=(scsL l l).length+(fusL l (fu.take m)).length+5+nm.length+2:=by rw[List.length_append,hl5];rfl
       have HN3:Hid (∀ v' w',Bf w2 W w' v' (zj++[102,117,110,99,32]++nm++[32,40]++joinL tsz++[32,41]++tr++tb++[10])→Bf w1 W w' v' (scsL l l++fusL l (fu.take (m+1)))):=fun v' w' h=>HN2.out _ _ (by simpa only[List.append_assoc] using h);clear HN2 hb3 hb5 hl3 hl5 hB2 hA2
       generalize zj++[102,117,110,99,32]++nm++[32,40]=zk at *
       go_loopw [3,9] (fun b k wp=>∃ kk:Nat,k=.int .i64 (kk:Int)∧kk≤ps.length∧Bf w2 W wp b (zk++joinL (tsz.take kk))) (fun _ k _=>ps.length - (intOf k).toNat)
       case atStart=>exact⟨0,rfl,Nat.zero_le _,by simpa[joinL] using hb6⟩
       case round =>
        generalize wr=wp at *
        obtain⟨kk,rfl,hkk,hbp⟩:=hrel;obtain⟨ap,Mp,pp,rfl,hMp⟩:=hbp.shape2;have qp:=HQ21.out _ hbp.3;have hlp:(zk++joinL (tsz.take kk)).length=zk.length+(joinL (tsz.take kk)).length:=by rw[List.length_append]
        by_cases hlk:kk<ps.length
        ·obtain⟨g4,off4,x0,rfl,hg4,f0,f1,f2,rf⟩:=HEp.out kk hlk;have hlk':kk<tsz.length:=by rw[htl];exact hlk
         have i4:(kk:Int)<(ps.length:Int):=by omega
         have hP:=HPp.out ps[kk] (List.getElem_mem hlk);obtain⟨g3,off3,q3,rfl,hg3,hcells3⟩:=zbm rf hP.nm;have hat:=zcm tsz kk hlk';have hst:=zap tsz kk hlk';have hte3:=htg.out kk hlk' hlk;rw[hte3]at hat hst;rw[List.length_cons,List.length_append]at hat;have HT1:=HT.out ps[kk].tk ps[kk].tn hP.ty;have HTy:Hid _:=HT1;have HN0:Hid (∀ v' w',Bf w2 W w' v' (zk++(joinL (tsz.take kk)++(if kk=0 then [] else [32,44])++32::(ps[kk].name++sayTy l ps[kk].tk ps[kk].tn)))→Bf w2 W w' v' (zk++joinL (tsz.take (kk+1)))):=fun v' w' h=>by rw[hst];exact h
         clear hst hte3 hP HT1;have HC2:Hid _:=hcells3
         generalize ps[kk].name=nn at *
         generalize ps[kk].tk=tk at *
         generalize ps[kk].tn=tn at *
         generalize sayTy l tk tn=ty at *
         generalize joinL (tsz.take kk)=jl at *
         obtain⟨X2,hX2⟩:∃ X,Hid (X=nn.map (Value.int .u8)):=⟨_,rfl⟩
         have hX2l:X2.length=nn.length:=by rw[hX2.out];simp
         have hX21:∀ u∈X2,u.oneCell'=true:=by rw[hX2.out];exact zbe nn
         rw[←hX2.out]at HC2
         have HS4:Hid (∀ w',K8 w2 w'→Later W w'→(fun w'=>w'.cell? ⟨wf.heap.size,1,none⟩=some (.slice (some ⟨g4,off4,none⟩) ps.length cap2)∧w'.cell? ⟨w.heap.size,0,none⟩=some (.slice sa l.length scap)∧w'.cell? ⟨g4,off4+kk*3,none⟩=some (.slice (some ⟨g3,off3,none⟩) nn.length q3)∧w'.cell? ⟨g4,off4+kk*3+1,none⟩=some (.int .i64 tk)∧w'.cell? ⟨g4,off4+kk*3+2,none⟩=some (.int .i64 tn)) w'):=fun w' k8 la=>⟨HQ21.out _ k8,HQs.out _ k8,by rw[la.cell (p:=⟨g4,off4+kk*3,none⟩) hg4];exact f0,by rw[la.cell (p:=⟨g4,off4+kk*3+1,none⟩) hg4];exact f1,by rw[la.cell (p:=⟨g4,off4+kk*3+2,none⟩) hg4];exact f2⟩
         clear hcells3 rf HEp HPp htg f0 f1 f2;by_cases hk0:kk=0
         ·rw[if_pos hk0]at hat HN0;have HN4:Hid (∀ v' w',Bf w2 W w' v' (zk++jl++[32]++nn++ty)→Bf w2 W w' v' (zk++joinL (tsz.take (kk+1)))):=fun v' w' h=>HN0.out _ _ (by simpa only[List.append_assoc,List.nil_append,List.cons_append,List.append_nil] using h);have i5:¬ (0:Int)<(kk:Int):=by omega
          clear hk0 HN0;have hB4:=hbp.later (Later.drew _);have hB5:=(hbp.alloc (.cells #[.int .u8 32] 5)).later (Later.drew _);have hS5:=Later.ones (Later.drew (wp.alloc (.cells #[.int .u8 32] 5))) (g:=wp.heap.size) (by simp) (zaq wp 32);go_wp2_with fail
          go_region_held3 (fun w'=>w'.cell? ⟨wf.heap.size,1,none⟩=some (.slice (some ⟨g4,off4,none⟩) ps.length cap2)∧w'.cell? ⟨w.heap.size,0,none⟩=some (.slice sa l.length scap)∧w'.cell? ⟨g4,off4+kk*3,none⟩=some (.slice (some ⟨g3,off3,none⟩) nn.length q3)∧w'.cell? ⟨g4,off4+kk*3+1,none⟩=some (.int .i64 tk)∧w'.cell? ⟨g4,off4+kk*3+2,none⟩=some (.int .i64 tn))
           (first|exact HS4.out _ hbB.3 hbB.2|exact HS4.out _ hbA.3 hbA.2|exact HS4.out _ hb9.3 hb9.2|exact HS4.out _ hB5.3 hB5.2|exact HS4.out _ hB4.3 hB4.2)
           (first
           | ((have _g:=hbA);(refine zaa rfl 36 en_ty _ _ rfl [.slice aA MA pA,.agg #[.int .i64 tk,.int .i64 tn],.slice sa l.length scap] rfl (fun v w'=>Bf w2 W w' v (zk++jl++[32]++nn++ty)) (HTy.out _ _ _ _ hbA (by rw[hlA];omega)) ?_;intro vB wB hbB))
           | ((have _g:=hb9);(refine zab rfl _ _ 22 rfl W.heap.size 5 i0 (.int .u8 0) 1 1 Tryz.underlying22 hi hz0 hz1 hz2 rfl (by decide) (.slice a9 M9 p9) _ _ rfl hb9.1 ⟨g3,off3,none⟩ nn.length q3 X2 rfl (by rw[hX2l,Nat.mul_one]) (HC2.out _ hb9.2) hX21 (by rw[hl9];unfold maxLen;omega) (by rw[hl9];omega) hb9.2.size ?_;intro vA wA oA gA;have hbA:=hb9.put oA rfl hX2.out gA;have hlA:(zk++jl++[32]++nn).length=zk.length+jl.length+1+nn.length:=(by rw[List.length_append,hl9]);obtain⟨aA,MA,pA,rfl,hMA⟩:=hbA.shape2))
           | (refine zab rfl _ _ 22 rfl W.heap.size 5 i0 (.int .u8 0) 1 1 Tryz.underlying22 hi hz0 hz1 hz2 rfl (by decide) (.slice ap Mp pp) _ _ rfl hB5.1 ⟨_,0,none⟩ 1 1 [.int .u8 32] rfl rfl hS5 (by simp[Value.oneCell']) (by rw[hlp];unfold maxLen;omega) (by rw[hlp];omega) hB5.2.size ?_;intro v9 w9 o9 g9;have hb9:Bf w2 W w9 v9 (zk++jl++[32]):=hB5.put o9 rfl rfl g9;have hl9:(zk++jl++[32]).length=zk.length+jl.length+1:=(by rw[List.length_append,hlp];rfl);obtain⟨a9,M9,p9,rfl,hM9⟩:=hb9.shape2)
           | fail "none")
          all_goals
           go_wp2_with fail
           go_roundw
           case rel=>exact⟨kk+1,by go_num,by omega,HN4.out _ _ (by simpa only[List.append_assoc] using hbB)⟩
           case measure=>simp[intOf];omega
         ·rw[if_neg hk0]at hat HN0;have HN4:Hid (∀ v' w',Bf w2 W w' v' (zk++jl++[32,44]++[32]++nn++ty)→Bf w2 W w' v' (zk++joinL (tsz.take (kk+1)))):=fun v' w' h=>HN0.out _ _ (by simpa only[List.append_assoc,List.nil_append,List.cons_append,List.append_nil] using h);have i5:(0:Int)<(kk:Int):=by omega
          clear hk0 HN0;go_wp2_with (at_builtin;refine Go.Lib.wpList_append_own_string _ rfl _ _ 22 9 rfl W.heap.size 5 i0 Tryz.underlying22 Tryz.underlying9 hi hz0 hz1 hz2 (.slice ap Mp pp) _ _ rfl hbp.1 _ rfl (by rw[hlp];show _+2≤maxLen;unfold maxLen;omega) (by rw[hlp];show _+2≤_;omega) hbp.2.size ?_;intro v8 w8 o8 g8 _;have hb8:=hbp.put o8 (ts:=[32,44]) rfl rfl g8;have hl8:(zk++jl++[32,44]).length=zk.length+jl.length+2:=(by rw[List.length_append,hlp];rfl);obtain⟨a8,M8,p8,rfl,hM8⟩:=hb8.shape2)
          have hB4:=hb8.later (Later.drew _);have hB5:=(hb8.alloc (.cells #[.int .u8 32] 5)).later (Later.drew _);have hS5:=Later.ones (Later.drew (w8.alloc (.cells #[.int .u8 32] 5))) (g:=w8.heap.size) (by simp) (zaq w8 32);go_wp2_with fail
          go_region_held3 (fun w'=>w'.cell? ⟨wf.heap.size,1,none⟩=some (.slice (some ⟨g4,off4,none⟩) ps.length cap2)∧w'.cell? ⟨w.heap.size,0,none⟩=some (.slice sa l.length scap)∧w'.cell? ⟨g4,off4+kk*3,none⟩=some (.slice (some ⟨g3,off3,none⟩) nn.length q3)∧w'.cell? ⟨g4,off4+kk*3+1,none⟩=some (.int .i64 tk)∧w'.cell? ⟨g4,off4+kk*3+2,none⟩=some (.int .i64 tn))
           (first|exact HS4.out _ hbB.3 hbB.2|exact HS4.out _ hbA.3 hbA.2|exact HS4.out _ hb9.3 hb9.2|exact HS4.out _ hB5.3 hB5.2|exact HS4.out _ hB4.3 hB4.2)
           (first
           | ((have _g:=hbA);(refine zaa rfl 36 en_ty _ _ rfl [.slice aA MA pA,.agg #[.int .i64 tk,.int .i64 tn],.slice sa l.length scap] rfl (fun v w'=>Bf w2 W w' v (zk++jl++[32,44]++[32]++nn++ty)) (HTy.out _ _ _ _ hbA (by rw[hlA];omega)) ?_;intro vB wB hbB))
           | ((have _g:=hb9);(refine zab rfl _ _ 22 rfl W.heap.size 5 i0 (.int .u8 0) 1 1 Tryz.underlying22 hi hz0 hz1 hz2 rfl (by decide) (.slice a9 M9 p9) _ _ rfl hb9.1 ⟨g3,off3,none⟩ nn.length q3 X2 rfl (by rw[hX2l,Nat.mul_one]) (HC2.out _ hb9.2) hX21 (by rw[hl9];unfold maxLen;omega) (by rw[hl9];omega) hb9.2.size ?_;intro vA wA oA gA;have hbA:=hb9.put oA rfl hX2.out gA;have hlA:(zk++jl++[32,44]++[32]++nn).length=zk.length+jl.length+2+1+nn.length:=(by rw[List.length_append,hl9]);obtain⟨aA,MA,pA,rfl,hMA⟩:=hbA.shape2))
           | (refine zab rfl _ _ 22 rfl W.heap.size 5 i0 (.int .u8 0) 1 1 Tryz.underlying22 hi hz0 hz1 hz2 rfl (by decide) (.slice a8 M8 p8) _ _ rfl hB5.1 ⟨_,0,none⟩ 1 1 [.int .u8 32] rfl rfl hS5 (by simp[Value.oneCell']) (by rw[hl8];unfold maxLen;omega) (by rw[hl8];omega) hB5.2.size ?_;intro v9 w9 o9 g9;have hb9:Bf w2 W w9 v9 (zk++jl++[32,44]++[32]):=hB5.put o9 rfl rfl g9;have hl9:(zk++jl++[32,44]++[32]).length=zk.length+jl.length+2+1:=(by rw[List.length_append,hl8];rfl);obtain⟨a9,M9,p9,rfl,hM9⟩:=hb9.shape2)
           | fail "none")
          all_goals
           go_wp2_with fail
           go_roundw
           case rel=>exact⟨kk+1,by go_num,by omega,HN4.out _ _ (by simpa only[List.append_assoc] using hbB)⟩
           case measure=>simp[intOf];omega
        ·have hke:kk=ps.length:=by omega
         have i4:¬ (kk:Int)<(ps.length:Int):=by omega
         have hte4:tsz.take kk=tsz:=by rw[hke,← htl];exact List.take_length
         rw[hte4]at hbp hMp hlp;have hB6:=hbp.later (Later.drew _);go_wp2_with fail
         go_region_held3 (fun w'=>w'.cell? ⟨wf.heap.size,2,none⟩=some (.int .i64 rk)∧w'.cell? ⟨wf.heap.size,3,none⟩=some (.int .i64 rn)∧w'.cell? ⟨w.heap.size,0,none⟩=some (.slice sa l.length scap))
          (first|exact HS5.out _ hbB.3|exact HS5.out _ hb8.3|exact HS5.out _ hB6.3)
          (first
          | ((have _g:=hb8);(refine zaa rfl 36 en_ty _ _ rfl [.slice a8 M8 p8,.agg #[.int .i64 rk,.int .i64 rn],.slice sa l.length scap] rfl (fun v w'=>Bf w2 W w' v (zk++joinL tsz++[32,41]++tr)) (HTr'.out _ _ _ _ hb8 (by rw[hl8];omega)) ?_;intro vB wB hbB;obtain⟨aB,MB,pB,rfl,hMB⟩:=hbB.shape2))
          | (refine zad rfl _ _ 22 9 rfl W.heap.size 5 i0 Tryz.underlying22 Tryz.underlying9 hi hz0 hz1 hz2 (.slice ap Mp pp) _ _ rfl hB6.1 _ rfl (by rw[hlp];show _+2≤maxLen;unfold maxLen;omega) (by rw[hlp];show _+2≤_;omega) hB6.2.size ?_;intro v8 w8 o8 g8;have hb8:Bf w2 W w8 v8 (zk++joinL tsz++[32,41]):=hB6.put o8 rfl rfl g8;have hl8:(zk++joinL tsz++[32,41]).length=zk.length+(joinL tsz).length+2:=(by rw[List.length_append,hlp];rfl);obtain⟨a8,M8,p8,rfl,hM8⟩:=hb8.shape2)
          | fail "none")
         all_goals
          have hlB:(zk++joinL tsz++[32,41]++tr).length=zk.length+(joinL tsz).length+2+tr.length:=by rw[List.length_append,hl8]
          have qB4:=HQ24.out _ hbB.3;have qBs:=HQs.out _ hbB.3;have HKb:=HBk.out _ _ _ _ hbB (by rw[hlB];omega);go_wp2_with fail
          refine HKb.mono ?_;rintro e wC ⟨vC,rfl,hbC⟩;have hlC:(zk++joinL tsz++[32,41]++tr++tb).length=zk.length+(joinL tsz).length+2+tr.length+tb.length:=by rw[List.length_append,hlB]
          obtain⟨aC,MC,pC,rfl,hMC⟩:=hbC.shape2;go_wp2_with (at_builtin;refine wpList_append_own _ rfl _ _ 22 rfl W.heap.size 5 i0 (.int .u8 0) 1 1 Tryz.underlying22 hi hz0 hz1 hz2 rfl (by decide) (.slice aC MC pC) _ _ rfl (hbC.alloc _).1 ⟨wC.heap.size,0,none⟩ 1 1 [.int .u8 10] rfl rfl (zaq _ _) (by simp[Value.oneCell']) (by rw[hlC];unfold maxLen;omega) (by rw[hlC];omega) (hbC.alloc _).2.size ?_;intro v7 w7 o7 g7 _)
          have hb7:=(hbC.alloc _).put o7 (ts:=[10]) rfl rfl g7;go_roundw
          case rel=>exact⟨m+1,by go_num,by omega,HN3.out _ _ hb7⟩
          case measure=>simp[intOf];omega
    ·have hme:m=fu.length:=by omega
     have i3:¬ (m:Int)<(fu.length:Int):=by omega
     have hte2:fu.take m=fu:=by rw[hme];exact List.take_length
     rw[hte2]at hbf hMf;go_wp2_with fail
     exact HF.out _ _ hbf
end Go.Proofs.YtgholpilmdebmaaGreatDoor
