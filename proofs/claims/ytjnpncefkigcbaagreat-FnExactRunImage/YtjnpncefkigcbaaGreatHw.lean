import Derived.Test.YtjnpncefkigcbaaGreatHv
set_option maxHeartbeats 100000000
set_option maxRecDepth 100000
namespace Go.Proofs.YtjnpncefkigcbaaGreat
open Go.RowKit Go.Lib Go.Maps
theorem ins_any {C:Cx}(hC:CxI C) (hMV:IMove C) {w:World}{s:Vm}{iv ov rv:Value}(h:Pv C w s (s.top C.x) (codeP C s.fn) iv ov rv) (hI:Iv C.x C.H s) {q:Nat}{i:Is}(hq:s.pc=q+1) (hi:(cdAt C.x s.fn).ins[q]?=some i) (hmv:s.moves≤999990) (hcp:s.copies≤999000) (hout:s.out.length≤1000000) :
  Calls Tryz.prog (deedN i.op.toNat) #[.pointer (some ⟨C.P,0,none⟩),isV i] w (StQ C ov (s.ins C.x C.H i)):=by
 have hii:=(hC.xi.at hI.fn).insI hi;have hfr:=(hC.xi.at hI.fn).fr;have hi6:=(hC.xi.at hI.fn).i6;have hb3:=hI.b3;have hb2:=hI.b2;have htop:s.top C.x=s.fp+frN C.x s.fn:=rfl;have hn:=hii.n
 have hql:q<(cdAt C.x s.fn).ins.length:=by
  rcases Nat.lt_or_ge q (cdAt C.x s.fn).ins.length with k|k
  ·exact k
  ·rw[List.getElem?_eq_none k]at hi;cases hi
 have hsafe:hmB i.op=true→SafeAt C.x s.fn ((s.pc:Int) - 1):=fun hm=>⟨q,i,by omega,hi,hm⟩
 have hpc:s.pc≤6000:=by omega
 obtain⟨o0,o27,a0,a16,b0,b16,c0,c16,_⟩:=hii;clear hi hq;obtain⟨op,a,b,c,n⟩:=i;simp only at *
 obtain⟨A,rfl⟩:∃ A:Nat,a=(A:Int):=⟨a.toNat,by omega⟩
 obtain⟨B,rfl⟩:∃ B:Nat,b=(B:Int):=⟨b.toNat,by omega⟩
 obtain⟨D,rfl⟩:∃ D:Nat,c=(D:Int):=⟨c.toNat,by omega⟩
 obtain⟨k,rfl⟩:∃ k:Nat,op=(k:Int):=⟨op.toNat,by omega⟩
 have hA:A<16:=by omega
 have hB:B<16:=by omega
 have hD:D<16:=by omega
 have hk:k≤27:=by omega
 clear o0 o27 a0 a16 b0 b16 c0 c16
 match k,hk with
 | 0,_=>exact doInt_any hC h hA _ _ _ _
 | 1,_=>exact doCopy_any hC h hA hB _ _ _
 | 2,_ =>
  simp[bnd]at hn
  obtain⟨N,rfl⟩:∃ N:Nat,n=(N:Int):=⟨n.toNat,by omega⟩
  exact doLoad_any hC h hA (N:=N) (ad:=s.fp+N) rfl (by omega) _ _ _
 | 3,_ =>
  simp[bnd]at hn
  obtain⟨N,rfl⟩:∃ N:Nat,n=(N:Int):=⟨n.toNat,by omega⟩
  exact doStore_any hC h hA (N:=N) (ad:=s.fp+N) rfl (by omega) _ _ _
 | 4,_ =>
  simp[bnd]at hn;exact doArith_any hC h hA hB hD _ n hn.1 hn.2
 | 5,_=>exact doDec_any hC h hA hB hD _ _
 | 6,_=>exact doSame_any hC h hA hB hD _ _
 | 7,_=>exact doToInt_any hC h hA hB _ _ _
 | 8,_=>exact doToFloat_any hC h hA hB _ _ _
 | 9,_ =>
  refine doLen_any hC h hI hA hB _ _ _ _ (fun e=>?_) (fun z e=>?_)
  ·show (match s.len C.H (s.rg B) with|none=>St.fin 7 0 s|some n=>.go (s.set (A:Int) n))=_;rw[e]
  ·show (match s.len C.H (s.rg B) with|none=>St.fin 7 0 s|some n=>.go (s.set (A:Int) n))=_;rw[e]
 | 10,_ =>
  simp[bnd]at hn
  obtain⟨N,rfl⟩:∃ N:Nat,n=(N:Int):=⟨n.toNat,by omega⟩
  have:=doNew_any hC hMV h hI (hsafe rfl) hpc hmv hA (N:=N) (N8:=N*8) (by omega) rfl ((10:Nat):Int) (B:Int) (D:Int);rw[show ((N*8:Nat):Int)=(N:Int)*8 by omega]at this;exact this
 | 11,_ =>
  simp[bnd]at hn
  obtain⟨N,rfl⟩:∃ N:Nat,n=(N:Int):=⟨n.toNat,by omega⟩
  refine doMake_any hC hMV h hI (hsafe rfl) hpc hmv hA hB (N:=N) (by omega) _ _ _ (fun e=>?_) (fun k K e1 e2 e3=>?_)
  ·show (if 0≤s.rg B∧s.rg B≤100 then _ else St.fin 7 0 s)=_;rw[if_neg e]
  ·show (if 0≤s.rg B∧s.rg B≤100 then s.take C.x C.H (s.rg B*8+1+(N:Int)) (s.rg B).toNat A else St.fin 7 0 s)=_;rw[if_pos (by omega),e1,e2];show s.take C.x C.H ((k:Int)*8+1+(N:Int)) k A=_;rw[show ((k*8+1+N:Nat):Int)=(k:Int)*8+1+(N:Int) by omega]
 | 12,_=>exact doNil_any h hA _ _ _
 | 13,_ =>
  refine doIndex_any hC h hI hA hB _ _ _ (fun e=>?_) (fun z e=>?_)
  ·show (match s.len C.H (s.rg A) with|none=>St.fin 7 0 s|some n=>if 0≤s.rg B∧s.rg B<n then .go s else .fin 3 2 s)=_;rw[e]
  ·show (match s.len C.H (s.rg A) with|none=>St.fin 7 0 s|some n=>if 0≤s.rg B∧s.rg B<n then .go s else .fin 3 2 s)=_;rw[e]
 | 14,_=>exact doZero_any h hA _ _ _
 | 15,_=>exact doSize_any h hA _ _ _
 | 16,_ =>
  simp[bnd]at hn
  obtain⟨N,rfl⟩:∃ N:Nat,n=(N:Int):=⟨n.toNat,by omega⟩
  refine doGetF_any hC h hI hA hB (N:=N) (by omega) _ _ _ (fun e=>?_) (fun z e=>?_)
  ·show (match s.fld C.x C.H (s.rg B) (N:Int) with|none=>St.fin 7 0 s|some a=>.go (s.set (A:Int) (s.W a)))=_;rw[e]
  ·show (match s.fld C.x C.H (s.rg B) (N:Int) with|none=>St.fin 7 0 s|some a=>.go (s.set (A:Int) (s.W a)))=_;rw[e]
 | 17,_ =>
  simp[bnd]at hn
  obtain⟨N,rfl⟩:∃ N:Nat,n=(N:Int):=⟨n.toNat,by omega⟩
  refine doPutF_any hC h hI hA hB (N:=N) (by omega) _ _ _ (fun e=>?_) (fun z e=>?_)
  ·show (match s.fld C.x C.H (s.rg A) (N:Int) with|none=>St.fin 7 0 s|some a=>.go { s with W:=fset s.W a (s.rg B) })=_;rw[e]
  ·show (match s.fld C.x C.H (s.rg A) (N:Int) with|none=>St.fin 7 0 s|some a=>.go { s with W:=fset s.W a (s.rg B) })=_;rw[e]
 | 18,_ =>
  refine doGetE_any hC h hI hA hB hD _ _ _ (fun e=>?_) (fun z e=>?_)
  ·show (match s.elm C.H (s.rg B) (s.rg D) with|none=>St.fin 7 0 s|some a=>.go (s.set (A:Int) (s.W a)))=_;rw[e]
  ·show (match s.elm C.H (s.rg B) (s.rg D) with|none=>St.fin 7 0 s|some a=>.go (s.set (A:Int) (s.W a)))=_;rw[e]
 | 19,_ =>
  refine doPutE_any hC h hI hA hB hD _ _ _ (fun e=>?_) (fun z e=>?_)
  ·show (match s.elm C.H (s.rg A) (s.rg B) with|none=>St.fin 7 0 s|some a=>.go { s with W:=fset s.W a (s.rg D) })=_;rw[e]
  ·show (match s.elm C.H (s.rg A) (s.rg B) with|none=>St.fin 7 0 s|some a=>.go { s with W:=fset s.W a (s.rg D) })=_;rw[e]
 | 20,_=>exact doRead_any hC h hA _ _ _ _
 | 21,_=>exact doPrint_any hC h hout hA _ _ _ _
 | 22,_ =>
  simp[bnd]at hn
  obtain⟨N,rfl⟩:∃ N:Nat,n=(N:Int):=⟨n.toNat,by omega⟩
  exact doPass_any hC h hA (N:=N) (ad:=s.top C.x+3+N) rfl (by omega) _ _ _
 | 23,_ =>
  simp[bnd]at hn
  obtain⟨N,rfl⟩:∃ N:Nat,n=(N:Int):=⟨n.toNat,by omega⟩
  exact doCall_any hC h hI (n:=N) (by omega) hcp (by omega) _ _ _ _
 | 24,_ =>
  simp[bnd]at hn;exact doReturn_any hC h hI hA _ _ _ n (by omega)
 | 25,_=>exact doPanic_any h hA _ _ _ _
 | 26,_ =>
  simp[bnd]at hn
  obtain⟨N,rfl⟩:∃ N:Nat,n=(N:Int):=⟨n.toNat,by omega⟩
  exact doJump_any hC h (N:=N) _ _ _ _
 | 27,_ =>
  simp[bnd]at hn
  obtain⟨N,rfl⟩:∃ N:Nat,n=(N:Int):=⟨n.toNat,by omega⟩
  exact doIf_any hC h hA (N:=N) _ _ _
 | k+28,h28=>omega
def Cnt (s t:Vm):Prop:=t.steps=s.steps∧t.moves≤s.moves+2∧t.copies≤s.copies+2∧t.out.length≤s.out.length+1
theorem take2_cnt {x:Im}(hx:ImI x) {H:Nat}{s t:Vm}{z:Int}{n a:Nat}(hI:Iv x H s) (hs:SafeAt x s.fn ((s.pc:Int) - 1)) (e:s.take2 x H z n a=.go t):t.steps=s.steps∧t.moves≤s.moves+1∧t.copies=s.copies∧t.out=s.out:=by
 unfold Vm.take2 at e;split at e
 ·cases e
  exact⟨rfl,Nat.le_succ _,rfl,rfl⟩
 ·split at e
  ·cases e
  ·rename_i u hu
   obtain⟨_,cw⟩:=hI.coll hx hs hu;have e1:u.steps=s.steps∧u.moves=s.moves+1∧u.copies=s.copies∧u.out=s.out:=by rw[cw.eq];exact⟨rfl,rfl,rfl,rfl⟩
   split at e
   ·cases e
    exact⟨e1.1,by show u.moves≤_;omega,e1.2.2.1,e1.2.2.2⟩
   ·cases e
theorem take_cnt {x:Im}(hx:ImI x) {H:Nat}{s t:Vm}{z:Int}{n a:Nat}(hI:Iv x H s) (hs:SafeAt x s.fn ((s.pc:Int) - 1)) (e:s.take x H z n a=.go t):Cnt s t:=by
 unfold Vm.take at e;split at e
 ·split at e
  ·cases e
  ·rename_i u hu
   obtain⟨i,cw⟩:=hI.next.coll hx hs hu
   have e1:u.steps=s.steps∧u.moves=s.moves+1∧u.copies=s.copies∧u.out=s.out∧u.fn=s.fn∧u.pc=s.pc:=by rw[cw.eq];exact⟨rfl,rfl,rfl,rfl,rfl,rfl⟩
   obtain⟨h1,h2,h3,h4⟩:=take2_cnt hx i (by rw[e1.2.2.2.2.1,e1.2.2.2.2.2];exact hs) e;exact⟨by omega,by omega,by omega,by rw[h4,e1.2.2.2.1];omega⟩
 ·obtain⟨h1,h2,h3,h4⟩:=take2_cnt (s:=s.next) hx hI.next hs e
  exact⟨h1,by show t.moves≤s.moves+2;have:s.next.moves=s.moves:=rfl;omega,by rw[h3];show s.copies≤_;omega,by rw[h4];show s.out.length≤_;omega⟩
theorem copied_cnt {x:Im}{s t:Vm}{z:Nat}(e:s.copied x z=some t):t.steps=s.steps∧t.moves=s.moves∧t.copies=s.copies+1∧t.out=s.out:=by
 unfold Vm.copied at e;simp only at e;split at e <;> split at e <;> first|(cases e;done)|(cases e;exact⟨rfl,rfl,rfl,rfl⟩)
theorem enter_cnt {x:Im}{s t:Vm}{n:Nat}(e:s.enter x n=.go t):t.steps=s.steps∧t.moves=s.moves∧t.copies≤s.copies+1∧t.out=s.out:=by
 unfold Vm.enter at e;simp only at e;split at e
 ·cases e;exact⟨rfl,rfl,Nat.le_succ _,rfl⟩
 ·split at e
  ·cases e
  ·rename_i u hu
   obtain⟨h1,h2,h3,h4⟩:=copied_cnt hu
   cases e
   exact⟨h1,h2,Nat.le_of_eq h3,h4⟩
theorem call_cnt {x:Im}{s t:Vm}{n:Nat}(e:s.call x n=.go t):Cnt s t:=by
 unfold Vm.call at e;split at e
 ·cases e
 split at e
 ·cases hc:s.next.copied x s.size with
  | none =>
   rw[hc]at e;obtain⟨h1,h2,h3,h4⟩:=enter_cnt e
   have e2:(none.getD s.next).moves=s.moves∧(none.getD s.next).copies=s.copies:=⟨rfl,rfl⟩
   exact⟨h1,by omega,by omega,by rw[h4];show s.out.length≤_;omega⟩
  | some u =>
   rw[hc]at e;obtain⟨g1,g2,g3,g4⟩:=copied_cnt hc;obtain⟨h1,h2,h3,h4⟩:=enter_cnt e
   have e2:s.next.moves=s.moves∧s.next.copies=s.copies∧s.next.steps=s.steps:=⟨rfl,rfl,rfl⟩
   rw[Option.getD_some]at h1 h2 h3 h4;exact⟨by omega,by omega,by omega,by rw[h4,g4];show s.out.length≤_;omega⟩
 ·obtain⟨h1,h2,h3,h4⟩:=enter_cnt e
  have e2:s.next.moves=s.moves∧s.next.copies=s.copies∧s.next.steps=s.steps:=⟨rfl,rfl,rfl⟩
  exact⟨by omega,by omega,by omega,by rw[h4];show s.out.length≤_;omega⟩
theorem ret_cnt {s t:Vm}{i:Is}(e:s.ret i=.go t):Cnt s t:=by
 unfold Vm.ret at e;simp only at e;split at e <;> split at e <;> first|(cases e;done)|(cases e;exact⟨rfl,Nat.le_add_right _ _,Nat.le_add_right _ _,Nat.le_succ _⟩)
theorem cnt_alike {s t:Vm}(h1:t.steps=s.steps) (h2:t.moves=s.moves) (h3:t.copies=s.copies) (h4:t.out=s.out):Cnt s t:=⟨h1,by omega,by omega,by rw[h4];omega⟩
theorem ins_cnt {x:Im}(hx:ImI x) {H:Nat}{s t:Vm}(h:Iv x H s) {q:Nat}{i:Is}(hq:s.pc=q+1) (hi:(cdAt x s.fn).ins[q]?=some i) (e:s.ins x H i=.go t):Cnt s t:=by
 have hI:=(hx.at h.fn).insI hi
 have hsafe:hmB i.op=true→SafeAt x s.fn ((s.pc:Int) - 1):=fun hm=>⟨q,i,by omega,hi,hm⟩
 unfold Vm.ins at e;split at e
 all_goals first
  | (cases e;done)
  | (cases e;exact cnt_alike rfl rfl rfl rfl)
  | (split at e <;> first|(cases e;done)|(cases e;exact cnt_alike rfl rfl rfl rfl))
  | skip
 ·rename_i hop
  have ho:=hI.at 10 hop;exact take_cnt hx h (hsafe (by rw[ho];decide)) e
 ·rename_i hop
  have ho:=hI.at 11 hop;split at e
  ·exact take_cnt hx h (hsafe (by rw[ho];decide)) e
  ·cases e
 ·split at e
  ·cases e
  ·split at e
   ·cases e;exact cnt_alike rfl rfl rfl rfl
   ·cases e
 ·cases e
  exact⟨rfl,Nat.le_add_right _ _,Nat.le_add_right _ _,by rw[List.length_append];exact Nat.le_refl _⟩
 ·exact call_cnt e
 ·exact ret_cnt e
theorem startV_iv {x:Im}(hx:ImI x) {e:Se}{b z c H:Nat}(h8:8≤H) (h4:H≤4000) (hb:1≤b) (hz:16≤z) (hbz:b+z≤12000) (hn:frN x x.main.toNat+7≤z):Iv x H (startV x e b z c):=by
 refine⟨h8,h4,hb,hbz,?_,hz,?_,hx.mn,?_,?_,.inl rfl,⟨[],rfl,fun a=>rfl⟩,?_⟩
 ·show b+frN x x.main.toNat+7≤b+z;omega
 ·show 1≤60;decide
 ·show fset (fun _=>0) (b+2) x.main (b+2)=(x.main.toNat:Int)
  rw[fset_at];have:=hx.m0;omega
 ·show Chain x _ b 1 b;rw[Chain];refine⟨rfl,?_⟩;show fset (fun _=>0) (b+2) x.main b=0;rw[fset_ne _ _ (by omega)]
 ·show 12000≤12000+H;omega
theorem code_cells {C:Cx}(hC:CxI C) {c:Nat}(hc:c<C.x.codes.length):∃ ia ic,(∀ w',Later C.w0 w'→w'.cell? ⟨C.cg,C.co+c*4+2,none⟩=some (.slice ia (cdAt C.x c).ins.length ic))∧∀ (q:Nat) (i:Is),(cdAt C.x c).ins[q]?=some i→∃ g off,ia=some ⟨g,off,none⟩∧g<C.w0.heap.size∧∀ w',Later C.w0 w' →
  w'.cell? ⟨g,off+q*5,none⟩=some (.int .i64 i.op)∧w'.cell? ⟨g,off+q*5+1,none⟩=some (.int .i64 i.a)∧w'.cell? ⟨g,off+q*5+2,none⟩=some (.int .i64 i.b)∧w'.cell? ⟨g,off+q*5+3,none⟩=some (.int .i64 i.c)∧w'.cell? ⟨g,off+q*5+4,none⟩=some (.int .i64 i.n):=by
 obtain⟨g,off,v0,v1,e1,hg,_,_,h2,_,r0,_⟩:=Cd.elem hC.cd c hc
 cases e1
 rw[←cdAt_eq hc]at r0;obtain⟨ia,ic,rfl,_⟩:=Is.slice r0;refine⟨ia,ic,fun w' l=>by rw[Below.cell l (p:=⟨C.cg,C.co+c*4+2,none⟩) hg];exact h2,fun q i hi=>?_⟩
 have hq:q<(cdAt C.x c).ins.length:=by
  rcases Nat.lt_or_ge q (cdAt C.x c).ins.length with k|k
  ·exact k
  ·rw[List.getElem?_eq_none k]at hi;cases hi
 obtain⟨g2,off2,rfl,hg2,k0,k1,k2,k3,k4⟩:=Is.elem r0 q hq;rw[List.getElem?_eq_getElem hq]at hi
 cases hi
 exact⟨g2,off2,rfl,hg2,fun w' l=>⟨by rw[Below.cell l (p:=⟨g2,off2+q*5,none⟩) hg2];exact k0,by rw[Below.cell l (p:=⟨g2,off2+q*5+1,none⟩) hg2];exact k1,by rw[Below.cell l (p:=⟨g2,off2+q*5+2,none⟩) hg2];exact k2,by rw[Below.cell l (p:=⟨g2,off2+q*5+3,none⟩) hg2];exact k3,by rw[Below.cell l (p:=⟨g2,off2+q*5+4,none⟩) hg2];exact k4⟩⟩
theorem step_callPV {P:Program}{ops:Array Oper}{o:Oper}{a:Act}{w:World}{K:Act→World→Prop}{Q:Exit→Act→World→Prop}{E:Prop}
  (hg:o.guard=none) (f:FuncId) (he:Enters P f) (c:Operand) (hcv:a.eval c=.func (.func f) #[] #[]) (xs:List Operand) (ts:Array TypeId) (hop:o.op=Op.call { callee:=Callee.value c,args:=xs.toArray,argTypes:=ts })
  (vs:List Value) (hv:xs.map a.eval=vs) (R:Value→World→Prop) (Rp:List PanicEntry→World→Prop) (hc:Calls P f vs.toArray w fun e w'=>(∃ v,e=.returned v∧R v w')∨(∃ ch,e=.panicked ch∧Rp ch w'))
  (hp:∀ ch w',Rp ch w'→Q (.panic ch) a w') (h:∀ v w',R v w'→K (a.put o.dst v) w') :
  if Region.wanted o (yielded ops a.tmps)=true then Oper.wp P o a w K Q else E:=by
 have hw:Region.wanted o (yielded ops a.tmps)=true:=by simp[Region.wanted,hg]
 rw[if_pos hw];unfold Oper.wp
 have hr:(execOp a.eval o).run P w=.ok (.enter f vs.toArray) w:=by
  subst hv;have h1:=he (xs.map a.eval).toArray w;simpa[execOp,hop,resolve,invoke,hcv,Deferred.ofValue] using h1
 rw[hr,Oper.upon_enter];refine hc.mono ?_;rintro e w' (⟨v,rfl,hR⟩|⟨ch,rfl,hR⟩)
 ·exact h v w' hR
 ·exact hp ch w' hR
theorem en_deed:∀ k,k≤27→Enters Tryz.prog (deedN k):=fun k hk=>by
 match k,hk with
 | 0,_=>exact enters_of Tryz.func89 (by kernel_rfl) (by kernel_rfl)
 | 1,_=>exact enters_of Tryz.func90 (by kernel_rfl) (by kernel_rfl)
 | 2,_=>exact enters_of Tryz.func91 (by kernel_rfl) (by kernel_rfl)
 | 3,_=>exact enters_of Tryz.func92 (by kernel_rfl) (by kernel_rfl)
 | 4,_=>exact enters_of Tryz.func93 (by kernel_rfl) (by kernel_rfl)
 | 5,_=>exact enters_of Tryz.func94 (by kernel_rfl) (by kernel_rfl)
 | 6,_=>exact enters_of Tryz.func95 (by kernel_rfl) (by kernel_rfl)
 | 7,_=>exact enters_of Tryz.func96 (by kernel_rfl) (by kernel_rfl)
 | 8,_=>exact enters_of Tryz.func97 (by kernel_rfl) (by kernel_rfl)
 | 9,_=>exact enters_of Tryz.func98 (by kernel_rfl) (by kernel_rfl)
 | 10,_=>exact enters_of Tryz.func99 (by kernel_rfl) (by kernel_rfl)
 | 11,_=>exact enters_of Tryz.func100 (by kernel_rfl) (by kernel_rfl)
 | 12,_=>exact enters_of Tryz.func101 (by kernel_rfl) (by kernel_rfl)
 | 13,_=>exact enters_of Tryz.func101 (by kernel_rfl) (by kernel_rfl)
 | 14,_=>exact enters_of Tryz.func101 (by kernel_rfl) (by kernel_rfl)
 | 15,_=>exact enters_of Tryz.func101 (by kernel_rfl) (by kernel_rfl)
 | 16,_=>exact enters_of Tryz.func102 (by kernel_rfl) (by kernel_rfl)
 | 17,_=>exact enters_of Tryz.func103 (by kernel_rfl) (by kernel_rfl)
 | 18,_=>exact enters_of Tryz.func104 (by kernel_rfl) (by kernel_rfl)
 | 19,_=>exact enters_of Tryz.func105 (by kernel_rfl) (by kernel_rfl)
 | 20,_=>exact enters_of Tryz.func106 (by kernel_rfl) (by kernel_rfl)
 | 21,_=>exact enters_of Tryz.func107 (by kernel_rfl) (by kernel_rfl)
 | 22,_=>exact enters_of Tryz.func108 (by kernel_rfl) (by kernel_rfl)
 | 23,_=>exact enters_of Tryz.func109 (by kernel_rfl) (by kernel_rfl)
 | 24,_=>exact enters_of Tryz.func110 (by kernel_rfl) (by kernel_rfl)
 | 25,_=>exact enters_of Tryz.func111 (by kernel_rfl) (by kernel_rfl)
 | 26,_=>exact enters_of Tryz.func112 (by kernel_rfl) (by kernel_rfl)
 | 27,_=>exact enters_of Tryz.func113 (by kernel_rfl) (by kernel_rfl)
 | k+28,h=>omega
end Go.Proofs.YtjnpncefkigcbaaGreat
