import Derived.Test.YtgaddpkkjebekaaGreatDoorZ11
import Derived.Test.YtgaddpkkjebekaaGreatDoorZ33
import Derived.Test.YtgaddpkkjebekaaGreatDoorZ26
import Derived.Test.YtgaddpkkjebekaaGreatDoorZ10
set_option maxHeartbeats 100000000
set_option maxRecDepth 100000
namespace Go.Proofs.YtgaddpkkjebekaaGreatDoor
open Go.RowKit Go.Maps
mutual
theorem St.Rn (s:Int):∀ (x:St) (d l l':Int),St.run s d l x=some l'->(x.num:Int)<=l - l'
 | .mk k n tk tn nm ks bo el,d,l,l',h=>by
  rw[St.run]at h;split at h
  ·cases h
  ·rename_i hc
   cases h1:Ex.runs s (d+1) (l - 1) ks with
   | none=>rw[h1]at h;cases h
   | some l1 =>
    rw[h1]at h
    cases h2:St.runs s (d+1) l1 bo with
    | none=>simp only[h2]at h;cases h
    | some l2 =>
     simp only[h2]at h;have a:=(Ex.dw s ks _ _ _ h1).1;have b:=St.vZ s bo _ _ _ h2;have c:=St.vZ s el _ _ _ h;rw[St.num];omega
theorem St.vZ (s:Int):∀ (xs:List St) (d l l':Int),St.runs s d l xs=some l'->(St.nums xs:Int)<=l - l'
 | [],d,l,l',h=>by rw[St.runs]at h;cases h;rw[St.nums];omega
 | x::r,d,l,l',h=>by
  rw[St.runs]at h
  cases h1:St.run s d l x with
  | none=>rw[h1]at h;cases h
  | some l1 =>
   rw[h1]at h;have a:=St.Rn s x _ _ _ h1;have b:=St.vZ s r _ _ _ h;rw[St.nums];omega
end
theorem Fu.Cc {s:Int}:∀ (xs:List Fu) (l l':Int),Fu.runs s l xs=some l'->∀ f∈xs,f.params.length<=4/\(St.nums f.body:Int)<=l - l'
 | x::r,l,l',h,f,hf=>by
  rw[Fu.runs]at h
  cases h1:Fu.run s l x with
  | none=>rw[h1]at h;cases h
  | some l1 =>
   rw[h1]at h;have hx:=h1;unfold Fu.run at hx;split at hx
   ·rename_i hc
    have a:=St.vZ s _ _ _ _ hx;have b:=(Fu.dw s r _ _ h).1;have c:=(St.dw s _ _ _ _ hx).1;rcases List.mem_cons.1 hf with rfl|hf
    ·refine⟨?_,by omega⟩;unfold Dq gV at hc;simp only[Bool.and_eq_true,decide_eq_true_eq]at hc;omega
    ·have:=Fu.Cc r _ _ h f hf;exact⟨this.1,by omega⟩
   ·cases hx
theorem So.RZ {x:So}(h:x.ok=true):x.structs.length<=6/\x.funcs.length<=8/\(∀ f∈x.funcs,f.params.length<=4/\St.nums f.body<=400)/\eu x.structs=true:=by
 unfold So.ok at h;rw[Bool.and_eq_true]at h
 cases hr:So.run x with
 | none=>rw[hr]at h;cases h.1
 | some q =>
  unfold So.run at hr;split at hr
  ·rename_i hc
   rw[Bool.and_eq_true,decide_eq_true_eq]at hc;have hle:=Fu.dw _ _ _ _ hr;refine⟨((jL _).1 hc.1).1,hc.2,fun f hf=>?_,hc.1⟩;have:=Fu.Cc _ _ _ hr f hf;have:=hle.2 (by decide);exact⟨by omega,by omega⟩
  ·cases hr
def Fu.ry (fs:List (List Int)) (f:Fu):Bool:=uniq (aO f.params)&&St.bP fs (aO f.params) (aO f.params) f.body
theorem Jd {s k n tk tn:Int}{nm:List Int}{m:Nat}(h:lF s k n tk tn nm m=true):((k=3\/k=6\/k=7)->n=0)/\(k≠5->tk=0/\tn=0):=by
 unfold lF at h;rcases mD k with (rfl|rfl|rfl|rfl|rfl|rfl|rfl|rfl|rfl|rfl|rfl|rfl|rfl|rfl)|⟨n0,n1,n2,n3,n4,n5,n6,n7,n8,n9,n10,n11,n12,n13⟩
 case inr=>unfold fF at h;simp[n0,n1,n2,n3,n4,n5,n6,n7,n8,n9,n10,n11,n12,n13]at h
 all_goals
  simp only[fF]at h;simp[dE,D7,NH]at h ⊢
  try (first|exact h.2|omega|(obtain⟨h1,h2⟩:=h;omega)|trace_state)
theorem OX {nm:List Int}(h:aQ nm=true):nm.length<=8:=by
 unfold aQ aY at h;simp only[Bool.and_eq_true,decide_eq_true_eq]at h;omega
theorem Gp {f:Form}{n tk tn:Int}{nm:List Int}{m:Nat}{s:Int}(h:dE f n tk tn nm m s=true):nm.length<=8:=by
 unfold dE at h;simp only[Bool.and_eq_true]at h;have h1:=h.1.1.2;split at h1
 ·exact OX h1
 ·have:=of_decide_eq_true h1;omega
theorem Nc {s k n tk tn:Int}{nm:List Int}{m:Nat}(h:lF s k n tk tn nm m=true):nm.length<=8:=by
 unfold lF at h;split at h
 ·exact Gp h
 ·cases h
theorem Jc {s k n tk tn:Int}{nm:List Int}{ks:List Ex}{b e:Nat}(h:lD s k n tk tn nm ks b e=true):nm.length<=8/\(k=0->n=0/\ks=[]):=by
 unfold lD at h;split at h
 ·rename_i f hf
  simp only[Bool.and_eq_true]at h;refine⟨Gp h.1.1.1,fun hk=>?_⟩;subst hk;have e0:f=(0,0,0,1,true,false,false):=by simp[iD]at hf;exact hf.symm
  subst e0;have h1:=h.1.1.1;simp[dE,D7]at h1;exact⟨h1.1.2,h1.1.1.1⟩
 ·cases h
mutual
theorem Ex.qY (s:Int):∀ (x:Ex) (d l l':Int),Ex.run s d l x=some l'->x.bare=x/\Ex.cp d (400 - l) x=some (400 - l')
 | .mk k n tk tn nm ks,d,l,l',h=>by
  rw[Ex.run]at h;split at h
  ·cases h
  ·rename_i hc
   have hh:lF s k n tk tn nm ks.length=true:=by
    cases e:lF s k n tk tn nm ks.length
    ·exact absurd (.inr (.inr e)) hc
    ·rfl
   have hl:¬ l - 1<0:=fun q=>hc (.inl q);have hd:¬ 30<d:=fun q=>hc (.inr (.inl q));obtain⟨b1,b2⟩:=Ex.fC s ks (d+1) (l - 1) l' h;obtain⟨e1,e2⟩:=Jd hh;refine⟨?_,?_⟩
   ·rw[Ex.bare,b1];by_cases q5:k=5
    ·rw[if_pos q5,if_pos q5,if_neg (by omega)]
    ·rw[if_neg q5,if_neg q5,(e2 q5).1,(e2 q5).2];by_cases q3:k=3\/k=6\/k=7
     ·rw[if_pos q3,e1 q3]
     ·rw[if_neg q3]
   ·rw[Ex.cp,if_pos ⟨by omega,by omega,Nc hh⟩,show 400 - l+1=400 - (l - 1) by omega];exact b2
theorem Ex.fC (s:Int):∀ (xs:List Ex) (d l l':Int),Ex.runs s d l xs=some l'->Ex.aU xs=xs/\Ex.cps d (400 - l) xs=some (400 - l')
 | [],d,l,l',h=>by
  rw[Ex.runs]at h
  cases h
  exact⟨by rw[Ex.aU],by rw[Ex.cps]⟩
 | x::r,d,l,l',h=>by
  rw[Ex.runs]at h
  cases hx:Ex.run s d l x with
  | none=>rw[hx]at h;cases h
  | some q =>
   rw[hx]at h;obtain⟨a1,a2⟩:=Ex.qY s x d l q hx;obtain⟨b1,b2⟩:=Ex.fC s r d q l' h;exact⟨by rw[Ex.aU,a1,b1],by rw[Ex.cps,a2];exact b2⟩
end
mutual
theorem St.qY (s:Int):∀ (x:St) (d l l':Int),St.run s d l x=some l'->x.bare=x/\St.cp d (400 - l) x=some (400 - l')/\x.noK
 | .mk k n tk tn nm ks bo el,d,l,l',h=>by
  rw[St.run]at h;split at h
  ·cases h
  ·rename_i hc
   have hh:lD s k n tk tn nm ks bo.length el.length=true:=by
    cases e:lD s k n tk tn nm ks bo.length el.length
    ·exact absurd (.inr (.inr e)) hc
    ·rfl
   have hl:¬ l - 1<0:=fun q=>hc (.inl q);have hd:¬ 30<d:=fun q=>hc (.inr (.inl q));obtain⟨e1,e2⟩:=Jc hh
   cases hk:Ex.runs s (d+1) (l - 1) ks with
   | none=>rw[hk]at h;cases h
   | some l1 =>
    rw[hk]at h
    cases hb:St.runs s (d+1) l1 bo with
    | none=>simp only[hb]at h;cases h
    | some l2 =>
     simp only[hb]at h;obtain⟨a1,a2⟩:=Ex.fC s ks (d+1) (l - 1) l1 hk;obtain⟨b1,b2,b3⟩:=St.fC s bo (d+1) l1 l2 hb;obtain⟨c1,c2,c3⟩:=St.fC s el (d+1) l2 l' h;refine⟨?_,?_,?_⟩
     ·rw[St.bare,a1,b1,c1];by_cases q0:k=0
      ·rw[if_pos q0,(e2 q0).1]
      ·rw[if_neg q0]
     ·rw[St.cp,if_pos ⟨by omega,by omega,e1⟩,show 400 - l+1=400 - (l - 1) by omega,a2];simp only[b2];exact c2
     ·rw[St.noK];exact⟨fun q=>(e2 q).2,b3,c3⟩
theorem St.fC (s:Int):∀ (xs:List St) (d l l':Int),St.runs s d l xs=some l'->St.aU xs=xs/\St.cps d (400 - l) xs=some (400 - l')/\St.ru xs
 | [],d,l,l',h=>by
  rw[St.runs]at h
  cases h
  exact⟨by rw[St.aU],by rw[St.cps],by rw[St.ru];trivial⟩
 | x::r,d,l,l',h=>by
  rw[St.runs]at h
  cases hx:St.run s d l x with
  | none=>rw[hx]at h;cases h
  | some q =>
   rw[hx]at h;obtain⟨a1,a2,a3⟩:=St.qY s x d l q hx;obtain⟨b1,b2,b3⟩:=St.fC s r d q l' h;exact⟨by rw[St.aU,a1,b1],by rw[St.cps,a2];exact b2,by rw[St.ru];exact⟨a3,b3⟩⟩
end
theorem Fu.fC (s:Int):∀ (xs:List Fu) (l l':Int),Fu.runs s l xs=some l'->xs.map Fu.bare=xs/\Fu.cps (400 - l) xs=some (400 - l')/\xs.all (Fu.head s)=true/\∀ f∈xs,St.ru f.body
 | [],l,l',h=>by
  rw[Fu.runs]at h
  cases h
  exact⟨rfl,by rw[Fu.cps],rfl,fun f q=>by cases q⟩
 | x::r,l,l',h=>by
  rw[Fu.runs]at h
  cases hx:Fu.run s l x with
  | none=>rw[hx]at h;cases h
  | some q =>
   rw[hx]at h;obtain⟨b1,b2,b3,b4⟩:=Fu.fC s r q l' h;unfold Fu.run at hx;split at hx
   ·rename_i hc
    simp only[Bool.and_eq_true]at hc;obtain⟨a1,a2,a3⟩:=St.fC s x.body 1 l q hx;refine⟨?_,?_,?_,fun f hf=>?_⟩
    ·rw[List.map_cons,b1]
     congr 1
     unfold Fu.bare;rw[a1]
     cases x
     rfl
    ·rw[Fu.cps,a2];exact b2
    ·rw[List.all_cons,b3,Bool.and_true];exact hc.1
    ·rcases List.mem_cons.1 hf with rfl|hf
     ·exact a3
     ·exact b4 f hf
   ·cases hx
theorem So.qY (x:So) (h:x.run.isSome=true):So.wo x=true/\So.bare x=x/\∀ f∈x.funcs,St.ru f.body:=by
 cases hr:x.run with
 | none=>rw[hr]at h;cases h
 | some l =>
  unfold So.run at hr;split at hr
  ·rename_i hc
   obtain⟨b1,b2,b3,b4⟩:=Fu.fC _ _ _ _ hr;refine⟨?_,?_,b4⟩
   ·unfold So.wo;rw[hc,b3,show (0:Int)=400 - 400 by decide,b2];rfl
   ·unfold So.bare;rw[b1]
    cases x
    rfl
  ·cases hr
def So.nb (x:So):So:=.mk x.structs (x.funcs.map (Fu.nb (bH x.funcs)))
def So.wnB (x:So):Bool:=BL x.funcs&&x.structs.all (fun s=>uniq (aO s.fields))&&x.funcs.all (Fu.ry (bH x.funcs))
def WnP (x:So) (w:World) (e:Ending) (w':World):Prop:=Later w w' /\
  ((So.wnB x=true/\∃ a0 c0 a1 c1 F,e=.returned (.tuple #[.agg #[.slice a0 x.structs.length c0,.slice a1 x.funcs.length c1],.bool true])/\Own w.heap.size w' (So.nb x).dat [.slice a0 x.structs.length c0,.slice a1 x.funcs.length c1] F) \/
   (So.wnB x=false/\e=.returned (.tuple #[.agg #[.slice none 0 0,.slice none 0 0],.bool false])))
structure SoN (x:So):Prop where
  run:x.run.isSome=true
  sz:x.sz<=1048576
  fn:∀ f∈x.funcs,Nm f.name
  sf:∀ s∈x.structs,s.fields.length<=1000000/\∀ p∈s.fields,Nm p.name
  fp:∀ f∈x.funcs,f.params.length<=1000/\∀ p∈f.params,Nm p.name
  num:∀ f∈x.funcs,St.nums f.body<=1000
  few:x.funcs.length<=1000
theorem So.iO {w:World}{x:So}{cs:List Value}{F:List Nat}(h:ai w x.dat cs F):∃ v0 v1 G0 G1,cs=[v0,v1]/\F=G0++G1/\ai w (.list 2 (Sc.ah x.structs)) [v0] G0/\ai w (.list 5 (Fu.ah x.funcs)) [v1] G1:=by
  obtain⟨structs,funcs⟩:=x;rw[So.dat,ai]at h;rw[aA]at h;obtain⟨c0,r0,F0,E0,rfl,rfl,h0,h⟩:=h;rw[aA]at h;obtain⟨c1,r1,F1,E1,rfl,rfl,h1,h⟩:=h;rw[aA]at h;obtain⟨rfl,rfl⟩:=h;have k0:=h0;rw[ai]at k0;obtain⟨a0,p0,rfl,_⟩:=k0;have k1:=h1;rw[ai]at k1;obtain⟨a1,p1,rfl,_⟩:=k1;exact⟨_,_,F0,F1,rfl,by simp,h0,h1⟩
theorem PY {w:World}{fs:List (List Int)}{l:List Fu}{v:Value}{G:List Nat}(h:ai w (.list 5 (Fu.ah l)) [v] G):∃ a cap,v=.slice a l.length cap/\(0<l.length->∃ g F,a=some ⟨g,0,none⟩/\G=g::F/\g<w.heap.size/\ax w 5 g 0 (Fu.ah l) F) /\
    (∀ w',w.heap.size<=w'.heap.size->(∀ g F,G=g::F->0<l.length->ax w' 5 g 0 (Fu.ah (l.map (Fu.nb fs))) F)->ai w' (.list 5 (Fu.ah (l.map (Fu.nb fs)))) [v] G):=by
  rw[ai]at h;obtain⟨a,cap,hc,⟨h1,h2,h3⟩,hp,hz⟩:=h;have hv:v=.slice a (Fu.ah l).length cap:=by simpa using hc
  rw[Fu.az]at *;subst hv;refine⟨a,cap,rfl,hp,fun w' hs hA=>?_⟩;rw[ai,Fu.az,List.length_map];refine⟨a,cap,rfl,⟨h1,h2,h3⟩,fun q=>?_,hz⟩;obtain⟨g,F,e1,e2,e3,_⟩:=hp q;exact⟨g,F,e1,e2,by omega,hA g F e2 q⟩
structure WnS (x:So) (w wr:World) (bf B:Nat) (v0 v1:Value) (G0 G1:List Nat) (j:Nat):Prop where
  lat:Later w wr
  res:Bxx wr (w.heap.size+1) [.slice none 0 0,.slice none 0 0]
  box:Bxx wr B [v0,v1]
  mf:Mp wr bf x.funcs.length (plc (bH x.funcs))
  st:ai wr (.list 2 (Sc.ah x.structs)) [v0] G0
  fu:∀ g F,G1=g::F->0<x.funcs.length->g<wr.heap.size/\ax wr 5 g 0 (Fu.ah (fM (bH x.funcs) x.funcs j)) F
  fine:∀ i (hi:i<x.funcs.length),i<j->Fu.ry (bH x.funcs) x.funcs[i]=true
theorem WnS.later {x:So}{w wr w':World}{bf B:Nat}{v0 v1:Value}{G0 G1:List Nat}{j:Nat}(h:WnS x w wr bf B v0 v1 G0 G1 j) (l:Later wr w'):WnS x w w' bf B v0 v1 G0 G1 j :=
  ⟨h.lat.trans l,h.res.later l,h.box.later l,h.mf.later l,bz h.st l,fun g F e q=>by
    obtain⟨h1,h2⟩:=h.fu g F e q
    exact⟨Nat.lt_of_lt_of_le h1 l.size,ax.agree l.size _ h2 (l.block g h1) (fun b hb=>l.block b (ax.lt _ h2 b hb))⟩,h.fine⟩
theorem SE (x:So) (v0 v1:Value) (w:World) (hN:SoN x) (hty:TyE w) (h0:RdL w 2 v0 (Sc.ah x.structs)) (h1:RdL w 5 v1 (Fu.ah x.funcs)) :
    Calls Tryz.prog 11 #[.agg #[v0,v1]] w (WnP x w):=by
  obtain⟨hwo,hbare,hnk⟩:=So.qY x hN.run;obtain⟨sa,sc,rfl,hsl⟩:=Sc.slice h0;obtain⟨fa,fc,rfl,hfl⟩:=Fu.slice h1;have hbs:=KA;obtain⟨wA,hwA⟩:=hidx ((w.alloc (.cells #[.slice sa x.structs.length sc,.slice fa x.funcs.length fc] 28)).alloc (.cells #[.slice none 0 0,.slice none 0 0] 28));have lA:Later w wA:=by rw[hwA.out];exact bF _ _ _
  have hb0:Bxx wA w.heap.size [.slice sa x.structs.length sc,.slice fa x.funcs.length fc]:=by rw[hwA.out];exact (Bxx.new _ _ _).later (ae _ _)
  have hb1:Bxx wA (w.heap.size+1) [.slice none 0 0,.slice none 0 0]:=by rw[hwA.out];have:=Bxx.new (w.alloc (.cells #[.slice sa x.structs.length sc,.slice fa x.funcs.length fc] 28)) #[.slice none 0 0,.slice none 0 0] 28;simpa using this
  have hF:=Gm x.funcs (.slice sa x.structs.length sc) (.slice fa x.funcs.length fc) wA ⟨_,_,_,rfl⟩ (RdL.later lA h1) hN.fn (by have:=hN.few;omega);have hU:=fun w' (l:Later w w')=>Hl (.slice sa x.structs.length sc) x.structs w' (RdL.later l h0) (fun s q=>(hN.sf s q).1) (fun s q=>(hN.sf s q).2);have hW:=fun w' (l:Later w w')=>SC x (.slice sa x.structs.length sc) (.slice fa x.funcs.length fc) w' hN.sz (RdL.later l h0) (RdL.later l h1)
  have HF:Hid (∀ w',Later w w'->Bxx w' (w.heap.size+1) [.slice none 0 0,.slice none 0 0]->So.wnB x=false->WnP x w (.returned (.tuple #[.agg #[.slice none 0 0,.slice none 0 0],.bool false])) ((w'.setCell ⟨w.heap.size+1,0,none⟩ (.slice none 0 0)).setCell ⟨w.heap.size+1,1,none⟩ (.slice none 0 0))):=fun w' l _ h=>⟨Later.setAt (Later.setAt l (by omega) 0 _) (by omega) 1 _,.inr ⟨h,rfl⟩⟩
  have HF0:Hid (∀ W,Later w W->So.wnB x=false->WnP x w (.returned (.tuple #[.agg #[.slice none 0 0,.slice none 0 0],.bool false])) W):=fun W l h=>⟨l,.inr ⟨h,rfl⟩⟩
  have HT:Hid (∀ W a0 c0 a1 c1 F,Later w W->So.wnB x=true->Own w.heap.size W (So.nb x).dat [.slice a0 x.structs.length c0,.slice a1 x.funcs.length c1] F->WnP x w (.returned (.tuple #[.agg #[.slice a0 x.structs.length c0,.slice a1 x.funcs.length c1],.bool true])) W):=fun W a0 c0 a1 c1 F l h o=>⟨l,.inl ⟨h,a0,c0,a1,c1,F,rfl,o⟩⟩
  have HU:Hid _:=hU;have HW:Hid _:=hW
  have HB:Hid (So.wo x=true/\So.bare x=x/\∀ f∈x.funcs,St.ru f.body):=⟨hwo,hbare,hnk⟩
  have HNN:Hid (SoN x):=hN;have HTy:Hid (∀ w',Later w w'->TyE w'):=fun w' l=>hty.later l;have y0:=(hb0.cell 0 _ rfl).1;have y1:=(hb0.cell 1 _ rfl).1;have yl:=hb0.lt;clear hU hW hwo hbare hnk hN hty h0 h1
  generalize hQ:WnP x w=Q at *
  clear hQ;go_enter Tryz.func11,Tryz.ntmps11;go_wp2_with fail
  rw[<-hwA.out];refine hF.mono ?_;rintro e w1 ⟨l1,⟨bf,rfl,hMf,hbf⟩|⟨hfp,rfl⟩⟩
  · have hb01:=hb0.later l1
    have hb11:=hb1.later l1;have r0:=(hb11.cell 0 _ rfl).1;have r1:=(hb11.cell 1 _ rfl).1;have r0f:=(hb11.cell 0 _ rfl).2;have r1f:=(hb11.cell 1 _ rfl).2;have rl:=hb11.lt;have z0:=(hb01.cell 0 _ rfl).1;have z1:=(hb01.cell 1 _ rfl).1;have zl:=hb01.lt;have HU1:=HU.out w1 (lA.trans l1)
    cases hfp:BL x.funcs with
    | false =>
      have HZ:=HF.out w1 (lA.trans l1) hb11 (by unfold So.wnB;rw[hfp];rfl);clear HF HT HU HW HB HNN HTy hb0 hb1 hb11 hb01 y0 y1 yl hF hwA HU1 hMf;go_wp2_with fail
      exact bodyPost_ret (v:=.tuple #[.agg #[.slice none 0 0,.slice none 0 0],.bool false]) (by simp[results,Tryz.results11,go_sem,World.cell?_setCell_same',r0,r1]) rfl HZ
    | true =>
      clear hF hwA y0 y1 yl;go_wp2_with fail
      refine HU1.mono ?_;rintro e w2 ⟨rfl,l2⟩;have l02:=(lA.trans l1).trans l2;have hb02:=hb01.later l2;have hb12:=hb11.later l2;have hMf2:=hMf.later l2;clear HU1 HU r0 r1 r0f r1f rl z0 z1 zl hb01 hb11 hb0 hb1 hMf;have r0:=(hb12.cell 0 _ rfl).1;have r1:=(hb12.cell 1 _ rfl).1;have r0f:=(hb12.cell 0 _ rfl).2;have r1f:=(hb12.cell 1 _ rfl).2;have rl:=hb12.lt;have z0:=(hb02.cell 0 _ rfl).1;have z1:=(hb02.cell 1 _ rfl).1;have zl:=hb02.lt
      cases hun:(x.structs.all fun s=>uniq (aO s.fields)) with
      | false =>
        have HZ:=HF.out w2 l02 hb12 (by unfold So.wnB;rw[hun,Bool.and_false];rfl);clear HF HT HW HB HNN HTy hb12 hb02 hMf2;go_wp2_with fail
        exact bodyPost_ret (v:=.tuple #[.agg #[.slice none 0 0,.slice none 0 0],.bool false]) (by simp[results,Tryz.results11,go_sem,World.cell?_setCell_same',r0,r1]) rfl HZ
      | true =>
        have hW2:=HW.out w2 l02;clear HW;go_wp2_with fail
        refine hW2.mono ?_;rintro e w3 ⟨l3,⟨_,a0,c0,a1,c1,FF,rfl,hO⟩|⟨hno,_⟩⟩
        · rw[HB.out.2.1]at hO
          have hlt2:w.heap.size+1<w2.heap.size:=hb12.lt;have hbf2:bf<w2.heap.size:=hMf2.lt;have l03:=l02.trans l3;have hb13:=hb12.later l3;have hMf3:=hMf2.later l3;clear hW2 r0 r1 r0f r1f rl z0 z1 zl hb02 hb12 hMf2;obtain⟨_,_,G0,G1,ecs,rfl,hS0,hF0⟩:=So.iO hO.own;simp only[List.cons.injEq,and_true]at ecs;obtain⟨rfl,rfl⟩:=ecs;obtain⟨aa,cc,eaa,hpos,hback⟩:=PY (fs:=bH x.funcs) hF0
          cases eaa
          obtain⟨wC,hwC⟩:=hidx (w3.alloc (.cells #[.slice a0 x.structs.length c0,.slice a1 x.funcs.length c1] 28));have lC:Later w3 wC:=by rw[hwC.out];exact ae _ _
          have hbC:Bxx wC w3.heap.size [.slice a0 x.structs.length c0,.slice a1 x.funcs.length c1]:=by rw[hwC.out];exact Bxx.new _ _ _
          have hSC:WnS x w wC bf w3.heap.size (.slice a0 x.structs.length c0) (.slice a1 x.funcs.length c1) G0 G1 0 :=
            ⟨l03.trans lC,hb13.later lC,hbC,hMf3.later lC,bz hS0 lC,fun g F e q=>by
              obtain⟨g2,F2,_,e2,e3,hA⟩:=hpos q;rw[e]at e2
              cases e2
              rw[Eh]
              exact⟨Nat.lt_of_lt_of_le e3 lC.size,ax.agree lC.size _ hA (lC.block g e3) (fun b hb=>lC.block b (ax.lt _ hA b hb))⟩,fun i _ q=>absurd q (Nat.not_lt_zero _)⟩
          have HPos:Hid (0<x.funcs.length->∃ g F,a1=some ⟨g,0,none⟩/\G1=g::F):=fun q=>by obtain⟨g2,F2,e1,e2,_⟩:=hpos q;exact⟨g2,F2,e1,e2⟩
          have HBack:Hid (∀ w',Later w3 w'\/w3.heap.size<=w'.heap.size->(∀ g F,G1=g::F->0<x.funcs.length->ax w' 5 g 0 (Fu.ah (x.funcs.map (Fu.nb (bH x.funcs)))) F)->ai w' (.list 5 (Fu.ah (x.funcs.map (Fu.nb (bH x.funcs))))) [.slice a1 x.funcs.length c1] G1):=fun w' q=>hback w' (by rcases q with q|q;exact q.size;exact q)
          have HFr:Hid ((G0++G1).Nodup/\∀ b∈G0++G1,w2.heap.size<=b/\b<w3.heap.size):=⟨hO.nodup,hO.fresh⟩
          clear hpos hback hS0 hF0 hO hMf3 hb13;go_wp2_with fail
          rw[<-hwC.out];go_loopw [37] (fun i wr=>∃ (j:Nat),i=.int .i64 (j:Int)/\j<=x.funcs.length/\WnS x w wr bf w3.heap.size (.slice a0 x.structs.length c0) (.slice a1 x.funcs.length c1) G0 G1 j) (fun i _=>x.funcs.length - (intOf i).toNat)
          case atStart=>exact⟨0,rfl,Nat.zero_le _,hSC⟩
          case round =>
            obtain⟨j,rfl,hj,hS⟩:=hrel;clear hSC hbC hwC;by_cases hlt:j<x.funcs.length
            · obtain⟨gk,F,rfl,rfl⟩:=HPos.out (by omega)
              have i1:(j:Int)<(x.funcs.length:Int):=by omega
              obtain⟨hgl,hA⟩:=hS.fu _ _ rfl (by omega);have hw3r:w3.heap.size<wr.heap.size:=hS.box.lt;have hndF:(gk::F).Nodup:=(List.nodup_append.1 HFr.out.1).2.1;obtain⟨u0,u1,u2,H0,H1,H2,hc,hn,hp,hb,hH2,hgH,hHF,HK⟩:=Tc hgl hA hndF hlt;have e0:wr.cell? ⟨gk,j*5,none⟩=some u0:=hc 0 _ rfl;have e1:=hc 1 _ rfl;have e2:=hc 2 _ rfl;have e3:=hc 3 _ rfl;have e4:=hc 4 _ rfl;obtain⟨s0,t0,rfl⟩:=yO hn;obtain⟨s1,q1,t1,rfl⟩:=dI hp;obtain⟨s2,q2,t2,rfl⟩:=dI hb;obtain⟨wb,hwb⟩:=hidx (wr.alloc (.cells #[.slice s0 x.funcs[j].name.length t0,.slice s1 q1 t1,.int .i64 x.funcs[j].rk,.int .i64 x.funcs[j].rn,.slice s2 q2 t2] 55));have lb:Later wr wb:=by rw[hwb.out];exact ae _ _
              have hbx:Bxx wb wr.heap.size [.slice s0 x.funcs[j].name.length t0,.slice s1 q1 t1,.int .i64 x.funcs[j].rk,.int .i64 x.funcs[j].rn,.slice s2 q2 t2]:=by rw[hwb.out];exact Bxx.new _ _ _
              have hmem:x.funcs[j]∈x.funcs:=List.getElem_mem hlt;have hfp2:=HNN.out.fp _ hmem;have hrp:RdL wb 3 (.slice s1 q1 t1) (Pa.ah x.funcs[j].params):=by obtain⟨v,e,r⟩:=RdL.iff.1 (ai.rd _ (bz hp lb));cases e;exact r
              have hPn:=zW (.slice s1 q1 t1) x.funcs[j].params wb hrp (by omega);have hPl:=fun u w' (r:RdL w' 1 u (nmD (aO x.funcs[j].params)))=>places_any u (aO x.funcs[j].params) w' r (fun z hz=>by unfold aO at hz;obtain⟨p,hp1,rfl⟩:=List.mem_map.1 hz;exact hfp2.2 p hp1) (by rw[JE];omega);have b1:=(hbx.cell 1 _ rfl).1;have bl:=hbx.lt;have hSb:=hS.later lb;have HPl:Hid _:=hPl;clear hc hA hS hPl;go_wp2_with fail
              rw[<-hwb.out];refine hPn.mono ?_;rintro e w4 ⟨u4,rfl,r4,l4⟩;have hP5:=HPl.out u4 w4 r4;clear hPn HPl e0 e1 e2 e3 e4 b1 hwb;go_wp2_with fail
              refine hP5.mono ?_;rintro e w5 ⟨rfl,hM5,l5⟩;have hCl:=Ip _ _ _ w5 hM5;clear hP5;go_wp2_with fail
              refine hCl.mono ?_;rintro e w6 ⟨rfl,hM6,l6⟩;clear hCl;obtain⟨w7,hw7⟩:=hidx (w6.alloc (.cells #[.map (some bf),.map (some w4.heap.size),.map (some w5.heap.size)] 69));have l67:Later w6 w7:=by rw[hw7.out];exact ae _ _
              have hK:Bxx w7 w6.heap.size [.map (some bf),.map (some w4.heap.size),.map (some w5.heap.size)]:=by rw[hw7.out];exact Bxx.new _ _ _
              have L47:Later wb w7:=((l4.trans l5).trans l6).trans l67;have hS7:=hSb.later L47;have hbx7:=hbx.later L47;have hb7:=bz hb (lb.trans L47);have M5:=hM5.later (l6.trans l67);have M6:=hM6.later l67;have z1:w3.heap.size<wr.heap.size:=hw3r;have z2:=lb.size;have z4:=l4.size;have z5:=M5.lt;have z6:=l6.size;have z5b:w4.heap.size<w5.heap.size:=hM5.lt;have z6b:w5.heap.size<w6.heap.size:=hM6.lt;have zw:=l03.size;have zw2:=l02.size;have z23:=l3.size;have zi:=aK (HTy.out w (Later.refl _)).i0;have zf:=aK (HTy.out w (Later.refl _)).f0;have hFG:∀ b∈gk::F,w2.heap.size<=b/\b<w3.heap.size:=fun b q=>HFr.out.2 b (List.mem_append_right _ q)
              have hsp:∀ b∈H2,Sp w6.heap.size bf w4.heap.size w5.heap.size b:=fun b q=>by
                have:=hFG b (List.mem_cons_of_mem _ (hHF b q));exact⟨by omega,by omega,by omega,by omega,by omega,by omega⟩
              have HL8:Hid (∀ w8,ay (w4.heap.size::w5.heap.size::H2) w7 w8->Later w w8/\Bxx w8 (w.heap.size+1) [.slice none 0 0,.slice none 0 0]):=fun w8 o8=>by
                have hnot:∀ k,k<w2.heap.size->k∉w4.heap.size::w5.heap.size::H2:=fun k hk q=>by
                  rcases List.mem_cons.1 q with e|q
                  · omega
                  · rcases List.mem_cons.1 q with e|q
                    · omega
                    · have:=(hFG k (List.mem_cons_of_mem _ (hHF k q))).1;omega
                have z7:=hS7.lat.size;exact⟨⟨o8.os.trans hS7.lat.os,o8.tape.trans hS7.lat.tape,o8.output.trans hS7.lat.output,Nat.le_trans z7 o8.size,fun k hk=>by rw[o8.block k (Nat.lt_of_lt_of_le hk z7) (hnot k (by omega))];exact hS7.lat.block k hk⟩,hS7.res.kept o8.size (o8.block _ hS7.res.lt (hnot _ hlt2))⟩
              have hNo:Fu.ry (bH x.funcs) x.funcs[j]=false->So.wnB x=false:=fun q=>by unfold So.wnB;rw[Vz (f:=Fu.ry (bH x.funcs)) hlt q,Bool.and_false]
              have L46:Later wb w6:=(l4.trans l5).trans l6;have hS6:=hSb.later L46;have hbx6:=hbx.later L46;have r0:=(hS6.res.cell 0 _ rfl).1;have r1:=(hS6.res.cell 1 _ rfl).1;have r0f:=(hS6.res.cell 0 _ rfl).2;have r1f:=(hS6.res.cell 1 _ rfl).2;have rl:=hS6.res.lt;have d4:=(hbx6.cell 4 _ rfl).1;have dl:=hbx6.lt
              cases hun2:uniq (aO x.funcs[j].params) with
              | false =>
                obtain⟨WE,hWE⟩:=hidx (((w6.setCell ⟨w.heap.size+1,0,none⟩ (.slice none 0 0)).setCell ⟨w.heap.size+1,1,none⟩ (.slice none 0 0)).alloc (.cells #[.map (some bf),.map (some w4.heap.size),.map (some w5.heap.size)] 69));have hRE:Bxx WE (w.heap.size+1) [.slice none 0 0,.slice none 0 0]:=by rw[hWE.out];exact ((hS6.res.set 0 (.slice none 0 0) (by decide)).set 1 (.slice none 0 0) (by decide)).later (ae _ _)
                have HZ:=HF0.out WE (by rw[hWE.out];exact (Later.setAt (Later.setAt hS6.lat (by omega) 0 _) (by omega) 1 _).trans (ae _ _)) (hNo (by unfold Fu.ry;rw[hun2];rfl));have q0:=(hRE.cell 0 _ rfl).1;have q1:=(hRE.cell 1 _ rfl).1;clear HF HF0 HT HB HNN HTy HPos HBack HFr hS7 hS6 hbx6 hbx7 hSb hbx hb7 hb hp hn HK M5 M6 hM5 hM6 hK HL8 hsp hFG hNo hfp2 hrp r4 hw7 hRE;go_wp2_with fail
                rw[<-hWE.out];exact bodyPost_ret (v:=.tuple #[.agg #[.slice none 0 0,.slice none 0 0],.bool false]) (by simp[results,Tryz.results11,go_sem,q0,q1]) rfl HZ
              | true =>
                have hcnt:cnt (aO x.funcs[j].params) (aO x.funcs[j].params).length=(aO x.funcs[j].params).length:=of_decide_eq_true hun2;rw[hcnt]at M5 M6;have hbfw:bf<w4.heap.size:=by omega
                have hng7:Ng w7 w6.heap.size bf w4.heap.size w5.heap.size (bH x.funcs) (aO x.funcs[j].params) (aO x.funcs[j].params) :=
                  ⟨hK,⟨_,hS7.mf⟩,M5,⟨_,Nat.le_refl _,M6.congr (fun z _=>by unfold jO;split;rfl;rename_i q;exact zX q)⟩,⟨by omega,by omega,by omega⟩,(NG _).1 hun2,fun z q=>q⟩
                have hBk:=Ja _ x.funcs[j].body (Nat.le_refl _) w7 w6.heap.size bf w4.heap.size w5.heap.size (bH x.funcs) (aO x.funcs[j].params) (aO x.funcs[j].params) (.slice s2 q2 t2) H2 hng7 (HTy.out w7 hS7.lat) hb7 hH2 hsp (by have:=HNN.out.num _ hmem;rw[JE];omega) (HB.out.2.2 _ hmem) ⟨by omega,by omega,by omega,by omega⟩
                have HNx:Hid (∀ w8,ay (w4.heap.size::w5.heap.size::H2) w7 w8->St.bP (bH x.funcs) (aO x.funcs[j].params) (aO x.funcs[j].params) x.funcs[j].body=true->ai w8 (.list 8 (St.ah (St.nbl (bH x.funcs) (aO x.funcs[j].params) (aO x.funcs[j].params) x.funcs[j].body))) [.slice s2 q2 t2] H2->WnS x w w8 bf w3.heap.size (.slice a0 x.structs.length c0) (.slice (some ⟨gk,0,none⟩) x.funcs.length c1) G0 (gk::F) (j+1)):=fun w8 o8 hfi hbd=>by
                  obtain⟨L8,R8⟩:=HL8.out w8 o8
                  have hno:∀ k,(∀ b∈H2,k≠b)->k<wr.heap.size->k∉w4.heap.size::w5.heap.size::H2:=fun k hk hlk q=>by
                    rcases List.mem_cons.1 q with e|q
                    · omega
                    · rcases List.mem_cons.1 q with e|q
                      · omega
                      · exact hk k q rfl
                  have hH:∀ b∈H2,w2.heap.size<=b/\b<w3.heap.size:=fun b q=>hFG b (List.mem_cons_of_mem _ (hHF b q));have hdj:=(List.nodup_append.1 HFr.out.1).2.2;refine⟨L8,R8,hS7.box.kept o8.size (o8.block _ hS7.box.lt (hno _ (fun b q e=>by have:=hH b q;omega) z1)),hS7.mf.kept (o8.block _ hS7.mf.lt (hno _ (fun b q e=>by have:=hH b q;omega) (by omega))),ai.only hS7.st o8 (fun b q=>hno b (fun b' q' e=>hdj b q b' (List.mem_cons_of_mem _ (hHF b' q')) e) (by have:=HFr.out.2 b (List.mem_append_left _ q);omega)),fun g' F' e _=>?_,fun i hi hij=>?_⟩
                  · cases e
                    refine⟨by have:=hFG gk (List.mem_cons_self ..);have:=L8.size;have:=o8.size;have:=hS7.box.lt;omega,HK w8 [w4.heap.size,w5.heap.size] (fun b q q'=>by have:=hFG b q';simp at q;omega) ((ay.of_later (lb.trans L47)).trans (o8.mono (fun b q=>by simpa using q))) hbd⟩
                  · rcases Nat.lt_or_ge i j with a|a
                    · exact hS7.fine i hi a
                    · have:i=j:=by omega
                      subst this;unfold Fu.ry;rw[hun2,hfi];rfl
                have Hw7:Hid _:=hw7;clear HT HB HNN HTy HPos HBack HFr hS7 hS6 hbx6 hbx7 hSb hbx hb7 hb hp hn HK M5 M6 hM5 hM6 hK hsp hFG hfp2 hrp r4;have HNo:Hid _:=hNo;clear hNo;go_wp2_with fail
                rw[<-hw7.out];refine hBk.mono ?_;rintro e w8 ⟨b,rfl,hbb,o8,hok⟩;obtain⟨L8,R8⟩:=HL8.out w8 o8;have HF8:Hid (b=false->Q (.returned (.tuple #[.agg #[.slice none 0 0,.slice none 0 0],.bool false])) ((w8.setCell ⟨w.heap.size+1,0,none⟩ (.slice none 0 0)).setCell ⟨w.heap.size+1,1,none⟩ (.slice none 0 0))):=fun q=>HF.out w8 L8 R8 (HNo.out (by unfold Fu.ry;rw[hun2,<- hbb,q];rfl));have HT8:Hid (b=true->WnS x w w8 bf w3.heap.size (.slice a0 x.structs.length c0) (.slice (some ⟨gk,0,none⟩) x.funcs.length c1) G0 (gk::F) (j+1)):=fun q=>HNx.out w8 o8 (by rw[<-hbb,q]) (hok q).1;clear r0 r1 r0f r1f rl d4 dl hBk hok hbb o8 HNx HL8 hw7 Hw7;have r0:=(R8.cell 0 _ rfl).1;have r1:=(R8.cell 1 _ rfl).1;have r0f:=(R8.cell 0 _ rfl).2;have r1f:=(R8.cell 1 _ rfl).2;have rl:=R8.lt
                cases b with
                | false =>
                  have HZ:=HF8.out rfl;clear HF8 HT8 HF HNo R8;go_wp2_with fail
                  exact bodyPost_ret (v:=.tuple #[.agg #[.slice none 0 0,.slice none 0 0],.bool false]) (by simp[results,Tryz.results11,go_sem,World.cell?_setCell_same',r0,r1]) rfl HZ
                | true =>
                  have HZ:=HT8.out rfl;clear HF8 HT8 HF HNo R8;go_wp2_with fail
                  go_roundw
                  case rel=>exact⟨j+1,by go_num,by omega,HZ⟩
                  case measure=>simp[intOf];omega
            · have i1:¬ (j:Int)<(x.funcs.length:Int):=by omega
              have i2:decide ((j:Int)<(x.funcs.length:Int))=false:=decide_eq_false i1;have hjj:j=x.funcs.length:=by omega
              subst hjj
              have hwn:So.wnB x=true:=by
                unfold So.wnB;rw[hfp,hun,Vy (f:=Fu.ry (bH x.funcs)) (fun i hi=>hS.fine i hi hi)];rfl
              have oS:ay [w.heap.size+1] wr ((wr.setCell ⟨w.heap.size+1,0,none⟩ (.slice a0 x.structs.length c0)).setCell ⟨w.heap.size+1,1,none⟩ (.slice a1 x.funcs.length c1)):=ay.set (ay.set (ay.refl _ _) _ (List.mem_singleton.2 rfl)) _ (List.mem_singleton.2 rfl);have hne:∀ b∈G0++G1,b∉[w.heap.size+1]:=fun b q e=>by have:=(HFr.out.2 b q).1;have:=List.mem_singleton.1 e;omega
              have hw3:w3.heap.size<=wr.heap.size:=Nat.le_of_lt hS.box.lt;have hfu:=HBack.out wr (.inr hw3) (fun g F e q=>by have:=(hS.fu g F e q).2;rw[Gl]at this;exact this)
              have hOwn:Own w.heap.size ((wr.setCell ⟨w.heap.size+1,0,none⟩ (.slice a0 x.structs.length c0)).setCell ⟨w.heap.size+1,1,none⟩ (.slice a1 x.funcs.length c1)) (So.nb x).dat [.slice a0 x.structs.length c0,.slice a1 x.funcs.length c1] (G0++G1) :=
                ⟨So.own (x:=So.nb x) (ai.only hS.st oS (fun b q=>hne b (List.mem_append_left _ q))) (ai.only hfu oS (fun b q=>hne b (List.mem_append_right _ q))),HFr.out.1,fun b q=>by have:=HFr.out.2 b q;have:=oS.size;exact⟨by omega,by omega⟩⟩
              have HZ:=HT.out _ a0 c0 a1 c1 (G0++G1) (Later.setAt (Later.setAt hS.lat (by omega) 0 _) (by omega) 1 _) hwn hOwn;have b0:=(hS.box.cell 0 _ rfl).1;have b1:=(hS.box.cell 1 _ rfl).1;have r0:=(hS.res.cell 0 _ rfl).1;have r1:=(hS.res.cell 1 _ rfl).1;have r0f:=(hS.res.cell 0 _ rfl).2;have r1f:=(hS.res.cell 1 _ rfl).2;have rl:=hS.res.lt;have bl:=hS.box.lt;clear HF HT HB HNN HTy HPos HBack HFr hS hOwn hfu hne oS hwn hfp hun;go_wp2_with fail
              exact bodyPost_ret (v:=.tuple #[.agg #[.slice a0 x.structs.length c0,.slice a1 x.funcs.length c1],.bool true]) (by simp[results,Tryz.results11,go_sem,World.cell?_setCell_same',r0,r1]) rfl HZ
        · rw[HB.out.1]at hno
          cases hno
  · have hb11:=hb1.later l1
    have r0:=(hb11.cell 0 _ rfl)
    have r1:=(hb11.cell 1 _ rfl)
    have rl:=hb11.lt;have HZ:=HF.out w1 (lA.trans l1) hb11 (by unfold So.wnB;rw[hfp];rfl);obtain⟨r0,r0f⟩:=r0;obtain⟨r1,r1f⟩:=r1;clear HF HT HU HW HB HNN HTy hb0 hb1 hb11 y0 y1 yl hF hwA;go_wp2_with fail
    exact bodyPost_ret (v:=.tuple #[.agg #[.slice none 0 0,.slice none 0 0],.bool false]) (by simp[results,Tryz.results11,go_sem,World.cell?_setCell_same',r0,r1]) rfl HZ
end Go.Proofs.YtgaddpkkjebekaaGreatDoor
