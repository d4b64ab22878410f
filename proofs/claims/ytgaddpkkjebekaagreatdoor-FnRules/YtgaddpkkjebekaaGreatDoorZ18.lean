import Derived.Test.YtgaddpkkjebekaaGreatDoorZ16
import Derived.Test.YtgaddpkkjebekaaGreatDoorZ17
set_option maxHeartbeats 100000000
set_option maxRecDepth 100000
namespace Go.Proofs.YtgaddpkkjebekaaGreatDoor
open Go.RowKit Go.Maps
theorem Qi {w:World}{ks:List Ex}{v:Value}{G:List Nat}(h:ai w (.list 6 (Ex.ah ks)) [v] G):∃ a cap,v=.slice a ks.length cap/\ks.length<=1048576/\(0<ks.length->∃ g F,a=some ⟨g,0,none⟩/\G=g::F/\g<w.heap.size/\ax w 6 g 0 (Ex.ah ks) F) /\
  (∀ w' l',l'.length=ks.length->w.heap.size<=w'.heap.size->(∀ g F,G=g::F->0<ks.length->ax w' 6 g 0 (Ex.ah l') F)->ai w' (.list 6 (Ex.ah l')) [v] G):=by
 rw[ai]at h;obtain⟨a,cap,hc,⟨h1,h2,h3⟩,hp,hz⟩:=h;have hv:v=.slice a (Ex.ah ks).length cap:=by simpa using hc
 rw[Ex.az]at *;subst hv;refine⟨a,cap,rfl,h1,hp,fun w' l' hl hs hA=>?_⟩;rw[ai,Ex.az,hl];refine⟨a,cap,rfl,⟨h1,h2,h3⟩,fun q=>?_,hz⟩;obtain⟨g,F,e1,e2,e3,_⟩:=hp q;exact⟨g,F,e1,e2,by omega,hA g F e2 q⟩
theorem Pe {wr:World}{l:List Ex}{gk:Nat}{F:List Nat}{j:Nat}(hA:ax wr 6 gk 0 (Ex.ah l) F) (hnd:(gk::F).Nodup) (hj:j<l.length) :
  ∃ u0 u1 H0 H1,(∀ m u,[.int .i64 l[j].kind,.int .i64 l[j].n,.int .i64 l[j].tk,.int .i64 l[j].tn,u0,u1][m]?=some u->wr.cell? ⟨gk,j*6+m,none⟩=some u/\wr.frozen? ⟨gk,j*6+m,none⟩=false)/\ai wr (.bytes l[j].name) [u0] H0/\ai wr (.list 6 (Ex.ah l[j].kids)) [u1] H1/\(∀ b∈H0++H1,b∈F)/\(gk::(H0++H1)).Nodup /\
   ∀ (w2:World) (n a b:Int) (ks':List Ex),wr.heap.size<=w2.heap.size->(∀ x,x<wr.heap.size->x∉H1->x≠gk->w2.heap[x]?=wr.heap[x]?)->(∀ y,y≠j*6+1->y≠j*6+2->y≠j*6+3->w2.cell? ⟨gk,y,none⟩=wr.cell? ⟨gk,y,none⟩)->(∀ y,w2.frozen? ⟨gk,y,none⟩=wr.frozen? ⟨gk,y,none⟩) ->
    w2.cell? ⟨gk,j*6+1,none⟩=some (.int .i64 n)->w2.cell? ⟨gk,j*6+2,none⟩=some (.int .i64 a)->w2.cell? ⟨gk,j*6+3,none⟩=some (.int .i64 b)->ai w2 (.list 6 (Ex.ah ks')) [u1] H1->ax w2 6 gk 0 (Ex.ah (l.set j (.mk l[j].kind n a b l[j].name ks'))) F:=by
 have hjl:j<(Ex.ah l).length:=by rw[Ex.az];exact hj
 obtain⟨cs,F1,Fj,F2,rfl,hk,hc,hd,HK⟩:=ax.lens _ j hjl hA;rw[Ex.dP _ j hj]at hd;obtain⟨u0,u1,H0,H1,rfl,rfl,hn,hkd⟩:=Ex.iO hd;rw[Nat.zero_add]at hc HK;have hin:∀ b∈H0++H1,b∈F1++((H0++H1)++F2):=fun b q=>List.mem_append_right _ (List.mem_append_left _ q);have hnd':=List.nodup_cons.1 hnd;have hgn:gk∉H0++H1:=fun q=>hnd'.1 (hin _ q);have n1:=List.nodup_append.1 hnd'.2;have n2:=List.nodup_append.1 n1.2.1;have n3:=List.nodup_append.1 n2.1;refine⟨u0,u1,H0,H1,hc,hn,hkd,hin,List.nodup_cons.2 ⟨hgn,n2.1⟩,fun w2 n a b ks' hsz hb1 hcell1 hfr1 c1 c2 c3 hown=>?_⟩;have hn2:ai w2 (.bytes l[j].name) [u0] H0:=ai.agree hsz _ hn (fun b q=>hb1 b (ai.lt _ hn b q) (fun q'=>n3.2.2 b q b q' rfl) (fun e=>hgn (e ▸ List.mem_append_left _ q)));have hd2:=Ex.own (x:=Ex.mk l[j].kind n a b l[j].name ks') hn2 hown;have hgoal:=HK w2 (Ex.mk l[j].kind n a b l[j].name ks').dat _ rfl (fun m u hm=>?_) hd2 hsz (fun y hy=>⟨hcell1 y (by omega) (by omega) (by omega),hfr1 y⟩) (fun b q=>?_)
 ·rw[Ex.oZ,<- List.map_set,<- Ex.oZ]at hgoal;exact hgoal
 ·have hm':[Value.int .i64 l[j].kind,.int .i64 n,.int .i64 a,.int .i64 b,u0,u1][m]?=some u:=hm;rw[hfr1]
  match m,hm' with
  | 0,hm =>
   rw[hcell1 _ (by omega) (by omega) (by omega)];exact hc 0 u hm
  | 1,hm =>
   cases hm
   exact⟨c1,(hc 1 _ rfl).2⟩
  | 2,hm =>
   cases hm
   exact⟨c2,(hc 2 _ rfl).2⟩
  | 3,hm =>
   cases hm
   exact⟨c3,(hc 3 _ rfl).2⟩
  | 4,hm =>
   rw[hcell1 _ (by omega) (by omega) (by omega)];exact hc 4 u hm
  | 5,hm =>
   rw[hcell1 _ (by omega) (by omega) (by omega)];exact hc 5 u hm
 ·have hbm:b∈F1++((H0++H1)++F2):=by rcases q with q|q;exact List.mem_append_left _ q;exact List.mem_append_right _ (List.mem_append_right _ q)
  refine hb1 b ?_ (fun q'=>?_) (fun e=>hnd'.1 (e ▸ hbm))
  ·exact ax.lt _ hA b hbm
  ·rcases q with q|q
   ·exact n1.2.2 b q b (List.mem_append_left _ (List.mem_append_right _ q')) rfl
   ·exact n2.2.2 b (List.mem_append_right _ q') b q rfl
def QA (S:List Sc) (Fs:List Fu) (ts:List TyP) (ks:List Ex) (v:Value) (G:List Nat) (w:World) (e:Ending) (w':World):Prop:=∃ b,e=.returned (.bool b)/\ay G w w'/\(b=false->Ex.aH S Fs ts ks=none)/\(b=true->∃ ks',Ex.aH S Fs ts ks=some ks'/\ai w' (.list 6 (Ex.ah ks')) [v] G)
theorem set_mid {ks1 r:List Ex}{x y:Ex}{j:Nat}(h:ks1.length=j):(ks1++x::r).set j y=(ks1++[y])++r:=by
 subst h;rw[List.set_append_right _ _ (Nat.le_refl _),Nat.sub_self,List.set_cons_zero,List.append_assoc];rfl
theorem PM:∀ (N:Nat) (ks:List Ex) (X:List Nat) (w:World) (K:Nat) (v0 v1:Value) (S:List Sc) (Fs:List Fu) (res:TyP) (ts:List TyP) (v:Value) (G:List Nat),Ex.szs ks<=N->Tg X w K v0 v1 S Fs res ts->xG S Fs ts->Ex.fits S.length ts.length Fs.length ks->ai w (.list 6 (Ex.ah ks)) [v] G->G.Nodup->(∀ b∈G,b∈X/\b<K) ->
  Calls Tryz.prog 89 #[.pointer (some ⟨K,0,none⟩),v] w (QA S Fs ts ks v G w):=by
 intro N
 induction N using Nat.strongRecOn with
 | _ N IH =>
 intro ks X w K v0 v1 S Fs res ts v G hN hT hV hfit hO hnd hX;obtain⟨a,cap,rfl,hlen,hpos,hback⟩:=Qi hO
 have HF:Hid (∀ w',ay G w w'->Ex.aH S Fs ts ks=none->QA S Fs ts ks (.slice a ks.length cap) G w (.returned (.bool false)) w'):=fun w' o h=>⟨false,rfl,o,fun _=>h,fun h=>by cases h⟩
 have HTr:Hid (∀ w' ks',ay G w w'->Ex.aH S Fs ts ks=some ks'->(∀ g F,G=g::F->0<ks.length->ax w' 6 g 0 (Ex.ah ks') F)->QA S Fs ts ks (.slice a ks.length cap) G w (.returned (.bool true)) w'):=fun w' ks' o h hA=>⟨true,rfl,o,fun h=>(by cases h),fun _=>⟨ks',h,hback w' ks' (Ex.dZ S Fs ts ks ks' h) o.size hA⟩⟩
 have HP:Hid _:=hpos;clear hback hpos hO
 generalize hQ:QA S Fs ts ks (.slice a ks.length cap) G w=Q at *
 clear hQ;go_enter Tryz.func89,Tryz.ntmps89;go_wp2_with fail
 go_loopw [11] (fun i wr=>∃ (j:Nat) (ks1:List Ex),i=.int .i64 (j:Int)/\j<=ks.length/\ay G w wr/\Hid (Ex.aH S Fs ts (ks.take j)=some ks1)/\Hid (∀ g F,G=g::F->0<ks.length->ax wr 6 g 0 (Ex.ah (ks1++ks.drop j)) F)) (fun i _=>ks.length - (intOf i).toNat)
 case atStart=>exact⟨0,[],rfl,Nat.zero_le _,ay.refl _ _,by unfold Hid;rw[List.take_zero,Ex.aH],fun g F e q=>by obtain⟨g2,F2,_,e2,_,hA⟩:=HP.out q;rw[e]at e2;cases e2;exact hA⟩
 case round =>
  obtain⟨j,ks1,rfl,hj,oR,H1,HA⟩:=hrel;by_cases hlt:j<ks.length
  ·obtain⟨gk,F,rfl,rfl,hgk,_⟩:=HP.out (by omega);have i1:(j:Int)<(ks.length:Int):=by omega
   have hl1:ks1.length=j:=by rw[Ex.dZ S Fs ts _ _ H1.out,List.length_take];omega
   have hjl:j<(ks1++ks.drop j).length:=by rw[List.length_append,List.length_drop];omega
   have hel:(ks1++ks.drop j)[j]=ks[j]:=by rw[List.getElem_append_right (by omega)];simp[hl1]
   obtain⟨u0,u1,G0,G1,hc,hn,hkd,hin,hnd2,HK⟩:=Pe (HA.out _ _ rfl (by omega)) hnd hjl;rw[hel]at hc hn hkd HK;have hset:∀ y,(ks1++ks.drop j).set j y=(ks1++[y])++ks.drop (j+1):=fun y=>by rw[List.drop_eq_getElem_cons hlt];exact set_mid hl1
   have HK':Hid (∀ (w2:World) (n a b:Int) (ks':List Ex),wr.heap.size<=w2.heap.size->(∀ x,x<wr.heap.size->x∉G1->x≠gk->w2.heap[x]?=wr.heap[x]?)->(∀ y,y≠j*6+1->y≠j*6+2->y≠j*6+3->w2.cell? ⟨gk,y,none⟩=wr.cell? ⟨gk,y,none⟩)->(∀ y,w2.frozen? ⟨gk,y,none⟩=wr.frozen? ⟨gk,y,none⟩)->w2.cell? ⟨gk,j*6+1,none⟩=some (.int .i64 n)->w2.cell? ⟨gk,j*6+2,none⟩=some (.int .i64 a)->w2.cell? ⟨gk,j*6+3,none⟩=some (.int .i64 b)->ai w2 (.list 6 (Ex.ah ks')) [u1] G1->ax w2 6 gk 0 (Ex.ah ((ks1++[.mk ks[j].kind n a b ks[j].name ks'])++ks.drop (j+1))) F):=fun w2 n a b ks' q1 q2 q3 q4 q5 q6 q7 q8=>by rw[<-hset];exact HK w2 n a b ks' q1 q2 q3 q4 q5 q6 q7 q8
   clear HK hset;have hgw:gk<wr.heap.size:=Nat.lt_of_lt_of_le hgk oR.size;have hTr:Tg X wr K v0 v1 S Fs res ts:=hT.only oR hX;have hfj:=(Ex.Jg _ _ _ _).1 (Ex.Kt ks hfit j hlt);have hszj:=Ex.dW ks j hlt;have hkle:=Ex.wV ks[j];have hg1:gk∉G1:=fun q=>(List.nodup_cons.1 hnd2).1 (List.mem_append_right _ q)
   have hGF:∀ b∈gk::G1,b∈gk::F:=fun b q=>by
    rcases List.mem_cons.1 q with rfl|q
    ·exact List.mem_cons_self ..
    ·exact List.mem_cons_of_mem _ (hin b (List.mem_append_right _ q))
   have hI:=IH (Ex.szs ks[j].kids) (by omega) ks[j].kids X wr K v0 v1 S Fs res ts u1 G1 (Nat.le_refl _) hTr hV hfj.2 hkd (List.nodup_append.1 (List.nodup_cons.1 hnd2).2).2.1 (fun b q=>hX b (hGF b (List.mem_cons_of_mem _ q)));have c5:=(hc 5 _ rfl).1;obtain⟨a1,n1,p1,rfl⟩:=dI hkd;have HTy:Hid (ks[j].tyd S Fs ts=match Ex.aH S Fs ts ks[j].kids with|none=>none|some ks'=>match bZ S Fs ts ks[j].kind ks[j].n ks[j].tk ks[j].tn ks[j].name ks' with|none=>none|some r=>some (.mk ks[j].kind r.1 r.2.1 r.2.2 ks[j].name ks')):=Ex.Ho S Fs ts ks[j];have HBad:Hid (ks[j].tyd S Fs ts=none->Ex.aH S Fs ts ks=none):=Ex.qR hlt;have HNx:Hid (∀ x,ks[j].tyd S Fs ts=some x->Ex.aH S Fs ts (ks.take (j+1))=some (ks1++[x])):=fun x hx=>Ex.mW hlt H1.out hx;have HC:Hid _:=hc;clear hc hkd H1 HA hel hjl hl1 hszj hkle IH hT HP;go_wp2_with fail
   refine hI.mono ?_;rintro e w3 ⟨b1,rfl,o3,hf3,ht3⟩;have oR3:ay (gk::F) w w3:=oR.trans (o3.mono (fun b q=>hGF b (List.mem_cons_of_mem _ q)));have HF3:Hid _:=hf3;have HT3:Hid _:=ht3;clear hI hf3 ht3
   cases b1 with
   | false =>
    have HZ:=HF.out w3 oR3 (HBad.out (by rw[HTy.out,HF3.out rfl]));clear HF HTr HK' HTy HBad HNx HC HF3 HT3;go_wp2_with fail
    exact HZ
   | true =>
    obtain⟨ks',hk',hO3⟩:=HT3.out rfl;have hC3:∀ m u,[.int .i64 ks[j].kind,.int .i64 ks[j].n,.int .i64 ks[j].tk,.int .i64 ks[j].tn,u0,.slice a1 n1 p1][m]?=some u->w3.cell? ⟨gk,j*6+m,none⟩=some u/\w3.frozen? ⟨gk,j*6+m,none⟩=false:=fun m u hm=>by rw[(aj (o3.block gk hgw hg1)).1,(aj (o3.block gk hgw hg1)).2];exact HC.out m u hm
    have hT3:Tg X w3 K v0 v1 S Fs res ts:=hTr.only o3 (fun b q=>hX b (hGF b (List.mem_cons_of_mem _ q)));have hn3:ai w3 (.bytes ks[j].name) [u0] G0:=ai.only hn o3 (fun b q q'=>(List.nodup_append.1 (List.nodup_cons.1 hnd2).2).2.2 b q b q' rfl)
    have hXi:XIn X w3 K v0 v1 S Fs res ts gk (j*6) ks[j].kind ks[j].n ks[j].tk ks[j].tn u0 (.slice a1 n1 p1) ks[j].name ks':=⟨hT3,Nat.lt_of_lt_of_le hgw o3.size,hC3,by obtain⟨v,e,r⟩:=RdN.iff.1 (ai.rd _ hn3);cases e;exact r,by obtain⟨v,e,r⟩:=RdL.iff.1 (ai.rd _ hO3);cases e;exact r⟩
    have hkv:=Ex.zG hV _ _ hfj.2 hk';have hP1:=AQ ks[j].kind ks[j].n gk (j*6) w3 hT3.now.2 (hC3 0 _ rfl).1 (hC3 1 _ rfl).1;have hP2:=fun w' (l:Later w3 w')=>Pn X w' K v0 v1 S Fs res ts gk (j*6) ks[j].kind ks[j].n ks[j].tk ks[j].tn u0 (.slice a1 n1 p1) ks[j].name ks' (hXi.later l) hfj.1 hkv;have HO3:Hid _:=hO3;have HTy2:Hid (ks[j].tyd S Fs ts=match bZ S Fs ts ks[j].kind ks[j].n ks[j].tk ks[j].tn ks[j].name ks' with|none=>none|some r=>some (.mk ks[j].kind r.1 r.2.1 r.2.2 ks[j].name ks')):=by unfold Hid;rw[HTy.out,hk']
    have HCC:Hid _:=hC3;clear HTy HF3 HT3 hO3 hk' hkv hn3 hn hXi hT3 hTr hC3 HC
    generalize exV ks[j].kind ks[j].n gk (j*6)=xv at *
    generalize bZ S Fs ts ks[j].kind ks[j].n ks[j].tk ks[j].tn ks[j].name ks'=TO at *
    go_wp2_with fail
    refine hP1.mono ?_;rintro e w4 ⟨rfl,l4⟩;have hP3:=hP2 w4 l4;clear hP1 hP2;go_wp2_with fail
    refine hP3.mono ?_;rintro e w5 ⟨ta,tb,ok,rfl,oc,hf5,ht5⟩;have oR5:ay (gk::F) w w5:=(oR3.trans (ay.of_later l4)).trans (oc.only.mono (fun b q=>by rcases List.mem_cons.1 q with rfl|q;exact List.mem_cons_self ..;cases q));have HF5:Hid _:=hf5;have HT5:Hid _:=ht5;clear hP3 hf5 ht5
    cases ok with
    | false =>
     have HZ:Hid (∀ w',Later w5 w'->Q (.returned (.bool false)) w'):=fun w' l=>HF.out w' (oR5.trans (ay.of_later l)) (HBad.out (by rw[HTy2.out,HF5.out rfl]));clear HF HTr HK' HTy2 HBad HNx HF5 HT5 HO3 HCC;go_wp2_with fail
     exact HZ.out _ (ae _ _)
    | true =>
     obtain⟨m,hTO,hm⟩:=HT5.out rfl;have hg3:gk<w3.heap.size:=Nat.lt_of_lt_of_le hgw o3.size;have hg4:gk<w4.heap.size:=Nat.lt_of_lt_of_le hg3 l4.size;have hg5:gk<w5.heap.size:=Nat.lt_of_lt_of_le hg4 oc.size;have hcell5:∀ y,y≠j*6+1->w5.cell? ⟨gk,y,none⟩=w3.cell? ⟨gk,y,none⟩:=fun y hy=>by rw[oc.cells y hy,(aj (l4.block gk hg3)).1]
     have hfr5:∀ y,w5.frozen? ⟨gk,y,none⟩=w3.frozen? ⟨gk,y,none⟩:=fun y=>by rw[oc.Jf y,(aj (l4.block gk hg3)).2]
     have d2:w5.cell? ⟨gk,j*6+2,none⟩=some (.int .i64 ks[j].tk):=by rw[hcell5 _ (by omega)];exact (HCC.out 2 _ rfl).1
     have d3:w5.cell? ⟨gk,j*6+3,none⟩=some (.int .i64 ks[j].tn):=by rw[hcell5 _ (by omega)];exact (HCC.out 3 _ rfl).1
     have f2:w5.frozen? ⟨gk,j*6+2,none⟩=false:=by rw[hfr5];exact (HCC.out 2 _ rfl).2
     have f3:w5.frozen? ⟨gk,j*6+3,none⟩=false:=by rw[hfr5];exact (HCC.out 3 _ rfl).2
     have hOnlyW:ay [gk] w5 (((w5.setCell ⟨gk,j*6+2,none⟩ (.int .i64 ta)).setCell ⟨gk,j*6+3,none⟩ (.int .i64 tb)).alloc (.cells #[.int .i64 ta,.int .i64 tb] 52)):=(ay.set (ay.set (ay.refl _ _) _ (List.mem_singleton.2 rfl)) _ (List.mem_singleton.2 rfl)).trans (ay.of_later (ae _ _));have hb3:∀ x,x<wr.heap.size->x∉G1->w3.heap[x]?=wr.heap[x]?:=fun x hx hn=>o3.block x hx hn
     have HREL:Hid (∃ ks2,Hid (Ex.aH S Fs ts (ks.take (j+1))=some ks2)/\ay (gk::F) w (((w5.setCell ⟨gk,j*6+2,none⟩ (.int .i64 ta)).setCell ⟨gk,j*6+3,none⟩ (.int .i64 tb)).alloc (.cells #[.int .i64 ta,.int .i64 tb] 52))/\Hid (∀ g' F',gk::F=g'::F'->0<ks.length->ax (((w5.setCell ⟨gk,j*6+2,none⟩ (.int .i64 ta)).setCell ⟨gk,j*6+3,none⟩ (.int .i64 tb)).alloc (.cells #[.int .i64 ta,.int .i64 tb] 52)) 6 g' 0 (Ex.ah (ks2++ks.drop (j+1))) F')):=by
      refine⟨_,HNx.out _ (by rw[HTy2.out,hTO]),oR5.trans (hOnlyW.mono (fun b q=>by rw[List.mem_singleton.1 q];exact List.mem_cons_self ..)),fun g' F' e _=>?_⟩
      cases e
      generalize hWW:((w5.setCell ⟨gk,j*6+2,none⟩ (.int .i64 ta)).setCell ⟨gk,j*6+3,none⟩ (.int .i64 tb))=WW at *
      have hcW:∀ y,y≠j*6+2->y≠j*6+3->WW.cell? ⟨gk,y,none⟩=w5.cell? ⟨gk,y,none⟩:=fun y h2 h3=>by rw[<-hWW,World.cell?_setCell_other _ _ _ _ (by simp <;> omega),World.cell?_setCell_other _ _ _ _ (by simp <;> omega)]
      have hfW:∀ y,WW.frozen? ⟨gk,y,none⟩=w5.frozen? ⟨gk,y,none⟩:=fun y=>by rw[<-hWW,World.frozen?_setCell,World.frozen?_setCell]
      have hsW:WW.heap.size=w5.heap.size:=by rw[<-hWW,World.size_setCell,World.size_setCell]
      have hgW:gk<WW.heap.size:=by omega
      have aW:=fun y=>aj (w:=WW) (w':=WW.alloc (.cells #[.int .i64 ta,.int .i64 tb] 52)) (b:=gk) (o:=y) ((ae WW _).block gk hgW);refine HK'.out _ m ta tb ks' ?_ (fun x hx hn hg=>?_) (fun y h1 h2 h3=>?_) (fun y=>?_) ?_ ?_ ?_ ?_
      ·have:=o3.size;have:=l4.size;have:=oc.size;have:=(ae WW (.cells #[.int .i64 ta,.int .i64 tb] 52)).size;omega
      ·have hx3:x<w3.heap.size:=Nat.lt_of_lt_of_le hx o3.size;have hx4:x<w4.heap.size:=Nat.lt_of_lt_of_le hx3 l4.size;rw[hOnlyW.block x (Nat.lt_of_lt_of_le hx4 oc.size) (by simpa using hg),oc.block x hx4 (by simp) hg,l4.block x hx3,hb3 x hx hn]
      ·rw[(aW y).1,hcW y h2 h3,hcell5 y h1,(aj (o3.block gk hgw hg1)).1]
      ·rw[(aW y).2,hfW y,hfr5 y,(aj (o3.block gk hgw hg1)).2]
      ·rw[(aW _).1,hcW _ (by omega) (by omega)];exact hm
      ·rw[(aW _).1,<- hWW,World.cell?_setCell_other _ _ _ _ (by simp)];exact jo d2
      ·rw[(aW _).1,<- hWW];exact jo (by rw[World.cell?_setCell_other _ _ _ _ (by simp)];exact d3)
      ·refine ai.only (ai.only (bz HO3.out l4) oc.only (fun b q q'=>?_)) hOnlyW (fun b q q'=>?_)
       ·rcases List.mem_cons.1 q' with e|q'
        ·exact hg1 (e ▸ q)
        ·cases q'
       ·exact hg1 (List.mem_singleton.1 q' ▸ q)
     have hgs:(j*6+2:Nat)≠j*6+3:=by omega
     clear HF HTr HK' HTy2 HBad HNx HF5 HT5 HO3 HCC hcell5 hfr5 hOnlyW hb3 hTO hm;go_wp2_with fail
     go_roundw
     case rel =>
      obtain⟨ks2,q1,q2,q3⟩:=HREL.out;exact⟨j+1,ks2,by go_num,by omega,q2,q1,q3⟩
     case measure=>simp[intOf];omega
  ·have i1:¬ (j:Int)<(ks.length:Int):=by omega
   have i2:decide ((j:Int)<(ks.length:Int))=false:=decide_eq_false i1;have hjj:j=ks.length:=by omega
   have HZ:=HTr.out wr ks1 oR (by have:=H1.out;rw[hjj,List.take_length]at this;exact this) (fun g F e q=>by have:=HA.out g F e q;rw[hjj,List.drop_length,List.append_nil]at this;exact this);clear HF HTr H1 HA HP IH hT;go_wp2_with fail
   exact HZ
def ed (res:TyP) (k:Int) (ks:List Ex):Bool :=
 if k=0 then true else if k=1 then ((kTy ks 0).1==(kTy ks 1).1)&&((kTy ks 0).2==(kTy ks 1).2)
 else if k=2\/k=3\/k=6 then ((kTy ks 0).1==1)&&((kTy ks 0).2==0)
 else if k=5 then (((kTy ks 0).1==1)&&((kTy ks 0).2==0))||(((kTy ks 0).1==2)&&((kTy ks 0).2==0))
 else if k=4 then (((kTy ks 0).1==res.1)&&((kTy ks 0).2==res.2))&&(decide (0<ks.length)==!(res.1==0))
 else if k=7 then true else false
mutual
def St.tyd (S:List Sc) (Fs:List Fu) (res:TyP):List TyP->St->Option (St × List TyP)
 | ts,.mk k n tk tn nm ks bo el=>match Ex.aH S Fs ts ks with
  | none=>none
  | some ks'=>if ed res k ks' then (match St.aH S Fs res (if k=0 then ts++[(tk,tn)] else ts) bo with
    | none=>none
    | some (bo',t2)=>match St.aH S Fs res t2 el with
     | none=>none
     | some (el',t3)=>some (.mk k n tk tn nm ks' bo' el',t3)) else none
def St.aH (S:List Sc) (Fs:List Fu) (res:TyP):List TyP->List St->Option (List St × List TyP)
 | ts,[]=>some ([],ts)
 | ts,x::r=>match St.tyd S Fs res ts x with
  | none=>none
  | some (x',t2)=>match St.aH S Fs res t2 r with
   | none=>none
   | some (r',t3)=>some (x'::r',t3)
end
mutual
def St.fit (s c:Nat):Nat->St->Prop
 | m,.mk k _ tk tn _ ks bo el=>(0<=k/\k<=7)/\Ex.fits s m c ks/\(k=0->iF s (tk,tn))/\St.fits s c (m+(if k=0 then 1 else 0)) bo/\St.fits s c (m+(if k=0 then 1 else 0)+(St.decls bo).length) el
def St.fits (s c:Nat):Nat->List St->Prop
 | _,[]=>True
 | m,x::r=>St.fit s c m x/\St.fits s c (m+x.decl.length) r
end
theorem St.Ho (S:List Sc) (Fs:List Fu) (res:TyP) (ts:List TyP) (x:St):St.tyd S Fs res ts x=match Ex.aH S Fs ts x.kids with|none=>none|some ks'=>if ed res x.kind ks' then (match St.aH S Fs res (if x.kind=0 then ts++[(x.tk,x.tn)] else ts) x.body with|none=>none|some (bo',t2)=>match St.aH S Fs res t2 x.els with|none=>none|some (el',t3)=>some (.mk x.kind x.n x.tk x.tn x.name ks' bo' el',t3)) else none:=by obtain⟨k,n,tk,tn,nm,ks,bo,el⟩:=x;rw[St.tyd];rfl
theorem St.Jg (s c m:Nat) (x:St):St.fit s c m x↔(0<=x.kind/\x.kind<=7)/\Ex.fits s m c x.kids/\(x.kind=0->iF s (x.tk,x.tn))/\St.fits s c (m+(if x.kind=0 then 1 else 0)) x.body/\St.fits s c (m+(if x.kind=0 then 1 else 0)+(St.decls x.body).length) x.els:=by obtain⟨k,n,tk,tn,nm,ks,bo,el⟩:=x;rw[St.fit];exact Iff.rfl
mutual
theorem St.Jz (S:List Sc) (Fs:List Fu) (res:TyP):∀ (x:St) (ts:List TyP) (x':St) (t':List TyP),St.tyd S Fs res ts x=some (x',t')->t'.length=ts.length+x.decl.length
 | .mk k n tk tn nm ks bo el,ts,x',t',h=>by
  rw[St.tyd]at h
  cases h1:Ex.aH S Fs ts ks with
  | none=>rw[h1]at h;cases h
  | some ks' =>
   rw[h1]at h;dsimp only at h;by_cases hf:ed res k ks'=true
   ·rw[if_pos hf]at h
    cases h2:St.aH S Fs res (if k=0 then ts++[(tk,tn)] else ts) bo with
    | none=>rw[h2]at h;cases h
    | some r2 =>
     obtain⟨bo',t2⟩:=r2;rw[h2]at h;dsimp only at h
     cases h3:St.aH S Fs res t2 el with
     | none=>rw[h3]at h;cases h
     | some r3 =>
      obtain⟨el',t3⟩:=r3;rw[h3]at h
      cases h
      have a:=(St.dZ S Fs res bo _ _ _ h2)
      have b:=(St.dZ S Fs res el _ _ _ h3)
      rw[St.decl,b.2,a.2];unfold jk;by_cases k0:k=0
      ·rw[if_pos k0,if_pos k0];simp;omega
      ·rw[if_neg k0,if_neg k0];simp;omega
   ·rw[if_neg hf]at h;cases h
theorem St.dZ (S:List Sc) (Fs:List Fu) (res:TyP):∀ (l:List St) (ts:List TyP) (l':List St) (t':List TyP),St.aH S Fs res ts l=some (l',t')->l'.length=l.length/\t'.length=ts.length+(St.decls l).length
 | [],ts,l',t',h=>by rw[St.aH]at h;cases h;rw[St.decls];exact⟨rfl,rfl⟩
 | x::r,ts,l',t',h=>by
  rw[St.aH]at h
  cases h1:St.tyd S Fs res ts x with
  | none=>rw[h1]at h;cases h
  | some r1 =>
   obtain⟨x',t2⟩:=r1;rw[h1]at h;dsimp only at h
   cases h2:St.aH S Fs res t2 r with
   | none=>rw[h2]at h;cases h
   | some r2 =>
    obtain⟨r',t3⟩:=r2;rw[h2]at h
    cases h
    have a:=St.Jz S Fs res x _ _ _ h1;have b:=St.dZ S Fs res r _ _ _ h2;rw[St.decls,List.length_append];exact⟨by rw[List.length_cons,List.length_cons,b.1],by omega⟩
end
theorem St.Gq {s c:Nat}(r:List St):∀ (l:List St) (m:Nat),St.fits s c m (l++r)->St.fits s c m l/\St.fits s c (m+(St.decls l).length) r
 | [],m,h=>by rw[St.decls,List.length_nil,Nat.add_zero];exact⟨by rw[St.fits];trivial,h⟩
 | x::l,m,h=>by
  rw[List.cons_append,St.fits]at h;obtain⟨a,b⟩:=St.Gq r l _ h.2;rw[St.fits,St.decls,List.length_append,<- Nat.add_assoc];exact⟨⟨h.1,a⟩,b⟩
theorem St.gJ (S:List Sc) (Fs:List Fu) (res:TyP) (r:List St):∀ (l:List St) (ts:List TyP),St.aH S Fs res ts (l++r)=match St.aH S Fs res ts l with|none=>none|some (l',t2)=>match St.aH S Fs res t2 r with|none=>none|some (r',t3)=>some (l'++r',t3)
 | [],ts=>by rw[List.nil_append,St.aH];dsimp only;cases St.aH S Fs res ts r with|none=>rfl|some q=>rfl
 | x::l,ts=>by
  rw[List.cons_append,St.aH,St.aH]
  cases St.tyd S Fs res ts x with
  | none=>rfl
  | some q =>
   dsimp only;rw[St.gJ S Fs res r l]
   cases St.aH S Fs res q.2 l with
   | none=>rfl
   | some q2 =>
    dsimp only
    cases St.aH S Fs res q2.2 r with
    | none=>rfl
    | some q3=>rfl
mutual
theorem St.Rf {S:List Sc}{Fs:List Fu}{res:TyP}:∀ (x:St) (ts:List TyP) (x':St) (t':List TyP),xG S Fs ts->St.fit S.length Fs.length ts.length x->St.tyd S Fs res ts x=some (x',t')->xG S Fs t'
 | .mk k n tk tn nm ks bo el,ts,x',t',hV,hf,h=>by
  rw[St.tyd]at h;rw[St.fit]at hf
  cases h1:Ex.aH S Fs ts ks with
  | none=>rw[h1]at h;cases h
  | some ks' =>
   rw[h1]at h;dsimp only at h;by_cases hfi:ed res k ks'=true
   ·rw[if_pos hfi]at h
    cases h2:St.aH S Fs res (if k=0 then ts++[(tk,tn)] else ts) bo with
    | none=>rw[h2]at h;cases h
    | some r2 =>
     obtain⟨bo',t2⟩:=r2;rw[h2]at h;dsimp only at h
     cases h3:St.aH S Fs res t2 el with
     | none=>rw[h3]at h;cases h
     | some r3 =>
      obtain⟨el',t3⟩:=r3;rw[h3]at h
      cases h
      have hV1:xG S Fs (if k=0 then ts++[(tk,tn)] else ts):=by
       by_cases k0:k=0
       ·rw[if_pos k0];refine⟨fun t ht=>?_,hV.fs,hV.st⟩;rcases List.mem_append.1 ht with q|q
        ·exact hV.ts t q
        ·rw[List.mem_singleton.1 q];exact hf.2.2.1 k0
       ·rw[if_neg k0];exact hV
      have hl:(if k=0 then ts++[(tk,tn)] else ts).length=ts.length+(if k=0 then 1 else 0):=by by_cases k0:k=0 <;> simp[k0]
      have hV2:=St.qQ bo _ _ _ hV1 (by rw[hl];exact hf.2.2.2.1) h2;have a:=St.dZ S Fs res bo _ _ _ h2;exact St.qQ el _ _ _ hV2 (by rw[a.2,hl];exact hf.2.2.2.2) h3
   ·rw[if_neg hfi]at h;cases h
theorem St.qQ {S:List Sc}{Fs:List Fu}{res:TyP}:∀ (l:List St) (ts:List TyP) (l':List St) (t':List TyP),xG S Fs ts->St.fits S.length Fs.length ts.length l->St.aH S Fs res ts l=some (l',t')->xG S Fs t'
 | [],ts,l',t',hV,hf,h=>by rw[St.aH]at h;cases h;exact hV
 | x::r,ts,l',t',hV,hf,h=>by
  rw[St.aH]at h;rw[St.fits]at hf
  cases h1:St.tyd S Fs res ts x with
  | none=>rw[h1]at h;cases h
  | some r1 =>
   obtain⟨x',t2⟩:=r1;rw[h1]at h;dsimp only at h
   cases h2:St.aH S Fs res t2 r with
   | none=>rw[h2]at h;cases h
   | some r2 =>
    obtain⟨r',t3⟩:=r2;rw[h2]at h
    cases h
    have a:=St.Jz S Fs res x _ _ _ h1;exact St.qQ r _ _ _ (St.Rf x _ _ _ hV hf.1 h1) (by rw[a];exact hf.2) h2
end
theorem BG:sF 141:=fun v w=>by kernel_rfl
theorem KG:sF 150:=fun v w=>by kernel_rfl
theorem xH:NoZ 151 150 (.agg #[.pointer none]):=fun v w=>by kernel_rfl
theorem ND:sF 151:=fun v w=>by kernel_rfl
theorem vP:NoZ 152 150 (.agg #[.pointer none]):=fun v w=>by kernel_rfl
theorem xJ:NoZ 152 151 (.agg #[.pointer none]):=fun v w=>by kernel_rfl
theorem KI:sF 152:=fun v w=>by kernel_rfl
theorem qG:NoZ 153 150 (.agg #[.pointer none]):=fun v w=>by kernel_rfl
theorem tH:NoZ 153 151 (.agg #[.pointer none]):=fun v w=>by kernel_rfl
theorem qH:NoZ 153 152 (.agg #[.pointer none]):=fun v w=>by kernel_rfl
theorem oC:NoZ 153 155 (.agg #[.pointer none]):=fun v w=>by kernel_rfl
theorem ou:NoZ 153 154 (.agg #[.pointer none]):=fun v w=>by kernel_rfl
theorem DF:sF 153:=fun v w=>by kernel_rfl
theorem tJ:NoZ 154 150 (.agg #[.pointer none]):=fun v w=>by kernel_rfl
theorem uI:NoZ 154 151 (.agg #[.pointer none]):=fun v w=>by kernel_rfl
theorem tK:NoZ 154 152 (.agg #[.pointer none]):=fun v w=>by kernel_rfl
theorem qf:NoZ 154 155 (.agg #[.pointer none]):=fun v w=>by kernel_rfl
theorem Ey:sF 154:=fun v w=>by kernel_rfl
theorem tN:NoZ 155 150 (.agg #[.pointer none]):=fun v w=>by kernel_rfl
theorem uJ:NoZ 155 151 (.agg #[.pointer none]):=fun v w=>by kernel_rfl
theorem tV:NoZ 155 152 (.agg #[.pointer none]):=fun v w=>by kernel_rfl
theorem EC:sF 155:=fun v w=>by kernel_rfl
theorem xK:NoZ 156 150 (.agg #[.pointer none]):=fun v w=>by kernel_rfl
theorem yR:NoZ 156 151 (.agg #[.pointer none]):=fun v w=>by kernel_rfl
theorem xM:NoZ 156 152 (.agg #[.pointer none]):=fun v w=>by kernel_rfl
theorem uQ:NoZ 156 155 (.agg #[.pointer none]):=fun v w=>by kernel_rfl
theorem uP:NoZ 156 154 (.agg #[.pointer none]):=fun v w=>by kernel_rfl
theorem ui:NoZ 156 153 (.agg #[.pointer none]):=fun v w=>by kernel_rfl
theorem NE:sF 156:=fun v w=>by kernel_rfl
theorem xI:NoZ 151 152 (.agg #[.pointer none]):=fun v w=>by kernel_rfl
theorem uO:NoZ 151 155 (.agg #[.pointer none]):=fun v w=>by kernel_rfl
theorem ug:NoZ 152 155 (.agg #[.pointer none]):=fun v w=>by kernel_rfl
def oJ (w:World) (K:Nat):Option Nat:=match w.cell? ⟨K,4,none⟩ with|some v=>v.ownBlock|none=>none
structure bQ (F:List Nat) (K:Nat) (w w':World):Prop where
 os:w'.os=w.os
 tape:w'.tape=w.tape
 output:w'.output=w.output
 size:w.heap.size<=w'.heap.size
 block:∀ b,b<w.heap.size->b∉F->b≠K->oJ w K≠some b->w'.heap[b]?=w.heap[b]?
 row:oJ w' K=oJ w K\/∃ b,oJ w' K=some b/\w.heap.size<=b
theorem bQ.trans {F:List Nat}{K:Nat}{a b c:World}(h:bQ F K a b) (k:bQ F K b c):bQ F K a c :=
 ⟨k.os.trans h.os,k.tape.trans h.tape,k.output.trans h.output,Nat.le_trans h.size k.size,fun x hx hn hk hr=>by
  rw[k.block x (Nat.lt_of_lt_of_le hx h.size) hn hk (fun e=>?_),h.block x hx hn hk hr];rcases h.row with q|⟨y,q1,q2⟩
  ·exact hr (by rw[<-q];exact e)
  ·rw[q1]at e
   cases e
   omega,by
  rcases k.row with q|⟨y,q1,q2⟩
  ·rw[q];exact h.row
  ·exact .inr ⟨y,q1,Nat.le_trans h.size q2⟩⟩
theorem bQ.mono {F G:List Nat}{K:Nat}{a b:World}(h:bQ F K a b) (hs:∀ x∈F,x∈G):bQ G K a b:=⟨h.os,h.tape,h.output,h.size,fun x hx hn=>h.block x hx (fun q=>hn (hs x q)),h.row⟩
theorem bQ.iw {F:List Nat}{K:Nat}{a b:World}(h:ay F a b) (hK:K<a.heap.size) (hn:K∉F):bQ F K a b :=
 ⟨h.os,h.tape,h.output,h.size,fun x hx hn _ _=>h.block x hx hn,.inl (by unfold oJ;rw[(aj (h.block K hK hn)).1])⟩
theorem bQ.of_later {F:List Nat}{K:Nat}{a b:World}(h:Later a b) (hK:K<a.heap.size):bQ F K a b:=(bQ.iw (F:=[]) (ay.of_later h) hK (by simp)).mono (fun x q=>by cases q)
theorem Tg.row {X:List Nat}{w:World}{K:Nat}{v0 v1:Value}{S:List Sc}{Fs:List Fu}{res:TyP}{ts:List TyP}(h:Tg X w K v0 v1 S Fs res ts):∀ b,oJ w K=some b->K+1<=b/\b<w.heap.size:=by
 obtain⟨vs,hb,hr⟩:=h.box;intro b e;unfold oJ at e;rw[(hb.cell 4 _ rfl).1]at e;exact hr.lt b e
theorem bQ.own {F:List Nat}{X:List Nat}{w w':World}{K:Nat}{v0 v1:Value}{S:List Sc}{Fs:List Fu}{res:TyP}{ts:List TyP}(h:bQ F K w w') (hT:Tg X w K v0 v1 S Fs res ts) {d:Dat}{cs:List Value}{G:List Nat}(ho:ai w d cs G) (hK:∀ b∈G,b<K) (hn:∀ b∈G,b∉F):ai w' d cs G :=
 ai.agree h.size _ ho (fun b q=>h.block b (ai.lt _ ho b q) (hn b q) (by have:=hK b q;omega) (fun e=>by have:=(hT.row b e).1;have:=hK b q;omega))
end Go.Proofs.YtgaddpkkjebekaaGreatDoor
