import Derived.Test.YtgaddpkkjebekaaGreatDoorZ19
import Derived.Test.YtgaddpkkjebekaaGreatDoorZ12
set_option maxHeartbeats 100000000
set_option maxRecDepth 100000
namespace Go.Proofs.YtgaddpkkjebekaaGreatDoor
open Go.RowKit Go.Maps
theorem NS {w:World}{l:List St}{v:Value}{G:List Nat}(h:ai w (.list 8 (St.ah l)) [v] G):∃ a cap,v=.slice a l.length cap/\l.length<=1048576/\(0<l.length->∃ g F,a=some ⟨g,0,none⟩/\G=g::F/\g<w.heap.size/\ax w 8 g 0 (St.ah l) F) /\
  (∀ w' l',l'.length=l.length->w.heap.size<=w'.heap.size->(∀ g F,G=g::F->0<l.length->ax w' 8 g 0 (St.ah l') F)->ai w' (.list 8 (St.ah l')) [v] G):=by
 rw[ai]at h;obtain⟨a,cap,hc,⟨h1,h2,h3⟩,hp,hz⟩:=h;have hv:v=.slice a (St.ah l).length cap:=by simpa using hc
 rw[St.az]at *;subst hv;refine⟨a,cap,rfl,h1,hp,fun w' l' hl hs hA=>?_⟩;rw[ai,St.az,hl];refine⟨a,cap,rfl,⟨h1,h2,h3⟩,fun q=>?_,hz⟩;obtain⟨g,F,e1,e2,e3,_⟩:=hp q;exact⟨g,F,e1,e2,by omega,hA g F e2 q⟩
theorem Rj {wr:World}{l:List St}{gk:Nat}{F:List Nat}{j:Nat}(hA:ax wr 8 gk 0 (St.ah l) F) (hnd:(gk::F).Nodup) (hj:j<l.length) :
  ∃ u0 u1 u2 u3 H1 H2 H3,(∀ m u,[.int .i64 l[j].kind,.int .i64 l[j].n,.int .i64 l[j].tk,.int .i64 l[j].tn,u0,u1,u2,u3][m]?=some u->wr.cell? ⟨gk,j*8+m,none⟩=some u/\wr.frozen? ⟨gk,j*8+m,none⟩=false)/\ai wr (.list 6 (Ex.ah l[j].kids)) [u1] H1/\ai wr (.list 8 (St.ah l[j].body)) [u2] H2/\ai wr (.list 8 (St.ah l[j].els)) [u3] H3/\(∀ b∈H1++(H2++H3),b∈F)/\(gk::(H1++(H2++H3))).Nodup /\
   ∀ (w2:World) (ks':List Ex) (bo' el':List St),wr.heap.size<=w2.heap.size->(∀ x∈gk::F,x∉H1++(H2++H3)->w2.heap[x]?=wr.heap[x]?)->ai w2 (.list 6 (Ex.ah ks')) [u1] H1->ai w2 (.list 8 (St.ah bo')) [u2] H2->ai w2 (.list 8 (St.ah el')) [u3] H3->ax w2 8 gk 0 (St.ah (l.set j (.mk l[j].kind l[j].n l[j].tk l[j].tn l[j].name ks' bo' el'))) F:=by
 have hjl:j<(St.ah l).length:=by rw[St.az];exact hj
 obtain⟨cs,F1,Fj,F2,rfl,hk,hc,hd,HK⟩:=ax.lens _ j hjl hA;rw[St.dP _ j hj]at hd;obtain⟨u0,u1,u2,u3,H0,H1,H2,H3,rfl,hFj,hn,hkd,hbd,hed⟩:=St.iO hd;obtain rfl:Fj=H0++(H1++(H2++H3)):=by rw[hFj];simp[List.append_assoc]
 clear hFj;rw[Nat.zero_add]at hc HK;have hin0:∀ b∈H0++(H1++(H2++H3)),b∈F1++((H0++(H1++(H2++H3)))++F2):=fun b q=>List.mem_append_right _ (List.mem_append_left _ q);have hin:∀ b∈H1++(H2++H3),b∈F1++((H0++(H1++(H2++H3)))++F2):=fun b q=>hin0 b (List.mem_append_right _ q);have hnd':=List.nodup_cons.1 hnd;have hgn:gk∉H1++(H2++H3):=fun q=>hnd'.1 (hin _ q);have n1:=List.nodup_append.1 hnd'.2;have n2:=List.nodup_append.1 n1.2.1;have n3:=List.nodup_append.1 n2.1;refine⟨u0,u1,u2,u3,H1,H2,H3,hc,hkd,hbd,hed,hin,List.nodup_cons.2 ⟨hgn,n3.2.1⟩,fun w2 ks' bo' el' hsz hb1 q1 q2 q3=>?_⟩;have hgk:w2.heap[gk]?=wr.heap[gk]?:=hb1 gk (List.mem_cons_self ..) hgn;have hn2:ai w2 (.bytes l[j].name) [u0] H0:=ai.agree hsz _ hn (fun b q=>hb1 b (List.mem_cons_of_mem _ (hin0 b (List.mem_append_left _ q))) (fun q'=>n3.2.2 b q b q' rfl));have hd2:=St.own (x:=St.mk l[j].kind l[j].n l[j].tk l[j].tn l[j].name ks' bo' el') hn2 q1 q2 q3;have hgoal:=HK w2 (St.mk l[j].kind l[j].n l[j].tk l[j].tn l[j].name ks' bo' el').dat _ rfl (fun m u hm=>by rw[(aj hgk).1,(aj hgk).2];exact hc m u hm) hd2 hsz (fun y _=>aj hgk) (fun b q=>?_)
 ·rw[St.oZ,<- List.map_set,<- St.oZ]at hgoal;exact hgoal
 ·have hbm:b∈F1++((H0++(H1++(H2++H3)))++F2):=by rcases q with q|q;exact List.mem_append_left _ q;exact List.mem_append_right _ (List.mem_append_right _ q)
  refine hb1 b (List.mem_cons_of_mem _ hbm) (fun q'=>?_);rcases q with q|q
  ·exact n1.2.2 b q b (List.mem_append_left _ (List.mem_append_right _ q')) rfl
  ·exact n2.2.2 b (List.mem_append_right _ q') b q rfl
theorem NZ {l1 r:List St}{x y:St}{j:Nat}(h:l1.length=j):(l1++x::r).set j y=(l1++[y])++r:=by
 subst h;rw[List.set_append_right _ _ (Nat.le_refl _),Nat.sub_self,List.set_cons_zero,List.append_assoc];rfl
theorem St.mW {S:List Sc}{Fs:List Fu}{res:TyP}{ts t1 t2:List TyP}{l l1:List St}{x:St}{j:Nat}(h:j<l.length) (h1:St.aH S Fs res ts (l.take j)=some (l1,t1)) (h2:St.tyd S Fs res t1 l[j]=some (x,t2)):St.aH S Fs res ts (l.take (j+1))=some (l1++[x],t2):=by
 rw[List.take_succ_eq_append_getElem h,St.gJ,h1];dsimp only;rw[St.aH,h2];dsimp only;rw[St.aH]
theorem St.qR {S:List Sc}{Fs:List Fu}{res:TyP}{ts t1:List TyP}{l l1:List St}{j:Nat}(h:j<l.length) (h1:St.aH S Fs res ts (l.take j)=some (l1,t1)) (h2:St.tyd S Fs res t1 l[j]=none):St.aH S Fs res ts l=none:=by
 have e:=List.take_append_drop j l;rw[<-e,St.gJ,h1];dsimp only;rw[List.drop_eq_getElem_cons h,St.aH,h2]
theorem PQ:∀ (N:Nat) (l:List St),St.szs l<=N->BlX l:=by
 intro N
 induction N using Nat.strongRecOn with
 | _ N IH =>
 intro l hN X w K v0 v1 S Fs res ts v G hT hV hfit hO hnd hX hlen;obtain⟨a,cap,rfl,hl0,hpos,hback⟩:=NS hO
 have HF:Hid (∀ w',bQ G K w w'->St.aH S Fs res ts l=none->BlP X K v0 v1 S Fs res ts l (.slice a l.length cap) G w (.returned (.bool false)) w'):=fun w' o h=>⟨false,rfl,o,fun _=>h,fun h=>by cases h⟩
 have HTr:Hid (∀ w' l' t',bQ G K w w'->St.aH S Fs res ts l=some (l',t')->Tg X w' K v0 v1 S Fs res t'->(∀ g F,G=g::F->0<l.length->ax w' 8 g 0 (St.ah l') F)->BlP X K v0 v1 S Fs res ts l (.slice a l.length cap) G w (.returned (.bool true)) w'):=fun w' l' t' o h hT hA=>⟨true,rfl,o,fun h=>(by cases h),fun _=>⟨l',t',h,hback w' l' (St.dZ S Fs res l ts l' t' h).1 o.size hA,hT⟩⟩
 have HP:Hid _:=hpos;have HK0:Hid (K<w.heap.size):=hT.lt;clear hback hpos hO
 generalize hQ:BlP X K v0 v1 S Fs res ts l (.slice a l.length cap) G w=Q at *
 clear hQ;go_enter Tryz.func30,Tryz.ntmps30;go_wp2_with fail
 go_loopw [8] (fun i wr=>∃ (j:Nat) (l1:List St) (t1:List TyP),i=.int .i64 (j:Int)/\j<=l.length/\bQ G K w wr/\Tg X wr K v0 v1 S Fs res t1/\Hid (St.aH S Fs res ts (l.take j)=some (l1,t1))/\Hid (∀ g F,G=g::F->0<l.length->ax wr 8 g 0 (St.ah (l1++l.drop j)) F)) (fun i _=>l.length - (intOf i).toNat)
 case atStart=>exact⟨0,[],ts,rfl,Nat.zero_le _,bQ.of_later (Later.refl _) HK0.out,hT,by unfold Hid;rw[List.take_zero,St.aH],fun g F e q=>by obtain⟨g2,F2,_,e2,_,hA⟩:=HP.out q;rw[e]at e2;cases e2;exact hA⟩
 case round =>
  obtain⟨j,l1,t1,rfl,hj,oR,hTr,H1,HA⟩:=hrel;by_cases hlt:j<l.length
  ·obtain⟨gk,F,rfl,rfl,hgk,_⟩:=HP.out (by omega);have i1:(j:Int)<(l.length:Int):=by omega
   have hlens:=St.dZ S Fs res _ _ _ _ H1.out;have hl1:l1.length=j:=by rw[hlens.1,List.length_take];omega
   have hjl:j<(l1++l.drop j).length:=by rw[List.length_append,List.length_drop];omega
   have hel:(l1++l.drop j)[j]=l[j]:=by rw[List.getElem_append_right (by omega)];simp[hl1]
   obtain⟨u0,u1,u2,u3,G1,G2,G3,hc,hkd,hbd,hed,hin,hnd2,HK⟩:=Rj (HA.out _ _ rfl (by omega)) hnd hjl;rw[hel]at hc hkd hbd hed HK;have hset:∀ y,(l1++l.drop j).set j y=(l1++[y])++l.drop (j+1):=fun y=>by rw[List.drop_eq_getElem_cons hlt];exact NZ hl1
   have hsplit:=St.Ae hlt;obtain⟨hfa,hfr⟩:=St.Gq (l.drop j) (l.take j) ts.length (by rw[List.take_append_drop];exact hfit);rw[List.drop_eq_getElem_cons hlt,St.fits]at hfr;have hdl:=St.jJ (l.take j);have hVj:=St.qQ (l.take j) _ _ _ hV hfa H1.out;have hszj:=St.dW l j hlt;have hkle:=St.oP l[j];have hGF:∀ b∈G1++(G2++G3),b∈gk::F:=fun b q=>List.mem_cons_of_mem _ (hin b q);have hgK:gk<K:=(hX gk (List.mem_cons_self ..)).2;have hP:=wY l[j].kind gk (j*8) wr (hc 0 _ rfl).1;have hgw:gk<wr.heap.size:=aK (hc 0 _ rfl).1;have hS:=fun w' (q:Later wr w')=>U0 l[j] (IH (St.szs l[j].body) (by omega) _ (Nat.le_refl _)) (IH (St.szs l[j].els) (by omega) _ (Nat.le_refl _)) X w' K v0 v1 S Fs res t1 gk (j*8) u1 u2 u3 G1 G2 G3 (hTr.later q) hVj (by rw[hlens.2];exact hfr.1) hgK (by rw[(aj (q.block gk hgw)).1];exact (hc 2 _ rfl).1) (by rw[(aj (q.block gk hgw)).1];exact (hc 3 _ rfl).1) (by rw[(aj (q.block gk hgw)).1];exact (hc 5 _ rfl).1) (by rw[(aj (q.block gk hgw)).1];exact (hc 6 _ rfl).1) (by rw[(aj (q.block gk hgw)).1];exact (hc 7 _ rfl).1) (bz hkd q) (bz hbd q) (bz hed q) hnd2 (fun b q'=>hX b (hGF b q')) (by omega);have HS:Hid _:=hS;have HNx:Hid (∀ x t2,St.tyd S Fs res t1 l[j]=some (x,t2)->St.aH S Fs res ts (l.take (j+1))=some (l1++[x],t2)):=fun x t2 hx=>St.mW hlt H1.out hx;have HBad:Hid (St.tyd S Fs res t1 l[j]=none->St.aH S Fs res ts l=none):=fun hx=>St.qR hlt H1.out hx
   have HL:Hid (∀ (w1 w2:World) (ks':List Ex) (bo' el':List St),Later wr w1->bQ (G1++(G2++G3)) K w1 w2->ai w2 (.list 6 (Ex.ah ks')) [u1] G1->ai w2 (.list 8 (St.ah bo')) [u2] G2->ai w2 (.list 8 (St.ah el')) [u3] G3->ax w2 8 gk 0 (St.ah ((l1++[.mk l[j].kind l[j].n l[j].tk l[j].tn l[j].name ks' bo' el'])++l.drop (j+1))) F):=fun w1 w2 ks' bo' el' q1 q2 q3 q4 q5=>by
    rw[<-hset];refine HK w2 ks' bo' el' (Nat.le_trans q1.size q2.size) (fun x hx hn=>?_) q3 q4 q5;have hxK:x<K:=(hX x hx).2;have hxw:x<wr.heap.size:=by have:=hTr.lt;omega
    rw[q2.block x (Nat.lt_of_lt_of_le hxw q1.size) hn (by omega) (fun e=>by have:=((hTr.later q1).row x e).1;omega),q1.block x hxw]
   clear HK hset hel hjl hl1 hszj hkle IH hT hfa hfr hsplit hdl hVj hc hkd hbd hed H1 HA hS hlens
   generalize stV l[j].kind gk (j*8)=sv at *
   go_wp2_with fail
   refine hP.mono ?_;rintro e w2 ⟨rfl,l2⟩;have hS2:=HS.out w2 l2;clear hP HS;go_wp2_with fail
   refine hS2.mono ?_;rintro e w3 ⟨b,rfl,o3,hf3,ht3⟩;have oR3:bQ (gk::F) K w w3:=(oR.trans (bQ.of_later l2 hTr.lt)).trans (o3.mono hGF);have HF3:Hid (b=false->Q (.returned (.bool false)) w3):=fun q=>HF.out w3 oR3 (HBad.out (hf3 q))
   have HT3:Hid (b=true->∃ l2 t2,Tg X w3 K v0 v1 S Fs res t2/\Hid (St.aH S Fs res ts (l.take (j+1))=some (l2,t2))/\Hid (∀ g' F',gk::F=g'::F'->0<l.length->ax w3 8 g' 0 (St.ah (l2++l.drop (j+1))) F')):=fun q=>by
    obtain⟨ks',bo',el',t2,q1,q2,q3,q4,q5⟩:=ht3 q;exact⟨_,t2,q5,HNx.out _ _ q1,fun g' F' e _=>by cases e;exact HL.out w2 w3 ks' bo' el' l2 o3 q2 q3 q4⟩
   clear hS2 hf3 ht3 o3 HNx HBad HL
   cases b with
   | false =>
    have HZ:=HF3.out rfl;clear HF3 HT3 HF HTr;go_wp2_with fail
    exact HZ
   | true =>
    have HZ:=HT3.out rfl;clear HF3 HT3 HF HTr;go_wp2_with fail
    go_roundw
    case rel =>
     obtain⟨l2,t2,z1,z2,z3⟩:=HZ;exact⟨j+1,l2,t2,by go_num,by omega,oR3,z1,z2,z3⟩
    case measure=>simp[intOf];omega
  ·have i1:¬ (j:Int)<(l.length:Int):=by omega
   have i2:decide ((j:Int)<(l.length:Int))=false:=decide_eq_false i1;have hjj:j=l.length:=by omega
   have HZ:=HTr.out wr l1 t1 oR (by have:=H1.out;rw[hjj,List.take_length]at this;exact this) hTr (fun g F e q=>by have:=HA.out g F e q;rw[hjj,List.drop_length,List.append_nil]at this;exact this);clear HF HTr H1 HA HP IH hT;go_wp2_with fail
   exact HZ
def HeadAt (w:World) (g i:Nat) (f:Fu):Prop:=∃ e0 e1 e2,w.cell? ⟨g,i*5,none⟩=some e0/\w.cell? ⟨g,i*5+1,none⟩=some e1/\w.cell? ⟨g,i*5+2,none⟩=some (.int .i64 f.rk)/\w.cell? ⟨g,i*5+3,none⟩=some (.int .i64 f.rn)/\w.cell? ⟨g,i*5+4,none⟩=some e2/\(∃ a n c,e0=.slice a n c)/\(∃ a n c,e2=.slice a n c)/\RdL w 3 e1 (Pa.ah f.params)
theorem Et {w:World}{zs:List Int}{v:Value}{G:List Nat}(h:ai w (.bytes zs) [v] G):∃ a n c,v=.slice a n c:=by
 rw[ai]at h;obtain⟨a,c,e,_⟩:=h;exact⟨a,_,c,by simpa using e⟩
def Fu.BU (f:Fu) (b:List St):Fu:=.mk f.name f.params f.rk f.rn b
theorem Gi {w:World}{g:Nat}:∀ (l:List Fu) (i:Nat) (F:List Nat),ax w 5 g i (Fu.ah l) F->F.Nodup->∃ B:List Nat,(∀ b∈B,b∈F) /\
  (∀ w',w.heap.size<=w'.heap.size->w'.heap[g]?=w.heap[g]?->(∀ b∈F,b∉B->w'.heap[b]?=w.heap[b]?)->∀ j (hj:j<l.length),HeadAt w' g (i+j) l[j]) /\
  ∀ j (hj:j<l.length),∃ (u2:Value) (H2:List Nat),w.cell? ⟨g,(i+j)*5+4,none⟩=some u2/\ai w (.list 8 (St.ah l[j].body)) [u2] H2/\(∀ b∈H2,b∈B)/\H2.Nodup /\
   ∀ (w':World) (b':List St),w.heap.size<=w'.heap.size->w'.heap[g]?=w.heap[g]?->(∀ b∈F,b∉H2->w'.heap[b]?=w.heap[b]?)->ai w' (.list 8 (St.ah b')) [u2] H2->ax w' 5 g i (Fu.ah (l.set j (l[j].BU b'))) F
 | [],i,F,h,_=>⟨[],fun b q=>(by cases q),fun w' _ _ _ j hj=>absurd hj (Nat.not_lt_zero _),fun j hj=>absurd hj (Nat.not_lt_zero _)⟩
 | f::r,i,F,h,hnd=>by
  rw[Fu.ah,ax]at h;obtain⟨cs,F1,F2,rfl,hk,hc,hd,hr⟩:=h;have n1:=List.nodup_append.1 hnd;obtain⟨B,hB1,hB2,hB3⟩:=Gi r (i+1) F2 hr n1.2.1;obtain⟨u0,u1,u2,A0,A1,A2,rfl,hF1,hn,hp,hb⟩:=Fu.iO hd;obtain rfl:F1=A0++(A1++A2):=by rw[hF1];simp[List.append_assoc]
  clear hF1;have n2:=List.nodup_append.1 n1.1;have n3:=List.nodup_append.1 n2.2.1;have dF:∀ b∈A0++(A1++A2),b∉B:=fun b q q'=>n1.2.2 b q b (hB1 b q') rfl;refine⟨A2++B,fun b q=>?_,fun w' hs hg hh j hj=>?_,fun j hj=>?_⟩
  ·rcases List.mem_append.1 q with q|q
   ·exact List.mem_append_left _ (List.mem_append_right _ (List.mem_append_right _ q))
   ·exact List.mem_append_right _ (hB1 b q)
  ·match j,hj with
   | 0,_ =>
    have cb:=fun m u (hm:[u0,u1,.int .i64 f.rk,.int .i64 f.rn,u2][m]?=some u)=>(show w'.cell? ⟨g,i*5+m,none⟩=some u by rw[(aj hg).1];exact (hc m u hm).1)
    have hp':ai w' (.list 3 (Pa.ah f.params)) [u1] A1:=ai.agree hs _ hp (fun b q=>hh b (List.mem_append_left _ (List.mem_append_right _ (List.mem_append_left _ q))) (fun q'=>by
     rcases List.mem_append.1 q' with q'|q'
     ·exact n3.2.2 b q b q' rfl
     ·exact dF b (List.mem_append_right _ (List.mem_append_left _ q)) q'))
    exact⟨u0,u1,u2,cb 0 _ rfl,cb 1 _ rfl,cb 2 _ rfl,cb 3 _ rfl,cb 4 _ rfl,Et hn,dI hb,by obtain⟨v,e,r⟩:=RdL.iff.1 (ai.rd _ hp');cases e;exact r⟩
   | j+1,hj =>
    have:=hB2 w' hs hg (fun b q q'=>hh b (List.mem_append_right _ q) (fun q2=>by
     rcases List.mem_append.1 q2 with q2|q2
     ·exact n1.2.2 b (List.mem_append_right _ (List.mem_append_right _ q2)) b q rfl
     ·exact q' q2)) j (Nat.lt_of_succ_lt_succ hj)
    rw[show i+1+j=i+(j+1) by omega]at this;exact this
  ·match j,hj with
   | 0,_ =>
    refine⟨u2,A2,(hc 4 _ rfl).1,hb,fun b q=>List.mem_append_left _ q,n3.2.1,fun w' b' hs hg hh ho=>?_⟩;rw[List.set_cons_zero,Fu.ah,ax];have hn':ai w' (.bytes f.name) [u0] A0:=ai.agree hs _ hn (fun b q=>hh b (List.mem_append_left _ (List.mem_append_left _ q)) (fun q'=>n2.2.2 b q b (List.mem_append_right _ q') rfl));have hp':ai w' (.list 3 (Pa.ah f.params)) [u1] A1:=ai.agree hs _ hp (fun b q=>hh b (List.mem_append_left _ (List.mem_append_right _ (List.mem_append_left _ q))) (fun q'=>n3.2.2 b q b q' rfl));refine⟨_,_,F2,rfl,rfl,fun m u hm=>?_,Fu.own (x:=f.BU b') hn' hp' ho,ax.agree hs _ hr hg (fun b q=>hh b (List.mem_append_right _ q) (fun q'=>n1.2.2 b (List.mem_append_right _ (List.mem_append_right _ q')) b q rfl))⟩;rw[(aj hg).1,(aj hg).2];exact hc m u hm
   | j+1,hj =>
    obtain⟨v2,H2,q1,q2,q3,q4,q5⟩:=hB3 j (Nat.lt_of_succ_lt_succ hj);rw[show i+1+j=i+(j+1) by omega]at q1;refine⟨v2,H2,q1,q2,fun b q=>List.mem_append_right _ (q3 b q),q4,fun w' b' hs hg hh ho=>?_⟩;rw[List.set_cons_succ,Fu.ah,ax];refine⟨_,_,F2,rfl,rfl,fun m u hm=>?_,ai.agree hs _ hd (fun b q=>hh b (List.mem_append_left _ q) (fun q'=>dF b q (q3 b q'))),q5 w' b' hs hg (fun b q q'=>hh b (List.mem_append_right _ q) q') ho⟩;rw[(aj hg).1,(aj hg).2];exact hc m u hm
def gG (l:List Pa):List TyP:=l.map fun p=>(p.tk,p.tn)
def Fu.tyd (S:List Sc) (Fs:List Fu) (f:Fu):Option Fu:=match St.aH S Fs (f.rk,f.rn) (gG f.params) f.body with|none=>none|some (b,_)=>some (f.BU b)
def Fu.aH (S:List Sc) (Fs:List Fu):List Fu->Option (List Fu)
 | []=>some []
 | f::r=>match Fu.tyd S Fs f with|none=>none|some f'=>match Fu.aH S Fs r with|none=>none|some r'=>some (f'::r')
theorem Fu.gJ (S:List Sc) (Fs:List Fu) (r:List Fu):∀ (l:List Fu),Fu.aH S Fs (l++r)=match Fu.aH S Fs l with|none=>none|some l'=>match Fu.aH S Fs r with|none=>none|some r'=>some (l'++r')
 | []=>by rw[List.nil_append,Fu.aH];cases Fu.aH S Fs r <;> rfl
 | x::l=>by
  rw[List.cons_append,Fu.aH,Fu.aH,Fu.gJ S Fs r l]
  cases Fu.tyd S Fs x with
  | none=>rfl
  | some x' =>
   cases Fu.aH S Fs l with
   | none=>rfl
   | some l'=>cases Fu.aH S Fs r <;> rfl
theorem Fu.dZ (S:List Sc) (Fs:List Fu):∀ (l l':List Fu),Fu.aH S Fs l=some l'->l'.length=l.length
 | [],l',h=>by rw[Fu.aH]at h;cases h;rfl
 | x::r,l',h=>by
  rw[Fu.aH]at h
  cases h1:Fu.tyd S Fs x with
  | none=>rw[h1]at h;cases h
  | some x' =>
   rw[h1]at h
   cases h2:Fu.aH S Fs r with
   | none=>simp only[h2]at h;cases h
   | some r' =>
    simp only[h2]at h
    cases h
    rw[List.length_cons,List.length_cons,Fu.dZ S Fs r r' h2]
theorem Fu.mW {S:List Sc}{Fs:List Fu}{l l1:List Fu}{x:Fu}{j:Nat}(h:j<l.length) (h1:Fu.aH S Fs (l.take j)=some l1) (h2:Fu.tyd S Fs l[j]=some x):Fu.aH S Fs (l.take (j+1))=some (l1++[x]):=by
 rw[List.take_succ_eq_append_getElem h,Fu.gJ,h1,Fu.aH,h2,Fu.aH]
theorem Fu.qR {S:List Sc}{Fs:List Fu}{l:List Fu}{j:Nat}(h:j<l.length) (h2:Fu.tyd S Fs l[j]=none):Fu.aH S Fs l=none:=by
 have e:=List.take_append_drop j l;rw[<-e,Fu.gJ,List.drop_eq_getElem_cons h,Fu.aH,h2]
 cases Fu.aH S Fs (l.take j) <;> rfl
theorem Fu.BV {S:List Sc}{Fs:List Fu}:∀ (l l':List Fu),Fu.aH S Fs l=some l'->∀ i (h:i<l.length) (h':i<l'.length),l'[i].params=l[i].params/\l'[i].rk=l[i].rk/\l'[i].rn=l[i].rn
 | [],l',e,i,h,_=>absurd h (Nat.not_lt_zero _)
 | x::r,l',e,i,h,h'=>by
  rw[Fu.aH]at e
  cases h1:Fu.tyd S Fs x with
  | none=>rw[h1]at e;cases e
  | some x' =>
   rw[h1]at e
   cases h2:Fu.aH S Fs r with
   | none=>simp only[h2]at e;cases e
   | some r' =>
    simp only[h2]at e
    cases e
    match i,h,h' with
    | 0,_,_ =>
     unfold Fu.tyd at h1
     cases h3:St.aH S Fs (x.rk,x.rn) (gG x.params) x.body with
     | none=>rw[h3]at h1;cases h1
     | some q=>rw[h3]at h1;cases h1;exact⟨rfl,rfl,rfl⟩
    | i+1,h,h'=>exact Fu.BV r r' h2 i (Nat.lt_of_succ_lt_succ h) (Nat.lt_of_succ_lt_succ h')
theorem Nj {w:World}{l:List Fu}{v:Value}{G:List Nat}(h:ai w (.list 5 (Fu.ah l)) [v] G):∃ a cap,v=.slice a l.length cap/\l.length<=1048576/\(0<l.length->∃ g F,a=some ⟨g,0,none⟩/\G=g::F/\g<w.heap.size/\ax w 5 g 0 (Fu.ah l) F) /\
  (∀ w' l',l'.length=l.length->w.heap.size<=w'.heap.size->(∀ g F,G=g::F->0<l.length->ax w' 5 g 0 (Fu.ah l') F)->ai w' (.list 5 (Fu.ah l')) [v] G):=by
 rw[ai]at h;obtain⟨a,cap,hc,⟨h1,h2,h3⟩,hp,hz⟩:=h;have hv:v=.slice a (Fu.ah l).length cap:=by simpa using hc
 rw[Fu.az]at *;subst hv;refine⟨a,cap,rfl,h1,hp,fun w' l' hl hs hA=>?_⟩;rw[ai,Fu.az,hl];refine⟨a,cap,rfl,⟨h1,h2,h3⟩,fun q=>?_,hz⟩;obtain⟨g,F,e1,e2,e3,_⟩:=hp q;exact⟨g,F,e1,e2,by omega,hA g F e2 q⟩
theorem N7 {l1 r:List Fu}{x y:Fu}{j:Nat}(h:l1.length=j):(l1++x::r).set j y=(l1++[y])++r:=by
 subst h;rw[List.set_append_right _ _ (Nat.le_refl _),Nat.sub_self,List.set_cons_zero,List.append_assoc];rfl
theorem Ic {l:List Pa}{j:Nat}(h:j<l.length):gG (l.take (j+1))=gG (l.take j)++[(l[j].tk,l[j].tn)]:=by unfold gG;rw[List.take_succ_eq_append_getElem h,List.map_append];rfl
theorem Tg.push {X:List Nat}{w W:World}{K:Nat}{v0 v1:Value}{S:List Sc}{Fs:List Fu}{res:TyP}{ts:List TyP}{vs:Value}{tk tn:Int}(hT:Tg X w K v0 v1 S Fs res ts) (hbx:Bxx w K [v0,v1,.int .i64 res.1,.int .i64 res.2,vs]) (hrow:w.ownsRow (K+1) 52 2 vs ts.length (eP ts)) (l:Later w W) {v4:Value}{w4:World}(ho:w4.ownsRow (K+1) 52 2 v4 (ts.length+1) (eP ts++[.int .i64 tk,.int .i64 tn])) (hg:W.grownBy w4 vs.ownBlock) (hloc:v4.ownBlock=vs.ownBlock\/v4.ownBlock=some W.heap.size) :
  Bxx w4 K [v0,v1,.int .i64 res.1,.int .i64 res.2,vs]/\bQ [] K w (w4.setCell ⟨K,4,none⟩ v4)/\Tg X (w4.setCell ⟨K,4,none⟩ v4) K v0 v1 S Fs res (ts++[(tk,tn)]):=by
 have hKw:=hbx.lt;have hbW:=hbx.later l;have hne:vs.ownBlock≠some K:=fun e=>by have:=(hrow.lt K e).1;omega
 have hB4:Bxx w4 K [v0,v1,.int .i64 res.1,.int .i64 res.2,vs]:=hbW.kept hg.size (hg.block K hbW.lt (fun e=>hne e.symm))
 have bl:Below K w w4:=⟨hg.os.trans l.os,hg.tape.trans l.tape,hg.output.trans l.output,Nat.le_trans l.size hg.size,fun k hk=>by
  rw[hg.block k (by have:=l.size;omega) (fun e=>by have:=(hrow.lt k e.symm).1;omega),l.block k (by omega)]⟩
 have bl':Below K w (w4.setCell ⟨K,4,none⟩ v4):=Below.setCell bl (Nat.le_refl _) _
 have hsame:mJ X K w (w4.setCell ⟨K,4,none⟩ v4):=⟨bl'.size,fun b hb _=>bl'.block b hb⟩
 have hr0:oJ w K=vs.ownBlock:=by unfold oJ;rw[(hbx.cell 4 _ rfl).1]
 have hr1:oJ (w4.setCell ⟨K,4,none⟩ v4) K=v4.ownBlock:=by unfold oJ;rw[jo (hB4.cell 4 _ rfl).1]
 refine⟨hB4,⟨bl'.os,bl'.tape,bl'.output,bl'.size,fun b hb _ hk hr=>?_,?_⟩,⟨⟨v4,hB4.set 4 _ (Nat.lt_of_sub_eq_succ rfl),?_⟩,fun w' q=>hT.hd w' (hsame.trans q),fun w' q=>hT.ty w' (hsame.trans q)⟩⟩
 ·rw[hset hk,hg.block b (by have:=l.size;omega) (fun e=>hr (by rw[hr0];exact e.symm)),l.block b hb]
 ·rw[hr0,hr1];rcases hloc with e|e
  ·exact .inl e
  ·exact .inr ⟨_,e,l.size⟩
 ·rw[List.length_append,yA];exact cu ho (Kept.setAt (Kept.refl _ _) (Nat.lt_succ_self K) 4 _)
theorem Tg.new {wr wA:World}{S:List Sc}{fs l:List Fu}{v0:Value}{a1:Option Addr}{c1:Nat}{G0 F B:List Nat}{gf:Nat}{K:Nat}{rk rn:Int}(lA:Later wr wA) (hK:wr.heap.size<=K) (hbx:Bxx wA K [v0,.slice a1 fs.length c1,.int .i64 rk,.int .i64 rn,.slice none 0 0]) (ha:a1=some ⟨gf,0,none⟩) (hgf:gf<wr.heap.size)
  (hS:ai wr (.list 2 (Sc.ah S)) [v0] G0) (hd0:∀ b∈G0,b∉B) (hty:TyE wr) (hgB:0∉B/\1∉B) (hA:ax wr 5 gf 0 (Fu.ah l) F) (hgn:gf∉B) (hll:l.length=fs.length) (hh:∀ i (h:i<fs.length) (h':i<l.length),l[i].params=fs[i].params/\l[i].rk=fs[i].rk/\l[i].rn=fs[i].rn)
  (hB:∀ w',wr.heap.size<=w'.heap.size->w'.heap[gf]?=wr.heap[gf]?->(∀ b∈F,b∉B->w'.heap[b]?=wr.heap[b]?)->∀ j (hj:j<l.length),HeadAt w' gf (0+j) l[j]):Tg B wA K v0 (.slice a1 fs.length c1) S fs (rk,rn) []:=by
 have same:∀ w',mJ B K wA w'->wr.heap.size<=w'.heap.size/\∀ b,b<wr.heap.size->b∉B->w'.heap[b]?=wr.heap[b]?:=fun w' q=>⟨Nat.le_trans lA.size q.1,fun b hb hn=>by rw[q.2 b (by omega) hn,lA.block b hb]⟩
 refine⟨⟨.slice none 0 0,hbx,World.ownsRow_nil _ _ _ _⟩,fun w' q=>?_,fun w' q=>?_⟩
 ·obtain⟨q1,q2⟩:=same w' q;refine⟨?_,a1,c1,rfl,fun i hi=>?_⟩
  ·have:=ai.agree q1 _ hS (fun b hb=>q2 b (ai.lt _ hS b hb) (hd0 b hb));obtain⟨v,e,r⟩:=RdL.iff.1 (ai.rd _ this)
   cases e
   exact r
  ·have hil:i<l.length:=by omega
   obtain⟨e0,e1,e2,d0,d1,d2,d3,d4,s0,s2,r⟩:=hB w' q1 (q2 gf hgf hgn) (fun b hb hn=>q2 b (ax.lt _ hA b hb) hn) i hil;obtain⟨h1,h2,h3⟩:=hh i hi hil;rw[Nat.zero_add]at d0 d1 d2 d3 d4;rw[h1]at r;rw[h2]at d2;rw[h3]at d3;exact⟨gf,0,e0,e1,e2,ha,by have:=(same w' q).1;omega,by rw[Nat.zero_add];exact d0,by rw[Nat.zero_add];exact d1,by rw[Nat.zero_add];exact d2,by rw[Nat.zero_add];exact d3,by rw[Nat.zero_add];exact d4,s0,s2,r⟩
 ·obtain⟨q1,q2⟩:=same w' q;have hi:=q2 _ (aK hty.i0) hgB.1;have hf:=q2 _ (aK hty.f0) hgB.2;exact⟨by rw[(aj hi).1];exact hty.i0,by rw[(aj hi).1];exact hty.i1,by rw[(aj hf).1];exact hty.f0,by rw[(aj hf).1];exact hty.f1⟩
def TM (S:List Sc) (fs:List Fu) (v1:Value) (G1:List Nat) (w:World) (e:Ending) (w':World):Prop:=∃ b,e=.returned (.bool b)/\ay G1 w w'/\(b=false->Fu.aH S fs fs=none)/\(b=true->∃ fs',Fu.aH S fs fs=some fs'/\ai w' (.list 5 (Fu.ah fs')) [v1] G1)
theorem Py (S:List Sc) (fs:List Fu) (v0 v1:Value) (w:World) (G0 G1:List Nat) (hty:TyE w) (hS:ai w (.list 2 (Sc.ah S)) [v0] G0) (hF:ai w (.list 5 (Fu.ah fs)) [v1] G1) (hnd:(G0++G1).Nodup) (hgl:∀ b∈G1,b≠0/\b≠1) (hV:xG S fs []) (hpv:∀ f∈fs,f.params.length<=1000/\(∀ p∈f.params,iF S.length (p.tk,p.tn))/\St.fits S.length fs.length f.params.length f.body/\St.nums f.body<=1000) :
  Calls Tryz.prog 13 #[.agg #[v0,v1]] w (TM S fs v1 G1 w):=by
 obtain⟨sa,sn,sc,rfl⟩:=dI hS;obtain⟨a1,c1,rfl,hfl,hpos,hback⟩:=Nj hF;obtain⟨i0,hi,hz0,hz1,hz2⟩:=info_parts Tryz.PH;have hG1lt:∀ b∈G1,b<w.heap.size:=fun b q=>ai.lt _ hF b q;have m0:=List.nodup_append.1 hnd
 have HF:Hid (∀ w',ay G1 w w'->Fu.aH S fs fs=none->TM S fs (.slice a1 fs.length c1) G1 w (.returned (.bool false)) w'):=fun w' o h=>⟨false,rfl,o,fun _=>h,fun h=>by cases h⟩
 have HTr:Hid (∀ w' l',ay G1 w w'->Fu.aH S fs fs=some l'->(∀ g F,G1=g::F->0<fs.length->ax w' 5 g 0 (Fu.ah l') F)->TM S fs (.slice a1 fs.length c1) G1 w (.returned (.bool true)) w'):=fun w' l' o h hA=>⟨true,rfl,o,fun h=>(by cases h),fun _=>⟨l',h,hback w' l' (Fu.dZ S fs fs l' h) o.size hA⟩⟩
 have HP:Hid _:=hpos;clear hback hpos hF
 generalize hQ:TM S fs (.slice a1 fs.length c1) G1 w=Q at *
 clear hQ;obtain⟨w1,hw1⟩:=hidx (w.alloc (.cells #[.slice sa sn sc,.slice a1 fs.length c1] 28));have L1:Later w w1:=by rw[hw1.out];exact ae _ _
 have hb1:Bxx w1 w.heap.size [.slice sa sn sc,.slice a1 fs.length c1]:=by rw[hw1.out];exact Bxx.new _ _ _
 go_enter Tryz.func13,Tryz.ntmps13;go_wp2_with fail
 rw[<-hw1.out];go_loopw [11] (fun i wr=>∃ (j:Nat) (l1:List Fu),i=.int .i64 (j:Int)/\j<=fs.length/\ay G1 w wr/\Bxx wr w.heap.size [.slice sa sn sc,.slice a1 fs.length c1]/\Hid (Fu.aH S fs (fs.take j)=some l1)/\Hid (∀ g F,G1=g::F->0<fs.length->ax wr 5 g 0 (Fu.ah (l1++fs.drop j)) F)) (fun i _=>fs.length - (intOf i).toNat)
 case atStart=>exact⟨0,[],rfl,Nat.zero_le _,ay.of_later L1,hb1,by unfold Hid;rw[List.take_zero,Fu.aH],fun g F e q=>by
  obtain⟨g2,F2,_,e2,e3,hA⟩:=HP.out q;rw[e]at e2
  cases e2
  exact ax.agree L1.size _ hA (L1.block _ e3) (fun b hb=>L1.block b (ax.lt _ hA b hb))⟩
 case round =>
  obtain⟨j,l1,rfl,hj,oR,hbr,H1,HA⟩:=hrel;clear hb1 L1;by_cases hlt:j<fs.length
  ·obtain⟨gf,F,rfl,rfl,hgf,_⟩:=HP.out (by omega);have i1:(j:Int)<(fs.length:Int):=by omega
   have hl1:l1.length=j:=by rw[Fu.dZ S fs _ _ H1.out,List.length_take];omega
   have hll:(l1++fs.drop j).length=fs.length:=by rw[List.length_append,List.length_drop];omega
   have hjl:j<(l1++fs.drop j).length:=by omega
   have hel:(l1++fs.drop j)[j]=fs[j]:=by rw[List.getElem_append_right (by omega)];simp[hl1]
   have hA:=HA.out _ _ rfl (by omega);obtain⟨B,hB1,hB2,hB3⟩:=Gi _ 0 F hA (List.nodup_cons.1 m0.2.1).2;obtain⟨u2,H2,c4,hbo,hH2,hnH2,HK⟩:=hB3 j hjl;obtain⟨e0,e1,e2,d0,d1,d2,d3,d4,⟨x0,x1,x2,rfl⟩,⟨y0,y1,y2,rfl⟩,hpar⟩:=hB2 wr (Nat.le_refl _) rfl (fun _ _ _=>rfl) j hjl;rw[Nat.zero_add]at c4 d0 d1 d2 d3 d4;rw[c4]at d4;obtain rfl:u2=.slice y0 y1 y2:=by simpa using d4
   rw[hel]at hbo HK d2 d3 hpar;have hset:∀ y,(l1++fs.drop j).set j y=(l1++[y])++fs.drop (j+1):=fun y=>by rw[List.drop_eq_getElem_cons hlt];exact N7 hl1
   have hgw:gf<wr.heap.size:=aK c4;have hgB:gf∉B:=fun q=>(List.nodup_cons.1 m0.2.1).1 (hB1 gf q);have hBs:=hbr.lt;have hmem:=List.getElem_mem hlt;obtain⟨hp1,hp2,hp3,hp4⟩:=hpv _ hmem;have hSr:ai wr (.list 2 (Sc.ah S)) [.slice sa sn sc] G0:=ai.only hS oR (fun b q q'=>m0.2.2 b q b q' rfl)
   have hTyr:TyE wr:=by
    have hi:=oR.block _ (aK hty.i0) (fun q=>(hgl _ q).1 rfl);have hf:=oR.block _ (aK hty.f0) (fun q=>(hgl _ q).2 rfl);exact⟨by rw[(aj hi).1];exact hty.i0,by rw[(aj hi).1];exact hty.i1,by rw[(aj hf).1];exact hty.f0,by rw[(aj hf).1];exact hty.f1⟩
   have hheads:∀ i (h:i<fs.length) (h':i<(l1++fs.drop j).length),(l1++fs.drop j)[i].params=fs[i].params/\(l1++fs.drop j)[i].rk=fs[i].rk/\(l1++fs.drop j)[i].rn=fs[i].rn:=fun i h h'=>by
    rcases Nat.lt_or_ge i j with q|q
    ·have:=Fu.BV _ _ H1.out i (by rw[List.length_take];omega) (by omega);rw[List.getElem_take]at this;rw[List.getElem_append_left (by omega)];exact this
    ·have e:(l1++fs.drop j)[i]=fs[i]:=by rw[List.getElem_append_right (by omega),List.getElem_drop];congr 1;omega
     rw[e];exact⟨rfl,rfl,rfl⟩
   obtain⟨pa,pc,rfl,hpl⟩:=Pa.slice hpar;obtain⟨wA,hwA⟩:=hidx ((wr.alloc (.cells #[.slice x0 x1 x2,.slice pa fs[j].params.length pc,.int .i64 fs[j].rk,.int .i64 fs[j].rn,.slice y0 y1 y2] 55)).alloc (.cells #[.slice sa sn sc,.slice (some ⟨gf,0,none⟩) fs.length c1,.int .i64 fs[j].rk,.int .i64 fs[j].rn,.slice none 0 0] 73));have lA:Later wr wA:=by rw[hwA.out];exact bF _ _ _
   have hbF:Bxx wA wr.heap.size [.slice x0 x1 x2,.slice pa fs[j].params.length pc,.int .i64 fs[j].rk,.int .i64 fs[j].rn,.slice y0 y1 y2]:=by rw[hwA.out];exact (Bxx.new wr #[.slice x0 x1 x2,.slice pa fs[j].params.length pc,.int .i64 fs[j].rk,.int .i64 fs[j].rn,.slice y0 y1 y2] 55).later (ae _ _)
   have hbK:Bxx wA (wr.heap.size+1) [.slice sa sn sc,.slice (some ⟨gf,0,none⟩) fs.length c1,.int .i64 fs[j].rk,.int .i64 fs[j].rn,.slice none 0 0]:=by rw[hwA.out];have:=Bxx.new (wr.alloc (.cells #[.slice x0 x1 x2,.slice pa fs[j].params.length pc,.int .i64 fs[j].rk,.int .i64 fs[j].rn,.slice y0 y1 y2] 55)) #[.slice sa sn sc,.slice (some ⟨gf,0,none⟩) fs.length c1,.int .i64 fs[j].rk,.int .i64 fs[j].rn,.slice none 0 0] 73;simpa using this
   have hTA:Tg B wA (wr.heap.size+1) (.slice sa sn sc) (.slice (some ⟨gf,0,none⟩) fs.length c1) S fs (fs[j].rk,fs[j].rn) []:=Tg.new lA (Nat.le_succ _) hbK rfl hgw hSr (fun b q q'=>m0.2.2 b q b (List.mem_cons_of_mem _ (hB1 b q')) rfl) hTyr ⟨fun q=>(hgl _ (List.mem_cons_of_mem _ (hB1 _ q))).1 rfl,fun q=>(hgl _ (List.mem_cons_of_mem _ (hB1 _ q))).2 rfl⟩ hA hgB hll hheads hB2;have hH2lt:∀ b∈H2,b<wr.heap.size:=fun b q=>ai.lt _ hbo b q
   have HLW:Hid (∀ F' W,bQ F' (wr.heap.size+1) wA W->(∀ b∈F',b<wr.heap.size)->Later wr wA/\(∀ b,b<wr.heap.size->b∉F'->W.heap[b]?=wr.heap[b]?)/\wr.heap.size<=W.heap.size/\Bxx W wr.heap.size [.slice x0 x1 x2,.slice pa fs[j].params.length pc,.int .i64 fs[j].rk,.int .i64 fs[j].rn,.slice y0 y1 y2]):=fun F' W ot hF'=>by
    have nr:∀ b,b<=wr.heap.size->oJ wA (wr.heap.size+1)≠some b:=fun b hb e=>by have:=(hTA.row b e).1;omega
    refine⟨lA,fun b hb hn=>?_,Nat.le_trans lA.size ot.size,hbF.kept ot.size (ot.block _ hbF.lt (fun q=>by have:=hF' _ q;omega) (by omega) (nr _ (Nat.le_refl _)))⟩;rw[ot.block b (Nat.lt_of_lt_of_le hb lA.size) hn (by omega) (nr b (by omega)),lA.block b hb]
   have HLat:Hid (∀ W,bQ [] (wr.heap.size+1) wA W->Later wr W):=fun W ot=>by
    obtain⟨_,q1,q2,_⟩:=HLW.out [] W ot (fun b q=>by cases q);exact⟨ot.os.trans lA.os,ot.tape.trans lA.tape,ot.output.trans lA.output,q2,fun b hb=>q1 b hb (by simp)⟩
   have hBl:∀ W,Tg B W (wr.heap.size+1) (.slice sa sn sc) (.slice (some ⟨gf,0,none⟩) fs.length c1) S fs (fs[j].rk,fs[j].rn) (gG fs[j].params)->bQ [] (wr.heap.size+1) wA W->Calls Tryz.prog 30 #[.pointer (some ⟨wr.heap.size+1,0,none⟩),.slice y0 y1 y2] W (BlP B (wr.heap.size+1) (.slice sa sn sc) (.slice (some ⟨gf,0,none⟩) fs.length c1) S fs (fs[j].rk,fs[j].rn) (gG fs[j].params) fs[j].body (.slice y0 y1 y2) H2 W):=fun W hT ot=>by
    have hlp:(gG fs[j].params).length=fs[j].params.length:=List.length_map ..
    exact PQ _ fs[j].body (Nat.le_refl _) B W _ _ _ S fs _ _ _ H2 hT ⟨fun t ht=>by
     obtain⟨p,hp,rfl⟩:=List.mem_map.1 ht
     exact hp2 p hp,hV.fs,hV.st⟩ (by rw[hlp];exact hp3) (bz hbo (HLat.out W ot)) hnH2 (fun b q=>⟨hH2 b q,by have:=hH2lt b q;omega⟩) (by omega)
   have HBl:Hid _:=hBl
   have HFin:Hid (∀ W W2,bQ [] (wr.heap.size+1) wA W->Tg B W (wr.heap.size+1) (.slice sa sn sc) (.slice (some ⟨gf,0,none⟩) fs.length c1) S fs (fs[j].rk,fs[j].rn) (gG fs[j].params)->bQ H2 (wr.heap.size+1) W W2->ay (gf::F) w W2/\Bxx W2 w.heap.size [.slice sa sn sc,.slice (some ⟨gf,0,none⟩) fs.length c1]/\∀ b',ai W2 (.list 8 (St.ah b')) [.slice y0 y1 y2] H2->ax W2 5 gf 0 (Fu.ah ((l1++[fs[j].BU b'])++fs.drop (j+1))) F):=fun W W2 ot hTW ot2=>by
    have lW:=HLat.out W ot
    have blk:∀ b,b<wr.heap.size->b∉H2->W2.heap[b]?=wr.heap[b]?:=fun b hb hn=>by
     rw[ot2.block b (Nat.lt_of_lt_of_le hb lW.size) hn (by omega) (fun e=>by have:=(hTW.row b e).1;omega),lW.block b hb]
    have hsub:∀ b∈H2,b∈gf::F:=fun b q=>List.mem_cons_of_mem _ (hB1 b (hH2 b q));have hsW:wr.heap.size<=W2.heap.size:=Nat.le_trans lW.size ot2.size;refine⟨⟨ot2.os.trans (lW.os.trans oR.os),ot2.tape.trans (lW.tape.trans oR.tape),ot2.output.trans (lW.output.trans oR.output),Nat.le_trans oR.size hsW,fun b hb hn=>by rw[blk b (Nat.lt_of_lt_of_le hb oR.size) (fun q=>hn (hsub b q)),oR.block b hb hn]⟩,hbr.kept hsW (blk _ hBs (fun q=>by have:=hG1lt _ (hsub _ q);omega)),fun b' ho=>?_⟩;rw[<-hset];refine HK W2 b' hsW (blk gf hgw (fun q=>hgB (hH2 gf q))) (fun b q hn=>blk b (ax.lt _ hA b q) hn) ho
   have HTy:Hid (Fu.tyd S fs fs[j]=match St.aH S fs (fs[j].rk,fs[j].rn) (gG fs[j].params) fs[j].body with|none=>none|some (b,_)=>some (fs[j].BU b)):=rfl;have HNx:Hid (∀ x,Fu.tyd S fs fs[j]=some x->Fu.aH S fs (fs.take (j+1))=some (l1++[x])):=fun x hx=>Fu.mW hlt H1.out hx;have HBad:Hid (Fu.tyd S fs fs[j]=none->Fu.aH S fs fs=none):=fun hx=>Fu.qR hlt hx;have hs0:=(hbr.cell 0 _ rfl).1;have hs1:=(hbr.cell 1 _ rfl).1;have hKA:=hbK.lt;clear HK hset hel hjl hl1 hB2 hB3 hA hbo hSr hTyr hheads H1 HA hBl hll hgB hH2 hnH2 hH2lt hp2 hp3;go_wp2_with fail
   rw[<-hwA.out]
   generalize wr=wo at *
   go_loopw [22] (fun i W=>∃ (k:Nat),i=.int .i64 (k:Int)/\k<=fs[j].params.length/\bQ [] (wo.heap.size+1) wA W/\Tg B W (wo.heap.size+1) (.slice sa sn sc) (.slice (some ⟨gf,0,none⟩) fs.length c1) S fs (fs[j].rk,fs[j].rn) (gG (fs[j].params.take k))) (fun i _=>fs[j].params.length - (intOf i).toNat)
   case atStart=>exact⟨0,rfl,Nat.zero_le _,bQ.of_later (Later.refl _) hKA,hTA⟩
   case round =>
    obtain⟨k,rfl,hk,oK,hTK⟩:=hrel;have lK:=HLat.out _ oK;obtain⟨_,_,_,hbFK⟩:=HLW.out [] _ oK (fun b q=>by cases q);have zB:=(hbFK.cell 4 _ rfl).1;have zl:=hbFK.lt;by_cases hkt:k<fs[j].params.length
    ·obtain⟨gp,op,e0,rfl,hgp,y0',y1',y2',rn'⟩:=Pa.elem (RdL.later lK hpar) k hkt;have k1:(k:Int)<(fs[j].params.length:Int):=by omega
     obtain⟨vs,hbx,hrow⟩:=hTK.box;obtain⟨va,vc,rfl⟩:=aP hrow;obtain⟨z0,z1,rfl,_⟩:=rn'.slice;have hlt2:(gG (fs[j].params.take k)).length=k:=by unfold gG;rw[List.length_map,List.length_take];omega
     obtain⟨wb,hwb⟩:=hidx (wr.alloc (.cells #[.slice z0 fs[j].params[k].name.length z1,.int .i64 fs[j].params[k].tk,.int .i64 fs[j].params[k].tn] 75));have lb:Later wr wb:=by rw[hwb.out];exact ae _ _
     have HPu:Hid (∀ v4 w4,w4.ownsRow (wo.heap.size+1+1) 52 2 v4 ((gG (fs[j].params.take k)).length+1) (eP (gG (fs[j].params.take k))++[.int .i64 fs[j].params[k].tk,.int .i64 fs[j].params[k].tn])->(wb.alloc (.cells #[.int .i64 fs[j].params[k].tk,.int .i64 fs[j].params[k].tn] 52)).grownBy w4 (Value.slice va (gG (fs[j].params.take k)).length vc).ownBlock->(v4.ownBlock=(Value.slice va (gG (fs[j].params.take k)).length vc).ownBlock\/v4.ownBlock=some (wb.alloc (.cells #[.int .i64 fs[j].params[k].tk,.int .i64 fs[j].params[k].tn] 52)).heap.size)->Bxx w4 (wo.heap.size+1) [.slice sa sn sc,.slice (some ⟨gf,0,none⟩) fs.length c1,.int .i64 fs[j].rk,.int .i64 fs[j].rn,.slice va (gG (fs[j].params.take k)).length vc]/\bQ [] (wo.heap.size+1) wA (w4.setCell ⟨wo.heap.size+1,4,none⟩ v4)/\Tg B (w4.setCell ⟨wo.heap.size+1,4,none⟩ v4) (wo.heap.size+1) (.slice sa sn sc) (.slice (some ⟨gf,0,none⟩) fs.length c1) S fs (fs[j].rk,fs[j].rn) (gG (fs[j].params.take (k+1)))):=fun v4 w4 ho hg hl=>by
      obtain⟨q1,q2,q3⟩:=Tg.push hTK hbx hrow (lb.trans (ae wb (.cells #[.int .i64 fs[j].params[k].tk,.int .i64 fs[j].params[k].tn] 52))) ho hg hl;rw[Ic hkt];exact⟨q1,oK.trans q2,q3⟩
     have hrD:wb.ownsRow (wo.heap.size+1+1) 52 2 (.slice va (gG (fs[j].params.take k)).length vc) (gG (fs[j].params.take k)).length (eP (gG (fs[j].params.take k))):=cu hrow (lb.kept _);have hb4:=((hbx.later lb).cell 4 _ rfl).1;have hb4':=(hbx.cell 4 _ rfl).1;have hbl:=hbx.lt;have hblb:=(hbx.later lb).lt;have hKD:wo.heap.size+1+1<=wb.heap.size:=hblb;have hbP:Bxx wb wr.heap.size [.slice z0 fs[j].params[k].name.length z1,.int .i64 fs[j].params[k].tk,.int .i64 fs[j].params[k].tn]:=by rw[hwb.out];exact Bxx.new _ _ _
     have hp0:=(hbP.cell 1 _ rfl).1;have hp9:=(hbP.cell 2 _ rfl).1;have hpl9:=hbP.lt;clear HBl HFin HTy HNx HBad HF HTr HP hTK hrow hbx rn' hbFK HLW
     generalize (gG (fs[j].params.take k)).length=PL at *
     generalize eP (gG (fs[j].params.take k))=PC at *
     subst PL;go_wp2_with (at_builtin;refine wpList_append_own_at _ rfl _ _ 71 rfl (wo.heap.size+1+1) 52 i0 (.agg #[.int .i64 0,.int .i64 0]) 2 16 Tryz.underlying71 hi hz0 hz1 hz2 rfl (by decide) _ _ _ rfl (by rw[<-hwb.out];exact hrD.alloc _) _ 1 1 [.int .i64 fs[j].params[k].tk,.int .i64 fs[j].params[k].tn] rfl rfl (fA _ _ _ (by simp)) (by simp[Value.oneCell']) (by unfold maxLen;omega) (by omega) (by rw[<-hwb.out];exact Nat.le_trans hKD (ae _ _).size) ?_;intro v9 w9 o9 g9 _ h9;rw[<-hwb.out]at g9 h9;obtain⟨P1,P2,P3⟩:=HPu.out _ _ o9 g9 h9;obtain⟨a9,p9,hv9⟩:=aP o9;subst hv9;have r4:=(P1.cell 4 _ rfl).1;have r6:=(P1.cell 4 _ rfl).2;have r5:=P1.lt)
     go_roundw
     case rel=>exact⟨k+1,by go_num,by omega,P2,P3⟩
     case measure=>simp[intOf];omega
    ·have k1:¬ (k:Int)<(fs[j].params.length:Int):=by omega
     have k2:decide ((k:Int)<(fs[j].params.length:Int))=false:=decide_eq_false k1;obtain rfl:k=fs[j].params.length:=by omega
     rw[List.take_length]at hTK;have hcl:=HBl.out _ hTK oK;have HG:Hid (∀ W2,bQ H2 (wo.heap.size+1) wr W2->ay (gf::F) w W2/\Bxx W2 w.heap.size [.slice sa sn sc,.slice (some ⟨gf,0,none⟩) fs.length c1]/\∀ b',ai W2 (.list 8 (St.ah b')) [.slice y0 y1 y2] H2->ax W2 5 gf 0 (Fu.ah ((l1++[fs[j].BU b'])++fs.drop (j+1))) F):=fun W2 o2=>HFin.out _ _ oK hTK o2;clear HBl HFin HTr HP hTK hbFK HLW oK;go_wp2_with fail
     refine hcl.mono ?_;rintro e w3 ⟨b,rfl,o3,hf3,ht3⟩;obtain⟨O3,B3,A3⟩:=HG.out w3 o3;have HF3:Hid (b=false->Q (.returned (.bool false)) w3):=fun q=>HF.out w3 O3 (HBad.out (by rw[HTy.out,hf3 q]))
     have HT3:Hid (b=true->∃ l2,Hid (Fu.aH S fs (fs.take (j+1))=some l2)/\Hid (∀ g' F',gf::F=g'::F'->0<fs.length->ax w3 5 g' 0 (Fu.ah (l2++fs.drop (j+1))) F')):=fun q=>by
      obtain⟨l',ts',q1,q2,_⟩:=ht3 q;exact⟨_,HNx.out _ (by rw[HTy.out,q1]),fun g' F' e _=>by cases e;exact A3 l' q2⟩
     clear hcl hf3 ht3 o3 HNx HBad HG A3 HTy
     cases b with
     | false =>
      have HZ:=HF3.out rfl;clear HF3 HT3 HF;go_wp2_with fail
      exact HZ
     | true =>
      have HZ:=HT3.out rfl;clear HF3 HT3 HF;go_wp2_with fail
      go_roundw
      case rel =>
       obtain⟨l2,z2,z3⟩:=HZ;exact⟨j+1,l2,by go_num,by omega,O3,B3,z2,z3⟩
      case measure=>simp[intOf];omega
  ·have i1:¬ (j:Int)<(fs.length:Int):=by omega
   have i2:decide ((j:Int)<(fs.length:Int))=false:=decide_eq_false i1;have hjj:j=fs.length:=by omega
   have HZ:=HTr.out wr l1 oR (by have:=H1.out;rw[hjj,List.take_length]at this;exact this) (fun g F e q=>by have:=HA.out g F e q;rw[hjj,List.drop_length,List.append_nil]at this;exact this);clear HF HTr H1 HA HP;go_wp2_with fail
   exact HZ
def Fu.jT (f:Fu):Bool:=St.iL f.body&&((f.rk==0)||St.ends f.body)
theorem allNo {α:Type}{f:α->Bool}{l:List α}{j:Nat}(h:j<l.length) (hf:f l[j]=false):l.all f=false:=by
 rw[<-Bool.not_eq_true,List.all_eq_true];intro q;rw[q _ (List.getElem_mem h)]at hf
 cases hf
theorem Vx {α:Type}{f:α->Bool}{l:List α}(h:∀ i (hi:i<l.length),f l[i]=true):l.all f=true:=by
 rw[List.all_eq_true];intro x hx;obtain⟨j,hj,rfl⟩:=List.mem_iff_getElem.1 hx;exact h j hj
theorem IX (fs:List Fu) (v0 v1:Value) (w:World) (hv0:∃ a n c,v0=.slice a n c) (h1:RdL w 5 v1 (Fu.ah fs)) :
  Calls Tryz.prog 12 #[.agg #[v0,v1]] w (fO (fs.all Fu.jT) w):=by
 obtain⟨sa,sn,sc,rfl⟩:=hv0;obtain⟨fa,fc,rfl,hfl⟩:=Fu.slice h1
 have HA:Hid (∀ w' b,Later w w'->fs.all Fu.jT=b->fO (fs.all Fu.jT) w (.returned (.bool b)) w'):=fun w' b l h=>⟨by rw[h],l⟩
 generalize hQ:fO (fs.all Fu.jT) w=Q at *
 clear hQ;obtain⟨w1,hw1⟩:=hidx (w.alloc (.cells #[.slice sa sn sc,.slice fa fs.length fc] 28));have L1:Later w w1:=by rw[hw1.out];exact ae _ _
 go_enter Tryz.func12,Tryz.ntmps12;go_wp2_with fail
 rw[<-hw1.out];go_loopw [8] (fun i wr=>∃ (j:Nat),i=.int .i64 (j:Int)/\j<=fs.length/\Later w wr/\Hid (∀ i (hi:i<fs.length),i<j->fs[i].jT=true)) (fun i _=>fs.length - (intOf i).toNat)
 case atStart=>exact⟨0,rfl,Nat.zero_le _,L1,fun i _ hj=>absurd hj (Nat.not_lt_zero _)⟩
 case round =>
  obtain⟨j,rfl,hj,lr,HJ⟩:=hrel;by_cases hlt:j<fs.length
  ·obtain⟨g,off,e0,e1,e2,rfl,hgs,d0,d1,d2,d3,d4,s0,s1,s2⟩:=Fu.elem (RdL.later lr h1) j hlt;have i1:(j:Int)<(fs.length:Int):=by omega
   have hB:=fun w' (q:Later wr w')=>Jb _ fs[j].body e2 w' (Nat.le_refl _) (RdL.later q s2);have hC:=fun w' (q:Later wr w')=>vw _ fs[j].body e2 w' (Nat.le_refl _) (RdL.later q s2);have HNo:Hid (fs[j].jT=false->fs.all Fu.jT=false):=fun q=>allNo hlt q
   have HGo:Hid (fs[j].jT=true->∀ i (hi:i<fs.length),i<j+1->fs[i].jT=true):=fun h1 i hi hij=>by
    rcases Nat.lt_or_ge i j with q|q
    ·exact HJ.out i hi q
    ·have:i=j:=by omega
     subst this;exact h1
   have H1:Hid (fs[j].jT=(St.iL fs[j].body&&((fs[j].rk==0)||St.ends fs[j].body))):=rfl;obtain⟨z0,m0,rfl,_⟩:=s0.slice;obtain⟨z1,m1,rfl,_⟩:=Pa.slice s1;obtain⟨z2,m2,rfl,_⟩:=St.slice s2;obtain⟨wB,hwB⟩:=hidx (wr.alloc (.cells #[.slice z0 fs[j].name.length m0,.slice z1 fs[j].params.length m1,.int .i64 fs[j].rk,.int .i64 fs[j].rn,.slice z2 fs[j].body.length m2] 55));have LB:Later wr wB:=by rw[hwB.out];exact ae _ _
   have hbB:Bxx wB wr.heap.size [.slice z0 fs[j].name.length m0,.slice z1 fs[j].params.length m1,.int .i64 fs[j].rk,.int .i64 fs[j].rn,.slice z2 fs[j].body.length m2]:=by rw[hwB.out];exact Bxx.new _ _ _
   have hB1:=hB wB LB;clear HJ s0 s1 s2 h1 hB
   generalize fs[j].jT=fl at *
   generalize St.iL fs[j].body=fb at *
   generalize St.ends fs[j].body=eb at *
   generalize fs[j].rk=rk at *
   generalize fs[j].rn=rn at *
   go_wp2_with fail
   rw[<-hwB.out];refine hB1.mono ?_;rintro e w2 ⟨rfl,l2⟩;have L2:=LB.trans l2;have hb2:=hbB.later l2;have y2:=(hb2.cell 2 _ rfl).1;have y4:=(hb2.cell 4 _ rfl).1;have yl:=hb2.lt;have hC1:=hC w2 L2;clear hB1 hC
   cases fb with
   | false =>
    have HZ:=HA.out w2 false (lr.trans L2) (HNo.out (by rw[H1.out];rfl));clear HA HNo HGo H1 hC1;go_wp2_with fail
    exact HZ
   | true =>
    by_cases hk:rk=0
    ·subst hk;have HZ:Hid _:=HGo.out (by rw[H1.out];rfl);have LZ:=lr.trans L2;clear HNo HGo H1 hC1;go_wp2_with fail
     go_roundw
     case rel=>exact⟨j+1,by go_num,by omega,LZ,HZ⟩
     case measure=>simp[intOf];omega
    ·have nk:=neb hk;have HE:Hid (fl=eb):=by unfold Hid;rw[H1.out,nk];rfl
     clear H1;go_wp2_with fail
     refine hC1.mono ?_;rintro e w3 ⟨rfl,l3⟩;have L3:=lr.trans (L2.trans l3);clear hC1
     cases eb with
     | false =>
      have HZ:=HA.out w3 false L3 (HNo.out HE.out);clear HA HNo HGo HE;go_wp2_with fail
      exact HZ
     | true =>
      have HZ:Hid _:=HGo.out HE.out;clear HNo HGo HE;go_wp2_with fail
      go_roundw
      case rel=>exact⟨j+1,by go_num,by omega,L3,HZ⟩
      case measure=>simp[intOf];omega
  ·have i1:¬ (j:Int)<(fs.length:Int):=by omega
   have i2:decide ((j:Int)<(fs.length:Int))=false:=decide_eq_false i1;have HZ:=HA.out wr true lr (Vx fun i hi=>HJ.out i hi (by omega));clear HA HJ h1;go_wp2_with fail
   exact HZ
end Go.Proofs.YtgaddpkkjebekaaGreatDoor
