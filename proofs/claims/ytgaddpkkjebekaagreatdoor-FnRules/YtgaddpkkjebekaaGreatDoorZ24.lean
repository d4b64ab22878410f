import Derived.Test.YtgaddpkkjebekaaGreatDoorZ14
import Derived.Deep.RegionHeld3
import Derived.Deep.CutRange
set_option maxHeartbeats 100000000
set_option maxRecDepth 100000
namespace Go.Proofs.YtgaddpkkjebekaaGreatDoor
open Go.RowKit
def yU (l:List Sc) (i:Nat) (x:Sc):Bool:=aY x.name true&&!(BD (l.take i) x.name)&&gV 5 ((i:Int)+1) x.fields
def eu (l:List Sc):Bool:=decide (l.length<=6)&&(List.range l.length).all fun i=>match l[i]? with|some x=>yU l i x|none=>true
theorem jL (l:List Sc):eu l=true↔l.length<=6/\∀ i (h:i<l.length),yU l i l[i]=true:=by
 unfold eu;rw[Bool.and_eq_true,decide_eq_true_eq,List.all_eq_true]
 refine and_congr_right fun _=>⟨fun h i hi=>?_,fun h i hi=>?_⟩
 ·have:=h i (List.mem_range.2 hi)
  rwa [List.getElem?_eq_getElem hi]at this
 ·have hi':=List.mem_range.1 hi;rw[List.getElem?_eq_getElem hi'];exact h i hi'
theorem Ht {l:List Sc}{i:Nat}(h:i<l.length) (hf:yU l i l[i]=false):eu l=false:=by
 rw[<-Bool.not_eq_true,jL];rintro ⟨_,ha⟩;rw[ha i h]at hf
 cases hf
theorem Nu (l:List Sc) (i:Nat):Sc.ah (l.take i)=(Sc.ah l).take i:=by
 induction l generalizing i with
 | nil=>rw[List.take_nil,Sc.ah,List.take_nil]
 | cons x r ih =>
  cases i with
  | zero=>rw[List.take_zero,List.take_zero,Sc.ah]
  | succ i=>rw[List.take_succ_cons,Sc.ah,Sc.ah,List.take_succ_cons,ih]
theorem RdL.take {w:World}{k:Nat}{a:Option Addr}{n cap:Nat}{l:List Sc}(h:RdL w k (.slice a n cap) (Sc.ah l)) {i:Nat}(hi:i<=l.length):RdL w k (.slice a i cap) (Sc.ah (l.take i)):=by
 obtain⟨_,_,e,hc,hh⟩:=h
 cases e
 have hl:=Sc.az l;have ht:(Sc.ah (l.take i)).length=i:=by rw[Sc.az,List.length_take];omega
 refine⟨a,cap,by rw[ht],by rw[ht];omega,fun j hj=>?_⟩;rw[ht]at hj;obtain⟨g,off,cs,e,hg,hk,hcc,hd⟩:=hh j (by omega);refine⟨g,off,cs,e,hg,hk,hcc,?_⟩
 have e2:(Sc.ah (l.take i))[j]'(by omega)=(Sc.ah l)[j]'(by omega):=by
  have h1:(Sc.ah (l.take i))[j]?=(Sc.ah l)[j]?:=by rw[Nu,List.getElem?_take_of_lt hj]
  rw[List.getElem?_eq_getElem (by omega),List.getElem?_eq_getElem (by omega)]at h1;exact Option.some.inj h1
 rw[e2];exact hd
theorem wX (v:Value) (l:List Sc) (w:World) (h:RdL w 2 v (Sc.ah l)):Calls Tryz.prog 51 #[v] w fun e w'=>e=.returned (.bool (eu l))/\Later w w':=by
 obtain⟨a,cap,rfl,hcap,hmax⟩:=h.cap;rw[Sc.az]at h hcap ⊢;unfold maxLen at hmax;by_cases hm:l.length<=6
 ·have hm':¬ 6<(l.length:Int):=by omega
  go_enter Tryz.func51,Tryz.ntmps51;go_wp2_with fail
  go_loopw [10] (fun i wr=>∃ (j:Nat),i=.int .i64 (j:Int)/\j<=l.length/\Later w wr/\Hid (∀ i (hi:i<l.length),i<j->yU l i l[i]=true)) (fun i _=>l.length - (intOf i).toNat)
  case atStart=>exact⟨0,rfl,Nat.zero_le _,Later.refl _,fun i _ hj=>absurd hj (Nat.not_lt_zero _)⟩
  case round =>
   obtain⟨j,rfl,hj,lr,HA⟩:=hrel;by_cases hlt:j<l.length
   ·obtain⟨g,off,v0,v1,rfl,hgs,c0,c1,r0,r1⟩:=Sc.elem (RdL.later lr h) j hlt;have i1:(j:Int)<(l.length:Int):=by omega
    have i3:(j:Int)<=(cap:Int):=by omega
    have hW:=fun w' (ll:Later wr w')=>vg v0 l[j].name w' (r0.later ll);have hN:=fun w' (ll:Later wr w')=>IU _ v0 (l.take j) l[j].name w' (RdL.take (i:=j) (RdL.later (lr.trans ll) h) (by omega)) (r0.later ll).rd;have hP:=fun w' (ll:Later wr w')=>rJ v1 l[j].fields 5 ((j:Int)+1) w' (RdL.later ll r1);obtain⟨y0,q0,rfl,_⟩:=r0.slice;obtain⟨y1,q1,rfl,_⟩:=Pa.slice r1;have HB:Hid (yU l j l[j]=false->eu l=false):=fun hf=>Ht hlt hf
    have HG:Hid (yU l j l[j]=true->∀ i (hi:i<l.length),i<j+1->yU l i l[i]=true):=fun hf i hi hij=>by
     rcases Nat.lt_or_ge i j with a|a
     ·exact HA.out i hi a
     ·have:i=j:=by omega
      subst this;exact hf
    have HQ:Hid (yU l j l[j]=(aY l[j].name true&&!(BD (l.take j) l[j].name)&&gV 5 ((j:Int)+1) l[j].fields)):=rfl
    have HSS:Hid (∀ w',Later (wr.alloc (.cells #[.slice y0 l[j].name.length q0,.slice y1 l[j].fields.length q1] 82)) w'->(Later (wr.alloc (.cells #[.slice y0 l[j].name.length q0,.slice y1 l[j].fields.length q1] 82)) w'/\w'.cell? ⟨wr.heap.size,0,none⟩=some (.slice y0 l[j].name.length q0)/\w'.cell? ⟨wr.heap.size,1,none⟩=some (.slice y1 l[j].fields.length q1))):=fun w' ll=>⟨ll,by rw[Below.cell ll (p:=⟨wr.heap.size,0,none⟩) (by simp)];simp,by rw[Below.cell ll (p:=⟨wr.heap.size,1,none⟩) (by simp)];simp⟩
    clear r0 r1 HA h
    generalize yU l j l[j]=ok at *
    generalize aY l[j].name true=wb at *
    generalize BD (l.take j) l[j].name=ab at *
    generalize gV 5 ((j:Int)+1) l[j].fields=pb at *
    cases wb
    ·have HB':Hid (eu l=false):=HB.out HQ.out;clear HG HB hN hP;go_wp2_with fail
     go_quiet ((go_at_call 38;exact Calls.quiet_of_same (hW _ (bg (ae _ _) _))))
     all_goals
      go_wp2_with fail
      go_ret;exact⟨dh HB'.out.symm,bg (lr.alloc _) _⟩
    ·cases ab
     ·cases pb
      ·have HB':Hid (eu l=false):=HB.out HQ.out;clear HG HB;go_wp2_with fail
       go_region_held3 (fun w'=>Later (wr.alloc (.cells #[.slice y0 l[j].name.length q0,.slice y1 l[j].fields.length q1] 82)) w'/\w'.cell? ⟨wr.heap.size,0,none⟩=some (.slice y0 l[j].name.length q0)/\w'.cell? ⟨wr.heap.size,1,none⟩=some (.slice y1 l[j].fields.length q1)) (first|exact HSS.out _ (Later.drew _)|exact HSS.out _ ((Later.drew _).trans l2)) (first|(go_at_call 38;refine (hW _ ((ae _ _).trans (Later.drew _))).mono ?_;rintro e w1 ⟨rfl,hww⟩;obtain rfl:=hww.symm)|(go_at_call 73;refine (hN _ ((ae _ _).trans (Later.drew _))).mono ?_;rintro e w2 ⟨⟨n,rfl,hn⟩,l2⟩;obtain⟨hc2,_⟩:=dG l2;have hz2:wr.heap.size<w2.heap.size:=(by have:=l2.size;simp at this;omega)))
       all_goals
        have hn':¬ 0<=n:=of_decide_eq_false hn;clear hn;go_wp2_with (go_at_call 55;refine (hP _ (((ae _ _).trans (Later.drew _)).trans l2)).mono ?_;rintro e w3 ⟨rfl,l3⟩)
        go_ret;exact⟨dh HB'.out.symm,(((lr.alloc _).trans (Later.drew _)).trans l2).trans l3⟩
      ·have HG':Hid (∀ i (hi:i<l.length),i<j+1->yU l i l[i]=true):=HG.out HQ.out;clear HG HB;go_wp2_with fail
       go_region_held3 (fun w'=>Later (wr.alloc (.cells #[.slice y0 l[j].name.length q0,.slice y1 l[j].fields.length q1] 82)) w'/\w'.cell? ⟨wr.heap.size,0,none⟩=some (.slice y0 l[j].name.length q0)/\w'.cell? ⟨wr.heap.size,1,none⟩=some (.slice y1 l[j].fields.length q1)) (first|exact HSS.out _ (Later.drew _)|exact HSS.out _ ((Later.drew _).trans l2)) (first|(go_at_call 38;refine (hW _ ((ae _ _).trans (Later.drew _))).mono ?_;rintro e w1 ⟨rfl,hww⟩;obtain rfl:=hww.symm)|(go_at_call 73;refine (hN _ ((ae _ _).trans (Later.drew _))).mono ?_;rintro e w2 ⟨⟨n,rfl,hn⟩,l2⟩;obtain⟨hc2,_⟩:=dG l2;have hz2:wr.heap.size<w2.heap.size:=(by have:=l2.size;simp at this;omega)))
       all_goals
        have hn':¬ 0<=n:=of_decide_eq_false hn;clear hn;go_wp2_with (go_at_call 55;refine (hP _ (((ae _ _).trans (Later.drew _)).trans l2)).mono ?_;rintro e w3 ⟨rfl,l3⟩)
        go_roundw
        case rel=>exact⟨j+1,by go_num,by omega,(((lr.alloc _).trans (Later.drew _)).trans l2).trans l3,HG'⟩
        case measure=>simp[intOf];omega
     ·have HB':Hid (eu l=false):=HB.out HQ.out;clear HG HB hP;go_wp2_with fail
      go_region_held3 (fun w'=>Later (wr.alloc (.cells #[.slice y0 l[j].name.length q0,.slice y1 l[j].fields.length q1] 82)) w'/\w'.cell? ⟨wr.heap.size,0,none⟩=some (.slice y0 l[j].name.length q0)/\w'.cell? ⟨wr.heap.size,1,none⟩=some (.slice y1 l[j].fields.length q1)) (first|exact HSS.out _ (Later.drew _)|exact HSS.out _ ((Later.drew _).trans l2)) (first|(go_at_call 38;refine (hW _ ((ae _ _).trans (Later.drew _))).mono ?_;rintro e w1 ⟨rfl,hww⟩;obtain rfl:=hww.symm)|(go_at_call 73;refine (hN _ ((ae _ _).trans (Later.drew _))).mono ?_;rintro e w2 ⟨⟨n,rfl,hn⟩,l2⟩;obtain⟨hc2,_⟩:=dG l2;have hz2:wr.heap.size<w2.heap.size:=(by have:=l2.size;simp at this;omega)))
      all_goals
       have hn':0<=n:=of_decide_eq_true hn;clear hn;go_wp2_with fail
       go_ret;exact⟨dh HB'.out.symm,((lr.alloc _).trans (Later.drew _)).trans l2⟩
   ·have i1:¬ (j:Int)<(l.length:Int):=by omega
    have i2:decide ((j:Int)<(l.length:Int))=false:=decide_eq_false i1;have HY:Hid (eu l=true):=(jL l).2 ⟨hm,fun i hi=>HA.out i hi (by omega)⟩;clear HA h;go_wp2_with fail
    go_ret;exact⟨dh HY.out.symm,lr⟩
 ·have hm':6<(l.length:Int):=by omega
  have e:eu l=false:=by unfold eu;rw[decide_eq_false hm,Bool.false_and]
  rw[e];go_enter Tryz.func51,Tryz.ntmps51;go_wp2_with fail
  go_ret;exact⟨rfl,Later.refl _⟩
theorem NK (k n s:Int):tyB k n s true=(((k==0)&&(n==0))||tyB k n s false):=by
 unfold tyB;by_cases h:k=0
 ·subst h;simp
 ·rw[if_neg h,if_neg h,neb h];rfl
def Dq (s:Int) (x:Fu):Bool:=aQ x.name&&gV 4 s x.params
def Fu.run (s l:Int) (x:Fu):Option Int:=if Dq s x&&tyB x.rk x.rn s true then St.runs s 1 l x.body else none
def Fu.runs (s:Int):Int->List Fu->Option Int
 | l,[]=>some l
 | l,x::r=>match Fu.run s l x with|none=>none|some l'=>Fu.runs s l' r
def Fu.good (x:Fu):Prop:=St.aZ x.body
def Fu.aZ (l:List Fu):Prop:=∀ j (h:j<l.length),l[j].good
def Fu.dL (s l:Int) (xs:List Fu) (j:Nat) (l':Int):Prop:=Fu.runs s l xs=Fu.runs s l' (xs.drop j)
theorem Fu.jM (s l:Int) (xs:List Fu):Fu.dL s l xs 0 l:=rfl
theorem Fu.kP {s l l':Int}{xs:List Fu}(h:Fu.dL s l xs xs.length l'):Fu.runs s l xs=some l':=by
 unfold Fu.dL at h;rw[h,List.drop_length,Fu.runs]
theorem Fu.kN {s l l' l'':Int}{xs:List Fu}{j:Nat}(h:Fu.dL s l xs j l') (hj:j<xs.length) (hr:Fu.run s l' xs[j]=some l''):Fu.dL s l xs (j+1) l'':=by
 unfold Fu.dL at *;rw[h,List.drop_eq_getElem_cons hj,Fu.runs,hr]
theorem Fu.mZ {s l l':Int}{xs:List Fu}{j:Nat}(h:Fu.dL s l xs j l') (hj:j<xs.length) (hr:Fu.run s l' xs[j]=none):Fu.runs s l xs=none:=by
 unfold Fu.dL at h;rw[h,List.drop_eq_getElem_cons hj,Fu.runs,hr]
theorem Fu.kR {s l l':Int}{x:Fu}(h:Fu.run s l x=some l'):l'<=l/\(0<=l->0<=l'):=by
 unfold Fu.run at h;split at h
 ·exact St.dw s _ _ _ _ h
 ·cases h
theorem MZ (x:Fu) (v0 v1 v2:Value) (K:Nat) (s p:Int) (w0 w:World) (hg:x.good) (h0:RdN w0 v0 x.name) (h1:RdL w0 3 v1 (Pa.ah x.params)) (h2:RdL w0 8 v2 (St.ah x.body)) (hL:Later w0 w) (hK:w0.heap.size<=K) (hS:Sv K w s p) (hp0:0<=p) (hp1:p<=400) :
  Calls Tryz.prog 77 #[.pointer (some ⟨K,0,none⟩),.agg #[v0,v1,.int .i64 x.rk,.int .i64 x.rn,v2]] w fun e w'=>SvP K s w (Fu.run s (400 - p) x) e w':=by
 have hne:w.heap.size≠K:=by have:=hS.lt;omega
 have hKw:=hS.lt;have hN:=fun w' (l:Later w w')=>nU v0 x.name w' (h0.later (hL.trans l));have hP:=fun w' (l:Later w w')=>rJ v1 x.params 4 s w' (RdL.later (hL.trans l) h1);have hT:=fun w'=>zy x.rk x.rn s w';have hI:=fun w' (l:Later w w')=>IB v2 x.body K s p 1 w0 w' hg h2 (hL.trans l) hK (hS.later l) hp0 hp1 (by decide) (by decide);have HR:Hid (Fu.run s (400 - p) x=if Dq s x&&tyB x.rk x.rn s true then St.runs s 1 (400 - p) x.body else none):=rfl;have HH:Hid (Dq s x=(aQ x.name&&gV 4 s x.params)):=rfl;have HY:Hid (tyB x.rk x.rn s true=(((x.rk==0)&&(x.rn==0))||tyB x.rk x.rn s false)):=NK _ _ _;have hb:=dQ;have c0:=hS.c0;have HS:Hid (∀ w',Later w w'->Sv K w' s p):=fun w' l=>hS.later l;obtain⟨a0,p0,rfl,_⟩:=h0.slice;obtain⟨a1,p1,rfl,_⟩:=Pa.slice h1;obtain⟨a2,p2,rfl,_⟩:=St.slice h2;clear h0 h1 h2 hg hS
 generalize Fu.run s (400 - p) x=R at *
 generalize St.runs s 1 (400 - p) x.body=RB at *
 generalize aQ x.name=nb at *
 generalize gV 4 s x.params=pb at *
 generalize tyB x.rk x.rn s false=tb at *
 generalize tyB x.rk x.rn s true=tt at *
 generalize Dq s x=hd at *
 generalize x.rk=z_rk at *
 generalize x.rn=z_rn at *
 go_enter Tryz.func77,Tryz.ntmps77;go_upto_region 1 with fail
 go_cut [18] from 5 (fun s18 wc=>s18=.bool (!hd)/\Later (w.alloc (.cells #[.slice a0 x.name.length p0,.slice a1 x.params.length p1,.int .i64 z_rk,.int .i64 z_rn,.slice a2 x.body.length p2] 55)) wc)
 case first =>
  cases nb
  ·as_aux_lemma =>
    go_quiet ((go_at_call 54;exact Calls.quiet_of_same (hN _ (bg (ae _ _) _))))
    all_goals
     go_wp2_with fail
     go_meet
     case rel=>exact⟨by rw[HH.out];rfl,bg (Later.refl _) _⟩
  ·as_aux_lemma =>
    have HSS:Hid (∀ w',Later (w.alloc (.cells #[.slice a0 x.name.length p0,.slice a1 x.params.length p1,.int .i64 z_rk,.int .i64 z_rn,.slice a2 x.body.length p2] 55)) w'->(Later (w.alloc (.cells #[.slice a0 x.name.length p0,.slice a1 x.params.length p1,.int .i64 z_rk,.int .i64 z_rn,.slice a2 x.body.length p2] 55)) w'/\w'.cell? ⟨w.heap.size,0,none⟩=some (.slice a0 x.name.length p0)/\w'.cell? ⟨w.heap.size,1,none⟩=some (.slice a1 x.params.length p1)/\w'.cell? ⟨K,0,none⟩=some (.int .i64 s))):=fun w' ll=>⟨ll,by rw[Below.cell ll (p:=⟨w.heap.size,0,none⟩) (by simp)];simp,by rw[Below.cell ll (p:=⟨w.heap.size,1,none⟩) (by simp)];simp,by rw[Below.cell ((ae _ _).trans ll) (p:=⟨K,0,none⟩) hKw];exact c0⟩
    go_region_held3 (fun w'=>Later (w.alloc (.cells #[.slice a0 x.name.length p0,.slice a1 x.params.length p1,.int .i64 z_rk,.int .i64 z_rn,.slice a2 x.body.length p2] 55)) w'/\w'.cell? ⟨w.heap.size,0,none⟩=some (.slice a0 x.name.length p0)/\w'.cell? ⟨w.heap.size,1,none⟩=some (.slice a1 x.params.length p1)/\w'.cell? ⟨K,0,none⟩=some (.int .i64 s)) (first|exact HSS.out _ (Later.drew _)|exact HSS.out _ ((Later.drew _).trans l1)) (first|(go_at_call 54;refine (hN _ ((ae _ _).trans (Later.drew _))).mono ?_;rintro e w1 ⟨rfl,hww⟩;obtain rfl:=hww.symm)|(go_at_call 55;refine (hP _ ((ae _ _).trans (Later.drew _))).mono ?_;rintro e w1 ⟨rfl,l1⟩))
    all_goals
     go_wp2_with fail
     go_meet
     case rel=>exact⟨by rw[HH.out];rfl,(Later.drew _).trans l1⟩
 case rest =>
  obtain⟨rfl,lc⟩:=hcut;have Lc:Later w wc:=(ae _ _).trans lc;obtain⟨hcc,_⟩:=dG lc;have hz:w.heap.size<wc.heap.size:=by have:=lc.size;simp at this;omega
  have hcK:wc.cell? ⟨K,0,none⟩=some (.int .i64 s):=by rw[Below.cell Lc (p:=⟨K,0,none⟩) hKw];exact c0
  have x2:wc.cell? ⟨w.heap.size,2,none⟩=some (.int .i64 z_rk):=by rw[hcc _ _ (by simp)];simp
  have x3:wc.cell? ⟨w.heap.size,3,none⟩=some (.int .i64 z_rn):=by rw[hcc _ _ (by simp)];simp
  have hKc:K<wc.heap.size:=by have:=Lc.size;omega
  cases hd
  ·have hr:R=none:=HR.out;subst hr;go_wp2_with fail
   go_ret;exact SvP.no (af.of_later Lc) rfl rfl (HS.out _ Lc)
  ·go_upto_region 3 with fail
   go_cut [32] from 19 (fun s32 wd=>s32=.bool (!tt)/\Later wc wd)
   case first =>
    by_cases k0:z_rk=0
    ·subst k0;by_cases k1:z_rn=0
     ·subst k1
      as_aux_lemma =>
       go_quiet (fail)
       all_goals
        go_wp2_with fail
        go_meet
        case rel=>exact⟨by rw[HY.out];rfl,bg (Later.refl _) _⟩
     ·have k1':=neb k1
      as_aux_lemma =>
       have HSS:Hid (∀ w',Later wc w'->(Later wc w'/\w'.cell? ⟨w.heap.size,2,none⟩=some (.int .i64 0)/\w'.cell? ⟨w.heap.size,3,none⟩=some (.int .i64 z_rn)/\w'.cell? ⟨K,0,none⟩=some (.int .i64 s))):=fun w' ll=>⟨ll,by rw[Below.cell ll (p:=⟨w.heap.size,2,none⟩) hz];exact x2,by rw[Below.cell ll (p:=⟨w.heap.size,3,none⟩) hz];exact x3,by rw[Below.cell ll (p:=⟨K,0,none⟩) hKc];exact hcK⟩
       go_region_held3 (fun w'=>Later wc w'/\w'.cell? ⟨w.heap.size,2,none⟩=some (.int .i64 0)/\w'.cell? ⟨w.heap.size,3,none⟩=some (.int .i64 z_rn)/\w'.cell? ⟨K,0,none⟩=some (.int .i64 s)) (first|exact HSS.out _ (Later.drew _)|exact HSS.out _ ((Later.drew _).trans l1)) ((go_at_call 84;refine (hT _).mono ?_;rintro e w1 ⟨rfl,l1⟩))
       all_goals
        go_wp2_with fail
        go_meet
        case rel=>exact⟨by rw[HY.out,k1'];rfl,(Later.drew _).trans l1⟩
    ·have k0':=neb k0
     as_aux_lemma =>
      have HSS:Hid (∀ w',Later wc w'->(Later wc w'/\w'.cell? ⟨w.heap.size,2,none⟩=some (.int .i64 z_rk)/\w'.cell? ⟨w.heap.size,3,none⟩=some (.int .i64 z_rn)/\w'.cell? ⟨K,0,none⟩=some (.int .i64 s))):=fun w' ll=>⟨ll,by rw[Below.cell ll (p:=⟨w.heap.size,2,none⟩) hz];exact x2,by rw[Below.cell ll (p:=⟨w.heap.size,3,none⟩) hz];exact x3,by rw[Below.cell ll (p:=⟨K,0,none⟩) hKc];exact hcK⟩
      go_region_held3 (fun w'=>Later wc w'/\w'.cell? ⟨w.heap.size,2,none⟩=some (.int .i64 z_rk)/\w'.cell? ⟨w.heap.size,3,none⟩=some (.int .i64 z_rn)/\w'.cell? ⟨K,0,none⟩=some (.int .i64 s)) (first|exact HSS.out _ (Later.drew _)|exact HSS.out _ ((Later.drew _).trans l1)) ((go_at_call 84;refine (hT _).mono ?_;rintro e w1 ⟨rfl,l1⟩))
      all_goals
       go_wp2_with fail
       go_meet
       case rel=>exact⟨by rw[HY.out,k0'];rfl,(Later.drew _).trans l1⟩
   case rest =>
    obtain⟨rfl,ld⟩:=hcut;have Ld:=Lc.trans ld;obtain⟨hcd,_⟩:=dG ld
    cases tt
    ·have hr:R=none:=HR.out;subst hr;go_wp2_with fail
     go_ret;exact SvP.no (af.of_later Ld) rfl rfl (HS.out _ Ld)
    ·have hr:R=RB:=HR.out;subst hr;go_wp2_with fail
     refine (hI _ Ld).mono ?_;rintro e w5 ⟨o5,hm⟩;have o:=(af.of_later (K:=K) Ld).trans o5
     cases R with
     | none =>
      obtain⟨rfl,p',hS5⟩:=hm;go_wp2_with fail
      go_ret;exact SvP.no o rfl rfl hS5
     | some l =>
      obtain⟨rfl,hS5⟩:=hm;go_wp2_with fail
      go_ret;exact SvP.yes o rfl rfl hS5 rfl
end Go.Proofs.YtgaddpkkjebekaaGreatDoor
