import Derived.Test.YtgholpilmdebmaaGreatDoorZ46
import Derived.Test.YtgholpilmdebmaaGreatDoorZ44
import Derived.Test.YtgholpilmdebmaaGreatDoorZ45
import Derived.Test.YtgholpilmdebmaaGreatDoorZ17
set_option maxHeartbeats 100000000
set_option maxRecDepth 100000
namespace Go.Proofs.YtgholpilmdebmaaGreatDoor
open Go.RowKit
theorem sblock_all (N:Nat):∀ (v:Value) (l:List St) (K:Nat) (s p d:Int) (w0 w:World),St.szs l≤N→(St.goods l)→RdL w0 8 v (St.dats l)→Later w0 w→w0.heap.size≤K→Cn K w p→0≤p→p≤400→0≤d→d≤31 →
  Calls Tryz.prog 100 #[v,.int .i64 s,.int .i64 d,.pointer (some ⟨K,0,none⟩)] w fun e w'=>CnP K w (St.runs s d p l) e w':=by
 induction N using Nat.strongRecOn with
 | _ N IH =>
 intro v l K s p d w0 w hN hg h hL hK hC hp0 hp1 hd0 hd1;obtain⟨a,cap,rfl,hl⟩:=St.slice h;go_enter Tryz.func100,Tryz.ntmps100;go_wp2_with fail
 go_loopw [9] (fun i wr=>∃ (j:Nat) (q:Int),i=.int .i64 (j:Int)∧j≤l.length∧OnlyK K w wr∧Cn K wr q∧0≤q∧q≤400∧Hid (St.soFar s d p l j q)) (fun i _=>l.length - (intOf i).toNat)
 case atStart=>exact⟨0,p,rfl,Nat.zero_le _,OnlyK.refl _ _,hC,hp0,hp1,St.soFar_start _ _ _ _⟩
 case round =>
  obtain⟨j,q,rfl,hj,oR,hCr,hq0,hq1,HS⟩:=hrel;by_cases hlt:j<l.length
  ·obtain⟨g,off,v0,v1,v2,v3,rfl,hgs,c0,c1,c2,c3,c4,c5,c6,c7,r0,r1,r2,r3⟩:=St.elem h j hlt;have i1:(j:Int)<(l.length:Int):=by omega
   have hLr:=zbf hL oR hK;have c0:wr.cell? ⟨g,off+j*8,none⟩=some (.int .i64 l[j].kind):=by rw[Below.cell hLr (p:=⟨g,off+j*8,none⟩) hgs];exact c0
   have c1:wr.cell? ⟨g,off+j*8+1,none⟩=some (.int .i64 l[j].n):=by rw[Below.cell hLr (p:=⟨g,off+j*8+1,none⟩) hgs];exact c1
   have c2:wr.cell? ⟨g,off+j*8+2,none⟩=some (.int .i64 l[j].tk):=by rw[Below.cell hLr (p:=⟨g,off+j*8+2,none⟩) hgs];exact c2
   have c3:wr.cell? ⟨g,off+j*8+3,none⟩=some (.int .i64 l[j].tn):=by rw[Below.cell hLr (p:=⟨g,off+j*8+3,none⟩) hgs];exact c3
   have c4:wr.cell? ⟨g,off+j*8+4,none⟩=some (v0):=by rw[Below.cell hLr (p:=⟨g,off+j*8+4,none⟩) hgs];exact c4
   have c5:wr.cell? ⟨g,off+j*8+5,none⟩=some (v1):=by rw[Below.cell hLr (p:=⟨g,off+j*8+5,none⟩) hgs];exact c5
   have c6:wr.cell? ⟨g,off+j*8+6,none⟩=some (v2):=by rw[Below.cell hLr (p:=⟨g,off+j*8+6,none⟩) hgs];exact c6
   have c7:wr.cell? ⟨g,off+j*8+7,none⟩=some (v3):=by rw[Below.cell hLr (p:=⟨g,off+j*8+7,none⟩) hgs];exact c7
   have hE:=sstmt_one l[j] v0 v1 v2 v3 K s q d w0 wr (St.goods_at l j hlt hg) r0 r1 r2 r3 hLr hK hCr hq0 hq1 hd0 hd1 (fun v' l' p' d' w' g' h' s' L' S' a b c e=>IH (St.szs l') (by have:=St.sz_at l j hlt;omega) v' l' K s p' d' w0 w' (Nat.le_refl _) g' h' L' hK S' a b c e)
   have HN:Hid (∀ l',St.run s d q l[j]=some l'→St.soFar s d p l (j+1) l'∧0≤l'∧l'<q):=fun l' hr=>⟨St.soFar_next HS.out hlt hr,St.run_le s _ _ _ _ hr⟩
   have HB:Hid (St.run s d q l[j]=none→St.runs s d p l=none):=fun hr=>St.soFar_bad HS.out hlt hr;clear r0 r1 r2 r3 h HS
   generalize St.run s d q l[j]=R at *
   generalize l[j].kind=z_kind at *
   generalize l[j].n=z_n at *
   generalize l[j].tk=z_tk at *
   generalize l[j].tn=z_tn at *
   go_wp2_with fail
   refine hE.mono ?_;rintro e w1 ⟨o1,hm⟩;have o:=oR.trans o1
   cases R with
   | none =>
    obtain⟨rfl,p',hC1⟩:=hm;have hb:Hid (St.runs s d p l=none):=HB.out rfl;go_wp2_with fail
    go_ret;exact CnP.no o hb.out rfl hC1
   | some l' =>
    obtain⟨rfl,hC1⟩:=hm;obtain⟨n1,n2,n3⟩:=HN.out l' rfl;have HN1:Hid _:=n1;clear n1 HN HB hE;go_wp2_with fail
    go_roundw
    case rel=>exact⟨j+1,l',by go_num,by omega,o,hC1,by omega,by omega,HN1⟩
    case measure=>simp[intOf];omega
  ·have i1:¬ (j:Int)<(l.length:Int):=by omega
   have i2:decide ((j:Int)<(l.length:Int))=false:=decide_eq_false i1;have hjj:j=l.length:=by omega
   subst hjj;have HD:Hid (St.runs s d p l=some q):=St.soFar_done HS.out;clear h HS;go_wp2_with fail
   go_ret;exact CnP.yes oR HD.out rfl hCr
theorem sparams_any (v:Value) (l:List Pa) (most s:Int) (w:World) (h:RdL w 3 v (Pa.dats l)):Calls Tryz.prog 97 #[v,.int .i64 most,.int .i64 s] w fun e w'=>e=.returned (.bool (paramB most s l))∧Later w w':=by
 obtain⟨a,cap,rfl,hl⟩:=Pa.slice h;unfold paramB;by_cases hm:(l.length:Int)≤most
 ·rw[decide_eq_true hm,Bool.true_and];have hm':¬ most<(l.length:Int):=by omega
  go_enter Tryz.func97,Tryz.ntmps97;go_wp2_with fail
  go_loopw [7] (fun i wr=>∃ (j:Nat),i=.int .i64 (j:Int)∧j≤l.length∧Later w wr∧Hid (∀ i (hi:i<l.length),i<j→paOk s l[i]=true)) (fun i _=>l.length - (intOf i).toNat)
  case atStart=>exact⟨0,rfl,Nat.zero_le _,Later.refl _,fun i _ hj=>absurd hj (Nat.not_lt_zero _)⟩
  case round =>
   obtain⟨j,rfl,hj,lr,HA⟩:=hrel;by_cases hlt:j<l.length
   ·obtain⟨g,off,v0,rfl,hgs,c0,c1,c2,r0⟩:=Pa.elem (RdL.later lr h) j hlt;have i1:(j:Int)<(l.length:Int):=by omega
    have hN:=zdw v0 l[j].name wr r0.rd;have hT:=fun w'=>ty_any l[j].tk l[j].tn s false w';obtain⟨y0,q0,rfl,_⟩:=r0.slice;have HB:Hid (paOk s l[j]=false→l.all (paOk s)=false):=fun hf=>all_no hlt hf
    have HG:Hid (paOk s l[j]=true→∀ i (hi:i<l.length),i<j+1→paOk s l[i]=true):=fun hf i hi hij=>by
     rcases Nat.lt_or_ge i j with a|a
     ·exact HA.out i hi a
     ·have:i=j:=by omega
      subst this;exact hf
    have HQ:Hid (paOk s l[j]=(nameL l[j].name&&tyB l[j].tk l[j].tn s false)):=rfl;clear r0 HA h
    generalize paOk s l[j]=ok at *
    generalize nameL l[j].name=nb at *
    generalize tyB l[j].tk l[j].tn s false=tb at *
    generalize l[j].tk=z_tk at *
    generalize l[j].tn=z_tn at *
    cases nb
    ·have HB':Hid (l.all (paOk s)=false):=HB.out HQ.out;clear HG HB hT;go_wp2_with (go_at_call 98;refine hN.mono ?_;rintro e w1 ⟨rfl,l1⟩)
     go_ret;exact⟨zaf HB'.out.symm,lr.trans l1⟩
    ·cases tb
     ·have HB':Hid (l.all (paOk s)=false):=HB.out HQ.out;clear HG HB;go_wp2_with (first|(go_at_call 98;refine hN.mono ?_;rintro e w1 ⟨rfl,l1⟩;obtain⟨hc1,_⟩:=bcell l1)|(go_at_call 99;refine (hT _).mono ?_;rintro e w2 ⟨rfl,l2⟩))
      go_ret;exact⟨zaf HB'.out.symm,(lr.trans l1).trans l2⟩
     ·have HG':Hid (∀ i (hi:i<l.length),i<j+1→paOk s l[i]=true):=HG.out HQ.out;clear HG HB;go_wp2_with (first|(go_at_call 98;refine hN.mono ?_;rintro e w1 ⟨rfl,l1⟩;obtain⟨hc1,_⟩:=bcell l1)|(go_at_call 99;refine (hT _).mono ?_;rintro e w2 ⟨rfl,l2⟩))
      go_roundw
      case rel=>exact⟨j+1,by go_num,by omega,(lr.trans l1).trans l2,HG'⟩
      case measure=>simp[intOf];omega
   ·have i1:¬ (j:Int)<(l.length:Int):=by omega
    have i2:decide ((j:Int)<(l.length:Int))=false:=decide_eq_false i1;have HY:Hid (l.all (paOk s)=true):=all_yes fun i hi=>HA.out i hi (by omega);clear HA h;go_wp2_with fail
    go_ret;exact⟨zaf HY.out.symm,lr⟩
 ·rw[decide_eq_false hm,Bool.false_and];have hm':most<(l.length:Int):=by omega
  go_enter Tryz.func97,Tryz.ntmps97;go_wp2_with fail
  go_ret;exact⟨rfl,Later.refl _⟩
def firstB (l:List Sc) (nm:List Int) (n:Int):Prop:=(∃ j:Nat,n=(j:Int)∧(∃ h:j<l.length,l[j].name=nm)∧∀ i (hi:i<l.length),i<j→l[i].name≠nm)∨(n=-1∧∀ i (hi:i<l.length),l[i].name≠nm)
theorem firstB_eq {l:List Sc}{i:Nat}(hi:i<l.length) {n:Int}(h:firstB l l[i].name n):(n != (i:Int))=anyB (l.take i) l[i].name:=by
 rcases h with ⟨j,rfl,⟨hj,ej⟩,hf⟩|⟨rfl,hf⟩
 ·have hji:j≤i:=by
   rcases Nat.lt_or_ge i j with a|a
   ·exact absurd rfl (hf i hi a)
   ·exact a
  rcases Nat.lt_or_ge j i with a|a
  ·have e1:((j:Int) != (i:Int))=true:=by rw[bne,neb (by omega)];rfl
   rw[e1]
   symm
   refine any_yes (j:=j) (by rw[List.length_take];omega) ?_;rw[List.getElem_take];exact ej
  ·have:j=i:=by omega
   subst this;have e1:((j:Int) != (j:Int))=false:=by simp
   rw[e1]
   symm
   refine any_no (fun k hk=>?_);rw[List.length_take]at hk;rw[List.getElem_take];exact hf k (by omega) (by omega)
 ·exact absurd rfl (hf i hi)
theorem sstruct_any (v u:Value) (l:List Sc) (nm:List Int):∃ n,firstB l nm n∧∀ w,RdL w 2 v (Sc.dats l)→RdB w u nm→Calls Tryz.prog 96 #[v,u] w fun e w'=>e=.returned (.int .i64 n)∧∃ m,w'=w.drewN m:=by
 have hex:∃ n,firstB l nm n:=by
  by_cases h:∃ j,∃ hj:j<l.length,l[j].name=nm
  ·obtain⟨j,hj,e⟩:=h
   have:∀ m,∀ j,j≤m→(∃ hj:j<l.length,l[j].name=nm)→∃ k:Nat,(∃ hk:k<l.length,l[k].name=nm)∧∀ i (hi:i<l.length),i<k→l[i].name≠nm:=by
    intro m
    induction m with
    | zero =>
     intro j hj h;obtain rfl:j=0:=by omega
     exact⟨0,h,fun i _ hi=>absurd hi (Nat.not_lt_zero _)⟩
    | succ m ih =>
     intro j hj h;by_cases hh:∃ i,i<j∧∃ hi:i<l.length,l[i].name=nm
     ·obtain⟨i,hij,hi⟩:=hh;exact ih i (by omega) hi
     ·exact⟨j,h,fun i hi hij e=>hh ⟨i,hij,hi,e⟩⟩
   obtain⟨k,hk,hf⟩:=this j j (Nat.le_refl _) ⟨hj,e⟩;exact⟨(k:Int),.inl ⟨k,rfl,hk,hf⟩⟩
  ·exact⟨-1,.inr ⟨rfl,fun i hi e=>h ⟨i,hi,e⟩⟩⟩
 obtain⟨n,hn⟩:=hex;refine⟨n,hn,fun w h k=>?_⟩
 have HU:Hid (∀ m,firstB l nm m→m=n):=fun m hm=>by
  rcases hm with ⟨j,rfl,⟨hj,ej⟩,hf⟩|⟨rfl,hf⟩
  ·rcases hn with ⟨j',rfl,⟨hj',ej'⟩,hf'⟩|⟨rfl,hf'⟩
   ·have h1:¬ j<j':=fun a=>hf' j hj a ej;have h2:¬ j'<j:=fun a=>hf j' hj' a ej';omega
   ·exact absurd ej (hf' j hj)
  ·rcases hn with ⟨j',rfl,⟨hj',ej'⟩,hf'⟩|⟨rfl,hf'⟩
   ·exact absurd ej' (hf j' hj')
   ·rfl
 clear hn;obtain⟨a,cap,rfl,hl⟩:=Sc.slice h;have hcu:=fun m=>conv_str k (w.drewN m) (zar (Later.refl _) m);have hku:=k.isB;obtain⟨b,cap',rfl,_⟩:=k.slice;clear k;go_enter Tryz.func96,Tryz.ntmps96;go_wp2_with fail
 go_loopw [5] (fun i wr=>∃ (j m:Nat),i=.int .i64 (j:Int)∧j≤l.length∧wr=w.drewN m∧Hid (∀ i (hi:i<l.length),i<j→l[i].name≠nm)) (fun i _=>l.length - (intOf i).toNat)
 case atStart=>exact⟨0,0,rfl,Nat.zero_le _,rfl,fun i _ hj=>absurd hj (Nat.not_lt_zero _)⟩
 case round =>
  obtain⟨j,m,rfl,hj,rfl,HA⟩:=hrel;by_cases hlt:j<l.length
  ·obtain⟨g,off,v0,v1,rfl,hgs,c0,c1,r0,r1⟩:=Sc.elem h j hlt;have i1:(j:Int)<(l.length:Int):=by omega
   have hcv:=fun m=>conv_str r0.rd (w.drewN m) (zar (Later.refl _) m);have hs:=str_inj r0.rd.isB hku;obtain⟨y0,q0,rfl,_⟩:=r0.slice;by_cases q:l[j].name=nm
   ·have HY:Hid ((j:Int)=n):=HU.out _ (.inl ⟨j,rfl,⟨hlt,q⟩,HA.out⟩);rw[decide_eq_true q]at hs;clear r0 r1 HA h q HU c1;go_wp2_with fail
    go_quiet (fail)
    go_wp2_with fail
    go_ret;exact⟨ret_int HY.out,_,World.drewN_drewN _ _ _⟩
   ·have HN:Hid (∀ i (hi:i<l.length),i<j+1→l[i].name≠nm):=fun i hi hij=>by
     rcases Nat.lt_or_ge i j with a|a
     ·exact HA.out i hi a
     ·have:i=j:=by omega
      subst this;exact q
    rw[decide_eq_false q]at hs;clear r0 r1 HA h q HU c1;go_wp2_with fail
    go_quiet (fail)
    go_wp2_with fail
    go_roundw
    case rel=>exact⟨j+1,_,by go_num,by omega,rfl,HN⟩
    case measure=>simp[intOf];omega
  ·have i1:¬ (j:Int)<(l.length:Int):=by omega
   have i2:decide ((j:Int)<(l.length:Int))=false:=decide_eq_false i1;have HY:Hid ((-1:Int)=n):=HU.out _ (.inr ⟨rfl,fun i hi=>HA.out i hi (by omega)⟩);clear HA h HU;go_wp2_with fail
   go_ret;exact⟨ret_int HY.out,_,rfl⟩
def So.left (x:So):Int:=match So.run x with|some l=>400 - l|none=>-1
theorem So.left_no {x:So}(h:So.run x=none):So.left x=-1:=by unfold So.left;rw[h]
theorem So.left_yes {x:So}{l:Int}(h:So.run x=some l):So.left x=400 - l:=by unfold So.left;rw[h]
theorem Fu.run_eq (s l:Int) (x:Fu):Fu.run s l x=if nameL x.name&&paramB 4 s x.params&&tyB x.rk x.rn s true then St.runs s 1 l x.body else none:=rfl
theorem sparts_any (x:So) (v0 v1:Value) (w:World) (hg:Fu.goods x.funcs) (h0:RdL w 2 v0 (Sc.dats x.structs)) (h1:RdL w 5 v1 (Fu.dats x.funcs)) :
  Calls Tryz.prog 65 #[.agg #[v0,v1]] w fun e w'=>e=.returned (.int .i64 x.left)∧Later w w':=by
 have HR:Hid (So.run x=if structB x.structs&&decide (x.funcs.length≤8) then Fu.runs (x.structs.length:Int) 400 x.funcs else none):=rfl;obtain⟨a0,p0,rfl,hl0⟩:=Sc.slice h0;obtain⟨a1,p1,rfl,hl1⟩:=Fu.slice h1;have HN:Hid (So.run x=none→So.left x=-1):=So.left_no;have HY:Hid (∀ l,So.run x=some l→So.left x=400 - l):=fun l h=>So.left_yes h;have HG:Hid _:=hg;have HSB:Hid (structB x.structs=false→So.run x=none):=fun h=>by rw[HR.out,h];rfl
 have H8:Hid (¬ x.funcs.length≤8→So.run x=none):=fun h=>by rw[HR.out,decide_eq_false h,Bool.and_false];rfl
 have H9:Hid (structB x.structs=true→x.funcs.length≤8→So.run x=Fu.runs (x.structs.length:Int) 400 x.funcs):=fun h h'=>by rw[HR.out,h,decide_eq_true h'];rfl
 have HST:Hid (¬ x.structs.length≤6→structB x.structs=false):=fun h=>by unfold structB;rw[decide_eq_false h,Bool.false_and]
 clear hg HR
 generalize So.left x=LL at *
 generalize So.run x=RR at *
 generalize x.structs=ss at *
 generalize x.funcs=fs at *
 by_cases g6:ss.length≤6
 ·have g6':¬ 6<(ss.length:Int):=by omega
  by_cases g8:fs.length≤8
  ·have g8':¬ 8<(fs.length:Int):=by omega
   go_enter Tryz.func65,Tryz.ntmps65;go_wp2_with fail
   have hB0:Bx w.heap.size (w.alloc (.cells #[.slice a0 ss.length p0,.slice a1 fs.length p1] 46)) [.slice a0 ss.length p0,.slice a1 fs.length p1]:=Bx.new w [.slice a0 ss.length p0,.slice a1 fs.length p1] 46;go_loopw [4] (fun i wr=>∃ (j:Nat),i=.int .i64 (j:Int)∧j≤ss.length∧Later w wr∧Bx w.heap.size wr [.slice a0 ss.length p0,.slice a1 fs.length p1]∧Hid (∀ i (hi:i<ss.length),i<j→oneB ss i ss[i]=true)) (fun i _=>ss.length - (intOf i).toNat)
   case atStart=>exact⟨0,rfl,Nat.zero_le _,later1 _ _,hB0,fun i _ hj=>absurd hj (Nat.not_lt_zero _)⟩
   case round =>
    obtain⟨j,rfl,hj,lr,hBr,HA⟩:=hrel;have y0:=hBr.cell 0 _ rfl;have y1:=hBr.cell 1 _ rfl;have ylt:=hBr.lt;by_cases hlt:j<ss.length
    ·have h0r:=RdL.later lr h0;obtain⟨g,off,u0,u1,rfl,hgs,c0,c1,r0,r1⟩:=Sc.elem h0r j hlt;have i1:(j:Int)<(ss.length:Int):=by omega
     have hW:=fun m=>word_any u0 ss[j].name true (wr.drewN m) (r0.later (zar (Later.refl _) m)).rd;have hWl:=fun w' (ll:Later wr w')=>word_any u0 ss[j].name true w' (r0.later ll).rd;obtain⟨n,hf,hS0⟩:=sstruct_any (.slice (some ⟨g,off,none⟩) ss.length p0) u0 ss ss[j].name;have hS:=fun w' (ll:Later wr w')=>hS0 w' (RdL.later ll h0r) (r0.later ll).rd;have hP:=fun w' (ll:Later wr w')=>sparams_any u1 ss[j].fields 5 ((j:Int)+1) w' (RdL.later ll r1);have hne:=firstB_eq hlt hf;have hwj:IntKind.i64.wrap ((j:Int)+1)=(j:Int)+1:=by rw[IntKind.wrap_i64];omega
     obtain⟨z0,q0,rfl,_⟩:=r0.slice;obtain⟨z1,q1,rfl,_⟩:=Pa.slice r1;have HB:Hid (oneB ss j ss[j]=false→RR=none):=fun hf=>HSB.out (structB_no hlt hf)
     have HGo:Hid (oneB ss j ss[j]=true→∀ i (hi:i<ss.length),i<j+1→oneB ss i ss[i]=true):=fun hf i hi hij=>by
      rcases Nat.lt_or_ge i j with a|a
      ·exact HA.out i hi a
      ·have:i=j:=by omega
       subst this;exact hf
     have HQ:Hid (oneB ss j ss[j]=(wordL ss[j].name true&&!(anyB (ss.take j) ss[j].name)&&paramB 5 ((j:Int)+1) ss[j].fields)):=rfl
     have HSS:Hid (∀ w',Later wr w'→(Later wr w'∧w'.cell? ⟨w.heap.size,0,none⟩=some (.slice (some ⟨g,off,none⟩) ss.length p0)∧w'.cell? ⟨g,off+j*2,none⟩=some (.slice z0 ss[j].name.length q0)∧w'.cell? ⟨g,off+j*2+1,none⟩=some (.slice z1 ss[j].fields.length q1))):=fun w' ll=>⟨ll,(hBr.later ll).cell 0 _ rfl,by rw[Below.cell ll (p:=⟨g,off+j*2,none⟩) hgs];exact c0,by rw[Below.cell ll (p:=⟨g,off+j*2+1,none⟩) hgs];exact c1⟩
     have HBx:Hid (∀ w',Later wr w'→Bx w.heap.size w' [.slice (some ⟨g,off,none⟩) ss.length p0,.slice a1 fs.length p1]):=fun w' ll=>hBr.later ll;clear r0 r1 HA h0 h0r h1 hf hS0 hBr hB0 HG HY H8 H9 HST HSB
     generalize oneB ss j ss[j]=ok at *
     generalize wordL ss[j].name true=wb at *
     generalize anyB (ss.take j) ss[j].name=ab at *
     generalize paramB 5 ((j:Int)+1) ss[j].fields=pb at *
     cases wb
     ·have hr:=HN.out (HB.out HQ.out);have HR:Hid (-1=LL):=hr.symm;clear hr HGo HB hS hP
      as_aux_lemma =>
       go_wp2_with fail
       go_quiet ((go_at_call 95;exact Calls.quiet_of_same (hW _)))
       go_wp2_with fail
       go_ret;exact⟨ret_int HR.out,zar lr _⟩
     ·cases ab
      ·cases pb
       ·have hr:=HN.out (HB.out HQ.out);have HR:Hid (-1=LL):=hr.symm;clear hr HGo HB
        as_aux_lemma =>
         go_wp2_with fail
         go_region_held3 (fun w'=>Later wr w'∧w'.cell? ⟨w.heap.size,0,none⟩=some (.slice (some ⟨g,off,none⟩) ss.length p0)∧w'.cell? ⟨g,off+j*2,none⟩=some (.slice z0 ss[j].name.length q0)∧w'.cell? ⟨g,off+j*2+1,none⟩=some (.slice z1 ss[j].fields.length q1)) (first|exact HSS.out _ (Later.drew _)|exact HSS.out _ ((Later.drew _).trans l2)|exact HSS.out _ (((Later.drew _).trans l2).trans l3)) (first|(go_at_call 95;refine (hWl _ (Later.drew _)).mono ?_;rintro e w1 ⟨rfl,hww⟩;obtain rfl:=hww.symm)|(go_at_call 96;refine (hS _ (Later.drew _)).mono ?_;rintro e w2 ⟨rfl,m2,hm2⟩;have l2:Later wr.drew w2:=(by rw[hm2];exact zar (Later.refl _) _);clear hm2)|(go_at_call 97;refine (hP _ ((Later.drew _).trans l2)).mono ?_;rintro e w3 ⟨rfl,l3⟩))
         all_goals
          go_wp2_with fail
          go_ret;exact⟨ret_int HR.out,lr.trans (((Later.drew _).trans l2).trans l3)⟩
       ·have HG':Hid (∀ i (hi:i<ss.length),i<j+1→oneB ss i ss[i]=true):=HGo.out HQ.out;clear HGo HB HN
        as_aux_lemma =>
         go_wp2_with fail
         go_region_held3 (fun w'=>Later wr w'∧w'.cell? ⟨w.heap.size,0,none⟩=some (.slice (some ⟨g,off,none⟩) ss.length p0)∧w'.cell? ⟨g,off+j*2,none⟩=some (.slice z0 ss[j].name.length q0)∧w'.cell? ⟨g,off+j*2+1,none⟩=some (.slice z1 ss[j].fields.length q1)) (first|exact HSS.out _ (Later.drew _)|exact HSS.out _ ((Later.drew _).trans l2)|exact HSS.out _ (((Later.drew _).trans l2).trans l3)) (first|(go_at_call 95;refine (hWl _ (Later.drew _)).mono ?_;rintro e w1 ⟨rfl,hww⟩;obtain rfl:=hww.symm)|(go_at_call 96;refine (hS _ (Later.drew _)).mono ?_;rintro e w2 ⟨rfl,m2,hm2⟩;have l2:Later wr.drew w2:=(by rw[hm2];exact zar (Later.refl _) _);clear hm2)|(go_at_call 97;refine (hP _ ((Later.drew _).trans l2)).mono ?_;rintro e w3 ⟨rfl,l3⟩))
         all_goals
          go_wp2_with fail
          go_roundw
          case rel=>exact⟨j+1,by go_num,by omega,lr.trans (((Later.drew _).trans l2).trans l3),HBx.out _ (((Later.drew _).trans l2).trans l3),HG'⟩
          case measure=>simp[intOf];omega
      ·have hr:=HN.out (HB.out HQ.out);have HR:Hid (-1=LL):=hr.symm;clear hr HGo HB hP
       as_aux_lemma =>
        go_wp2_with fail
        go_quiet (first|(go_at_call 95;exact Calls.quiet_of_same (hW _))|(go_at_call 96;exact Calls.quiet_of (hS _ (zar (Later.refl _) _))))
        go_wp2_with fail
        go_ret;exact⟨ret_int HR.out,zar lr _⟩
    ·have i1:¬ (j:Int)<(ss.length:Int):=by omega
     have i2:decide ((j:Int)<(ss.length:Int))=false:=decide_eq_false i1;have hrr:=H9.out ((zcc ss).2 ⟨g6,fun i hi=>HA.out i hi (by omega)⟩) g8;have HRR:Hid (RR=Fu.runs (ss.length:Int) 400 fs):=hrr
     have hC0:Cn wr.heap.size (wr.alloc (.cells #[.int .i64 400] 3)) 400:=⟨by simp,by simp,by simp⟩
     have hK:w.heap.size≤wr.heap.size:=lr.size;have hbK:w.heap.size≠wr.heap.size:=by omega
     have hB2:=hBr.later (later1 wr (.cells #[.int .i64 400] 3));clear hrr HA h0 hB0 HSB H8 H9 HST;have lrA:Later w (wr.alloc (.cells #[.int .i64 400] 3)):=lr.alloc _;go_wp2_with fail
     generalize wr.alloc (.cells #[.int .i64 400] 3)=WA at *
     generalize wr.heap.size=KK at *
     clear hBr y0 y1 ylt lr;go_loopw [6] (fun i wx=>∃ (j:Nat) (q:Int),i=.int .i64 (j:Int)∧j≤fs.length∧OnlyK KK WA wx∧Cn KK wx q∧0≤q∧q≤400∧Hid (Fu.soFar (ss.length:Int) 400 fs j q)∧Bx w.heap.size wx [.slice a0 ss.length p0,.slice a1 fs.length p1]) (fun i _=>fs.length - (intOf i).toNat)
     case atStart=>exact⟨0,400,rfl,Nat.zero_le _,OnlyK.refl _ _,hC0,by decide,by decide,Fu.soFar_start _ _ _,hB2⟩
     case round =>
      obtain⟨j,q,rfl,hj,oR,hCr,hq0,hq1,HS,hBx⟩:=hrel;have hLr:Later w wr:=zbf lrA oR hK;have x1:=hBx.cell 1 _ rfl;by_cases hlt:j<fs.length
      ·obtain⟨g,off,u0,u1,u2,rfl,hgs,c0,c1,c2,c3,c4,r0,r1,r2⟩:=Fu.elem h1 j hlt;have i1:(j:Int)<(fs.length:Int):=by omega
       have c0:wr.cell? ⟨g,off+j*5,none⟩=some u0:=by rw[Below.cell hLr (p:=⟨g,off+j*5,none⟩) hgs];exact c0
       have c1:wr.cell? ⟨g,off+j*5+1,none⟩=some u1:=by rw[Below.cell hLr (p:=⟨g,off+j*5+1,none⟩) hgs];exact c1
       have c2:wr.cell? ⟨g,off+j*5+2,none⟩=some (.int .i64 fs[j].rk):=by rw[Below.cell hLr (p:=⟨g,off+j*5+2,none⟩) hgs];exact c2
       have c3:wr.cell? ⟨g,off+j*5+3,none⟩=some (.int .i64 fs[j].rn):=by rw[Below.cell hLr (p:=⟨g,off+j*5+3,none⟩) hgs];exact c3
       have c4:wr.cell? ⟨g,off+j*5+4,none⟩=some u2:=by rw[Below.cell hLr (p:=⟨g,off+j*5+4,none⟩) hgs];exact c4
       obtain⟨z0,t0,rfl,_⟩:=r0.slice;obtain⟨z1,t1,rfl,_⟩:=Pa.slice r1;obtain⟨z2,t2,rfl,_⟩:=St.slice r2;have hNm:=fun w' (ll:Later wr w')=>zdw _ fs[j].name w' (r0.later (hLr.trans ll)).rd;have hPa:=fun w' (ll:Later wr w')=>sparams_any _ fs[j].params 4 (ss.length:Int) w' (RdL.later (hLr.trans ll) r1);have hTy:=fun w'=>ty_any fs[j].rk fs[j].rn (ss.length:Int) true w';have hBl:=fun w' (ll:Later wr w')=>sblock_all _ _ fs[j].body KK (ss.length:Int) q 1 w w' (Nat.le_refl _) (HG.out j hlt) r2 (hLr.trans ll) hK (hCr.later ll) hq0 hq1 (by decide) (by decide);have HF:Hid (Fu.run (ss.length:Int) q fs[j]=if nameL fs[j].name&&paramB 4 (ss.length:Int) fs[j].params&&tyB fs[j].rk fs[j].rn (ss.length:Int) true then St.runs (ss.length:Int) 1 q fs[j].body else none):=Fu.run_eq _ _ _
       have HNx:Hid (∀ l',Fu.run (ss.length:Int) q fs[j]=some l'→Fu.soFar (ss.length:Int) 400 fs (j+1) l'∧l'≤q∧0≤l'):=fun l' hr=>⟨Fu.soFar_next HS.out hlt hr,(Fu.run_le hr).1,(Fu.run_le hr).2 hq0⟩
       have HB:Hid (Fu.run (ss.length:Int) q fs[j]=none→-1=LL):=fun hr=>(HN.out (HRR.out.trans (Fu.soFar_bad HS.out hlt hr))).symm
       have HOx:Hid (∀ w',Later wr w'→OnlyK KK WA w'∧Bx w.heap.size w' [.slice a0 ss.length p0,.slice (some ⟨g,off,none⟩) fs.length p1]∧Later w w'):=fun w' ll=>⟨oR.trans (OnlyK.of_later ll),hBx.later ll,hLr.trans ll⟩
       have hxs:KK≠wr.heap.size:=by have:=hCr.lt;omega
       have hwr:w.heap.size<wr.heap.size:=hBx.lt;clear r0 r1 r2 h1 HS HG HY HN HRR
       generalize Fu.run (ss.length:Int) q fs[j]=R at *
       generalize St.runs (ss.length:Int) 1 q fs[j].body=RB at *
       generalize nameL fs[j].name=nb at *
       generalize paramB 4 (ss.length:Int) fs[j].params=pb at *
       generalize tyB fs[j].rk fs[j].rn (ss.length:Int) true=tb at *
       generalize fs[j].rk=z_rk at *
       generalize fs[j].rn=z_rn at *
       cases nb
       ·have hb:=HB.out HF.out;have HB':Hid _:=hb;clear hb HB hPa hTy hBl
        as_aux_lemma =>
         go_wp2_with (go_at_call 98;refine (hNm _ (later1 _ _)).mono ?_;rintro e w1 ⟨rfl,l1⟩)
         go_ret;exact⟨ret_int HB'.out,(HOx.out _ ((later1 _ _).trans l1)).2.2⟩
       ·cases pb
        ·have hb:=HB.out HF.out;have HB':Hid _:=hb;clear hb HB hTy hBl
         as_aux_lemma =>
          go_wp2_with (first|(go_at_call 98;refine (hNm _ (later1 _ _)).mono ?_;rintro e w1 ⟨rfl,l1⟩;obtain⟨hc1,_⟩:=bcell l1)|(go_at_call 97;refine (hPa _ ((later1 _ _).trans l1)).mono ?_;rintro e w2 ⟨rfl,l2⟩))
          go_ret;exact⟨ret_int HB'.out,(HOx.out _ (((later1 _ _).trans l1).trans l2)).2.2⟩
        ·cases tb
         ·have hb:=HB.out HF.out;have HB':Hid _:=hb;clear hb HB hBl
          as_aux_lemma =>
           go_wp2_with (first|(go_at_call 98;refine (hNm _ (later1 _ _)).mono ?_;rintro e w1 ⟨rfl,l1⟩;obtain⟨hc1,_⟩:=bcell l1;have hz1:wr.heap.size<w1.heap.size:=(by have:=l1.size;simp at this;omega))|(go_at_call 97;refine (hPa _ ((later1 _ _).trans l1)).mono ?_;rintro e w2 ⟨rfl,l2⟩;obtain⟨hc2,_⟩:=bcell l2)|(go_at_call 99;refine (hTy _).mono ?_;rintro e w3 ⟨rfl,l3⟩))
           go_ret;exact⟨ret_int HB'.out,(HOx.out _ ((((later1 _ _).trans l1).trans l2).trans l3)).2.2⟩
         ·have hr:R=RB:=HF.out;subst hr;clear HF
          as_aux_lemma =>
           go_wp2_with (first|(go_at_call 98;refine (hNm _ (later1 _ _)).mono ?_;rintro e w1 ⟨rfl,l1⟩;obtain⟨hc1,_⟩:=bcell l1;have hz1:wr.heap.size<w1.heap.size:=(by have:=l1.size;simp at this;omega))|(go_at_call 97;refine (hPa _ ((later1 _ _).trans l1)).mono ?_;rintro e w2 ⟨rfl,l2⟩;obtain⟨hc2,_⟩:=bcell l2;have hz2:wr.heap.size<w2.heap.size:=(by have:=l2.size;omega))|(go_at_call 99;refine (hTy _).mono ?_;rintro e w3 ⟨rfl,l3⟩;obtain⟨hc3,_⟩:=bcell l3))
           have L3:=(((later1 _ _).trans l1).trans l2).trans l3;refine (hBl _ L3).mono ?_;rintro e w4 ⟨o4,hm⟩;obtain⟨ox,bx,lx⟩:=HOx.out _ L3;have o:=ox.trans o4;have hB4:=bx.only o4 hbK;have hL4:=zbf lx o4 hK
           cases R with
           | none =>
            obtain⟨rfl,z',hC4⟩:=hm;have HB':Hid (-1=LL):=HB.out rfl;go_wp2_with fail
            go_ret;exact⟨ret_int HB'.out,hL4⟩
           | some l' =>
            obtain⟨rfl,hC4⟩:=hm;obtain⟨n1,n2,n3⟩:=HNx.out l' rfl;have HN1:Hid _:=n1;clear n1 HNx HB;go_wp2_with fail
            go_roundw
            case rel=>exact⟨j+1,l',by go_num,by omega,o,hC4,by omega,by omega,HN1,hB4⟩
            case measure=>simp[intOf];omega
      ·have i1:¬ (j:Int)<(fs.length:Int):=by omega
       have i2:decide ((j:Int)<(fs.length:Int))=false:=decide_eq_false i1;have hjj:j=fs.length:=by omega
       subst hjj;have hd:=HY.out q (HRR.out.trans (Fu.soFar_done HS.out));have HD:Hid (400 - q=LL):=hd.symm;have cK:=hCr.c0;clear hd h1 HS HRR HY HN HG;go_wp2_with fail
       go_ret;exact⟨ret_int HD.out,hLr⟩
  ·have g8':8<(fs.length:Int):=by omega
   have hr:=HN.out (H8.out g8);have HR:Hid (-1=LL):=hr.symm;clear hr;go_enter Tryz.func65,Tryz.ntmps65;go_wp2_with fail
   go_ret;exact⟨ret_int HR.out,later1 _ _⟩
 ·have g6':6<(ss.length:Int):=by omega
  have hr:=HN.out (HSB.out (HST.out g6));have HR:Hid (-1=LL):=hr.symm;clear hr;go_enter Tryz.func65,Tryz.ntmps65;go_wp2_with fail
  go_ret;exact⟨ret_int HR.out,later1 _ _⟩
end Go.Proofs.YtgholpilmdebmaaGreatDoor
namespace Go.Proofs.YtgholpilmdebmaaGreatDoor
open Go.RowKit Go.Maps
def So.ok (x:So):Bool:=x.run.isSome&&decide (x.text.length≤6000)
def OkP (b:Bool) (w:World) (e:Ending) (w':World):Prop:=e=.returned (.bool b)∧Later w w'
theorem sok_any (x:So) (v0 v1:Value) (w:World) (hg:Fu.goods x.funcs) (h0:RdL w 2 v0 (Sc.dats x.structs)) (h1:RdL w 5 v1 (Fu.dats x.funcs)) :
  Calls Tryz.prog 42 #[.agg #[v0,v1]] w (OkP x.ok w):=by
 have hP:=fun w' (l:Later w w')=>sparts_any x v0 v1 w' hg (h0.later l) (h1.later l);have hT:=fun w' (l:Later w w') (hf:SoFine x)=>print_any x hf w' w' v0 v1 (Later.refl _) (h0.later l) (h1.later l)
 have hfine:x.run.isSome=true→SoFineI x:=fun h=>by
  cases e:So.run x with
  | none=>rw[e]at h;cases h
  | some q=>exact So.run_fine hg e
 obtain⟨sa,scap,rfl,hsl⟩:=Sc.slice h0;obtain⟨fa,fcap,rfl,hfl⟩:=Fu.slice h1;have hbx:BxT w.heap.size (w.alloc (.cells #[.slice sa x.structs.length scap,.slice fa x.funcs.length fcap] 46)) [.slice sa x.structs.length scap,.slice fa x.funcs.length fcap] 46:=BxT.new w _ _;obtain⟨w1,hw1⟩:=hidx (w.alloc (.cells #[.slice sa x.structs.length scap,.slice fa x.funcs.length fcap] 46));rw[←hw1.out]at hbx;have hL1:Later w w1:=by rw[hw1.out];exact later1 _ _
 have hz1:w.heap.size<w1.heap.size:=by rw[hw1.out];simp
 cases hr:So.run x with
 | none =>
  have hleft:=So.left_no hr
  have HA:Hid (∀ w',Later w w'→OkP x.ok w (.returned (.bool false)) w'):=fun w' l=>⟨by unfold So.ok;rw[hr];rfl,l⟩
  generalize hQ:OkP x.ok w=Q at *
  clear hQ h0 h1 hsl hfl hfine hT hbx;go_enter Tryz.func42,Tryz.ntmps42;go_wp2_with fail
  rw[←hw1.out];refine (hP _ hL1).mono ?_;rintro e w2 ⟨rfl,l2⟩;rw[hleft];have HB:=HA.out w2 (hL1.trans l2);clear HA hP;go_wp2_with fail
  exact HB
 | some q =>
  have hleft:=So.left_yes hr
  have hq:0≤q∧q≤400:=by
   have h:=hr;unfold So.run at h;split at h
   ·have:=Fu.runs_le _ _ _ _ h;exact⟨this.2 (by omega),this.1⟩
   ·cases h
  have hF:=(hfine (by rw[hr];rfl)).fine
  have HA:Hid (∀ w' b,Later w w'→b=decide (x.text.length≤6000)→OkP x.ok w (.returned (.bool b)) w'):=fun w' b l hb=>⟨by unfold So.ok;rw[hr,hb];rfl,l⟩
  have hll:=hF.len
  generalize hQ:OkP x.ok w=Q at *
  clear hQ h0 h1 hsl hfl hfine;go_enter Tryz.func42,Tryz.ntmps42;go_wp2_with fail
  rw[←hw1.out];refine (hP _ hL1).mono ?_;rintro e w2 ⟨rfl,l2⟩;rw[hleft];have L2:=hL1.trans l2;have hbx2:BxT w.heap.size w2 [.slice sa x.structs.length scap,.slice fa x.funcs.length fcap] 46:=by unfold BxT at hbx ⊢;rw[l2.block _ hz1];exact hbx
  have y0:=hbx2.cell 0 _ rfl;have y1:=hbx2.cell 1 _ rfl;have hT2:=hT w2 L2 hF;obtain⟨L,hL⟩:=hidx ((400:Int) - q);rw[←hL.out];have i1:(0:Int)≤L:=by rw[hL.out];omega
  clear hP hT hbx hbx2 hleft hq;go_wp2_with fail
  refine hT2.mono ?_;rintro e w3 ⟨v,rfl,hB⟩;have L3:=L2.trans hB.lat;obtain⟨a,M,cap,rfl,hM⟩:=hB.shape2;have HB:=HA.out w3 (decide ((M:Int)≤6000)) L3 (by rw[hM.out];exact decide_eq_decide.2 (by omega));clear HA;go_wp2_with fail
  exact HB
end Go.Proofs.YtgholpilmdebmaaGreatDoor
