import Derived.Test.YtgaddpkkjebekaaGreatDoorZ49
import Derived.Test.YtgaddpkkjebekaaGreatDoorZ53
import Derived.Defers
import Derived.Recover
set_option maxHeartbeats 100000000
set_option maxRecDepth 100000
namespace Go.Proofs.YtgaddpkkjebekaaGreatDoor
open Go.RowKit Go.Maps
theorem Uj (p:Int) (w:World):(Instr.typeAssert (.iface 36 (.int .i64 p)) 20 36 true).run Tryz.prog w=.ok (.tuple #[.int .i64 p,.bool true]) w:=by kernel_rfl
theorem ta_no (w:World):(Instr.typeAssert Value.nilIface 20 36 true).run Tryz.prog w=.ok (.tuple #[.int .i64 0,.bool false]) w:=by kernel_rfl
theorem VG (a b c:Value):(#[a,b,c]++Array.replicate 10 undef:Array Value)=#[a,b,c,undef,undef,undef,undef,undef,undef,undef,undef,undef,undef]:=rfl
theorem Nw (b:Nat) (p:Int) (w:World) (u0 u1 u2 u3:Value) (h0:Bxx w b [u0,u1]) (h1:Bxx w (b+1) [u2]) (h2:Bxx w (b+1+1) [u3]) :
  CallsD Tryz.prog 8 #[.pointer (some ⟨b,0,none⟩),.pointer (some ⟨b+1,0,none⟩),.pointer (some ⟨b+1+1,0,none⟩)] (.panicking [{ v:=.iface 36 (.int .i64 p),recovered:=false }]) w fun e u' w' =>
   e=.returned (.tuple #[])/\u'=.panicking [{ v:=.iface 36 (.int .i64 p),recovered:=true }]/\w'=(((w.setCell ⟨b,0,none⟩ (.slice none 0 0)).setCell ⟨b,1,none⟩ (.slice none 0 0)).setCell ⟨b+1,0,none⟩ (.int .i64 3)).setCell ⟨b+1+1,0,none⟩ (.int .i64 p):=by
 refine callsD_of_wpS Tryz.func8 rfl fun c₀ cs hu=>?_
 apply wpS_seq
 apply wpS_region
 simp[wpOpsS,go_sem,recoverD,hu,Tryz.ntmps8,Exit.thenS,Uj,VG]
 apply wpS_seq
 apply wpS_region
 simp[wpOpsS,go_sem,Exit.thenS];refine wpS_cond (t:=true) (by simp[Act.eval]) ?_;simp only[if_true]
 apply wpS_region
 obtain⟨c0,z0⟩:=h0.cell 0 _ rfl;obtain⟨c1,z1⟩:=h0.cell 1 _ rfl;obtain⟨c2,z2⟩:=h1.cell 0 _ rfl;obtain⟨c3,z3⟩:=h2.cell 0 _ rfl;have n1:b+1≠b:=by omega
 have n2:b+1+1≠b:=by omega
 have n3:b+1+1≠b+1:=by omega
 simp[wpOpsS,go_sem,c0,c1,c2,c3,z0,z1,z2,z3,bodyPostS,results,Tryz.results8]
theorem catch_idle (b:Nat) (w:World) :
  CallsD Tryz.prog 8 #[.pointer (some ⟨b,0,none⟩),.pointer (some ⟨b+1,0,none⟩),.pointer (some ⟨b+1+1,0,none⟩)] .returning w fun e u' w'=>e=.returned (.tuple #[])/\u'=.returning/\w'=w:=by
 refine callsD_of_wpS Tryz.func8 rfl fun c₀ cs hu=>?_
 apply wpS_seq
 apply wpS_region
 simp[wpOpsS,go_sem,recoverD,hu,Tryz.ntmps8,Exit.thenS,ta_no,VG]
 apply wpS_seq
 apply wpS_region
 simp[wpOpsS,go_sem,Exit.thenS];refine wpS_cond (t:=false) (by simp[Act.eval]) ?_;simp only[Bool.false_eq_true,if_false];refine wpS_of_wp (wp_skip ?_)
 cases c₀
 simp_all [bodyPostS,results,Tryz.results8]
def so0:So:=.mk [] []
def DW (l:List PTk) (ok:So->Bool) (n:Nat) (x:Except Nat So):So × Int × Int:=match x with
 | .error k=>(so0,3,(aC l []).pos (n:Int) k)
 | .ok x=>if ok x then (x,0,0) else (so0,1,0)
def kU (lx:List PTk × Int) (ok:So->Bool) (n:Nat):So × Int × Int :=
 if 6000<n then (so0,1,0) else if 0<=lx.2 then (so0,2,lx.2) else DW lx.1 ok n (uo (fun t=>aY t true) aQ lx.1 (4*lx.1.length+7))
def yz (w:World) (r:So × Int × Int) (e:Ending) (w':World):Prop:=∃ a0 n0 c0 a1 n1 c1 F,e=.returned (.tuple #[.agg #[.slice a0 n0 c0,.slice a1 n1 c1],.int .i64 r.2.1,.int .i64 r.2.2])/\Own w.heap.size w' r.1.dat [.slice a0 n0 c0,.slice a1 n1 c1] F/\Later w w'
structure LxP (lx:List PTk × Int) (w:World) (e:Ending) (w':World):Prop where
 later:Later w w'
 out:∃ tv TX TB,e=.returned (.tuple #[tv,.int .i64 lx.2])/\(∃ a n c,tv=.slice a n c)/\(∀ K w2,w'.heap.size<=K->af K w' w2->Tks (aC lx.1 []) TX TB tv w2)/\BF TB w'.heap.size/\∀ k b,b∈TB k->w.heap.size<=b
theorem Uw {w:World}{x:So}{u0 u1:Value}{F0 F1:List Nat}(h0:ai w (.list 2 (Sc.ah x.structs)) [u0] F0) (h1:ai w (.list 5 (Fu.ah x.funcs)) [u1] F1):ai w x.dat [u0,u1] (F0++F1):=by
 obtain⟨ss,fs⟩:=x;rw[So.dat,ai,aA];refine⟨[_],_,F0,_,rfl,rfl,h0,?_⟩;rw[aA];refine⟨[_],[],F1,[],rfl,(List.append_nil _).symm,h1,?_⟩;rw[aA];exact⟨rfl,rfl⟩
theorem zo {w w1:World}{a0 a1 a2 a3:Value}(B0:Bxx w1 w.heap.size [a0,a1]) (B1:Bxx w1 (w.heap.size+1) [a2]) (B2:Bxx w1 (w.heap.size+1+1) [a3]) (l:Later w w1) (u0 u1:Value) (c p:Int):∃ W,Hid (W=(((w1.setCell ⟨w.heap.size,0,none⟩ u0).setCell ⟨w.heap.size,1,none⟩ u1).setCell ⟨w.heap.size+1,0,none⟩ (.int .i64 c)).setCell ⟨w.heap.size+1+1,0,none⟩ (.int .i64 p))/\(W.cell? ⟨w.heap.size,0,none⟩=some u0/\W.cell? ⟨w.heap.size,1,none⟩=some u1/\W.cell? ⟨w.heap.size+1,0,none⟩=some (.int .i64 c)/\W.cell? ⟨w.heap.size+1+1,0,none⟩=some (.int .i64 p))/\Later w W/\(∀ k,k≠w.heap.size->k≠w.heap.size+1->k≠w.heap.size+1+1->W.heap[k]?=w1.heap[k]?)/\W.heap.size=w1.heap.size:=by
 obtain⟨W,hW⟩:=hidx ((((w1.setCell ⟨w.heap.size,0,none⟩ u0).setCell ⟨w.heap.size,1,none⟩ u1).setCell ⟨w.heap.size+1,0,none⟩ (.int .i64 c)).setCell ⟨w.heap.size+1+1,0,none⟩ (.int .i64 p));have C0:Bxx W w.heap.size [u0,u1]:=by rw[hW.out];exact (((B0.set 0 u0 (by simp)).set 1 u1 (by simp)).other (by omega) _).other (by omega) _
 have C1:Bxx W (w.heap.size+1) [.int .i64 c]:=by rw[hW.out];exact (((B1.other (by omega) _).other (by omega) _).set 0 _ (by simp)).other (by omega) _
 have C2:Bxx W (w.heap.size+1+1) [.int .i64 p]:=by rw[hW.out];exact (((B2.other (by omega) _).other (by omega) _).other (by omega) _).set 0 _ (by simp)
 refine⟨W,hW,⟨(C0.cell 0 _ rfl).1,(C0.cell 1 _ rfl).1,(C1.cell 0 _ rfl).1,(C2.cell 0 _ rfl).1⟩,?_,fun k h1 h2 h3=>?_,by rw[hW.out];simp[World.size_setCell]⟩
 ·rw[hW.out];exact (((l.setAt (Nat.le_refl _) _ _).setAt (Nat.le_refl _) _ _).setAt (by omega) _ _).setAt (by omega) _ _
 ·rw[hW.out,Below.heap_setCell _ _ _ _ h3,Below.heap_setCell _ _ _ _ h2,Below.heap_setCell _ _ _ _ h1,Below.heap_setCell _ _ _ _ h1]
theorem zq (b:Nat) (w:World):Own b w so0.dat [.slice none 0 0,.slice none 0 0] []:=by
 refine Own.mk' ?_ (Fr.nil _ _);unfold so0;rw[So.dat,Sc.ah,Fu.ah,ai,aA];refine⟨[_],_,[],_,rfl,(List.nil_append _).symm,jE _ _,?_⟩;rw[aA];refine⟨[_],[],[],[],rfl,rfl,jE _ _,?_⟩;rw[aA];exact⟨rfl,rfl⟩
theorem IJ (a:Option Addr) (L cap:Nat) (w:World) (lx:List PTk × Int) (ok:So->Bool) (hO:OpE w)
  (hLx:∀ w',Later w w'->Calls Tryz.prog 7 #[.slice a L cap] w' (LxP lx w'))
  (hOk:∀ x v0 v1 w',uo (fun t=>aY t true) aQ lx.1 (4*lx.1.length+7)=.ok x->Later w w'->RdL w' 2 v0 (Sc.ah x.structs)->RdL w' 5 v1 (Fu.ah x.funcs)->Calls Tryz.prog 10 #[.agg #[v0,v1]] w' fun e w2=>e=.returned (.bool (ok x))/\Later w' w2) :
  Calls Tryz.prog 5 #[.slice a L cap] w (yz w (kU lx ok L)):=by
 have hmf:∀ (fn:Fn) (first cap:Array Value) (w:World),(Instr.makeFunc fn first cap).run Tryz.prog w=.ok (.func fn first cap) w:=fun _ _ _ _=>rfl;by_cases q1:6000<L
 ·have q1':(6000:Int)<(L:Int):=by omega
  have HZ:Hid (∀ w',Later w w'->yz w (kU lx ok L) (.returned (.tuple #[.agg #[.slice none 0 0,.slice none 0 0],.int .i64 1,.int .i64 0])) w'):=fun w' l=>by
   unfold kU;rw[if_pos q1];exact⟨none,0,0,none,0,0,[],rfl,zq _ _,l⟩
  generalize yz w (kU lx ok L)=Q at *
  clear hLx hOk;go_enter_defers Tryz.func5,Tryz.ntmps5;go_wp2_with fail
  exact⟨.tuple #[.agg #[.slice none 0 0,.slice none 0 0],.int .i64 1,.int .i64 0],by simp[results,Tryz.results5,go_sem],HZ.out _ ((ae _ _).trans ((ae _ _).trans (ae _ _)))⟩
 ·have q1':¬ (6000:Int)<(L:Int):=by omega
  obtain⟨wa,hwa⟩:=hidx (((w.alloc (.cells #[.slice none 0 0,.slice none 0 0] 28)).alloc (.cells #[.int .i64 0] 3)).alloc (.cells #[.int .i64 0] 3));have la:Later w wa:=by rw[hwa.out];exact (ae _ _).trans ((ae _ _).trans (ae _ _))
  have sa:wa.heap.size=w.heap.size+1+1+1:=by rw[hwa.out];simp
  have b0:Bxx wa w.heap.size [.slice none 0 0,.slice none 0 0]:=by rw[hwa.out];exact ((Bxx.new _ _ _).later (ae _ _)).later (ae _ _)
  have b1:Bxx wa (w.heap.size+1) [.int .i64 0]:=by
   rw[hwa.out];have:=(Bxx.new (w.alloc (.cells #[.slice none 0 0,.slice none 0 0] 28)) #[.int .i64 0] 3).later (ae _ (.cells #[.int .i64 0] 3));simpa using this
  have b2:Bxx wa (w.heap.size+1+1) [.int .i64 0]:=by
   rw[hwa.out];have:=Bxx.new ((w.alloc (.cells #[.slice none 0 0,.slice none 0 0] 28)).alloc (.cells #[.int .i64 0] 3)) #[.int .i64 0] 3;simpa using this
  have HR:Hid (kU lx ok L=if 0<=lx.2 then (so0,2,lx.2) else DW lx.1 ok L (uo (fun t=>aY t true) aQ lx.1 (4*lx.1.length+7))):=by unfold Hid kU;rw[if_neg q1]
  generalize kU lx ok L=r at *
  go_enter_defers Tryz.func5,Tryz.ntmps5;go_wp2_with fail
  rw[<-hwa.out];refine (hLx wa la).mono ?_;rintro e w1 ⟨l1,tv,TX,TB,rfl,⟨ta,tn,tc,rfl⟩,hT,hTb,hTw⟩;have L1:=la.trans l1;have B0:=b0.later l1;have B1:=b1.later l1;have B2:=b2.later l1;have s1:=l1.size;by_cases q2:0<=lx.2
  ·have HZ:Hid (∀ w',Later w w'->yz w r (.returned (.tuple #[.agg #[.slice none 0 0,.slice none 0 0],.int .i64 2,.int .i64 lx.2])) w'):=fun w' l=>by
    rw[HR.out,if_pos q2];exact⟨none,0,0,none,0,0,[],rfl,zq _ _,l⟩
   obtain⟨c0,f0⟩:=B0.cell 0 _ rfl;obtain⟨c1,f1⟩:=B0.cell 1 _ rfl;obtain⟨c2,f2⟩:=B1.cell 0 _ rfl;obtain⟨c3,f3⟩:=B2.cell 0 _ rfl
   generalize yz w r=Q at *
   clear hLx hOk hT hTb hTw HR
   generalize lx.2=lb at *
   obtain⟨W,hW,⟨e0,e1,e2,e3⟩,lW,_⟩:=zo B0 B1 B2 L1 (.slice none 0 0) (.slice none 0 0) 2 lb;have HZ2:=HZ.out W lW;clear HZ;go_wp2_with fail
   rw[<-hW.out];exact⟨.tuple #[.agg #[.slice none 0 0,.slice none 0 0],.int .i64 2,.int .i64 lb],by simp[results,Tryz.results5,go_sem,e0,e1,e2,e3],HZ2⟩
  ·obtain⟨K,hK⟩:=hidx w1.heap.size;obtain⟨w2,hw2⟩:=hidx (w1.alloc (.cells #[.slice ta tn tc,.int .i64 0,.int .i64 (L:Int),.slice none 0 0,.slice none 0 0] 39));have l2:Later w1 w2:=by rw[hw2.out];exact ae _ _
   have bp:Bxx w2 w1.heap.size [.slice ta tn tc,.int .i64 0,.int .i64 (L:Int),.slice none 0 0,.slice none 0 0]:=by rw[hw2.out];exact Bxx.new _ _ _
   have sp:=bp.lt;have L2:=L1.trans l2;have hgk:5≠w1.heap.size:=by have:=hO.big;have:=L1.size;omega
   have hb:Pb lx.1 TX TB w1.heap.size (.slice ta tn tc) w2:=⟨fun w' o=>hT w1.heap.size w' (Nat.le_refl _) ((af.of_later l2).trans o),hO.only (af.of_later (K:=w1.heap.size) L2) hgk,hgk,hTb.mono l2.size,fun k q=>Nat.lt_irrefl _ (hTb.lt k _ q),sp⟩
   have hPt:=FW (f:=4*lx.1.length+7) lx.1 TX TB (L:Int) w1.heap.size (.slice ta tn tc) w2 hb bp (Nat.le_refl _);have HR2:Hid (r=DW lx.1 ok L (uo (fun t=>aY t true) aQ lx.1 (4*lx.1.length+7))):=by unfold Hid;rw[HR.out,if_neg q2]
   have q2':¬ (0:Int)<=lx.2:=q2;have nb0:w.heap.size≠w1.heap.size:=by omega
   have nb1:w.heap.size+1≠w1.heap.size:=by omega
   have nb2:w.heap.size+1+1≠w1.heap.size:=by omega
   clear HR hLx hT hb;go_wp2_with fail
   rw[<-hw2.out]
   cases qa:uo (fun t=>aY t true) aQ lx.1 (4*lx.1.length+7) with
   | error k =>
    refine hPt.mono ?_;rintro e w3 ⟨o3,-,hbad⟩;obtain rfl:=hbad k qa;have C0:=(B0.later l2).only o3 nb0;have C1:=(B1.later l2).only o3 nb1;have C2:=(B2.later l2).only o3 nb2;have L3:Later w w3:=aB L2 o3 (by have:=L1.size;omega)
    have HZ:Hid (∀ w',Later w w'->yz w r (.returned (.tuple #[.agg #[.slice none 0 0,.slice none 0 0],.int .i64 3,.int .i64 ((aC lx.1 []).pos (L:Int) k)])) w'):=fun w' l=>by
     rw[HR2.out,qa];exact⟨none,0,0,none,0,0,[],rfl,zq _ _,l⟩
    obtain⟨W,hW,⟨e0,e1,e2,e3⟩,lW,_⟩:=zo C0 C1 C2 L3 (.slice none 0 0) (.slice none 0 0) 3 ((aC lx.1 []).pos (L:Int) k);have HZ2:=HZ.out W lW
    generalize yz w r=Q at *
    clear HZ hOk hTb hTw HR2 hPt hbad
    generalize (aC lx.1 []).pos (L:Int) k=ps at *
    go_wp2_with fail
    refine leaves_cons (f:=8) (args:=#[.pointer (some ⟨w.heap.size,0,none⟩),.pointer (some ⟨w.heap.size+1,0,none⟩),.pointer (some ⟨w.heap.size+1+1,0,none⟩)]) (by simp) (by simp[go_sem]) ?_;refine (Nw w.heap.size ps w3 _ _ _ _ C0 C1 C2).mono ?_;rintro e u' w'' ⟨rfl,rfl,rfl⟩;rw[<-hW.out];exact⟨.tuple #[.agg #[.slice none 0 0,.slice none 0 0],.int .i64 3,.int .i64 ps],by simp[results,Tryz.results5,go_sem,e0,e1,e2,e3],HZ2⟩
   | ok x =>
    refine hPt.mono ?_;rintro e w3 ⟨o3,hwell,-⟩;obtain⟨rfl,j,sv,fv,F,G,bx3,hF,hG,fp⟩:=hwell x qa;have C0:=(B0.later l2).only o3 nb0;have C1:=(B1.later l2).only o3 nb1;have C2:=(B2.later l2).only o3 nb2;have L3:Later w w3:=aB L2 o3 (by have:=L1.size;omega);obtain⟨_,e5,rS⟩:=RdL.iff.1 (ai.rd _ hF)
    cases e5
    obtain⟨_,e6,rF⟩:=RdL.iff.1 (ai.rd _ hG)
    cases e6
    obtain⟨sa',sc',rfl,_⟩:=Sc.slice rS;obtain⟨fa',fc',rfl,_⟩:=Fu.slice rF;have hS:=hOk x _ _ w3 qa L3 rS rF;obtain⟨k3,_⟩:=bx3.cell 3 _ rfl;obtain⟨k4,_⟩:=bx3.cell 4 _ rfl;have kl:=bx3.lt;obtain⟨sn,hsn⟩:=hidx x.structs.length;obtain⟨fn,hfn⟩:=hidx x.funcs.length;rw[<-hsn.out]at hS k3 hF;rw[<-hfn.out]at hS k4 hG
    have HT:Hid (∀ w',Later w3 w'->ok x=true->∀ W,(∀ k,k≠w.heap.size->k≠w.heap.size+1->k≠w.heap.size+1+1->W.heap[k]?=w'.heap[k]?)->W.heap.size=w'.heap.size->Later w W->yz w r (.returned (.tuple #[.agg #[.slice sa' sn sc',.slice fa' fn fc'],.int .i64 0,.int .i64 0])) W):=fun w' l hx W hW sW lW=>by
     rw[HR2.out,qa];show yz w (if ok x then (x,0,0) else (so0,1,0)) _ W;rw[if_pos hx]
     have hne:∀ b∈F++G,wa.heap.size<=b:=fun b q=>by
      rcases fp.whr b q with c|⟨m,_,_,c⟩
      ·omega
      ·exact hTw m b c
     have hag:∀ (F':List Nat),(∀ b∈F',b∈F++G)->∀ b∈F',W.heap[b]?=w'.heap[b]?:=fun F' hF' b q=>by
      have:=hne b (hF' b q);exact hW b (by omega) (by omega) (by omega)
     have h1:=ai.agree (by omega) _ (fE hF l) (hag F fun b q=>List.mem_append_left _ q);have h2:=ai.agree (by omega) _ (fE hG l) (hag G fun b q=>List.mem_append_right _ q);refine⟨_,_,_,_,_,_,F++G,rfl,Own.mk' (Uw h1 h2) ⟨fp.one,fun b q=>⟨by have:=hne b q;have:=la.size;omega,?_⟩⟩,lW⟩;rcases List.mem_append.1 q with q|q
     ·exact ai.lt _ h1 b q
     ·exact ai.lt _ h2 b q
    have HN:Hid (∀ w',Later w w'->ok x=false->yz w r (.returned (.tuple #[.agg #[.slice none 0 0,.slice none 0 0],.int .i64 1,.int .i64 0])) w'):=fun w' l hx=>by
     rw[HR2.out,qa];show yz w (if ok x then (x,0,0) else (so0,1,0)) _ w';rw[if_neg (by rw[hx];decide)];exact⟨none,0,0,none,0,0,[],rfl,zq _ _,l⟩
    generalize yz w r=Q at *
    clear hOk hTb hTw HR2 hPt hwell hF hG fp rS rF;go_wp2_with fail
    refine hS.mono ?_;rintro e w4 ⟨rfl,l4⟩;have D0:=C0.later l4;have D1:=C1.later l4;have D2:=C2.later l4;have L4:=L3.trans l4;obtain⟨k3,_⟩:=(bx3.later l4).cell 3 _ rfl;obtain⟨k4,_⟩:=(bx3.later l4).cell 4 _ rfl;have kl:=(bx3.later l4).lt;obtain⟨c0,f0⟩:=D0.cell 0 _ rfl;obtain⟨c1,f1⟩:=D0.cell 1 _ rfl;obtain⟨c2,f2⟩:=D1.cell 0 _ rfl;obtain⟨c3,f3⟩:=D2.cell 0 _ rfl;rw[<-hsn.out]at k3;rw[<-hfn.out]at k4
    cases hok:ok x with
    | true =>
     obtain⟨W,hW,⟨e0,e1,e2,e3⟩,lW,hk,sW⟩:=zo D0 D1 D2 L4 (.slice sa' sn sc') (.slice fa' fn fc') 0 0;have HZ2:=HT.out w4 l4 hok W hk sW lW;clear HT HN hS;go_wp2_with fail
     rw[<-hW.out];refine leaves_cons (f:=8) (args:=#[.pointer (some ⟨w.heap.size,0,none⟩),.pointer (some ⟨w.heap.size+1,0,none⟩),.pointer (some ⟨w.heap.size+1+1,0,none⟩)]) (by simp) (by simp[go_sem]) ?_;refine (catch_idle w.heap.size W).mono ?_;rintro e u' w'' ⟨rfl,rfl,rfl⟩;exact⟨.tuple #[.agg #[.slice sa' sn sc',.slice fa' fn fc'],.int .i64 0,.int .i64 0],by simp[results,Tryz.results5,go_sem,e0,e1,e2,e3],HZ2⟩
    | false =>
     obtain⟨W,hW,⟨e0,e1,e2,e3⟩,lW,hk,sW⟩:=zo D0 D1 D2 L4 (.slice none 0 0) (.slice none 0 0) 1 0;have HZ2:=HN.out W lW hok;clear HT HN hS;go_wp2_with fail
     rw[<-hW.out];refine leaves_cons (f:=8) (args:=#[.pointer (some ⟨w.heap.size,0,none⟩),.pointer (some ⟨w.heap.size+1,0,none⟩),.pointer (some ⟨w.heap.size+1+1,0,none⟩)]) (by simp) (by simp[go_sem]) ?_;refine (catch_idle w.heap.size W).mono ?_;rintro e u' w'' ⟨rfl,rfl,rfl⟩;exact⟨.tuple #[.agg #[.slice none 0 0,.slice none 0 0],.int .i64 1,.int .i64 0],by simp[results,Tryz.results5,go_sem,e0,e1,e2,e3],HZ2⟩
def txF (ps:List (KL.Tok × Value)) (j:Nat):Value:=match ps[j]? with
 | some p=>p.2
 | none=>.slice none 0 0
def tbF (ps:List (KL.Tok × Value)) (j:Nat):List Nat:=match ps[j]? with
 | some p=>if 0<p.1.2.2.2.length then p.2.ownBlock.toList else []
 | none=>[]
theorem y9 {ps:List (KL.Tok × Value)}{k b:Nat}(h:b∈tbF ps k):∃ hk:k<ps.length,0<ps[k].1.2.2.2.length/\ps[k].2.ownBlock=some b:=by
 unfold tbF at h;split at h
 next p e =>
  obtain⟨hk,e2⟩:=List.getElem?_eq_some_iff.1 e;split at h
  next q =>
   refine⟨hk,by rw[e2];exact q,?_⟩;rw[e2];simpa using h
  next=>cases h
 next=>cases h
theorem UW {w w':World}{tv:Value}{ps:List (KL.Tok × Value)}{i:Int}(h:KL.oh w.heap.size w' tv ps) (h6:ps.length<=6000) (l:Later w w'):LxP (ps.map (·.1),i) w (.returned (.tuple #[tv,.int .i64 i])) w':=by
 refine⟨l,tv,txF ps,tbF ps,rfl,?_,fun K w2 hK o=>?_,?_,fun k b q=>?_⟩
 ·obtain⟨a,cap,e⟩:=aP h.row;exact⟨a,_,cap,e⟩
 ·have hk:∀ b,b<w'.heap.size->w2.heap[b]?=w'.heap[b]?:=fun b hb=>o.block b hb (by omega);have hlen:(aC (ps.map (·.1)) []).l.length=ps.length:=List.length_map ..;have hget:∀ j (hj:j<(aC (ps.map (·.1)) []).l.length) (hj2:j<ps.length),(aC (ps.map (·.1)) []).l[j]=ps[j].1:=fun j hj hj2=>List.getElem_map ..;have htx:∀ j (hj:j<ps.length),txF ps j=ps[j].2:=fun j hj=>by unfold txF;rw[List.getElem?_eq_getElem hj]
  refine⟨?_,by rw[hlen];exact h6,fun j hj=>?_⟩
  ·rcases h.row.2 with ⟨e1,e2⟩|⟨g,cap,cur,e1,h1,h2,h3,h4,h5,h6'⟩
   ·exact⟨none,0,by rw[e1];show _=Value.slice none (aC (ps.map (·.1)) []).l.length 0;rw[hlen,e2],fun j hj=>by have hj':j<(aC (ps.map (·.1)) []).l.length:=hj;rw[hlen]at hj';omega⟩
   ·have hg:=(h.row.lt g (by rw[e1];rfl)).2;have hrow:=h.row;rw[e1]at hrow;refine⟨some ⟨g,0,none⟩,cap,by rw[e1];show _=Value.slice (some ⟨g,0,none⟩) (aC (ps.map (·.1)) []).l.length cap;rw[hlen],fun j hj0=>⟨g,0,rfl,Nat.lt_of_lt_of_le hg o.size,?_⟩⟩;have hj:j<ps.length:=by have hj':j<(aC (ps.map (·.1)) []).l.length:=hj0;rw[hlen]at hj';exact hj'
    obtain⟨c0,c1,c2,c3⟩:=KL.yg ps j hj;rw[<-hrow.cellAt (j*4) (by omega)]at c0;rw[<-hrow.cellAt (j*4+1) (by omega)]at c1;rw[<-hrow.cellAt (j*4+2) (by omega)]at c2;rw[<-hrow.cellAt (j*4+3) (by omega)]at c3;have hg0:(aC (ps.map (·.1),i).1 []).l[j]=ps[j].1:=hget j hj0 hj;rw[hg0,htx j hj,Nat.zero_add];exact⟨by rw[pg (hk g hg)];exact c0,by rw[pg (hk g hg)];exact c1,by rw[pg (hk g hg)];exact c2,by rw[pg (hk g hg)];exact c3⟩
  ·have hj2:j<ps.length:=by rw[hlen]at hj;exact hj
   rw[hget j hj hj2,htx j hj2];have htb:tbF ps j=if 0<ps[j].1.2.2.2.length then ps[j].2.ownBlock.toList else []:=by unfold tbF;rw[List.getElem?_eq_getElem hj2]
   rw[htb];obtain⟨ht,hb,hl⟩:=h.text ps[j] (List.getElem_mem _);have hlt:=h.lts.2 ps[j] (List.getElem_mem _);rw[ai];rcases ht with ⟨e1,e2⟩|⟨g,cap,e2,hbg,hcap,hc⟩
   ·rw[e1,e2];exact⟨none,0,rfl,⟨Nat.zero_le _,Nat.le_refl _,by unfold maxLen;omega⟩,(by rw[e1]at hb;exact hb),fun q=>absurd q (Nat.lt_irrefl _),fun _=>rfl⟩
   ·refine⟨some ⟨g,0,none⟩,cap,by rw[e2],⟨by omega,hcap⟩,hb,fun q=>?_,fun q=>?_⟩
    ·have hg:g<w'.heap.size:=hlt q g (by rw[e2];rfl);refine⟨g,rfl,by rw[if_pos q,e2];rfl,Nat.lt_of_lt_of_le hg o.size,fun m hm=>?_⟩;obtain⟨d1,d2⟩:=hc m hm;exact⟨by rw[pg (hk g hg)];exact d1,by rw[World.frozen?_of_block (w:=w') (w':=w2) (a:=⟨g,m,none⟩) (hk g hg)];exact d2⟩
    ·rw[if_neg (by omega)]
 ·refine⟨fun k b q=>?_,fun k=>?_,fun k k' b q q'=>?_⟩
  ·obtain⟨hk,p1,p2⟩:=y9 q;exact h.lts.2 _ (List.getElem_mem hk) p1 b p2
  ·unfold tbF;split
   ·split
    ·next p e q=>cases p.2.ownBlock <;> simp
    ·exact List.nodup_nil
   ·exact List.nodup_nil
  ·obtain⟨hk,p1,p2⟩:=y9 q;obtain⟨hk',p1',p2'⟩:=y9 q';have hp:=List.pairwise_iff_getElem.1 h.apart;rcases Nat.lt_trichotomy k k' with z|z|z
   ·exact absurd p2' (hp k k' hk hk' z p1 p1' b p2)
   ·exact z
   ·exact absurd p2 (hp k' k hk' hk z p1' p1 b p2')
 ·obtain⟨hk,p1,p2⟩:=y9 q;obtain⟨ht,_,_⟩:=h.text ps[k] (List.getElem_mem hk);rcases ht with ⟨e1,e2⟩|⟨g,cap,e2,hbg,hcap,hc⟩
  ·rw[e1]at p1;exact absurd p1 (Nat.lt_irrefl _)
  ·rw[e2]at p2;have e3:g=b:=by injection p2
   omega
theorem ilexP (a:Option Addr) (cap:Nat) (zs:List Int) (w:World) (hr:RdB w (.slice a zs.length cap) zs) (hl:zs.length<=1048576) (hcap:zs.length<=cap) (hmx:cap<=maxLen) (hE:vN w):Calls Tryz.prog 7 #[.slice a zs.length cap] w (LxP (KL.xY zs) w) :=
 MX a cap zs w hr hl hcap hmx hE _ fun tv i ps w' e ho h6 hw=>by rw[e];exact UW ho h6 hw
theorem KX {zs:List Int}{i j:Nat}{l:List KL.Tok}(h:KL.lS zs i=some (l,j)):l.length<=1:=by
 unfold KL.lS at h;split at h
 next=>cases h;exact Nat.zero_le _
 next =>
  split at h
  next =>
   cases e:KL.uY (KL.kF zs i (KL.jY zs (i+1))) i with
   | none=>rw[e]at h;cases h
   | some t=>rw[e]at h;cases h;exact Nat.le_refl _
  next =>
   split at h
   next=>cases h;exact Nat.le_refl _
   next=>cases h
theorem FI (zs:List Int):∀ (f i:Nat) (acc:List KL.Tok),(KL.qy zs f i acc).1.length<=acc.length+f
 | 0,i,acc=>by rw[KL.qy];exact Nat.le_refl _
 | f+1,i,acc=>by
  rw[KL.qy];split
  ·cases e:KL.lS zs i with
   | none=>exact Nat.zero_le _
   | some y =>
    obtain⟨t,j⟩:=y;have h1:=KX e;have h2:=FI zs f j (acc++t);rw[List.length_append]at h2;show (KL.qy zs f j (acc++t)).1.length<=_;omega
  ·show acc.length<=_;omega
theorem O7 (zs:List Int):(KL.xY zs).1.length<=6000:=by
 unfold KL.xY;split
 next=>exact Nat.zero_le _
 next q =>
  have h:=FI zs zs.length 0 [];have:¬ 6000<zs.length:=by simpa using q
  simp at h;omega
theorem CQ (zs:List Int):4*(KL.xY zs).1.length+7<=1000000000:=by have:=O7 zs;omega
theorem IP (a:Option Addr) (cap:Nat) (zs:List Int) (w:World) (hr:RdB w (.slice a zs.length cap) zs) (hl:zs.length<=1048576) (hcap:zs.length<=cap) (hmx:cap<=maxLen) (hE:Env w) (hL:vN w) (hO:OpE w):Calls Tryz.prog 5 #[.slice a zs.length cap] w (yz w (kU (KL.xY zs) So.ok zs.length)) :=
 IJ a zs.length cap w (KL.xY zs) So.ok hO (fun w' l=>ilexP a cap zs w' (hr.later l) hl hcap hmx (hL.later l)) fun x v0 v1 w' h l h0 h1=>J6 x v0 v1 w' (hE.later l) (Cm (JY zs).2 (CQ zs) h) h0 h1
end Go.Proofs.YtgaddpkkjebekaaGreatDoor
