import Derived.Test.YtgaddpkkjebekaaGreatDoorZ23
import Derived.Test.YtgaddpkkjebekaaGreatDoorZ24
set_option maxHeartbeats 100000000
set_option maxRecDepth 100000
namespace Go.Proofs.YtgaddpkkjebekaaGreatDoor
open Go.RowKit Go.Maps
def Fu.bare (x:Fu):Fu:=.mk x.name x.params x.rk x.rn (St.aU x.body)
def Fu.cps:Int->List Fu->Option Int
  | p,[]=>some p
  | p,x::r=>match St.cps 1 p x.body with|none=>none|some q=>Fu.cps q r
def Fu.head (s:Int) (x:Fu):Bool:=aQ x.name&&gV 4 s x.params
def So.wo (x:So):Bool:=eu x.structs&&decide (x.funcs.length<=8)&&x.funcs.all (Fu.head x.structs.length)&&(Fu.cps 0 x.funcs).isSome
def So.bare (x:So):So:=.mk x.structs (x.funcs.map Fu.bare)
def WoP (x:So) (w:World) (e:Ending) (w':World):Prop:=Later w w' /\
  ((So.wo x=true/\∃ a0 c0 a1 c1 F,e=.returned (.tuple #[.agg #[.slice a0 x.structs.length c0,.slice a1 x.funcs.length c1],.bool true])/\Own w.heap.size w' (So.bare x).dat [.slice a0 x.structs.length c0,.slice a1 x.funcs.length c1] F) \/
   (So.wo x=false/\e=.returned (.tuple #[.agg #[.slice none 0 0,.slice none 0 0],.bool false])))
theorem So.EJ (x:So):x.sz=Sc.szs x.structs+Fu.szs x.funcs:=by obtain⟨s,f⟩:=x;rfl
theorem Sc.kC (x:Sc):x.name.length<=x.sz/\Pa.szs x.fields<=x.sz:=by obtain⟨n,f⟩:=x;exact⟨Nat.le_add_right _ _,Nat.le_add_left _ _⟩
theorem Fu.Ju (x:Fu):x.name.length<=x.sz/\Pa.szs x.params<=x.sz/\St.szs x.body<=x.sz:=by obtain⟨n,p,k,m,b⟩:=x;simp only[Fu.sz,Fu.name,Fu.params,Fu.body];omega
theorem Pa.kC (x:Pa):x.name.length<=x.sz:=by obtain⟨n,k,m⟩:=x;exact Nat.le_refl _
theorem Pa.xX {l:List Pa}(h:Pa.szs l<=1048576):∀ p∈l,p.name.length<=1048576:=by
  intro p hp;obtain⟨j,hj,rfl⟩:=List.mem_iff_getElem.1 hp;have:=Pa.dW l j hj;have:=Pa.kC l[j];omega
def Jw (l:List Pa) (w:World) (v:Value) (w':World):Prop:=∃ a c F,v=.slice a l.length c/\Own w.heap.size w' (.list 3 (Pa.ah l)) [.slice a l.length c] F/\Later w w'
theorem Dx (v:Value) (l:List Pa) (w:World) (h:RdL w 3 v (Pa.ah l)) (hlen:l.length<=1000000) (hN:∀ p∈l,p.name.length<=1048576):Calls Tryz.prog 53 #[v] w fun e w'=>∃ u,e=.returned u/\Jw l w u w':=by
  refine (GK v l w h hlen hN).mono ?_;rintro e w' ⟨a,c,F,rfl,hO,hl⟩;exact⟨_,rfl,a,c,F,rfl,hO,hl⟩
theorem Eo:Enters Tryz.prog 53:=enters_of Tryz.func53 (by kernel_rfl) (by kernel_rfl)
theorem Sc.Bj {l:List Sc}{j:Nat}(hs:eu l=true) (h:j<l.length) (hz:Sc.szs l<=1048576):l[j].fields.length<=1000000/\∀ p∈l[j].fields,p.name.length<=1048576:=by
  have h1:=Sc.dW l j h;have h2:=Sc.kC l[j];refine⟨?_,Pa.xX (by omega)⟩;have h3:=((jL l).1 hs).2 j h;unfold yU gV at h3;simp only[Bool.and_eq_true,decide_eq_true_eq]at h3;omega
theorem Bxx.newL (w:World) (cs:List Value) (t:TypeId):Bxx (w.alloc (.cells cs.toArray t)) w.heap.size cs:=Bxx.new w cs.toArray t
theorem Ap {w w':World}{cs:List Value}{t:TypeId}(h:Later (w.alloc (.cells cs.toArray t)) w'):Bxx w' w.heap.size cs:=(Bxx.newL w cs t).later h
theorem uG {w w':World}{cs:List Value}{t:TypeId}(h:Later (w.alloc (.cells cs.toArray t)).drew w'):Bxx w' w.heap.size cs:=Ap ((Later.drew _).trans h)
theorem put5 {w w0:World}{B:Nat}{z0 z1 z2 z3 z4:Value}(h:Bxx w B [z0,z1,z2,z3,z4]) (x0 x1 x2 x3 x4:Value) (hl:Later w0 w) (hB:w0.heap.size<=B) :
    Bxx (((((w.setCell ⟨B,0,none⟩ x0).setCell ⟨B,1,none⟩ x1).setCell ⟨B,2,none⟩ x2).setCell ⟨B,3,none⟩ x3).setCell ⟨B,4,none⟩ x4) B [x0,x1,x2,x3,x4]/\(∀ b,b≠B->(((((w.setCell ⟨B,0,none⟩ x0).setCell ⟨B,1,none⟩ x1).setCell ⟨B,2,none⟩ x2).setCell ⟨B,3,none⟩ x3).setCell ⟨B,4,none⟩ x4).heap[b]?=w.heap[b]?)/\(((((w.setCell ⟨B,0,none⟩ x0).setCell ⟨B,1,none⟩ x1).setCell ⟨B,2,none⟩ x2).setCell ⟨B,3,none⟩ x3).setCell ⟨B,4,none⟩ x4).heap.size=w.heap.size/\Later w0 (((((w.setCell ⟨B,0,none⟩ x0).setCell ⟨B,1,none⟩ x1).setCell ⟨B,2,none⟩ x2).setCell ⟨B,3,none⟩ x3).setCell ⟨B,4,none⟩ x4) :=
  ⟨((((h.set 0 x0 (Nat.lt_of_sub_eq_succ rfl)).set 1 x1 (Nat.lt_of_sub_eq_succ rfl)).set 2 x2 (Nat.lt_of_sub_eq_succ rfl)).set 3 x3 (Nat.lt_of_sub_eq_succ rfl)).set 4 x4 (Nat.lt_of_sub_eq_succ rfl),fun b hb=>by rw[hset hb,hset hb,hset hb,hset hb,hset hb],by simp only[World.size_setCell],Later.setAt (Later.setAt (Later.setAt (Later.setAt (Later.setAt hl hB 0 _) hB 1 _) hB 2 _) hB 3 _) hB 4 _⟩
theorem KA (w:World):(Instr.build 28 #[]).run Tryz.prog w=.ok (.agg #[.slice none 0 0,.slice none 0 0]) w:=run_build w 28 _ _ (by kernel_rfl)
theorem SC (x:So) (v0 v1:Value) (w:World) (hsz:x.sz<=1048576) (h0:RdL w 2 v0 (Sc.ah x.structs)) (h1:RdL w 5 v1 (Fu.ah x.funcs)) :
    Calls Tryz.prog 23 #[.agg #[v0,v1]] w (WoP x w):=by
  have hSt:=fun w' (l:Later w w')=>wX v0 x.structs w' (RdL.later l h0);obtain⟨sa,sc,rfl,hsl⟩:=Sc.slice h0;obtain⟨fa,fc,rfl,hfl⟩:=Fu.slice h1;have hbs:=KA
  have HF:Hid (∀ w',Later w w'->So.wo x=false->WoP x w (.returned (.tuple #[.agg #[.slice none 0 0,.slice none 0 0],.bool false])) w'):=fun w' l h=>⟨l,.inr ⟨h,rfl⟩⟩
  have HT:Hid (∀ w' a0 c0 a1 c1 F,Later w w'->So.wo x=true->Own w.heap.size w' (So.bare x).dat [.slice a0 x.structs.length c0,.slice a1 x.funcs.length c1] F->WoP x w (.returned (.tuple #[.agg #[.slice a0 x.structs.length c0,.slice a1 x.funcs.length c1],.bool true])) w'):=fun w' a0 c0 a1 c1 F l h o=>⟨l,.inl ⟨h,a0,c0,a1,c1,F,rfl,o⟩⟩
  have HFE:Hid (∀ w',Later w w'->Bxx w' (w.heap.size+1) [.slice none 0 0,.slice none 0 0]->So.wo x=false->WoP x w (.returned (.tuple #[.agg #[.slice none 0 0,.slice none 0 0],.bool false])) ((w'.setCell ⟨w.heap.size+1,0,none⟩ (.slice none 0 0)).setCell ⟨w.heap.size+1,1,none⟩ (.slice none 0 0))):=fun w' l _ h=>HF.out _ (Later.setAt (Later.setAt l (by omega) 0 _) (by omega) 1 _) h
  generalize hQ:WoP x w=Q at *
  clear hQ;obtain⟨w2,hw2⟩:=hidx ((w.alloc (.cells #[.slice sa x.structs.length sc,.slice fa x.funcs.length fc] 28)).alloc (.cells #[.slice none 0 0,.slice none 0 0] 28));have L2:Later w w2:=by rw[hw2.out];exact bF _ _ _
  have hb1:Bxx w2 w.heap.size [.slice sa x.structs.length sc,.slice fa x.funcs.length fc]:=by rw[hw2.out];exact (Bxx.new _ _ _).alloc _
  have hb2:Bxx w2 (w.heap.size+1) [.slice none 0 0,.slice none 0 0]:=by rw[hw2.out];have:=Bxx.new (w.alloc (.cells #[.slice sa x.structs.length sc,.slice fa x.funcs.length fc] 28)) #[.slice none 0 0,.slice none 0 0] 28;simpa using this
  go_enter Tryz.func23,Tryz.ntmps23;go_wp2_with fail
  rw[<-hw2.out];refine (hSt _ L2).mono ?_;rintro e w3 ⟨rfl,l3⟩;have L3:=L2.trans l3;have hc1:=hb1.later l3;have hc2:=hb2.later l3
  cases hsb:eu x.structs with
  | false =>
    have HA:=HFE.out w3 L3 hc2 (by unfold So.wo;rw[hsb];rfl);have x0:=(hc2.cell 0 _ rfl).1;have x1:=(hc2.cell 1 _ rfl).1;have f0:=(hc2.cell 0 _ rfl).2;have f1:=(hc2.cell 1 _ rfl).2;clear hSt HF HFE;go_wp2_with fail
    exact bodyPost_ret (v:=.tuple #[.agg #[.slice none 0 0,.slice none 0 0],.bool false]) (by simp[results,Tryz.results23,go_sem,World.cell?_setCell_same',x0,x1]) rfl HA
  | true =>
  have y1:=(hc1.cell 1 _ rfl).1;by_cases h8:(8:Int)<(x.funcs.length:Int)
  · have HA:=HFE.out w3 L3 hc2 (by unfold So.wo;rw[decide_eq_false (show ¬ x.funcs.length<=8 by omega)];simp)
    have x0:=(hc2.cell 0 _ rfl).1;have x1:=(hc2.cell 1 _ rfl).1;have f0:=(hc2.cell 0 _ rfl).2;have f1:=(hc2.cell 1 _ rfl).2;clear hSt HF HFE;go_wp2_with fail
    exact bodyPost_ret (v:=.tuple #[.agg #[.slice none 0 0,.slice none 0 0],.bool false]) (by simp[results,Tryz.results23,go_sem,World.cell?_setCell_same',x0,x1]) rfl HA
  have h8':decide ((8:Int)<(x.funcs.length:Int))=false:=decide_eq_false h8;have y0:=(hc1.cell 0 _ rfl).1;obtain⟨w4,hw4⟩:=hidx (w3.alloc (.cells #[.slice none 0 0,.slice none 0 0] 28));have hb4:Bxx w4 w3.heap.size [.slice none 0 0,.slice none 0 0]:=by rw[hw4.out];exact Bxx.new _ _ _
  have l4:Later w3 w4:=by rw[hw4.out];exact ae _ _
  have L4:=L3.trans l4;have s34:w.heap.size+1<w3.heap.size:=hc2.lt;have s33:w.heap.size<w3.heap.size:=hc1.lt;obtain⟨i0,hi,hz0,hz1,hz2⟩:=info_parts Tryz.PE;have hns:x.structs.length<=1048576:=by have:=Sc.jD x.structs;have:=So.EJ x;omega
  clear hSt;go_wp2_with fail
  rw[<-hw4.out];go_loopw [25] (fun i wr=>∃ (j:Nat) (xs:List Value) (F:List Nat) (rv:Value),i=.int .i64 (j:Int)/\j<=x.structs.length/\af w3.heap.size w4 wr/\Bxx wr w3.heap.size [rv,.slice none 0 0]/\Bd w4.heap.size wr 82 2 rv (Sc.ah (x.structs.take j)) xs F) (fun i _=>x.structs.length - (intOf i).toNat)
  case atStart=>exact⟨0,[],[],_,rfl,Nat.zero_le _,af.refl _ _,hb4,Bd.nil _ _ _ _⟩
  case round =>
    obtain⟨j,xs,F,rv,rfl,hj,oR,hbR,hB⟩:=hrel;have lR:Later w wr:=aB L4 oR (by omega);by_cases hlt:j<x.structs.length
    · obtain⟨g,off,u0,u1,rfl,hgs,c0,c1,r0,r1⟩:=Sc.elem (RdL.later lR h0) j hlt
      have i1:(j:Int)<(x.structs.length:Int):=by omega
      have hlx:(Sc.ah (x.structs.take j)).length=j:=by rw[Sc.az,List.length_take];omega
      have hrow:=hB.row;rw[hlx]at hrow;obtain⟨ra,rc,hra⟩:=aP hrow;have hbz:w4.heap.size<=wr.heap.size:=oR.size;have h34:w3.heap.size<w4.heap.size:=hb4.lt;obtain⟨wb,hwb⟩:=hidx (wr.alloc (.cells #[u0,u1] 82));have hbx:Bxx wb wr.heap.size [u0,u1]:=by rw[hwb.out];exact Bxx.new _ _ _
      have lb:Later wr wb:=by rw[hwb.out];exact ae _ _
      have hnm:x.structs[j].name.length<=1048576:=by have:=Sc.dW x.structs j hlt;have:=(Sc.kC x.structs[j]).1;have:=So.EJ x;omega
      have hfl:x.structs[j].fields.length<=1000000/\∀ p∈x.structs[j].fields,p.name.length<=1048576:=Sc.Bj hsb hlt (by have:=So.EJ x;omega);have HC:Hid (∀ w',Later wb w'->Calls Tryz.prog 52 #[u0] w' fun e w''=>∃ u,e=.returned u/\Ew x.structs[j].name w' u w''):=fun w' ll=>Es u0 x.structs[j].name w' (r0.later (lb.trans ll)) hnm;have HP:Hid (∀ w',Later wb w'->Calls Tryz.prog 53 #[u1] w' fun e w''=>∃ u,e=.returned u/\Jw x.structs[j].fields w' u w''):=fun w' ll=>Dx u1 x.structs[j].fields w' (RdL.later (lb.trans ll) r1) hfl.1 hfl.2;have HR:Hid (∀ w',Later wb w'->w'.ownsRow w4.heap.size 82 2 rv j xs):=fun w' ll=>cu hrow ((lb.trans ll).kept _)
      have HS:Hid (∀ w',Later wb w'->w'.cell? ⟨w3.heap.size,0,none⟩=some rv/\w'.frozen? ⟨w3.heap.size,0,none⟩=false/\w'.cell? ⟨wr.heap.size,0,none⟩=some u0/\w'.cell? ⟨wr.heap.size,1,none⟩=some u1):=fun w' ll=>⟨((hbR.later (lb.trans ll)).cell 0 _ rfl).1,((hbR.later (lb.trans ll)).cell 0 _ rfl).2,((hbx.later ll).cell 0 _ rfl).1,((hbx.later ll).cell 1 _ rfl).1⟩
      have HPU:Hid (∀ w5 w6 w' v' a3 p3 G3 a5 p5 G5,Later wb w5->ai w5 (.bytes x.structs[j].name) [.slice a3 x.structs[j].name.length p3] G3->ai w5 (.list 3 (Pa.ah x.structs[j].fields)) [.slice a5 x.structs[j].fields.length p5] G5->Fr wb.heap.size w5.heap.size (G3++G5)->Later w5 w6->w'.ownsRow w4.heap.size 82 2 v' (j+1) (xs++[.slice a3 x.structs[j].name.length p3,.slice a5 x.structs[j].fields.length p5])->w6.grownBy w' rv.ownBlock->(v'.ownBlock=rv.ownBlock\/v'.ownBlock=some w6.heap.size)->(w'.cell? ⟨w3.heap.size,0,none⟩=some rv/\w'.frozen? ⟨w3.heap.size,0,none⟩=false/\w'.cell? ⟨wr.heap.size,0,none⟩=some u0/\w'.cell? ⟨wr.heap.size,1,none⟩=some u1)/\af w3.heap.size w4 (w'.setCell ⟨w3.heap.size,0,none⟩ v')/\Bxx (w'.setCell ⟨w3.heap.size,0,none⟩ v') w3.heap.size [v',.slice none 0 0]/\∃ xs' F',Bd w4.heap.size (w'.setCell ⟨w3.heap.size,0,none⟩ v') 82 2 v' (Sc.ah (x.structs.take (j+1))) xs' F'):=fun w5 w6 w' v' a3 p3 G3 a5 p5 G5 l5 o3 o5 fr l6 ho hg hloc=>by
        have l56:=(lb.trans l5).trans l6;have hne:∀ b,rv.ownBlock=some b->w4.heap.size<=b/\b<wr.heap.size:=hrow.lt;have hR6:Bxx w' w3.heap.size [rv,.slice none 0 0]:=(hbR.later l56).kept hg.size (hg.block _ (hbR.later l56).lt (fun e=>by have:=(hne _ e.symm).1;omega));have hX6:Bxx w' wr.heap.size [u0,u1]:=(hbx.later (l5.trans l6)).kept hg.size (hg.block _ (hbx.later (l5.trans l6)).lt (fun e=>by have:=(hne _ e.symm).2;omega))
        have o6:af w3.heap.size w4 w':=by
          have:=oR.trans (af.of_later (K:=w3.heap.size) l56);exact⟨hg.os.trans this.os,hg.tape.trans this.tape,hg.output.trans this.output,Nat.le_trans this.size hg.size,fun b hb hn=>by rw[hg.block b (Nat.lt_of_lt_of_le hb this.size) (fun e=>by have:=(hne b e.symm).1;omega)];exact this.block b hb hn⟩
        have hB6:=hB.push (cs:=[.slice a3 x.structs[j].name.length p3,.slice a5 x.structs[j].fields.length p5]) rfl (Own.mk' (Sc.own o3 o5) (by simpa using fr.mono (Nat.le_of_lt hbx.lt) (Nat.le_refl _))) ((lb.trans l5).kept _) (l6.kept _) hbz (by rw[hlx];exact ho) hg hloc;refine⟨⟨(hR6.cell 0 _ rfl).1,(hR6.cell 0 _ rfl).2,(hX6.cell 0 _ rfl).1,(hX6.cell 1 _ rfl).1⟩,o6.set 0 _,hR6.set 0 _ (Nat.lt_of_sub_eq_succ rfl),xs++[.slice a3 x.structs[j].name.length p3,.slice a5 x.structs[j].fields.length p5],F++(G3++G5),?_⟩;rw[Sc.dC,qU hlt,<- Sc.dC];exact hB6.kept (Kept.setAt (Kept.refl _ _) (by omega) 0 _)
      have hs4:w4.heap.size<wb.heap.size:=Nat.lt_of_le_of_lt hbz hbx.lt;have hzb:wr.heap.size<wb.heap.size:=hbx.lt;obtain⟨q0,d0,rfl,_⟩:=r0.slice;obtain⟨q1,d1,rfl,_⟩:=Pa.slice r1;clear hB r0 r1 hlx hrow hbx hbR h0 h1 HF HFE;subst hra;go_wp2_with fail
      rw[<-hwb.out];obtain⟨k0,k1,k2,k3⟩:=HS.out _ (Later.drew _);have zb:w3.heap.size<wb.drew.heap.size:=by show w3.heap.size<wb.heap.size;omega
      have zc:wr.heap.size<wb.drew.heap.size:=hzb
      go_region_law (first
        | ((fail_if_success (have _g:=l5));refine eG rfl 52 rQ _ _ rfl [.slice q0 x.structs[j].name.length d0] rfl (fun v w'=>Ew x.structs[j].name _ v w') (HC.out _ (Later.drew _)) ?_;intro u5 w5 hc5;obtain⟨a3,p3,G3,rfl,hO3,l5⟩:=hc5;obtain⟨m0,m1,m2,m3⟩:=HS.out _ ((Later.drew _).trans l5);have z5:=Nat.lt_of_lt_of_le zb l5.size;have y5:=Nat.lt_of_lt_of_le zc l5.size)
        | ((fail_if_success (have _g:=l5));refine eG rfl 53 Eo _ _ rfl [.slice q1 x.structs[j].fields.length d1] rfl (fun v w'=>Jw x.structs[j].fields _ v w') (HP.out _ (Later.drew _)) ?_;intro u5 w5 hc5;obtain⟨a5,p5,G5,rfl,hO5,l5⟩:=hc5;obtain⟨m0,m1,m2,m3⟩:=HS.out _ ((Later.drew _).trans l5);have z5:=Nat.lt_of_lt_of_le zb l5.size;have y5:=Nat.lt_of_lt_of_le zc l5.size)
        | (have _g:=l5;refine eG rfl 52 rQ _ _ rfl [.slice q0 x.structs[j].name.length d0] rfl (fun v w'=>Ew x.structs[j].name _ v w') (HC.out _ ((Later.drew _).trans l5)) ?_;intro u7 w7 hc7;obtain⟨a3,p3,G3,rfl,hO3,l7⟩:=hc7;have hN:=hO3.own;have hF:=(hO5.later l7).own;have hfr:=Fr.comm (Fr.app hO5.fr hO3.fr l5.size l7.size);obtain⟨n0,n1,n2,n3⟩:=HS.out _ ((Later.drew _).trans (l5.trans l7));have z7:=Nat.lt_of_lt_of_le z5 l7.size;have y7:=Nat.lt_of_lt_of_le y5 l7.size)
        | (have _g:=l5;refine eG rfl 53 Eo _ _ rfl [.slice q1 x.structs[j].fields.length d1] rfl (fun v w'=>Jw x.structs[j].fields _ v w') (HP.out _ ((Later.drew _).trans l5)) ?_;intro u7 w7 hc7;obtain⟨a5,p5,G5,rfl,hO5,l7⟩:=hc7;have hN:=(hO3.later l7).own;have hF:=hO5.own;have hfr:=Fr.app hO3.fr hO5.fr l5.size l7.size;obtain⟨n0,n1,n2,n3⟩:=HS.out _ ((Later.drew _).trans (l5.trans l7));have z7:=Nat.lt_of_lt_of_le z5 l7.size;have y7:=Nat.lt_of_lt_of_le y5 l7.size)
        | (refine gQ rfl _ _ 25 rfl w4.heap.size 82 i0 (.agg #[.slice none 0 0,.slice none 0 0]) 2 48 Tryz.underlying25 hi hz0 hz1 hz2 rfl (by decide) _ _ _ rfl ((HR.out _ ((Later.drew _).trans (l5.trans l7))).alloc _) _ 1 1 [.slice a3 x.structs[j].name.length p3,.slice a5 x.structs[j].fields.length p5] rfl rfl (fA _ _ _ rfl) (by simp[Value.oneCell']) (by unfold maxLen;omega) (by omega) (Nat.le_trans (Nat.le_of_lt hs4) ((Later.drew _).trans (l5.trans (l7.trans (ae _ _)))).size) ?_;intro v9 w9 o9 g9 h9;obtain⟨hS9,O9,X9,xs',F',hB9⟩:=HPU.out _ _ _ _ _ _ _ _ _ _ ((Later.drew _).trans (l5.trans l7)) hN hF hfr (ae _ _) o9 g9 h9;obtain⟨a9,p9,hv9⟩:=aP o9;rw[hv9]at O9 X9 hB9 ⊢;obtain⟨t0,t1,t2,t3⟩:=hS9)
        | fail "none")
      all_goals
        go_wp2_with fail
        go_roundw
        case rel=>exact⟨j+1,_,_,_,by go_num,by omega,O9,X9,hB9⟩
        case measure=>simp[intOf];omega
    · have i1:¬ (j:Int)<(x.structs.length:Int):=by omega
      have i2:decide ((j:Int)<(x.structs.length:Int))=false:=decide_eq_false i1;have hjj:j=x.structs.length:=by omega
      obtain⟨aS,cS,FS,hrS,hOS⟩:∃ a c F,rv=.slice a x.structs.length c/\Own w4.heap.size wr (.list 2 (Sc.ah x.structs)) [.slice a x.structs.length c] F:=by
        rw[hjj,List.take_length]at hB;obtain⟨G,hG⟩:=hB.done (by rw[Sc.az];exact hns);obtain⟨a,c,e⟩:=aP hB.row;rw[Sc.az]at e;exact⟨a,c,G,e,by rw[<-e];exact hG⟩
      have h34:w3.heap.size<w4.heap.size:=hb4.lt;have hzr:w4.heap.size<=wr.heap.size:=oR.size
      generalize wr=wE at *
      obtain⟨wK,hwK⟩:=hidx (wE.alloc (.cells #[.int .i64 0,.int .i64 0,.bool false] 98));have hSK:CpS wE.heap.size wK 0 false:=by rw[hwK.out];exact Bxx.new _ _ _
      have lK:Later wE wK:=by rw[hwK.out];exact ae _ _
      have LK:=lR.trans lK;have hKs:wK.heap.size=wE.heap.size+1:=by rw[hwK.out];simp
      have HKs:Hid _:=hKs;have hbK:=hbR.later lK;have hc1K:Bxx wK w.heap.size [.slice sa x.structs.length sc,.slice fa x.funcs.length fc]:=((hc1.later l4).only oR (by omega)).later lK;have hc2K:Bxx wK (w.heap.size+1) [.slice none 0 0,.slice none 0 0]:=((hc2.later l4).only oR (by omega)).later lK;have hc1E:Bxx wE w.heap.size [.slice sa x.structs.length sc,.slice fa x.funcs.length fc]:=(hc1.later l4).only oR (by omega);have e1:=(hc1E.cell 1 _ rfl).1;have e2:w.heap.size<wE.heap.size:=hc1E.lt;have h1K:=RdL.later LK h1;have h1':=h1;have hnf:x.funcs.length<=8:=by omega
      have HEND:Hid (∀ wz aF cF GF,ay [wE.heap.size,w3.heap.size] wK wz->Own wK.heap.size wz (.list 5 (Fu.ah (x.funcs.map Fu.bare))) [.slice aF x.funcs.length cF] GF->So.wo x=true->Q (.returned (.tuple #[.agg #[.slice aS x.structs.length cS,.slice aF x.funcs.length cF],.bool true])) ((wz.setCell ⟨w.heap.size+1,0,none⟩ (.slice aS x.structs.length cS)).setCell ⟨w.heap.size+1,1,none⟩ (.slice aF x.funcs.length cF))):=fun wz aF cF GF oz hOF hwo=>by
        refine HT.out _ aS cS aF cF (FS++GF) (Later.setAt (Later.setAt ⟨oz.os.trans LK.os,oz.tape.trans LK.tape,oz.output.trans LK.output,Nat.le_trans LK.size oz.size,fun b hb=>by rw[oz.block b (Nat.lt_of_lt_of_le hb LK.size) (by simp;omega)];exact LK.block b hb⟩ (by omega) 0 _) (by omega) 1 _) hwo ?_;have hS2:ai wz (.list 2 (Sc.ah x.structs)) [.slice aS x.structs.length cS] FS:=ai.only (ai.agree lK.size _ hOS.own (fun b hb=>lK.block b (hOS.fresh b hb).2)) oz (fun b hb=>by have:=hOS.fresh b hb;simp;omega);have hagr:∀ b,w4.heap.size<=b->(((wz.setCell ⟨w.heap.size+1,0,none⟩ (.slice aS x.structs.length cS)).setCell ⟨w.heap.size+1,1,none⟩ (.slice aF x.funcs.length cF))).heap[b]?=wz.heap[b]?:=fun b hb=>by rw[hset (by omega),hset (by omega)]
        refine Own.mk' ?_ ?_
        · unfold So.bare
          refine So.own (x:=So.mk x.structs (x.funcs.map Fu.bare)) (ai.agree (by rw[World.size_setCell,World.size_setCell];exact Nat.le_refl _) _ hS2 (fun b hb=>hagr b (hOS.fresh b hb).1)) (ai.agree (by rw[World.size_setCell,World.size_setCell];exact Nat.le_refl _) _ hOF.own (fun b hb=>hagr b (by have:=(hOF.fresh b hb).1;omega)))
        · rw[World.size_setCell,World.size_setCell]
          exact ((hOS.fr.mono (Nat.le_refl _) lK.size).app hOF.fr (by omega) oz.size).mono (by omega) (Nat.le_refl _)
      obtain⟨j0,hj0,hz00,hz01,hz02⟩:=info_parts Tryz.PG;clear h0 h1 hB HF hjj hOS hKs hi hz0 hz1 hz2 hbR hc1 hc2 hb1 hb2;subst hrS;go_wp2_with fail
      rw[<-hwK.out];go_loopw [45] (fun i wr=>∃ (j:Nat) (xs:List Value) (rv:Value) (q:Int) (tq:Bool),i=.int .i64 (j:Int)/\j<=x.funcs.length/\ay [wE.heap.size,w3.heap.size] wK wr/\CpS wE.heap.size wr q tq/\Bxx wr w3.heap.size [.slice aS x.structs.length cS,rv]/\wr.ownsRow wK.heap.size 55 5 rv j xs/\Hid (∀ i (hi:i<x.funcs.length),i<j->Fu.head x.structs.length x.funcs[i]=true)/\Hid (tq=false->0<=q/\q<=400/\Fu.cps 0 x.funcs=Fu.cps q (x.funcs.drop j)/\∃ F,Bd wK.heap.size wr 55 5 rv (Fu.ah ((x.funcs.take j).map Fu.bare)) xs F)/\Hid (tq=true->Fu.cps 0 x.funcs=none)) (fun i _=>x.funcs.length - (intOf i).toNat)
      case atStart=>exact⟨0,[],_,0,false,rfl,Nat.zero_le _,ay.refl _ _,hSK,hbK,World.ownsRow_nil _ _ _ _,fun i _ hi=>absurd hi (Nat.not_lt_zero _),fun _=>⟨by decide,by decide,rfl,[],by rw[List.take_zero];exact Bd.nil _ _ _ _⟩,fun h=>by cases h⟩
      case round =>
        obtain⟨j,xs,rv,q,tq,rfl,hj,oR2,hSr,hb4r,hrow,HH,HG,HTt⟩:=hrel
        have LR:Later w wr:=⟨oR2.os.trans LK.os,oR2.tape.trans LK.tape,oR2.output.trans LK.output,Nat.le_trans LK.size oR2.size,fun b hb=>by rw[oR2.block b (Nat.lt_of_lt_of_le hb LK.size) (by simp;omega)];exact LK.block b hb⟩
        have hc2r:Bxx wr (w.heap.size+1) [.slice none 0 0,.slice none 0 0]:=hc2K.kept oR2.size (oR2.block _ hc2K.lt (by simp;omega));have hc1r:Bxx wr w.heap.size [.slice sa x.structs.length sc,.slice fa x.funcs.length fc]:=hc1K.kept oR2.size (oR2.block _ hc1K.lt (by simp;omega));by_cases hlt2:j<x.funcs.length
        · obtain⟨g,off,u0,u1,u2,hfa,hgs,c0,c1,c2,c3,c4,r0,r1,r2⟩:=Fu.elem h1K j hlt2
          have j1:(j:Int)<(x.funcs.length:Int):=by omega
          have hLK:Later w wK:=LK;have hgw:g<w.heap.size\/w.heap.size<=g:=by omega
          have hcellr:∀ o,wr.cell? ⟨g,o,none⟩=wK.cell? ⟨g,o,none⟩:=fun o=>World.cell?_of_block (oR2.block g hgs (by
            obtain⟨g',off',_,_,_,hfa',hgs',_⟩:=Fu.elem h1' j hlt2;rw[hfa]at hfa'
            cases hfa'
            simp
            omega))
          have c0:wr.cell? ⟨g,off+j*5,none⟩=some u0:=by rw[hcellr];exact c0
          have c1:wr.cell? ⟨g,off+j*5+1,none⟩=some u1:=by rw[hcellr];exact c1
          have c2:wr.cell? ⟨g,off+j*5+2,none⟩=some (.int .i64 x.funcs[j].rk):=by rw[hcellr];exact c2
          have c3:wr.cell? ⟨g,off+j*5+3,none⟩=some (.int .i64 x.funcs[j].rn):=by rw[hcellr];exact c3
          have c4:wr.cell? ⟨g,off+j*5+4,none⟩=some u2:=by rw[hcellr];exact c4
          obtain⟨_,_,t0,t1,t2,hfa',_,d0,d1,_,_,d4,s0,s1,s2⟩:=Fu.elem h1' j hlt2;rw[hfa]at hfa'
          cases hfa'
          have hgw':g<w.heap.size:=by
            obtain⟨_,_,_,_,_,q,q',_⟩:=Fu.elem h1' j hlt2;rw[hfa]at q
            cases q
            exact q'
          obtain rfl:t0=u0:=by have:=Below.cell LR (p:=⟨g,off+j*5,none⟩) hgw';rw[c0,d0]at this;exact (Option.some.inj this).symm
          obtain rfl:t1=u1:=by have:=Below.cell LR (p:=⟨g,off+j*5+1,none⟩) hgw';rw[c1,d1]at this;exact (Option.some.inj this).symm
          obtain rfl:t2=u2:=by have:=Below.cell LR (p:=⟨g,off+j*5+4,none⟩) hgw';rw[c4,d4]at this;exact (Option.some.inj this).symm
          clear r0 r1 r2 d0 d1 d4 hcellr hgw;obtain⟨ra,rc,hra⟩:=aP hrow;have hbz:wK.heap.size<=wr.heap.size:=oR2.size;obtain⟨wb,hwb⟩:=hidx (wr.alloc (.cells #[t0,t1,.int .i64 x.funcs[j].rk,.int .i64 x.funcs[j].rn,t2] 55));have hbx:Bxx wb wr.heap.size [t0,t1,.int .i64 x.funcs[j].rk,.int .i64 x.funcs[j].rn,t2]:=by rw[hwb.out];exact Bxx.new _ _ _
          have lb:Later wr wb:=by rw[hwb.out];exact ae _ _
          have hfz:x.funcs[j].name.length<=1048576/\Pa.szs x.funcs[j].params<=1048576/\St.szs x.funcs[j].body<=1048576:=by have:=Fu.dW x.funcs j hlt2;have:=Fu.Ju x.funcs[j];have:=So.EJ x;omega
          have hN:=fun w' (ll:Later wb w')=>nU t0 x.funcs[j].name w' (s0.later ((LR.trans lb).trans ll));have hPa:=fun w' (ll:Later wb w')=>rJ t1 x.funcs[j].params 4 x.structs.length w' (RdL.later ((LR.trans lb).trans ll) s1);have hpl:gV 4 x.structs.length x.funcs[j].params=true->x.funcs[j].params.length<=1000000:=fun h=>by unfold gV at h;simp only[Bool.and_eq_true,decide_eq_true_eq]at h;omega
          have HC:Hid (∀ w',Later wb w'->Calls Tryz.prog 52 #[t0] w' fun e w''=>∃ u,e=.returned u/\Ew x.funcs[j].name w' u w''):=fun w' ll=>Es t0 x.funcs[j].name w' (s0.later ((LR.trans lb).trans ll)) hfz.1;have HP:Hid (x.funcs[j].params.length<=1000000->∀ w',Later wb w'->Calls Tryz.prog 53 #[t1] w' fun e w''=>∃ u,e=.returned u/\Jw x.funcs[j].params w' u w''):=fun hp w' ll=>Dx t1 x.funcs[j].params w' (RdL.later ((LR.trans lb).trans ll) s1) hp (Pa.xX hfz.2.1);have HB:Hid (∀ w',Later wb w'->∀ K':CpS wE.heap.size w' q tq,Calls Tryz.prog 56 #[.pointer (some ⟨wE.heap.size,0,none⟩),t2,.int .i64 1] w' (CpP wE.heap.size w' 8 (St.ah (St.aU x.funcs[j].body)) (if tq then none else St.cps 1 q x.funcs[j].body))):=fun w' ll hs=>PO _ t2 x.funcs[j].body wE.heap.size q tq 1 w w' (Nat.le_refl _) hfz.2.2 s2 ((LR.trans lb).trans ll) (by omega) hs (fun ht=>⟨(HG.out ht).1,(HG.out ht).2.1⟩) (by decide) (by decide);have hSb:CpS wE.heap.size wb q tq:=Bxx.later hSr lb;have HW:Hid (Fu.head x.structs.length x.funcs[j]=false->So.wo x=false):=fun h=>by unfold So.wo;rw[Vz (f:=Fu.head x.structs.length) hlt2 h];simp
          have HHn:Hid (Fu.head x.structs.length x.funcs[j]=true->∀ i (hi:i<x.funcs.length),i<j+1->Fu.head x.structs.length x.funcs[i]=true):=fun hf i hi hij=>by
            rcases Nat.lt_or_ge i j with a|a
            · exact HH.out i hi a
            · have:i=j:=by omega
              subst this;exact hf
          have HHd:Hid (Fu.head x.structs.length x.funcs[j]=(aQ x.funcs[j].name&&gV 4 x.structs.length x.funcs[j].params)):=rfl;have hKE:wE.heap.size<wK.heap.size:=hSK.lt
          have HPU:∀ X Bh A8 w9 v9 a3 p3 G3 a5 p5 G5 a8 n8 c8 q8 t8 wz,Later wb X->wb.heap.size<=Bh->Bh<X.heap.size->ai X (.bytes x.funcs[j].name) [.slice a3 x.funcs[j].name.length p3] G3->ai X (.list 3 (Pa.ah x.funcs[j].params)) [.slice a5 x.funcs[j].params.length p5] G5->Fr wb.heap.size X.heap.size (G3++G5)->Bh∉G3++G5 ->
              (∀ b,b<X.heap.size->b≠wE.heap.size->b≠Bh->A8.heap[b]?=X.heap[b]?)->X.heap.size<=A8.heap.size->A8.os=X.os->A8.tape=X.tape->A8.output=X.output->CpS wE.heap.size A8 q8 t8->((if tq then none else St.cps 1 q x.funcs[j].body)=if t8 then none else some q8)->(t8=false->0<=q8/\q8<=400/\n8=(St.ah (St.aU x.funcs[j].body)).length/\∃ F,ai A8 (.list 8 (St.ah (St.aU x.funcs[j].body))) [.slice a8 n8 c8] F/\Fr X.heap.size A8.heap.size F)->Later A8 wz ->
              w9.ownsRow wK.heap.size 55 5 v9 (j+1) (xs++[.slice a3 x.funcs[j].name.length p3,.slice a5 x.funcs[j].params.length p5,.int .i64 x.funcs[j].rk,.int .i64 x.funcs[j].rn,.slice a8 n8 c8])->wz.grownBy w9 rv.ownBlock->(v9.ownBlock=rv.ownBlock\/v9.ownBlock=some wz.heap.size) ->
              (w9.frozen? ⟨w3.heap.size,1,none⟩=false/\∃ u,w9.cell? ⟨w3.heap.size,1,none⟩=some u)/\ay [wE.heap.size,w3.heap.size] wK (w9.setCell ⟨w3.heap.size,1,none⟩ v9)/\CpS wE.heap.size (w9.setCell ⟨w3.heap.size,1,none⟩ v9) q8 t8/\Bxx (w9.setCell ⟨w3.heap.size,1,none⟩ v9) w3.heap.size [.slice aS x.structs.length cS,v9]/\(w9.setCell ⟨w3.heap.size,1,none⟩ v9).ownsRow wK.heap.size 55 5 v9 (j+1) (xs++[.slice a3 x.funcs[j].name.length p3,.slice a5 x.funcs[j].params.length p5,.int .i64 x.funcs[j].rk,.int .i64 x.funcs[j].rn,.slice a8 n8 c8]) /\
              (t8=false->0<=q8/\q8<=400/\Fu.cps 0 x.funcs=Fu.cps q8 (x.funcs.drop (j+1))/\∃ F,Bd wK.heap.size (w9.setCell ⟨w3.heap.size,1,none⟩ v9) 55 5 v9 (Fu.ah ((x.funcs.take (j+1)).map Fu.bare)) (xs++[.slice a3 x.funcs[j].name.length p3,.slice a5 x.funcs[j].params.length p5,.int .i64 x.funcs[j].rk,.int .i64 x.funcs[j].rn,.slice a8 n8 c8]) F)/\(t8=true->Fu.cps 0 x.funcs=none):=by
            intro X Bh A8 w9 v9 a3 p3 G3 a5 p5 G5 a8 n8 c8 q8 t8 wz l5 hBl hBs o3 o5 fr hBn ag sz8 eos eta eou S8 eq8 in8 lz ho hg hloc;have hne:∀ b,rv.ownBlock=some b->wK.heap.size<=b/\b<wr.heap.size:=hrow.lt;have s5:wr.heap.size<X.heap.size:=Nat.lt_of_lt_of_le hbx.lt l5.size;have hbxl:=hbx.lt;have bl:∀ b,b<wr.heap.size->b≠wE.heap.size->wz.heap[b]?=wr.heap[b]?:=fun b hb hn=>by rw[lz.block b (by omega),ag b (by omega) hn (by omega),l5.block b (Nat.lt_of_lt_of_le hb lb.size),lb.block b hb]
            have szz:wr.heap.size<=wz.heap.size:=by have:=lz.size;omega
            have bl9:∀ b,b<wr.heap.size->b≠wE.heap.size->rv.ownBlock≠some b->w9.heap[b]?=wr.heap[b]?:=fun b hb hn hr=>by rw[hg.block b (by omega) (fun e=>hr e.symm)];exact bl b hb hn
            have hB49:Bxx w9 w3.heap.size [.slice aS x.structs.length cS,rv]:=hb4r.kept (by have:=hg.size;omega) (bl9 _ hb4r.lt (by omega) (fun e=>by have:=(hne _ e).1;omega));have hS9:CpS wE.heap.size w9 q8 t8:=Bxx.kept (Bxx.later S8 lz) hg.size (hg.block _ (Bxx.later S8 lz).lt (fun e=>by have:=(hne _ e.symm).1;omega))
            have o9:ay [wE.heap.size,w3.heap.size] wK w9:=⟨((hg.os.trans lz.os).trans (eos.trans (l5.os.trans lb.os))).trans oR2.os,((hg.tape.trans lz.tape).trans (eta.trans (l5.tape.trans lb.tape))).trans oR2.tape,((hg.output.trans lz.output).trans (eou.trans (l5.output.trans lb.output))).trans oR2.output,by have:=hg.size;omega,fun b hb hn=>by
              rw[bl9 b (by omega) (fun e=>hn (by simp[e])) (fun e=>by have:=(hne _ e).1;omega)];exact oR2.block b hb hn⟩
            have k9:Kept wK.heap.size w9 (w9.setCell ⟨w3.heap.size,1,none⟩ v9):=Kept.setAt (Kept.refl _ _) (by omega) 1 _;refine⟨⟨(hB49.cell 1 _ rfl).2,_,(hB49.cell 1 _ rfl).1⟩,o9.set _ (by simp),Bxx.other hS9 (by omega) _,hB49.set 1 _ (Nat.lt_of_sub_eq_succ rfl),cu ho k9,fun ht=>?_,fun ht=>?_⟩
            · obtain⟨z1,z2,z3,F8,z4,z5⟩:=in8 ht
              rw[ht]at eq8;have htq:tq=false:=by cases tq with|false=>rfl|true=>simp at eq8
              rw[htq]at eq8;have eq8':St.cps 1 q x.funcs[j].body=some q8:=by simpa using eq8
              obtain⟨_,_,g3,F0,hBd⟩:=HG.out htq;refine⟨z1,z2,by rw[g3,List.drop_eq_getElem_cons hlt2,Fu.cps,eq8'],?_⟩;have hd3:ai A8 (.bytes x.funcs[j].name) [.slice a3 x.funcs[j].name.length p3] G3:=ai.agree sz8 _ o3 (fun b hb=>ag b (fr.2 b (List.mem_append_left _ hb)).2 (by have:=(fr.2 b (List.mem_append_left _ hb)).1;omega) (fun e=>hBn (by rw[<-e];exact List.mem_append_left _ hb)));have hd5:ai A8 (.list 3 (Pa.ah x.funcs[j].params)) [.slice a5 x.funcs[j].params.length p5] G5:=ai.agree sz8 _ o5 (fun b hb=>ag b (fr.2 b (List.mem_append_right _ hb)).2 (by have:=(fr.2 b (List.mem_append_right _ hb)).1;omega) (fun e=>hBn (by rw[<-e];exact List.mem_append_right _ hb)));have hel:ai A8 x.funcs[j].bare.dat [.slice a3 x.funcs[j].name.length p3,.slice a5 x.funcs[j].params.length p5,.int .i64 x.funcs[j].rk,.int .i64 x.funcs[j].rn,.slice a8 n8 c8] (G3++(G5++F8)):=by unfold Fu.bare;exact Fu.own (x:=Fu.mk _ _ _ _ _) hd3 hd5 z4
              have hfr:Fr wr.heap.size A8.heap.size (G3++(G5++F8)):=by rw[<-List.append_assoc];exact (fr.mono (Nat.le_of_lt hbx.lt) (Nat.le_refl _)).app z5 (by omega) sz8
              have kA8:Kept wK.heap.size wr A8:=⟨by omega,fun b hb hbl=>by rw[ag b (by omega) (by omega) (by omega),l5.block b (Nat.lt_of_lt_of_le hbl lb.size),lb.block b hbl]⟩
              refine⟨F0++(G3++(G5++F8)),?_⟩;rw[Fu.dC,List.map_map,qU hlt2,<- List.map_map,<- Fu.dC];exact (hBd.push (cs:=[.slice a3 x.funcs[j].name.length p3,.slice a5 x.funcs[j].params.length p5,.int .i64 x.funcs[j].rk,.int .i64 x.funcs[j].rn,.slice a8 n8 c8]) rfl (Own.mk' hel hfr) kA8 (lz.kept _) hbz (by rw[Fu.az,List.length_map,List.length_take,Nat.min_eq_left (by omega)];exact ho) hg hloc).kept k9
            · rw[ht]at eq8
              cases htq:tq with
              | true=>exact HTt.out htq
              | false =>
                rw[htq]at eq8;have eq8':St.cps 1 q x.funcs[j].body=none:=by simpa using eq8
                obtain⟨_,_,g3,_⟩:=HG.out htq;rw[g3,List.drop_eq_getElem_cons hlt2,Fu.cps,eq8']
          have HZ:Hid (∀ X Bh a3 p3 G3 a5 p5 G5,Later wb X->Bxx X Bh [.slice a3 x.funcs[j].name.length p3,.slice a5 x.funcs[j].params.length p5,.int .i64 x.funcs[j].rk,.int .i64 x.funcs[j].rn,.slice none 0 0]->wb.heap.size<=Bh->ai X (.bytes x.funcs[j].name) [.slice a3 x.funcs[j].name.length p3] G3->ai X (.list 3 (Pa.ah x.funcs[j].params)) [.slice a5 x.funcs[j].params.length p5] G5->Fr wb.heap.size X.heap.size (G3++G5)->Bh∉G3++G5 ->
              Calls Tryz.prog 56 #[.pointer (some ⟨wE.heap.size,0,none⟩),t2,.int .i64 1] X fun e w8=>∃ a8 n8 c8 q8 t8,e=.returned (.slice a8 n8 c8)/\Bxx w8 Bh [.slice a3 x.funcs[j].name.length p3,.slice a5 x.funcs[j].params.length p5,.int .i64 x.funcs[j].rk,.int .i64 x.funcs[j].rn,.slice none 0 0]/\Bxx w8 w3.heap.size [.slice aS x.structs.length cS,rv]/\(w8.setCell ⟨Bh,4,none⟩ (.slice a8 n8 c8)).ownsRow wK.heap.size 55 5 rv j xs/\w3.heap.size≠Bh/\w3.heap.size<w8.heap.size/\wK.heap.size<=w8.heap.size/\Hid (∀ w9 v9 wz,Later (w8.setCell ⟨Bh,4,none⟩ (.slice a8 n8 c8)) wz->w9.ownsRow wK.heap.size 55 5 v9 (j+1) (xs++[.slice a3 x.funcs[j].name.length p3,.slice a5 x.funcs[j].params.length p5,.int .i64 x.funcs[j].rk,.int .i64 x.funcs[j].rn,.slice a8 n8 c8])->wz.grownBy w9 rv.ownBlock->(v9.ownBlock=rv.ownBlock\/v9.ownBlock=some wz.heap.size)->(w9.frozen? ⟨w3.heap.size,1,none⟩=false/\∃ u,w9.cell? ⟨w3.heap.size,1,none⟩=some u)/\ay [wE.heap.size,w3.heap.size] wK (w9.setCell ⟨w3.heap.size,1,none⟩ v9)/\CpS wE.heap.size (w9.setCell ⟨w3.heap.size,1,none⟩ v9) q8 t8/\Bxx (w9.setCell ⟨w3.heap.size,1,none⟩ v9) w3.heap.size [.slice aS x.structs.length cS,v9]/\(w9.setCell ⟨w3.heap.size,1,none⟩ v9).ownsRow wK.heap.size 55 5 v9 (j+1) (xs++[.slice a3 x.funcs[j].name.length p3,.slice a5 x.funcs[j].params.length p5,.int .i64 x.funcs[j].rk,.int .i64 x.funcs[j].rn,.slice a8 n8 c8]) /\
              (t8=false->0<=q8/\q8<=400/\Fu.cps 0 x.funcs=Fu.cps q8 (x.funcs.drop (j+1))/\∃ F,Bd wK.heap.size (w9.setCell ⟨w3.heap.size,1,none⟩ v9) 55 5 v9 (Fu.ah ((x.funcs.take (j+1)).map Fu.bare)) (xs++[.slice a3 x.funcs[j].name.length p3,.slice a5 x.funcs[j].params.length p5,.int .i64 x.funcs[j].rk,.int .i64 x.funcs[j].rn,.slice a8 n8 c8]) F)/\(t8=true->Fu.cps 0 x.funcs=none))):=by
            intro X Bh a3 p3 G3 a5 p5 G5 lX hBx hBl o3 o5 fr hBn;have hbxl:=hbx.lt;have lbX:=lb.size;have hzX:=lX.size;refine (HB.out X lX (Bxx.later hSb lX)).mono ?_;rintro e w8 ⟨o8,a8,n8,c8,q8,t8,rfl,S8,eq8,in8⟩;have hB48:Bxx w8 w3.heap.size [.slice aS x.structs.length cS,rv]:=(hb4r.later (lb.trans lX)).only o8 (by omega);have sz8:=o8.size;refine⟨a8,n8,c8,q8,t8,rfl,hBx.only o8 (by omega),hB48,?_,by omega,hB48.lt,by omega,fun w9 v9 wz lz ho hg hloc=>?_⟩
            · refine cu hrow ⟨by rw[World.size_setCell];omega,fun b hb hbl=>?_⟩
              rw[hset (by omega),o8.block b (by omega) (by omega),lX.block b (by omega),lb.block b hbl]
            · refine HPU X Bh (w8.setCell ⟨Bh,4,none⟩ (.slice a8 n8 c8)) w9 v9 a3 p3 G3 a5 p5 G5 a8 n8 c8 q8 t8 wz lX hBl hBx.lt o3 o5 fr hBn (fun b hb h1 h2=>by rw[hset h2];exact o8.block b hb h1) (by rw[World.size_setCell];exact sz8) o8.os o8.tape o8.output (Bxx.other S8 (by omega) _) eq8 (fun ht=>?_) lz ho hg hloc
              obtain⟨z1,z2,z3,F8,z4⟩:=in8 ht;have hlx:=hBx.lt;exact⟨z1,z2,z3,F8,ai.agree (by rw[World.size_setCell];exact Nat.le_refl _) _ z4.own (fun b hb=>hset (by have:=(z4.fresh b hb).1;omega)),by rw[World.size_setCell];exact z4.fr⟩
          clear HPU;obtain⟨q0,m0,rfl,_⟩:=s0.slice;obtain⟨q1,m1,rfl,_⟩:=Pa.slice s1;obtain⟨q2,m2,rfl,_⟩:=St.slice s2;have x0:=(hc2r.cell 0 _ rfl).1;have x1:=(hc2r.cell 1 _ rfl).1;have hc2b:=hc2r.later lb;have hc1b:=hc1r.later lb;have b4b:=hb4r.later lb;have y0:=(hc1b.cell 0 _ rfl).1;have xb0:=(hc2b.cell 0 _ rfl).1;have xb1:=(hc2b.cell 1 _ rfl).1;have fb0:=(hc2b.cell 0 _ rfl).2;have fb1:=(hc2b.cell 1 _ rfl).2;have HA1:=HFE.out wb (LR.trans lb) hc2b;have HA1':Hid _:=HA1;have p0:=(hbx.cell 0 _ rfl).1;have p1:=(hbx.cell 1 _ rfl).1;have zwb:w.heap.size<wb.heap.size:=hc1b.lt;have hN1:=hN wb (Later.refl _);have hP1:=hPa wb (Later.refl _);clear HG HTt HH HEND HT h1' h1K s0 s1 s2 hN hPa HA1 x0 x1;rw[hfa];subst hra;go_wp2_with fail
          rw[<-hwb.out];refine hN1.mono ?_;rintro e w1 ⟨rfl,hww⟩;obtain rfl:=hww.symm
          cases hnb:aQ x.funcs[j].name with
          | false =>
            have HA:=HA1'.out (HW.out (by rw[HHd.out,hnb];rfl));clear HZ HC HP HB HW HHn HHd HA1' HFE hN1 hP1 hpl;go_wp2_with fail
            exact bodyPost_ret (v:=.tuple #[.agg #[.slice none 0 0,.slice none 0 0],.bool false]) (by simp[results,Tryz.results23,go_sem,World.cell?_setCell_same',xb0,xb1]) rfl HA
          | true =>
          clear hN1;go_wp2_with fail
          refine hP1.mono ?_;rintro e w2b ⟨rfl,l2b⟩
          cases hpb:gV 4 x.structs.length x.funcs[j].params with
          | false =>
            have hc2c:=hc2b.later l2b;have xc0:=(hc2c.cell 0 _ rfl).1;have xc1:=(hc2c.cell 1 _ rfl).1;have fc0:=(hc2c.cell 0 _ rfl).2;have fc1:=(hc2c.cell 1 _ rfl).2;have HA:=HFE.out w2b ((LR.trans lb).trans l2b) hc2c (HW.out (by rw[HHd.out,hnb,hpb];rfl));clear HZ HC HP HB HW HHn HHd HA1' HFE hP1 hpl;go_wp2_with fail
            exact bodyPost_ret (v:=.tuple #[.agg #[.slice none 0 0,.slice none 0 0],.bool false]) (by simp[results,Tryz.results23,go_sem,World.cell?_setCell_same',xc0,xc1]) rfl HA
          | true =>
          have HHn2:Hid _:=HHn.out (by rw[HHd.out,hnb,hpb];rfl);have HP2:Hid _:=HP.out (hpl hpb);clear HP hpl HHn HHd HW HA1' HFE hP1
          have HS:Hid (∀ w',Later w2b w'->w'.cell? ⟨wr.heap.size,0,none⟩=some (.slice q0 x.funcs[j].name.length m0)/\w'.cell? ⟨wr.heap.size,1,none⟩=some (.slice q1 x.funcs[j].params.length m1)/\w'.cell? ⟨wr.heap.size,2,none⟩=some (.int .i64 x.funcs[j].rk)/\w'.cell? ⟨wr.heap.size,3,none⟩=some (.int .i64 x.funcs[j].rn)):=fun w' ll=>⟨((hbx.later (l2b.trans ll)).cell 0 _ rfl).1,((hbx.later (l2b.trans ll)).cell 1 _ rfl).1,((hbx.later (l2b.trans ll)).cell 2 _ rfl).1,((hbx.later (l2b.trans ll)).cell 3 _ rfl).1⟩
          have HS4:Hid (∀ w',Later w2b w'->w'.cell? ⟨wr.heap.size,4,none⟩=some (.slice q2 x.funcs[j].body.length m2)):=fun w' ll=>((hbx.later (l2b.trans ll)).cell 4 _ rfl).1
          generalize hzk:x.funcs[j].rk=z_rk at *
          generalize hzn:x.funcs[j].rn=z_rn at *
          have Hzk:Hid _:=hzk;have Hzn:Hid _:=hzn;clear hzk hzn;have lwb:Later wb w2b:=l2b;have hL1:w2b.heap.size<=w2b.heap.size:=Nat.le_refl _;have hz2:wb.heap.size<=w2b.heap.size:=l2b.size;clear HB hSb hc2b hc1b b4b p0 p1 hbx LR hc1r hc2r hgs hgw' hfz y0 xb0 xb1 fb0 fb1 c0 c1 c2 c3 c4 hSr hb4r oR2 hlt lR hnb hpb;go_wp2_with fail
          go_region_held3 (fun w'=>w'.cell? ⟨wr.heap.size,0,none⟩=some (.slice q0 x.funcs[j].name.length m0)/\w'.cell? ⟨wr.heap.size,1,none⟩=some (.slice q1 x.funcs[j].params.length m1)/\w'.cell? ⟨wr.heap.size,2,none⟩=some (.int .i64 z_rk)/\w'.cell? ⟨wr.heap.size,3,none⟩=some (.int .i64 z_rn))
            (first
              | (have _g:=LL7;first|with_reducible exact HS.out _ LL7|with_reducible exact HS.out _ (LL7.trans (ae _ _))|with_reducible exact HS.out _ (Later.setAt (Later.setAt (Later.setAt (Later.setAt (Later.setAt LL7 hL1 0 _) hL1 1 _) hL1 2 _) hL1 3 _) hL1 4 _)|with_reducible exact HS.out _ (Later.setAt (Later.setAt (Later.setAt (Later.setAt (Later.setAt LL7 hL2 0 _) hL2 1 _) hL2 2 _) hL2 3 _) hL2 4 _))
              | (have _g:=LL5;first|with_reducible exact HS.out _ LL5|with_reducible exact HS.out _ (LL5.trans (ae _ _)))
              | with_reducible exact HS.out _ (Later.drew _)|with_reducible exact HS.out _ ((ae _ _).trans (Later.drew _))|with_reducible exact HS.out _ ((Later.drew _).trans (ae _ _)))
            (first
            | (have _g:=LL5;refine eG rfl 52 rQ _ _ rfl [.slice q0 x.funcs[j].name.length m0] rfl (fun v w'=>Ew x.funcs[j].name _ v w') (HC.out _ (by first|with_reducible exact lwb.trans LL5|with_reducible exact lwb.trans (LL5.trans (ae _ _)))) ?_;intro u7 w7 hc7;obtain⟨a3,p3,G3,rfl,hO3,l7⟩:=hc7;have hL2:w2b.heap.size<=w5.heap.size:=LL5.size;have LL7:Later w2b w7:=(by first|with_reducible exact LL5.trans l7|with_reducible exact (LL5.trans (ae _ _)).trans l7);first|(have l7':Later w5 w7:=(by with_reducible exact l7);have hh7:=Bxx.later hh5 l7';have hbn:=hh5.lt;have e0:=(hh7.cell 0 _ rfl).1;have g0:=(hh7.cell 0 _ rfl).2;have e1:=(hh7.cell 1 _ rfl).1;have g1:=(hh7.cell 1 _ rfl).2;have e2:=(hh7.cell 2 _ rfl).1;have g2:=(hh7.cell 2 _ rfl).2;have e3:=(hh7.cell 3 _ rfl).1;have g3:=(hh7.cell 3 _ rfl).2;have e4:=(hh7.cell 4 _ rfl).1;have g4:=(hh7.cell 4 _ rfl).2)|(have l7':Later (w5.alloc (.cells #[.slice none 0 0,.slice none 0 0,.int .i64 0,.int .i64 0,.slice none 0 0] 55)) w7:=(by with_reducible exact l7);have hh7:=Ap l7';have e0:=(hh7.cell 0 _ rfl).1;have g0:=(hh7.cell 0 _ rfl).2;have e1:=(hh7.cell 1 _ rfl).1;have g1:=(hh7.cell 1 _ rfl).2;have e2:=(hh7.cell 2 _ rfl).1;have g2:=(hh7.cell 2 _ rfl).2;have e3:=(hh7.cell 3 _ rfl).1;have g3:=(hh7.cell 3 _ rfl).2;have e4:=(hh7.cell 4 _ rfl).1;have g4:=(hh7.cell 4 _ rfl).2)|skip)
            | (have _g:=LL5;refine eG rfl 53 Eo _ _ rfl [.slice q1 x.funcs[j].params.length m1] rfl (fun v w'=>Jw x.funcs[j].params _ v w') (HP2.out _ (by first|with_reducible exact lwb.trans LL5|with_reducible exact lwb.trans (LL5.trans (ae _ _)))) ?_;intro u7 w7 hc7;obtain⟨a5,p5,G5,rfl,hO5,l7⟩:=hc7;have hL2:w2b.heap.size<=w5.heap.size:=LL5.size;have LL7:Later w2b w7:=(by first|with_reducible exact LL5.trans l7|with_reducible exact (LL5.trans (ae _ _)).trans l7);first|(have l7':Later w5 w7:=(by with_reducible exact l7);have hh7:=Bxx.later hh5 l7';have hbn:=hh5.lt;have e0:=(hh7.cell 0 _ rfl).1;have g0:=(hh7.cell 0 _ rfl).2;have e1:=(hh7.cell 1 _ rfl).1;have g1:=(hh7.cell 1 _ rfl).2;have e2:=(hh7.cell 2 _ rfl).1;have g2:=(hh7.cell 2 _ rfl).2;have e3:=(hh7.cell 3 _ rfl).1;have g3:=(hh7.cell 3 _ rfl).2;have e4:=(hh7.cell 4 _ rfl).1;have g4:=(hh7.cell 4 _ rfl).2)|(have l7':Later (w5.alloc (.cells #[.slice none 0 0,.slice none 0 0,.int .i64 0,.int .i64 0,.slice none 0 0] 55)) w7:=(by with_reducible exact l7);have hh7:=Ap l7';have e0:=(hh7.cell 0 _ rfl).1;have g0:=(hh7.cell 0 _ rfl).2;have e1:=(hh7.cell 1 _ rfl).1;have g1:=(hh7.cell 1 _ rfl).2;have e2:=(hh7.cell 2 _ rfl).1;have g2:=(hh7.cell 2 _ rfl).2;have e3:=(hh7.cell 3 _ rfl).1;have g3:=(hh7.cell 3 _ rfl).2;have e4:=(hh7.cell 4 _ rfl).1;have g4:=(hh7.cell 4 _ rfl).2)|skip)
            | ((fail_if_success (have _g:=LL5));refine eG rfl 53 Eo _ _ rfl [.slice q1 x.funcs[j].params.length m1] rfl (fun v w'=>Jw x.funcs[j].params _ v w') (HP2.out _ (by first|with_reducible exact lwb.trans (Later.drew _)|with_reducible exact lwb.trans ((ae _ _).trans (Later.drew _)))) ?_;intro u5 w5 hc5;obtain⟨a5,p5,G5,rfl,hO5,l5⟩:=hc5;have LL5:Later w2b w5:=(by first|with_reducible exact (Later.drew _).trans l5|with_reducible exact ((ae _ _).trans (Later.drew _)).trans l5);first|(have l5':Later (w2b.alloc (.cells #[.slice none 0 0,.slice none 0 0,.int .i64 0,.int .i64 0,.slice none 0 0] 55)).drew w5:=(by with_reducible exact l5);have hh5:=uG l5';clear l5')|skip)
            | ((fail_if_success (have _g:=LL5));refine eG rfl 52 rQ _ _ rfl [.slice q0 x.funcs[j].name.length m0] rfl (fun v w'=>Ew x.funcs[j].name _ v w') (HC.out _ (by first|with_reducible exact lwb.trans (Later.drew _)|with_reducible exact lwb.trans ((ae _ _).trans (Later.drew _)))) ?_;intro u5 w5 hc5;obtain⟨a3,p3,G3,rfl,hO3,l5⟩:=hc5;have LL5:Later w2b w5:=(by first|with_reducible exact (Later.drew _).trans l5|with_reducible exact ((ae _ _).trans (Later.drew _)).trans l5);first|(have l5':Later (w2b.alloc (.cells #[.slice none 0 0,.slice none 0 0,.int .i64 0,.int .i64 0,.slice none 0 0] 55)).drew w5:=(by with_reducible exact l5);have hh5:=uG l5';clear l5')|skip))
          all_goals
            have L57:Later w5 w7:=(by first|with_reducible exact l7|with_reducible exact (ae _ _).trans l7)
            have hA5:Fr wb.heap.size w5.heap.size G3:=hO3.fr.mono (by first|with_reducible exact hz2|exact Nat.le_trans hz2 (Later.drew _).size|exact Nat.le_trans hz2 ((ae _ _).trans (Later.drew _)).size) (Nat.le_refl _);have hA7:Fr w5.heap.size w7.heap.size G5:=hO5.fr.mono (by first|with_reducible exact Nat.le_refl _|exact (ae _ _).size) (Nat.le_refl _);have hfr:Fr wb.heap.size w7.heap.size (G3++G5):=hA5.app hA7 (Nat.le_trans hz2 LL5.size) L57.size;have hN7:=(hO3.later L57).own;have hP7:=hO5.own;have hzb5:wb.heap.size<=w5.heap.size:=Nat.le_trans hz2 LL5.size;have hzb7:wb.heap.size<=w7.heap.size:=Nat.le_trans hz2 LL7.size;clear HC HP2 HS
            first
              | (fail_if_success (have _g:=hh7)
                 have hnin:w7.heap.size∉G3++G5:=(fun h=>Nat.lt_irrefl _ (hfr.2 _ h).2)
                 have hX:=HZ.out (w7.alloc (.cells #[.slice a3 x.funcs[j].name.length p3,.slice a5 x.funcs[j].params.length p5,.int .i64 z_rk,.int .i64 z_rn,.slice none 0 0] 55)) w7.heap.size a3 p3 G3 a5 p5 G5 (lwb.trans (LL7.trans (ae _ _))) (Bxx.newL _ _ _) hzb7 (ai.agree (ae _ _).size _ hN7 (fun b hb=>(ae _ _).block b (hfr.2 b (List.mem_append_left _ hb)).2)) (ai.agree (ae _ _).size _ hP7 (fun b hb=>(ae _ _).block b (hfr.2 b (List.mem_append_right _ hb)).2)) (hfr.mono (Nat.le_refl _) (ae _ _).size) hnin;have x4:=HS4.out _ (LL7.trans (ae w7 (.cells #[.slice a3 x.funcs[j].name.length p3,.slice a5 x.funcs[j].params.length p5,.int .i64 z_rk,.int .i64 z_rn,.slice none 0 0] 55)));clear HZ hN7 hP7 hO3 hO5 hfr hA5 hA7 HS4
                 generalize w7.alloc (.cells #[.slice a3 x.funcs[j].name.length p3,.slice a5 x.funcs[j].params.length p5,.int .i64 z_rk,.int .i64 z_rn,.slice none 0 0] 55)=WZ at *
                 generalize w7.heap.size=BB at *)
              | (fail_if_success (have _g:=hh5)
                 have hnin:w5.heap.size∉G3++G5:=(fun h=>by
                   rcases List.mem_append.1 h with q|q
                   · exact Nat.lt_irrefl _ (hA5.2 _ q).2
                   · have:=(hO5.fresh _ q).1;simp at this;omega)
                 obtain⟨hXb,hXo,hXs,hXl⟩:=put5 hh7 (.slice a3 x.funcs[j].name.length p3) (.slice a5 x.funcs[j].params.length p5) (.int .i64 z_rk) (.int .i64 z_rn) (.slice none 0 0) LL7 hL2;have hX:=HZ.out _ w5.heap.size a3 p3 G3 a5 p5 G5 (lwb.trans hXl) hXb hzb5 (ai.agree (Nat.le_of_eq hXs.symm) _ hN7 (fun b hb=>hXo b (fun e=>hnin (by rw[<-e];exact List.mem_append_left _ hb)))) (ai.agree (Nat.le_of_eq hXs.symm) _ hP7 (fun b hb=>hXo b (fun e=>hnin (by rw[<-e];exact List.mem_append_right _ hb)))) (by rw[hXs];exact hfr) hnin;have x4:=HS4.out _ hXl;clear HZ hN7 hP7 hO3 hO5 hfr hA5 hA7 hXb hXo hXs hXl e0 e1 e2 e3 e4 g0 g1 g2 g3 g4 hh7 HS4
                 generalize (((((w7.setCell ⟨w5.heap.size,0,none⟩ (.slice a3 x.funcs[j].name.length p3)).setCell ⟨w5.heap.size,1,none⟩ (.slice a5 x.funcs[j].params.length p5)).setCell ⟨w5.heap.size,2,none⟩ (.int .i64 z_rk)).setCell ⟨w5.heap.size,3,none⟩ (.int .i64 z_rn)).setCell ⟨w5.heap.size,4,none⟩ (.slice none 0 0))=WZ at *
                 generalize w5.heap.size=BB at *)
              | (have hnin:w2b.heap.size∉G3++G5:=(fun h=>by
                   rcases List.mem_append.1 h with q|q
                   · have:=(hO3.fresh _ q).1;simp at this;omega
                   · have:=(hA7.2 _ q).1;have:=hh5.lt;omega)
                 obtain⟨hXb,hXo,hXs,hXl⟩:=put5 hh7 (.slice a3 x.funcs[j].name.length p3) (.slice a5 x.funcs[j].params.length p5) (.int .i64 z_rk) (.int .i64 z_rn) (.slice none 0 0) LL7 (Nat.le_refl _);have hX:=HZ.out _ w2b.heap.size a3 p3 G3 a5 p5 G5 (lwb.trans hXl) hXb hz2 (ai.agree (Nat.le_of_eq hXs.symm) _ hN7 (fun b hb=>hXo b (fun e=>hnin (by rw[<-e];exact List.mem_append_left _ hb)))) (ai.agree (Nat.le_of_eq hXs.symm) _ hP7 (fun b hb=>hXo b (fun e=>hnin (by rw[<-e];exact List.mem_append_right _ hb)))) (by rw[hXs];exact hfr) hnin;have x4:=HS4.out _ hXl;clear hh5 HZ hN7 hP7 hO3 hO5 hfr hA5 hA7 hXb hXo hXs hXl e0 e1 e2 e3 e4 g0 g1 g2 g3 g4 hh7 HS4
                 generalize (((((w7.setCell ⟨w2b.heap.size,0,none⟩ (.slice a3 x.funcs[j].name.length p3)).setCell ⟨w2b.heap.size,1,none⟩ (.slice a5 x.funcs[j].params.length p5)).setCell ⟨w2b.heap.size,2,none⟩ (.int .i64 z_rk)).setCell ⟨w2b.heap.size,3,none⟩ (.int .i64 z_rn)).setCell ⟨w2b.heap.size,4,none⟩ (.slice none 0 0))=WZ at *
                 generalize w2b.heap.size=BB at *)
            go_wp2_with fail
            refine hX.mono ?_;clear hX;rintro e w8 ⟨a8,n8,c8,q8,t8,rfl,hB8,hS8,hr8,hn3,hs3,hk8,HU⟩;have y0:=(hB8.cell 0 _ rfl).1;have y1:=(hB8.cell 1 _ rfl).1;have y2:=(hB8.cell 2 _ rfl).1;have y3:=(hB8.cell 3 _ rfl).1;have y4:=(hB8.cell 4 _ rfl).1;have y4f:=(hB8.cell 4 _ rfl).2;have z1:=(hS8.cell 1 _ rfl).1;have yl:=hB8.lt;clear hB8 hS8;go_wp2_with (at_builtin;refine wpList_append_own_at _ rfl _ _ 26 rfl wK.heap.size 55 j0 (.agg #[.slice none 0 0,.slice none 0 0,.int .i64 0,.int .i64 0,.slice none 0 0]) 5 88 Tryz.underlying26 hj0 hz00 hz01 hz02 rfl (by decide) _ _ _ rfl (hr8.alloc _) _ 1 1 [.slice a3 x.funcs[j].name.length p3,.slice a5 x.funcs[j].params.length p5,.int .i64 z_rk,.int .i64 z_rn,.slice a8 n8 c8] rfl rfl (fA _ _ _ (by simp)) (by simp[Value.oneCell']) (by unfold maxLen;omega) (by omega) (by simp;omega) ?_;intro v9 w9 o9 g9 _ h9;obtain⟨⟨f9,u9,k9⟩,O9,S9,X9,R9,D9,T9⟩:=HU.out _ _ _ (ae _ _) o9 g9 h9;obtain⟨a9,p9,hv9⟩:=aP o9;rw[hv9]at O9 S9 X9 R9 D9 ⊢)
            go_roundw
            case rel=>exact⟨j+1,_,_,q8,t8,by go_num,by omega,O9,S9,X9,R9,HHn2,D9,T9⟩
            case measure=>simp[intOf];omega
        · have j1:¬ (j:Int)<(x.funcs.length:Int):=by omega
          have j2:decide ((j:Int)<(x.funcs.length:Int))=false:=decide_eq_false j1;have hjj2:j=x.funcs.length:=by omega
          have x0:=(hc2r.cell 0 _ rfl).1;have x1:=(hc2r.cell 1 _ rfl).1;have f0:=(hc2r.cell 0 _ rfl).2;have f1:=(hc2r.cell 1 _ rfl).2;have t2:=(hSr.cell 2 _ rfl).1
          cases tq with
          | true =>
            have HA:=HFE.out wr LR hc2r (by unfold So.wo;rw[HTt.out rfl];simp);clear HEND HFE HG HTt HH HT;go_wp2_with fail
            exact bodyPost_ret (v:=.tuple #[.agg #[.slice none 0 0,.slice none 0 0],.bool false]) (by simp[results,Tryz.results23,go_sem,World.cell?_setCell_same',x0,x1]) rfl HA
          | false =>
            obtain⟨hq0,hq1,hcp,F2,hBF⟩:=HG.out rfl
            have hwo:So.wo x=true:=by
              unfold So.wo;rw[hsb,decide_eq_true hnf,hcp,hjj2,List.drop_length,Fu.cps];simp only[Bool.true_and,Option.isSome_some,Bool.and_true];exact Vy fun i hi=>HH.out i hi (by omega)
            rw[hjj2,List.take_length]at hBF;obtain⟨GF,hGF⟩:=hBF.done (by rw[Fu.az,List.length_map];omega);obtain⟨aF,cF,hrF⟩:=aP hBF.row;rw[Fu.az,List.length_map]at hrF;rw[hrF]at hGF;have HA:=HEND.out wr aF cF GF oR2 hGF hwo;have b0:=(hb4r.cell 0 _ rfl).1;have b1:=(hb4r.cell 1 _ rfl).1;clear HEND HFE HG HTt HH HT hjj2 hBF hcp hrow;subst hrF;go_wp2_with fail
            exact bodyPost_ret (v:=.tuple #[.agg #[.slice aS x.structs.length cS,.slice aF x.funcs.length cF],.bool true]) (by simp[results,Tryz.results23,go_sem,World.cell?_setCell_same',x0,x1]) rfl HA
end Go.Proofs.YtgaddpkkjebekaaGreatDoor
