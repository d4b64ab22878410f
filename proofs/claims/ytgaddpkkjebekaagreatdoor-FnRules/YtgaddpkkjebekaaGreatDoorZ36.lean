import Derived.Test.YtgaddpkkjebekaaGreatDoorZ35
import Derived.Test.YtgaddpkkjebekaaGreatDoorZ20
set_option maxHeartbeats 100000000
set_option maxRecDepth 100000
namespace Go.Proofs.YtgaddpkkjebekaaGreatDoor
open Go.RowKit Go.Maps
theorem EX {w:World}{v:Value}{l:List Pa}(h:RdL w 3 v (Pa.ah l)) (hz:Pa.szs l<=1048576):∀ p∈l,Nm p.name:=by
 intro p hp;have hl:=Pa.xX hz p hp;obtain⟨j,hj,rfl⟩:=List.mem_iff_getElem.1 hp;obtain⟨a,c,rfl,_⟩:=Pa.slice h;obtain⟨_,_,_,_,_,_,_,_,r⟩:=Pa.elem h j hj;exact⟨r.rd.isB,hl⟩
theorem Ux {w:World}{x:So}{v0 v1:Value}(hok:x.ok=true) (hs:x.sz<=1048576) (h0:RdL w 2 v0 (Sc.ah x.structs)) (h1:RdL w 5 v1 (Fu.ah x.funcs)):SoN x:=by
 obtain⟨_,hf8,heach,hstr⟩:=So.RZ hok;have hz:=So.EJ x;obtain⟨a0,c0,rfl,_⟩:=Sc.slice h0;obtain⟨a1,c1,rfl,_⟩:=Fu.slice h1;refine⟨?_,hs,?_,?_,?_,?_,by omega⟩
 ·unfold So.ok at hok;rw[Bool.and_eq_true]at hok;exact hok.1
 ·intro f hf;obtain⟨j,hj,rfl⟩:=List.mem_iff_getElem.1 hf;obtain⟨_,_,_,_,_,_,_,_,_,_,_,_,r,_⟩:=Fu.elem h1 j hj;have h2:=Fu.dW x.funcs j hj;have h3:=Fu.Ju x.funcs[j];exact⟨r.rd.isB,by omega⟩
 ·intro s hs;obtain⟨j,hj,rfl⟩:=List.mem_iff_getElem.1 hs;obtain⟨_,_,_,_,_,_,_,_,_,r⟩:=Sc.elem h0 j hj;have h2:=Sc.dW x.structs j hj;have h3:=Sc.kC x.structs[j];exact⟨(Sc.Bj hstr hj (by omega)).1,EX r (by omega)⟩
 ·intro f hf;have h4:=(heach f hf).1;obtain⟨j,hj,rfl⟩:=List.mem_iff_getElem.1 hf;obtain⟨_,_,_,_,_,_,_,_,_,_,_,_,_,r,_⟩:=Fu.elem h1 j hj;have h2:=Fu.dW x.funcs j hj;have h3:=Fu.Ju x.funcs[j];exact⟨by omega,EX r (by omega)⟩
 ·intro f hf;have:=(heach f hf).2;omega
end Go.Proofs.YtgaddpkkjebekaaGreatDoor
namespace Go.Proofs.YtgaddpkkjebekaaGreatDoor
open Go.RowKit Go.Maps
end Go.Proofs.YtgaddpkkjebekaaGreatDoor
namespace Go.Proofs.YtgaddpkkjebekaaGreatDoor
open Go.RowKit Go.Maps
structure DC (x:So):Prop where
 env:xG x.structs x.funcs []
 fit:∀ f∈x.funcs,f.params.length<=1000/\(∀ p∈f.params,iF x.structs.length (p.tk,p.tn))/\St.fits x.structs.length x.funcs.length f.params.length f.body/\St.nums f.body<=1000
def BM (x:So):Int:=if x.ok then (if x.wnB then (if (So.nb x).funcs.all Fu.jT then (if (Fu.aH (So.nb x).structs (So.nb x).funcs (So.nb x).funcs).isSome then 0 else 4) else 3) else 2) else 1
def TR (c:Int) (w:World) (e:Ending) (w':World):Prop:=(∃ a0 n0 c0 a1 n1 c1,e=.returned (.tuple #[.agg #[.slice a0 n0 c0,.slice a1 n1 c1],.int .i64 c]))/\Later w w'
theorem Bxx.duo {w:World}{B:Nat}{a b:Value}(h:Bxx w B [a,b]):((w.cell? ⟨B,0,none⟩=some a/\w.frozen? ⟨B,0,none⟩=false)/\(w.cell? ⟨B,1,none⟩=some b/\w.frozen? ⟨B,1,none⟩=false))/\B<w.heap.size:=⟨⟨h.cell 0 _ rfl,h.cell 1 _ rfl⟩,h.lt⟩
theorem vW {w wk:World}{R:Nat}{x0 x1:Value}(B:Bxx wk R [x0,x1]) (hR:w.heap.size<=R) (l:Later w wk) (u0 u1:Value):∃ W,Hid (W=(wk.setCell ⟨R,0,none⟩ u0).setCell ⟨R,1,none⟩ u1)/\W.cell? ⟨R,0,none⟩=some u0/\W.cell? ⟨R,1,none⟩=some u1/\Later w W:=by
 have o:=((af.refl R wk).set 0 u0).set 1 u1;have b:=(B.set 0 u0 (by simp)).set 1 u1 (by simp);exact⟨_,rfl,(b.cell 0 _ rfl).1,(b.cell 1 _ rfl).1,o.os.trans l.os,o.tape.trans l.tape,o.output.trans l.output,Nat.le_trans l.size o.size,fun k hk=>by rw[o.block k (Nat.lt_of_lt_of_le hk l.size) (by omega)];exact l.block k hk⟩
theorem FK {w a b:World}{F:List Nat}(l:Later w a) (o:ay F a b) (h:∀ k∈F,w.heap.size<=k):Later w b:=⟨o.os.trans l.os,o.tape.trans l.tape,o.output.trans l.output,Nat.le_trans l.size o.size,fun k hk=>by rw[o.block k (Nat.lt_of_lt_of_le hk l.size) (fun q=>by have:=h k q;omega)];exact l.block k hk⟩
theorem Bxx.TV {w w':World}{B:Nat}{xs:List Value}{F:List Nat}(h:Bxx w B xs) (o:ay F w w') (hB:B∉F):Bxx w' B xs:=h.kept o.size (o.block B h.lt hB)
theorem I8 (x:So) (v0 v1:Value) (w:World) (hE:Env w) (hty:TyE w) (hs:x.sz<=1048576) (hg:Fu.aZ x.funcs) (hp:x.ok=true->x.wnB=true->(So.nb x).funcs.all Fu.jT=true->DC (So.nb x)) (h0:RdL w 2 v0 (Sc.ah x.structs)) (h1:RdL w 5 v1 (Fu.ah x.funcs)) :
  Calls Tryz.prog 6 #[.agg #[v0,v1]] w (TR (BM x) w):=by
 have hO:=fun w' (l:Later w w')=>J6 x v0 v1 w' (hE.later l) hg (RdL.later l h0) (RdL.later l h1);have hW:=fun w' (l:Later w w') (hok:x.ok=true)=>SE x v0 v1 w' (Ux hok hs h0 h1) (hty.later l) (RdL.later l h0) (RdL.later l h1)
 have hlt:0<w.heap.size/\1<w.heap.size:=⟨aK hty.i0,aK hty.f0⟩
 obtain⟨sa,sc,rfl,hsl⟩:=Sc.slice h0;obtain⟨fa,fc,rfl,hfl⟩:=Fu.slice h1
 have HA:Hid (∀ w' c a0 n0 c0 a1 n1 c1,Later w w'->BM x=c->TR (BM x) w (.returned (.tuple #[.agg #[.slice a0 n0 c0,.slice a1 n1 c1],.int .i64 c])) w'):=fun w' c a0 n0 c0 a1 n1 c1 l h=>⟨⟨_,_,_,_,_,_,by rw[h]⟩,l⟩
 generalize hQ:TR (BM x) w=Q at *
 have HTy:Hid (TyE w):=hty;clear hQ h0 h1 hty hE;obtain⟨w1,hw1⟩:=hidx ((w.alloc (.cells #[.slice sa x.structs.length sc,.slice fa x.funcs.length fc] 28)).alloc (.cells #[.slice none 0 0,.slice none 0 0] 28));have L1:Later w w1:=by rw[hw1.out];exact (ae _ _).trans (ae _ _)
 have s1:w1.heap.size=w.heap.size+1+1:=by rw[hw1.out,World.size_alloc,World.size_alloc]
 have hb1:Bxx w1 w.heap.size [.slice sa x.structs.length sc,.slice fa x.funcs.length fc]:=by rw[hw1.out];exact (Bxx.new _ _ _).later (ae _ _)
 have hr1:Bxx w1 (w.heap.size+1) [.slice none 0 0,.slice none 0 0]:=by
  have:=Bxx.new (w.alloc (.cells #[.slice sa x.structs.length sc,.slice fa x.funcs.length fc] 28)) #[.slice none 0 0,.slice none 0 0] 28;rw[World.size_alloc]at this;rw[hw1.out];exact this
 have y0:=(hb1.cell 0 _ rfl).1;have y1:=(hb1.cell 1 _ rfl).1;have yl:=hb1.lt;go_enter Tryz.func6,Tryz.ntmps6;go_wp2_with fail
 rw[<-hw1.out];refine (hO w1 L1).mono ?_;rintro e w2 ⟨rfl,l2⟩;have L2:=L1.trans l2;have hb2:=hb1.later l2;have hr2:=hr1.later l2;clear y0 y1 yl hO;have y0:=(hb2.cell 0 _ rfl).1;have y1:=(hb2.cell 1 _ rfl).1;have yl:=hb2.lt;obtain⟨⟨⟨r0,r0f⟩,⟨r1,r1f⟩⟩,rl⟩:=hr2.duo
 cases hok:x.ok with
 | false =>
  obtain⟨W,hWW,e0,e1,LW⟩:=vW hr2 (Nat.le_succ _) L2 (.slice none 0 0) (.slice none 0 0);have HZ:=HA.out W 1 none 0 0 none 0 0 LW (by unfold BM;rw[hok];rfl);clear HA hW hp hb2 hr2 l2;go_wp2_with fail
  rw[<-hWW.out];exact bodyPost_ret (v:=.tuple #[.agg #[.slice none 0 0,.slice none 0 0],.int .i64 1]) (by simp[results,Tryz.results6,go_sem,e0,e1]) rfl HZ
 | true =>
  have hW2:=hW w2 L2 hok;clear hW;go_wp2_with fail
  refine hW2.mono ?_;clear hW2;rintro e w3 ⟨l3,⟨hb,a0,c0,a1,c1,F,rfl,hF⟩|⟨hb,rfl⟩⟩
  ·have L3:=L2.trans l3;have hr3:=hr2.later l3;obtain⟨w4,hw4⟩:=hidx (w3.alloc (.cells #[.slice a0 x.structs.length c0,.slice a1 x.funcs.length c1] 28));have l4:Later w3 w4:=by rw[hw4.out];exact ae _ _
   have hb4:Bxx w4 w3.heap.size [.slice a0 x.structs.length c0,.slice a1 x.funcs.length c1]:=by rw[hw4.out];exact Bxx.new _ _ _
   obtain⟨u0,u1,G0,G1,e1,e2,d0,d1⟩:=So.iO hF.own
   injection e1 with e1 e3
   injection e3 with e3 _
   subst e1 e3 e2;have hfr:=hF.fresh;have hnd:=hF.nodup;have hG1:∀ b∈G1,w2.heap.size<=b/\b<w3.heap.size:=fun b q=>hfr b (List.mem_append_right _ q);have hR:w.heap.size+1<w2.heap.size:=hr2.lt
   have D4:Hid (ai w4 (.list 2 (Sc.ah (So.nb x).structs)) [.slice a0 x.structs.length c0] G0/\ai w4 (.list 5 (Fu.ah (So.nb x).funcs)) [.slice a1 x.funcs.length c1] G1):=⟨bz d0 l4,bz d1 l4⟩
   clear hF d0 d1 hb2 y0 y1 yl r0 r0f r1 r1f rl;have L4:=L3.trans l4;have hr4:=hr3.later l4;obtain⟨⟨⟨q0,_⟩,⟨q1,_⟩⟩,ql⟩:=hb4.duo
   have rd1:RdL w4 5 (.slice a1 x.funcs.length c1) (Fu.ah (So.nb x).funcs):=by
    have:=D4.out.2.rd;obtain⟨u,e,r⟩:=RdL.iff.1 this
    injection e with e _
    subst e;exact r
   have HFl:=IX (So.nb x).funcs (.slice a0 x.structs.length c0) (.slice a1 x.funcs.length c1) w4 ⟨_,_,_,rfl⟩ rd1;go_wp2_with fail
   rw[<-hw4.out];refine HFl.mono ?_;clear HFl rd1;rintro e w5 ⟨rfl,l5⟩;have L5:=L4.trans l5;have hr5:=hr4.later l5;have hb5:=hb4.later l5;clear q0 q1 ql;obtain⟨⟨⟨q0,_⟩,⟨q1,_⟩⟩,ql⟩:=hb5.duo;obtain⟨⟨⟨r0,r0f⟩,⟨r1,r1f⟩⟩,rl⟩:=hr5.duo
   cases hfl':(So.nb x).funcs.all Fu.jT with
   | false =>
    obtain⟨W,hWW,e0,e1,LW⟩:=vW hr5 (Nat.le_succ _) L5 (.slice none 0 0) (.slice none 0 0);have HZ:=HA.out W 3 none 0 0 none 0 0 LW (by unfold BM;rw[hok,hb,hfl'];rfl);clear HA hp hr5 hb5 D4 hfr hnd;go_wp2_with fail
    rw[<-hWW.out];exact bodyPost_ret (v:=.tuple #[.agg #[.slice none 0 0,.slice none 0 0],.int .i64 3]) (by simp[results,Tryz.results6,go_sem,e0,e1]) rfl HZ
   | true =>
    have hput:=hp hok hb hfl';have HP:=Py (So.nb x).structs (So.nb x).funcs (.slice a0 x.structs.length c0) (.slice a1 x.funcs.length c1) w5 G0 G1 (HTy.out.later L5) (bz D4.out.1 l5) (bz D4.out.2 l5) hnd (fun b q=>by have:=(hG1 b q).1;have:=L2.size;omega) hput.env hput.fit;clear hp hput D4 HTy;go_wp2_with fail
    refine HP.mono ?_;clear HP;rintro e w6 ⟨b,rfl,o6,hno,hyes⟩;have L6:=FK L5 o6 (fun k q=>by have:=(hG1 k q).1;have:=L2.size;omega);have hr6:=hr5.TV o6 (fun q=>by have:=(hG1 _ q).1;omega);have hb6:=hb5.TV o6 (fun q=>by have:=(hG1 _ q).2;omega);clear q0 q1 ql r0 r0f r1 r1f rl hr5 hb5;obtain⟨⟨⟨q0,_⟩,⟨q1,_⟩⟩,ql⟩:=hb6.duo;obtain⟨⟨⟨r0,r0f⟩,⟨r1,r1f⟩⟩,rl⟩:=hr6.duo
    cases b with
    | false =>
     obtain⟨W,hWW,e0,e1,LW⟩:=vW hr6 (Nat.le_succ _) L6 (.slice none 0 0) (.slice none 0 0);have HZ:=HA.out W 4 none 0 0 none 0 0 LW (by unfold BM;rw[hok,hb,hfl',hno rfl];rfl);clear HA hr6 hb6 hfr hnd hno hyes;go_wp2_with fail
     rw[<-hWW.out];exact bodyPost_ret (v:=.tuple #[.agg #[.slice none 0 0,.slice none 0 0],.int .i64 4]) (by simp[results,Tryz.results6,go_sem,e0,e1]) rfl HZ
    | true =>
     obtain⟨fs',hfs,_⟩:=hyes rfl;obtain⟨W,hWW,e0,e1,LW⟩:=vW hr6 (Nat.le_succ _) L6 (.slice a0 x.structs.length c0) (.slice a1 x.funcs.length c1);have HZ:=HA.out W 0 a0 x.structs.length c0 a1 x.funcs.length c1 LW (by unfold BM;rw[hok,hb,hfl',hfs];rfl);clear HA hr6 hb6 hfr hnd hno hyes;go_wp2_with fail
     rw[<-hWW.out];exact bodyPost_ret (v:=.tuple #[.agg #[.slice a0 x.structs.length c0,.slice a1 x.funcs.length c1],.int .i64 0]) (by simp[results,Tryz.results6,go_sem,e0,e1]) rfl HZ
  ·have L3:=L2.trans l3;have hr3:=(hr2.later l3).later (ae w3 (.cells #[.slice none 0 0,.slice none 0 0] 28));clear r0 r0f r1 r1f rl y0 y1 yl;obtain⟨⟨⟨r0,r0f⟩,⟨r1,r1f⟩⟩,rl⟩:=hr3.duo;obtain⟨W,hWW,e0,e1,LW⟩:=vW hr3 (Nat.le_succ _) (L3.trans (ae _ _)) (.slice none 0 0) (.slice none 0 0);have HZ:=HA.out W 2 none 0 0 none 0 0 LW (by unfold BM;rw[hok,hb];rfl);clear HA hp hb2 hr2 hr3;go_wp2_with fail
   rw[<-hWW.out];exact bodyPost_ret (v:=.tuple #[.agg #[.slice none 0 0,.slice none 0 0],.int .i64 2]) (by simp[results,Tryz.results6,go_sem,e0,e1]) rfl HZ
end Go.Proofs.YtgaddpkkjebekaaGreatDoor
