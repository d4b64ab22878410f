import Derived.Test.YtgholpilmdebmaaGreatDoorZ23
set_option maxHeartbeats 100000000
set_option maxRecDepth 100000
namespace Go.Proofs.YtgholpilmdebmaaGreatDoor
open Go.RowKit Go.Maps
def Ldp (t:TypeId) (o:Operand):Op:=Op.load t o
def LsV (m:World) (u:Value):Prop:=∃ e b,u=.tuple #[e,.bool b]∧ExV m e
theorem AnsP.laterE {c:Dx}{v:Gv}{g:GS}{w w1 w2:World}{e:Ending}(h:AnsP c v g w ExV e w1) (l:Later w1 w2):AnsP c v g w ExV e w2:=by
 obtain⟨u,e1,g',s,k,a1,a2,a3,a4,a5,a6,a7,a8,a9,a10,e2,x⟩:=h;exact⟨u,e1,g',s.later l,k.later l,a1,a2,a3,a4,a5,a6,a7,a8,a9,a10,e2,x.sub (Ov.later k.ok l).sub⟩
theorem LsV.of {c:Dx}{v:Gv}{g:GS}{w w':World}{u:Value}(h:AnsP c v g w ExV (.returned u) w') (b:Bool):AnsP c v g w LsV (.returned (.tuple #[u,.bool b])) w':=by
 obtain⟨u',e,g',s,k,x⟩:=h
 cases e
 exact⟨_,rfl,g',s,k,u,b,rfl,x⟩
theorem lists_any (H:∀ e:Int,-1≤e→e<4→ExD e) {c:Dx}{g:GS}{w0:World}{v:Gv}(h:Gs c g w0 v) (tk tn:Int) (hn:InR tn):Calls Tryz.prog 116 #[.pointer (some ⟨c.G,0,none⟩),.agg #[.int .i64 tk,.int .i64 tn]] w0 (AnsP c v g w0 LsV):=by
 have H0:Hid _:=H;obtain⟨w1,hw1,x1,hs1⟩:=h.boxes tk tn;have HLs:=list_any tk tn w1;have hq0:=lsOf_in (k:=tk) hn;have X1:Hid (Fx c v g w0 w0.heap.size (w0.heap.size+1) tk tn g w1):=x1
 have HZ0:∀ (e:Ending) w',AnsP c v g w0 ExV e w'→∀ (u:Value) (b:Bool),e=.returned u→AnsP c v g w0 LsV (.returned (.tuple #[u,.bool b])) w':=fun e w' q u b hu=>by
  subst hu;exact LsV.of q b
 generalize AnsP c v g w0 LsV=Q at *
 have HZ:Hid _:=HZ0;clear HZ0 x1 h H;go_enter Tryz.func116,Tryz.ntmps116;go_wp2_with fail
 rw[←hw1.out];clear hw1 hs1
 generalize w0.heap.size+1=R at *
 generalize w0.heap.size=T at *
 generalize lsOf tk tn=q at *
 obtain⟨q1,q2,q3⟩:=q;refine HLs.mono ?_;rintro e w2 ⟨rfl,l2⟩;have x2:=X1.out.later l2;obtain⟨w3,hw3⟩:=hidx (w2.alloc (.cells #[.int .i64 q1,.int .i64 q2] 67))
 have x3:Fy c v g w0 T R tk tn [(w2.heap.size,q1,q2)] g w3:=by
  rw[hw3.out];exact Fy.new (xs:=[]) ⟨x2,fun p q=>(by cases q)⟩ q1 q2 rfl
 clear HLs l2 X1
 cases q3 with
 | false =>
  obtain⟨⟨⟨qa0,f0⟩,⟨qa1,f1⟩,⟨qa2,f2⟩,⟨qa3,f3⟩,⟨qa4,f4⟩,⟨qa5,f5⟩⟩,qal⟩:=x2.br.bx.c6;obtain⟨W,hW,bW,HW⟩:=x2.ec.fin x2.br x2.hr (k:=0) (n:=0) (tk:=0) (tn:=0) ⟨NmS.nil _,KsS.nil _,(by unfold InR;omega)⟩;have bW:=bW.later (later1 W (.cells #[.int .i64 q1,.int .i64 q2] 67));have HW:=HZ.out _ _ (HW.out.laterE (later1 W (.cells #[.int .i64 q1,.int .i64 q2] 67)));obtain⟨⟨⟨e0,_⟩,⟨e1,_⟩,⟨e2,_⟩,⟨e3,_⟩,⟨e4,_⟩,⟨e5,_⟩⟩,_⟩:=bW.c6;clear x3 bW hw3 x2 HZ;go_wp2_with fail
  rw[←hW.out];exact bodyPost_ret (v:=.tuple #[.agg #[.int .i64 0,.int .i64 0,.int .i64 0,.int .i64 0,.slice none 0 0,.slice none 0 0],.bool false]) (by simp[results,Tryz.results116,go_sem,e0,e1,e2,e3,e4,e5]) rfl (HW _ false rfl)
 | true =>
  have HV:=zcq x3.fx.ec.gs q1 q2 false;obtain⟨nx,lf,c0,_,_,_,_,_,_,_,_,_,_,hG⟩:=x2.ec.gs.ten;clear x2;go_wp2_with fail
  rw[←hw3.out];clear hw3 hG;refine HV.mono ?_;rintro e w4 ⟨p,m,rfl,l4,hm,hV⟩;have x4:Fx c v g w0 T R tk tn g w4:=x3.fx.later l4;obtain⟨va,vp,hp⟩:=hV.slice;subst hp;clear HV x3 l4 c0;by_cases hm0:0<m
  ·have i1:((m:Int)==0)=false:=by simp;omega
   obtain⟨vb,_,rfl,_,_,_⟩:=hV.at 0 hm0;have N4:Hid (Vs c g w4 v.n (.slice (some ⟨vb,0,none⟩) m vp) m):=hV;clear hV;go_upto_region 7 with fail
   have w5:=w4
   have x5:Fy c v g w0 T R tk tn [] g w4:=⟨x4,fun p q=>(by cases q)⟩
   have hLd:∀ t o,Ldp t o=Op.load t o:=fun _ _=>rfl;rw[show Op.load 3 (Operand.tmp 33)=Ldp 3 (Operand.tmp 33) from rfl];have hb5:∀ g0 w0',Fy c v g w0 T R tk tn [] g0 w0'→Hid (∀ w',Later w0' w'→Calls Tryz.prog 39 #[.pointer (some ⟨c.K,0,none⟩),.int .i64 (m:Int)] w' fun e w2=>∃ u,e=.returned u∧CallR c v g0 w0' (IntV 0 (m:Int)) u w2):=fun _ _ q=>q.fx.below (m:Int) (by omega) (by omega);have hwd1:IntKind.i64.wrap (1)=1:=by rw[IntKind.wrap_i64];omega
   have hb7:∀ g0 w0',Fy c v g w0 T R tk tn [] g0 w0'→Hid (∀ w',Later w0' w'→Calls Tryz.prog 60 #[.pointer (some ⟨c.G,0,none⟩),.agg #[.int .i64 1,.int .i64 0],.int .i64 (1)] w' fun e w2=>∃ u,e=.returned u∧CallR c v g0 w0' ExV u w2):=fun _ _ q _ l=>AnsP.call l (H0.out (1) (by omega) (by omega) c _ _ v 1 0 (q.fx.ec.gs.later l) (by unfold InR;omega));have hb8:∀ g0 w0',Fy c v g w0 T R tk tn [] g0 w0'→Hid (∀ w',Later w0' w'→Calls Tryz.prog 39 #[.pointer (some ⟨c.K,0,none⟩),.int .i64 3] w' fun e w2=>∃ u,e=.returned u∧CallR c v g0 w0' (IntV 0 3) u w2):=fun _ _ q=>q.fx.below 3 (by decide) (by decide)
   have k5:Hid (w4.drew.cell? ⟨T,0,none⟩=some (.int .i64 tk)∧w4.drew.cell? ⟨T,1,none⟩=some (.int .i64 tn)∧w4.drew.cell? ⟨c.G,0,none⟩=some (.pointer (some ⟨c.K,0,none⟩))):=(by have za:=(x5.later (Later.drew _)).fx.S;exact⟨za.1,za.2.1,za.2.2⟩)
   have k0:Hid (w4.cell? ⟨T,0,none⟩=some (.int .i64 tk)∧w4.cell? ⟨T,1,none⟩=some (.int .i64 tn)∧w4.cell? ⟨c.G,0,none⟩=some (.pointer (some ⟨c.K,0,none⟩))):=(by have za:=x5.fx.S;exact⟨za.1,za.2.1,za.2.2⟩)
   obtain⟨tt0,tt1,tt2⟩:=k0.out
   go_region_held3 (fun w'=>w'.cell? ⟨T,0,none⟩=some (.int .i64 tk)∧w'.cell? ⟨T,1,none⟩=some (.int .i64 tn)∧w'.cell? ⟨c.G,0,none⟩=some (.pointer (some ⟨c.K,0,none⟩))) (first|with_reducible exact k5.out|with_reducible exact k6.out|with_reducible exact k7.out|with_reducible exact k8.out|with_reducible exact k9.out|with_reducible exact k10.out|with_reducible exact k11.out|with_reducible exact ka.out _|with_reducible exact kb.out _ _ _ _ _ _|with_reducible exact kc.out _ _ _ _ _ _ _) (first
    | ((fail_if_success (have _g:=x6));have _g:=x5;refine zaa rfl 39 zaw _ _ rfl [.pointer (some ⟨c.K,0,none⟩),.int .i64 (m:Int)] rfl _ ((hb5 _ _ x5).out _ (Later.drew _)) ?_;rintro u6 w6 ⟨g6,s6,k6',za,rfl,hza⟩;have ov6:=(Ov.stp x5.fx.ec.gs.ok s6).sub;have x6:=x5.call s6 k6';obtain⟨vb2,i,ev,hvb,hvc,hin⟩:=(N4.out.stp s6).at za.toNat (by omega);cases ev;have za0:=hza.1;have za1:=hza.2;have k6:Hid (w6.cell? ⟨T,0,none⟩=some (.int .i64 tk)∧w6.cell? ⟨T,1,none⟩=some (.int .i64 tn)∧w6.cell? ⟨c.G,0,none⟩=some (.pointer (some ⟨c.K,0,none⟩))):=(by have za:=x6.fx.S;exact⟨za.1,za.2.1,za.2.2⟩))
    | ((fail_if_success (have _g:=x7));have _g:=x6;refine zaa rfl 90 en_var _ _ rfl [.pointer (some ⟨c.G,0,none⟩),.int .i64 (i:Int)] rfl _ (AnsP.call (Later.refl _) (var_any x6.fx.ec.gs i hin)) ?_;rintro u7 w7 ⟨g7,s7,k7',yak,yan,yatk,yatn,yaa0,yan0,yac0,yaa1,yan1,yac1,rfl,hya⟩;have ov7:=(Ov.stp x6.fx.ec.gs.ok s7).sub;have x7:=x6.call s7 k7';have k7:Hid (w7.cell? ⟨T,0,none⟩=some (.int .i64 tk)∧w7.cell? ⟨T,1,none⟩=some (.int .i64 tn)∧w7.cell? ⟨c.G,0,none⟩=some (.pointer (some ⟨c.K,0,none⟩))):=(by have za:=x7.fx.S;exact⟨za.1,za.2.1,za.2.2⟩))
    | ((fail_if_success (have _g:=x8));have _g:=x7;refine zaa rfl 60 zax _ _ rfl [.pointer (some ⟨c.G,0,none⟩),.agg #[.int .i64 1,.int .i64 0],.int .i64 (1)] rfl _ ((hb7 _ _ x7).out _ (Later.refl _)) ?_;rintro u8 w8 ⟨g8,s8,k8',ybk,ybn,ybtk,ybtn,yba0,ybn0,ybc0,yba1,ybn1,ybc1,rfl,hyb⟩;have ov8:=(Ov.stp x7.fx.ec.gs.ok s8).sub;have x8:=x7.call s8 k8';have hya:=hya.sub ov8;have k8:Hid (w8.cell? ⟨T,0,none⟩=some (.int .i64 tk)∧w8.cell? ⟨T,1,none⟩=some (.int .i64 tn)∧w8.cell? ⟨c.G,0,none⟩=some (.pointer (some ⟨c.K,0,none⟩))):=(by have za:=x8.fx.S;exact⟨za.1,za.2.1,za.2.2⟩))
    | ((fail_if_success (have _g:=x9));have _g:=x8;refine zaa rfl 39 zaw _ _ rfl [.pointer (some ⟨c.K,0,none⟩),.int .i64 3] rfl _ ((hb8 _ _ x8).out _ (Later.refl _)) ?_;rintro u9 w9 ⟨g9,s9,k9',zb,rfl,hzb⟩;have ov9:=(Ov.stp x8.fx.ec.gs.ok s9).sub;have x9:=x8.call s9 k9';have hya:=hya.sub ov9;have hyb:=hyb.sub ov9;have hwzb:IntKind.i64.wrap (1+zb)=1+zb:=(by rw[IntKind.wrap_i64];have:=hzb;omega);have k9:Hid (w9.cell? ⟨T,0,none⟩=some (.int .i64 tk)∧w9.cell? ⟨T,1,none⟩=some (.int .i64 tn)∧w9.cell? ⟨c.G,0,none⟩=some (.pointer (some ⟨c.K,0,none⟩))):=(by have za:=x9.fx.S;exact⟨za.1,za.2.1,za.2.2⟩))
    | ((fail_if_success (have _g:=x10));have _g:=x9;refine zaa rfl 44 zcy _ _ rfl [.int .i64 (1+zb)] rfl (fun v w'=>v=.agg #[.int .i64 0,.int .i64 (1+zb),.int .i64 0,.int .i64 0,.slice none 0 0,.slice none 0 0]∧Later w9 w') ((zbu (1+zb) w9).mono (fun e w' q=>⟨_,q.1,rfl,q.2⟩)) ?_;rintro u10 w10 ⟨rfl,l10⟩;have x10:=x9.later l10;have ov10:=(Ov.later x9.fx.ec.gs.ok l10).sub;have hya:=hya.sub ov10;have hyb:=hyb.sub ov10;have hyc:ExS (mask g9 w10) 0 (1+zb) 0 0 (.slice none 0 0) (.slice none 0 0):=⟨NmS.nil _,KsS.nil _,(by unfold InR;have:=hzb;omega)⟩;have k10:Hid (w10.cell? ⟨T,0,none⟩=some (.int .i64 tk)∧w10.cell? ⟨T,1,none⟩=some (.int .i64 tn)∧w10.cell? ⟨c.G,0,none⟩=some (.pointer (some ⟨c.K,0,none⟩))):=(by have za:=x10.fx.S;exact⟨za.1,za.2.1,za.2.2⟩))
    | ((fail_if_success (have _g:=x11));have _g:=x10;refine zaa rfl 61 zcf _ _ rfl [.int .i64 (4),.agg #[.int .i64 ybk,.int .i64 ybn,.int .i64 ybtk,.int .i64 ybtn,.slice yba0 ybn0 ybc0,.slice yba1 ybn1 ybc1],.agg #[.int .i64 0,.int .i64 (1+zb),.int .i64 0,.int .i64 0,.slice none 0 0,.slice none 0 0]] rfl _ (AnsP.call (Later.refl _) (zbr x10.fx.ec.gs (4) _ _ _ _ _ _ _ _ (by unfold InR;omega) _ _ _ _ _ _ _ _ _ _ _ _ hyb hyc)) ?_;rintro u11 w11 ⟨g11,s11,k11',ydk,ydn,ydtk,ydtn,yda0,ydn0,ydc0,yda1,ydn1,ydc1,rfl,hyd⟩;have ov11:=(Ov.stp x10.fx.ec.gs.ok s11).sub;have x11:=x10.call s11 k11';have hya:=hya.sub ov11;have hyb:=hyb.sub ov11;have hyc:=hyc.sub ov11;have k11:Hid (w11.cell? ⟨T,0,none⟩=some (.int .i64 tk)∧w11.cell? ⟨T,1,none⟩=some (.int .i64 tn)∧w11.cell? ⟨c.G,0,none⟩=some (.pointer (some ⟨c.K,0,none⟩))):=(by have za:=x11.fx.S;exact⟨za.1,za.2.1,za.2.2⟩);obtain⟨⟨⟨qa0,f0⟩,⟨qa1,f1⟩,⟨qa2,f2⟩,⟨qa3,f3⟩,⟨qa4,f4⟩,⟨qa5,f5⟩⟩,qal⟩:=x11.fx.br.bx.c6;have ka:Hid (∀ o:Obj,(w11.alloc o).cell? ⟨T,0,none⟩=some (.int .i64 tk)∧(w11.alloc o).cell? ⟨T,1,none⟩=some (.int .i64 tn)∧(w11.alloc o).cell? ⟨c.G,0,none⟩=some (.pointer (some ⟨c.K,0,none⟩))):=fun o=>(by have za:=(x11.later (later1 _ o)).fx.S;exact⟨za.1,za.2.1,za.2.2⟩);have kb:Hid (∀ v0 v1 v2 v3 v4 v5:Value,((((((w11.setCell ⟨R,0,none⟩ v0).setCell ⟨R,1,none⟩ v1).setCell ⟨R,2,none⟩ v2).setCell ⟨R,3,none⟩ v3).setCell ⟨R,4,none⟩ v4).setCell ⟨R,5,none⟩ v5).cell? ⟨T,0,none⟩=some (.int .i64 tk)∧((((((w11.setCell ⟨R,0,none⟩ v0).setCell ⟨R,1,none⟩ v1).setCell ⟨R,2,none⟩ v2).setCell ⟨R,3,none⟩ v3).setCell ⟨R,4,none⟩ v4).setCell ⟨R,5,none⟩ v5).cell? ⟨T,1,none⟩=some (.int .i64 tn)∧((((((w11.setCell ⟨R,0,none⟩ v0).setCell ⟨R,1,none⟩ v1).setCell ⟨R,2,none⟩ v2).setCell ⟨R,3,none⟩ v3).setCell ⟨R,4,none⟩ v4).setCell ⟨R,5,none⟩ v5).cell? ⟨c.G,0,none⟩=some (.pointer (some ⟨c.K,0,none⟩))):=fun v0 v1 v2 v3 v4 v5=>(by have za:=x11.fx.S6 v0 v1 v2 v3 v4 v5;exact⟨za.1,za.2.1,za.2.2⟩);have kc:Hid (∀ (o:Obj) (v0 v1 v2 v3 v4 v5:Value),(((((((w11.setCell ⟨R,0,none⟩ v0).setCell ⟨R,1,none⟩ v1).setCell ⟨R,2,none⟩ v2).setCell ⟨R,3,none⟩ v3).setCell ⟨R,4,none⟩ v4).setCell ⟨R,5,none⟩ v5).alloc o).cell? ⟨T,0,none⟩=some (.int .i64 tk)∧(((((((w11.setCell ⟨R,0,none⟩ v0).setCell ⟨R,1,none⟩ v1).setCell ⟨R,2,none⟩ v2).setCell ⟨R,3,none⟩ v3).setCell ⟨R,4,none⟩ v4).setCell ⟨R,5,none⟩ v5).alloc o).cell? ⟨T,1,none⟩=some (.int .i64 tn)∧(((((((w11.setCell ⟨R,0,none⟩ v0).setCell ⟨R,1,none⟩ v1).setCell ⟨R,2,none⟩ v2).setCell ⟨R,3,none⟩ v3).setCell ⟨R,4,none⟩ v4).setCell ⟨R,5,none⟩ v5).alloc o).cell? ⟨c.G,0,none⟩=some (.pointer (some ⟨c.K,0,none⟩))):=fun o v0 v1 v2 v3 v4 v5=>(by have za:=x11.fx.S7 o v0 v1 v2 v3 v4 v5;exact⟨za.1,za.2.1,za.2.2⟩)))
   obtain⟨W,hW,bW,HW⟩:=x11.fx.ec.fin2 x11.fx.br x11.fx.hr (k:=8) (n:=0) (tk:=0) (tn:=0) (by unfold InR;omega) (NmS.nil _) hya hyd;have HW:=HZ.out _ _ HW.out;obtain⟨⟨⟨e0,_⟩,⟨e1,_⟩,⟨e2,_⟩,⟨e3,_⟩,⟨e4,_⟩,⟨e5,_⟩⟩,_⟩:=bW.c6;clear HZ bW k0 ka kb kc k5 k6 k7 k8 k9 k10 k11 hb5 hwd1 hb7 hb8 H0 hLd;go_wp2_with fail
   rw[←hW.out];exact bodyPost_ret (v:=.tuple #[.agg #[.int .i64 8,.int .i64 0,.int .i64 0,.int .i64 0,.slice none 0 0,.slice (some ⟨w11.heap.size,0,none⟩) 2 2],.bool true]) (by simp[results,Tryz.results116,go_sem,e0,e1,e2,e3,e4,e5]) rfl (HW _ true rfl)
  ·obtain rfl:m=0:=by omega
   obtain⟨⟨⟨qa0,f0⟩,⟨qa1,f1⟩,⟨qa2,f2⟩,⟨qa3,f3⟩,⟨qa4,f4⟩,⟨qa5,f5⟩⟩,qal⟩:=x4.br.bx.c6;obtain⟨W,hW,bW,HW⟩:=x4.ec.fin x4.br x4.hr (k:=0) (n:=0) (tk:=0) (tn:=0) ⟨NmS.nil _,KsS.nil _,(by unfold InR;omega)⟩;have HW:=HZ.out _ _ HW.out;obtain⟨⟨⟨e0,_⟩,⟨e1,_⟩,⟨e2,_⟩,⟨e3,_⟩,⟨e4,_⟩,⟨e5,_⟩⟩,_⟩:=bW.c6;clear HZ bW x4 hV;go_wp2_with fail
   rw[←hW.out];exact bodyPost_ret (v:=.tuple #[.agg #[.int .i64 0,.int .i64 0,.int .i64 0,.int .i64 0,.slice none 0 0,.slice none 0 0],.bool false]) (by simp[results,Tryz.results116,go_sem,e0,e1,e2,e3,e4,e5]) rfl (HW _ false rfl)
def StV (m:World) (u:Value):Prop:=∃ k n tk tn a0 n0 c0 a1 n1 c1 a2 n2 c2 a3 n3 c3,u=.agg #[.int .i64 k,.int .i64 n,.int .i64 tk,.int .i64 tn,.slice a0 n0 c0,.slice a1 n1 c1,.slice a2 n2 c2,.slice a3 n3 c3]∧StS m k n tk tn (.slice a0 n0 c0) (.slice a1 n1 c1) (.slice a2 n2 c2) (.slice a3 n3 c3)
theorem Bxx.c8 {w:World}{B:Nat}{a b c d e f g i:Value}(h:Bxx w B [a,b,c,d,e,f,g,i]):((w.cell? ⟨B,0,none⟩=some a∧w.frozen? ⟨B,0,none⟩=false)∧(w.cell? ⟨B,1,none⟩=some b∧w.frozen? ⟨B,1,none⟩=false)∧(w.cell? ⟨B,2,none⟩=some c∧w.frozen? ⟨B,2,none⟩=false)∧(w.cell? ⟨B,3,none⟩=some d∧w.frozen? ⟨B,3,none⟩=false)∧(w.cell? ⟨B,4,none⟩=some e∧w.frozen? ⟨B,4,none⟩=false)∧(w.cell? ⟨B,5,none⟩=some f∧w.frozen? ⟨B,5,none⟩=false)∧(w.cell? ⟨B,6,none⟩=some g∧w.frozen? ⟨B,6,none⟩=false)∧(w.cell? ⟨B,7,none⟩=some i∧w.frozen? ⟨B,7,none⟩=false))∧B<w.heap.size:=⟨⟨h.cell 0 _ rfl,h.cell 1 _ rfl,h.cell 2 _ rfl,h.cell 3 _ rfl,h.cell 4 _ rfl,h.cell 5 _ rfl,h.cell 6 _ rfl,h.cell 7 _ rfl⟩,h.lt⟩
theorem pu8D {w:World}{b:Nat}{z0 z1 z2 z3 z4 z5 z6 z7:Value}(hb:Bxx w b [z0,z1,z2,z3,z4,z5,z6,z7]) (v0 v1 v2 v3 v4 v5 v6 v7:Value):∃ W,Hid (W=((((((((w.setCell ⟨b,0,none⟩ (v0)).setCell ⟨b,1,none⟩ (v1)).setCell ⟨b,2,none⟩ (v2)).setCell ⟨b,3,none⟩ (v3)).setCell ⟨b,4,none⟩ (v4)).setCell ⟨b,5,none⟩ (v5)).setCell ⟨b,6,none⟩ (v6)).setCell ⟨b,7,none⟩ (v7)))∧OnlyK b w W∧Bxx W b [v0,v1,v2,v3,v4,v5,v6,v7]∧W.heap.size=w.heap.size :=
 ⟨_,rfl,((((((((OnlyK.refl _ w).set 0 _).set 1 _).set 2 _).set 3 _).set 4 _).set 5 _).set 6 _).set 7 _,(((((((hb.set 0 _ (by simp)).set 1 _ (by simp)).set 2 _ (by simp)).set 3 _ (by simp)).set 4 _ (by simp)).set 5 _ (by simp)).set 6 _ (by simp)).set 7 _ (by simp),by simp[World.size_setCell]⟩
theorem Ec.sfin {c:Dx}{v:Gv}{g0 g:GS}{w0 w:World}(h:Ec c v g0 w0 g w) {b:Nat}{z0 z1 z2 z3 z4 z5 z6 z7:Value}(hb:Lb c g w b [z0,z1,z2,z3,z4,z5,z6,z7]) (h0:w0.heap.size≤b) {k n tk tn:Int}{a0:Option Addr}{n0 c0:Nat}{a1:Option Addr}{n1 c1:Nat}{a2:Option Addr}{n2 c2:Nat}{a3:Option Addr}{n3 c3:Nat}(hx:StS (mask g w) k n tk tn (.slice a0 n0 c0) (.slice a1 n1 c1) (.slice a2 n2 c2) (.slice a3 n3 c3)):∃ W,Hid (W=((((((((w.setCell ⟨b,0,none⟩ (.int .i64 k)).setCell ⟨b,1,none⟩ (.int .i64 n)).setCell ⟨b,2,none⟩ (.int .i64 tk)).setCell ⟨b,3,none⟩ (.int .i64 tn)).setCell ⟨b,4,none⟩ (.slice a0 n0 c0)).setCell ⟨b,5,none⟩ (.slice a1 n1 c1)).setCell ⟨b,6,none⟩ (.slice a2 n2 c2)).setCell ⟨b,7,none⟩ (.slice a3 n3 c3)))∧Bxx W b [.int .i64 k,.int .i64 n,.int .i64 tk,.int .i64 tn,.slice a0 n0 c0,.slice a1 n1 c1,.slice a2 n2 c2,.slice a3 n3 c3]∧Hid (AnsP c v g0 w0 StV (.returned (.agg #[.int .i64 k,.int .i64 n,.int .i64 tk,.int .i64 tn,.slice a0 n0 c0,.slice a1 n1 c1,.slice a2 n2 c2,.slice a3 n3 c3])) W):=by
 obtain⟨W,hW,oW,bW,sW⟩:=pu8D hb.bx (.int .i64 k) (.int .i64 n) (.int .i64 tk) (.int .i64 tn) (.slice a0 n0 c0) (.slice a1 n1 c1) (.slice a2 n2 c2) (.slice a3 n3 c3);have h2:=h.own hb h0 oW;exact⟨W,hW,bW,_,rfl,g,h2.st,h2.gs,_,_,_,_,_,_,_,_,_,_,_,_,_,_,_,_,rfl,hx.sub (Ov.only h.gs.ok oW hb.s).sub⟩
theorem Ec.sfin1 {c:Dx}{v:Gv}{g0 g:GS}{w0 w:World}(h:Ec c v g0 w0 g w) {b:Nat}{z0 z1 z2 z3 z4 z5 z6 z7:Value}(hb:Lb c g w b [z0,z1,z2,z3,z4,z5,z6,z7]) (h0:w0.heap.size≤b) {k n tk tn:Int}{a0:Option Addr}{n0 c0:Nat}(hn:InR n) (hm:NmS (mask g w) (.slice a0 n0 c0)) {k1 n1 tk1 tn1:Int}{u0 u1:Value}(hx:ExS (mask g w) k1 n1 tk1 tn1 u0 u1):∃ W,Hid (W=((((((((w.setCell ⟨b,0,none⟩ (.int .i64 k)).setCell ⟨b,1,none⟩ (.int .i64 n)).setCell ⟨b,2,none⟩ (.int .i64 tk)).setCell ⟨b,3,none⟩ (.int .i64 tn)).setCell ⟨b,4,none⟩ (.slice a0 n0 c0)).setCell ⟨b,5,none⟩ (.slice (some ⟨w.heap.size,0,none⟩) 1 1)).setCell ⟨b,6,none⟩ (.slice none 0 0)).setCell ⟨b,7,none⟩ (.slice none 0 0)).alloc (.cells #[.int .i64 k1,.int .i64 n1,.int .i64 tk1,.int .i64 tn1,u0,u1] 89))∧Bxx W b [.int .i64 k,.int .i64 n,.int .i64 tk,.int .i64 tn,.slice a0 n0 c0,.slice (some ⟨w.heap.size,0,none⟩) 1 1,.slice none 0 0,.slice none 0 0]∧Hid (AnsP c v g0 w0 StV (.returned (.agg #[.int .i64 k,.int .i64 n,.int .i64 tk,.int .i64 tn,.slice a0 n0 c0,.slice (some ⟨w.heap.size,0,none⟩) 1 1,.slice none 0 0,.slice none 0 0])) W):=by
 obtain⟨W0,hW0,oW,bW,sW⟩:=pu8D hb.bx (.int .i64 k) (.int .i64 n) (.int .i64 tk) (.int .i64 tn) (.slice a0 n0 c0) (.slice (some ⟨w.heap.size,0,none⟩) 1 1) (.slice none 0 0) (.slice none 0 0);have ov:=(Ov.only h.gs.ok oW hb.s).sub;obtain⟨g',h2,o2,hk⟩:=(h.own hb h0 oW).list1 sW (hx.sub ov);exact⟨_,(by rw[hW0.out];exact rfl),bW.later (later1 _ _),_,rfl,g',h2.st,h2.gs,_,_,_,_,_,_,_,_,_,_,_,_,_,_,_,_,rfl,(hm.sub ov).sub o2,hk,BoS.nil _,BoS.nil _,hn⟩
theorem last_any (H:∀ e:Int,-1≤e→e<4→ExD e) {c:Dx}{g:GS}{w:World}{v:Gv}(h:Gs c g w v):Calls Tryz.prog 63 #[.pointer (some ⟨c.G,0,none⟩)] w (AnsP c v g w StV):=by
 have H0:Hid _:=H;obtain⟨nx,lf,c0,_,_,_,_,_,_,_,_,_,_,hG⟩:=h.ten;obtain⟨w1,hw1⟩:=hidx (w.alloc (.cells #[.int .i64 0,.int .i64 0,.int .i64 0,.int .i64 0,.slice none 0 0,.slice none 0 0,.slice none 0 0,.slice none 0 0] 92))
 have X1:Hid (Ec c v g w g w1∧Lb c g w1 w.heap.size [.int .i64 0,.int .i64 0,.int .i64 0,.int .i64 0,.slice none 0 0,.slice none 0 0,.slice none 0 0,.slice none 0 0]):=by
  rw[hw1.out];exact⟨(Ec.start h).later (later1 _ _),Lb.new h [.int .i64 0,.int .i64 0,.int .i64 0,.int .i64 0,.slice none 0 0,.slice none 0 0,.slice none 0 0,.slice none 0 0] 92⟩
 have HZ0:∀ e w',AnsP c v g w StV e w'→AnsP c v g w StV e w':=fun _ _ q=>q;have hrr:=h.rr
 generalize hQ:AnsP c v g w StV=Q
 have HZ:Hid (∀ e w',AnsP c v g w StV e w'→Q e w'):=fun e w' q=>by rw[←hQ];exact q
 clear HZ0 hQ h H;go_enter Tryz.func63,Tryz.ntmps63;go_wp2_with fail
 rw[←hw1.out];clear hw1 c0 hG;refine (zce X1.out.1.gs 4 (by decide) (by decide)).mono ?_;rintro e w2 ⟨_,rfl,g2,s2,k2,b,rfl⟩
 have x2:Ec c v g w g2 w2∧Lb c g2 w2 w.heap.size [.int .i64 0,.int .i64 0,.int .i64 0,.int .i64 0,.slice none 0 0,.slice none 0 0,.slice none 0 0,.slice none 0 0]:=⟨X1.out.1.call s2 k2,X1.out.2.stp s2⟩
 clear X1 s2 k2
 cases b with
 | true =>
  go_wp2_with fail
  refine (H0.out 1 (by omega) (by omega) c g2 w2 v 1 0 x2.1.gs (by unfold InR;omega)).mono ?_;rintro e w3 ⟨_,rfl,g3,s3,k3,yk,yn,ytk,ytn,ya0,yn0,yc0,ya1,yn1,yc1,rfl,hy⟩
  have x3:Ec c v g w g3 w3∧Lb c g3 w3 w.heap.size [.int .i64 0,.int .i64 0,.int .i64 0,.int .i64 0,.slice none 0 0,.slice none 0 0,.slice none 0 0,.slice none 0 0]:=⟨x2.1.call s3 k3,x2.2.stp s3⟩
  clear x2 s3 k3;obtain⟨⟨⟨qa0,f0⟩,⟨qa1,f1⟩,⟨qa2,f2⟩,⟨qa3,f3⟩,⟨qa4,f4⟩,⟨qa5,f5⟩,⟨qa6,f6⟩,⟨qa7,f7⟩⟩,qal⟩:=x3.2.bx.c8;obtain⟨W,hW,bW,HW⟩:=x3.1.sfin1 x3.2 (Nat.le_refl _) (k:=6) (n:=0) (tk:=0) (tn:=0) (by unfold InR;omega) (NmS.nil _) hy;have HW:=HZ.out _ _ HW.out;obtain⟨⟨⟨e0,_⟩,⟨e1,_⟩,⟨e2,_⟩,⟨e3,_⟩,⟨e4,_⟩,⟨e5,_⟩,⟨e6,_⟩,⟨e7,_⟩⟩,_⟩:=bW.c8;clear HZ bW x3 hy H0;go_wp2_with fail
  rw[←hW.out];exact bodyPost_ret (v:=.agg #[.int .i64 6,.int .i64 0,.int .i64 0,.int .i64 0,.slice none 0 0,.slice (some ⟨w3.heap.size,0,none⟩) 1 1,.slice none 0 0,.slice none 0 0]) (by simp[results,Tryz.results63,go_sem,e0,e1,e2,e3,e4,e5,e6,e7]) rfl HW
 | false =>
  obtain⟨nx,lf,c0,_,_,_,_,_,_,_,c8,c9,_⟩:=x2.1.gs.ten;by_cases h0:v.rk=0
  ·rw[h0]at c8;obtain⟨⟨⟨qa0,f0⟩,⟨qa1,f1⟩,⟨qa2,f2⟩,⟨qa3,f3⟩,⟨qa4,f4⟩,⟨qa5,f5⟩,⟨qa6,f6⟩,⟨qa7,f7⟩⟩,qal⟩:=x2.2.bx.c8;obtain⟨W,hW,bW,HW⟩:=x2.1.sfin x2.2 (Nat.le_refl _) (k:=4) (n:=0) (tk:=0) (tn:=0) ⟨NmS.nil _,KsS.nil _,BoS.nil _,BoS.nil _,(by unfold InR;omega)⟩;have HW:=HZ.out _ _ HW.out;obtain⟨⟨⟨e0,_⟩,⟨e1,_⟩,⟨e2,_⟩,⟨e3,_⟩,⟨e4,_⟩,⟨e5,_⟩,⟨e6,_⟩,⟨e7,_⟩⟩,_⟩:=bW.c8;clear HZ bW x2;go_wp2_with fail
   rw[←hW.out];exact bodyPost_ret (v:=.agg #[.int .i64 4,.int .i64 0,.int .i64 0,.int .i64 0,.slice none 0 0,.slice none 0 0,.slice none 0 0,.slice none 0 0]) (by simp[results,Tryz.results63,go_sem,e0,e1,e2,e3,e4,e5,e6,e7]) rfl HW
  ·have i1:(v.rk==0)=false:=by simpa using h0
   go_wp2_with fail
   refine (H0.out 2 (by omega) (by omega) c g2 w2 v v.rk v.rn x2.1.gs hrr).mono ?_;rintro e w3 ⟨_,rfl,g3,s3,k3,yk,yn,ytk,ytn,ya0,yn0,yc0,ya1,yn1,yc1,rfl,hy⟩
   have x3:Ec c v g w g3 w3∧Lb c g3 w3 w.heap.size [.int .i64 0,.int .i64 0,.int .i64 0,.int .i64 0,.slice none 0 0,.slice none 0 0,.slice none 0 0,.slice none 0 0]:=⟨x2.1.call s3 k3,x2.2.stp s3⟩
   clear x2 s3 k3 c0 c8 c9;obtain⟨⟨⟨qa0,f0⟩,⟨qa1,f1⟩,⟨qa2,f2⟩,⟨qa3,f3⟩,⟨qa4,f4⟩,⟨qa5,f5⟩,⟨qa6,f6⟩,⟨qa7,f7⟩⟩,qal⟩:=x3.2.bx.c8;obtain⟨W,hW,bW,HW⟩:=x3.1.sfin1 x3.2 (Nat.le_refl _) (k:=4) (n:=0) (tk:=0) (tn:=0) (by unfold InR;omega) (NmS.nil _) hy;have HW:=HZ.out _ _ HW.out;obtain⟨⟨⟨e0,_⟩,⟨e1,_⟩,⟨e2,_⟩,⟨e3,_⟩,⟨e4,_⟩,⟨e5,_⟩,⟨e6,_⟩,⟨e7,_⟩⟩,_⟩:=bW.c8;clear HZ bW x3 hy H0;go_wp2_with fail
   rw[←hW.out];exact bodyPost_ret (v:=.agg #[.int .i64 4,.int .i64 0,.int .i64 0,.int .i64 0,.slice none 0 0,.slice (some ⟨w3.heap.size,0,none⟩) 1 1,.slice none 0 0,.slice none 0 0]) (by simp[results,Tryz.results63,go_sem,e0,e1,e2,e3,e4,e5,e6,e7]) rfl HW
def StmR (c:Dx) (v:Gv) (g:GS) (w:World) (u:Value) (w':World):Prop:=∃ g' nv tv xv n1 l,Stp g w g' w'∧Gs c g' w' { v with nv:=nv,tv:=tv,xv:=xv,n:=n1 }∧(n1=v.n∨n1=v.n+1)∧1≤l.length∧l.length≤2∧St.goods l∧RdL (mask g' w') 8 u (St.dats l)
def StmD (d:Int):Prop:=∀ (c:Dx) (g:GS) (w:World) (v:Gv),Gs c g w v→v.n+8*(d+1).toNat≤999000→Calls Tryz.prog 94 #[.pointer (some ⟨c.G,0,none⟩),.int .i64 d] w fun e w'=>∃ u,e=.returned u∧StmR c v g w u w'
def StsR (c:Dx) (v:Gv) (g:GS) (w:World) (lo hi m:Nat) (u:Value) (w':World):Prop:=∃ g' nv tv xv n1 l xs,Stp g w g' w'∧Gs c g' w' { v with nv:=nv,tv:=tv,xv:=xv,n:=n1 }∧lo≤n1∧n1≤hi∧Rw g' w' w.heap.size 92 8 u (St.dats l) xs∧St.goods l∧l.length≤m
theorem St.dats_app (l r:List St):St.dats (l++r)=St.dats l++St.dats r:=by
 induction l with
 | nil=>rfl
 | cons y t ih=>rw[List.cons_append,St.dats,St.dats,ih];rfl
theorem St.goods_app:∀ (l r:List St),St.goods l→St.goods r→St.goods (l++r)
 | [],_,_,h=>h
 | _::t,r,h,k=>⟨h.1,St.goods_app t r h.2 k⟩
theorem St.cells1 {m:World}{x:St}{cs:List Value}(h:RdD m x.dat cs):∀ u∈cs,u.oneCell'=true:=by
 obtain⟨v0,v1,v2,v3,rfl,r0,r1,r2,r3⟩:=St.view h;obtain⟨a0,c0,rfl,_⟩:=r0.slice;obtain⟨a1,c1,rfl,_⟩:=Ex.slice r1;obtain⟨a2,c2,rfl,_⟩:=St.slice r2;obtain⟨a3,c3,rfl,_⟩:=St.slice r3;intro u hu;simp only[List.mem_cons,List.not_mem_nil,or_false]at hu;rcases hu with rfl|rfl|rfl|rfl|rfl|rfl|rfl|rfl <;> rfl
theorem St.cellsAll {m:World}:∀ (l:List St) {xs:List Value},ElS m 8 (St.dats l) xs→∀ u∈xs,u.oneCell'=true
 | [],xs,h=>by
  rw[St.dats]at h
  obtain rfl:=(show xs=[] from h)
  intro u hu
  cases hu
 | x::r,xs,h=>by
  rw[St.dats]at h;obtain⟨cs,ys,rfl,_,hd,hr⟩:=h;intro u hu;rcases List.mem_append.1 hu with q|q
  ·exact St.cells1 hd u q
  ·exact St.cellsAll r hr u q
theorem Tryz.underlying71:Tryz.prog.underlying 71=some (.slice 92):=by kernel_rfl
theorem Sts.push {c:Dx}{v:Gv}{g g5:GS}{w w5 w9:World}(hS:Stp g w g5 w5) (hG:Gs c g5 w5 v) {B:Nat}(hB:w.heap.size≤B) (hBG:c.G<B) {u u':Value}{l l5:List St}{xs xs5:List Value}(hr:Rw g5 w5 B 92 8 u (St.dats l) xs) (he:ElS (mask g5 w5) 8 (St.dats l5) xs5) (o:w9.ownsRow B 92 8 u' (l.length+l5.length) (xs++xs5)) (hg:w5.grownBy w9 u.ownBlock) (hl:u'.ownBlock=u.ownBlock∨u'.ownBlock=some w5.heap.size):Stp g w g5 w9∧Gs c g5 w9 v∧Rw g5 w9 B 92 8 u' (St.dats (l++l5)) (xs++xs5):=by
 have hlt:=hr.row.lt;refine⟨hS.grow hg fun b e=>.inl (by have:=(hlt b e).1;omega),hG.grow hg fun b e=>⟨(hr.own b e).1,(hr.own b e).2,by have:=(hlt b e).1;omega⟩,?_⟩;rw[St.dats_app];exact hr.push hG.ok he (by rw[St.dats_len,St.dats_len];exact o) hg hl
theorem more_of (d:Int) (hd:d=3) (H:StmD d) {c:Dx}{g:GS}{w:World}{v:Gv}(h:Gs c g w v) (n:Nat) (few:v.n+n+8*(d+1).toNat≤999000):Calls Tryz.prog 62 #[.pointer (some ⟨c.G,0,none⟩),.int .i64 (n:Int)] w fun e w'=>∃ u,e=.returned u∧StsR c v g w v.n (v.n+n) (2*n) u w':=by
 subst hd;obtain⟨i0,hi0,hz0,hz1,hz2⟩:=info_parts Tryz.info92;have HH:Hid _:=H
 have h0:Hid (∃ (nv tv xv:Value) (n1:Nat),Gs c g w { v with nv:=nv,tv:=tv,xv:=xv,n:=n1 }∧v.n≤n1∧n1≤v.n+0):=⟨v.nv,v.tv,v.xv,v.n,h,Nat.le_refl _,Nat.le_refl _⟩
 have hBG:=h.new.2.2
 have HQ:Hid (∀ w' u,StsR c v g w v.n (v.n+n) (2*n) u w'→∃ u',Ending.returned u=.returned u'∧StsR c v g w v.n (v.n+n) (2*n) u' w'):=fun w' u q=>⟨u,rfl,q⟩
 generalize hQ:(fun (e:Ending) (w':World)=>∃ u,e=.returned u∧StsR c v g w v.n (v.n+n) (2*n) u w')=Q
 have HZ:Hid (∀ w' u,StsR c v g w v.n (v.n+n) (2*n) u w'→Q (.returned u) w'):=fun w' u q=>by rw[←hQ];exact⟨u,rfl,q⟩
 clear H h HQ hQ;go_enter Tryz.func62,Tryz.ntmps62;go_wp2_with fail
 go_loopw [5,6] (fun rv i wr=>∃ (k:Nat) (r:Value) (gk:GS) (nv tv xv:Value) (n1:Nat) (l:List St) (xs:List Value),r=rv∧i=.int .i64 (k:Int)∧k≤n∧Stp g w gk wr∧Gs c gk wr { v with nv:=nv,tv:=tv,xv:=xv,n:=n1 }∧v.n≤n1∧n1≤v.n+k∧Rw gk wr w.heap.size 92 8 r (St.dats l) xs∧St.goods l∧l.length≤2*k) (fun _ i _=>n - (intOf i).toNat)
 case atStart =>
  obtain⟨nv,tv,xv,n1,k1,k2,k3⟩:=h0.out;exact⟨0,_,g,nv,tv,xv,n1,[],[],rfl,rfl,Nat.zero_le _,Stp.refl _ _,k1,k2,k3,by rw[St.dats];exact Rw.nil _ _ _ _ _,trivial,Nat.le_refl _⟩
 case round =>
  clear h0;obtain⟨k,rv,gk,nv,tv,xv,n1,l,xs,rfl,rfl,hk,hS,hG,hn1,hn2,hR,hgd,hll⟩:=hrel;obtain⟨nx,lf,_,_,_,_,_,_,_,c7,_⟩:=hG.ten;have hrow:=hR.row;rw[St.dats_len]at hrow;obtain⟨ra,rc,hra⟩:=zac hrow;subst hra
  have HE:Hid (StsR c v g w v.n (v.n+n) (2*n) (.slice ra l.length rc) wr):=⟨gk,nv,tv,xv,n1,l,xs,hS,hG,hn1,by omega,hR,hgd,by omega⟩
  by_cases hlt:k<n
  ·have i1:(k:Int)<(n:Int):=by omega
   by_cases hp:0<lf
   ·have HC:=HH.out c gk wr _ hG (by show n1+_≤_;omega)
    have HX:Hid (Stp g w gk wr∧Gs c gk wr { v with nv:=nv,tv:=tv,xv:=xv,n:=n1 }∧Rw gk wr w.heap.size 92 8 (.slice ra l.length rc) (St.dats l) xs∧St.goods l):=⟨hS,hG,hR,hgd⟩
    clear hS hG hR hgd hrow;go_wp2_with fail
    refine HC.mono ?_;rintro e w5 ⟨u5,rfl,g5,nv5,tv5,xv5,n5,l5,s5,k5,hn5,hl5,hl6,gd5,r5⟩;obtain⟨hS,hG,hR,hgd⟩:=HX.out;have hS5:=hS.trans s5;have hR5:=hR.stp hG.ok s5;obtain⟨b5,o5,c5,xs5,hu5,hx5,hc5,he5⟩:=r5.cells (by rw[St.dats_len];omega);rw[St.dats_len]at hu5 hx5;subst hu5;have hone:=St.cellsAll l5 he5;have row5:=hR5.row;rw[St.dats_len]at row5;have hc5':∀ j z,xs5[j]?=some z→w5.cell? ((⟨b5,o5,none⟩:Addr).add j)=some z:=fun j z q=>by rw[Addr.add_lit];exact (zam (hc5 j z q)).2
    have hb5:w.heap.size≤w5.heap.size:=hS5.size;have k5':Gs c g5 w5 { v with nv:=nv5,tv:=tv5,xv:=xv5,n:=n5 }:=k5
    have hn5':v.n≤n5∧n5≤v.n+(k+1):=by
     rcases hn5 with e|e
     ·have:n5=n1:=e;omega
     ·have:n5=n1+1:=e;omega
    have HP:Hid (∀ u' w9,w9.ownsRow w.heap.size 92 8 u' (l.length+l5.length) (xs++xs5)→w5.grownBy w9 (Value.ownBlock (.slice ra l.length rc))→(u'.ownBlock=Value.ownBlock (.slice ra l.length rc)∨u'.ownBlock=some w5.heap.size)→∃ (k':Nat) (r:Value) (gk:GS) (nv tv xv:Value) (n1:Nat) (l:List St) (xs:List Value),r=u'∧Value.int .i64 ((k:Int)+1)=.int .i64 (k':Int)∧k'≤n∧Stp g w gk w9∧Gs c gk w9 { v with nv:=nv,tv:=tv,xv:=xv,n:=n1 }∧v.n≤n1∧n1≤v.n+k'∧Rw gk w9 w.heap.size 92 8 r (St.dats l) xs∧St.goods l∧l.length≤2*k'):=fun u' w9 o9 g9 h9=>by
     obtain⟨p1,p2,p3⟩:=Sts.push hS5 k5' (Nat.le_refl _) hBG hR5 he5 o9 g9 h9;exact⟨k+1,u',g5,nv5,tv5,xv5,n5,l++l5,xs++xs5,rfl,by simp,by omega,p1,p2,hn5'.1,hn5'.2,p3,St.goods_app _ _ hgd gd5,by rw[List.length_append];omega⟩
    clear k5 k5' s5 hS hG hR hgd hS5 hR5 r5 he5 hc5 HX HC HE hn5;go_wp2_with (at_builtin;refine wpList_append_own_at _ rfl _ _ 71 rfl w.heap.size 92 i0 (.agg #[.int .i64 0,.int .i64 0,.int .i64 0,.int .i64 0,.slice none 0 0,.slice none 0 0,.slice none 0 0,.slice none 0 0]) 8 128 Tryz.underlying71 hi0 hz0 hz1 hz2 rfl (by decide) _ _ _ rfl row5 ⟨b5,o5,none⟩ l5.length c5 xs5 rfl hx5 hc5' hone (by unfold maxLen;omega) (by omega) hb5 ?_;intro v9 w9 o9 g9 _ h9;have HPP:=HP.out _ _ o9 g9 h9)
    go_roundw
    case rel=>exact HPP
    case measure=>simp[intOf];omega
   ·clear HH hS hG hR hrow hgd;have HZ':=HZ.out _ _ HE.out;go_wp2_with fail
    exact HZ'
  ·have i1:¬ (k:Int)<(n:Int):=by omega
   have i2:decide ((k:Int)<(n:Int))=false:=decide_eq_false i1;clear HH hS hG hR hrow hgd;have HZ':=HZ.out _ _ HE.out;go_wp2_with fail
   exact HZ'
theorem sts_of (d:Int) (H:StmD d) {c:Dx}{g:GS}{w:World}{v:Gv}(h:Gs c g w v) (n:Nat) (few:v.n+n+8*(d+1).toNat≤999000):Calls Tryz.prog 117 #[.pointer (some ⟨c.G,0,none⟩),.int .i64 (n:Int),.int .i64 d] w fun e w'=>∃ u,e=.returned u∧StsR c v g w v.n v.n (2*n) u w':=by
 obtain⟨i0,hi0,hz0,hz1,hz2⟩:=info_parts Tryz.info92;have HH:Hid _:=H
 have h0:Hid (∃ (nv tv xv:Value) (n1:Nat),Gs c g w { v with nv:=nv,tv:=tv,xv:=xv,n:=n1 }∧v.n≤n1∧n1≤v.n+0):=⟨v.nv,v.tv,v.xv,v.n,h,Nat.le_refl _,Nat.le_refl _⟩
 have hBG:=h.new.2.2
 have HQ:Hid (∀ w' u,StsR c v g w v.n v.n (2*n) u w'→∃ u',Ending.returned u=.returned u'∧StsR c v g w v.n v.n (2*n) u' w'):=fun w' u q=>⟨u,rfl,q⟩
 generalize hQ:(fun (e:Ending) (w':World)=>∃ u,e=.returned u∧StsR c v g w v.n v.n (2*n) u w')=Q
 have HZ:Hid (∀ w' u,StsR c v g w v.n v.n (2*n) u w'→Q (.returned u) w'):=fun w' u q=>by rw[←hQ];exact⟨u,rfl,q⟩
 obtain⟨⟨na,np,hnv⟩,_⟩:=h.nvS;obtain⟨nx0,lf0,_,_,_,c3,_⟩:=h.ten;rw[hnv]at c3;clear H h HQ hQ hnv;go_enter Tryz.func117,Tryz.ntmps117;go_wp2_with fail
 go_loopw [8,9] (fun rv i wr=>∃ (k:Nat) (r:Value) (gk:GS) (nv tv xv:Value) (n1:Nat) (l:List St) (xs:List Value),r=rv∧i=.int .i64 (k:Int)∧k≤n∧Stp g w gk wr∧Gs c gk wr { v with nv:=nv,tv:=tv,xv:=xv,n:=n1 }∧v.n≤n1∧n1≤v.n+k∧Rw gk wr w.heap.size 92 8 r (St.dats l) xs∧St.goods l∧l.length≤2*k) (fun _ i _=>n - (intOf i).toNat)
 case atStart =>
  obtain⟨nv,tv,xv,n1,k1,k2,k3⟩:=h0.out;exact⟨0,_,g,nv,tv,xv,n1,[],[],rfl,rfl,Nat.zero_le _,Stp.refl _ _,k1,k2,k3,by rw[St.dats];exact Rw.nil _ _ _ _ _,trivial,Nat.le_refl _⟩
 case round =>
  clear h0;obtain⟨k,rv,gk,nv,tv,xv,n1,l,xs,rfl,rfl,hk,hS,hG,hn1,hn2,hR,hgd,hll⟩:=hrel;obtain⟨nx,lf,_,_,_,_,_,_,_,c7,_⟩:=hG.ten;have hrow:=hR.row;rw[St.dats_len]at hrow;obtain⟨ra,rc,hra⟩:=zac hrow;subst hra;have HU:Hid (Calls Tryz.prog 56 #[.pointer (some ⟨c.G,0,none⟩),.int .i64 (v.n:Int)] wr (NowP c { v with nv:=nv,tv:=tv,xv:=xv,n:=n1 } gk wr v.n)):=until_any hG v.n hn1
  have HE:Hid (∀ w',Now c { v with nv:=nv,tv:=tv,xv:=xv,n:=n1 } gk wr v.n w'→StsR c v g w v.n v.n (2*n) (.slice ra l.length rc) w'):=fun w' ⟨g7,nv7,tv7,xv7,s7,k7⟩=>⟨g7,nv7,tv7,xv7,v.n,l,xs,hS.trans s7,k7,Nat.le_refl _,Nat.le_refl _,hR.stp hG.ok s7,hgd,by omega⟩
  by_cases hlt:k<n
  ·have i1:(k:Int)<(n:Int):=by omega
   by_cases hp:0<lf
   ·have HC:=HH.out c gk wr _ hG (by show n1+_≤_;omega)
    have HX:Hid (Stp g w gk wr∧Gs c gk wr { v with nv:=nv,tv:=tv,xv:=xv,n:=n1 }∧Rw gk wr w.heap.size 92 8 (.slice ra l.length rc) (St.dats l) xs∧St.goods l):=⟨hS,hG,hR,hgd⟩
    clear hS hG hR hgd hrow;go_wp2_with fail
    refine HC.mono ?_;rintro e w5 ⟨u5,rfl,g5,nv5,tv5,xv5,n5,l5,s5,k5,hn5,hl5,hl6,gd5,r5⟩;obtain⟨hS,hG,hR,hgd⟩:=HX.out;have hS5:=hS.trans s5;have hR5:=hR.stp hG.ok s5;obtain⟨b5,o5,c5,xs5,hu5,hx5,hc5,he5⟩:=r5.cells (by rw[St.dats_len];omega);rw[St.dats_len]at hu5 hx5;subst hu5;have hone:=St.cellsAll l5 he5;have row5:=hR5.row;rw[St.dats_len]at row5;have hc5':∀ j z,xs5[j]?=some z→w5.cell? ((⟨b5,o5,none⟩:Addr).add j)=some z:=fun j z q=>by rw[Addr.add_lit];exact (zam (hc5 j z q)).2
    have hb5:w.heap.size≤w5.heap.size:=hS5.size;have k5':Gs c g5 w5 { v with nv:=nv5,tv:=tv5,xv:=xv5,n:=n5 }:=k5
    have hn5':v.n≤n5∧n5≤v.n+(k+1):=by
     rcases hn5 with e|e
     ·have:n5=n1:=e;omega
     ·have:n5=n1+1:=e;omega
    have HP:Hid (∀ u' w9,w9.ownsRow w.heap.size 92 8 u' (l.length+l5.length) (xs++xs5)→w5.grownBy w9 (Value.ownBlock (.slice ra l.length rc))→(u'.ownBlock=Value.ownBlock (.slice ra l.length rc)∨u'.ownBlock=some w5.heap.size)→∃ (k':Nat) (r:Value) (gk:GS) (nv tv xv:Value) (n1:Nat) (l:List St) (xs:List Value),r=u'∧Value.int .i64 ((k:Int)+1)=.int .i64 (k':Int)∧k'≤n∧Stp g w gk w9∧Gs c gk w9 { v with nv:=nv,tv:=tv,xv:=xv,n:=n1 }∧v.n≤n1∧n1≤v.n+k'∧Rw gk w9 w.heap.size 92 8 r (St.dats l) xs∧St.goods l∧l.length≤2*k'):=fun u' w9 o9 g9 h9=>by
     obtain⟨p1,p2,p3⟩:=Sts.push hS5 k5' (Nat.le_refl _) hBG hR5 he5 o9 g9 h9;exact⟨k+1,u',g5,nv5,tv5,xv5,n5,l++l5,xs++xs5,rfl,by simp,by omega,p1,p2,hn5'.1,hn5'.2,p3,St.goods_app _ _ hgd gd5,by rw[List.length_append];omega⟩
    clear k5 k5' s5 hS hG hR hgd hS5 hR5 r5 he5 hc5 HX HC HE HU hn5;go_wp2_with (at_builtin;refine wpList_append_own_at _ rfl _ _ 71 rfl w.heap.size 92 i0 (.agg #[.int .i64 0,.int .i64 0,.int .i64 0,.int .i64 0,.slice none 0 0,.slice none 0 0,.slice none 0 0,.slice none 0 0]) 8 128 Tryz.underlying71 hi0 hz0 hz1 hz2 rfl (by decide) _ _ _ rfl row5 ⟨b5,o5,none⟩ l5.length c5 xs5 rfl hx5 hc5' hone (by unfold maxLen;omega) (by omega) hb5 ?_;intro v9 w9 o9 g9 _ h9;have HPP:=HP.out _ _ o9 g9 h9)
    go_roundw
    case rel=>exact HPP
    case measure=>simp[intOf];omega
   ·clear HH hS hG hR hrow hgd;go_wp2_with fail
    refine HU.out.mono ?_;rintro e w7 ⟨u7,rfl,rfl,q7⟩;have HZ':=HZ.out _ _ (HE.out w7 q7);clear q7 HE HU;go_wp2_with fail
    exact HZ'
  ·have i1:¬ (k:Int)<(n:Int):=by omega
   have i2:decide ((k:Int)<(n:Int))=false:=decide_eq_false i1;clear HH hS hG hR hrow hgd;go_wp2_with fail
   refine HU.out.mono ?_;rintro e w7 ⟨u7,rfl,rfl,q7⟩;have HZ':=HZ.out _ _ (HE.out w7 q7);clear q7 HE HU;go_wp2_with fail
   exact HZ'
theorem Ec.stm1 {c:Dx}{v:Gv}{g0 g:GS}{w0 w:World}{nv tv xv:Value}{n1:Nat}(h:Ec c { v with nv:=nv,tv:=tv,xv:=xv,n:=n1 } g0 w0 g w) (e:n1=v.n∨n1=v.n+1) {b:Nat}(hb:w.heap.size=b) {k n tk tn:Int}{u0 u1 u2 u3:Value}(hx:StS (mask g w) k n tk tn u0 u1 u2 u3):Hid (StmR c v g0 w0 (.slice (some ⟨b,0,none⟩) 1 1) (w.alloc (.cells #[.int .i64 k,.int .i64 n,.int .i64 tk,.int .i64 tn,u0,u1,u2,u3] 92))):=by
 subst hb;have hN:=Lb.new h.gs [.int .i64 k,.int .i64 n,.int .i64 tk,.int .i64 tn,u0,u1,u2,u3] 92;have ov:=((Ov.later h.gs.ok (later1 w (.cells [.int .i64 k,.int .i64 n,.int .i64 tk,.int .i64 tn,u0,u1,u2,u3].toArray 92))).trans (Ov.seal _ _ w.heap.size)).sub;have h2:=(h.later (later1 _ _)).seal hN h.st.size;obtain⟨x,hg,hr⟩:=(hx.sub ov).rd;exact⟨_,nv,tv,xv,n1,[x],h2.st,h2.gs,e,Nat.le_refl _,by simp,⟨hg,trivial⟩,by rw[St.dats,St.dats];exact RdL.lit (l:=[x.dat]) hN.bx ((g.sealed _ _).2 (.inr rfl)) (by unfold maxLen;simp) (ElS.one rfl hr)⟩
theorem Ec.stm2 {c:Dx}{v:Gv}{g0 g:GS}{w0 w:World}{nv tv xv:Value}{n1:Nat}(h:Ec c { v with nv:=nv,tv:=tv,xv:=xv,n:=n1 } g0 w0 g w) (e:n1=v.n∨n1=v.n+1) {b:Nat}(hb:w.heap.size=b) {k n tk tn:Int}{u0 u1 u2 u3:Value}(hx:StS (mask g w) k n tk tn u0 u1 u2 u3) {k' n' tk' tn':Int}{u0' u1' u2' u3':Value}(hy:StS (mask g w) k' n' tk' tn' u0' u1' u2' u3'):Hid (StmR c v g0 w0 (.slice (some ⟨b,0,none⟩) 2 2) (w.alloc (.cells #[.int .i64 k,.int .i64 n,.int .i64 tk,.int .i64 tn,u0,u1,u2,u3,.int .i64 k',.int .i64 n',.int .i64 tk',.int .i64 tn',u0',u1',u2',u3'] 92))):=by
 subst hb;have hN:=Lb.new h.gs [.int .i64 k,.int .i64 n,.int .i64 tk,.int .i64 tn,u0,u1,u2,u3,.int .i64 k',.int .i64 n',.int .i64 tk',.int .i64 tn',u0',u1',u2',u3'] 92;have ov:=((Ov.later h.gs.ok (later1 w (.cells [.int .i64 k,.int .i64 n,.int .i64 tk,.int .i64 tn,u0,u1,u2,u3,.int .i64 k',.int .i64 n',.int .i64 tk',.int .i64 tn',u0',u1',u2',u3'].toArray 92))).trans (Ov.seal _ _ w.heap.size)).sub;have h2:=(h.later (later1 _ _)).seal hN h.st.size;obtain⟨x,hg,hr⟩:=(hx.sub ov).rd;obtain⟨y,hg',hr'⟩:=(hy.sub ov).rd;have hh:=ElS.two (k:=8) rfl rfl hr hr';exact⟨_,nv,tv,xv,n1,[x,y],h2.st,h2.gs,e,by simp,Nat.le_refl _,⟨hg,hg',trivial⟩,by rw[St.dats,St.dats,St.dats];exact RdL.lit (l:=[x.dat,y.dat]) hN.bx ((g.sealed _ _).2 (.inr rfl)) (by unfold maxLen;simp) hh⟩
theorem Ec.stmK {c:Dx}{v:Gv}{g0 g:GS}{w0 w:World}{nv tv xv:Value}{n1:Nat}(h:Ec c { v with nv:=nv,tv:=tv,xv:=xv,n:=n1 } g0 w0 g w) (e:n1=v.n∨n1=v.n+1) {b:Nat}(hb:w.heap.size=b) {k1 m1 tk1 tn1:Int}{x0 x1:Value}(hx:ExS (mask g w) k1 m1 tk1 tn1 x0 x1) {k n tk tn:Int}(hn:InR n) {a0:Option Addr}{n0 c0:Nat}(hm:NmS (mask g w) (.slice a0 n0 c0)):Hid (StmR c v g0 w0 (.slice (some ⟨b+1,0,none⟩) 1 1) ((w.alloc (.cells #[.int .i64 k1,.int .i64 m1,.int .i64 tk1,.int .i64 tn1,x0,x1] 89)).alloc (.cells #[.int .i64 k,.int .i64 n,.int .i64 tk,.int .i64 tn,.slice a0 n0 c0,.slice (some ⟨b,0,none⟩) 1 1,.slice none 0 0,.slice none 0 0] 92))):=by
 obtain⟨g',h2,o2,hk⟩:=h.list1 hb hx;have hs:(w.alloc (.cells #[.int .i64 k1,.int .i64 m1,.int .i64 tk1,.int .i64 tn1,x0,x1] 89)).heap.size=b+1:=by rw[←hb];simp
 exact h2.stm1 e hs ⟨hm.sub o2,hk,BoS.nil _,BoS.nil _,hn⟩
end Go.Proofs.YtgholpilmdebmaaGreatDoor
