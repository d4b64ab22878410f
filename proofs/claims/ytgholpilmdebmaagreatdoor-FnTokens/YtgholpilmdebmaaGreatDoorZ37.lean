import Derived.Test.YtgholpilmdebmaaGreatDoorZ35
import Derived.Test.YtgholpilmdebmaaGreatDoorZ36
set_option maxHeartbeats 100000000
set_option maxRecDepth 100000
namespace Go.Proofs.YtgholpilmdebmaaGreatDoor
open Go.RowKit Go.Maps
def Ldq (t:TypeId) (o:Operand):Op:=Op.load t o
theorem expr_of (d:Int) (hd0:-1≤d) (hd1:d≤3) (H:∀ e,-1≤e→e<d→ExD e):ExD d:=by
 intro c g w v tk tn h hn;have H0:Hid _:=H;have HN:Hid _:=hn;obtain⟨nx,lf,c0,_,_,_,_,_,_,c7,_,_,fz,hG⟩:=h.ten;have f7:=fz 7 (by decide);obtain⟨k0,s0⟩:=h.setN (wrap64 (lf - 1));obtain⟨w1,hw1,x1,hs1⟩:=k0.boxes tk tn;rw[World.size_setCell]at x1 hs1
 have hZ0:∀ e w',AnsP c v g (w.setCell ⟨c.G,7,none⟩ (.int .i64 (wrap64 (lf - 1)))) ExV e w'→AnsP c v g w ExV e w':=fun e w' ⟨u,e1,g',q1,q2,q3⟩=>⟨u,e1,g',s0.trans q1,q2,q3⟩
 have HV:=zcq x1.ec.gs tk tn false;have H1:Hid (Fx c v g (w.setCell ⟨c.G,7,none⟩ (.int .i64 (wrap64 (lf - 1)))) w.heap.size (w.heap.size+1) tk tn g w1):=x1
 generalize AnsP c v g w ExV=Q at *
 have HZ:Hid _:=hZ0;clear hZ0 h fz H hn x1 s0 k0;go_enter Tryz.func60,Tryz.ntmps60;go_wp2_with fail
 rw[←hw1.out];clear hw1 c0 c7 f7 hG hs1
 generalize w.heap.size+1=R at *
 generalize w.heap.size=T at *
 generalize w.setCell ⟨c.G,7,none⟩ (.int .i64 (wrap64 (lf - 1)))=w0 at *
 refine HV.mono ?_;rintro e w2 ⟨u,m,rfl,l2,hm,hV⟩;have H2:Hid (Fx c v g w0 T R tk tn g w2):=H1.out.later l2;have HV2:Hid (Vs c g w2 v.n u m):=hV;obtain⟨ua,up,hu⟩:=hV.slice;subst hu;clear HV H1 l2 hV;go_upto_region 3 with fail
 go_cut [38] from 29 to 37 (fun s38 wx=>∃ (b:Bool) (g3:GS),s38=.bool b∧(b=true→0<m)∧Fx c v g w0 T R tk tn g3 wx∧Vs c g3 wx v.n (.slice ua m up) m)
 case first =>
  obtain⟨nx,lf2,c0,_⟩:=H2.out.ec.gs.ten;by_cases hm0:0<m
  ·have i1:(0:Int)<(m:Int):=by omega
   have HO:=zce H2.out.ec.gs 2 (by decide) (by decide);go_wp2_with fail
   refine HO.mono ?_;rintro e w3 ⟨_,rfl,g3,s3,k3,b,rfl⟩;have x3:=H2.out.call s3 k3;have hV3:=HV2.out.stp s3
   have HE:Hid (∃ (b':Bool) (g3:GS),Value.bool b=.bool b'∧(b'=true→0<m)∧Fx c v g w0 T R tk tn g3 w3∧Vs c g3 w3 v.n (.slice ua m up) m):=⟨b,g3,rfl,fun _=>hm0,x3,hV3⟩
   clear x3 hV3 s3 k3 HO;go_wp2_with fail
   go_meet
   case rel=>exact HE.out
  ·have i1:¬ (0:Int)<(m:Int):=by omega
   have i2:decide ((0:Int)<(m:Int))=false:=decide_eq_false i1
   have HE:Hid (∃ (b':Bool) (g3:GS),Value.bool false=.bool b'∧(b'=true→0<m)∧Fx c v g w0 T R tk tn g3 w2∧Vs c g3 w2 v.n (.slice ua m up) m):=⟨false,g,rfl,(fun q=>(by cases q)),H2.out,HV2.out⟩
   go_wp2_with fail
   go_meet
   case rel=>exact HE.out
 case rest =>
  obtain⟨b,g3,rfl,hb,x3,hV3⟩:=hcut
  generalize wc=w3 at *
  clear H2 HV2
  cases b with
  | true =>
   have hm0:=hb rfl;clear hb;obtain⟨nx,lf2,c0,_⟩:=x3.ec.gs.ten;have HB:=zal x3.ec.gs (m:Int) (by omega) (by omega);have X3:Hid (Fx c v g w0 T R tk tn g3 w3):=x3;have V3:Hid (Vs c g3 w3 v.n (.slice ua m up) m):=hV3;clear x3 hV3;go_wp2_with fail
   refine HB.mono ?_;rintro e w4 ⟨_,rfl,g4,s4,k4,z,rfl,z0,z1⟩;have x4:=X3.out.call s4 k4;obtain⟨vb,i,rfl,hvb,hvc,hin⟩:=(V3.out.stp s4).at z.toNat (by omega);have HI:=var_any x4.ec.gs i hin;have X4:Hid (Fx c v g w0 T R tk tn g4 w4):=x4;clear x4 X3 V3 HB c0;go_wp2_with fail
   refine HI.mono ?_;rintro e w5 ⟨_,rfl,g5,s5,k5,yk,yn,ytk,ytn,ya0,yn0,yc0,ya1,yn1,yc1,rfl,hy⟩;have x5:=X4.out.call s5 k5;obtain⟨⟨⟨qa0,f0⟩,⟨qa1,f1⟩,⟨qa2,f2⟩,⟨qa3,f3⟩,⟨qa4,f4⟩,⟨qa5,f5⟩⟩,qal⟩:=x5.br.bx.c6;obtain⟨W,hW,bW,HW⟩:=x5.ec.fin x5.br x5.hr hy;have HW:=HZ.out _ _ HW.out;obtain⟨⟨⟨e0,_⟩,⟨e1,_⟩,⟨e2,_⟩,⟨e3,_⟩,⟨e4,_⟩,⟨e5,_⟩⟩,_⟩:=bW.c6;clear x5 HZ bW hy X4 HI hvc;go_wp2_with fail
   rw[←hW.out];exact bodyPost_ret (v:=.agg #[.int .i64 yk,.int .i64 yn,.int .i64 ytk,.int .i64 ytn,.slice ya0 yn0 yc0,.slice ya1 yn1 yc1]) (by simp[results,Tryz.results60,go_sem,e0,e1,e2,e3,e4,e5]) rfl HW
  | false =>
   clear hb hV3;have X3:Hid (Fx c v g w0 T R tk tn g3 w3):=x3;obtain⟨nx,lf2,c0,_,_,_,_,_,_,c7,_⟩:=x3.ec.gs.ten;obtain⟨t0,t1,_⟩:=x3.S;have HP:=plain_any x3.ec.gs tk tn HN.out;have HB:=zal x3.ec.gs 7 (by decide) (by decide);clear x3;by_cases hd:d≤0
   ·go_wp2_with fail
    refine HP.mono ?_;rintro e w5 ⟨_,rfl,g5,s5,k5,yk,yn,ytk,ytn,ya0,yn0,yc0,ya1,yn1,yc1,rfl,hy⟩;have x5:=X3.out.call s5 k5;obtain⟨⟨⟨qa0,f0⟩,⟨qa1,f1⟩,⟨qa2,f2⟩,⟨qa3,f3⟩,⟨qa4,f4⟩,⟨qa5,f5⟩⟩,qal⟩:=x5.br.bx.c6;obtain⟨W,hW,bW,HW⟩:=x5.ec.fin x5.br x5.hr hy;have HW:=HZ.out _ _ HW.out;obtain⟨⟨⟨e0,_⟩,⟨e1,_⟩,⟨e2,_⟩,⟨e3,_⟩,⟨e4,_⟩,⟨e5,_⟩⟩,_⟩:=bW.c6;clear x5 HZ bW hy X3 HP HB;go_wp2_with fail
    rw[←hW.out];exact bodyPost_ret (v:=.agg #[.int .i64 yk,.int .i64 yn,.int .i64 ytk,.int .i64 ytn,.slice ya0 yn0 yc0,.slice ya1 yn1 yc1]) (by simp[results,Tryz.results60,go_sem,e0,e1,e2,e3,e4,e5]) rfl HW
   ·by_cases hl:lf2<0
    ·go_wp2_with fail
     refine HP.mono ?_;rintro e w5 ⟨_,rfl,g5,s5,k5,yk,yn,ytk,ytn,ya0,yn0,yc0,ya1,yn1,yc1,rfl,hy⟩;have x5:=X3.out.call s5 k5;obtain⟨⟨⟨qa0,f0⟩,⟨qa1,f1⟩,⟨qa2,f2⟩,⟨qa3,f3⟩,⟨qa4,f4⟩,⟨qa5,f5⟩⟩,qal⟩:=x5.br.bx.c6;obtain⟨W,hW,bW,HW⟩:=x5.ec.fin x5.br x5.hr hy;have HW:=HZ.out _ _ HW.out;obtain⟨⟨⟨e0,_⟩,⟨e1,_⟩,⟨e2,_⟩,⟨e3,_⟩,⟨e4,_⟩,⟨e5,_⟩⟩,_⟩:=bW.c6;clear x5 HZ bW hy X3 HP HB;go_wp2_with fail
     rw[←hW.out];exact bodyPost_ret (v:=.agg #[.int .i64 yk,.int .i64 yn,.int .i64 ytk,.int .i64 ytn,.slice ya0 yn0 yc0,.slice ya1 yn1 yc1]) (by simp[results,Tryz.results60,go_sem,e0,e1,e2,e3,e4,e5]) rfl HW
    ·clear HP;go_wp2_with fail
     refine HB.mono ?_;rintro e w4 ⟨_,rfl,g4,s4,k4,z,rfl,z0,z1⟩;have X4:Hid (Fx c v g w0 T R tk tn g4 w4):=X3.out.call s4 k4;clear X3 HB s4 k4 c0 c7 t0 t1 hl;go_upto_block 0 with fail
     refine wp_cutF 8 377 (fun wx=>∃ (g5:GS),Fx c v g w0 T R tk tn g5 wx) ?rest ?first
     case first =>
      intro J1 K1 hJ1 hK1;by_cases hz:z=0
      ·subst hz;go_wp2_with fail
       go_loopw [8] (fun i' wr=>∃ (j:Nat),i'=.int .i64 (j:Int)∧j≤v.ss.length∧Later w4 wr) (fun i' _=>v.ss.length - (intOf i').toNat)
       case atStart=>exact⟨0,rfl,Nat.zero_le _,Later.refl _⟩
       case round =>
        obtain⟨j,rfl,hj,lr⟩:=hrel;have x5:=X4.out.later lr;have X5:Hid (Fx c v g w0 T R tk tn g4 wr):=x5;obtain⟨_,_,_,_,sa,sp,hsv⟩:=x5.ec.gs.nvS;have cG1:=x5.G1;rw[hsv]at cG1;have hsok:=x5.ec.gs.sok;have HSv:Hid _:=hsv;by_cases hlt:j<v.ss.length
        ·have j1:(j:Int)<(v.ss.length:Int):=by omega
         have hsl:=hsok.1;have hfl:=(hsok.2 j hlt).2.1;have hjr:InR (j:Int):=by unfold InR;omega
         have HV:=zcq x5.ec.gs 3 (j:Int) false;have hss:=x5.ec.gs.ss;rw[hsv]at hss;obtain⟨sb,so,un,uf,e1,hsb,_,m1,_,rf⟩:=Sc.elem hss j hlt;subst e1;obtain⟨pa,pp,e2,_⟩:=Pa.slice rf;subst e2;have M1:Hid _:=m1
         have HEl:Hid (∀ k (hk:k<v.ss[j].fields.length),∃ pb po na nn nc qk qn,pa=some ⟨pb,po,none⟩∧(mask g4 wr).cell? ⟨pb,po+k*3,none⟩=some (.slice na nn nc)∧(mask g4 wr).cell? ⟨pb,po+k*3+1,none⟩=some (.int .i64 qk)∧(mask g4 wr).cell? ⟨pb,po+k*3+2,none⟩=some (.int .i64 qn)∧NmS (mask g4 wr) (.slice na nn nc)):=fun k hk=>by
          obtain⟨pb,po,u0,e3,_,d0,d1,d2,r0⟩:=Pa.elem rf k hk;obtain⟨na,nc,e4,_⟩:=r0.slice;subst e4;exact⟨pb,po,na,_,nc,_,_,e3,d0,d1,d2,_,r0⟩
         clear hss rf m1 hsok hsb hsv;go_wp2_with fail
         refine HV.mono ?_;rintro e w5 ⟨p,m,rfl,l5,hm,hV⟩;have X6:Hid (Fx c v g w0 T R tk tn g4 w5):=X5.out.later l5;have HV5:Hid (Vs c g4 w5 v.n p m):=hV;obtain⟨va,vp,hp⟩:=hV.slice;subst hp;have O5:Hid (Ov g4 wr g4 w5):=Ov.later X5.out.ec.gs.ok l5;have L5:Hid (Later w4 w5):=lr.trans l5
         generalize hnf:v.ss[j].fields.length=nf at *
         clear HV hV l5 cG1 x5;go_wp2_with fail
         generalize wr=wo at *
         go_loopw [10] (fun k' wr=>∃ (k:Nat),k'=.int .i64 (k:Int)∧k≤nf∧Later w5 wr) (fun k' _=>nf - (intOf k').toNat)
         case atStart=>exact⟨0,rfl,Nat.zero_le _,Later.refl _⟩
         case round =>
          obtain⟨k,rfl,hk,lr2⟩:=hrel;have x7:=X6.out.later lr2;have o7:=O5.out.trans (Ov.later X6.out.ec.gs.ok lr2);have n1:=o7.real M1.out;have cG1:=x7.G1;rw[HSv.out]at cG1;have L7:Hid (Later w4 wr):=L5.out.trans lr2;by_cases hk1:k<nf
          ·have i1:(k:Int)<(nf:Int):=by omega
           by_cases hm0:0<m
           ·have i2:(0:Int)<(m:Int):=by omega
            obtain⟨pb,po,na,nn,nc,ptk,ptn,e3,d0,d1,d2,hnm⟩:=HEl.out k (by omega);subst e3;have n2:=o7.real d0;have n3:=o7.real d1;have n4:=o7.real d2;have M2:Hid ((mask g4 wr).cell? ⟨pb,po+k*3,none⟩=some (.slice na nn nc)):=o7.cell d0;have M1':Hid ((mask g4 wr).cell? ⟨sb,so+j*2+1,none⟩=some (.slice (some ⟨pb,po,none⟩) nf pp)):=o7.cell M1.out;have HNm:Hid (NmS (mask g4 wr) (.slice na nn nc)):=hnm.sub o7.sub;have V7:Hid (Vs c g4 wr v.n (.slice va m vp) m):=HV5.out.stp ((Stp.refl _ _).later lr2);have X7:Hid (Fx c v g w0 T R tk tn g4 wr):=x7;obtain⟨t0,t1,c0⟩:=x7.S;have qT:=eqTyD;have LQ:Hid (Later w5 wr):=lr2;clear d0 d1 d2 hnm x7 o7 lr2 M1
            cases hc:((ptk==tk)&&(ptn==tn)) with
            | true =>
             go_wp2_with fail
             go_quiet (fail)
             go_upto_region 17 with fail
             have x8:=X7.out.later (laterN wr nq);have o8:=Ov.later X7.out.ec.gs.ok (laterN wr nq);have N1:Hid ((mask g4 (wr.drewN nq)).cell? ⟨sb,so+j*2+1,none⟩=some (.slice (some ⟨pb,po,none⟩) nf pp)):=o8.cell M1'.out;have N2:Hid ((mask g4 (wr.drewN nq)).cell? ⟨pb,po+k*3,none⟩=some (.slice na nn nc)):=o8.cell M2.out;have N3:Hid (NmS (mask g4 (wr.drewN nq)) (.slice na nn nc)):=HNm.out.sub o8.sub;have N4:Hid (Vs c g4 (wr.drewN nq) v.n (.slice va m vp) m):=V7.out.stp ((Stp.refl _ _).later (laterN wr nq));clear o8 X7 M1' M2 HNm V7 X6 HV5 HEl O5 L5 L7 LQ X5 n1 n2 n3 n4 cG1 t0 t1 c0
             generalize wr.drewN nq=w8 at *
             obtain⟨vb,_,rfl,_,_,_⟩:=N4.out.at 0 hm0;have HB:=x8.below (m:Int) (by omega) (by omega)
             have k8:Hid (w8.drew.cell? ⟨c.G,0,none⟩=some (.pointer (some ⟨c.K,0,none⟩))∧w8.drew.cell? ⟨c.G,1,none⟩=some (.slice (some ⟨sb,so,none⟩) v.ss.length sp)∧w8.drew.cell? ⟨sb,so+j*2+1,none⟩=some (.slice (some ⟨pb,po,none⟩) nf pp)∧w8.drew.cell? ⟨pb,po+k*3,none⟩=some (.slice na nn nc)):=(by have x8:=x8.later (Later.drew w8);have o8:=Ov.later x8.ec.gs.ok (Later.refl w8.drew);exact (by have z1:=x8.S.2.2;have z2:=x8.G1;rw[HSv.out]at z2;exact⟨z1,z2,(zam N1.out).2,(zam N2.out).2⟩))
             have k0:Hid (w8.cell? ⟨c.G,0,none⟩=some (.pointer (some ⟨c.K,0,none⟩))∧w8.cell? ⟨c.G,1,none⟩=some (.slice (some ⟨sb,so,none⟩) v.ss.length sp)∧w8.cell? ⟨sb,so+j*2+1,none⟩=some (.slice (some ⟨pb,po,none⟩) nf pp)∧w8.cell? ⟨pb,po+k*3,none⟩=some (.slice na nn nc)):=(by have z1:=x8.S.2.2;have z2:=x8.G1;rw[HSv.out]at z2;exact⟨z1,z2,(zam N1.out).2,(zam N2.out).2⟩)
             obtain⟨tt0,tt1,tt2,tt3⟩:=k0.out;have hLd:∀ t o,Ldq t o=Op.load t o:=fun _ _=>rfl;rw[show Op.load 3 (Operand.tmp 136)=Ldq 3 (Operand.tmp 136) from rfl]
             go_region_held3 (fun w'=>w'.cell? ⟨c.G,0,none⟩=some (.pointer (some ⟨c.K,0,none⟩))∧w'.cell? ⟨c.G,1,none⟩=some (.slice (some ⟨sb,so,none⟩) v.ss.length sp)∧w'.cell? ⟨sb,so+j*2+1,none⟩=some (.slice (some ⟨pb,po,none⟩) nf pp)∧w'.cell? ⟨pb,po+k*3,none⟩=some (.slice na nn nc)) (first|with_reducible exact k8.out|with_reducible exact k9.out|with_reducible exact k10.out|with_reducible exact ka.out _|with_reducible exact kb.out _ _ _ _ _ _|with_reducible exact kc.out _ _ _ _ _ _ _) (first
              | ((fail_if_success (have _g:=x9));have _g:=x8;refine zaa rfl 39 zaw _ _ rfl [.pointer (some ⟨c.K,0,none⟩),.int .i64 (m:Int)] rfl _ (HB.out _ (Later.drew _)) ?_;rintro u9 w9 ⟨g9,s9,k9',z,rfl,hz⟩;have x9:=x8.call s9 k9';have N1b:=(Ov.stp x8.ec.gs.ok s9).cell N1.out;have N2b:=(Ov.stp x8.ec.gs.ok s9).cell N2.out;have N3b:Hid (NmS (mask g9 w9) (.slice na nn nc)):=N3.out.sub (Ov.stp x8.ec.gs.ok s9).sub;obtain⟨vb2,i,ev,hvb,hvc,hin⟩:=(N4.out.stp s9).at z.toNat (by omega);cases ev;have z0:=hz.1;have z1:=hz.2;have k9:Hid (w9.cell? ⟨c.G,0,none⟩=some (.pointer (some ⟨c.K,0,none⟩))∧w9.cell? ⟨c.G,1,none⟩=some (.slice (some ⟨sb,so,none⟩) v.ss.length sp)∧w9.cell? ⟨sb,so+j*2+1,none⟩=some (.slice (some ⟨pb,po,none⟩) nf pp)∧w9.cell? ⟨pb,po+k*3,none⟩=some (.slice na nn nc)):=(by have z1:=x9.S.2.2;have z2:=x9.G1;rw[HSv.out]at z2;exact⟨z1,z2,(zam N1b).2,(zam N2b).2⟩);have M1:Hid _:=N1b;have M2:Hid _:=N2b;clear N1b N2b)
              | ((fail_if_success (have _g:=x10));have _g:=x9;refine zaa rfl 90 en_var _ _ rfl [.pointer (some ⟨c.G,0,none⟩),.int .i64 (i:Int)] rfl _ (AnsP.call (Later.refl _) (var_any x9.ec.gs i hin)) ?_;rintro u10 w10 ⟨g10,s10,k10',yk,yn,ytk,ytn,ya0,yn0,yc0,ya1,yn1,yc1,rfl,hy⟩;have x10:=x9.call s10 k10';have N1b:=(Ov.stp x9.ec.gs.ok s10).cell M1.out;have N2b:=(Ov.stp x9.ec.gs.ok s10).cell M2.out;have N3c:=N3b.out.sub (Ov.stp x9.ec.gs.ok s10).sub;have k10:Hid (w10.cell? ⟨c.G,0,none⟩=some (.pointer (some ⟨c.K,0,none⟩))∧w10.cell? ⟨c.G,1,none⟩=some (.slice (some ⟨sb,so,none⟩) v.ss.length sp)∧w10.cell? ⟨sb,so+j*2+1,none⟩=some (.slice (some ⟨pb,po,none⟩) nf pp)∧w10.cell? ⟨pb,po+k*3,none⟩=some (.slice na nn nc)):=(by have z1:=x10.S.2.2;have z2:=x10.G1;rw[HSv.out]at z2;exact⟨z1,z2,(zam N1b).2,(zam N2b).2⟩);obtain⟨⟨⟨qa0,f0⟩,⟨qa1,f1⟩,⟨qa2,f2⟩,⟨qa3,f3⟩,⟨qa4,f4⟩,⟨qa5,f5⟩⟩,qal⟩:=x10.br.bx.c6;have ka:Hid (∀ o:Obj,(w10.alloc o).cell? ⟨c.G,0,none⟩=some (.pointer (some ⟨c.K,0,none⟩))∧(w10.alloc o).cell? ⟨c.G,1,none⟩=some (.slice (some ⟨sb,so,none⟩) v.ss.length sp)∧(w10.alloc o).cell? ⟨sb,so+j*2+1,none⟩=some (.slice (some ⟨pb,po,none⟩) nf pp)∧(w10.alloc o).cell? ⟨pb,po+k*3,none⟩=some (.slice na nn nc)):=fun o=>(by have z:=x10.later (later1 _ o);have z1:=z.S.2.2;have z2:=z.G1;rw[HSv.out]at z2;exact⟨z1,z2,(Ov.later x10.ec.gs.ok (later1 _ o)).real N1b,(Ov.later x10.ec.gs.ok (later1 _ o)).real N2b⟩);have kb:Hid (∀ v0 v1 v2 v3 v4 v5:Value,((((((w10.setCell ⟨R,0,none⟩ v0).setCell ⟨R,1,none⟩ v1).setCell ⟨R,2,none⟩ v2).setCell ⟨R,3,none⟩ v3).setCell ⟨R,4,none⟩ v4).setCell ⟨R,5,none⟩ v5).cell? ⟨c.G,0,none⟩=some (.pointer (some ⟨c.K,0,none⟩))∧((((((w10.setCell ⟨R,0,none⟩ v0).setCell ⟨R,1,none⟩ v1).setCell ⟨R,2,none⟩ v2).setCell ⟨R,3,none⟩ v3).setCell ⟨R,4,none⟩ v4).setCell ⟨R,5,none⟩ v5).cell? ⟨c.G,1,none⟩=some (.slice (some ⟨sb,so,none⟩) v.ss.length sp)∧((((((w10.setCell ⟨R,0,none⟩ v0).setCell ⟨R,1,none⟩ v1).setCell ⟨R,2,none⟩ v2).setCell ⟨R,3,none⟩ v3).setCell ⟨R,4,none⟩ v4).setCell ⟨R,5,none⟩ v5).cell? ⟨sb,so+j*2+1,none⟩=some (.slice (some ⟨pb,po,none⟩) nf pp)∧((((((w10.setCell ⟨R,0,none⟩ v0).setCell ⟨R,1,none⟩ v1).setCell ⟨R,2,none⟩ v2).setCell ⟨R,3,none⟩ v3).setCell ⟨R,4,none⟩ v4).setCell ⟨R,5,none⟩ v5).cell? ⟨pb,po+k*3,none⟩=some (.slice na nn nc)):=fun v0 v1 v2 v3 v4 v5=>(by have z1:=(x10.S6 v0 v1 v2 v3 v4 v5).2.2;have z3:=x10.real6 N1b v0 v1 v2 v3 v4 v5;have z4:=x10.real6 N2b v0 v1 v2 v3 v4 v5;have z2:=z3.2;rw[HSv.out]at z2;exact⟨z1,z2,z3.1,z4.1⟩);have kc:Hid (∀ (o:Obj) (v0 v1 v2 v3 v4 v5:Value),(((((((w10.setCell ⟨R,0,none⟩ v0).setCell ⟨R,1,none⟩ v1).setCell ⟨R,2,none⟩ v2).setCell ⟨R,3,none⟩ v3).setCell ⟨R,4,none⟩ v4).setCell ⟨R,5,none⟩ v5).alloc o).cell? ⟨c.G,0,none⟩=some (.pointer (some ⟨c.K,0,none⟩))∧(((((((w10.setCell ⟨R,0,none⟩ v0).setCell ⟨R,1,none⟩ v1).setCell ⟨R,2,none⟩ v2).setCell ⟨R,3,none⟩ v3).setCell ⟨R,4,none⟩ v4).setCell ⟨R,5,none⟩ v5).alloc o).cell? ⟨c.G,1,none⟩=some (.slice (some ⟨sb,so,none⟩) v.ss.length sp)∧(((((((w10.setCell ⟨R,0,none⟩ v0).setCell ⟨R,1,none⟩ v1).setCell ⟨R,2,none⟩ v2).setCell ⟨R,3,none⟩ v3).setCell ⟨R,4,none⟩ v4).setCell ⟨R,5,none⟩ v5).alloc o).cell? ⟨sb,so+j*2+1,none⟩=some (.slice (some ⟨pb,po,none⟩) nf pp)∧(((((((w10.setCell ⟨R,0,none⟩ v0).setCell ⟨R,1,none⟩ v1).setCell ⟨R,2,none⟩ v2).setCell ⟨R,3,none⟩ v3).setCell ⟨R,4,none⟩ v4).setCell ⟨R,5,none⟩ v5).alloc o).cell? ⟨pb,po+k*3,none⟩=some (.slice na nn nc)):=fun o v0 v1 v2 v3 v4 v5=>(by have z1:=(x10.S7 o v0 v1 v2 v3 v4 v5).2.2;have z3:=x10.real7 N1b o v0 v1 v2 v3 v4 v5;have z4:=x10.real7 N2b o v0 v1 v2 v3 v4 v5;have z2:=z3.2;rw[HSv.out]at z2;exact⟨z1,z2,z3.1,z4.1⟩);clear N1b N2b))
             obtain⟨W,hW,bW,HW⟩:=x10.ec.fin1 x10.br x10.hr (k:=7) (n:=0) (tk:=0) (tn:=0) (by unfold InR;omega) N3c hy;have HW:=HZ.out _ _ HW.out;obtain⟨⟨⟨e0,_⟩,⟨e1,_⟩,⟨e2,_⟩,⟨e3,_⟩,⟨e4,_⟩,⟨e5,_⟩⟩,_⟩:=bW.c6;clear HZ bW k0 ka kb kc k8 k9 k10 x8 x9 x10 N1 N2 N3 N4 N3b N3c M1 M2 hy H0 HN HB HSv s9 s10 k9' k10' X4;go_wp2_with fail
             rw[←hW.out];exact bodyPost_ret (v:=.agg #[.int .i64 7,.int .i64 0,.int .i64 0,.int .i64 0,.slice na nn nc,.slice (some ⟨w10.heap.size,0,none⟩) 1 1]) (by simp[results,Tryz.results60,go_sem,e0,e1,e2,e3,e4,e5]) rfl HW
            | false =>
             go_wp2_with fail
             go_quiet (fail)
             go_wp2_with fail
             go_roundw
             case rel=>exact⟨k+1,by simp,by omega,LQ.out.trans (laterN _ _)⟩
             case measure=>simp[intOf];omega
           ·have i2:¬ (0:Int)<(m:Int):=by omega
            have i3:decide ((0:Int)<(m:Int))=false:=decide_eq_false i2;clear x7 o7;go_wp2_with fail
            go_roundw
            case rel=>exact⟨j+1,by simp,by omega,L7.out⟩
            case measure=>simp[intOf];omega
          ·have i1:¬ (k:Int)<(nf:Int):=by omega
           have i2:decide ((k:Int)<(nf:Int))=false:=decide_eq_false i1;clear x7 o7;go_wp2_with fail
           go_roundw
           case rel=>exact⟨j+1,by simp,by omega,L7.out⟩
           case measure=>simp[intOf];omega
        ·have j1:¬ (j:Int)<(v.ss.length:Int):=by omega
         have j2:decide ((j:Int)<(v.ss.length:Int))=false:=decide_eq_false j1
         have HE:Hid (∃ (g5:GS),Fx c v g w0 T R tk tn g5 wr):=⟨_,x5⟩
         clear x5 X5 hsok HSv hsv;go_wp2_with fail
         exact meetF hJ1 rfl HE.out
      ·have hz':(z==0)=false:=by simpa using hz
       by_cases hz1:z=1
       ·subst hz1;have HLs:=list_any tk tn w4;have hq0:=lsOf_in (k:=tk) HN.out
        generalize lsOf tk tn=q at *
        obtain⟨q1,q2,q3⟩:=q;obtain⟨t0,t1,c0⟩:=X4.out.S;go_wp2_with fail
        refine HLs.mono ?_;rintro e w5 ⟨rfl,l5⟩;have x5:=X4.out.later l5;obtain⟨w6,hw6⟩:=hidx (w5.alloc (.cells #[.int .i64 q1,.int .i64 q2] 67))
        have x6:Fy c v g w0 T R tk tn [(w5.heap.size,q1,q2)] g4 w6:=by
         rw[hw6.out];exact Fy.new (xs:=[]) ⟨x5,fun p q=>(by cases q)⟩ q1 q2 rfl
        have hq:InR q2:=hq0;clear HLs hq0 x5 l5 t0 t1 c0
        cases q3 with
        | true =>
         go_upto_region 21 with fail
         rw[←hw6.out];clear hw6
         generalize w5.heap.size=U at *
         have g6:=g4;have hwd1:IntKind.i64.wrap (d - 1)=d - 1:=by rw[IntKind.wrap_i64];omega
         have hb6:∀ g0 w0',Fy c v g w0 T R tk tn [(U,q1,q2)] g0 w0'→Hid (∀ w',Later w0' w'→Calls Tryz.prog 60 #[.pointer (some ⟨c.G,0,none⟩),.agg #[.int .i64 q1,.int .i64 q2],.int .i64 (d - 1)] w' fun e w2=>∃ u,e=.returned u∧CallR c v g0 w0' ExV u w2):=fun _ _ q _ l=>AnsP.call l (H0.out (d - 1) (by omega) (by omega) c _ _ v q1 q2 (q.fx.ec.gs.later l) hq);have hwd2:IntKind.i64.wrap (d - 2)=d - 2:=by rw[IntKind.wrap_i64];omega
         have hb7:∀ g0 w0',Fy c v g w0 T R tk tn [(U,q1,q2)] g0 w0'→Hid (∀ w',Later w0' w'→Calls Tryz.prog 60 #[.pointer (some ⟨c.G,0,none⟩),.agg #[.int .i64 1,.int .i64 0],.int .i64 (d - 2)] w' fun e w2=>∃ u,e=.returned u∧CallR c v g0 w0' ExV u w2):=fun _ _ q _ l=>AnsP.call l (H0.out (d - 2) (by omega) (by omega) c _ _ v 1 0 (q.fx.ec.gs.later l) (by unfold InR;omega));have hb8:∀ g0 w0',Fy c v g w0 T R tk tn [(U,q1,q2)] g0 w0'→Hid (∀ w',Later w0' w'→Calls Tryz.prog 39 #[.pointer (some ⟨c.K,0,none⟩),.int .i64 4] w' fun e w2=>∃ u,e=.returned u∧CallR c v g0 w0' (IntV 0 4) u w2):=fun _ _ q=>q.fx.below 4 (by decide) (by decide)
         have k6:Hid (w6.drew.cell? ⟨T,0,none⟩=some (.int .i64 tk)∧w6.drew.cell? ⟨T,1,none⟩=some (.int .i64 tn)∧w6.drew.cell? ⟨c.G,0,none⟩=some (.pointer (some ⟨c.K,0,none⟩))∧w6.drew.cell? ⟨U,0,none⟩=some (.int .i64 q1)∧w6.drew.cell? ⟨U,1,none⟩=some (.int .i64 q2)):=(by have za:=(x6.later (Later.drew _)).fx.S;have zb0:=(x6.later (Later.drew _)).c (b:=U) (k:=q1) (n:=q2) (by simp);exact⟨za.1,za.2.1,za.2.2,zb0.1,zb0.2⟩)
         have k0:Hid (w6.cell? ⟨T,0,none⟩=some (.int .i64 tk)∧w6.cell? ⟨T,1,none⟩=some (.int .i64 tn)∧w6.cell? ⟨c.G,0,none⟩=some (.pointer (some ⟨c.K,0,none⟩))∧w6.cell? ⟨U,0,none⟩=some (.int .i64 q1)∧w6.cell? ⟨U,1,none⟩=some (.int .i64 q2)):=(by have za:=x6.fx.S;have zb0:=x6.c (b:=U) (k:=q1) (n:=q2) (by simp);exact⟨za.1,za.2.1,za.2.2,zb0.1,zb0.2⟩)
         obtain⟨tt0,tt1,tt2,tt3,tt4⟩:=k0.out
         go_region_held3 (fun w'=>w'.cell? ⟨T,0,none⟩=some (.int .i64 tk)∧w'.cell? ⟨T,1,none⟩=some (.int .i64 tn)∧w'.cell? ⟨c.G,0,none⟩=some (.pointer (some ⟨c.K,0,none⟩))∧w'.cell? ⟨U,0,none⟩=some (.int .i64 q1)∧w'.cell? ⟨U,1,none⟩=some (.int .i64 q2)) (first|with_reducible exact k6.out|with_reducible exact k7.out|with_reducible exact k8.out|with_reducible exact k9.out|with_reducible exact k10.out|with_reducible exact k11.out|with_reducible exact ka.out _|with_reducible exact kb.out _ _ _ _ _ _|with_reducible exact kc.out _ _ _ _ _ _ _) (first
          | ((fail_if_success (have _g:=x7));have _g:=x6;refine zaa rfl 60 zax _ _ rfl [.pointer (some ⟨c.G,0,none⟩),.agg #[.int .i64 q1,.int .i64 q2],.int .i64 (d - 1)] rfl _ ((hb6 _ _ x6).out _ (Later.drew _)) ?_;rintro u7 w7 ⟨g7,s7,k7',yak,yan,yatk,yatn,yaa0,yan0,yac0,yaa1,yan1,yac1,rfl,hya⟩;have ov7:=(Ov.stp x6.fx.ec.gs.ok s7).sub;have x7:=x6.call s7 k7';have k7:Hid (w7.cell? ⟨T,0,none⟩=some (.int .i64 tk)∧w7.cell? ⟨T,1,none⟩=some (.int .i64 tn)∧w7.cell? ⟨c.G,0,none⟩=some (.pointer (some ⟨c.K,0,none⟩))∧w7.cell? ⟨U,0,none⟩=some (.int .i64 q1)∧w7.cell? ⟨U,1,none⟩=some (.int .i64 q2)):=(by have za:=x7.fx.S;have zb0:=x7.c (b:=U) (k:=q1) (n:=q2) (by simp);exact⟨za.1,za.2.1,za.2.2,zb0.1,zb0.2⟩))
          | ((fail_if_success (have _g:=x8));have _g:=x7;refine zaa rfl 60 zax _ _ rfl [.pointer (some ⟨c.G,0,none⟩),.agg #[.int .i64 1,.int .i64 0],.int .i64 (d - 2)] rfl _ ((hb7 _ _ x7).out _ (Later.refl _)) ?_;rintro u8 w8 ⟨g8,s8,k8',ybk,ybn,ybtk,ybtn,yba0,ybn0,ybc0,yba1,ybn1,ybc1,rfl,hyb⟩;have ov8:=(Ov.stp x7.fx.ec.gs.ok s8).sub;have x8:=x7.call s8 k8';have hya:=hya.sub ov8;have k8:Hid (w8.cell? ⟨T,0,none⟩=some (.int .i64 tk)∧w8.cell? ⟨T,1,none⟩=some (.int .i64 tn)∧w8.cell? ⟨c.G,0,none⟩=some (.pointer (some ⟨c.K,0,none⟩))∧w8.cell? ⟨U,0,none⟩=some (.int .i64 q1)∧w8.cell? ⟨U,1,none⟩=some (.int .i64 q2)):=(by have za:=x8.fx.S;have zb0:=x8.c (b:=U) (k:=q1) (n:=q2) (by simp);exact⟨za.1,za.2.1,za.2.2,zb0.1,zb0.2⟩))
          | ((fail_if_success (have _g:=x9));have _g:=x8;refine zaa rfl 39 zaw _ _ rfl [.pointer (some ⟨c.K,0,none⟩),.int .i64 4] rfl _ ((hb8 _ _ x8).out _ (Later.refl _)) ?_;rintro u9 w9 ⟨g9,s9,k9',zb,rfl,hzb⟩;have ov9:=(Ov.stp x8.fx.ec.gs.ok s9).sub;have x9:=x8.call s9 k9';have hya:=hya.sub ov9;have hyb:=hyb.sub ov9;have hwzb:IntKind.i64.wrap (1+zb)=1+zb:=(by rw[IntKind.wrap_i64];have:=hzb;omega);have k9:Hid (w9.cell? ⟨T,0,none⟩=some (.int .i64 tk)∧w9.cell? ⟨T,1,none⟩=some (.int .i64 tn)∧w9.cell? ⟨c.G,0,none⟩=some (.pointer (some ⟨c.K,0,none⟩))∧w9.cell? ⟨U,0,none⟩=some (.int .i64 q1)∧w9.cell? ⟨U,1,none⟩=some (.int .i64 q2)):=(by have za:=x9.fx.S;have zb0:=x9.c (b:=U) (k:=q1) (n:=q2) (by simp);exact⟨za.1,za.2.1,za.2.2,zb0.1,zb0.2⟩))
          | ((fail_if_success (have _g:=x10));have _g:=x9;refine zaa rfl 44 zcy _ _ rfl [.int .i64 (1+zb)] rfl (fun v w'=>v=.agg #[.int .i64 0,.int .i64 (1+zb),.int .i64 0,.int .i64 0,.slice none 0 0,.slice none 0 0]∧Later w9 w') ((zbu (1+zb) w9).mono (fun e w' q=>⟨_,q.1,rfl,q.2⟩)) ?_;rintro u10 w10 ⟨rfl,l10⟩;have x10:=x9.later l10;have ov10:=(Ov.later x9.fx.ec.gs.ok l10).sub;have hya:=hya.sub ov10;have hyb:=hyb.sub ov10;have hyc:ExS (mask g9 w10) 0 (1+zb) 0 0 (.slice none 0 0) (.slice none 0 0):=⟨NmS.nil _,KsS.nil _,(by unfold InR;have:=hzb;omega)⟩;have k10:Hid (w10.cell? ⟨T,0,none⟩=some (.int .i64 tk)∧w10.cell? ⟨T,1,none⟩=some (.int .i64 tn)∧w10.cell? ⟨c.G,0,none⟩=some (.pointer (some ⟨c.K,0,none⟩))∧w10.cell? ⟨U,0,none⟩=some (.int .i64 q1)∧w10.cell? ⟨U,1,none⟩=some (.int .i64 q2)):=(by have za:=x10.fx.S;have zb0:=x10.c (b:=U) (k:=q1) (n:=q2) (by simp);exact⟨za.1,za.2.1,za.2.2,zb0.1,zb0.2⟩))
          | ((fail_if_success (have _g:=x11));have _g:=x10;refine zaa rfl 61 zcf _ _ rfl [.int .i64 (4),.agg #[.int .i64 ybk,.int .i64 ybn,.int .i64 ybtk,.int .i64 ybtn,.slice yba0 ybn0 ybc0,.slice yba1 ybn1 ybc1],.agg #[.int .i64 0,.int .i64 (1+zb),.int .i64 0,.int .i64 0,.slice none 0 0,.slice none 0 0]] rfl _ (AnsP.call (Later.refl _) (zbr x10.fx.ec.gs (4) _ _ _ _ _ _ _ _ (by unfold InR;omega) _ _ _ _ _ _ _ _ _ _ _ _ hyb hyc)) ?_;rintro u11 w11 ⟨g11,s11,k11',ydk,ydn,ydtk,ydtn,yda0,ydn0,ydc0,yda1,ydn1,ydc1,rfl,hyd⟩;have ov11:=(Ov.stp x10.fx.ec.gs.ok s11).sub;have x11:=x10.call s11 k11';have hya:=hya.sub ov11;have hyb:=hyb.sub ov11;have hyc:=hyc.sub ov11;have k11:Hid (w11.cell? ⟨T,0,none⟩=some (.int .i64 tk)∧w11.cell? ⟨T,1,none⟩=some (.int .i64 tn)∧w11.cell? ⟨c.G,0,none⟩=some (.pointer (some ⟨c.K,0,none⟩))∧w11.cell? ⟨U,0,none⟩=some (.int .i64 q1)∧w11.cell? ⟨U,1,none⟩=some (.int .i64 q2)):=(by have za:=x11.fx.S;have zb0:=x11.c (b:=U) (k:=q1) (n:=q2) (by simp);exact⟨za.1,za.2.1,za.2.2,zb0.1,zb0.2⟩);obtain⟨⟨⟨qa0,f0⟩,⟨qa1,f1⟩,⟨qa2,f2⟩,⟨qa3,f3⟩,⟨qa4,f4⟩,⟨qa5,f5⟩⟩,qal⟩:=x11.fx.br.bx.c6;have ka:Hid (∀ o:Obj,(w11.alloc o).cell? ⟨T,0,none⟩=some (.int .i64 tk)∧(w11.alloc o).cell? ⟨T,1,none⟩=some (.int .i64 tn)∧(w11.alloc o).cell? ⟨c.G,0,none⟩=some (.pointer (some ⟨c.K,0,none⟩))∧(w11.alloc o).cell? ⟨U,0,none⟩=some (.int .i64 q1)∧(w11.alloc o).cell? ⟨U,1,none⟩=some (.int .i64 q2)):=fun o=>(by have za:=(x11.later (later1 _ o)).fx.S;have zb0:=(x11.later (later1 _ o)).c (b:=U) (k:=q1) (n:=q2) (by simp);exact⟨za.1,za.2.1,za.2.2,zb0.1,zb0.2⟩);have kb:Hid (∀ v0 v1 v2 v3 v4 v5:Value,((((((w11.setCell ⟨R,0,none⟩ v0).setCell ⟨R,1,none⟩ v1).setCell ⟨R,2,none⟩ v2).setCell ⟨R,3,none⟩ v3).setCell ⟨R,4,none⟩ v4).setCell ⟨R,5,none⟩ v5).cell? ⟨T,0,none⟩=some (.int .i64 tk)∧((((((w11.setCell ⟨R,0,none⟩ v0).setCell ⟨R,1,none⟩ v1).setCell ⟨R,2,none⟩ v2).setCell ⟨R,3,none⟩ v3).setCell ⟨R,4,none⟩ v4).setCell ⟨R,5,none⟩ v5).cell? ⟨T,1,none⟩=some (.int .i64 tn)∧((((((w11.setCell ⟨R,0,none⟩ v0).setCell ⟨R,1,none⟩ v1).setCell ⟨R,2,none⟩ v2).setCell ⟨R,3,none⟩ v3).setCell ⟨R,4,none⟩ v4).setCell ⟨R,5,none⟩ v5).cell? ⟨c.G,0,none⟩=some (.pointer (some ⟨c.K,0,none⟩))∧((((((w11.setCell ⟨R,0,none⟩ v0).setCell ⟨R,1,none⟩ v1).setCell ⟨R,2,none⟩ v2).setCell ⟨R,3,none⟩ v3).setCell ⟨R,4,none⟩ v4).setCell ⟨R,5,none⟩ v5).cell? ⟨U,0,none⟩=some (.int .i64 q1)∧((((((w11.setCell ⟨R,0,none⟩ v0).setCell ⟨R,1,none⟩ v1).setCell ⟨R,2,none⟩ v2).setCell ⟨R,3,none⟩ v3).setCell ⟨R,4,none⟩ v4).setCell ⟨R,5,none⟩ v5).cell? ⟨U,1,none⟩=some (.int .i64 q2)):=fun v0 v1 v2 v3 v4 v5=>(by have za:=x11.fx.S6 v0 v1 v2 v3 v4 v5;have zb0:=x11.c6 (b:=U) (k:=q1) (n:=q2) (by simp) v0 v1 v2 v3 v4 v5;exact⟨za.1,za.2.1,za.2.2,zb0.1,zb0.2⟩);have kc:Hid (∀ (o:Obj) (v0 v1 v2 v3 v4 v5:Value),(((((((w11.setCell ⟨R,0,none⟩ v0).setCell ⟨R,1,none⟩ v1).setCell ⟨R,2,none⟩ v2).setCell ⟨R,3,none⟩ v3).setCell ⟨R,4,none⟩ v4).setCell ⟨R,5,none⟩ v5).alloc o).cell? ⟨T,0,none⟩=some (.int .i64 tk)∧(((((((w11.setCell ⟨R,0,none⟩ v0).setCell ⟨R,1,none⟩ v1).setCell ⟨R,2,none⟩ v2).setCell ⟨R,3,none⟩ v3).setCell ⟨R,4,none⟩ v4).setCell ⟨R,5,none⟩ v5).alloc o).cell? ⟨T,1,none⟩=some (.int .i64 tn)∧(((((((w11.setCell ⟨R,0,none⟩ v0).setCell ⟨R,1,none⟩ v1).setCell ⟨R,2,none⟩ v2).setCell ⟨R,3,none⟩ v3).setCell ⟨R,4,none⟩ v4).setCell ⟨R,5,none⟩ v5).alloc o).cell? ⟨c.G,0,none⟩=some (.pointer (some ⟨c.K,0,none⟩))∧(((((((w11.setCell ⟨R,0,none⟩ v0).setCell ⟨R,1,none⟩ v1).setCell ⟨R,2,none⟩ v2).setCell ⟨R,3,none⟩ v3).setCell ⟨R,4,none⟩ v4).setCell ⟨R,5,none⟩ v5).alloc o).cell? ⟨U,0,none⟩=some (.int .i64 q1)∧(((((((w11.setCell ⟨R,0,none⟩ v0).setCell ⟨R,1,none⟩ v1).setCell ⟨R,2,none⟩ v2).setCell ⟨R,3,none⟩ v3).setCell ⟨R,4,none⟩ v4).setCell ⟨R,5,none⟩ v5).alloc o).cell? ⟨U,1,none⟩=some (.int .i64 q2)):=fun o v0 v1 v2 v3 v4 v5=>(by have za:=x11.fx.S7 o v0 v1 v2 v3 v4 v5;have zb0:=x11.c7 (b:=U) (k:=q1) (n:=q2) (by simp) o v0 v1 v2 v3 v4 v5;exact⟨za.1,za.2.1,za.2.2,zb0.1,zb0.2⟩)))
         obtain⟨W,hW,bW,HW⟩:=x11.fx.ec.fin2 x11.fx.br x11.fx.hr (k:=8) (n:=0) (tk:=0) (tn:=0) (by unfold InR;omega) (NmS.nil _) hya hyd;have HW:=HZ.out _ _ HW.out;obtain⟨⟨⟨e0,_⟩,⟨e1,_⟩,⟨e2,_⟩,⟨e3,_⟩,⟨e4,_⟩,⟨e5,_⟩⟩,_⟩:=bW.c6;clear HZ bW k0 ka kb kc k6 k7 k8 k9 k10 k11 hwd1 hb6 hwd2 hb7 hb8 H0 HN;go_wp2_with fail
         rw[←hW.out];exact bodyPost_ret (v:=.agg #[.int .i64 8,.int .i64 0,.int .i64 0,.int .i64 0,.slice none 0 0,.slice (some ⟨w11.heap.size,0,none⟩) 2 2]) (by simp[results,Tryz.results60,go_sem,e0,e1,e2,e3,e4,e5]) rfl HW
        | false =>
         have HE:Hid (∃ (g5:GS),Fx c v g w0 T R tk tn g5 w6):=⟨_,x6.fx⟩
         clear x6;go_wp2_with fail
         rw[←hw6.out];exact meetF hJ1 rfl HE.out
       ·have hz1':(z==1)=false:=by simpa using hz1
        by_cases hz2:z=2
        ·subst hz2;clear hz hz1;go_wp2_with fail
         go_loopw [13] (fun i' wr=>∃ (k:Nat) (g5:GS),i'=.int .i64 (k:Int)∧k≤v.fs.length∧Fx c v g w0 T R tk tn g5 wr) (fun i' _=>v.fs.length - (intOf i').toNat)
         case atStart=>exact⟨0,g4,rfl,Nat.zero_le _,X4.out⟩
         case round =>
          clear X4;obtain⟨k,g5,rfl,hk,x5⟩:=hrel;have hfl:=x5.ec.gs.fok.1;obtain⟨_,_,_,⟨fa,fp,hfv⟩,_⟩:=x5.ec.gs.nvS;have cG2:=x5.G2;rw[hfv]at cG2;have X5:Hid (Fx c v g w0 T R tk tn g5 wr):=x5;by_cases hlt:k<v.fs.length
          ·have j1:(k:Int)<(v.fs.length:Int):=by omega
           obtain⟨fb,fp',_,_,_,_,_,_,hfv',hfb,_,_,q2,q3,_⟩:=x5.ec.gs.fnAt k hlt;rw[hfv]at hfv'
           cases hfv'
           have HS:Hid (∀ g' w',Fx c v g w0 T R tk tn g' w'→w'.cell? ⟨T,0,none⟩=some (.int .i64 tk)∧w'.cell? ⟨T,1,none⟩=some (.int .i64 tn)∧w'.cell? ⟨c.G,0,none⟩=some (.pointer (some ⟨c.K,0,none⟩))∧w'.cell? ⟨c.G,2,none⟩=some (.slice (some ⟨fb,0,none⟩) v.fs.length fp)∧w'.cell? ⟨fb,k*5+2,none⟩=some (.int .i64 v.fs[k].rk)∧w'.cell? ⟨fb,k*5+3,none⟩=some (.int .i64 v.fs[k].rn)):=fun g' w' x=>by
            obtain⟨fb2,fp2,_,_,_,_,_,_,e2,_,_,_,r2,r3,_⟩:=x.ec.gs.fnAt k hlt;rw[hfv]at e2
            cases e2
            have z:=x.G2;rw[hfv]at z;exact⟨x.S.1,x.S.2.1,x.S.2.2,z,r2,r3⟩
           have HCl:Hid (∀ g' w',Fx c v g w0 T R tk tn g' w'→Calls Tryz.prog 93 #[.pointer (some ⟨c.G,0,none⟩),.int .i64 (k:Int),.int .i64 d] w' (AnsP c v g' w' ExV)):=fun g' w' x=>call_of d (by omega) hd1 (H0.out (d - 2) (by omega) (by omega)) x.ec.gs k hlt;have HO:=x5.once 2 (by decide) (by decide);obtain⟨t0,t1,c0⟩:=x5.S;have qT:=eqTyD;clear hfv x5
           generalize v.fs[k].rk=rk at *
           generalize v.fs[k].rn=rn at *
           cases hc:((rk==tk)&&(rn==tn)) with
           | true =>
            go_upto_region 26 with fail
            have k0:Hid (wr.drew.cell? ⟨T,0,none⟩=some (.int .i64 tk)∧wr.drew.cell? ⟨T,1,none⟩=some (.int .i64 tn)∧wr.drew.cell? ⟨c.G,0,none⟩=some (.pointer (some ⟨c.K,0,none⟩))∧wr.drew.cell? ⟨c.G,2,none⟩=some (.slice (some ⟨fb,0,none⟩) v.fs.length fp)∧wr.drew.cell? ⟨fb,k*5+2,none⟩=some (.int .i64 rk)∧wr.drew.cell? ⟨fb,k*5+3,none⟩=some (.int .i64 rn)):=HS.out _ _ (X5.out.later (Later.drew _));go_region_held3 (fun w'=>w'.cell? ⟨T,0,none⟩=some (.int .i64 tk)∧w'.cell? ⟨T,1,none⟩=some (.int .i64 tn)∧w'.cell? ⟨c.G,0,none⟩=some (.pointer (some ⟨c.K,0,none⟩))∧w'.cell? ⟨c.G,2,none⟩=some (.slice (some ⟨fb,0,none⟩) v.fs.length fp)∧w'.cell? ⟨fb,k*5+2,none⟩=some (.int .i64 rk)∧w'.cell? ⟨fb,k*5+3,none⟩=some (.int .i64 rn)) (first|with_reducible exact k0.out|with_reducible exact k1.out) ((go_at_call 23;refine (HO.out _ (Later.drew _)).mono ?_;rintro e6 w6 ⟨u6,rfl,g6,s6,k6,b,rfl⟩;have x6:=X5.out.call s6 k6;have k1:Hid (w6.cell? ⟨T,0,none⟩=some (.int .i64 tk)∧w6.cell? ⟨T,1,none⟩=some (.int .i64 tn)∧w6.cell? ⟨c.G,0,none⟩=some (.pointer (some ⟨c.K,0,none⟩))∧w6.cell? ⟨c.G,2,none⟩=some (.slice (some ⟨fb,0,none⟩) v.fs.length fp)∧w6.cell? ⟨fb,k*5+2,none⟩=some (.int .i64 rk)∧w6.cell? ⟨fb,k*5+3,none⟩=some (.int .i64 rn)):=HS.out _ _ x6))
            have X6:Hid (Fx c v g w0 T R tk tn g6 w6):=x6;clear k0 k1 x6 s6 k6 HO HS t0 t1 c0 cG2 q2 q3
            cases b with
            | true =>
             go_wp2_with fail
             refine (HCl.out _ _ X6.out).mono ?_;rintro e w7 ⟨_,rfl,g7,s7,k7,yk,yn,ytk,ytn,ya0,yn0,yc0,ya1,yn1,yc1,rfl,hy⟩;have x7:=X6.out.call s7 k7;clear X6 X5 HCl s7 k7;obtain⟨⟨⟨qa0,f0⟩,⟨qa1,f1⟩,⟨qa2,f2⟩,⟨qa3,f3⟩,⟨qa4,f4⟩,⟨qa5,f5⟩⟩,qal⟩:=x7.br.bx.c6;obtain⟨W,hW,bW,HW⟩:=x7.ec.fin x7.br x7.hr hy;have HW:=HZ.out _ _ HW.out;obtain⟨⟨⟨e0,_⟩,⟨e1,_⟩,⟨e2,_⟩,⟨e3,_⟩,⟨e4,_⟩,⟨e5,_⟩⟩,_⟩:=bW.c6;clear x7 HZ bW hy H0 HN;go_wp2_with fail
             rw[←hW.out];exact bodyPost_ret (v:=.agg #[.int .i64 yk,.int .i64 yn,.int .i64 ytk,.int .i64 ytn,.slice ya0 yn0 yc0,.slice ya1 yn1 yc1]) (by simp[results,Tryz.results60,go_sem,e0,e1,e2,e3,e4,e5]) rfl HW
            | false =>
             go_wp2_with fail
             go_roundw
             case rel=>exact⟨k+1,g6,by simp,by omega,X6.out⟩
             case measure=>simp[intOf];omega
           | false =>
            clear HO HS HCl;go_wp2_with fail
            go_quiet (fail)
            go_wp2_with fail
            go_roundw
            case rel=>exact⟨k+1,g5,by simp,by omega,X5.out.later (laterN _ _)⟩
            case measure=>simp[intOf];omega
          ·have j1:¬ (k:Int)<(v.fs.length:Int):=by omega
           have j2:decide ((k:Int)<(v.fs.length:Int))=false:=decide_eq_false j1
           have HE:Hid (∃ (g5:GS),Fx c v g w0 T R tk tn g5 wr):=⟨_,x5⟩
           clear x5 X5;go_wp2_with fail
           exact meetF hJ1 rfl HE.out
        ·have hz2':(z==2)=false:=by simpa using hz2
         have HE:Hid (∃ (g5:GS),Fx c v g w0 T R tk tn g5 w4):=⟨_,X4.out⟩
         go_wp2_with fail
         exact meetF hJ1 rfl HE.out
     case rest =>
      intro us1 w5 hcut;obtain⟨g5,x5⟩:=hcut;clear X4;go_step
      by_cases h1:tk=1
      ·exact expr_tail1 d hd hd1 H0 tk tn h1 HN Q HZ x5 us1 _ _ _ _
      ·exact expr_tail2 d hd hd1 H0 tk tn h1 HN Q HZ x5 us1 _ _ _ _
end Go.Proofs.YtgholpilmdebmaaGreatDoor
