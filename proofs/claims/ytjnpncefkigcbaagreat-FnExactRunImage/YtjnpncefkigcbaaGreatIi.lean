import Derived.Test.YtjnpncefkigcbaaGreatIh
import Derived.Test.YtjnpncefkigcbaaGreatHl
import Derived.Test.YtjnpncefkigcbaaGreatHs
import Derived.Test.YtjnpncefkigcbaaGreatHm
set_option maxHeartbeats 100000000
set_option maxRecDepth 100000
namespace Go.Proofs.YtjnpncefkigcbaaGreat
open Go.RowKit Go.Lib Go.Maps
theorem bne_t {n:Nat}(h:0<n):(n != 0)=true:=by
 cases n with
 | zero=>omega
 | succ k=>rfl
structure AgG (H f0:Nat) (s:Vm) (W:Nat→Int):Prop where
 lo:∀ a,a<12000→W a=s.W a
 nw:∀ a,s.other H≤a→a<s.free→W a=s.W a
 od:∀ a,s.used≤a→a<f0→W a=if s.pl a=0∨s.pl a=a then s.W a else -(s.pl a:Int)
theorem Mv.conv {C:Mx}{w:World}{s t:Vm}{q:Mq}{iv ov:Value}(h:Mv C w s q iv ov) (e:t={ s with W:=t.W,pl:=t.pl }) (hp:∀ b,b<C.N→(t.pl b != 0)=(s.pl b != 0)):Mv C w t q iv ov:=by
 rw[e];exact⟨h.lat,h.box,h.wd,h.sd.agree (fun b hb=>congrArg Value.bool (hp b hb)),h.rd,h.ip,h.ib,h.op,h.on⟩
theorem Mv.convW {C:Mx}{w:World}{s:Vm}{q q':Mq}{iv ov:Value}(h:Mv C w s q iv ov) (e:q'={ q with W:=q'.W }) (hp:∀ b,b<C.N→q'.W b=q.W b):Mv C w s q' iv ov:=by
 rw[e];exact⟨h.lat,h.box,h.wd.agree (fun b hb=>congrArg (Value.int .i64) (hp b hb)),h.sd,h.rd,h.ip,h.ib,h.op,h.on⟩
def FwQ (C:Mx) (f0:Nat) (w:World) (s:Vm) (q:Mq) (o:Option (Int × Vm)) (iv ov:Value) (n:Ending) (w':World):Prop :=
 match o with
 | none=>MQ C w (.returned (.int .i64 0)) s (q.stop 7 0) iv ov n w'
 | some (v,t)=>∃ W,MQ C w (.returned (.int .i64 v)) t { q with W:=W } iv ov n w'∧AgG C.H f0 t W
def mvW (W:Nat→Int) (f z j:Nat):Nat→Int:=fun a=>if f≤a∧a<f+j then W (a - f+z) else W a
theorem AgG.at {x:Im}{H f0:Nat}{ts us:List Nat}{s:Vm}{W:Nat→Int}(h:AgG H f0 s W) (g:Gc x H ts f0 s us) {a:Nat}(ha:a∈ts) (hp:s.pl a=a) {k:Nat}(hk:k<1+szW x (s.W a)):W (a+k)=s.W (a+k):=by
 have hm:=g.t1.mem a ha;rw[h.od (a+k) (by omega) (by omega)]
 cases k with
 | zero=>rw[if_pos (.inr hp)]
 | succ k =>
  have h1:=g.t1.inner ha (k:=k) (by omega)
  have h2:a+1+k∉us:=fun q=>by
   have:=(g.us_rg q).1;have ho:=g.other;have:=g.ts_rg ha;have:=(g.us_rg q).2.1;have:=g.end;omega
  have h3:=g.p3 _ h1 h2;rw[show a+1+k=a+(k+1) by omega]at h3;rw[if_pos (.inl h3)]
theorem AgG.moved {x:Im}{H f0:Nat}{ts us:List Nat}{s:Vm}{W:Nat→Int}(h:AgG H f0 s W) (g:Gc x H ts f0 s us) {a:Nat}(ha:a∈ts) (hp:s.pl a=a) :
  AgG H f0 { s with W:=fun b=>if s.free≤b∧b<s.free+(1+szW x (s.W a)) then s.W (b - s.free+a) else s.W b,pl:=fset (fset s.pl s.free s.free) a s.free,free:=s.free+(1+szW x (s.W a)) } (fset (mvW W s.free a (1+szW x (s.W a))) a (-(s.free:Int))):=by
 have hr:=g.ts_rg ha;have ho:=g.other;have he:=g.end;have hro:=g.room ha hp;have ht2:=g.t2;have h8:=g.h8;refine⟨fun b hb=>?_,fun b h1 h2=>?_,fun b h1 h2=>?_⟩
 ·show fset (mvW W s.free a _) a _ b=if s.free≤b∧b<_ then _ else s.W b
  rw[fset_ne _ _ (by omega),if_neg (by omega)];unfold mvW;rw[if_neg (by omega)];exact h.lo b hb
 ·have h2':b<s.free+(1+szW x (s.W a)):=h2;have h1':s.other H≤b:=h1;show fset (mvW W s.free a _) a _ b=if s.free≤b∧b<_ then s.W (b - s.free+a) else s.W b
  rw[fset_ne _ _ (by omega)];unfold mvW;by_cases q:s.free≤b∧b<s.free+(1+szW x (s.W a))
  ·rw[if_pos q,if_pos q,Nat.add_comm (b - s.free) a];exact h.at g ha hp (by omega)
  ·rw[if_neg q,if_neg q];exact h.nw b h1' (by omega)
 ·have h1':s.used≤b:=h1;show fset (mvW W s.free a _) a _ b=if fset (fset s.pl s.free s.free) a s.free b=0∨fset (fset s.pl s.free s.free) a s.free b=b then (if s.free≤b∧b<_ then _ else s.W b) else -((fset (fset s.pl s.free s.free) a s.free b:Nat):Int)
  by_cases q:b=a
  ·subst q;rw[fset_at,fset_at,if_neg (by omega)]
  ·rw[fset_ne _ _ q,fset_ne _ _ q,fset_ne _ _ (by omega)];rw[if_neg (show ¬ (s.free≤b∧b<s.free+(1+szW x (s.W a))) by omega)];unfold mvW;rw[if_neg (by omega)];exact h.od b h1' h2
theorem lforward_any {C:Mx}(hC:MxI C) {w:World}{s:Vm}{q:Mq}{iv ov:Value}(h:Mv C w s q iv ov) {ts us:List Nat}{f0:Nat}(hG:Gc C.x C.H ts f0 s us) (hA:AgG C.H f0 s q.W) (hen:q.en=0) (z:Int) :
  Calls Tryz.prog 147 #[.pointer (some ⟨C.K,0,none⟩),.int .i64 z] w (FwQ C f0 w s q (s.fwd C.x C.H z) iv ov):=by
 have hN:=hC.hN;have h4:=hC.h4;obtain⟨c22,_⟩:=h.c22;rw[hen]at c22;by_cases hz:z=0
 ·have HZ:FwQ C f0 w s q (s.fwd C.x C.H z) iv ov (.returned (.int .i64 0)) w:=by
   unfold Vm.fwd;rw[if_pos hz];exact⟨q.W,⟨rfl,h,OnlyL.refl _ _⟩,hA⟩
  generalize FwQ C f0 w s q (s.fwd C.x C.H z) iv ov=Q at *
  subst hz;clear h hG hA;go_enter Tryz.func147,Tryz.ntmps147;go_wp2_with fail
  first|exact HZ|(go_ret;exact HZ)
 have hzb:(z==0)=false:=by simp[hz]
 cases ho:s.obj C.H z with
 | false =>
  have HIs:Hid (Calls Tryz.prog 80 #[.pointer (some ⟨C.K,0,none⟩),.int .i64 z] w (DrQ (.returned (.bool false)) w)):=lis_b hC h hG.u ho;have HSt:Hid (∀ w',Later w w'→Calls Tryz.prog 23 #[.pointer (some ⟨C.K,0,none⟩),.int .i64 7,.int .i64 0] w' (MQ C w' unitE s (q.stop 7 0) iv ov)):=fun w' l=>lstop_any hC (h.kept l) 7 0
  have HZ:Hid (∀ w' w'',Later w w'→MQ C w' unitE s (q.stop 7 0) iv ov unitE w''→FwQ C f0 w s q (s.fwd C.x C.H z) iv ov (.returned (.int .i64 0)) w''):=fun w' w'' l m=>by
   unfold Vm.fwd;rw[if_neg hz,if_neg (by rw[ho];simp)];exact⟨rfl,m.2.1,(OnlyL.of_later l).trans m.2.2⟩
  generalize FwQ C f0 w s q (s.fwd C.x C.H z) iv ov=Q at *
  clear h hG hA;go_enter Tryz.func147,Tryz.ntmps147;go_wp2_with fail
  refine HIs.out.mono ?_;rintro n1 w1 ⟨rfl,hk1⟩;have l1:Later w w1:=by obtain⟨j1,rfl⟩:=hk1;exact Later.drewN' _ _
  clear hk1;go_wp2_with fail
  refine (HSt.out w1 l1).mono ?_;rintro n2 w2 ⟨rfl,m2⟩;have HP:=HZ.out w1 w2 l1 ⟨rfl,m2⟩;clear HZ HSt HIs m2;unfold unitE;go_wp2_with fail
  first|exact HP|(go_ret;exact HP)
 | true =>
  obtain⟨h0,hts,hus⟩:=hG.obj ho
  obtain⟨a,rfl⟩:∃ a:Nat,z=(a:Int):=⟨z.toNat,by omega⟩
  simp only[Int.toNat_natCast]at hts hus;have hr:=hG.ts_rg hts;have hoo:=hG.other;have hend:=hG.end;have hm:=hG.t1.mem a hts;have HIs:Hid (Calls Tryz.prog 80 #[.pointer (some ⟨C.K,0,none⟩),.int .i64 (a:Int)] w (DrQ (.returned (.bool true)) w)):=lis_b hC h hG.u ho;have hod:=hA.od a hr.1 (by omega);have i1:(a:Int)<(C.N:Int):=by omega
  have HW:Hid (∀ w',Later w w'→w'.cell? ⟨C.K,3,none⟩=some (.slice (some ⟨C.WB,0,none⟩) C.N C.N)∧w'.cell? ⟨C.WB,a,none⟩=some (.int .i64 (q.W a))):=fun w' l=>⟨(h.kept l).c3.1,((h.kept l).word (by omega)).1⟩
  by_cases hp:s.pl a=a
  ·have hro:=hG.room hts hp;have hq:q.W a=s.W a:=by rw[hod,if_pos (.inr hp)]
   have hsz:=hr.2.2.sz hC.xi.st;have hg0:=hr.2.2.1;have hge:0≤q.W a:=by omega
   have hnl:decide (q.W a<0)=false:=decide_eq_false (by omega);have HWo:Hid (∀ w',Later w w'→Calls Tryz.prog 123 #[.pointer (some ⟨C.K,0,none⟩),.int .i64 (q.W a)] w' fun n w''=>n=.returned (.int .i64 ((szW C.x (s.W a):Nat):Int))∧w''=w'):=fun w' l=>by rw[hq];exact lwords_any hC (h.kept l) hr.2.2
   have HAt:Hid (∀ k,k<1+szW C.x (s.W a)→a+k<C.N∧s.free+k<C.N):=fun k hk=>by omega
   obtain⟨L,hL⟩:∃ L,L=szW C.x (s.W a):=⟨_,rfl⟩
   obtain⟨F,hF⟩:∃ F,F=s.free:=⟨_,rfl⟩
   have HEnd:Hid (∀ wx,Mv C wx s { q with W:=mvW q.W F a (1+L) } iv ov→OnlyL C w wx→FwQ C f0 w s q (s.fwd C.x C.H (a:Int)) iv ov (.returned (.int .i64 (F:Int))) (((wx.setCell ⟨C.SB,F,none⟩ (.bool true)).setCell ⟨C.K,7,none⟩ (.int .i64 ((F+1+L:Nat):Int))).setCell ⟨C.WB,a,none⟩ (.int .i64 (-(F:Int))))):=fun wx m o=>by
    unfold Vm.fwd;rw[if_neg hz,if_pos ho,Int.toNat_natCast,if_pos hp];refine⟨fset (mvW q.W F a (1+L)) a (-(F:Int)),⟨by rw[hF],?_,((o.setS _ _).setK _ _).setW _ _⟩,?_⟩
    ·have m1:=m.setS hC (a:=F) (by omega) (v:=true) (s':={ s with pl:=fset s.pl F F }) rfl (fun b hb=>by
      show (fset s.pl F F b != 0)=_;unfold fset;split
      ·simp;omega
      ·rfl)
     have m2:=m1.setK hC (s':={ s with pl:=fset s.pl F F,free:=F+1+L }) (q':={ q with W:=mvW q.W F a (1+L) }) (o:=7) (v:=.int .i64 ((F+1+L:Nat):Int)) (by decide) (map_ext rfl) rfl rfl rfl rfl rfl;have m3:=m2.setW hC (a:=a) (by omega) (-(F:Int));refine m3.conv (by rw[hF,hL];show _=_;rw[show s.free+1+szW C.x (s.W a)=s.free+(1+szW C.x (s.W a)) by omega]) (fun b hb=>?_);show (fset (fset s.pl s.free s.free) a s.free b != 0)=(fset s.pl F F b != 0)
     rw[hF];by_cases e1:b=a
     ·subst e1;rw[fset_at,fset_ne _ _ (by omega),hp,bne_t (by omega),bne_t (by omega)]
     ·rw[fset_ne _ _ e1]
    ·rw[hF,hL];exact hA.moved hG hts hp
   generalize FwQ C f0 w s q (s.fwd C.x C.H (a:Int)) iv ov=Q at *
   have HM0:Hid (∀ w',Later w w'→Mv C w' s { q with W:=mvW q.W F a 0 } iv ov∧OnlyL C w w'):=fun w' l=>⟨(h.kept l).convW rfl (fun b _=>by show mvW q.W F a 0 b=q.W b;unfold mvW;rw[if_neg (by omega)]),OnlyL.of_later l⟩
   have HSt:Hid (∀ wr j,j<1+L→Mv C wr s { q with W:=mvW q.W F a j } iv ov→Mv C (wr.setCell ⟨C.WB,F+j,none⟩ (.int .i64 (q.W (a+j)))) s { q with W:=mvW q.W F a (j+1) } iv ov):=fun wr j hj m=>by
    have m1:=m.setW hC (a:=F+j) (by have:=HAt.out j (by omega);omega) (q.W (a+j));refine m1.convW rfl (fun b _=>?_);show mvW q.W F a (j+1) b=fset (mvW q.W F a j) (F+j) (q.W (a+j)) b;unfold fset mvW;by_cases e1:b=F+j
    ·subst e1;rw[if_pos rfl,if_pos (by omega),show F+j - F+a=a+j by omega]
    ·rw[if_neg e1];by_cases e2:F≤b∧b<F+j
     ·rw[if_pos e2,if_pos (by omega)]
     ·rw[if_neg e2,if_neg (by omega)]
   have HRd:Hid (∀ wr j,j<1+L→Mv C wr s { q with W:=mvW q.W F a j } iv ov→wr.cell? ⟨C.K,3,none⟩=some (.slice (some ⟨C.WB,0,none⟩) C.N C.N)∧wr.cell? ⟨C.WB,a+j,none⟩=some (.int .i64 (q.W (a+j)))∧(∃ u,wr.cell? ⟨C.WB,F+j,none⟩=some u)∧wr.frozen? ⟨C.WB,F+j,none⟩=false):=fun wr j hj m=>by
    have hb:=HAt.out j (by omega);have w1:=m.word (a:=a+j) hb.1;have w2:=m.word (a:=F+j) (by omega);refine⟨m.c3.1,?_,⟨_,w2.1⟩,w2.2⟩;rw[w1.1];show some (Value.int .i64 (mvW q.W F a j (a+j)))=_;unfold mvW;rw[if_neg (by omega)]
   have HX:Hid (∀ wx W,Mv C wx s { q with W:=W } iv ov→wx.cell? ⟨C.K,4,none⟩=some (.slice (some ⟨C.SB,0,none⟩) C.N C.N)∧(∃ u,wx.cell? ⟨C.SB,F,none⟩=some u)∧wx.frozen? ⟨C.SB,F,none⟩=false∧(∃ u,wx.cell? ⟨C.K,7,none⟩=some u)∧wx.frozen? ⟨C.K,7,none⟩=false∧wx.cell? ⟨C.K,3,none⟩=some (.slice (some ⟨C.WB,0,none⟩) C.N C.N)∧(∃ u,wx.cell? ⟨C.WB,a,none⟩=some u)∧wx.frozen? ⟨C.WB,a,none⟩=false):=fun wx W m=>by
    have m1:=m.mark (a:=F) (by omega);have m2:=m.word (a:=a) (by omega);exact⟨m.c4.1,⟨_,m1.1⟩,m1.2,⟨_,m.c7.1⟩,m.c7.2,m.c3.1,⟨_,m2.1⟩,m2.2⟩
   have HF7:Hid (∀ w',Later w w'→w'.cell? ⟨C.K,7,none⟩=some (.int .i64 (F:Int))):=fun w' l=>by rw[hF];exact (h.kept l).c7.1
   rw[←hL]at HWo HAt;have k1:(L:Int)≤200:=by omega
   have k2:(F:Int)≤40000:=by omega
   have k3:(F:Int)<(C.N:Int):=by omega
   have k4:(a:Int)≤40000:=by omega
   have hF2:Hid (F=s.free):=hF;have d1:=hC.d1;have d2:=hC.d2;have d4:=hC.d4
   obtain⟨F1,hF1⟩:∃ F1,F1=F+1:=⟨_,rfl⟩
   obtain⟨F2,hF2'⟩:∃ F2,F2=F+1+L:=⟨_,rfl⟩
   have k5:(F:Int)+1=(F1:Int):=by omega
   have k6:(F1:Int)+(L:Int)=(F2:Int):=by omega
   have k7:(F2:Int)≤50000:=by omega
   have k8:(F1:Int)≤50000:=by omega
   rw[←hF2']at HEnd;clear h hG hA hod hm hr hro hend hts hus ho hp hq hL hF hsz hg0 hF1 hF2' hoo hge
   generalize q.W a=hd at *
   go_enter Tryz.func147,Tryz.ntmps147;go_wp2_with fail
   refine HIs.out.mono ?_;rintro n1 w1 ⟨rfl,hk1⟩;have l1:Later w w1:=by obtain⟨j1,rfl⟩:=hk1;exact Later.drewN' _ _
   clear hk1;obtain⟨d3,dw⟩:=HW.out w1 l1;have d7:=HF7.out w1 l1;have M0:=HM0.out w1 l1;have M0h:Hid (Mv C w1 s { q with W:=mvW q.W F a 0 } iv ov∧OnlyL C w w1):=M0;clear M0 HM0;go_wp2_with fail
   refine (HWo.out w1 l1).mono ?_;rintro n2 w2 ⟨rfl,rfl⟩;clear HW HIs HWo HF7;go_wp2_with fail
   go_loopw [8] (fun i wr=>∃ j:Nat,i=.int .i64 (j:Int)∧j≤1+L∧Hid (Mv C wr s { q with W:=mvW q.W F a j } iv ov∧OnlyL C w wr)) (fun i _=>1+L - (intOf i).toNat)
   case atStart=>exact⟨0,rfl,Nat.zero_le _,M0h⟩
   case round =>
    obtain⟨j,rfl,hj,HJ⟩:=hrel;clear d3 dw d7 M0h;by_cases hlt:j≤L
    ·have i2:(j:Int)≤(L:Int):=by omega
     obtain⟨e3,ea,⟨ub,eb⟩,zb⟩:=HRd.out wr j (by omega) HJ.out.1;have hbb:=HAt.out j (by omega)
     have M1:Hid (Mv C (wr.setCell ⟨C.WB,F+j,none⟩ (.int .i64 (q.W (a+j)))) s { q with W:=mvW q.W F a (j+1) } iv ov∧OnlyL C w (wr.setCell ⟨C.WB,F+j,none⟩ (.int .i64 (q.W (a+j))))):=⟨HSt.out wr j (by omega) HJ.out.1,HJ.out.2.setW _ _⟩
     have hFs:=hF2.out
     obtain⟨aj,haj⟩:∃ aj,aj=a+j:=⟨_,rfl⟩
     obtain⟨fj,hfj⟩:∃ fj,fj=F+j:=⟨_,rfl⟩
     rw[←haj,← hfj]at M1;rw[←haj]at ea;rw[←hfj]at eb zb;have g1:(a:Int)+(j:Int)=(aj:Int):=by omega
     have g2:(F:Int)+(j:Int)=(fj:Int):=by omega
     have g3:(aj:Int)<(C.N:Int):=by omega
     have g4:(fj:Int)<(C.N:Int):=by omega
     have g5:(aj:Int)≤50000:=by omega
     have g6:(fj:Int)≤50000:=by omega
     clear HRd HSt HJ HEnd HX HAt hbb hFs haj hfj hF2
     generalize q.W aj=V at *
     go_wp2_with fail
     go_region
     go_wp2_with fail
     go_roundw
     case rel=>exact⟨j+1,by go_num,by omega,M1.out.1.kept (Later.drew _),M1.out.2.trans (OnlyL.of_later (Later.drew _))⟩
     case measure=>simp[intOf];omega
    ·have i2:¬ (j:Int)≤(L:Int):=by omega
     have i3:decide ((j:Int)≤(L:Int))=false:=decide_eq_false i2;have hjj:j=1+L:=by omega
     have HJ2:=HJ.out;rw[hjj]at HJ2;have HP:=HEnd.out wr HJ2.1 HJ2.2;obtain⟨e4,⟨u1,e5⟩,z5,⟨u2,e7⟩,z7,e3,⟨u3,ea⟩,za⟩:=HX.out wr _ HJ2.1;clear HRd HSt HJ HEnd HX HAt HJ2 hF2;go_wp2_with fail
     first|exact HP|(go_ret;exact HP)
  ·have hpu:s.pl a∈us:=by
    rcases hG.p1 a hts with k|k
    ·exact absurd k hp
    ·exact k
   have hpr:=(hG.us_rg hpu).1;have hq:q.W a=-((s.pl a:Nat):Int):=by rw[hod,if_neg (by omega)]
   have hlt:q.W a<0:=by omega
   have hneg:-(q.W a)=((s.pl a:Nat):Int):=by omega
   have hpe:=(hG.us_rg hpu).2.1;have k2:((s.pl a:Nat):Int)≤40000:=by omega
   have HZ:Hid (∀ w',Later w w'→FwQ C f0 w s q (s.fwd C.x C.H (a:Int)) iv ov (.returned (.int .i64 ((s.pl a:Nat):Int))) w'):=fun w' l=>by
    unfold Vm.fwd;rw[if_neg hz,if_pos ho,Int.toNat_natCast,if_neg hp];exact⟨q.W,⟨rfl,h.kept l,OnlyL.of_later l⟩,hA⟩
   generalize FwQ C f0 w s q (s.fwd C.x C.H (a:Int)) iv ov=Q at *
   clear h hG hA hod hm hq
   generalize q.W a=hd at *
   generalize s.pl a=P at *
   go_enter Tryz.func147,Tryz.ntmps147;go_wp2_with fail
   refine HIs.out.mono ?_;rintro n1 w1 ⟨rfl,hk1⟩;have l1:Later w w1:=by obtain⟨j1,rfl⟩:=hk1;exact Later.drewN' _ _
   clear hk1;obtain⟨d3,dw⟩:=HW.out w1 l1;have HP:=HZ.out w1 l1;clear HW HZ HIs;go_wp2_with fail
   first|exact HP|(go_ret;exact HP)
theorem AgG.fset {H f0:Nat}{s:Vm}{W:Nat→Int}(h:AgG H f0 s W) {a:Nat}(z:Int) (hn:¬ (s.used≤a∧a<f0)):AgG H f0 { s with W:=Go.Proofs.YtjnpncefkigcbaaGreat.fset s.W a z } (Go.Proofs.YtjnpncefkigcbaaGreat.fset W a z):=by
 refine⟨fun b hb=>?_,fun b h1 h2=>?_,fun b h1 h2=>?_⟩
 ·show Go.Proofs.YtjnpncefkigcbaaGreat.fset W a z b=Go.Proofs.YtjnpncefkigcbaaGreat.fset s.W a z b;unfold Go.Proofs.YtjnpncefkigcbaaGreat.fset;split
  ·rfl
  ·exact h.lo b hb
 ·show Go.Proofs.YtjnpncefkigcbaaGreat.fset W a z b=Go.Proofs.YtjnpncefkigcbaaGreat.fset s.W a z b;unfold Go.Proofs.YtjnpncefkigcbaaGreat.fset;split
  ·rfl
  ·exact h.nw b h1 h2
 ·have h1':s.used≤b:=h1;have hne:b≠a:=fun q=>hn ⟨q ▸ h1',q ▸ h2⟩;show Go.Proofs.YtjnpncefkigcbaaGreat.fset W a z b=if s.pl b=0∨s.pl b=b then Go.Proofs.YtjnpncefkigcbaaGreat.fset s.W a z b else _
  rw[fset_ne _ _ hne,fset_ne _ _ hne];exact h.od b h1' h2
theorem lforward_dead {C:Mx}{w:World}{s:Vm}{q:Mq}{iv ov:Value}(h:Mv C w s q iv ov) (hen:q.en=7) (z:Int) :
  Calls Tryz.prog 147 #[.pointer (some ⟨C.K,0,none⟩),.int .i64 z] w fun n w'=>n=.returned (.int .i64 0)∧w'=w:=by
 obtain⟨c22,_⟩:=h.c22;rw[hen]at c22;clear h;by_cases hz:z=0
 ·subst hz;go_enter Tryz.func147,Tryz.ntmps147;go_wp2_with fail
  go_ret;exact⟨rfl,rfl⟩
 ·have hzb:(z==0)=false:=by simp[hz]
  go_enter Tryz.func147,Tryz.ntmps147;go_wp2_with fail
  go_ret;exact⟨rfl,rfl⟩
def FoQ (C:Mx) (f0:Nat) (w:World) (s:Vm) (q:Mq) (a:Nat) (iv ov:Value) (w':World):Prop :=
 match s.foll C.x C.H a with
 | none=>∃ W,Mv C w' s { q with W:=W,en:=7,cd:=0 } iv ov∧OnlyL C w w'∧∀ b,b≠a→W b=q.W b
 | some t=>∃ W,Mv C w' t { q with W:=W } iv ov∧OnlyL C w w'∧AgG C.H f0 t W
theorem frame_head {x:Im}(hx:ImI x) {s:Vm}{base n fp:Nat}{pc:Int}(h:FrI x s base (n+1) fp pc):∃ fq:Nat,s.W fp=(fq:Int)∧(0<fp→fq<fp)∧(n=0→fq=0)∧(0<n→0<fq):=by
 have hch:=h.ch (by omega)
 cases n with
 | zero =>
  rw[Chain]at hch;exact⟨0,by rw[hch.2];rfl,fun q=>q,fun _=>rfl,fun q=>by omega⟩
 | succ n =>
  rw[Chain]at hch;obtain⟨g0,q,c0,i,h1,h2,e3,h4,h5,h6,h7,h8,h9⟩:=hch;have hf0:=(hx.at h4).fr;exact⟨g0,h1,fun _=>by omega,fun q=>by omega,fun _=>h2⟩
theorem foll_alive {C:Mx}(hC:MxI C) {w:World}{s:Vm}{q:Mq}{iv ov:Value}{f0 a:Nat}(hen:q.en=0) (haN:a<C.N) (hn:¬ (s.used≤a∧a<f0)) (hqa:q.W a=s.W a) {n:Ending}{w':World}(h:FwQ C f0 w s q (s.fwd C.x C.H (q.W a)) iv ov n w') :
  ∃ v,n=.returned (.int .i64 v)∧(∃ s' q',Mv C w' s' q' iv ov)∧OnlyL C w w'∧FoQ C f0 w s q a iv ov (w'.setCell ⟨C.WB,a,none⟩ (.int .i64 v)):=by
 rw[hqa]at h;unfold FoQ Vm.foll
 cases hf:s.fwd C.x C.H (s.W a) with
 | none =>
  rw[hf]at h;obtain⟨rfl,m,o⟩:=h;have e1:q.stop 7 0={ q with en:=7,cd:=0 }:=by unfold Mq.stop;rw[if_pos hen]
  rw[e1]at m;exact⟨0,rfl,⟨_,_,m⟩,o,fset q.W a 0,m.setW hC haN 0,o.setW _ _,fun b hb=>fset_ne _ _ hb⟩
 | some p =>
  obtain⟨v,t⟩:=p;rw[hf]at h;obtain⟨W,⟨rfl,m,o⟩,ag⟩:=h
  have hu:t.used=s.used:=by
   have:t={ s with W:=t.W,pl:=t.pl,free:=t.free }:=by
    unfold Vm.fwd at hf;split at hf
    ·cases hf;rfl
    ·split at hf
     ·split at hf
      ·cases hf;rfl
      ·cases hf;rfl
     ·cases hf
   rw[this]
  refine⟨v,rfl,⟨_,_,m⟩,o,fset W a v,?_,o.setW _ _,?_⟩
  ·have m2:=m.setW hC haN v;exact m2.conv (t:={ t with W:=fset t.W a v }) rfl (fun _ _=>rfl)
  ·exact ag.fset v (by rw[hu];exact hn)
structure LjI (C:Mx) (ts:List Nat) (f0:Nat) (w:World) (s0 t:Vm) (q:Mq) (iv ov:Value) (fp:Nat) (l:List Int) (j:Nat) (tj:Vm) (W:Nat→Int) (en:Int) (wx:World):Prop where
 mv:Mv C wx tj { q with W:=W,en:=en,cd:=0 } iv ov
 ol:OnlyL C w wx
 fw:Fw s0 tj
 h0:W fp=t.W fp
 h1:W (fp+1)=t.W (fp+1)
 al:(en=0∧slotsF C.x C.H fp (l.drop j) tj=slotsF C.x C.H fp l t∧AgG C.H f0 tj W∧∃ us,Gc C.x C.H ts f0 tj us)∨(en=7∧slotsF C.x C.H fp l t=none)
def StepQ (C:Mx) (wx:World) (iv ov:Value) (a:Nat) (P:World→Prop) (n:Ending) (w':World):Prop:=∃ v,n=.returned (.int .i64 v)∧(∃ s' q',Mv C w' s' q' iv ov)∧OnlyL C wx w'∧P (w'.setCell ⟨C.WB,a,none⟩ (.int .i64 v))
theorem LjI.step {C:Mx}(hC:MxI C) {ts:List Nat}{f0:Nat}{w:World}{s0 t:Vm}{q:Mq}{iv ov:Value}{fp:Nat}{l:List Int}{j:Nat}{tj:Vm}{W:Nat→Int}{en:Int}{wx:World}(h:LjI C ts f0 w s0 t q iv ov fp l j tj W en wx) (hj:j<l.length) (h3:3≤l[j]) (hlo:fp+l[j].toNat<12000) (w':World) (lw:Later wx w') :
  Calls Tryz.prog 147 #[.pointer (some ⟨C.K,0,none⟩),.int .i64 (W (fp+l[j].toNat))] w' (StepQ C wx iv ov (fp+l[j].toNat) (fun w''=>∃ tj' W' en',LjI C ts f0 w s0 t q iv ov fp l (j+1) tj' W' en' w'')):=by
 have hN:=hC.hN;have haN:fp+l[j].toNat<C.N:=by omega
 obtain⟨mv,ol,fw,h0,h1,al⟩:=h;rcases al with ⟨rfl,he,hA,us,hG⟩|⟨rfl,he⟩
 ·have hu:=hG.u;have m1:=mv.kept lw;refine (lforward_any hC m1 hG hA rfl (W (fp+l[j].toNat))).mono (fun n w2 hq=>?_);have hqa:W (fp+l[j].toNat)=tj.W (fp+l[j].toNat):=hA.lo _ hlo;obtain⟨v,hn,hm,o,hf⟩:=foll_alive (q:={ q with W:=W,en:=0,cd:=0 }) hC rfl haN (by omega) hqa hq;refine⟨v,hn,hm,(OnlyL.of_later lw).trans o,?_⟩;have hat:=slotsF_at (x:=C.x) (H:=C.H) (fp:=fp) (s:=tj) hj;unfold FoQ at hf
  cases hfo:tj.foll C.x C.H (fp+l[j].toNat) with
  | none =>
   rw[hfo]at hf hat;obtain⟨W',m2,o2,hb⟩:=hf;exact⟨tj,W',7,m2,(ol.trans (OnlyL.of_later lw)).trans o2,fw,(hb fp (by omega)).trans h0,(hb (fp+1) (by omega)).trans h1,.inr ⟨rfl,by rw[←he,hat];rfl⟩⟩
  | some u =>
   rw[hfo]at hf hat;obtain⟨W',m2,o2,ag⟩:=hf;obtain⟨us',g',f',hw'⟩:=slotsF_gc (l:=[l[j]]) (fp:=fp) (t:=u) hG (fun k hk=>by rw[List.mem_singleton.1 hk];exact hlo) (by rw[slotsF,hfo];rfl);have hk:∀ b,b<12000→b≠fp+l[j].toNat→W' b=W b:=fun b hb hne=>by rw[ag.lo b hb,hA.lo b hb];exact hw' b hb (fun k hk=>by rw[List.mem_singleton.1 hk];exact hne)
   exact⟨u,W',0,m2,(ol.trans (OnlyL.of_later lw)).trans o2,fw.trans f',(hk fp (by omega) (by omega)).trans h0,(hk (fp+1) (by omega) (by omega)).trans h1,.inl ⟨rfl,by rw[←he,hat];rfl,ag,us',g'⟩⟩
 ·have m1:=mv.kept lw;refine (lforward_dead m1 rfl (W (fp+l[j].toNat))).mono (fun n w2 hq=>?_);obtain⟨rfl,rfl⟩:=hq;have m2:=m1.setW hC haN 0;exact⟨0,rfl,⟨_,_,m1⟩,OnlyL.of_later lw,tj,fset W (fp+l[j].toNat) 0,7,m2,(ol.trans (OnlyL.of_later lw)).setW _ _,fw,(fset_ne _ _ (by omega)).trans h0,(fset_ne _ _ (by omega)).trans h1,.inr ⟨rfl,he⟩⟩
structure LfI (C:Mx) (ts:List Nat) (f0:Nat) (w:World) (s0:Vm) (base:Nat) (q:Mq) (iv ov:Value) (R:Option Vm) (n fp:Nat) (fn pc:Int) (t:Vm) (W:Nat→Int) (en:Int) (wr:World):Prop where
 mv:Mv C wr t { q with W:=W,en:=en,cd:=0 } iv ov
 ol:OnlyL C w wr
 fw:Fw s0 t
 al:(en=0∧framesF C.x C.H (n+1) fp pc t=R∧AgG C.H f0 t W∧(∃ us,Gc C.x C.H ts f0 t us)∧FrI C.x t base (n+1) fp pc∧t.W (fp+2)=fn∧0<fp)∨(en=7∧R=none)
structure LsI (C:Mx) (ts:List Nat) (f0:Nat) (w:World) (s0:Vm) (q:Mq) (iv ov:Value) (R:Option Vm) (t:Vm) (W:Nat→Int) (en:Int) (wr:World):Prop where
 mv:Mv C wr t { q with W:=W,en:=en,cd:=0 } iv ov
 ol:OnlyL C w wr
 fw:Fw s0 t
 al:(en=0∧R=some t∧AgG C.H f0 t W∧∃ us,Gc C.x C.H ts f0 t us)∨(en=7∧R=none)
theorem en_forward:Enters Tryz.prog 147:=enters_of Tryz.func147 (by kernel_rfl) (by kernel_rfl)
def AgM (s:Vm) (W:Nat→Int):Prop:=∀ a,(a<12000∨(s.used≤a∧a<s.free))→W a=s.W a
def FinM (C:Mx) (s:Vm) (e c:Int) (iv ov:Value) (w':World):Prop:=∃ s' q',Mv C w' s' q' iv ov∧q'.en=e∧q'.cd=c∧s'.out=s.out∧s'.steps=s.steps∧s'.moves=s.moves∧s'.copies=s.copies
def LcQ (C:Mx) (w:World) (s:Vm) (q:Mq) (iv ov:Value) (n:Ending) (w':World):Prop :=
 n=unitE∧OnlyL C w w'∧match s.coll C.x C.H with
 | none=>FinM C s.moved 7 0 iv ov w'
 | some t=>∃ W,Mv C w' t { q with W:=W } iv ov∧AgM t W
theorem LfI.next {C:Mx}(hC:MxI C) {ts:List Nat}{f0:Nat}{w:World}{s0:Vm}{base:Nat}{q:Mq}{iv ov:Value}{R:Option Vm}{n fp:Nat}{fn pc:Int}{t:Vm}{W0:Nat→Int}{wr:World}(h:LfI C ts f0 w s0 base q iv ov R n fp fn pc t W0 0 wr) {c:Nat}(hc:t.W (fp+2)=(c:Int)) {tj:Vm}{W:Nat→Int}{en:Int}{wx:World}(hj:LjI C ts f0 w s0 t q iv ov fp (mapAt (cdAt C.x c) pc) (mapAt (cdAt C.x c) pc).length tj W en wx) {fq:Nat}(hq:t.W fp=(fq:Int)) (hn0:n=0→fq=0) (hnp:0<n→0<fq) :
  (fq=0→LsI C ts f0 w s0 q iv ov R tj W en wx)∧(0<fq→∀ wy,Later wx wy→LfI C ts f0 w s0 base q iv ov R (n - 1) fq (W (fq+2)) (t.W (fp+1) - 1) tj W en wy):=by
 have hct:(t.W (fp+2)).toNat=c:=by omega
 rcases h.al with ⟨_,he,hA,⟨us,hG⟩,hF,hfn,hfp⟩|⟨hen,_⟩
 ·rcases hj.al with ⟨rfl,hs,hAj,usj,hGj⟩|⟨rfl,hs⟩
  ·have heq:slotsF C.x C.H fp (mapAt (cdAt C.x c) pc) t=some tj:=by rw[←hs,List.drop_length];rfl
   obtain⟨us',g',f',fr',hw⟩:=FrI.next hC.xi hG hF (by rw[hct];exact heq)
   have hlow:∀ b,b<fp+3→b<12000→tj.W b=t.W b:=fun b h1 h2=>hw b h2 (by omega);obtain⟨c2,hc2,hcl,hsf,hfr⟩:=hF.c (by omega);have hfc:=(hC.xi.at hcl).fr;have e0:tj.W fp=(fq:Int):=by rw[hlow fp (by omega) (by omega)];exact hq
   have e1:tj.W (fp+1)=t.W (fp+1):=hlow (fp+1) (by omega) (by omega);rw[framesF,hct,heq]at he
   have he2:framesF C.x C.H n fq (t.W (fp+1) - 1) tj=R:=by
    rw[←he];show _=framesF C.x C.H n (tj.W fp).toNat (tj.W (fp+1) - 1) tj;rw[e0,e1];rfl
   rw[e0,e1]at fr';refine⟨fun hz=>?_,fun hz wy l=>?_⟩
   ·have hn:n=0:=by
     rcases Nat.eq_zero_or_pos n with k|k
     ·exact k
     ·have:=hnp k;omega
    subst hn;exact⟨hj.mv,hj.ol,hj.fw,.inl ⟨rfl,by rw[←he2];rfl,hAj,usj,hGj⟩⟩
   ·obtain⟨m,rfl⟩:∃ m,n=m+1:=⟨n - 1,by omega⟩
    have hfq:fq<fp:=by
     have:=(hC.xi.at hcl).fr;obtain⟨fq2,k1,k2,_,_⟩:=frame_head hC.xi hF;have:fq2=fq:=by omega
     have:=k2 hfp;omega
    exact⟨hj.mv.kept l,hj.ol.trans (OnlyL.of_later l),hj.fw,.inl ⟨rfl,he2,hAj,⟨usj,hGj⟩,fr',(hAj.lo (fq+2) (by omega)).symm,hz⟩⟩
  ·have hR:R=none:=by rw[←he,framesF,hct,hs];rfl
   exact⟨fun _=>⟨hj.mv,hj.ol,hj.fw,.inr ⟨rfl,hR⟩⟩,fun _ wy l=>⟨hj.mv.kept l,hj.ol.trans (OnlyL.of_later l),hj.fw,.inr ⟨rfl,hR⟩⟩⟩
 ·exact absurd hen (by decide)
structure SkI (C:Mx) (ts:List Nat) (f0:Nat) (w:World) (s0 t:Vm) (q:Mq) (iv ov:Value) (a:Nat) (hd:Int) (n k:Nat) (tk:Vm) (W:Nat→Int) (en:Int) (wx:World):Prop where
 mv:Mv C wx tk { q with W:=W,en:=en,cd:=0 } iv ov
 ol:OnlyL C w wx
 fw:Fw s0 tk
 al:(en=0∧wordsF C.x C.H a hd (n - k) k tk=wordsF C.x C.H a hd n 0 t∧AgG C.H f0 tk W∧∃ us,Gc C.x C.H ts f0 tk us∧a∈us∧tk.W a=hd)∨(en=7∧wordsF C.x C.H a hd n 0 t=none)
theorem SkI.step {C:Mx}(hC:MxI C) {ts:List Nat}{f0:Nat}{w:World}{s0 t:Vm}{q:Mq}{iv ov:Value}{a:Nat}{hd:Int}{n k:Nat}{tk:Vm}{W:Nat→Int}{en:Int}{wx:World}(h:SkI C ts f0 w s0 t q iv ov a hd n k tk W en wx) (hn:szW C.x hd=n) (hk:k<n) (hl:leads C.x hd k=true) (haN:a+1+k<C.N) (w':World) (lw:Later wx w') :
  Calls Tryz.prog 147 #[.pointer (some ⟨C.K,0,none⟩),.int .i64 (W (a+1+k))] w' (StepQ C wx iv ov (a+1+k) (fun w''=>∃ tk' W' en',SkI C ts f0 w s0 t q iv ov a hd n (k+1) tk' W' en' w'')):=by
 obtain⟨mv,ol,fw,al⟩:=h;rcases al with ⟨rfl,he,hA,us,hG,hau,hwa⟩|⟨rfl,he⟩
 ·have hr:=hG.us_rg hau;rw[hwa,hn]at hr;have ho:=hG.other;have hend:=hG.end;have ht2:=hG.t2;have hh:=hG.h4;have m1:=mv.kept lw;refine (lforward_any hC m1 hG hA rfl (W (a+1+k))).mono (fun m w2 hq=>?_);have hqa:W (a+1+k)=tk.W (a+1+k):=hA.nw _ (by omega) (by omega);obtain⟨v,hm0,hm,o,hf⟩:=foll_alive (q:={ q with W:=W,en:=0,cd:=0 }) hC rfl haN (by omega) hqa hq;refine⟨v,hm0,hm,(OnlyL.of_later lw).trans o,?_⟩;have hat:=@wordsF_yes C.x C.H a hd n k tk hk hl;unfold FoQ at hf
  cases hfo:tk.foll C.x C.H (a+1+k) with
  | none =>
   rw[hfo]at hf hat;obtain⟨W',m2,o2,hb⟩:=hf;exact⟨tk,W',7,m2,(ol.trans (OnlyL.of_later lw)).trans o2,fw,.inr ⟨rfl,by rw[←he,hat];rfl⟩⟩
  | some u =>
   rw[hfo]at hf hat;obtain⟨W',m2,o2,ag⟩:=hf;obtain⟨us',g',ha',hw',f'⟩:=words_step hG hau hwa (by rw[hn];exact hk) hfo;exact⟨u,W',0,m2,(ol.trans (OnlyL.of_later lw)).trans o2,fw.trans f',.inl ⟨rfl,by rw[←he,hat];rfl,ag,us',g',ha',hw'⟩⟩
 ·have m1:=mv.kept lw;refine (lforward_dead m1 rfl (W (a+1+k))).mono (fun m w2 hq=>?_);obtain⟨rfl,rfl⟩:=hq;have m2:=m1.setW hC haN 0;exact⟨0,rfl,⟨_,_,m1⟩,OnlyL.of_later lw,tk,fset W (a+1+k) 0,7,m2,(ol.trans (OnlyL.of_later lw)).setW _ _,fw,.inr ⟨rfl,he⟩⟩
theorem SkI.skip {C:Mx}{ts:List Nat}{f0:Nat}{w:World}{s0 t:Vm}{q:Mq}{iv ov:Value}{a:Nat}{hd:Int}{n k:Nat}{tk:Vm}{W:Nat→Int}{en:Int}{wx:World}(h:SkI C ts f0 w s0 t q iv ov a hd n k tk W en wx) (hk:k<n) (hl:leads C.x hd k=false):SkI C ts f0 w s0 t q iv ov a hd n (k+1) tk W en wx:=by
 obtain⟨mv,ol,fw,al⟩:=h;refine⟨mv,ol,fw,?_⟩;rcases al with ⟨rfl,he,hA,us,hG,hau,hwa⟩|⟨rfl,he⟩
 ·exact .inl ⟨rfl,by rw[←he,@wordsF_no C.x C.H a hd n k tk hk hl],hA,us,hG,hau,hwa⟩
 ·exact .inr ⟨rfl,he⟩
structure ScI (C:Mx) (ts:List Nat) (f0:Nat) (w:World) (s0:Vm) (q:Mq) (iv ov:Value) (r:Option Vm) (a:Nat) (t:Vm) (W:Nat→Int) (en:Int) (wr:World):Prop where
 mv:Mv C wr t { q with W:=W,en:=en,cd:=0 } iv ov
 ol:OnlyL C w wr
 fw:Fw s0 t
 al:(en=0∧AgG C.H f0 t W∧∃ us ds f,Gc C.x C.H ts f0 t us∧Tiled C.x t.W (t.other C.H) ds a∧(∃ z,us=ds++z)∧t.other C.H+C.H≤a+f∧scanF C.x C.H f a t=r)∨(en=7∧r=none)
theorem LsI.scan {C:Mx}{ts:List Nat}{f0:Nat}{w:World}{s0:Vm}{q:Mq}{iv ov:Value}{R:Option Vm}{t:Vm}{W:Nat→Int}{en:Int}{wr:World}(h:LsI C ts f0 w s0 q iv ov R t W en wr) {OT:Nat}(hO:t.other C.H=OT):ScI C ts f0 w s0 q iv ov (R.bind (scanF C.x C.H C.H OT)) OT t W en wr:=by
 obtain⟨mv,ol,fw,al⟩:=h;refine⟨mv,ol,fw,?_⟩;rcases al with ⟨rfl,hR,hA,us,hG⟩|⟨rfl,hR⟩
 ·exact .inl ⟨rfl,hA,us,[],C.H,hG,by rw[Tiled,hO],⟨us,rfl⟩,by omega,by rw[hR];rfl⟩
 ·exact .inr ⟨rfl,by rw[hR];rfl⟩
theorem ScI.obj {C:Mx}(hC:MxI C) {ts:List Nat}{f0:Nat}{w:World}{s0:Vm}{q:Mq}{iv ov:Value}{r:Option Vm}{a:Nat}{t:Vm}{W:Nat→Int}{wr:World}(h:ScI C ts f0 w s0 q iv ov r a t W 0 wr) (hl:a<t.free) :
  W a=t.W a∧Good C.x (t.W a)∧a+(1+szW C.x (t.W a))≤C.N∧SkI C ts f0 w s0 t q iv ov a (t.W a) (szW C.x (t.W a)) 0 t W 0 wr∧∀ tk Wk en wx,SkI C ts f0 w s0 t q iv ov a (t.W a) (szW C.x (t.W a)) (szW C.x (t.W a)) tk Wk en wx→ScI C ts f0 w s0 q iv ov r (a+1+szW C.x (t.W a)) tk Wk en wx:=by
 have hN:=hC.hN;rcases h.al with ⟨_,hA,us,ds,f,hG,hT,hu,hf,hsc⟩|⟨hen,_⟩
 ·have ha:=(scan_at hG hT hu hl).1;have hr:=hG.us_rg ha;have ho:=hG.other;have hend:=hG.end;refine⟨hA.nw a hr.1 hl,hr.2.2,by omega,⟨h.mv,h.ol,h.fw,.inl ⟨rfl,rfl,hA,us,hG,ha,rfl⟩⟩,fun tk Wk en wx k=>?_⟩
  obtain⟨f',rfl⟩:∃ f',f=f'+1:=⟨f - 1,by omega⟩
  obtain⟨kmv,kol,kfw,kal⟩:=k;refine⟨kmv,kol,kfw,?_⟩;rcases kal with ⟨rfl,he,hAk,usk,hGk,hak,hwk⟩|⟨rfl,he⟩
  ·have hw:wordsF C.x C.H a (t.W a) (szW C.x (t.W a)) 0 t=some tk:=by rw[←he,Nat.sub_self];rfl
   obtain⟨_,⟨us',g',hT',hu'⟩,fw',hs'⟩:=scan_step (f:=f') hG hT hu hl hw;have hou:tk.other C.H=t.other C.H:=by unfold Vm.other;rw[fw'.calls.1]
   exact .inl ⟨rfl,hAk,us',ds++[a],f',g',hT',hu',by rw[hou];omega,by rw[←hs',hsc]⟩
  ·exact .inr ⟨rfl,by rw[←hsc,scan_none hl he]⟩
 ·exact absurd hen (by decide)
theorem ScI.over {C:Mx}{ts:List Nat}{f0:Nat}{w:World}{s0:Vm}{q:Mq}{iv ov:Value}{r:Option Vm}{a:Nat}{t:Vm}{W:Nat→Int}{en:Int}{wr:World}(h:ScI C ts f0 w s0 q iv ov r a t W en wr) (hl:en=0→¬ a<t.free):LsI C ts f0 w s0 q iv ov r t W en wr:=by
 obtain⟨mv,ol,fw,al⟩:=h;refine⟨mv,ol,fw,?_⟩;rcases al with ⟨rfl,hA,us,ds,f,hG,_,_,_,hsc⟩|⟨rfl,hr⟩
 ·exact .inl ⟨rfl,by rw[←hsc,scan_end (hl rfl)],hA,us,hG⟩
 ·exact .inr ⟨rfl,hr⟩
theorem LsI.done {C:Mx}{ts:List Nat}{f0:Nat}{w:World}{s s0:Vm}{q:Mq}{iv ov:Value}{r:Option Vm}{t:Vm}{W:Nat→Int}{en:Int}{wr w':World}(h:LsI C ts f0 w s0 q iv ov r t W en wr) (hs0:s0=s.coll0 C.H) (hen:q.en=0) (hcd:q.cd=0) (hco:s.coll C.x C.H=r.map (Vm.coll1 C.H)) (m:Mv C w' (t.coll1 C.H) { q with W:=W,en:=en,cd:=0 } iv ov) :
  match s.coll C.x C.H with
  | none=>FinM C s.moved 7 0 iv ov w'
  | some t=>∃ W,Mv C w' t { q with W:=W } iv ov∧AgM t W:=by
 rcases h.al with ⟨rfl,hr,hA,us,hG⟩|⟨rfl,hr⟩
 ·rw[hco,hr];show ∃ W,Mv C w' (t.coll1 C.H) { q with W:=W } iv ov∧AgM (t.coll1 C.H) W;refine⟨W,?_,fun a ha=>?_⟩
  ·have e1:({ q with W:=W,en:=0,cd:=0 }:Mq)={ q with W:=W }:=by
    cases q
    simp only at hen hcd;subst hen hcd;rfl
   rw[←e1];exact m
  ·show W a=t.W a;rcases ha with k|⟨k1,k2⟩
   ·exact hA.lo a k
   ·exact hA.nw a k1 k2
 ·rw[hco,hr];show FinM C s.moved 7 0 iv ov w';have hf:=h.fw.eq;refine⟨_,_,m,rfl,rfl,?_,?_,?_,?_⟩
  ·show t.out=s.out;rw[hf,hs0];rfl
  ·show t.steps=s.steps;rw[hf,hs0];rfl
  ·show t.moves=s.moves+1;rw[hf,hs0];rfl
  ·show t.copies=s.copies;rw[hf,hs0];rfl
end Go.Proofs.YtjnpncefkigcbaaGreat
