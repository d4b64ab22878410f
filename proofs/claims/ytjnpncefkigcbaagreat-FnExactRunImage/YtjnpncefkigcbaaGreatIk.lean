import Derived.Test.YtjnpncefkigcbaaGreatIj
import Derived.Test.YtjnpncefkigcbaaGreatHn
set_option maxHeartbeats 100000000
set_option maxRecDepth 100000
namespace Go.Proofs.YtjnpncefkigcbaaGreat
open Go.RowKit Go.Lib Go.Maps
structure Al (C:Mx) (w:World) (s:Vm) (q:Mq) (iv ov:Value):Prop where
 mv:Mv C w s q iv ov
 ag:AgM s q.W
 iv:Iv C.x C.H s
 en:q.en=0
 cd:q.cd=0
 orc:s.orc=C.orc.drop q.ev
theorem Al.kept {C:Mx}{w w':World}{s:Vm}{q:Mq}{iv ov:Value}(h:Al C w s q iv ov) (l:Later w w'):Al C w' s q iv ov:=⟨h.mv.kept l,h.ag,h.iv,h.en,h.cd,h.orc⟩
theorem FinM.kept {C:Mx}{s:Vm}{e c:Int}{iv ov:Value}{w w':World}(h:FinM C s e c iv ov w) (l:Later w w'):FinM C s e c iv ov w':=by
 obtain⟨s',q',m,r⟩:=h;exact⟨s',q',m.kept l,r⟩
def LaQ (C:Mx) (w:World) (s:Vm) (q:Mq) (hd:Int) (n:Nat) (iv ov:Value) (m:Ending) (w':World):Prop :=
 OnlyL C w w'∧match s.rdy C.x C.H n with
 | .fin e c t=>m=.returned (.int .i64 0)∧FinM C t e c iv ov w'
 | .go t=>m=.returned (.int .i64 (t.free:Int))∧∃ W,Mv C w' (t.put0 hd n) { q with W:=W,ev:=q.ev+1 } iv ov∧AgM (t.put0 hd n) W∧t.orc=C.orc.drop (q.ev+1)∧t.room C.H n=true
structure La1 (C:Mx) (w:World) (q:Mq) (iv ov:Value) (RD:St) (n:Nat) (wx:World):Prop where
 ol:OnlyL C w wx
 al:(∃ t W,Al C wx t { q with W:=W,ev:=q.ev+1 } iv ov∧SafeAt C.x t.fn ((t.pc:Int) - 1)∧q.pc=(t.pc:Int) - 1∧t.moves≤999999∧RD=t.rdy2 C.x C.H n)∨(∃ t,RD=.fin 7 0 t∧FinM C t 7 0 iv ov wx)
structure La2 (C:Mx) (w:World) (q:Mq) (iv ov:Value) (RD:St) (n:Nat) (wx:World):Prop where
 ol:OnlyL C w wx
 al:(∃ t W,Al C wx t { q with W:=W,ev:=q.ev+1 } iv ov∧RD=if t.room C.H n then .go t else .fin 6 0 t)∨(∃ t,RD=.fin 7 0 t∧FinM C t 7 0 iv ov wx)
theorem coll_orc {x:Im}(hx:ImI x) {H:Nat}{s t:Vm}(h:Iv x H s) (hs:SafeAt x s.fn ((s.pc:Int) - 1)) (e:s.coll x H=some t):Iv x H t∧t.fn=s.fn∧t.pc=s.pc∧t.moves=s.moves+1∧t.orc=s.orc:=by
 obtain⟨i,cw⟩:=h.coll hx hs e;refine⟨i,?_⟩;rw[cw.eq];exact⟨rfl,rfl,rfl,rfl⟩
theorem Mv.next {C:Mx}{w:World}{s:Vm}{q:Mq}{iv ov:Value}(h:Mv C w s q iv ov):Mv C w s.next q iv ov:=⟨h.lat,h.box,h.wd,h.sd,h.rd,h.ip,h.ib,h.op,h.on⟩
theorem Al.coll {C:Mx}(hC:MxI C) {w:World}{s:Vm}{q:Mq}{iv ov:Value}(h:Al C w s q iv ov) (hs:SafeAt C.x s.fn ((s.pc:Int) - 1)) (hpc:q.pc=(s.pc:Int) - 1) (hmv:s.moves≤1000000) :
  Calls Tryz.prog 122 #[.pointer (some ⟨C.K,0,none⟩)] w fun n w'=>n=unitE∧OnlyL C w w'∧((s.coll C.x C.H=none∧FinM C s.moved 7 0 iv ov w')∨∃ t W,s.coll C.x C.H=some t∧Al C w' t { q with W:=W } iv ov):=by
 refine (lcoll_any hC h.mv h.iv hs h.ag hpc h.en h.cd hmv).mono (fun n w' hq=>?_);obtain⟨rfl,o,hm⟩:=hq;refine⟨rfl,o,?_⟩
 cases hc:s.coll C.x C.H with
 | none=>rw[hc]at hm;exact .inl ⟨rfl,hm⟩
 | some t =>
  rw[hc]at hm;obtain⟨W,m,ag⟩:=hm;obtain⟨i,_,_,_,ho⟩:=coll_orc hC.xi h.iv hs hc;exact .inr ⟨t,W,rfl,m,ag,i,h.en,h.cd,ho.trans h.orc⟩
def ptW (W:Nat→Int) (f:Nat) (hd:Int) (j:Nat):Nat→Int:=fun a=>if a=f then hd else if f≤a∧a<f+j then 0 else W a
theorem AgM.put0 {s:Vm}{W:Nat→Int}(h:AgM s W) (hd:Int) (n:Nat):AgM (s.put0 hd n) (ptW W s.free hd (1+n)):=fun a ha=>by
 have ha':a<12000∨(s.used≤a∧a<s.free+(1+n)):=ha;show ptW W s.free hd (1+n) a=if a=s.free then hd else if s.free≤a∧a<s.free+(1+n) then 0 else s.W a
 unfold ptW;by_cases e1:a=s.free
 ·rw[if_pos e1,if_pos e1]
 ·rw[if_neg e1,if_neg e1];by_cases e2:s.free≤a∧a<s.free+(1+n)
  ·rw[if_pos e2,if_pos e2]
  ·rw[if_neg e2,if_neg e2];exact h a (by omega)
def LkQ (C:Mx) (w:World) (s:Vm) (q:Mq) (iv ov:Value) (d:Int) (o:Option Int) (n:Ending) (w':World):Prop :=
 match o with
 | none=>n=.returned (.int .i64 d)∧Mv C w' s (q.stop 7 0) iv ov∧OnlyL C w w'
 | some v=>n=.returned (.int .i64 v)∧Later w w'
theorem llen_any {C:Mx}(hC:MxI C) {w:World}{s:Vm}{q:Mq}{iv ov:Value}(h:Al C w s q iv ov) (z:Int) :
  Calls Tryz.prog 52 #[.pointer (some ⟨C.K,0,none⟩),.int .i64 z] w (LkQ C w s q iv ov 0 (s.len C.H z)):=by
 by_cases hz:z=0
 ·have HZ:LkQ C w s q iv ov 0 (s.len C.H z) (.returned (.int .i64 0)) w:=by
   unfold Vm.len;rw[if_pos hz];exact⟨rfl,Later.refl _⟩
  generalize LkQ C w s q iv ov 0 (s.len C.H z)=Q at *
  subst hz;clear h;go_enter Tryz.func52,Tryz.ntmps52;go_wp2_with fail
  first|exact HZ|(go_ret;exact HZ)
 have hzb:(z==0)=false:=by simp[hz]
 have HSp:Hid (∀ w',Later w w'→Calls Tryz.prog 23 #[.pointer (some ⟨C.K,0,none⟩),.int .i64 7,.int .i64 0] w' (MQ C w' unitE s (q.stop 7 0) iv ov)):=fun w' l=>lstop_any hC (h.mv.kept l) 7 0;have HNo:Hid (s.len C.H z=none→∀ w' w'',Later w w'→MQ C w' unitE s (q.stop 7 0) iv ov unitE w''→LkQ C w s q iv ov 0 (s.len C.H z) (.returned (.int .i64 0)) w''):=fun e w' w'' l m=>by rw[e];exact⟨rfl,m.2.1,(OnlyL.of_later l).trans m.2.2⟩
 have HYe:Hid (∀ v,s.len C.H z=some v→∀ w',Later w w'→LkQ C w s q iv ov 0 (s.len C.H z) (.returned (.int .i64 v)) w'):=fun v e w' l=>by rw[e];exact⟨rfl,l⟩
 have hle:s.len C.H z=if s.obj C.H z&&(s.W z.toNat % 8 != 0) then some (s.W z.toNat / 8) else none:=by unfold Vm.len;rw[if_neg hz]
 generalize LkQ C w s q iv ov 0 (s.len C.H z)=Q at *
 generalize s.len C.H z=SL at *
 cases ho:s.obj C.H z with
 | false =>
  have HIs:Hid (Calls Tryz.prog 80 #[.pointer (some ⟨C.K,0,none⟩),.int .i64 z] w (DrQ (.returned (.bool false)) w)):=lis_b hC h.mv h.iv.u ho;have hno:SL=none:=by rw[hle,ho];rfl
  have HN:=HNo.out hno;have HNh:Hid (∀ w' w'',Later w w'→MQ C w' unitE s (q.stop 7 0) iv ov unitE w''→Q (.returned (.int .i64 0)) w''):=HN;clear h HN HNo HYe hle;go_enter Tryz.func52,Tryz.ntmps52;go_wp2_with fail
  refine HIs.out.mono ?_;rintro n1 w1 ⟨rfl,hk1⟩;have l1:Later w w1:=by obtain⟨j1,rfl⟩:=hk1;exact Later.drewN' _ _
  clear hk1;go_wp2_with fail
  refine (HSp.out w1 l1).mono ?_;rintro n2 w2 ⟨rfl,m2⟩;have HP:=HNh.out w1 w2 l1 ⟨rfl,m2⟩;clear HNh HSp HIs m2;unfold unitE;go_wp2_with fail
  first|exact HP|(go_ret;exact HP)
 | true =>
  obtain⟨h12,hfr,hgd,_⟩:=h.iv.obj hC.xi ho;have hfe:=h.iv.fe;have hu:=h.iv.u;have hN:=hC.hN
  have hob:(s.used:Int)≤z:=by
   unfold Vm.obj at ho;simp only[Bool.and_eq_true,decide_eq_true_eq]at ho;exact ho.1
  obtain⟨a,rfl⟩:∃ a:Nat,z=(a:Int):=⟨z.toNat,by omega⟩
  simp only[Int.toNat_natCast]at hfr hgd hle;have HIs:Hid (Calls Tryz.prog 80 #[.pointer (some ⟨C.K,0,none⟩),.int .i64 (a:Int)] w (DrQ (.returned (.bool true)) w)):=lis_b hC h.mv h.iv.u ho;have hqa:q.W a=s.W a:=h.ag a (.inr ⟨by omega,by omega⟩)
  have HW:Hid (∀ w',Later w w'→w'.cell? ⟨C.K,3,none⟩=some (.slice (some ⟨C.WB,0,none⟩) C.N C.N)∧w'.cell? ⟨C.WB,a,none⟩=some (.int .i64 (s.W a))):=fun w' l=>⟨(h.mv.kept l).c3.1,by rw[((h.mv.kept l).word (by omega)).1,hqa]⟩
  have i1:(a:Int)<(C.N:Int):=by omega
  have h0:=hgd.1;have h9:=hgd.2.1;have e1:(s.W a).tmod 8=s.W a % 8:=Int.tmod_eq_emod_of_nonneg h0;have e2:(s.W a).tdiv 8=s.W a / 8:=Int.tdiv_eq_ediv_of_nonneg h0;have kb:s.W a / 8≤1000∧0≤s.W a / 8:=by omega
  obtain⟨kb1,kb2⟩:=kb;rw[ho]at hle;by_cases hm:s.W a % 8=0
  ·have hno:SL=none:=by rw[hle,hm];rfl
   have HNh:Hid (∀ w' w'',Later w w'→MQ C w' unitE s (q.stop 7 0) iv ov unitE w''→Q (.returned (.int .i64 0)) w''):=HNo.out hno;rw[hm]at e1;clear h HNo HYe hle hgd hfr hqa hm hN hob h12
   generalize s.W a / 8=dv at *
   generalize s.W a=hd at *
   go_enter Tryz.func52,Tryz.ntmps52;go_wp2_with fail
   refine HIs.out.mono ?_;rintro n1 w1 ⟨rfl,hk1⟩;have l1:Later w w1:=by obtain⟨j1,rfl⟩:=hk1;exact Later.drewN' _ _
   clear hk1;obtain⟨d3,dw⟩:=HW.out w1 l1;go_wp2_with fail
   refine (HSp.out w1 l1).mono ?_;rintro n2 w2 ⟨rfl,m2⟩;have HP:=HNh.out w1 w2 l1 ⟨rfl,m2⟩;clear HNh HSp HIs m2 HW d3 dw;unfold unitE;go_wp2_with fail
   first|exact HP|(go_ret;exact HP)
  ·have hmb:(s.W a % 8 != 0)=true:=by simp[hm]
   have hye:SL=some (s.W a / 8):=by rw[hle,hmb];rfl
   have hm':(s.W a % 8==0)=false:=by simp[hm]
   have HYh:Hid (∀ w',Later w w'→Q (.returned (.int .i64 (s.W a / 8))) w'):=HYe.out _ hye;clear h HNo HYe hle hgd hfr hqa hm hN hob h12 HSp hmb
   generalize s.W a / 8=dv at *
   generalize s.W a % 8=md at *
   generalize s.W a=hd at *
   go_enter Tryz.func52,Tryz.ntmps52;go_wp2_with fail
   refine HIs.out.mono ?_;rintro n1 w1 ⟨rfl,hk1⟩;have l1:Later w w1:=by obtain⟨j1,rfl⟩:=hk1;exact Later.drewN' _ _
   clear hk1;obtain⟨d3,dw⟩:=HW.out w1 l1;have HP:=HYh.out w1 l1;clear HYh HIs HW;go_wp2_with fail
   first|exact HP|(go_ret;exact HP)
def objO (x:Im) (H:Nat) (s:Vm) (z k:Int) (lst:Bool):Option Int:=if s.obj H z=true∧(s.W z.toNat % 8 != 0)=lst∧0≤k∧k<szW x (s.W z.toNat) then some ((z.toNat+1+k.toNat:Nat):Int) else none
theorem lobj_any {C:Mx}(hC:MxI C) {w:World}{s:Vm}{q:Mq}{iv ov:Value}(h:Al C w s q iv ov) (z k:Int) (lst:Bool) :
  Calls Tryz.prog 82 #[.pointer (some ⟨C.K,0,none⟩),.int .i64 z,.int .i64 k,.bool lst] w (LkQ C w s q iv ov (-1) (objO C.x C.H s z k lst)):=by
 have HSp:Hid (∀ w',Later w w'→Calls Tryz.prog 23 #[.pointer (some ⟨C.K,0,none⟩),.int .i64 7,.int .i64 0] w' (MQ C w' unitE s (q.stop 7 0) iv ov)):=fun w' l=>lstop_any hC (h.mv.kept l) 7 0;have HNo:Hid (objO C.x C.H s z k lst=none→∀ w' w'',Later w w'→MQ C w' unitE s (q.stop 7 0) iv ov unitE w''→LkQ C w s q iv ov (-1) (objO C.x C.H s z k lst) (.returned (.int .i64 (-1))) w''):=fun e w' w'' l m=>by rw[e];exact⟨rfl,m.2.1,(OnlyL.of_later l).trans m.2.2⟩
 have HYe:Hid (∀ v,objO C.x C.H s z k lst=some v→∀ w',Later w w'→LkQ C w s q iv ov (-1) (objO C.x C.H s z k lst) (.returned (.int .i64 v)) w'):=fun v e w' l=>by rw[e];exact⟨rfl,l⟩
 have hle:objO C.x C.H s z k lst=if s.obj C.H z=true∧(s.W z.toNat % 8 != 0)=lst∧0≤k∧k<szW C.x (s.W z.toNat) then some ((z.toNat+1+k.toNat:Nat):Int) else none:=rfl
 generalize LkQ C w s q iv ov (-1) (objO C.x C.H s z k lst)=Q at *
 generalize objO C.x C.H s z k lst=SL at *
 cases ho:s.obj C.H z with
 | false =>
  have HIs:Hid (Calls Tryz.prog 80 #[.pointer (some ⟨C.K,0,none⟩),.int .i64 z] w (DrQ (.returned (.bool false)) w)):=lis_b hC h.mv h.iv.u ho;have hno:SL=none:=by rw[hle,if_neg (by rw[ho];simp)]
  have HNh:Hid (∀ w' w'',Later w w'→MQ C w' unitE s (q.stop 7 0) iv ov unitE w''→Q (.returned (.int .i64 (-1))) w''):=HNo.out hno;clear h HNo HYe hle;go_enter Tryz.func82,Tryz.ntmps82;go_wp2_with fail
  refine HIs.out.mono ?_;rintro n1 w1 ⟨rfl,hk1⟩;have l1:Later w w1:=by obtain⟨j1,rfl⟩:=hk1;exact Later.drewN' _ _
  clear hk1;go_wp2_with fail
  refine (HSp.out w1 l1).mono ?_;rintro n2 w2 ⟨rfl,m2⟩;have HP:=HNh.out w1 w2 l1 ⟨rfl,m2⟩;clear HNh HSp HIs m2;unfold unitE;go_wp2_with fail
  first|exact HP|(go_ret;exact HP)
 | true =>
  obtain⟨h12,hfr,hgd,_⟩:=h.iv.obj hC.xi ho;have hfe:=h.iv.fe;have hu:=h.iv.u;have hN:=hC.hN
  have hob:(s.used:Int)≤z:=by
   unfold Vm.obj at ho;simp only[Bool.and_eq_true,decide_eq_true_eq]at ho;exact ho.1
  obtain⟨a,rfl⟩:∃ a:Nat,z=(a:Int):=⟨z.toNat,by omega⟩
  simp only[Int.toNat_natCast]at hfr hgd hle;have HIs:Hid (Calls Tryz.prog 80 #[.pointer (some ⟨C.K,0,none⟩),.int .i64 (a:Int)] w (DrQ (.returned (.bool true)) w)):=lis_b hC h.mv h.iv.u ho;have hqa:q.W a=s.W a:=h.ag a (.inr ⟨by omega,by omega⟩)
  have HW:Hid (∀ w',Later w w'→w'.cell? ⟨C.K,3,none⟩=some (.slice (some ⟨C.WB,0,none⟩) C.N C.N)∧w'.cell? ⟨C.WB,a,none⟩=some (.int .i64 (s.W a))):=fun w' l=>⟨(h.mv.kept l).c3.1,by rw[((h.mv.kept l).word (by omega)).1,hqa]⟩
  have HWo:Hid (∀ w',Later w w'→Calls Tryz.prog 123 #[.pointer (some ⟨C.K,0,none⟩),.int .i64 (s.W a)] w' fun n w''=>n=.returned (.int .i64 ((szW C.x (s.W a):Nat):Int))∧w''=w'):=fun w' l=>lwords_any hC (h.mv.kept l) hgd;have i1:(a:Int)<(C.N:Int):=by omega
  have hsz:=hgd.sz hC.xi.st;have h0:=hgd.1;have e1:(s.W a).tmod 8=s.W a % 8:=Int.tmod_eq_emod_of_nonneg h0
  have hmd:decide (0<s.W a % 8)=(s.W a % 8 != 0):=by
   by_cases k:s.W a % 8=0
   ·rw[k];rfl
   ·rw[decide_eq_true (by omega)];simp[k]
  rw[ho]at hle;have hh4:=hC.h4;have g4:(a:Int)≤30000:=by omega
  clear hh4;clear h hgd hqa hN hob h12 hfr hu hfe
  generalize szW C.x (s.W a)=sz at *
  generalize hmm:(s.W a % 8 != 0)=mb at *
  generalize s.W a % 8=md at *
  generalize s.W a=hd at *
  clear hmm;by_cases hm:mb=lst
  ·subst hm;have hbb:(mb != mb)=false:=by cases mb <;> rfl
   by_cases hk0:0≤k
   ·have i2:¬ k<0:=by omega
    have i3:decide (k<0)=false:=decide_eq_false i2;by_cases hk1:k<(sz:Int)
    ·have i4:¬ (sz:Int)≤k:=by omega
     have i5:decide ((sz:Int)≤k)=false:=decide_eq_false i4
     obtain⟨kn,rfl⟩:∃ kn:Nat,k=(kn:Int):=⟨k.toNat,by omega⟩
     have hye:SL=some ((a+1+kn:Nat):Int):=by rw[hle,if_pos ⟨rfl,rfl,hk0,hk1⟩];rfl
     have HYh:Hid (∀ w',Later w w'→Q (.returned (.int .i64 ((a+1+kn:Nat):Int))) w'):=HYe.out _ hye
     obtain⟨a1,ha1⟩:∃ a1,a1=a+1:=⟨_,rfl⟩
     obtain⟨a2,ha2⟩:∃ a2,a2=a+1+kn:=⟨_,rfl⟩
     rw[←ha2]at HYh;have g1:(a:Int)+1=(a1:Int):=by omega
     have g2:(a1:Int)+(kn:Int)=(a2:Int):=by omega
     have g3:(a2:Int)≤40000:=by omega
     have g5:(a1:Int)≤40000:=by omega
     clear HNo HYe hle hye HSp ha1 ha2;go_enter Tryz.func82,Tryz.ntmps82;go_wp2_with fail
     refine HIs.out.mono ?_;rintro n1 w1 ⟨rfl,hk1⟩;have l1:Later w w1:=by obtain⟨j1,rfl⟩:=hk1;exact Later.drewN' _ _
     clear hk1;obtain⟨d3,dw⟩:=HW.out w1 l1;have HP:=HYh.out w1 l1;clear HYh;go_wp2_with fail
     refine (HWo.out w1 l1).mono ?_;rintro n3 w3 ⟨rfl,hw3⟩;rw[hw3];clear hw3 w3;go_wp2_with fail
     first|exact HP|(go_ret;exact HP)
    ·have i4:(sz:Int)≤k:=by omega
     have i5:decide ((sz:Int)≤k)=true:=decide_eq_true i4;have hno:SL=none:=by rw[hle,if_neg (fun z=>hk1 z.2.2.2)]
     have HNh:Hid (∀ w' w'',Later w w'→MQ C w' unitE s (q.stop 7 0) iv ov unitE w''→Q (.returned (.int .i64 (-1))) w''):=HNo.out hno;clear HNo HYe hle hno;go_enter Tryz.func82,Tryz.ntmps82;go_wp2_with fail
     refine HIs.out.mono ?_;rintro n1 w1 ⟨rfl,hk1⟩;have l1:Later w w1:=by obtain⟨j1,rfl⟩:=hk1;exact Later.drewN' _ _
     clear hk1;obtain⟨d3,dw⟩:=HW.out w1 l1;go_wp2_with fail
     refine (HWo.out w1 l1).mono ?_;rintro n3 w3 ⟨rfl,hw3⟩;rw[hw3];clear hw3 w3;go_wp2_with fail
     refine (HSp.out w1 l1).mono ?_;rintro n2 w2 ⟨rfl,m2⟩;have HP:=HNh.out w1 w2 l1 ⟨rfl,m2⟩;clear HNh HSp HIs m2 HW d3 dw HWo;unfold unitE;go_wp2_with fail
     first|exact HP|(go_ret;exact HP)
   ·have i2:k<0:=by omega
    have i3:decide (k<0)=true:=decide_eq_true i2;have hno:SL=none:=by rw[hle,if_neg (fun z=>hk0 z.2.2.1)]
    have HNh:Hid (∀ w' w'',Later w w'→MQ C w' unitE s (q.stop 7 0) iv ov unitE w''→Q (.returned (.int .i64 (-1))) w''):=HNo.out hno;clear HNo HYe hle hno;go_enter Tryz.func82,Tryz.ntmps82;go_wp2_with fail
    refine HIs.out.mono ?_;rintro n1 w1 ⟨rfl,hk1⟩;have l1:Later w w1:=by obtain⟨j1,rfl⟩:=hk1;exact Later.drewN' _ _
    clear hk1;obtain⟨d3,dw⟩:=HW.out w1 l1;go_wp2_with fail
    refine (HSp.out w1 l1).mono ?_;rintro n2 w2 ⟨rfl,m2⟩;have HP:=HNh.out w1 w2 l1 ⟨rfl,m2⟩;clear HNh HSp HIs m2 HW d3 dw HWo;unfold unitE;go_wp2_with fail
    first|exact HP|(go_ret;exact HP)
  ·have hbb:(mb != lst)=true:=by cases mb <;> cases lst <;> first|rfl|exact absurd rfl hm
   have hno:SL=none:=by rw[hle,if_neg (fun z=>hm z.2.1)]
   have HNh:Hid (∀ w' w'',Later w w'→MQ C w' unitE s (q.stop 7 0) iv ov unitE w''→Q (.returned (.int .i64 (-1))) w''):=HNo.out hno;clear HNo HYe hle hno;go_enter Tryz.func82,Tryz.ntmps82;go_wp2_with fail
   refine HIs.out.mono ?_;rintro n1 w1 ⟨rfl,hk1⟩;have l1:Later w w1:=by obtain⟨j1,rfl⟩:=hk1;exact Later.drewN' _ _
   clear hk1;obtain⟨d3,dw⟩:=HW.out w1 l1;go_wp2_with fail
   refine (HSp.out w1 l1).mono ?_;rintro n2 w2 ⟨rfl,m2⟩;have HP:=HNh.out w1 w2 l1 ⟨rfl,m2⟩;clear HNh HSp HIs m2 HW d3 dw HWo;unfold unitE;go_wp2_with fail
   first|exact HP|(go_ret;exact HP)
end Go.Proofs.YtjnpncefkigcbaaGreat
