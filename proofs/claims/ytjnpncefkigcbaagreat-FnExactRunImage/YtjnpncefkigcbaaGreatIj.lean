import Derived.Test.YtjnpncefkigcbaaGreatIi
import Derived.Deep.Cut
import Derived.Deep.CutRange
import Derived.Deep.CutBlock
set_option maxHeartbeats 100000000
set_option maxRecDepth 100000
namespace Go.Proofs.YtjnpncefkigcbaaGreat
open Go.RowKit Go.Lib Go.Maps
theorem Mq.zero {q:Mq}(h:q.en=0) (h2:q.cd=0):{ q with W:=q.W,en:=(0:Int),cd:=(0:Int) }=q:=by
 cases q
 simp only at h h2;subst h h2;rfl
theorem lcoll_any {C:Mx}(hC:MxI C) {w:World}{s:Vm}{q:Mq}{iv ov:Value}(h:Mv C w s q iv ov) (hI:Iv C.x C.H s) (hs:SafeAt C.x s.fn ((s.pc:Int) - 1)) (hA:AgM s q.W) (hpc:q.pc=(s.pc:Int) - 1) (hen:q.en=0) (hcd:q.cd=0) (hmv:s.moves≤1000000) :
  Calls Tryz.prog 122 #[.pointer (some ⟨C.K,0,none⟩)] w (LcQ C w s q iv ov):=by
 have hN:=hC.hN;have h4:=hC.h4;have h8:=hC.h8;obtain⟨ts,hG⟩:=hI.gc;have hFr:=hI.fr hs;have hb:=hI.bf hC.xi;have hb1:=hI.b1;have hcp:=hI.cpos;have hot:(s.used=12000∧s.other C.H=12000+C.H)∨(s.used=12000+C.H∧s.other C.H=12000):=hG.other;obtain⟨c20,z20⟩:=h.c20;obtain⟨c6,z6⟩:=h.c6;obtain⟨c5,z5⟩:=h.c5;obtain⟨c7,z7⟩:=h.c7;obtain⟨c10,_⟩:=h.c10;obtain⟨c11,_⟩:=h.c11;obtain⟨c12,_⟩:=h.c12;have hq0:{ q with W:=q.W,en:=(0:Int),cd:=(0:Int) }=q:=Mq.zero hen hcd
 have hA0:AgG C.H s.free (s.coll0 C.H) q.W:=⟨fun a ha=>hA a (.inl ha),fun a h1 h2=>by
   have h1':s.other C.H≤a:=h1;have h2':a<s.other C.H:=h2
   omega,fun a h1 h2=>by
   obtain⟨tl,_,hpl⟩:=hI.hp;show q.W a=if s.pl a=0∨s.pl a=a then s.W a else _
   rw[if_pos (by rw[hpl a];split;exact .inr rfl;exact .inl rfl)]
   exact hA a (.inr ⟨h1,h2⟩)⟩
 have HP0:Hid (∀ w',Later ((w.setCell ⟨C.K,20,none⟩ (.int .i64 ((s.moves+1:Nat):Int))).setCell ⟨C.K,7,none⟩ (.int .i64 (s.other C.H:Int))) w'→LfI C ts s.free w (s.coll0 C.H) s.base q iv ov (framesF C.x C.H s.calls s.fp ((s.pc:Int) - 1) (s.coll0 C.H)) (s.calls - 1) s.fp (s.fn:Int) q.pc (s.coll0 C.H) q.W 0 w'):=fun w' l=>by
  have p1:=h.setK hC (s':={ s with moves:=s.moves+1 }) (q':=q) (o:=20) (v:=.int .i64 ((s.moves+1:Nat):Int)) (by decide) (map_ext rfl) rfl rfl rfl rfl rfl;have p2:=p1.setK hC (s':=s.coll0 C.H) (q':=q) (o:=7) (v:=.int .i64 (s.other C.H:Int)) (by decide) (map_ext rfl) rfl rfl rfl rfl rfl;have e1:s.calls - 1+1=s.calls:=by omega
  refine⟨by rw[hq0];exact p2.kept l,((((OnlyL.refl C w).setK _ _).setK _ _)).trans (OnlyL.of_later l),Fw.refl _,.inl ⟨rfl,by rw[e1,hpc],hA0,⟨[],hG⟩,by rw[e1,hpc];exact hFr,hI.wf,by omega⟩⟩
 obtain⟨mv,hmv1⟩:∃ mv,mv=s.moves+1:=⟨_,rfl⟩
 rw[←hmv1]at HP0;have j1:(s.moves:Int)+1=(mv:Int):=by omega
 have j2:(mv:Int)≤1000001:=by omega
 have HCo:Hid (s.coll C.x C.H=((framesF C.x C.H s.calls s.fp ((s.pc:Int) - 1) (s.coll0 C.H)).bind (scanF C.x C.H C.H (s.other C.H))).map (Vm.coll1 C.H)):=rfl
 generalize framesF C.x C.H s.calls s.fp ((s.pc:Int) - 1) (s.coll0 C.H)=R at *
 have HU:Hid ((s.used=12000∧s.other C.H=12000+C.H)∨(s.used=12000+C.H∧s.other C.H=12000)):=hot;have HDn:Hid (∀ (r:Option Vm) (t:Vm) (W:Nat→Int) (en:Int) (wr w':World),LsI C ts s.free w (s.coll0 C.H) q iv ov r t W en wr→s.coll C.x C.H=r.map (Vm.coll1 C.H)→Mv C w' (t.coll1 C.H) { q with W:=W,en:=en,cd:=0 } iv ov→match s.coll C.x C.H with|none=>FinM C s.moved 7 0 iv ov w'|some t=>∃ W,Mv C w' t { q with W:=W } iv ov∧AgM t W):=fun r t W en wr w' hl hco m=>hl.done rfl hen hcd hco m
 have HE0:Hid (∀ t,Fw (s.coll0 C.H) t→t.used=s.used∧t.other C.H=s.other C.H∧t.out=s.out∧t.steps=s.steps∧t.moves=mv∧t.copies=s.copies):=fun t f=>by
  rw[f.eq,hmv1];exact⟨rfl,rfl,rfl,rfl,rfl,rfl⟩
 have HQ:Hid (∀ w',(OnlyL C w w'∧match s.coll C.x C.H with
  | none=>FinM C s.moved 7 0 iv ov w'
  | some t=>∃ W,Mv C w' t { q with W:=W } iv ov∧AgM t W)→LcQ C w s q iv ov (.returned (.tuple #[])) w'):=fun w' hh=>⟨rfl,hh⟩
 generalize LcQ C w s q iv ov=Q at *
 have k1:((s.other C.H:Nat):Int)≤20000:=by omega
 clear h hI hs hA hG hFr hb hb1 hcp hA0 hq0 hN;obtain⟨OT,hOT⟩:=hidx (s.other C.H);rw[←hOT.out]at HP0 k1 HCo HE0 HU hot;obtain⟨s0,hs0⟩:=hidx (s.coll0 C.H);rw[←hs0.out]at HP0 HE0 HDn
 have hlow:∃ b:Bool,((s.used:Int)==12000)=b∧(b=true→(OT:Int)=12000+(C.H:Int))∧(b=false→(OT:Int)=12000):=by
  rcases hot with ⟨a1,a2⟩|⟨a1,a2⟩
  ·exact⟨true,by rw[a1];rfl,(fun _=>by omega),(fun z=>by cases z)⟩
  ·exact⟨false,(by rw[a1];simp;omega),(fun z=>by cases z),(fun _=>by omega)⟩
 obtain⟨lb,hlb,ht,hf⟩:=hlow;clear hot hmv1;go_enter Tryz.func122,Tryz.ntmps122;go_upto_if 25 with fail
 go_cut [2] from 3 (fun s2 wx=>s2=.int .i64 (OT:Int)∧wx=w.setCell ⟨C.K,20,none⟩ (.int .i64 (mv:Int)))
 case first =>
  cases lb with
  | true =>
   have e1:=ht rfl;have e2:(12000:Int)+(C.H:Int)=(OT:Int):=e1.symm;clear e1 ht hf HP0 HE0 HU HQ HCo HDn hOT hs0;go_wp2_with fail
   go_meet
   case rel=>exact⟨rfl,rfl⟩
  | false =>
   have e1:=hf rfl;clear ht hf HP0 HE0 HU HQ HCo HDn hOT hs0;go_wp2_with fail
   go_meet
   case rel=>exact⟨by rw[e1],rfl⟩
 case rest =>
  obtain⟨rfl,rfl⟩:=hcut;clear ht hf hlb
  generalize hqp:q.pc=qpc at *
  have HQP:Hid (q.pc=qpc):=hqp;clear hpc hen hcd hqp;go_wp2_with fail
  go_quiet (fail)
  go_upto_block 0 with fail
  have HI0:=HP0.out _ (Later.drewN' _ nq);have HI0h:Hid (LfI C ts s.free w s0 s.base q iv ov R (s.calls - 1) s.fp (s.fn:Int) qpc s0 q.W 0 _):=HI0;clear HI0 HP0 c20 c6 c5 c7 c10 c11 c12 z20 z6 z5 z7;go_cut [2] from 3 (fun s2 wx=>s2=.int .i64 (OT:Int)∧∃ (t:Vm) (W:Nat→Int) (en:Int),Hid (LsI C ts s.free w s0 q iv ov R t W en wx))
  case first =>
   go_wp2_with fail
   go_loopw [3,4,5] (fun i3 i4 i5 wr=>∃ (n fp:Nat) (fn pc:Int) (t:Vm) (W:Nat→Int) (en:Int),i3=.int .i64 (fp:Int)∧i4=.int .i64 fn∧i5=.int .i64 pc∧Hid (LfI C ts s.free w s0 s.base q iv ov R n fp fn pc t W en wr)) (fun i3 _ _ _=>(intOf i3).toNat)
   case atStart=>exact⟨s.calls - 1,s.fp,(s.fn:Int),qpc,s0,q.W,0,rfl,rfl,rfl,HI0h⟩
   case round =>
    as_aux_lemma =>
     obtain⟨n,fp,fn,pc,t,W,en,rfl,rfl,rfl,HI⟩:=hrel;clear HI0h;obtain⟨d22,_⟩:=HI.out.mv.c22;rcases HI.out.al with ⟨rfl,hfr,hAg,⟨us,hG⟩,hF,hfn,hfp⟩|⟨rfl,hRn⟩
     ·obtain⟨c,hc,hcl,hsafe,hfr2⟩:=hF.c (by omega);have hfc:=(hC.xi.at hcl).fr;obtain rfl:fn=(c:Int):=hfn.symm.trans hc;have HMap:Hid (Calls Tryz.prog 146 #[.pointer (some ⟨C.K,0,none⟩),.int .i64 (c:Int),.int .i64 pc] wr fun n w'=>∃ v,n=.returned v∧RdL C.w0 1 v (In.dats (mapAt (cdAt C.x c) pc))∧w'=wr):=lmap_any hC HI.out.mv hcl pc
      have hsl:Hid (∀ k:Int,k∈mapAt (cdAt C.x c) pc→3≤k∧fp+k.toNat<12000):=fun k hk=>by
       obtain⟨m,_,_,_,hm,hkk⟩:=hsafe.map (hC.xi.at hcl);rw[hm]at hk;have:=hkk k hk;omega
      obtain⟨fq,hfq,hfqlt,hn0,hnp⟩:=frame_head hC.xi hF;have hfq1:=hfqlt hfp
      have HPn:Hid (0<fq→∃ pn:Nat,t.W (fp+1)=(pn:Int)∧1≤pn∧pn≤6001):=fun hz=>by
       have hch:=hF.ch (by omega)
       have hnn:0<n:=by
        rcases Nat.eq_zero_or_pos n with k|k
        ·have:=hn0 k;omega
        ·exact k
       obtain⟨m,rfl⟩:∃ m,n=m+1:=⟨n - 1,by omega⟩
       rw[Chain]at hch;obtain⟨g0,q0,c0,i0,_,_,_,k4,_,k6,k7,_,_⟩:=hch
       have hql:q0<(cdAt C.x c0).ins.length:=by
        rcases Nat.lt_or_ge q0 (cdAt C.x c0).ins.length with z|z
        ·exact z
        ·rw[List.getElem?_eq_none z]at k7;cases k7
       have:=(hC.xi.at k4).i6;exact⟨q0+1,by rw[k6];omega,by omega,by omega⟩
      have HNext:Hid (∀ {tj:Vm}{Wj:Nat→Int}{enj:Int}{wx:World},LjI C ts s.free w s0 t q iv ov fp (mapAt (cdAt C.x c) pc) (mapAt (cdAt C.x c) pc).length tj Wj enj wx→(fq=0→LsI C ts s.free w s0 q iv ov R tj Wj enj wx)∧(0<fq→∀ wy,Later wx wy→LfI C ts s.free w s0 s.base q iv ov R (n - 1) fq (Wj (fq+2)) (t.W (fp+1) - 1) tj Wj enj wy)):=fun hj=>LfI.next hC HI.out hc hj hfq hn0 hnp
      have HJ0:Hid (LjI C ts s.free w s0 t q iv ov fp (mapAt (cdAt C.x c) pc) 0 t W 0 wr):=⟨HI.out.mv,HI.out.ol,HI.out.fw,hAg.lo fp (by omega),hAg.lo (fp+1) (by omega),.inl ⟨rfl,rfl,hAg,us,hG⟩⟩
      have d22':wr.cell? ⟨C.K,22,none⟩=some (.int .i64 0):=d22
      generalize mapAt (cdAt C.x c) pc=l at *
      clear HI d22 hfr hAg hG hF hfn hsafe hc hcl HQ HCo HE0 HU HDn hn0 hnp hfqlt;have hfp12:fp+3≤12000:=by omega
      clear hfr2 hfc;go_wp2_with fail
      refine HMap.out.mono ?_;rintro n1 w1 ⟨v,rfl,hv,rfl⟩;obtain⟨va,vc,rfl,hvl⟩:=In.slice hv
      have HV:Hid (∀ j (hj:j<l.length),∃ g off,va=some ⟨g,off,none⟩∧g<C.w0.heap.size∧∀ w',Later C.w0 w'→w'.cell? ⟨g,off+j,none⟩=some (.int .i64 l[j])):=fun j hj=>by
       obtain⟨g,off,rfl,hg,hcj⟩:=In.elem hv j hj;exact⟨g,off,rfl,hg,fun w' lt=>(Below.cell lt (p:=⟨g,off+j,none⟩) hg).trans hcj⟩
      clear HMap hv d22';go_wp2_with fail
      go_loopw [7] (fun i wx=>∃ (j:Nat) (tj:Vm) (Wj:Nat→Int) (enj:Int),i=.int .i64 (j:Int)∧j≤l.length∧Hid (LjI C ts s.free w s0 t q iv ov fp l j tj Wj enj wx)) (fun i _=>l.length - (intOf i).toNat)
      case atStart=>exact⟨0,t,W,0,rfl,Nat.zero_le _,HJ0⟩
      case round =>
       as_aux_lemma =>
        obtain⟨j,tj,Wj,enj,rfl,hjl,HJ⟩:=hrel;clear HJ0;by_cases hj:j<l.length
        ·as_aux_lemma =>
          have j1:(j:Int)<(l.length:Int):=by omega
          obtain⟨g,off,rfl,hgw,hcj⟩:=HV.out j hj;have hk2:=hsl.out _ (List.getElem_mem hj)
          generalize hwx:wr=wx at *
          have hwb:Hid (12000≤C.N):=by have:=hC.hN;show _≤_;omega
          have HFo:Hid (∀ w',Later wx w'→Calls Tryz.prog 147 #[.pointer (some ⟨C.K,0,none⟩),.int .i64 (Wj (fp+l[j].toNat))] w' (StepQ C wx iv ov (fp+l[j].toNat) (fun w''=>∃ tj' W' en',LjI C ts s.free w s0 t q iv ov fp l (j+1) tj' W' en' w''))):=fun w' lw=>HJ.out.step hC hj hk2.1 hk2.2 w' lw;obtain⟨PN,hPN⟩:=hidx (fun w''=>∃ tj' W' en',LjI C ts s.free w s0 t q iv ov fp l (j+1) tj' W' en' w'');rw[←hPN.out]at HFo;have HPN:Hid (∀ w'',PN w''→∃ tj' W' en',Hid (LjI C ts s.free w s0 t q iv ov fp l (j+1) tj' W' en' w'')):=fun w'' hp=>by rw[hPN.out]at hp;exact hp
          obtain⟨ad,had⟩:∃ ad,ad=fp+l[j].toNat:=⟨_,rfl⟩
          rw[←had]at HFo;have hadN:ad<C.N:=by have:=hwb.out;omega
          obtain⟨kk,hkk⟩:=hidx l[j];have hcj':Hid (∀ w',Later C.w0 w'→w'.cell? ⟨g,off+j,none⟩=some (.int .i64 kk)):=fun w' lw=>by rw[hkk.out];exact hcj w' lw
          have HSx:Hid (∀ w' s' q',Mv C w' s' q' iv ov→w'.cell? ⟨C.K,3,none⟩=some (.slice (some ⟨C.WB,0,none⟩) C.N C.N)∧w'.cell? ⟨g,off+j,none⟩=some (.int .i64 kk)):=fun w' s' q' m=>⟨m.c3.1,hcj'.out _ m.lat⟩
          have HSs:Hid (∀ w' s' q' z,Mv C w' s' q' iv ov→(w'.setCell ⟨C.WB,ad,none⟩ (.int .i64 z)).cell? ⟨C.K,3,none⟩=some (.slice (some ⟨C.WB,0,none⟩) C.N C.N)∧(w'.setCell ⟨C.WB,ad,none⟩ (.int .i64 z)).cell? ⟨g,off+j,none⟩=some (.int .i64 kk)):=fun w' s' q' z m=>⟨(m.setW hC hadN z).c3.1,hcj'.out _ (m.setW hC hadN z).lat⟩
          have HWd:Hid (∀ w' s' q',Mv C w' s' q' iv ov→(∃ u,w'.cell? ⟨C.WB,ad,none⟩=some u)∧w'.frozen? ⟨C.WB,ad,none⟩=false):=fun w' s' q' m=>⟨⟨_,(m.word hadN).1⟩,(m.word hadN).2⟩
          have dw:wx.cell? ⟨C.WB,ad,none⟩=some (.int .i64 (Wj ad)):=(HJ.out.mv.word hadN).1;have hS1:=HSx.out wx _ _ HJ.out.mv;have hS0:=HSx.out _ _ _ (HJ.out.mv.kept (Later.drew wx));have g1:(fp:Int)+kk=(ad:Int):=by rw[hkk.out];omega
          have g2:(ad:Int)<(C.N:Int):=by omega
          have g3:IntKind.i64.wrap (ad:Int)=(ad:Int):=by rw[IntKind.wrap_i64];omega
          have g4:(ad:Int)≤40000:=by omega
          clear HJ HV hcj hcj' hPN had hk2 HNext HPn hsl hkk hwb
          generalize Wj ad=wv at *
          go_wp2_with fail
          refine wp_region_held_drew (S:=fun w'=>w'.cell? ⟨C.K,3,none⟩=some (.slice (some ⟨C.WB,0,none⟩) C.N C.N)∧w'.cell? ⟨g,off+j,none⟩=some (.int .i64 kk)) (by kernel_rfl) (by first|exact hS0|exact hS1) (fun hHeld=>?_);refine tk 0 (.pointer (some ⟨C.K,0,none⟩)) rfl ?_;(try go_simp);refine tk 1 (.pointer (some ⟨C.K,0,none⟩)) rfl ?_;(try go_simp);refine tk 2 (.pointer (some ⟨C.K,3,none⟩)) rfl ?_;(try go_simp);refine tk 3 (.slice (some ⟨C.WB,0,none⟩) C.N C.N) rfl ?_;(try go_simp);refine tk 4 (.int .i64 ((fp:Int))) rfl ?_;(try go_simp);refine tk 5 (.slice (some ⟨g,off,none⟩) l.length vc) rfl ?_;(try go_simp);refine tk 6 (.int .i64 ((j:Int))) rfl ?_;(try go_simp);refine tk 7 (.pointer (some ⟨g,off+j,none⟩)) rfl ?_;(try go_simp);refine tk 8 (.int .i64 (kk)) rfl ?_;(try go_simp);refine tk 9 (.int .i64 ((ad:Int))) rfl ?_;(try go_simp);refine tk 10 (.pointer (some ⟨C.K,0,none⟩)) rfl ?_;(try go_simp);refine tk 11 (.pointer (some ⟨C.K,0,none⟩)) rfl ?_;(try go_simp);refine tk 12 (.pointer (some ⟨C.K,0,none⟩)) rfl ?_;(try go_simp);refine tk 13 (.pointer (some ⟨C.K,3,none⟩)) rfl ?_;(try go_simp);refine tk 14 (.slice (some ⟨C.WB,0,none⟩) C.N C.N) rfl ?_;(try go_simp);refine tk 15 (.int .i64 ((fp:Int))) rfl ?_;(try go_simp);refine tk 16 (.slice (some ⟨g,off,none⟩) l.length vc) rfl ?_;(try go_simp);refine tk 17 (.int .i64 ((j:Int))) rfl ?_;(try go_simp);refine tk 18 (.pointer (some ⟨g,off+j,none⟩)) rfl ?_;(try go_simp);refine tk 19 (.int .i64 (kk)) rfl ?_;(try go_simp);refine tk 20 (.int .i64 ((ad:Int))) rfl ?_;(try go_simp);refine tk 21 (.pointer (some ⟨C.WB,ad,none⟩)) rfl ?_;(try go_simp);refine rd1 22 rfl fun K hK=>?_;go_simp;refine hK.out _ _ ?_ (fun hHeld=>?_)
          ·first|assumption|(go_keep;done)|exact hS2|exact hS3
          clear hK K;(try go_simp);refine rd1 23 rfl fun K hK=>?_;refine step_call rfl 147 en_forward _ _ rfl [.pointer (some ⟨C.K,0,none⟩),.int .i64 wv] rfl (fun v w'=>∃ z,v=.int .i64 z∧(∃ s' q',Mv C w' s' q' iv ov)∧OnlyL C wx w'∧PN (w'.setCell ⟨C.WB,ad,none⟩ (.int .i64 z))) ((HFo.out _ (Later.drew _)).mono (fun e1 w1 hq=>by obtain⟨v,rfl,b1,b2,b3⟩:=hq;exact⟨_,rfl,v,rfl,b1,b2,b3⟩)) ?_;intro u2 w2 hc2;obtain⟨z,rfl,⟨s2,q2,m2⟩,o2,hN2⟩:=hc2;have hS2:=HSx.out w2 s2 q2 m2;have hS3:=HSs.out w2 s2 q2 z m2;obtain⟨⟨ub,fb⟩,zb⟩:=HWd.out w2 s2 q2 m2;clear m2;refine hK.out _ _ ?_ (fun hHeld=>?_)
          ·first|assumption|(go_keep;done)|exact hS2|exact hS3
          clear hK K;(try go_simp);refine tk 24 (.pointer (some ⟨C.WB,ad,none⟩)) rfl ?_;(try go_simp);refine rd1 25 rfl fun K hK=>?_;go_simp;refine hK.out _ _ ?_ (fun hHeld=>?_)
          ·first|assumption|(go_keep;done)|exact hS2|exact hS3
          clear hK K;(try go_simp);refine wpAnyH_done (by kernel_rfl) ?_ _;clear HFo HSx HSs HWd;obtain⟨tj2,W2,en2,h2⟩:=HPN.out _ hN2;go_wp2_with fail
          go_roundw
          case rel=>exact⟨j+1,tj2,W2,en2,by go_num,by omega,h2⟩
          case measure=>simp[intOf];omega
        ·obtain rfl:j=l.length:=by omega
         have hnx:=HNext.out HJ.out;have hCN:=hC.hN;obtain⟨d3,_⟩:=HJ.out.mv.c3;obtain⟨dw0,_⟩:=HJ.out.mv.word (a:=fp) (by omega);obtain⟨dw1,_⟩:=HJ.out.mv.word (a:=fp+1) (by omega);obtain⟨dw2,_⟩:=HJ.out.mv.word (a:=fq+2) (by omega);have e0:=HJ.out.h0;have e1:=HJ.out.h1;have dw0':wr.cell? ⟨C.WB,fp,none⟩=some (.int .i64 (fq:Int)):=by rw[dw0,← hfq,← e0]
         have dw1':wr.cell? ⟨C.WB,fp+1,none⟩=some (.int .i64 (t.W (fp+1))):=by rw[dw1,← e1]
         have dw2':wr.cell? ⟨C.WB,fq+2,none⟩=some (.int .i64 (Wj (fq+2))):=dw2;clear dw0 dw1 dw2 e0 e1
         obtain⟨f1,hf1⟩:∃ f1,f1=fp+1:=⟨_,rfl⟩
         obtain⟨q2,hq2⟩:∃ q2,q2=fq+2:=⟨_,rfl⟩
         have j1:¬ ((l.length:Int)<(l.length:Int)):=by omega
         have g1:(fp:Int)+1=(f1:Int):=by omega
         have g2:(fq:Int)+2=(q2:Int):=by omega
         have g3:(f1:Int)<(C.N:Int):=by omega
         have g4:(q2:Int)<(C.N:Int):=by omega
         have g5:(f1:Int)≤12000:=by omega
         have g6:(q2:Int)≤12002:=by omega
         have g7:(fp:Int)<(C.N:Int):=by omega
         have g8:(fq:Int)<(C.N:Int):=by omega
         rw[←hf1]at dw1';rw[←hq2]at dw2';by_cases hz:fq=0
         ·have HX:Hid (LsI C ts s.free w s0 q iv ov R tj Wj enj wr):=hnx.1 hz;have dw0z:wr.cell? ⟨C.WB,fp,none⟩=some (.int .i64 0):=by rw[dw0',hz];rfl
          clear HJ HV HNext HPn hsl hnx hfq dw0' dw1' dw2' hCN hz hf1 hq2;go_wp2_with fail
          go_meet
          case rel=>exact⟨rfl,tj,Wj,enj,HX⟩
         ·obtain⟨pn,hpn,hp1,hp6⟩:=HPn.out (by omega);rw[←hf1]at hpn;rw[hpn]at dw1'
          have HX:Hid (∀ wy,Later wr wy→LfI C ts s.free w s0 s.base q iv ov R (n - 1) fq (Wj q2) ((pn:Int) - 1) tj Wj enj wy):=fun wy l=>by
           have:=hnx.2 (by omega) wy l;rw[←hf1,← hq2,hpn]at this;exact this
          have hzb:((fq:Int)==0)=false:=by simp[hz]
          have hzc:Hid (fq<fp):=hfq1;have g9:(pn:Int)≤6001:=by omega
          clear HJ HV HNext HPn hsl hnx hfq hCN hz hf1 hq2 hpn
          generalize Wj q2=fn2 at *
          go_wp2_with fail
          go_roundw
          case rel=>exact⟨n - 1,fq,fn2,(pn:Int) - 1,tj,Wj,enj,rfl,rfl,by go_num,HX.out _ (Later.refl _)⟩
          case measure=>simp[intOf];exact hzc.out
     ·have HX:Hid (LsI C ts s.free w s0 q iv ov R t W 7 wr):=⟨HI.out.mv,HI.out.ol,HI.out.fw,.inr ⟨rfl,hRn⟩⟩
      have d22':wr.cell? ⟨C.K,22,none⟩=some (.int .i64 7):=d22;clear HI d22 hRn HQ HCo HE0 HU HDn;go_wp2_with fail
      go_meet
      case rel=>exact⟨rfl,t,W,7,HX⟩
  case rest =>
   as_aux_lemma =>
    obtain⟨rfl,t0,W0,en0,HL⟩:=hcut;have ho0:=(HE0.out t0 HL.out.fw).2.1;have HS0:Hid (ScI C ts s.free w s0 q iv ov (R.bind (scanF C.x C.H C.H OT)) OT t0 W0 en0 wc):=HL.out.scan ho0
    generalize R.bind (scanF C.x C.H C.H OT)=r1 at *
    clear HL ho0 HI0h;go_step
    refine wp_seq_k (fun K2 hK2=>?_);go_cut [2] from 3 (fun s2 wx=>s2=.int .i64 (OT:Int)∧∃ (t:Vm) (W:Nat→Int) (en:Int),Hid (LsI C ts s.free w s0 q iv ov r1 t W en wx))
    case first =>
     go_wp2_with fail
     go_loopw [8] (fun i8 wr=>∃ (a:Nat) (t:Vm) (W:Nat→Int) (en:Int),i8=.int .i64 (a:Int)∧Hid (ScI C ts s.free w s0 q iv ov r1 a t W en wr)) (fun i8 _=>C.N - (intOf i8).toNat)
     case atStart=>exact⟨OT,t0,W0,en0,rfl,HS0⟩
     case round =>
      as_aux_lemma =>
       obtain⟨a,t,W,en,rfl,HI⟩:=hrel;clear HS0 HQ HCo HE0 HU HDn;obtain⟨d22,_⟩:=HI.out.mv.c22;obtain⟨d7,_⟩:=HI.out.mv.c7
       have hen:en=0∨en=7:=by
        rcases HI.out.al with ⟨z,_⟩|⟨z,_⟩
        ·exact .inl z
        ·exact .inr z
       rcases hen with rfl|rfl
       ·by_cases hl:a<t.free
        ·have i1:(a:Int)<(t.free:Int):=by omega
         obtain⟨hWa,hgd,hbN,hk0,hnx⟩:=HI.out.obj hC hl;obtain⟨d3,_⟩:=HI.out.mv.c3;obtain⟨dwa,_⟩:=HI.out.mv.word (a:=a) (by omega);have dwa':wr.cell? ⟨C.WB,a,none⟩=some (.int .i64 (t.W a)):=by rw[dwa,← hWa]
         have HWo:Hid (Calls Tryz.prog 123 #[.pointer (some ⟨C.K,0,none⟩),.int .i64 (t.W a)] wr fun n w'=>n=.returned (.int .i64 ((szW C.x (t.W a):Nat):Int))∧w'=wr):=lwords_any hC HI.out.mv hgd;have hsz:=hgd.sz hC.xi.st;have hN:=hC.hN;have hh4:=hC.h4;have HLd:Hid (∀ w' s' q' k,Mv C w' s' q' iv ov→k<szW C.x (t.W a)→Calls Tryz.prog 148 #[.pointer (some ⟨C.K,0,none⟩),.int .i64 (t.W a),.int .i64 (k:Int)] w' fun n w''=>n=.returned (.bool (leads C.x (t.W a) k))∧w''=w'):=fun w' s' q' k m hk=>lleads_any hC m hgd hk;obtain⟨n,hn⟩:=hidx (szW C.x (t.W a));have HK0:Hid (SkI C ts s.free w s0 t q iv ov a (t.W a) n 0 t W 0 wr):=by rw[hn.out];exact hk0
         have HNx:Hid (∀ tz Wk en wx,SkI C ts s.free w s0 t q iv ov a (t.W a) n n tz Wk en wx→ScI C ts s.free w s0 q iv ov r1 (a+1+n) tz Wk en wx):=by rw[hn.out];exact hnx
         rw[←hn.out]at HWo HLd hsz hbN;have d22':wr.cell? ⟨C.K,22,none⟩=some (.int .i64 0):=d22;have g1:(a:Int)<(C.N:Int):=by omega
         have hb40:a+(1+n)≤40000:=by omega
         clear HI d22 hWa hgd hk0 hnx dwa hN hh4 hl;have hnh:Hid (szW C.x (t.W a)=n):=hn.out.symm;clear hn
         generalize t.W a=hd at *
         go_wp2_with fail
         refine HWo.out.mono ?_;rintro n1 w1 ⟨rfl,rfl⟩;clear HWo d3 dwa' d22' d7;go_wp2_with fail
         go_loopw [11] (fun i wx=>∃ (k:Nat) (tz:Vm) (Wk:Nat→Int) (enk:Int),i=.int .i64 (k:Int)∧k≤n∧Hid (SkI C ts s.free w s0 t q iv ov a hd n k tz Wk enk wx)) (fun i _=>n - (intOf i).toNat)
         case atStart=>exact⟨0,t,W,0,rfl,Nat.zero_le _,HK0⟩
         case round =>
          as_aux_lemma =>
           obtain⟨k,tz,Wk,enk,rfl,hkn,HK⟩:=hrel;clear HK0;by_cases hk:k<n
           ·as_aux_lemma =>
             have j1:(k:Int)<(n:Int):=by omega
             have hL:=HLd.out wr _ _ k HK.out.mv hk;have hLh:Hid (Calls Tryz.prog 148 #[.pointer (some ⟨C.K,0,none⟩),.int .i64 hd,.int .i64 (k:Int)] wr fun n w''=>n=.returned (.bool (leads C.x hd k))∧w''=wr):=hL;clear hL
             cases hld:leads C.x hd k with
             | false =>
              rw[hld]at hLh;have HK2:Hid (SkI C ts s.free w s0 t q iv ov a hd n (k+1) tz Wk enk wr):=HK.out.skip hk hld;clear HK HLd HNx;go_wp2_with fail
              refine hLh.out.mono ?_;rintro n2 w2 ⟨rfl,rfl⟩;clear hLh;go_wp2_with fail
              go_roundw
              case rel=>exact⟨k+1,tz,Wk,enk,by go_num,by omega,HK2⟩
              case measure=>simp[intOf];omega
             | true =>
              rw[hld]at hLh
              generalize hwx:wr=wx at *
              obtain⟨a1,ha1⟩:∃ a1,a1=a+1:=⟨_,rfl⟩
              obtain⟨ad,had⟩:∃ ad,ad=a+1+k:=⟨_,rfl⟩
              have hadN:ad<C.N:=by omega
              have HFo:Hid (∀ w',Later wx w'→Calls Tryz.prog 147 #[.pointer (some ⟨C.K,0,none⟩),.int .i64 (Wk ad)] w' (StepQ C wx iv ov ad (fun w''=>∃ tz' W' en',SkI C ts s.free w s0 t q iv ov a hd n (k+1) tz' W' en' w''))):=fun w' lw=>by rw[had];exact HK.out.step hC hnh.out hk hld (by omega) w' lw
              obtain⟨PN,hPN⟩:=hidx (fun w''=>∃ tz' W' en',SkI C ts s.free w s0 t q iv ov a hd n (k+1) tz' W' en' w'');rw[←hPN.out]at HFo;have HPN:Hid (∀ w'',PN w''→∃ tz' W' en',Hid (SkI C ts s.free w s0 t q iv ov a hd n (k+1) tz' W' en' w'')):=fun w'' hp=>by rw[hPN.out]at hp;exact hp
              have HSx:Hid (∀ w' s' q',Mv C w' s' q' iv ov→w'.cell? ⟨C.K,3,none⟩=some (.slice (some ⟨C.WB,0,none⟩) C.N C.N)):=fun w' s' q' m=>m.c3.1;have HSs:Hid (∀ w' s' q' z,Mv C w' s' q' iv ov→(w'.setCell ⟨C.WB,ad,none⟩ (.int .i64 z)).cell? ⟨C.K,3,none⟩=some (.slice (some ⟨C.WB,0,none⟩) C.N C.N)):=fun w' s' q' z m=>(m.setW hC hadN z).c3.1
              have HWd:Hid (∀ w' s' q',Mv C w' s' q' iv ov→(∃ u,w'.cell? ⟨C.WB,ad,none⟩=some u)∧w'.frozen? ⟨C.WB,ad,none⟩=false):=fun w' s' q' m=>⟨⟨_,(m.word hadN).1⟩,(m.word hadN).2⟩
              have dw:wx.cell? ⟨C.WB,ad,none⟩=some (.int .i64 (Wk ad)):=(HK.out.mv.word hadN).1;have hS1:=HSx.out wx _ _ HK.out.mv;have hS0:=HSx.out _ _ _ (HK.out.mv.kept (Later.drew wx));have g2:(a:Int)+1=(a1:Int):=by omega
              have g3:(a1:Int)+(k:Int)=(ad:Int):=by omega
              have g4:(ad:Int)<(C.N:Int):=by omega
              have g5:IntKind.i64.wrap (ad:Int)=(ad:Int):=by rw[IntKind.wrap_i64];omega
              have g6:IntKind.i64.wrap (a1:Int)=(a1:Int):=by rw[IntKind.wrap_i64];omega
              have g7:(ad:Int)≤40000:=by omega
              have g8:(a1:Int)≤40000:=by omega
              clear HK HLd HNx hPN had ha1 hnh hld
              generalize Wk ad=wv at *
              go_wp2_with fail
              refine hLh.out.mono ?_;rintro n2 w2 ⟨rfl,hw2⟩;rw[hw2];clear hLh hw2 w2;go_wp2_with fail
              refine wp_region_held_drew (S:=fun w'=>w'.cell? ⟨C.K,3,none⟩=some (.slice (some ⟨C.WB,0,none⟩) C.N C.N)) (by kernel_rfl) (by first|exact hS0|exact hS1) (fun hHeld=>?_);refine tk 0 (.pointer (some ⟨C.K,0,none⟩)) rfl ?_;(try go_simp);refine tk 1 (.pointer (some ⟨C.K,0,none⟩)) rfl ?_;(try go_simp);refine tk 2 (.pointer (some ⟨C.K,3,none⟩)) rfl ?_;(try go_simp);refine tk 3 (.slice (some ⟨C.WB,0,none⟩) C.N C.N) rfl ?_;(try go_simp);refine tk 4 (.int .i64 ((a:Int))) rfl ?_;(try go_simp);refine tk 5 (.int .i64 ((a1:Int))) rfl ?_;(try go_simp);refine tk 6 (.int .i64 ((k:Int))) rfl ?_;(try go_simp);refine tk 7 (.int .i64 ((ad:Int))) rfl ?_;(try go_simp);refine tk 8 (.pointer (some ⟨C.K,0,none⟩)) rfl ?_;(try go_simp);refine tk 9 (.pointer (some ⟨C.K,0,none⟩)) rfl ?_;(try go_simp);refine tk 10 (.pointer (some ⟨C.K,0,none⟩)) rfl ?_;(try go_simp);refine tk 11 (.pointer (some ⟨C.K,3,none⟩)) rfl ?_;(try go_simp);refine tk 12 (.slice (some ⟨C.WB,0,none⟩) C.N C.N) rfl ?_;(try go_simp);refine tk 13 (.int .i64 ((a:Int))) rfl ?_;(try go_simp);refine tk 14 (.int .i64 ((a1:Int))) rfl ?_;(try go_simp);refine tk 15 (.int .i64 ((k:Int))) rfl ?_;(try go_simp);refine tk 16 (.int .i64 ((ad:Int))) rfl ?_;(try go_simp);refine tk 17 (.pointer (some ⟨C.WB,ad,none⟩)) rfl ?_;(try go_simp);refine rd1 18 rfl fun K hK=>?_;go_simp;refine hK.out _ _ ?_ (fun hHeld=>?_)
              ·first|assumption|(go_keep;done)|exact hS2|exact hS3
              clear hK K;(try go_simp);refine rd1 19 rfl fun K hK=>?_;refine step_call rfl 147 en_forward _ _ rfl [.pointer (some ⟨C.K,0,none⟩),.int .i64 wv] rfl (fun v w'=>∃ z,v=.int .i64 z∧(∃ s' q',Mv C w' s' q' iv ov)∧OnlyL C wx w'∧PN (w'.setCell ⟨C.WB,ad,none⟩ (.int .i64 z))) ((HFo.out _ (Later.drew _)).mono (fun e1 w1 hq=>by obtain⟨v,rfl,b1,b2,b3⟩:=hq;exact⟨_,rfl,v,rfl,b1,b2,b3⟩)) ?_;intro u2 w2 hc2;obtain⟨z,rfl,⟨s2,q2,m2⟩,o2,hN2⟩:=hc2;have hS2:=HSx.out w2 s2 q2 m2;have hS3:=HSs.out w2 s2 q2 z m2;obtain⟨⟨ub,fb⟩,zb⟩:=HWd.out w2 s2 q2 m2;clear m2;refine hK.out _ _ ?_ (fun hHeld=>?_)
              ·first|assumption|(go_keep;done)|exact hS2|exact hS3
              clear hK K;(try go_simp);refine tk 20 (.pointer (some ⟨C.WB,ad,none⟩)) rfl ?_;(try go_simp);refine rd1 21 rfl fun K hK=>?_;go_simp;refine hK.out _ _ ?_ (fun hHeld=>?_)
              ·first|assumption|(go_keep;done)|exact hS2|exact hS3
              clear hK K;(try go_simp);refine wpAnyH_done (by kernel_rfl) ?_ _;clear HFo HSx HSs HWd;obtain⟨tj2,W2,en2,h2⟩:=HPN.out _ hN2;go_wp2_with fail
              go_roundw
              case rel=>exact⟨k+1,tj2,W2,en2,by go_num,by omega,h2⟩
              case measure=>simp[intOf];omega
           ·obtain rfl:k=n:=by omega
            have HX:Hid (ScI C ts s.free w s0 q iv ov r1 (a+1+k) tz Wk enk wr):=HNx.out tz Wk enk wr HK.out;have j1:¬ ((k:Int)<(k:Int)):=by omega
            have hm1:Hid (C.N - (a+1+k)<C.N - a):=by show _<_;omega
            have g2:(a:Int)+1+(k:Int)≤40000:=by omega
            clear HK HNx HLd hnh;go_wp2_with fail
            go_roundw
            case rel=>exact⟨a+1+k,tz,Wk,enk,by go_num,HX⟩
            case measure=>simp[intOf];omega
        ·have i1:¬ ((a:Int)<(t.free:Int)):=by omega
         have i2:decide ((a:Int)<(t.free:Int))=false:=decide_eq_false i1;have HX:Hid (LsI C ts s.free w s0 q iv ov r1 t W 0 wr):=HI.out.over (fun _=>hl);clear HI d22;go_wp2_with fail
         go_meet
         case rel=>exact⟨rfl,t,W,0,HX⟩
       ·have HX:Hid (LsI C ts s.free w s0 q iv ov r1 t W 7 wr):=HI.out.over (fun z=>absurd z (by decide));have d22':wr.cell? ⟨C.K,22,none⟩=some (.int .i64 7):=d22;clear HI d22;by_cases hl:a<t.free
        ·have i1:(a:Int)<(t.free:Int):=by omega
         go_wp2_with fail
         go_meet
         case rel=>exact⟨rfl,t,W,7,HX⟩
        ·have i1:¬ ((a:Int)<(t.free:Int)):=by omega
         have i2:decide ((a:Int)<(t.free:Int))=false:=decide_eq_false i1;go_wp2_with fail
         go_meet
         case rel=>exact⟨rfl,t,W,7,HX⟩
    case rest =>
     as_aux_lemma =>
      obtain⟨rfl,t,W,en,HL⟩:=hcut;have hE:=HE0.out t HL.out.fw;have hUU:=HU.out;have hh8:=hC.h8;have hh4:=hC.h4;have hCN:=hC.hN;obtain⟨U,hU⟩:=hidx s.used;have hE1:t.used=U:=by rw[hU.out];exact hE.1
      have hE2:t.other C.H=OT:=hE.2.1;have hUr:(U=12000∧OT=12000+C.H)∨(U=12000+C.H∧OT=12000):=by rw[hU.out];exact hUU
      have HM0:Hid (Mv C wc { t with pl:=fun a=>if U≤a∧a<U then 0 else t.pl a } { q with W:=W,en:=en,cd:=0 } iv ov∧OnlyL C w wc):=⟨HL.out.mv.conv rfl (fun b _=>by show ((if U≤b∧b<U then 0 else t.pl b) != 0)=_;rw[if_neg (by omega)]),HL.out.ol⟩
      have HSt:Hid (∀ wr b,b<C.N→Mv C wr { t with pl:=fun a=>if U≤a∧a<b then 0 else t.pl a } { q with W:=W,en:=en,cd:=0 } iv ov→U≤b→Mv C (wr.setCell ⟨C.SB,b,none⟩ (.bool false)) { t with pl:=fun a=>if U≤a∧a<b+1 then 0 else t.pl a } { q with W:=W,en:=en,cd:=0 } iv ov):=fun wr b hb m hub=>m.setS hC hb (s':={ t with pl:=fun a=>if U≤a∧a<b+1 then 0 else t.pl a }) rfl (fun c hc=>by
       show ((if U≤c∧c<b+1 then 0 else t.pl c) != 0)=if c=b then false else ((if U≤c∧c<b then 0 else t.pl c) != 0)
       by_cases e1:c=b
       ·rw[if_pos e1,if_pos (by omega)];rfl
       ·rw[if_neg e1];by_cases e2:U≤c∧c<b
        ·rw[if_pos e2,if_pos (by omega)]
        ·rw[if_neg e2,if_neg (by omega)])
      have HFin:Hid (∀ wr,Mv C wr { t with pl:=fun a=>if U≤a∧a<U+C.H then 0 else t.pl a } { q with W:=W,en:=en,cd:=0 } iv ov→OnlyL C w wr→Q (.returned (.tuple #[])) (wr.setCell ⟨C.K,6,none⟩ (.int .i64 (OT:Int)))):=fun wr m o=>by
       refine HQ.out _ ⟨o.setK _ _,HDn.out r1 t W en wc _ HL.out HCo.out ?_⟩;have m1:=m.setK hC (s':={ t with pl:=(fun a=>if U≤a∧a<U+C.H then 0 else t.pl a),used:=OT }) (q':={ q with W:=W,en:=en,cd:=0 }) (o:=6) (v:=.int .i64 (OT:Int)) (by decide) (map_ext rfl) rfl rfl rfl rfl rfl;rw[HQP.out]at m1;refine m1.conv (t:=t.coll1 C.H) ?_ (fun b _=>?_)
       ·unfold Vm.coll1;rw[hE2]
       ·show ((if t.used≤b∧b<t.used+C.H then 0 else t.pl b) != 0)=((if U≤b∧b<U+C.H then 0 else t.pl b) != 0)
        rw[hE1]
      have HRd:Hid (∀ wr b,Mv C wr { t with pl:=fun a=>if U≤a∧a<b then 0 else t.pl a } { q with W:=W,en:=en,cd:=0 } iv ov→wr.cell? ⟨C.K,6,none⟩=some (.int .i64 (U:Int))∧wr.cell? ⟨C.K,5,none⟩=some (.int .i64 (C.H:Int))∧wr.cell? ⟨C.K,4,none⟩=some (.slice (some ⟨C.SB,0,none⟩) C.N C.N)∧wr.frozen? ⟨C.K,6,none⟩=false):=fun wr b m=>by
       have m6:=m.c6;exact⟨by rw[m6.1];show some (Value.int .i64 (t.used:Int))=_;rw[hE1],m.c5.1,m.c4.1,m6.2⟩
      have HMk:Hid (∀ wr b,b<C.N→Mv C wr { t with pl:=fun a=>if U≤a∧a<b then 0 else t.pl a } { q with W:=W,en:=en,cd:=0 } iv ov→(∃ u,wr.cell? ⟨C.SB,b,none⟩=some u)∧wr.frozen? ⟨C.SB,b,none⟩=false):=fun wr b hb m=>⟨⟨_,(m.mark hb).1⟩,(m.mark hb).2⟩
      have g1:(U:Int)+(C.H:Int)≤30000:=by omega
      have hUN:U+C.H≤C.N:=by omega
      have hUNh:Hid (U+C.H≤C.N∧U≤U+C.H):=⟨hUN,by omega⟩
      obtain⟨d6,d5,d4,z6⟩:=HRd.out wc U HM0.out.1;clear HE0 HU HQ HCo HDn HL hE hUU hU hE1 hE2 hUr hCN hUN;go_wp2_with fail
      go_loopw [12] (fun i wr=>∃ b:Nat,i=.int .i64 (b:Int)∧U≤b∧b≤U+C.H∧Hid (Mv C wr { t with pl:=fun a=>if U≤a∧a<b then 0 else t.pl a } { q with W:=W,en:=en,cd:=0 } iv ov∧OnlyL C w wr)) (fun i _=>U+C.H - (intOf i).toNat)
      case atStart=>exact⟨U,rfl,Nat.le_refl _,hUNh.out.2,HM0⟩
      case round =>
       obtain⟨b,rfl,hb1,hb2,HB⟩:=hrel;clear HM0 d6 d5 d4 z6;obtain⟨d6,d5,d4,z6⟩:=HRd.out wr b HB.out.1;by_cases hlt:b<U+C.H
       ·have i1:(b:Int)<(U:Int)+(C.H:Int):=by omega
        have hbN:b<C.N:=by have:=hUNh.out.1;omega
        have i2:(b:Int)<(C.N:Int):=by omega
        obtain⟨⟨ub,eb⟩,zb⟩:=HMk.out wr b hbN HB.out.1
        have HB2:Hid (∀ w',Later wr w'→Mv C (w'.setCell ⟨C.SB,b,none⟩ (.bool false)) { t with pl:=fun a=>if U≤a∧a<b+1 then 0 else t.pl a } { q with W:=W,en:=en,cd:=0 } iv ov∧OnlyL C w (w'.setCell ⟨C.SB,b,none⟩ (.bool false))):=fun w' l=>⟨HSt.out w' b hbN (HB.out.1.kept l) hb1,(HB.out.2.trans (OnlyL.of_later l)).setS _ _⟩
        clear HB HSt HFin HRd HMk hUNh;go_wp2_with fail
        go_quiet (fail)
        go_wp2_with fail
        go_roundw
        case rel=>exact⟨b+1,by go_num,by omega,by omega,HB2.out _ (Later.drewN' _ _)⟩
        case measure=>simp[intOf];omega
       ·obtain rfl:b=U+C.H:=by omega
        have i1:¬ (((U+C.H:Nat):Int)<(U:Int)+(C.H:Int)):=by omega
        have i2:decide (((U+C.H:Nat):Int)<(U:Int)+(C.H:Int))=false:=decide_eq_false i1;have HX:Hid (∀ w',Later wr w'→Q (.returned (.tuple #[])) (w'.setCell ⟨C.K,6,none⟩ (.int .i64 (OT:Int)))):=fun w' l=>HFin.out w' (HB.out.1.kept l) (HB.out.2.trans (OnlyL.of_later l));clear HB HSt HFin HRd HMk hUNh
        generalize U+C.H=UH at *
        go_wp2_with fail
        go_quiet (fail)
        go_wp2_with fail
        first|exact HX.out _ (Later.drewN' _ _)|(go_end0;exact HX.out _ (Later.drewN' _ _))
end Go.Proofs.YtjnpncefkigcbaaGreat
