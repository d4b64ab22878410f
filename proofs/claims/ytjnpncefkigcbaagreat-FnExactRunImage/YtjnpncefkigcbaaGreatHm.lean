import Derived.Test.YtjnpncefkigcbaaGreatHl
set_option maxHeartbeats 100000000
set_option maxRecDepth 100000
namespace Go.Proofs.YtjnpncefkigcbaaGreat
open Go.RowKit Go.Lib Go.Maps
theorem Pv.setP2 {C:Cx}(hC:CxI C) {w:World}{s s':Vm}{e e':Nat}{cp cp' iv ov rv:Value}(h:Pv C w s e cp iv ov rv) {o o2:Nat}{v v2:Value}(ho:o<68) (ho2:o2<68) (hv:∀ a,a<68→boxF C s' e' cp' iv ov rv deedV a=fset (fset (boxF C s e cp iv ov rv deedV) o v) o2 v2 a)
  (h1:s'.W=s.W) (h2:s'.pl=s.pl) (h3:s'.inp=s.inp) (h4:s'.orc=s.orc) (h5:s'.out=s.out):Pv C ((w.setCell ⟨C.P,o,none⟩ v).setCell ⟨C.P,o2,none⟩ v2) s' e' cp' iv ov rv :=
 ⟨(h.lat.setNew hC.p1 _ _).setNew hC.p1 _ _,((h.box.set ho v).set ho2 v2).agree hv,by rw[h3];exact h.ip,by rw[h4];exact h.rp,by rw[h5];exact own_kept h.op (fun b hb=>(Below.heap_setCell _ _ _ _ (fun q:b=C.P=>h.on.1 (q ▸ hb))).trans (Below.heap_setCell _ _ _ _ (fun q:b=C.P=>h.on.1 (q ▸ hb)))),h.on,by rw[h1];exact (h.wd.far hC.d1 _ _).far hC.d1 _ _,by rw[h2];exact (h.pp.far hC.d2 _ _).far hC.d2 _ _,(h.kp.set hC.k1 _ _).set hC.k1 _ _,h.ok⟩
theorem step_clearC {P:Program}{ops:Array Oper}{o:Oper}{a:Act}{w:World}{K:Act→World→Prop}{Q:Exit→Act→World→Prop}{E:Prop}(hgd:o.guard=none) (d:Operand) (dT:TypeId)
  (ho:o.op=.call { callee:=.builtin .clear,args:=#[d],argTypes:=#[dT] }) (e:TypeId) (hu:P.underlying dT=some (.slice e)) (z:Value) (hv:∀ w,(zeroValue e).run P w=.ok z w) (hz:z.cells=#[z]) (h1:z.oneCell'=true)
  (b off n c:Nat) (hd:a.eval d=.slice (some ⟨b,off,none⟩) n c) (hn:0<n) (hc:∀ j,j<n→(w.cell? ⟨b,off+j,none⟩).isSome=true∧w.frozen? ⟨b,off+j,none⟩=false)
  (h:∀ w',Hid (w'=w.setCells b off (List.replicate n z))→K (a.put o.dst (.tuple #[])) w') :
  if Region.wanted o (yielded ops a.tmps)=true then Oper.wp P o a w K Q else E:=by
 have hw:Region.wanted o (yielded ops a.tmps)=true:=by simp[Region.wanted,hgd]
 rw[if_pos hw];have hrun:=run_clear_slice (P:=P) w dT e o.type z hu hv hz h1 b off n c hn (fun j hj=>(hc j hj).1) (fun j hj=>(hc j hj).2);unfold Oper.wp;simp[execOp,ho,resolve,invoke,builtin,hd,hrun,Result.andThen];exact h _ rfl
theorem repl_range (n:Nat) (z:Value):List.replicate n z=(List.range n).map (fun _=>z):=by
 apply List.ext_getElem
 ·simp
 ·intro i h1 h2;simp
theorem zero_int (w:World):(zeroValue 3).run Tryz.prog w=.ok (.int .i64 0) w:=by kernel_rfl
theorem Pv.clearL {C:Cx}(hC:CxI C) {w:World}{s:Vm}{e:Nat}{cp iv ov rv:Value}(h:Pv C w s e cp iv ov rv) {o m:Nat}(ho:o+m≤C.M) :
  Pv C (w.setCells C.PB o (List.replicate m (.int .i64 0))) { s with pl:=fun a=>if 12000+o≤a∧a<12000+o+m then 0 else s.pl a } e cp iv ov rv:=by
 rw[repl_range]
 exact⟨setCells_later hC.p3 _ _ _ h.lat,h.box.kept (by rw[setCells_size];exact Nat.le_refl _) (setCells_far _ _ _ _ _ hC.d2),h.ip,h.rp,own_kept h.op (fun b hb=>setCells_far _ _ _ _ _ (fun q:b=C.PB=>h.on.2.2 (q ▸ hb))),h.on,h.wd.kept (by rw[setCells_size];exact Nat.le_refl _) (setCells_far _ _ _ _ _ hC.d3),(h.pp.setCells ho).agree (fun a _=>by
  show Value.int .i64 ((if 12000+o≤12000+a∧12000+a<12000+o+m then 0 else s.pl (12000+a):Nat):Int)=_;by_cases q:o≤a∧a<o+m
  ·rw[if_pos (by omega),if_pos q];rfl
  ·rw[if_neg (by omega),if_neg q]),h.kp.cells hC.k3 _ _,h.ok⟩
theorem OnlyM.setLs {C:Cx}{a w:World}(h:OnlyM C a w) (o:Nat) (vs:List Value):OnlyM C a (w.setCells C.PB o vs):=h.trans ⟨by rw[setCells_size];exact Nat.le_refl _,fun _ _ _ _ h1=>setCells_far _ _ _ _ _ h1⟩
theorem scan_step {x:Im}{H:Nat}{ts us ds:List Nat}{f0 a f:Nat}{s t:Vm}(g:Gc x H ts f0 s us) (hd:Tiled x s.W (s.other H) ds a) (hu:∃ r,us=ds++r) (hl:a<s.free) (hw:wordsF x H a (s.W a) (szW x (s.W a)) 0 s=some t) :
  a∈us∧(∃ us',Gc x H ts f0 t us'∧Tiled x t.W (t.other H) (ds++[a]) (a+1+szW x (s.W a))∧∃ r,us'=(ds++[a])++r)∧Fw s t∧scanF x H (f+1) a s=scanF x H f (a+1+szW x (s.W a)) t:=by
 obtain⟨ha,r,hr⟩:=scan_at g hd hu hl;obtain⟨us1,g1,⟨r1,rfl⟩,fw1,hw1,hwa⟩:=wordsF_gc g ha rfl (by omega) hw;have hsame:t.other H=s.other H:=by unfold Vm.other;rw[fw1.calls.1]
 refine⟨ha,⟨_,g1,?_,⟨r++r1,by rw[hr];simp⟩⟩,fw1,?_⟩
 ·rw[hsame,show a+1+szW x (s.W a)=a+(1+szW x (s.W a)) by omega];exact (Tiled.snoc hd ((g.us_rg ha).2.2)).agree (fun b hb=>hwa b (by rw[hr];exact List.mem_append_left _ hb))
 ·rw[scanF,if_pos hl,hw];rfl
theorem scan_none {x:Im}{H a f:Nat}{s:Vm}(hl:a<s.free) (hw:wordsF x H a (s.W a) (szW x (s.W a)) 0 s=none):scanF x H (f+1) a s=none:=by rw[scanF,if_pos hl,hw];rfl
theorem scan_end {x:Im}{H a f:Nat}{s:Vm}(hl:¬ a<s.free):scanF x H f a s=some s:=by
 cases f with
 | zero=>rfl
 | succ f=>rw[scanF,if_neg hl]
structure CoI (C:Cx) (ts:List Nat) (f0:Nat) (w:World) (s0:Vm) (e:Nat) (cp iv ov rv:Value) (r:Option Vm) (a:Nat) (t:Vm) (wr:World):Prop where
 pv:Pv C wr t e cp iv ov rv
 gc:∃ us ds f,Gc C.x C.H ts f0 t us∧Tiled C.x t.W (t.other C.H) ds a∧(∃ q,us=ds++q)∧t.other C.H+C.H≤a+f∧scanF C.x C.H f a t=r
 om:OnlyM C w wr
 fw:Fw s0 t
def CollQ (C:Cx) (w:World) (s:Vm) (e:Nat) (cp iv ov rv:Value) (n:Ending) (w':World):Prop :=
 match s.coll C.x C.H with
 | none=>PanQ C s.moved ov 7 0 n w'
 | some t=>MvQ C w unitE t e cp iv ov rv n w'
theorem icoll_any {C:Cx}(hC:CxI C) (hMV:IMove C) {w:World}{s:Vm}{e:Nat}{cp iv ov rv:Value}(h:Pv C w s e cp iv ov rv) (hI:Iv C.x C.H s) (hs:SafeAt C.x s.fn ((s.pc:Int) - 1)) (hpc:s.pc≤6000) (hmv:s.moves≤1000000) :
  Calls Tryz.prog 154 #[.pointer (some ⟨C.P,0,none⟩)] w (CollQ C w s e cp iv ov rv):=by
 have hN:=hC.hN;have hM:=hC.hM;have h4:=hC.h4;have h8:=hC.h8;obtain⟨ts,hG⟩:=hI.gc;have hFr:=hI.fr hs;obtain⟨c66,z66⟩:=h.c66;obtain⟨c63,z63⟩:=h.c63;obtain⟨c64,z64⟩:=h.c64;have hb:=hI.bf hC.xi;have hb1:=hI.b1;have hcp:=hI.cpos;have hot:=hG.other
 have HP0:Hid (Pv C ((w.setCell ⟨C.P,66,none⟩ (.int .i64 ((s.moves+1:Nat):Int))).setCell ⟨C.P,64,none⟩ (.int .i64 (s.other C.H:Int))) (s.coll0 C.H) e cp iv ov rv):=by
  have p1:=h.setP hC (s':={ s with moves:=s.moves+1 }) (o:=66) (v:=.int .i64 ((s.moves+1:Nat):Int)) (by decide) (e':=e) (cp':=cp) (map_ext rfl) rfl rfl rfl rfl rfl;exact p1.setP hC (s':=s.coll0 C.H) (o:=64) (v:=.int .i64 (s.other C.H:Int)) (by decide) (e':=e) (cp':=cp) (map_ext rfl) rfl rfl rfl rfl rfl
 have HFF:Hid (∀ w',Pv C w' (s.coll0 C.H) e cp iv ov rv→Calls Tryz.prog 158 #[.pointer (some ⟨C.P,0,none⟩)] w' (OptQ C w' unitE (s.coll0 C.H) (framesF C.x C.H s.calls s.fp ((s.pc:Int) - 1) (s.coll0 C.H)) e cp iv ov rv)):=fun w' p=>iframes_any hC hMV p hG hFr hcp hpc (by show 0<s.fp;omega)
 have HGC:Hid (∀ t,framesF C.x C.H s.calls s.fp ((s.pc:Int) - 1) (s.coll0 C.H)=some t→∃ us,Gc C.x C.H ts s.free t us∧Fw (s.coll0 C.H) t):=fun t ht=>by
  obtain⟨us,g,f,_⟩:=framesF_gc hC.xi hG hFr ht;exact⟨us,g,f⟩
 have HQn:Hid (∀ n w' t,s.coll C.x C.H=none→Fw (s.coll0 C.H) t→PanQ C t ov 7 0 n w'→CollQ C w s e cp iv ov rv n w'):=fun n w' t hn f p=>by
  unfold CollQ;rw[hn];exact (f.pan p).of rfl rfl rfl rfl
 have HQs:Hid (∀ w' t,s.coll C.x C.H=some t→Pv C w' t e cp iv ov rv→OnlyM C w w'→CollQ C w s e cp iv ov rv unitE w'):=fun w' t hn p o=>by
  unfold CollQ;rw[hn];exact⟨rfl,p,o⟩
 have HCo:Hid (s.coll C.x C.H=((framesF C.x C.H s.calls s.fp ((s.pc:Int) - 1) (s.coll0 C.H)).bind (scanF C.x C.H C.H (s.other C.H))).map (Vm.coll1 C.H)):=rfl
 generalize CollQ C w s e cp iv ov rv=Q at *
 have j1:(s.moves:Int)+1=((s.moves+1:Nat):Int):=by omega
 have j2:((s.moves+1:Nat):Int)≤1000001:=by omega
 generalize s.moves+1=mv at *
 have HO:Hid ((s.coll0 C.H).other C.H=s.other C.H):=rfl;have HU:Hid ((s.used=12000∧s.other C.H=12000+C.H)∨(s.used=12000+C.H∧s.other C.H=12000)):=hot;have HU0:Hid ((s.coll0 C.H).used=s.used):=rfl;clear hG hFr hI hs hot hb hb1 hcp h
 generalize framesF C.x C.H s.calls s.fp ((s.pc:Int) - 1) (s.coll0 C.H)=R0 at *
 generalize hs0:s.coll0 C.H=s0 at *
 go_enter Tryz.func154,Tryz.ntmps154;go_wp2_with fail
 have om0:OnlyM C w ((w.setCell ⟨C.P,66,none⟩ (.int .i64 (mv:Int))).setCell ⟨C.P,64,none⟩ (.int .i64 (s.other C.H:Int))):=((OnlyM.refl C w).setP _ _).setP _ _;refine (HFF.out _ HP0.out).mono ?_;rintro n1 w1 hq1
 cases hR:R0 with
 | none =>
  rw[hR]at hq1;have HP:=HQn.out n1 w1 s0 (by rw[HCo.out,hR];rfl) (Fw.refl _) hq1;obtain⟨rfl,_⟩:=hq1;clear HFF HP0 HGC HQn HQs HCo HO HU HU0 om0;unfold finP at HP ⊢;go_wp2_with fail
  exact⟨rfl,HP⟩
 | some s1 =>
  rw[hR]at hq1;obtain⟨rfl,p1,o1⟩:=hq1;obtain⟨us1,g1,f1⟩:=HGC.out s1 hR;have hcl:s.coll C.x C.H=(scanF C.x C.H C.H (s.other C.H) s1).map (Vm.coll1 C.H):=by rw[HCo.out,hR];rfl
  have hu1:s1.used=s.used:=f1.calls.1.trans HU0.out;have ho1:s1.other C.H=s.other C.H:=by unfold Vm.other;rw[hu1]
  obtain⟨r1,hr1⟩:∃ r1,r1=scanF C.x C.H C.H (s.other C.H) s1:=⟨_,rfl⟩
  rw[←hr1]at hcl
  have HI1:Hid (CoI C ts s.free w s0 e cp iv ov rv r1 (s.other C.H) s1 w1):=⟨p1,⟨us1,[],C.H,g1,by rw[Tiled,ho1],⟨us1,rfl⟩,by rw[ho1];omega,hr1.symm⟩,om0.trans o1,f1⟩
  have HCL:Hid (s.coll C.x C.H=r1.map (Vm.coll1 C.H)):=hcl;obtain⟨d63,_⟩:=p1.c63;rw[ho1]at d63
  have HU1:Hid (∀ t,Fw s0 t→t.used=s.used∧t.other C.H=s.other C.H):=fun t f=>by
   have:t.used=s.used:=f.calls.1.trans HU0.out;exact⟨this,by unfold Vm.other;rw[this]⟩
  clear hr1 hcl hu1 ho1 p1 o1 g1 f1 HFF HP0 HGC HCo HO HU0 om0 c66 c63 c64 z66 z63 z64 hR;unfold unitE
  generalize s.other C.H=OT at *
  generalize s.used=U at *
  go_wp2_with fail
  go_loopw [2] (fun i wr=>∃ (a:Nat) (t:Vm),i=.int .i64 (a:Int)∧Hid (CoI C ts s.free w s0 e cp iv ov rv r1 a t wr)) (fun i _=>C.N - (intOf i).toNat)
  case atStart=>exact⟨OT,s1,rfl,HI1.out⟩
  case round =>
   obtain⟨a,t,rfl,HI⟩:=hrel;clear HI1 d63;obtain⟨d64,_⟩:=HI.out.pv.c64;by_cases hl:a<t.free
   ·have k1:(a:Int)<(t.free:Int):=by omega
    obtain⟨us,ds,f,g,hT,hu,hf,hsc⟩:=HI.out.gc;have hend:=g.end;have hot:=g.other
    obtain⟨f',rfl⟩:∃ f',f=f'+1:=⟨f - 1,by omega⟩
    have ha:=(scan_at g hT hu hl).1;have hsz:=(g.us_rg ha).2.2.sz hC.xi.st;have haN:a<C.N:=by omega
    have HFO:Hid (Calls Tryz.prog 159 #[.pointer (some ⟨C.P,0,none⟩),.int .i64 (a:Int)] wr (OptQ C wr (.returned (.int .i64 ((a+1+szW C.x (t.W a):Nat):Int))) t (wordsF C.x C.H a (t.W a) (szW C.x (t.W a)) 0 t) e cp iv ov rv)):=ifobj_any hC hMV HI.out.pv g ha
    have HS:Hid (∀ u,wordsF C.x C.H a (t.W a) (szW C.x (t.W a)) 0 t=some u→∀ w2,Pv C w2 u e cp iv ov rv→OnlyM C wr w2→CoI C ts s.free w s0 e cp iv ov rv r1 (a+1+szW C.x (t.W a)) u w2):=fun u hw w2 p o=>by
     obtain⟨_,⟨us',g',hT',hu'⟩,fw,hs'⟩:=scan_step (f:=f') g hT hu hl hw;have hou:u.other C.H=t.other C.H:=by unfold Vm.other;rw[fw.calls.1]
     exact⟨p,⟨us',ds++[a],f',g',hT',hu',by rw[hou];omega,by rw[←hs',hsc]⟩,HI.out.om.trans o,HI.out.fw.trans fw⟩
    have HNo:Hid (wordsF C.x C.H a (t.W a) (szW C.x (t.W a)) 0 t=none→s.coll C.x C.H=none):=fun hw=>by rw[HCL.out,← hsc,scan_none hl hw];rfl
    have HF1:Hid (Fw s0 t):=HI.out.fw
    generalize szW C.x (t.W a)=n at *
    clear hsc g hT hu hf hend hot ha HI;go_wp2_with fail
    refine HFO.out.mono ?_;rintro n2 w2 hq2
    cases hwd:wordsF C.x C.H a (t.W a) n 0 t with
    | none =>
     rw[hwd]at hq2;have HP:=HQn.out n2 w2 t (HNo.out hwd) HF1.out hq2;obtain⟨rfl,_⟩:=hq2;clear HFO HS HNo HF1 HQn HQs HCL HU HU1;unfold finP at HP ⊢;go_wp2_with fail
     exact⟨rfl,HP⟩
    | some u =>
     rw[hwd]at hq2;obtain⟨rfl,p2,o2⟩:=hq2;have HI2:Hid (CoI C ts s.free w s0 e cp iv ov rv r1 (a+1+n) u w2):=HS.out u hwd w2 p2 o2;clear HFO HS HNo HF1 p2 o2 hwd;go_wp2_with fail
     go_roundw
     case rel=>exact⟨a+1+n,u,rfl,HI2⟩
     case measure=>simp[intOf];omega
   ·have k1:¬ ((a:Int)<(t.free:Int)):=by omega
    obtain⟨us,ds,f,g,hT,hu,hf,hsc⟩:=HI.out.gc;have hct:s.coll C.x C.H=some (t.coll1 C.H):=by rw[HCL.out,← hsc,scan_end hl];rfl
    have hU:=HU1.out t HI.out.fw;have hot:=HU.out
    obtain⟨o,ho⟩:∃ o,o=U - 12000:=⟨_,rfl⟩
    have HCl:Hid (∀ w',Later wr w'→Pv C (w'.setCells C.PB o (List.replicate C.H (.int .i64 0))) { t with pl:=fun a=>if 12000+o≤a∧a<12000+o+C.H then 0 else t.pl a } e cp iv ov rv):=fun w' l=>(HI.out.pv.kept l).clearL hC (by omega)
    have HCC:Hid (∀ w',Later wr w'→∀ j,j<C.H→(w'.cell? ⟨C.PB,o+j,none⟩).isSome=true∧w'.frozen? ⟨C.PB,o+j,none⟩=false):=fun w' l j hj=>by
     have:=(HI.out.pv.kept l).pp.cell (o+j) (by omega);exact⟨by rw[this.1];rfl,this.2⟩
    have HFin:Hid (∀ w4,Pv C w4 { t with pl:=fun a=>if 12000+o≤a∧a<12000+o+C.H then 0 else t.pl a } e cp iv ov rv→Pv C ((w4.setCell ⟨C.P,62,none⟩ (.int .i64 (OT:Int))).setCell ⟨C.P,63,none⟩ (.int .i64 (U:Int))) (t.coll1 C.H) e cp iv ov rv):=fun w4 p=>by
     have e1:t.other C.H=OT:=hU.2
     have e2:(t.coll1 C.H).other C.H=U:=by
      show 24000+C.H - t.other C.H=U;rw[e1];omega
     have e3:12000+o=t.used:=by rw[hU.1];omega
     refine (p.setP2 hC (s':={ t with pl:=(fun a=>if 12000+o≤a∧a<12000+o+C.H then 0 else t.pl a),used:=t.other C.H }) (by decide) (by decide) (e':=e) (cp':=cp) (fun a ha=>?_) rfl rfl rfl rfl rfl).conv (s':=t.coll1 C.H) (fun b=>rfl) (fun b=>?_) rfl
     ·have e4:Vm.other C.H { t with pl:=(fun a=>if 12000+o≤a∧a<12000+o+C.H then 0 else t.pl a),used:=t.other C.H }=U:=e2;rw[←e4,← e1]
      revert a
      exact map_ext rfl
     ·show (if t.used≤b∧b<t.used+C.H then 0 else t.pl b)=if 12000+o≤b∧b<12000+o+C.H then 0 else t.pl b
      rw[e3]
    have HD:Hid (∀ w',Later wr w'→w'.cell? ⟨C.P,65,none⟩=some (.slice (some ⟨C.PB,0,none⟩) C.M C.M)∧w'.cell? ⟨C.P,61,none⟩=some (.int .i64 (C.H:Int))):=fun w' l=>⟨(HI.out.pv.kept l).c65.1,(HI.out.pv.kept l).c61.1⟩
    have HD4:Hid (∀ w4,Pv C w4 { t with pl:=fun a=>if 12000+o≤a∧a<12000+o+C.H then 0 else t.pl a } e cp iv ov rv→(w4.cell? ⟨C.P,65,none⟩=some (.slice (some ⟨C.PB,0,none⟩) C.M C.M)∧w4.cell? ⟨C.P,61,none⟩=some (.int .i64 (C.H:Int)))∧w4.cell? ⟨C.P,62,none⟩=some (.int .i64 (U:Int))∧w4.cell? ⟨C.P,63,none⟩=some (.int .i64 (OT:Int))∧w4.frozen? ⟨C.P,62,none⟩=false∧w4.frozen? ⟨C.P,63,none⟩=false):=fun w4 p=>by
     have q2:=p.c62;have q3:=p.c63;refine⟨⟨p.c65.1,p.c61.1⟩,?_,?_,q2.2,q3.2⟩
     ·rw[q2.1,← hU.1]
     ·rw[q3.1,← hU.2];rfl
    obtain⟨d62,_⟩:=HI.out.pv.c62;rw[hU.1]at d62;have HQ2:Hid (∀ w',Pv C w' (t.coll1 C.H) e cp iv ov rv→OnlyM C w w'→Q unitE w'):=fun w' p o=>HQs.out w' _ hct p o;have HOM:Hid (OnlyM C w wr):=HI.out.om;have k2:(U:Int) - 12000=(o:Int):=by omega
    obtain⟨b2,hb2⟩:∃ b2,b2=o+C.H:=⟨_,rfl⟩
    have k3:IntKind.i64.wrap ((o:Int)+(C.H:Int))=(b2:Int):=by rw[IntKind.wrap_i64];omega
    have k4:(b2:Int)≤(C.M:Int):=by omega
    have k5:o≤b2:=by omega
    have k6:b2 - o=C.H:=by omega
    have k7:¬ C.M=o:=by omega
    have k8:(b2:Int)≤40000:=by omega
    have k9:(U:Int)≤40000:=by omega
    have k10:0<C.H:=by omega
    clear hsc g hT hu hf hct hU hot ho hb2 HI HCL HU HU1 HQs HQn hN hM h4 h8
    generalize (fun a=>if 12000+o≤a∧a<12000+o+C.H then 0 else t.pl a)=PL at *
    go_wp2_with fail
    go_region_held_law (fun w'=>w'.cell? ⟨C.P,65,none⟩=some (.slice (some ⟨C.PB,0,none⟩) C.M C.M)∧w'.cell? ⟨C.P,61,none⟩=some (.int .i64 (C.H:Int))) (first|exact HD.out _ (Later.drew _)|assumption) (first
     | (refine step_clearC rfl _ 26 rfl 3 Tryz.underlying26 (.int .i64 0) zero_int rfl rfl C.PB o C.H _ (by rfl) k10 (HCC.out _ (Later.drew _)) ?_;intro w4 hw4;have p4:=HCl.out _ (Later.drew wr);rw[←hw4.out]at p4;obtain⟨d4,e62,e63,z62,z63⟩:=HD4.out w4 p4))
    have om4:OnlyM C w w4:=by rw[hw4.out];exact (HOM.out.drew).setLs _ _
    clear HD HCl HCC HD4 d62 d64 hw4;unfold unitE at HQ2;have HZ4:Hid (∀ w5,w5=((w4.drew.setCell ⟨C.P,62,none⟩ (.int .i64 (OT:Int))).setCell ⟨C.P,63,none⟩ (.int .i64 (U:Int)))→Q (.returned (.tuple #[])) w5):=fun w5 hw5=>HQ2.out w5 (by rw[hw5];exact HFin.out _ (p4.kept (Later.drew _))) (by rw[hw5];exact ((om4.drew.setP _ _).setP _ _));clear HFin HQ2 p4 om4 HOM;go_wp2_with fail
    go_region
    all_goals
     go_wp2_with fail
     go_end0;exact HZ4.out _ rfl
theorem In.tail {w:World}{g off n cap:Nat}{x:Int}{l:List In}(h:RdL w 1 (.slice (some ⟨g,off,none⟩) n cap) (In.dats (x::l))):n=l.length+1∧n≤cap∧RdL w 1 (.slice (if cap=1 then some ⟨g,off,none⟩ else some ⟨g,off+1,none⟩) l.length (cap - 1)) (In.dats l):=by
 obtain⟨a,c,e,hl,hd⟩:=h;rw[In.dats_len,List.length_cons]at e hl
 cases e
 refine⟨rfl,hl.1,_,cap - 1,by rw[In.dats_len],by rw[In.dats_len];omega,fun j hj=>?_⟩;rw[In.dats_len]at hj;rw[if_neg (by omega)];obtain⟨g',off',cs,e,hg,hk,hc,hr⟩:=hd (j+1) (by rw[In.dats_len,List.length_cons];omega)
 cases e
 refine⟨g,off+1,cs,rfl,hg,hk,fun m u hm=>?_,hr⟩;have:=hc m u hm;rw[show off+1+j*1+m=off+(j+1)*1+m by omega];exact this
theorem Pv.setR {C:Cx}(hC:CxI C) {w:World}{s:Vm}{e:Nat}{cp iv ov rv rv':Value}(h:Pv C w s e cp iv ov rv) {l:List Int}(hr:RdL C.w0 1 rv' (In.dats l)):Pv C (w.setCell ⟨C.P,8,none⟩ rv') { s with orc:=l } e cp iv ov rv' :=
 ⟨h.lat.setNew hC.p1 _ _,(h.box.set (by decide:8<68) rv').agree (map_ext rfl),h.ip,hr,own_kept h.op (fun b hb=>Below.heap_setCell _ _ _ _ (fun q:b=C.P=>h.on.1 (q ▸ hb))),h.on,h.wd.far hC.d1 _ _,h.pp.far hC.d2 _ _,h.kp.set hC.k1 _ _,h.ok⟩
def SayQ (C:Cx) (w:World) (s:Vm) (e:Nat) (cp iv ov:Value) (n:Ending) (w':World):Prop:=n=.returned (.int .i64 s.say)∧∃ rv',Pv C w' s.next e cp iv ov rv'∧OnlyM C w w'
theorem isay_any {C:Cx}(hC:CxI C) {w:World}{s:Vm}{e:Nat}{cp iv ov rv:Value}(h:Pv C w s e cp iv ov rv) :
  Calls Tryz.prog 141 #[.pointer (some ⟨C.P,0,none⟩)] w (SayQ C w s e cp iv ov):=by
 obtain⟨c8,z8⟩:=h.c8;obtain⟨ra,rc,rfl,hrl⟩:=In.slice h.rp
 cases ho:s.orc with
 | nil =>
  have HZ:SayQ C w s e cp iv ov (.returned (.int .i64 0)) w:=by
   refine⟨by unfold Vm.say;rw[ho];rfl,.slice ra s.orc.length rc,?_,OnlyM.refl _ _⟩
   have:s.next=s:=by
    unfold Vm.next
    rw[ho];show { s with orc:=[] }=s;rw[←ho]
   rw[this];exact h
  generalize SayQ C w s e cp iv ov=Q at *
  rw[ho]at c8;clear h;go_enter Tryz.func141,Tryz.ntmps141;go_wp2_with fail
  first|exact HZ|(go_ret;exact HZ)
 | cons z l =>
  have hrp:=h.rp;rw[ho]at hrp c8;have hn:=In.elem hrp 0 (by simp);obtain⟨g,off,rfl,hg,hcz⟩:=hn;obtain⟨hl1,hcap,ht⟩:=In.tail hrp;have d0:=(Below.cell h.lat (p:=⟨g,off+0,none⟩) hg).trans hcz;rw[Nat.add_zero]at d0;have d1:w.cell? ⟨g,off,none⟩=some (.int .i64 z):=d0
  have HZ:Hid (∀ v,v=Value.slice (if rc=1 then some (⟨g,off,none⟩:Addr) else some ⟨g,off+1,none⟩) l.length (rc - 1)→SayQ C w s e cp iv ov (.returned (.int .i64 z)) (w.setCell ⟨C.P,8,none⟩ v)):=fun v hv=>by
   refine⟨by unfold Vm.say;rw[ho];rfl,v,?_,(OnlyM.refl _ _).setP _ _⟩;have hnx:s.next={ s with orc:=l }:=by unfold Vm.next;rw[ho];rfl
   rw[hnx];exact h.setR hC (by rw[hv];exact ht)
  generalize SayQ C w s e cp iv ov=Q at *
  rw[List.length_cons]at c8 hcap;have k1:(1:Int)≤(rc:Int):=by omega
  have k2:(0:Int)<((l.length+1:Nat):Int):=by omega
  have k3:¬ l.length+1=0:=by omega
  have hne:(((l.length+1:Nat):Int)==0)=false:=by simp;omega
  obtain⟨n,hn⟩:∃ n,n=l.length+1:=⟨_,rfl⟩
  have k4:n - 1=l.length:=by omega
  rw[←hn]at c8 k2 hne hcap;have k5:(1:Int)≤(n:Int):=by omega
  clear h hrp ht hcz d0 hn k3;by_cases hrc:rc=1
  ·subst hrc;have HZ1:=HZ.out (.slice (some ⟨g,off,none⟩) l.length 0) (by rw[if_pos rfl]);clear HZ;go_enter Tryz.func141,Tryz.ntmps141;go_wp2_with fail
   first|exact HZ1|(go_ret;exact HZ1)
  ·have HZ1:=HZ.out (.slice (some ⟨g,off+1,none⟩) l.length (rc - 1)) (by rw[if_neg hrc]);clear HZ;go_enter Tryz.func141,Tryz.ntmps141;go_wp2_with fail
   first|exact HZ1|(go_ret;exact HZ1)
theorem iroom_any {C:Cx}(hC:CxI C) {w:World}{s:Vm}{e:Nat}{cp iv ov rv:Value}(h:Pv C w s e cp iv ov rv) (hf:s.free≤40000) (hu:s.used≤40000) {n:Nat}(hn:n≤1000) {b:Bool}(hb:s.room C.H n=b) :
  Calls Tryz.prog 155 #[.pointer (some ⟨C.P,0,none⟩),.int .i64 ((1+n:Nat):Int)] w (DrQ (.returned (.bool b)) w):=by
 obtain⟨c64,_⟩:=h.c64;obtain⟨c62,_⟩:=h.c62;obtain⟨c61,_⟩:=h.c61;have h4:=hC.h4
 have hd:decide ((s.free:Int)+((1+n:Nat):Int)≤(s.used:Int)+(C.H:Int))=b:=by
  rw[←hb];unfold Vm.room;exact decide_eq_decide.2 (by omega)
 have k1:(s.free:Int)≤40000:=by omega
 have k2:(s.used:Int)≤40000:=by omega
 have k3:(C.H:Int)≤4000:=by omega
 have k4:((1+n:Nat):Int)≤1001:=by omega
 have k5:0≤((1+n:Nat):Int):=by omega
 subst hd;clear h h4 hf hu hn hb
 generalize ((1+n:Nat):Int)=z at *
 generalize s.free=F at *
 generalize s.used=U at *
 generalize C.H=H at *
 go_enter Tryz.func155,Tryz.ntmps155;go_wp2_with fail
 go_quiet (fail)
 go_wp2_with fail
 go_ret;exact⟨rfl,_,rfl⟩
end Go.Proofs.YtjnpncefkigcbaaGreat
