import Derived.Test.YtjnpncefkigcbaaGreatIy
set_option maxHeartbeats 100000000
set_option maxRecDepth 100000
namespace Go.Proofs.YtjnpncefkigcbaaGreat
open Go.RowKit Go.Lib Go.Maps
theorem buildL (sa:Option Addr) (sn sc:Nat) (ca:Option Addr) (cn cc:Nat) (mn:Int) (wa:Option Addr) (wn:Nat) (ba:Option Addr) (bn:Nat) (H T:Int) (ra:Option Addr) (ia:Option Addr) (iL iq:Nat) (oa:Option Addr) (oL oq:Nat) (w:World):(Instr.build 56 #[(0,.agg #[.slice sa sn sc,.slice ca cn cc,.int .i64 mn]),(1,.slice wa wn wn),(2,.slice ba bn bn),(3,.int .i64 H),(4,.int .i64 12000),(5,.int .i64 12000),(6,.int .i64 1),(7,.int .i64 T),(12,.slice ra 16 16),(13,.slice ia iL iq),(14,.slice oa oL oq),(9,.int .i64 mn),(11,.int .i64 1)]).run Tryz.prog w=.ok (.agg #[.slice sa sn sc,.slice ca cn cc,.int .i64 mn,.slice wa wn wn,.slice ba bn bn,.int .i64 H,.int .i64 12000,.int .i64 12000,.int .i64 1,.int .i64 T,.int .i64 0,.int .i64 mn,.int .i64 0,.int .i64 1,.slice ra 16 16,.slice ia iL iq,.slice oa oL oq,.int .i64 0,.slice none 0 0,.int .i64 0,.int .i64 0,.int .i64 0,.int .i64 0,.int .i64 0]) w:=run_build w 56 _ _ (by kernel_rfl)
theorem srunim_any {x:Im}{e:Se}{w:World}{sv cv iv rv:Value}(hsz:x.sz≤1048576) (hok:∀ c∈x.codes,∀ y∈c.ins,y.Ok) (r1:RdL w 1 sv (Bs.dats x.structs)) (r2:RdL w 4 cv (Cd.dats x.codes)) (r3:RdL w 1 iv (In.dats e.input)) (r4:RdL w 1 rv (In.dats e.oracle)) :
  Calls Tryz.prog 6 #[.agg #[sv,cv,.int .i64 x.main],.agg #[.int .i64 e.half,.int .i64 e.stack,iv,.int .i64 e.fuel,rv]] w (RunP x e w):=by
 obtain⟨ia0,ic0,rfl,_⟩:=In.slice r3;obtain⟨ra0,rc0,rfl,_⟩:=In.slice r4;obtain⟨sa0,sc0,rfl,_⟩:=Bs.slice r1;obtain⟨ca0,cc0,rfl,_⟩:=Cd.slice r2;obtain⟨wI,hwI⟩:=hidx (w.alloc (Obj.cells #[.slice sa0 x.structs.length sc0,.slice ca0 x.codes.length cc0,.int .i64 x.main] 37));obtain⟨wS,hwS⟩:=hidx (wI.alloc (Obj.cells #[.int .i64 e.half,.int .i64 e.stack,.slice ia0 e.input.length ic0,.int .i64 e.fuel,.slice ra0 e.oracle.length rc0] 39));obtain⟨wB,hwB⟩:=hidx (wS.alloc (Obj.cells #[.int .i64 0,.int .i64 0,.slice none 0 0,.int .i64 0,.int .i64 0,.int .i64 0] 33));have sI:wI.heap.size=w.heap.size+1:=by rw[hwI.out];simp
 have sS:wS.heap.size=w.heap.size+1+1:=by rw[hwS.out];simp[sI]
 have lI:Later w wI:=by rw[hwI.out];exact later_a _ _
 have lS:Later wI wS:=by rw[hwS.out];exact later_a _ _
 have lB:Later wS wB:=by rw[hwB.out];exact later_a _ _
 have sB:wB.heap.size=w.heap.size+1+1+1:=by rw[hwB.out];simp[sS]
 have HI:Hid (∀ w',Later wB w'→w'.cell? ⟨w.heap.size,0,none⟩=some (.slice sa0 x.structs.length sc0)∧w'.cell? ⟨w.heap.size,1,none⟩=some (.slice ca0 x.codes.length cc0)∧w'.cell? ⟨w.heap.size,2,none⟩=some (.int .i64 x.main)):=fun w' l=>by
  have hc:∀ k v,(#[.slice sa0 x.structs.length sc0,.slice ca0 x.codes.length cc0,.int .i64 x.main]:Array Value)[k]?=some v→w'.cell? ⟨w.heap.size,k,none⟩=some v:=fun k v hv=>by
   rw[Below.cell (lS.trans (lB.trans l)) (p:=⟨w.heap.size,k,none⟩) (by show w.heap.size<wI.heap.size;omega),hwI.out];exact box_at' w _ hv
  exact⟨hc 0 _ rfl,hc 1 _ rfl,hc 2 _ rfl⟩
 have HS:Hid (∀ w',Later wB w'→w'.cell? ⟨w.heap.size+1,0,none⟩=some (.int .i64 e.half)∧w'.cell? ⟨w.heap.size+1,1,none⟩=some (.int .i64 e.stack)∧w'.cell? ⟨w.heap.size+1,2,none⟩=some (.slice ia0 e.input.length ic0)∧w'.cell? ⟨w.heap.size+1,3,none⟩=some (.int .i64 e.fuel)∧w'.cell? ⟨w.heap.size+1,4,none⟩=some (.slice ra0 e.oracle.length rc0)):=fun w' l=>by
  have hc:∀ k v,(#[.int .i64 e.half,.int .i64 e.stack,.slice ia0 e.input.length ic0,.int .i64 e.fuel,.slice ra0 e.oracle.length rc0]:Array Value)[k]?=some v→w'.cell? ⟨w.heap.size+1,k,none⟩=some v:=fun k v hv=>by
   rw[Below.cell (lB.trans l) (p:=⟨w.heap.size+1,k,none⟩) (by show w.heap.size+1<wS.heap.size;omega),← sI,hwS.out];exact box_at' wI _ hv
  exact⟨hc 0 _ rfl,hc 1 _ rfl,hc 2 _ rfl,hc 3 _ rfl,hc 4 _ rfl⟩
 have HR:Hid (∀ w',Later wB w'→∀ k,k<6→(∃ u,w'.cell? ⟨w.heap.size+1+1,k,none⟩=some u)∧w'.frozen? ⟨w.heap.size+1+1,k,none⟩=false):=fun w' l k hk=>by
  have hc:∀ k v,(#[.int .i64 0,.int .i64 0,.slice none 0 0,.int .i64 0,.int .i64 0,.int .i64 0]:Array Value)[k]?=some v→w'.cell? ⟨w.heap.size+1+1,k,none⟩=some v∧w'.frozen? ⟨w.heap.size+1+1,k,none⟩=false:=fun k v hv=>by
   rw[Below.cell l (p:=⟨w.heap.size+1+1,k,none⟩) (by show w.heap.size+1+1<wB.heap.size;omega),Below.frozen l (p:=⟨w.heap.size+1+1,k,none⟩) (by show w.heap.size+1+1<wB.heap.size;omega),← sS,hwB.out];exact⟨box_at' wS _ hv,by simp⟩
  match k,hk with
  | 0,_=>exact⟨⟨_,(hc 0 _ rfl).1⟩,(hc 0 _ rfl).2⟩
  | 1,_=>exact⟨⟨_,(hc 1 _ rfl).1⟩,(hc 1 _ rfl).2⟩
  | 2,_=>exact⟨⟨_,(hc 2 _ rfl).1⟩,(hc 2 _ rfl).2⟩
  | 3,_=>exact⟨⟨_,(hc 3 _ rfl).1⟩,(hc 3 _ rfl).2⟩
  | 4,_=>exact⟨⟨_,(hc 4 _ rfl).1⟩,(hc 4 _ rfl).2⟩
  | 5,_=>exact⟨⟨_,(hc 5 _ rfl).1⟩,(hc 5 _ rfl).2⟩
  | k+6,hh=>omega
 have lw:Later w wB:=lI.trans (lS.trans lB);have HOk:Hid (∀ w',Later w w'→Calls Tryz.prog 20 #[.agg #[.slice sa0 x.structs.length sc0,.slice ca0 x.codes.length cc0,.int .i64 x.main]] w' fun n w''=>n=.returned (.bool (imB x))∧Later w' w''):=fun w' l=>simok_b x _ _ w' (RdL.later l r1) (RdL.later l r2) hok hsz rfl;have HSe:Hid (∀ w',Later w w'→Calls Tryz.prog 21 #[.agg #[.int .i64 e.half,.int .i64 e.stack,.slice ia0 e.input.length ic0,.int .i64 e.fuel,.slice ra0 e.oracle.length rc0]] w' fun n w''=>n=.returned (.bool (seB e))∧Later w' w''):=fun w' l=>ssetup_b e _ _ w' (RdL.later l r3) (RdL.later l r4) rfl;have hwBB:Hid (wB=((w.alloc (Obj.cells #[.slice sa0 x.structs.length sc0,.slice ca0 x.codes.length cc0,.int .i64 x.main] 37)).alloc (Obj.cells #[.int .i64 e.half,.int .i64 e.stack,.slice ia0 e.input.length ic0,.int .i64 e.fuel,.slice ra0 e.oracle.length rc0] 39)).alloc (Obj.cells #[.int .i64 0,.int .i64 0,.slice none 0 0,.int .i64 0,.int .i64 0,.int .i64 0] 33)):=by show wB=_;rw[hwB.out,hwS.out,hwI.out]
 clear hwB hwS hwI lI lS lB sI sS;by_cases hb:imB x=true∧seB e=true
 ·obtain⟨h1,h2⟩:=hb;have hrg:=seB_rg h2;have hxi:=ImI.of h1;have hnc:0<x.codes.length:=Nat.lt_of_le_of_lt (Nat.zero_le _) hxi.mn
  obtain⟨cg,co,rfl⟩:∃ cg co,ca0=some ⟨cg,co,none⟩:=by
   obtain⟨cg,co,_,_,h,_⟩:=Cd.elem r2 0 hnc;exact⟨cg,co,h⟩
  obtain⟨H,eH⟩:∃ H:Nat,e.half=(H:Int):=⟨e.half.toNat,by omega⟩
  obtain⟨T,eT⟩:∃ T:Nat,e.stack=(T:Int):=⟨e.stack.toNat,by omega⟩
  obtain⟨F,eF⟩:∃ F:Nat,e.fuel=(F:Int):=⟨e.fuel.toNat,by omega⟩
  have hF:e.fuel.toNat=F:=by omega
  have hT:e.stack.toNat=T:=by omega
  have hHh:H=e.half.toNat:=by omega
  obtain⟨M,eM⟩:∃ M:Nat,x.main=(M:Int):=⟨x.main.toNat,by have:=hxi.m0;omega⟩
  have hMn:x.main.toNat=M:=by omega
  have hRe:=runI_end x e;have hRo:=runI_out hxi h2;have HZ:Hid (∀ W oa on oc,W.ownsRow w.heap.size 125 2 (.slice oa on oc) (runI x e).2.2.out.length (itemsL (runI x e).2.2.out)→Later w W→RunP x e w (.returned (resV (runI x e) (.slice oa on oc))) W):=fun W oa on oc ho l=>by unfold RunP;rw[if_pos ⟨h1,h2⟩];exact⟨oa,on,oc,rfl,ho,l⟩
  generalize RunP x e w=Q at *
  rw[h1]at HOk;rw[h2]at HSe;obtain⟨i0,i1,i2⟩:=HI.out wB (Later.refl _);have hfrM:=(hxi.at hxi.mn).fr;have hmn:=hxi.mn;rw[hMn]at hfrM hmn
  have HQ0:Hid (e.half=(H:Int)∧e.stack=(T:Int)∧e.fuel=(F:Int)∧x.main=(M:Int)∧ImI x∧e.fuel.toNat=F∧e.stack.toNat=T∧H=e.half.toNat∧(runI x e).1≠0∧8≤H∧H≤4000∧16≤T∧T≤2000∧F≤200000∧frN x M≤1000∧M<x.codes.length∧e.input.length≤2000∧e.oracle.length≤2000∧(runI x e).2.2.out.length≤200000):=⟨eH,eT,eF,eM,hxi,hF,hT,hHh,hRe,by omega,by omega,by omega,by omega,by omega,by omega,hmn,by omega,by omega,hRo⟩
  clear h1 h2 eH eT eF eM hMn hF hT hHh hfrM hmn hxi hrg hRe hRo;go_enter Tryz.func6,Tryz.ntmps6;go_wp2_with fail
  rw[←hwBB.out];refine (HOk.out wB lw).mono ?_;rintro n2 w2 ⟨rfl,l2⟩;obtain⟨j0,j1,j2,j3,j4⟩:=HS.out w2 l2;clear i0 i1 i2;go_wp2_with fail
  refine (HSe.out w2 (lw.trans l2)).mono ?_;rintro n3 w3 ⟨rfl,l3⟩;have l23:=l2.trans l3;clear j0 j1 j2 j3 j4 HOk HSe;obtain⟨eH,eT,eF,eM,hxi,hF,hT,hHh,hRe,u1,u2,u3,u4,u5,u6,u7,u8,u9,u10⟩:=HQ0.out
  obtain⟨N,hN⟩:∃ N,N=12000+2*H:=⟨_,rfl⟩
  obtain⟨H2,hH2⟩:∃ H2,H2=2*H:=⟨_,rfl⟩
  have HS3:Hid (∀ w',Later w3 w'→w'.cell? ⟨w.heap.size,0,none⟩=some (.slice sa0 x.structs.length sc0)∧w'.cell? ⟨w.heap.size,1,none⟩=some (.slice (some ⟨cg,co,none⟩) x.codes.length cc0)∧w'.cell? ⟨w.heap.size,2,none⟩=some (.int .i64 x.main)∧w'.cell? ⟨w.heap.size+1,0,none⟩=some (.int .i64 (H:Int))∧w'.cell? ⟨w.heap.size+1,1,none⟩=some (.int .i64 (T:Int))∧w'.cell? ⟨w.heap.size+1,2,none⟩=some (.slice ia0 e.input.length ic0)∧w'.cell? ⟨w.heap.size+1,4,none⟩=some (.slice ra0 e.oracle.length rc0)):=fun w' l=>by
   obtain⟨a0,a1,a2⟩:=HI.out w' (l23.trans l);obtain⟨b0,b1,b2,_,b4⟩:=HS.out w' (l23.trans l);rw[eH]at b0;rw[eT]at b1;exact⟨a0,a1,a2,b0,b1,b2,b4⟩
  have HFu:Hid (∀ w',Later w3 w'→w'.cell? ⟨w.heap.size+1,3,none⟩=some (.int .i64 (F:Int))):=fun w' l=>by
   obtain⟨_,_,_,b3,_⟩:=HS.out w' (l23.trans l);rw[eF]at b3;exact b3
  have HSrc:Hid (∀ w',Later w3 w'→Src w' (.slice ia0 e.input.length ic0) e.input.length (e.input.map (Value.int .i64))):=fun w' l=>src_in (RdL.later ((lw.trans l23).trans l) r3)
  have HMv:Hid (∀ wz WB SB RB a9 iq,Acc w3 wz N (some WB) (some SB) (some RB) (some (.slice a9 e.input.length iq)) e.input→∃ C:Mx,MxI C∧C.IB<C.K∧C.x=x∧C.H=H∧C.w0=w3∧C.K=wz.heap.size∧C.orc=e.oracle∧C.cg=cg∧C.co=co∧C.WB=WB∧C.N=N∧Mv C (wz.alloc (Obj.cells #[.slice sa0 x.structs.length sc0,.slice (some ⟨cg,co,none⟩) x.codes.length cc0,.int .i64 x.main,.slice (some ⟨WB,0,none⟩) N N,.slice (some ⟨SB,0,none⟩) N N,.int .i64 (H:Int),.int .i64 12000,.int .i64 12000,.int .i64 1,.int .i64 (T:Int),.int .i64 0,.int .i64 x.main,.int .i64 0,.int .i64 1,.slice (some ⟨RB,0,none⟩) 16 16,.slice a9 e.input.length iq,.slice ra0 e.oracle.length rc0,.int .i64 0,.slice none 0 0,.int .i64 0,.int .i64 0,.int .i64 0,.int .i64 0,.int .i64 0] 56)) (z0V e M 0) q0M (.slice a9 e.input.length iq) (.slice none 0 0)):=fun wz WB SB RB a9 iq a=>by
   subst hN;exact Acc.mv hxi (by omega) (by omega) eT eM (by omega) (RdL.later (lw.trans l23) r1) (RdL.later (lw.trans l23) r2) (RdL.later (lw.trans l23) r4) (B0:=w.heap.size) (by have:=l23.size;omega) a
  have HR3:Hid (∀ w',Later w3 w'→∀ k,k<6→(∃ u,w'.cell? ⟨w.heap.size+1+1,k,none⟩=some u)∧w'.frozen? ⟨w.heap.size+1+1,k,none⟩=false):=fun w' l=>HR.out w' (l23.trans l);have hs3:w.heap.size+1+1<w3.heap.size:=by have:=l23.size;omega
  have lw3:Later w w3:=lw.trans l23;obtain⟨f0,f1,f2,f3,f4,f5,f6⟩:=HS3.out w3 (Later.refl _);have A:=Acc.start w3 N;obtain⟨i0,hi,hz0,hz1,hz2⟩:=info_parts Tryz.info3;obtain⟨k0,hk,hy0,hy1,hy2⟩:=info_parts Tryz.info4;have hBL:=buildL;have y1:(2:Int)*(H:Int)=(H2:Int):=by omega
  have y2:(12000:Int)+(H2:Int)=(N:Int):=by omega
  have y3:(H2:Int)≤8000:=by omega
  have y4:(N:Int)≤20000:=by omega
  have y5:N≤20000:=by omega
  have y7:IntKind.i64.wrap (H2:Int)=(H2:Int):=by rw[IntKind.wrap_i64];omega
  have y8:IntKind.i64.wrap (N:Int)=(N:Int):=by rw[IntKind.wrap_i64];omega
  have y6:e.input.length≤2000:=by omega
  have HN:Hid (N=12000+2*H):=hN
  have HNum:Hid (8≤H∧H≤4000∧16≤T∧T≤2000∧F≤200000∧frN x M≤1000∧M<x.codes.length):=⟨u1,u2,u3,u4,u5,u6,u7⟩
  have HE:Hid (e.fuel.toNat=F∧e.stack.toNat=T∧H=e.half.toNat∧x.main=(M:Int)∧(runI x e).1≠0∧(runI x e).2.2.out.length≤200000):=⟨hF,hT,hHh,eM,hRe,u10⟩
  clear HI HS HR l2 l3 l23 lw hwBB r1 r2 r3 r4 eH eT eF eM hxi hF hT hHh hRe hN hH2 hnc hsz hok u1 u2 u3 u4 u5 u6 u7 u8 u9 u10 HQ0;go_upto_region 3 with fail
  go_cut [5] from 15 (fun s5 wc=>∃ (wz:World) (WB SB RB:Nat) (a9:Option Addr) (iq:Nat),s5=.pointer (some ⟨wz.heap.size,0,none⟩)∧Hid (wc=(wz.alloc (Obj.cells #[.slice sa0 x.structs.length sc0,.slice (some ⟨cg,co,none⟩) x.codes.length cc0,.int .i64 x.main,.slice (some ⟨WB,0,none⟩) N N,.slice (some ⟨SB,0,none⟩) N N,.int .i64 (H:Int),.int .i64 12000,.int .i64 12000,.int .i64 1,.int .i64 (T:Int),.int .i64 0,.int .i64 x.main,.int .i64 0,.int .i64 1,.slice (some ⟨RB,0,none⟩) 16 16,.slice a9 e.input.length iq,.slice ra0 e.oracle.length rc0,.int .i64 0,.slice none 0 0,.int .i64 0,.int .i64 0,.int .i64 0,.int .i64 0,.int .i64 0] 56))∧Acc w3 wz N (some WB) (some SB) (some RB) (some (.slice a9 e.input.length iq)) e.input))
  case first =>
   clear HZ HMv HR3 HFu HE HNum HN;refine wp_region_held_drew (S:=fun w'=>w'.cell? ⟨w.heap.size,0,none⟩=some (.slice sa0 x.structs.length sc0)∧w'.cell? ⟨w.heap.size,1,none⟩=some (.slice (some ⟨cg,co,none⟩) x.codes.length cc0)∧w'.cell? ⟨w.heap.size,2,none⟩=some (.int .i64 x.main)∧w'.cell? ⟨w.heap.size+1,0,none⟩=some (.int .i64 (H:Int))∧w'.cell? ⟨w.heap.size+1,1,none⟩=some (.int .i64 (T:Int))∧w'.cell? ⟨w.heap.size+1,2,none⟩=some (.slice ia0 e.input.length ic0)∧w'.cell? ⟨w.heap.size+1,4,none⟩=some (.slice ra0 e.oracle.length rc0)) (by kernel_rfl) (HS3.out _ (Later.drew _)) (fun hHeld=>?_);refine tk 0 (.agg #[.slice sa0 x.structs.length sc0,.slice (some ⟨cg,co,none⟩) x.codes.length cc0,.int .i64 x.main]) rfl ?_;(try go_simp);refine tk 1 (.pointer (some ⟨w.heap.size+1,0,none⟩)) rfl ?_;(try go_simp);refine tk 2 (.int .i64 ((H:Int))) rfl ?_;(try go_simp);refine tk 3 (.int .i64 ((H2:Int))) rfl ?_;(try go_simp);refine tk 4 (.int .i64 ((N:Int))) rfl ?_;(try go_simp);refine tk 6 (.pointer (some ⟨w.heap.size+1,0,none⟩)) rfl ?_;(try go_simp);refine tk 7 (.int .i64 ((H:Int))) rfl ?_;(try go_simp);refine tk 8 (.int .i64 ((H2:Int))) rfl ?_;(try go_simp);refine tk 9 (.int .i64 ((N:Int))) rfl ?_;(try go_simp);refine tk 11 (.pointer (some ⟨w.heap.size+1,0,none⟩)) rfl ?_;(try go_simp);refine tk 12 (.int .i64 ((H:Int))) rfl ?_;(try go_simp);refine tk 13 (.pointer (some ⟨w.heap.size+1,1,none⟩)) rfl ?_;(try go_simp);refine tk 14 (.int .i64 ((T:Int))) rfl ?_;(try go_simp);refine tk 17 (.pointer (some ⟨w.heap.size+1,2,none⟩)) rfl ?_;(try go_simp);refine tk 18 (.slice ia0 e.input.length ic0) rfl ?_;(try go_simp);refine tk 20 (.pointer (some ⟨w.heap.size+1,4,none⟩)) rfl ?_;(try go_simp);refine tk 21 (.slice ra0 e.oracle.length rc0) rfl ?_;(try go_simp);refine tk 22 (.pointer (some ⟨w.heap.size,2,none⟩)) rfl ?_;(try go_simp);refine tk 23 (.int .i64 (x.main)) rfl ?_;(try go_simp);refine tree3a (w0:=w3) (N:=N) (l:=e.input) (u:=.slice ia0 e.input.length ic0) (f0:=3) (fun b5 b10 b15 p=>#[true,true,true,true,true,b5,true,true,true,true,b10,true,true,true,true,b15,p != 0,true,true,p==2,true,true,true,true,false,false,false]) (by kernel_rfl) (by kernel_rfl) ?hr (by intros;kernel_rfl) (by intros;kernel_rfl) (by intros;kernel_rfl) (by intros;kernel_rfl) (by intros;kernel_rfl) (by intros;kernel_rfl) (by intros;kernel_rfl) (by intros;kernel_rfl) (by intros;kernel_rfl) (by intros;kernel_rfl) rfl rfl rfl rfl rfl rfl rfl rfl rfl rfl rfl rfl rfl rfl rfl rfl rfl rfl rfl rfl (by intros;kernel_rfl) (by intros;kernel_rfl) (by intros;kernel_rfl) (by intros;kernel_rfl) y5 y6 HSrc.out HS3.out ?leaf _ A
   case hr =>
    intro b5 b10 b15 p hp;have h3:p=0∨p=1∨p=2:=by omega
    rcases h3 with rfl|rfl|rfl <;> cases b5 <;> cases b10 <;> cases b15 <;> (show Region.ready _ _ _=_;kernel_rfl)
   intro g1 g2 g3 a9 iq d wz A;have hHeld:=HS3.out _ A.lat;unfold fr0;(try go_simp);refine rd1 24 rfl fun K hK=>?_;go_simp;refine hK.out _ _ ?_ (fun hHeld=>?_)
   ·exact HS3.out _ A.lat
   clear hK K;(try go_simp);refine rd1 25 rfl fun K hK=>?_;go_simp;refine hK.out _ _ ?_ (fun hHeld=>?_)
   ·exact HS3.out _ (A.lat.trans (later_a _ _))
   clear hK K;(try go_simp);refine rd1 26 rfl fun K hK=>?_;go_simp;refine hK.out _ _ ?_ (fun hHeld=>?_)
   ·exact HS3.out _ (A.lat.trans (later_a _ _))
   clear hK K;(try go_simp);refine wpAnyH_done (by kernel_rfl) ?_ _;go_wp2_with fail
   go_meet
   case rel=>exact⟨_,_,_,_,_,_,rfl,rfl,A⟩
  case rest =>
   obtain⟨wz,WB,SB,RB,a9,iq,rfl,hcut⟩:=hcut;obtain⟨hwc,hA⟩:=hcut.out;clear hcut A;obtain⟨C,hC,hIB,cx,cH,cw0,cK,corc,ccg,cco,cWB,cN,mv⟩:=HMv.out _ _ _ _ _ _ hA;rw[←hwc]at mv;rw[←cK];clear cK hwc hA HMv HSrc hBL f0 f1 f2 f3 f4 f5 f6 y1 y2 y3 y4 y5 y6 y7 y8 i0 hi hz0 hz1 hz2 k0 hk hy0 hy1 hy2;subst cx;subst cH;subst cw0;subst ccg;subst cco;subst cWB;subst cN;obtain⟨hF,hT,hHh,eM,hRe,hRo⟩:=HE.out;obtain⟨v1,v2,v3,v4,v5,v6,v7⟩:=HNum.out;have d8:wc.cell? ⟨C.K,8,none⟩=some (.int .i64 1):=mv.c8.1;obtain⟨d10,z10⟩:=mv.c10;have HM1:Hid (∀ w',Later (wc.setCell ⟨C.K,10,none⟩ (.int .i64 1)) w'→Mv C w' (z0V e M 1) q0M (.slice a9 e.input.length iq) (.slice none 0 0)):=fun w' l=>(mv.setK hC (s':=z0V e M 1) (q':=q0M) (o:=10) (v:=.int .i64 1) (by decide) (map_ext rfl) rfl rfl rfl rfl rfl).kept l
   obtain⟨G,hG⟩:∃ G,G=growS 10 T (1 - 1+frN C.x M+7):=⟨_,rfl⟩
   obtain⟨R,hR⟩:=hidx (runI C.x e);rw[←hR.out]at HZ hRe hRo
   have HFi:Hid (∀ w',Later (wc.setCell ⟨C.K,10,none⟩ (.int .i64 1)) w'→Calls Tryz.prog 22 #[.pointer (some ⟨C.K,0,none⟩),.int .i64 1,.int .i64 ((frN C.x M:Nat):Int),.int .i64 1] w' (fun e1 w1=>∃ v,e1=.returned v∧∃ b,v=.bool b∧FitB C e M T F R (.slice a9 e.input.length iq) (.slice none 0 0) b w1)):=fun w' l=>by
    rw[hR.out];have hsz:(z0V e M 1).size=T:=hT;refine (lfits_any hC (HM1.out w' l) (F:=1) (fr:=frN C.x M) (T:=1) (G:=G) (L:=[1]) (Nat.le_refl _) (Nat.le_refl _) (by rw[hsz];show 1≤1+T;omega) (by rw[hsz];show 1+T≤12000;omega) (Nat.zero_le _) (Nat.le_refl _) (by rw[hsz];exact v3) (Nat.le_refl _) (by decide) v6 (by rw[hsz];exact hG) (fun hn=>start_links (fun _=>rfl) (by have hge:T≤G:=(by rw[hG];exact growS_ge _ _ _);omega))).mono (fun e1 w1 hq=>?_);rcases start_fit hC eM hT v3 v4 hHh hF.symm corc hG hq with ⟨rfl,m,r⟩|⟨rfl,r⟩
    ·exact⟨_,rfl,false,rfl,.inl ⟨rfl,m,r⟩⟩
    ·exact⟨_,rfl,true,rfl,.inr ⟨rfl,r⟩⟩
   have HS5:Hid (∀ w',Later C.w0 w'→w'.cell? ⟨w.heap.size,1,none⟩=some (.slice (some ⟨C.cg,C.co,none⟩) C.x.codes.length cc0)∧w'.cell? ⟨w.heap.size,2,none⟩=some (.int .i64 (M:Int))∧w'.cell? ⟨C.cg,C.co+M*4,none⟩=some (.int .i64 ((frN C.x M:Nat):Int))):=fun w' l=>by
    obtain⟨_,g1,g2,_⟩:=HS3.out w' l;rw[eM]at g2;exact⟨g1,g2,(code_fp hC v7 l).1⟩
   have lq:Later C.w0 (wc.setCell ⟨C.K,10,none⟩ (.int .i64 1)):=(HM1.out _ (Later.refl _)).lat;obtain⟨wq,hwq⟩:=hidx (wc.setCell ⟨C.K,10,none⟩ (.int .i64 1));rw[←hwq.out]at HM1 HFi lq;have e10:wq.cell? ⟨C.K,10,none⟩=some (.int .i64 1):=(HM1.out wq (Later.refl _)).c10.1;have hS0:=HS5.out _ (lq.trans (Later.drew wq));have g1:(M:Int)<(C.x.codes.length:Int):=by omega
   have HC:Hid (MxI C∧C.IB<C.K∧R.1≠0∧F≤200000∧w.heap.size+1+1<C.w0.heap.size∧Later w C.w0∧R.2.2.out.length≤200000):=⟨hC,hIB,hRe,v5,hs3,lw3,hRo⟩
   clear hC hIB hRe hRo hF hT hHh eM HE HNum v1 v2 v3 v4 v5 v6 v7 HM1 hG corc hR HN
   generalize frN C.x M=FR at *
   go_wp2_with fail
   rw[←hwq.out];clear hwq d8 d10 z10 mv;refine wp_region_held_drew (S:=fun w'=>w'.cell? ⟨w.heap.size,1,none⟩=some (.slice (some ⟨C.cg,C.co,none⟩) C.x.codes.length cc0)∧w'.cell? ⟨w.heap.size,2,none⟩=some (.int .i64 (M:Int))∧w'.cell? ⟨C.cg,C.co+M*4,none⟩=some (.int .i64 (FR:Int))) (by kernel_rfl) (by exact hS0) (fun hHeld=>?_);refine tk 0 (.pointer (some ⟨C.K,0,none⟩)) rfl ?_;(try go_simp);refine tk 1 (.pointer (some ⟨C.K,0,none⟩)) rfl ?_;(try go_simp);refine tk 2 (.pointer (some ⟨C.K,0,none⟩)) rfl ?_;(try go_simp);refine tk 3 (.pointer (some ⟨C.K,10,none⟩)) rfl ?_;(try go_simp);refine tk 5 (.pointer (some ⟨w.heap.size,1,none⟩)) rfl ?_;(try go_simp);refine tk 6 (.slice (some ⟨C.cg,C.co,none⟩) C.x.codes.length cc0) rfl ?_;(try go_simp);refine tk 7 (.pointer (some ⟨w.heap.size,2,none⟩)) rfl ?_;(try go_simp);refine tk 8 (.int .i64 ((M:Int))) rfl ?_;(try go_simp);refine tk 9 (.pointer (some ⟨C.cg,C.co+M*4,none⟩)) rfl ?_;(try go_simp);refine tk 10 (.pointer (some ⟨C.cg,C.co+M*4,none⟩)) rfl ?_;(try go_simp);refine tk 11 (.int .i64 ((FR:Int))) rfl ?_;(try go_simp);refine tk 12 (.pointer (some ⟨C.K,0,none⟩)) rfl ?_;(try go_simp);refine tk 13 (.pointer (some ⟨C.K,0,none⟩)) rfl ?_;(try go_simp);refine tk 14 (.pointer (some ⟨C.K,10,none⟩)) rfl ?_;(try go_simp);refine wpAnyH_ready (rs:=[4,15]) (by kernel_rfl) (by simp) ?_;refine (AllReadyH.cons rfl (fun K hK=>?q1) (AllReadyH.cons rfl (fun K hK=>?q2) AllReadyH.nil))
   case' q1 =>
    go_simp;refine hK.out _ _ ?_ (fun hHeld=>?_)
    ·first|assumption|(go_keep;done)|exact hS2
    clear hK K;(try go_simp);refine rd1 15 rfl fun K hK=>?_;go_simp;refine hK.out _ _ ?_ (fun hHeld=>?_)
    ·first|assumption|(go_keep;done)|exact hS2
    clear hK K;(try go_simp);refine rd1 16 rfl fun K hK=>?_;refine step_call rfl 22 en_fits _ _ rfl [.pointer (some ⟨C.K,0,none⟩),.int .i64 1,.int .i64 (FR:Int),.int .i64 1] rfl (fun v w1=>∃ b,v=.bool b∧FitB C e M T F R (.slice a9 e.input.length iq) (.slice none 0 0) b w1) (HFi.out _ (Later.drew _)) ?_;intro u2 w1 hc2;obtain⟨b,rfl,hfit⟩:=hc2;have hS2:=HS5.out w1 hfit.lat;refine hK.out _ _ ?_ (fun hHeld=>?_)
    ·first|assumption|(go_keep;done)|exact hS2
    clear hK K;(try go_simp);refine rd1 17 rfl fun K hK=>?_;go_simp;refine hK.out _ _ ?_ (fun hHeld=>?_)
    ·first|assumption|(go_keep;done)|exact hS2
    clear hK K;(try go_simp);refine wpAnyH_done (by kernel_rfl) ?_ _
   case' q2 =>
    go_simp;refine hK.out _ _ ?_ (fun hHeld=>?_)
    ·first|assumption|(go_keep;done)|exact hS2
    clear hK K;(try go_simp);refine rd1 4 rfl fun K hK=>?_;go_simp;refine hK.out _ _ ?_ (fun hHeld=>?_)
    ·first|assumption|(go_keep;done)|exact hS2
    clear hK K;(try go_simp);refine rd1 16 rfl fun K hK=>?_;refine step_call rfl 22 en_fits _ _ rfl [.pointer (some ⟨C.K,0,none⟩),.int .i64 1,.int .i64 (FR:Int),.int .i64 1] rfl (fun v w1=>∃ b,v=.bool b∧FitB C e M T F R (.slice a9 e.input.length iq) (.slice none 0 0) b w1) (HFi.out _ (Later.drew _)) ?_;intro u2 w1 hc2;obtain⟨b,rfl,hfit⟩:=hc2;have hS2:=HS5.out w1 hfit.lat;refine hK.out _ _ ?_ (fun hHeld=>?_)
    ·first|assumption|(go_keep;done)|exact hS2
    clear hK K;(try go_simp);refine rd1 17 rfl fun K hK=>?_;go_simp;refine hK.out _ _ ?_ (fun hHeld=>?_)
    ·first|assumption|(go_keep;done)|exact hS2
    clear hK K;(try go_simp);refine wpAnyH_done (by kernel_rfl) ?_ _
   all_goals
    clear hS0 hS2 HFi e10 lq;go_upto_if 65 with fail
    go_cut [5] from 66 (fun s5 wx=>s5=.pointer (some ⟨C.K,0,none⟩)∧Hid (LrI C R F wx))
    case first =>
     rcases hfit with ⟨rfl,m,hr6⟩|⟨rfl,b0,s0,q',k1,k2,m,hfp,hlr⟩
     ·have HSp:Hid (Calls Tryz.prog 23 #[.pointer (some ⟨C.K,0,none⟩),.int .i64 6,.int .i64 0] w1 (MQ C w1 unitE (z0V e M 1) (q0M.stop 6 0) (.slice a9 e.input.length iq) (.slice none 0 0))):=lstop_any HC.out.1 m 6 0
      have HX:Hid (∀ w',Mv C w' (z0V e M 1) (q0M.stop 6 0) (.slice a9 e.input.length iq) (.slice none 0 0)→LrI C R F w'):=fun w' m'=>by
       rw[hr6];exact .inr ⟨_,_,z0V e M 1,_,m',rfl,rfl,rfl,rfl,rfl,rfl⟩
      clear m hr6 HC HZ HS5 HS3 HFu HR3;go_wp2_with fail
      refine HSp.out.mono ?_;rintro n2 w2' ⟨rfl,m2,_⟩;have HXX:Hid (LrI C R F w2'):=HX.out w2' m2;clear HX HSp m2;unfold unitE;go_wp2_with fail
      go_meet
      case rel=>exact⟨rfl,HXX⟩
     ·have hN:=HC.out.1.hN;have e3:=m.c3.1;have e10:=m.c10.1;rw[hfp]at e10;have f2:=(HS5.out w1 m.lat).2.1
      obtain⟨ad,had⟩:∃ ad,ad=b0+2:=⟨_,rfl⟩
      obtain⟨dw,zw⟩:=m.word (a:=ad) (by omega)
      have HXX:Hid (∀ w'',Later (w1.setCell ⟨C.WB,ad,none⟩ (.int .i64 (M:Int))) w''→LrI C R F w''):=fun w'' l=>by
       rw[had]at l;obtain⟨s,q,h⟩:=hlr w'' l;exact .inl ⟨s,q,_,_,h⟩
      have j1:(b0:Int)+2=(ad:Int):=by omega
      have j2:(ad:Int)<(C.N:Int):=by omega
      have j3:(ad:Int)≤12000:=by omega
      have j4:(b0:Int)≤12000:=by omega
      clear m hlr hfp k1 k2 had hN HC HZ HS5 HS3 HFu HR3
      generalize q'.W ad=qv at *
      go_wp2_with fail
      go_region
      go_wp2_with fail
      go_meet
      case rel=>exact⟨rfl,HXX.out _ (by first|exact Later.refl _|exact Later.drew _|exact (Later.drew _).trans (Later.drew _)|exact Later.drewN' _ _)⟩
    case rest =>
     obtain⟨rfl,hL⟩:=hcut;clear hfit HS3 HS5 g1 lw3 hs3;go_upto_block 0 with fail
     go_cut [] from 80 (fun wx=>Hid (∃ iv ov,FinM C R.2.2 R.1 R.2.1 iv ov wx))
     case first =>
      clear HZ HR3;go_wp2_with fail
      go_loopw [] (fun wr=>Hid (LrI C R F wr)) (fun wr=>lrM C F wr)
      case atStart=>exact hL
      case round =>
       have hfu:=HFu.out wr hrel.out.lat;rcases hrel.out with ⟨s,q,iv2,ov2,hr⟩|⟨iv2,ov2,hf⟩
       ·have c22:=hr.al.mv.c22.1;rw[hr.al.en]at c22;have c19:=hr.al.mv.c19.1;have hst:=hr.st;have hF5:=HC.out.2.2.2.1;by_cases hlt:s.steps<F
        ·have n1:¬ (F:Int)≤(s.steps:Int):=by omega
         have n2:decide ((F:Int)≤(s.steps:Int))=false:=decide_eq_false n1
         have HStp:Hid (∀ w',Later wr w'→Calls Tryz.prog 24 #[.pointer (some ⟨C.K,0,none⟩)] w' (fun n w''=>n=unitE∧LrI C R F w''∧lrM C F w''<lrM C F wr)):=fun w' l=>by
          have h1:=hr.mv;have h2:=hr.cp;have h3:=hr.ou;have h4:=hr.ev;have hk:=hr.kept l;have e1:=lrM_al (F:=F) hr.al;have e2:=lrM_al (F:=F) hk.al;refine (lstep_any HC.out.1 HC.out.2.1 hk.al hk.pc (by omega) (by omega) (by omega) (by omega) (by omega)).mono (fun n w'' hq=>?_);obtain⟨r1,r2,r3⟩:=hk.next HC.out.1 hlt hq
          exact⟨r1,r2,by omega⟩
         clear hr hrel hL HC hst hF5 hlt;go_wp2_with fail
         go_quiet (fail)
         go_wp2_with fail
         refine (HStp.out _ (Later.drewN' _ _)).mono ?_;rintro n2 w2' ⟨rfl,hI2,hm2⟩;have HI2:Hid (LrI C R F w2'):=hI2;have HM2:Hid (lrM C F w2'<lrM C F wr):=hm2;clear HStp hI2 hm2 c22 c19 hfu;unfold unitE;go_wp2_with fail
         go_roundw
         case rel=>exact HI2
         case measure=>exact HM2.out
        ·have n1:(F:Int)≤(s.steps:Int):=by omega
         have n2:decide ((F:Int)≤(s.steps:Int))=true:=decide_eq_true n1;have HSp:Hid (∀ w',Later wr w'→Calls Tryz.prog 23 #[.pointer (some ⟨C.K,0,none⟩),.int .i64 4,.int .i64 0] w' (MQ C w' unitE s (q.stop 4 0) iv2 ov2)):=fun w' l=>lstop_any HC.out.1 (hr.al.mv.kept l) 4 0
         have HX:Hid (∀ w',Mv C w' s (q.stop 4 0) iv2 ov2→∃ iv ov,FinM C R.2.2 R.1 R.2.1 iv ov w'):=fun w' m'=>⟨_,_,hr.over hlt m'⟩
         clear hr hrel hL HC hst hF5 hlt;go_wp2_with fail
         go_quiet (fail)
         go_wp2_with fail
         refine (HSp.out _ (Later.drewN' _ _)).mono ?_;rintro n2 w2' ⟨rfl,m2,_⟩;have HXX:Hid (∃ iv ov,FinM C R.2.2 R.1 R.2.1 iv ov w2'):=HX.out w2' m2;clear HX HSp m2 c22 c19 hfu;unfold unitE;go_wp2_with fail
         go_meet
         case rel=>exact HXX
       ·have HXX:Hid (∃ iv ov,FinM C R.2.2 R.1 R.2.1 iv ov wr):=⟨_,_,hf⟩
        obtain⟨s',q',m,t1,_⟩:=hf;have c22:=m.c22.1;rw[t1]at c22;have hne:(R.1==0)=false:=by rw[beq_eq_false_iff_ne];exact HC.out.2.2.1
        generalize R.1=r1 at c22 hne
        clear m t1 hrel hL HC hfu;go_wp2_with fail
        go_meet
        case rel=>exact HXX
     case rest =>
      obtain⟨iv2,ov2,s',q',m,t1,t2,t3,t4,t5,t6⟩:=hcut.out;have c22:=m.c22.1;have c23:=m.c23.1;have c18:=m.c18.1;have c19:=m.c19.1;have c20:=m.c20.1;have c21:=m.c21.1;have hop:=m.op;rw[t1]at c22;rw[t2]at c23;rw[t4]at c19;rw[t5]at c20;rw[t6]at c21;rw[t3]at hop;have lat:=m.lat;have hlt:=m.box.lt;obtain⟨oa2,oc2,rfl⟩:=row_form hop;obtain⟨hC1,_,_,_,hs3,lw3,hou⟩:=HC.out;have hK4:C.K≠w.heap.size+1+1:=by have:=hC1.p1;omega
      have hls:=lat.size;have hws:=lw3.size
      have HS12:Hid (∀ w',Later wc w'→w'.cell? ⟨C.K,22,none⟩=some (.int .i64 R.1)∧w'.cell? ⟨C.K,23,none⟩=some (.int .i64 R.2.1)∧w'.cell? ⟨C.K,18,none⟩=some (.slice oa2 R.2.2.out.length oc2)∧w'.cell? ⟨C.K,19,none⟩=some (.int .i64 (R.2.2.steps:Int))∧w'.cell? ⟨C.K,20,none⟩=some (.int .i64 (R.2.2.moves:Int))∧w'.cell? ⟨C.K,21,none⟩=some (.int .i64 (R.2.2.copies:Int))):=fun w' l=>⟨(Below.cell l (p:=⟨C.K,22,none⟩) hlt).trans c22,(Below.cell l (p:=⟨C.K,23,none⟩) hlt).trans c23,(Below.cell l (p:=⟨C.K,18,none⟩) hlt).trans c18,(Below.cell l (p:=⟨C.K,19,none⟩) hlt).trans c19,(Below.cell l (p:=⟨C.K,20,none⟩) hlt).trans c20,(Below.cell l (p:=⟨C.K,21,none⟩) hlt).trans c21⟩
      have HSrc2:Hid (∀ w',Later wc w'→Src w' (.slice oa2 R.2.2.out.length oc2) R.2.2.out.length (itemsL R.2.2.out)):=fun w' l=>src_row (own_kept hop (fun b hb=>l.block b (hop.lt b hb).2))
      have HLen:Hid ((itemsL R.2.2.out).length=R.2.2.out.length*2∧R.2.2.out.length≤200000):=⟨hop.1,hou⟩
      have HSz2:Hid (∀ w',Later wc w'→w.heap.size≤w'.heap.size):=fun w' l=>by have:=l.size;omega
      have HP:Hid (∀ w9 oa oc,Later wc w9→w9.ownsRow w.heap.size 125 2 (.slice oa R.2.2.out.length oc) R.2.2.out.length (itemsL R.2.2.out)→(∀ b,(Value.slice oa R.2.2.out.length oc).ownBlock=some b→wc.heap.size≤b)→(∀ W,Later (put6 w9 (w.heap.size+1+1) (.int .i64 R.1) (.int .i64 R.2.1) (.slice oa R.2.2.out.length oc) (.int .i64 (R.2.2.steps:Int)) (.int .i64 (R.2.2.moves:Int)) (.int .i64 (R.2.2.copies:Int))) W→Q (.returned (resV R (.slice oa R.2.2.out.length oc))) W)∧((put6 w9 (w.heap.size+1+1) (.int .i64 R.1) (.int .i64 R.2.1) (.slice oa R.2.2.out.length oc) (.int .i64 (R.2.2.steps:Int)) (.int .i64 (R.2.2.moves:Int)) (.int .i64 (R.2.2.copies:Int))).cell? ⟨C.K,22,none⟩=some (.int .i64 R.1)∧(put6 w9 (w.heap.size+1+1) (.int .i64 R.1) (.int .i64 R.2.1) (.slice oa R.2.2.out.length oc) (.int .i64 (R.2.2.steps:Int)) (.int .i64 (R.2.2.moves:Int)) (.int .i64 (R.2.2.copies:Int))).cell? ⟨C.K,23,none⟩=some (.int .i64 R.2.1)∧(put6 w9 (w.heap.size+1+1) (.int .i64 R.1) (.int .i64 R.2.1) (.slice oa R.2.2.out.length oc) (.int .i64 (R.2.2.steps:Int)) (.int .i64 (R.2.2.moves:Int)) (.int .i64 (R.2.2.copies:Int))).cell? ⟨C.K,18,none⟩=some (.slice oa2 R.2.2.out.length oc2)∧(put6 w9 (w.heap.size+1+1) (.int .i64 R.1) (.int .i64 R.2.1) (.slice oa R.2.2.out.length oc) (.int .i64 (R.2.2.steps:Int)) (.int .i64 (R.2.2.moves:Int)) (.int .i64 (R.2.2.copies:Int))).cell? ⟨C.K,19,none⟩=some (.int .i64 (R.2.2.steps:Int))∧(put6 w9 (w.heap.size+1+1) (.int .i64 R.1) (.int .i64 R.2.1) (.slice oa R.2.2.out.length oc) (.int .i64 (R.2.2.steps:Int)) (.int .i64 (R.2.2.moves:Int)) (.int .i64 (R.2.2.copies:Int))).cell? ⟨C.K,20,none⟩=some (.int .i64 (R.2.2.moves:Int))∧(put6 w9 (w.heap.size+1+1) (.int .i64 R.1) (.int .i64 R.2.1) (.slice oa R.2.2.out.length oc) (.int .i64 (R.2.2.steps:Int)) (.int .i64 (R.2.2.moves:Int)) (.int .i64 (R.2.2.copies:Int))).cell? ⟨C.K,21,none⟩=some (.int .i64 (R.2.2.copies:Int)))∧(∀ k,k<6→(∃ u,w9.cell? ⟨w.heap.size+1+1,k,none⟩=some u)∧w9.frozen? ⟨w.heap.size+1+1,k,none⟩=false)):=fun w9 oa oc l9 o9 hb9=>by
       obtain⟨a1,a2,a3,a4,a5,a6⟩:=HS12.out w9 l9;refine⟨?_,⟨put6_cell _ _ _ _ _ _ hK4 a1,put6_cell _ _ _ _ _ _ hK4 a2,put6_cell _ _ _ _ _ _ hK4 a3,put6_cell _ _ _ _ _ _ hK4 a4,put6_cell _ _ _ _ _ _ hK4 a5,put6_cell _ _ _ _ _ _ hK4 a6⟩,HR3.out w9 (lat.trans l9)⟩;exact put6_end (Z:=fun W=>Q (.returned (resV R (.slice oa R.2.2.out.length oc))) W) (fun W o l=>HZ.out W oa R.2.2.out.length oc o l) lw3 lat l9 (by omega) (by omega) o9 hb9
      have hS0:=HS12.out _ (Later.drew wc);obtain⟨i0,hi,hz0,hz1,hz2⟩:=info_parts (P:=Tryz.prog) (e:=125) (z:=.agg #[.int .i64 0,.int .i64 0]) (size:=2) (bytes:=16) (by kernel_rfl);have hBR:=buildR;clear hcut m t1 t2 t3 t4 t5 t6 c22 c23 c18 c19 c20 c21 hop hC1 HC HZ HR3 HFu hL hou;go_wp2_with fail
      refine wp_region_held_drew (S:=fun w'=>w'.cell? ⟨C.K,22,none⟩=some (.int .i64 R.1)∧w'.cell? ⟨C.K,23,none⟩=some (.int .i64 R.2.1)∧w'.cell? ⟨C.K,18,none⟩=some (.slice oa2 R.2.2.out.length oc2)∧w'.cell? ⟨C.K,19,none⟩=some (.int .i64 (R.2.2.steps:Int))∧w'.cell? ⟨C.K,20,none⟩=some (.int .i64 (R.2.2.moves:Int))∧w'.cell? ⟨C.K,21,none⟩=some (.int .i64 (R.2.2.copies:Int))) (by kernel_rfl) (by exact hS0) (fun hHeld=>?_);refine tk 0 (.pointer (some ⟨C.K,0,none⟩)) rfl ?_;(try go_simp);refine tk 1 (.pointer (some ⟨C.K,0,none⟩)) rfl ?_;(try go_simp);refine tk 2 (.pointer (some ⟨C.K,22,none⟩)) rfl ?_;(try go_simp);refine tk 3 (.int .i64 (R.1)) rfl ?_;(try go_simp);refine tk 4 (.pointer (some ⟨C.K,0,none⟩)) rfl ?_;(try go_simp);refine tk 5 (.pointer (some ⟨C.K,0,none⟩)) rfl ?_;(try go_simp);refine tk 6 (.pointer (some ⟨C.K,23,none⟩)) rfl ?_;(try go_simp);refine tk 7 (.int .i64 (R.2.1)) rfl ?_;(try go_simp);refine tk 9 (.pointer (some ⟨C.K,0,none⟩)) rfl ?_;(try go_simp);refine tk 10 (.pointer (some ⟨C.K,0,none⟩)) rfl ?_;(try go_simp);refine tk 11 (.pointer (some ⟨C.K,18,none⟩)) rfl ?_;(try go_simp);refine tk 12 (.slice oa2 R.2.2.out.length oc2) rfl ?_;(try go_simp);refine tk 14 (.pointer (some ⟨C.K,0,none⟩)) rfl ?_;(try go_simp);refine tk 15 (.pointer (some ⟨C.K,0,none⟩)) rfl ?_;(try go_simp);refine tk 16 (.pointer (some ⟨C.K,19,none⟩)) rfl ?_;(try go_simp);refine tk 17 (.int .i64 ((R.2.2.steps:Int))) rfl ?_;(try go_simp);refine tk 18 (.pointer (some ⟨C.K,0,none⟩)) rfl ?_;(try go_simp);refine tk 19 (.pointer (some ⟨C.K,0,none⟩)) rfl ?_;(try go_simp);refine tk 20 (.pointer (some ⟨C.K,20,none⟩)) rfl ?_;(try go_simp);refine tk 21 (.int .i64 ((R.2.2.moves:Int))) rfl ?_;(try go_simp);refine tk 22 (.pointer (some ⟨C.K,0,none⟩)) rfl ?_;(try go_simp);refine tk 23 (.pointer (some ⟨C.K,0,none⟩)) rfl ?_;(try go_simp);refine tk 24 (.pointer (some ⟨C.K,21,none⟩)) rfl ?_;(try go_simp);refine tk 25 (.int .i64 ((R.2.2.copies:Int))) rfl ?_;(try go_simp);refine rd1 8 rfl fun K hK=>?_;go_simp;refine hK.out _ _ ?_ (fun hHeld=>?_)
      ·exact HS12.out _ (by first|exact (Later.drew _).trans (later_a _ _)|exact later_ad _ _|exact later_a _ _)
      clear hK K;(try go_simp);refine rd1 13 rfl fun K hK=>?_;refine step_append_any rfl _ _ 31 rfl w.heap.size 125 i0 (.agg #[.int .i64 0,.int .i64 0]) 2 16 Tryz.underlying31 hi hz0 hz1 hz2 rfl (by decide) _ 0 [] rfl (lit_row _ (HSz2.out _ (by first|exact Later.drew _|exact Later.refl _))) _ R.2.2.out.length (itemsL R.2.2.out) rfl (HSrc2.out _ (by first|exact (Later.drew _).trans (later_a _ _)|exact later_ad _ _|exact later_a _ _)) HLen.out.1 (items_one _) (by have:=HLen.out.2;unfold maxLen;omega) (by have:=HLen.out.2;omega) (HSz2.out _ (by first|exact (Later.drew _).trans (later_a _ _)|exact later_ad _ _|exact later_a _ _)) ?_;intro v9 w9 o9 g9 h9;rw[Nat.zero_add,List.nil_append]at o9;obtain⟨oa,oc,hv⟩:=row_form o9;subst hv;have l9:Later wc w9:=later_grow (by first|exact (Later.drew _).trans (later_a _ _)|exact later_ad _ _|exact later_a _ _) g9 (Nat.le_refl _)
      have hb9:∀ b,(Value.slice oa R.2.2.out.length oc).ownBlock=some b→wc.heap.size≤b:=fun b hb=>by
       rcases h9 with q|q
       ·rw[q]at hb;have:=Option.some.inj hb;show wc.heap.size≤b;rw[←this];exact Nat.le_refl _
       ·rw[q]at hb;have:=Option.some.inj hb;rw[←this];exact Below.size (show Later wc _ from (by first|exact (Later.drew _).trans (later_a _ _)|exact later_ad _ _|exact later_a _ _))
      obtain⟨hQ,hS4,hr6⟩:=HP.out w9 oa oc l9 o9 hb9;have hS2:=HS12.out w9 l9;have HQ2:Hid (∀ W,Later (put6 w9 (w.heap.size+1+1) (.int .i64 R.1) (.int .i64 R.2.1) (.slice oa R.2.2.out.length oc) (.int .i64 (R.2.2.steps:Int)) (.int .i64 (R.2.2.moves:Int)) (.int .i64 (R.2.2.copies:Int))) W→Q (.returned (resV R (.slice oa R.2.2.out.length oc))) W):=hQ;obtain⟨m0,m1,m2,m3,m4,m5⟩:=put6_cells (w:=w9) (b:=w.heap.size+1+1) (.int .i64 R.1) (.int .i64 R.2.1) (.slice oa R.2.2.out.length oc) (.int .i64 (R.2.2.steps:Int)) (.int .i64 (R.2.2.moves:Int)) (.int .i64 (R.2.2.copies:Int)) (fun k hk=>(hr6 k hk).1);have hr6:=And.intro (hr6 0 (by decide)) (And.intro (hr6 1 (by decide)) (And.intro (hr6 2 (by decide)) (And.intro (hr6 3 (by decide)) (And.intro (hr6 4 (by decide)) (hr6 5 (by decide))))));obtain⟨⟨⟨uu0,ff0⟩,zz0⟩,⟨⟨uu1,ff1⟩,zz1⟩,⟨⟨uu2,ff2⟩,zz2⟩,⟨⟨uu3,ff3⟩,zz3⟩,⟨⟨uu4,ff4⟩,zz4⟩,⟨⟨uu5,ff5⟩,zz5⟩⟩:=hr6;clear o9 g9 h9 hQ hb9;refine hK.out _ _ ?_ (fun hHeld=>?_)
      ·exact hS2
      clear hK K;(try go_simp);refine rd1 26 rfl fun K hK=>?_;go_simp;refine hK.out _ _ ?_ (fun hHeld=>?_)
      ·exact hS2
      clear hK K;(try go_simp);refine rd1 27 rfl fun K hK=>?_;go_simp;refine hK.out _ _ ?_ (fun hHeld=>?_)
      ·exact hS4
      clear hK K;(try go_simp);refine wpAnyH_done (by kernel_rfl) ?_ _;unfold put6 at HQ2 m0 m1 m2 m3 m4 m5;clear hS4 HP HS12 HSrc2 HLen HSz2;go_wp2_with fail
      exact bodyPost_ret (v:=resV R (.slice oa R.2.2.out.length oc)) (by unfold resV;simp[results,Tryz.results6,go_sem,m0,m1,m2,m3,m4,m5]) rfl (HQ2.out _ (by first|exact Later.refl _|exact Later.drew _))
 ·have HZ:Hid (∀ w',Later w w'→RunP x e w (.returned (.agg #[.int .i64 0,.int .i64 0,.slice none 0 0,.int .i64 0,.int .i64 0,.int .i64 0])) w'):=fun w' l=>by unfold RunP;rw[if_neg hb];exact⟨rfl,l⟩
  generalize RunP x e w=Q at *
  clear r1 r2 r3 r4
  cases h1:imB x with
  | false =>
   rw[h1]at HOk;have h0:=HI.out wB (Later.refl _);obtain⟨i0,i1,i2⟩:=h0;clear hb h1;go_enter Tryz.func6,Tryz.ntmps6;go_wp2_with fail
   rw[←hwBB.out];refine (HOk.out wB lw).mono ?_;rintro n2 w2 ⟨rfl,l2⟩;obtain⟨⟨uu0,ff0⟩,zz0⟩:=HR.out w2 l2 0 (by decide);obtain⟨⟨uu1,ff1⟩,zz1⟩:=HR.out w2 l2 1 (by decide);obtain⟨⟨uu2,ff2⟩,zz2⟩:=HR.out w2 l2 2 (by decide);obtain⟨⟨uu3,ff3⟩,zz3⟩:=HR.out w2 l2 3 (by decide);obtain⟨⟨uu4,ff4⟩,zz4⟩:=HR.out w2 l2 4 (by decide);obtain⟨⟨uu5,ff5⟩,zz5⟩:=HR.out w2 l2 5 (by decide);have HP:=HZ.out _ (put6_later (b:=w.heap.size+1+1) (.int .i64 0) (.int .i64 0) (.slice none 0 0) (.int .i64 0) (.int .i64 0) (.int .i64 0) (lw.trans l2) (by omega));obtain⟨m0,m1,m2,m3,m4,m5⟩:=put6_cells (w:=w2) (b:=w.heap.size+1+1) (.int .i64 0) (.int .i64 0) (.slice none 0 0) (.int .i64 0) (.int .i64 0) (.int .i64 0) (fun k hk=>(HR.out w2 l2 k hk).1);unfold put6 at HP m0 m1 m2 m3 m4 m5;clear HZ HR HI HS HOk HSe i0 i1 i2;go_wp2_with fail
   exact bodyPost_ret (v:=.agg #[.int .i64 0,.int .i64 0,.slice none 0 0,.int .i64 0,.int .i64 0,.int .i64 0]) (by simp[results,Tryz.results6,go_sem,m0,m1,m2,m3,m4,m5]) rfl HP
  | true =>
   have h2:seB e=false:=by
    cases q:seB e with
    | false=>rfl
    | true=>exact absurd ⟨h1,q⟩ hb
   rw[h1]at HOk;rw[h2]at HSe;have h0:=HI.out wB (Later.refl _);obtain⟨i0,i1,i2⟩:=h0;clear hb h1 h2;go_enter Tryz.func6,Tryz.ntmps6;go_wp2_with fail
   rw[←hwBB.out];refine (HOk.out wB lw).mono ?_;rintro n2 w2 ⟨rfl,l2⟩;obtain⟨j0,j1,j2,j3,j4⟩:=HS.out w2 l2;clear i0 i1 i2;go_wp2_with fail
   refine (HSe.out w2 (lw.trans l2)).mono ?_;rintro n3 w3 ⟨rfl,l3⟩;have l23:=l2.trans l3;obtain⟨⟨uu0,ff0⟩,zz0⟩:=HR.out w3 l23 0 (by decide);obtain⟨⟨uu1,ff1⟩,zz1⟩:=HR.out w3 l23 1 (by decide);obtain⟨⟨uu2,ff2⟩,zz2⟩:=HR.out w3 l23 2 (by decide);obtain⟨⟨uu3,ff3⟩,zz3⟩:=HR.out w3 l23 3 (by decide);obtain⟨⟨uu4,ff4⟩,zz4⟩:=HR.out w3 l23 4 (by decide);obtain⟨⟨uu5,ff5⟩,zz5⟩:=HR.out w3 l23 5 (by decide);have HP:=HZ.out _ (put6_later (b:=w.heap.size+1+1) (.int .i64 0) (.int .i64 0) (.slice none 0 0) (.int .i64 0) (.int .i64 0) (.int .i64 0) (lw.trans l23) (by omega));obtain⟨m0,m1,m2,m3,m4,m5⟩:=put6_cells (w:=w3) (b:=w.heap.size+1+1) (.int .i64 0) (.int .i64 0) (.slice none 0 0) (.int .i64 0) (.int .i64 0) (.int .i64 0) (fun k hk=>(HR.out w3 l23 k hk).1);unfold put6 at HP m0 m1 m2 m3 m4 m5;clear HZ HR HI HS HOk HSe j0 j1 j2 j3 j4;go_wp2_with fail
   exact bodyPost_ret (v:=.agg #[.int .i64 0,.int .i64 0,.slice none 0 0,.int .i64 0,.int .i64 0,.int .i64 0]) (by simp[results,Tryz.results6,go_sem,m0,m1,m2,m3,m4,m5]) rfl HP
end Go.Proofs.YtjnpncefkigcbaaGreat
