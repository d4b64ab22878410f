import Derived.Test.YtgholpilmdebmaaGreatDoorZ26
import Derived.Deep.RegionHeld3
set_option maxHeartbeats 100000000
set_option maxRecDepth 100000
namespace Go.Proofs.YtgholpilmdebmaaGreatDoor
open Go.RowKit Go.Lib
def Blk (W:World) (sv v:Value) (t:List Int):Prop:=∀ A w b zs,Bf A W w b zs→zs.length+(blockL t).length≤1000000→Calls Tryz.prog 37 #[b,v,sv] w (SayP A W (zs++blockL t))
def Kid1 (W:World) (sv u1:Value) (t0:List Int):Prop:=∃ m,Kid W sv u1 m 0 t0
structure StIn (W:World) (sv:Value) (l:List Sc) (k tk tn:Int) (u0 u1 u2 u3:Value) (T:List Int):Prop where
 k0:0≤k
 k7:k≤7
 at0:k=0→∃ nm,RdN W u0 nm∧1≤nm.length∧(tk=3∨tk=6→0≤tn∧tn<l.length)∧T=[118,97,114,32]++nm++sayTy l tk tn++[32,59,10]
 at1:k=1→∃ m t0 t1,Kid W sv u1 m 0 t0∧Kid W sv u1 m 1 t1∧2≤t0.length∧T=t0.drop 1++[32,61]++t1++[32,59,10]
 at2:k=2→∃ t0 b e,Kid1 W sv u1 t0∧Blk W sv u2 b∧Blk W sv u3 e∧T=[105,102]++t0++blockL b++[32,101,108,115,101]++blockL e++[10]
 at3:k=3→∃ t0 b,Kid1 W sv u1 t0∧Blk W sv u2 b∧T=[102,111,114]++t0++blockL b++[10]
 at4:k=4→(∃ t0,Kid1 W sv u1 t0∧T=[114,101,116,117,114,110]++t0++[32,59,10])∨(∃ a cap,u1=.slice a 0 cap∧T=[114,101,116,117,114,110]++[32,59,10])
 at5:k=5→∃ t0,Kid1 W sv u1 t0∧T=[112,114,105,110,116]++t0++[32,59,10]
 at6:k=6→∃ t0,Kid1 W sv u1 t0∧T=[112,97,110,105,99]++t0++[32,59,10]
 at7:k=7→∃ t0,Kid1 W sv u1 t0∧T=[100,111]++t0++[32,59,10]
def Cells8 (w':World) (g off:Nat) (k n tk tn:Int) (u0 u1 u2 u3:Value):Prop:=w'.cell? ⟨g,off,none⟩=some (.int .i64 k)∧w'.cell? ⟨g,off+1,none⟩=some (.int .i64 n)∧w'.cell? ⟨g,off+2,none⟩=some (.int .i64 tk)∧w'.cell? ⟨g,off+3,none⟩=some (.int .i64 tn)∧w'.cell? ⟨g,off+4,none⟩=some u0∧w'.cell? ⟨g,off+5,none⟩=some u1∧w'.cell? ⟨g,off+6,none⟩=some u2∧w'.cell? ⟨g,off+7,none⟩=some u3
def StAt (W:World) (sv:Value) (l:List Sc) (v:Value) (m j:Nat) (T:List Int):Prop:=∃ (g off cap:Nat) (k n tk tn:Int) (y0 y1 y2 y3:Option Addr) (m0 m1 m2 m3 t0 t1 t2 t3:Nat),v=.slice (some ⟨g,off,none⟩) m cap∧g<W.heap.size∧(∀ w',Later W w'→Cells8 w' g (off+j*8) k n tk tn (.slice y0 m0 t0) (.slice y1 m1 t1) (.slice y2 m2 t2) (.slice y3 m3 t3))∧StIn W sv l k tk tn (.slice y0 m0 t0) (.slice y1 m1 t1) (.slice y2 m2 t2) (.slice y3 m3 t3) T
theorem flat_step (Ts:List (List Int)) (j:Nat) (h:j<Ts.length):(Ts.take (j+1)).flatten=(Ts.take j).flatten++Ts[j]:=by
 rw[List.take_add_one,List.getElem?_eq_getElem h,List.flatten_append];show _++(Ts[j]++[])=_;rw[List.append_nil]
theorem flat_pre (Ts:List (List Int)) (j:Nat):(Ts.take j).flatten.length≤Ts.flatten.length:=by
 have:Ts.flatten=(Ts.take j).flatten++(Ts.drop j).flatten:=by rw[←List.flatten_append,List.take_append_drop]
 rw[this,List.length_append];omega
theorem blk_one (W:World) (sv:Value) (l:List Sc) (hl:RdL W 2 sv (Sc.dats l)) (hnm:NamesFit l) (a1:Option Addr) (cap1:Nat) (Ts:List (List Int)) (hTs:(Ts.length:Int)≤1000000)
  (hst:∀ (j:Nat) (hj:j<Ts.length),StAt W sv l (.slice a1 Ts.length cap1) Ts.length j Ts[j]):Blk W sv (.slice a1 Ts.length cap1) Ts.flatten:=by
 intro A w b zs h hb;obtain⟨i0,hi,hz0,hz1,hz2⟩:=info_parts Tryz.info5;obtain⟨a,cap,rfl⟩:=h.shape;have hbl:(blockL Ts.flatten).length=Ts.flatten.length+4:=by unfold blockL;simp
 rw[hbl]at hb
 have HF:Hid (∀ v' w',Bf A W w' v' (zs++[32,123,10]++Ts.flatten++[125])→SayP A W (zs++blockL Ts.flatten) (.returned v') w'):=fun v' w' h=>⟨v',rfl,by unfold blockL;simpa only[List.append_assoc] using h⟩
 have HSt:Hid _:=hst;have HT:Hid (∀ tk tn:Int,(tk=3∨tk=6→0≤tn∧tn<l.length)→∀ A w v zs,Bf A W w v zs→zs.length≤1000000→Calls Tryz.prog 36 #[v,.agg #[.int .i64 tk,.int .i64 tn],sv] w (SayP A W (zs++sayTy l tk tn))):=fun tk tn hk A w v zs h hb=>sayTy_any A W w v zs l tk tn sv h hb hl hk hnm
 generalize hQ:SayP A W (zs++blockL Ts.flatten)=Q
 rw[hQ]at HF;have hl1:zs.length=zs.length:=rfl;clear hst hl hnm hbl hQ;go_enter Tryz.func37,Tryz.ntmps37;go_wp2_with (at_builtin;refine Go.Lib.wpList_append_own_string _ rfl _ _ 22 9 rfl W.heap.size 5 i0 Tryz.underlying22 Tryz.underlying9 hi hz0 hz1 hz2 (.slice a zs.length cap) _ _ rfl h.1 _ rfl (by rw[hl1];show _+3≤maxLen;unfold maxLen;omega) (by rw[hl1];show _+3≤_;omega) h.2.size ?_;intro v5 w5 o5 g5 _;have hb5:=h.put o5 (ts:=[32,123,10]) rfl rfl g5;have hl5:(zs++[32,123,10]).length=zs.length+3:=(by simp);obtain⟨a5,M5,p5,rfl,hM5⟩:=hb5.shape2)
 go_loopw [0,7] (fun b i wr=>∃ j:Nat,i=.int .i64 (j:Int)∧j≤Ts.length∧Bf A W wr b (zs++[32,123,10]++(Ts.take j).flatten)) (fun _ i _=>Ts.length - (intOf i).toNat)
 case atStart=>exact⟨0,rfl,Nat.zero_le _,by simpa using hb5⟩
 case round =>
  obtain⟨j,rfl,hj,hbr⟩:=hrel;obtain⟨ar,Mr,pr,rfl,hMr⟩:=hbr.shape2;by_cases hlt:j<Ts.length
  ·obtain⟨g,off,cap',k,n,tk,tn,x0,x1,x2,x3,m0,m1,m2,m3,r0,r1,r2,r3,e1,hgW,hcl,hT⟩:=HSt.out j hlt
   cases e1
   have i1:(j:Int)<(Ts.length:Int):=by omega
   have hfs:=flat_step Ts j hlt;have hfl:=flat_pre Ts (j+1);have hrl:(zs++[32,123,10]++(Ts.take j).flatten).length=zs.length+3+(Ts.take j).flatten.length:=by rw[List.length_append,hl5]
   have HN:Hid (∀ v' w',Bf A W w' v' (zs++[32,123,10]++(Ts.take j).flatten++Ts[j])→Bf A W w' v' (zs++[32,123,10]++(Ts.take (j+1)).flatten)):=fun v' w' h=>by rw[hfs];simpa only[List.append_assoc] using h
   have hbT:(zs++[32,123,10]++(Ts.take j).flatten).length+Ts[j].length≤999999:=by rw[hrl];rw[hfs,List.length_append]at hfl;omega
   obtain⟨c0,c1,c2,c3,c4,c5,c6,c7⟩:=hcl wr hbr.2;have hgr:g<wr.heap.size:=Nat.lt_of_lt_of_le hgW hbr.2.size;clear hcl hfs hfl hrl HSt hl5
   generalize zs++[32,123,10]++(Ts.take j).flatten=zj at *
   generalize Ts[j]=T at *
   obtain rfl|rfl|rfl|rfl|rfl|rfl|rfl|rfl:k=0∨k=1∨k=2∨k=3∨k=4∨k=5∨k=6∨k=7:=by have:=hT.k0;have:=hT.k7;omega
   ·as_aux_lemma =>
     obtain⟨nm,hrn,hn1,hty,rfl⟩:=hT.at0 rfl;obtain⟨g0,off0,q,e0,hg0,hcells⟩:=zbm hrn hn1
     cases e0
     obtain⟨w1,hw1⟩:∃ w1,Hid (w1=wr.alloc (.cells #[.int .i64 0,.int .i64 n,.int .i64 tk,.int .i64 tn,.slice (some ⟨g0,off0,none⟩) nm.length r0,.slice x1 m1 r1,.slice x2 m2 r2,.slice x3 m3 r3] 92)):=⟨_,rfl⟩
     have hbx:BxT wr.heap.size w1 [.int .i64 0,.int .i64 n,.int .i64 tk,.int .i64 tn,.slice (some ⟨g0,off0,none⟩) nm.length r0,.slice x1 m1 r1,.slice x2 m2 r2,.slice x3 m3 r3] 92:=by rw[hw1.out];exact BxT.new wr _ _
     have hA1:Bf w1 W w1 (.slice ar Mr pr) zj:=by rw[hw1.out];exact (hbr.alloc _).from
     have hK8:K8 A w1:=by rw[hw1.out];exact (hbr.alloc _).3
     have HN1:Hid (∀ v' w',Bf w1 W w' v' (zj++([118,97,114,32]++nm++sayTy l tk tn++[32,59,10]))→Bf A W w' v' (zs++[32,123,10]++(Ts.take (j+1)).flatten)):=fun v' w' h=>HN.out _ _ (h.back hK8);have HT1:=HT.out tk tn hty;have HTy:Hid _:=HT1;have HQ4:Hid (∀ w',K8 w1 w'→w'.cell? ⟨wr.heap.size,4,none⟩=some (.slice (some ⟨g0,off0,none⟩) nm.length r0)):=hbx.at (by decide) 4 _ rfl;have HQ2:Hid (∀ w',K8 w1 w'→w'.cell? ⟨wr.heap.size,2,none⟩=some (.int .i64 tk)):=hbx.at (by decide) 2 _ rfl;have HQ3:Hid (∀ w',K8 w1 w'→w'.cell? ⟨wr.heap.size,3,none⟩=some (.int .i64 tn)):=hbx.at (by decide) 3 _ rfl;have HC:Hid _:=hcells
     obtain⟨X,hX⟩:∃ X,Hid (X=nm.map (Value.int .u8)):=⟨_,rfl⟩
     have hXl:X.length=nm.length:=by rw[hX.out];simp
     have hX1:∀ u∈X,u.oneCell'=true:=by rw[hX.out];exact zbe nm
     rw[←hX.out]at HC;clear HT1 HT hT HN hcells hrn hty
     generalize sayTy l tk tn=ty at *
     simp only[List.length_append,List.length_cons,List.length_nil]at hbT;have hB0:=hA1.later (Later.drew _);have q4:=HQ4.out w1.drew hB0.3;have q2:=HQ2.out w1.drew hB0.3;have q3:=HQ3.out w1.drew hB0.3;clear hbx;go_wp2_with fail
     rw[←hw1.out]
     go_region_law (first
      | ((have _g:=hb5');(refine zaa rfl 36 en_ty _ _ rfl [.slice a5' M5' p5',.agg #[.int .i64 tk,.int .i64 tn],sv] rfl (fun v w'=>Bf w1 W w' v ((zj++[118,97,114,32])++nm++ty)) (HTy.out _ _ _ _ hb5' (by rw[hl5'];omega)) ?_;intro v4 w4 hb4;obtain⟨a4,M4,p4,rfl,hM4⟩:=hb4.shape2))
      | ((have _g:=hb3);(refine zab rfl _ _ 22 rfl W.heap.size 5 i0 (.int .u8 0) 1 1 Tryz.underlying22 hi hz0 hz1 hz2 rfl (by decide) (.slice a3 M3 p3) _ _ rfl hb3.1 ⟨g0,off0,none⟩ nm.length r0 X rfl (by rw[hXl,Nat.mul_one]) (HC.out _ hb3.2) hX1 (by rw[hl3];unfold maxLen;omega) (by rw[hl3];omega) hb3.2.size ?_;intro v5' w5' o5' g5';have hb5':=hb3.put o5' rfl hX.out g5';have hl5':((zj++[118,97,114,32])++nm).length=zj.length+4+nm.length:=(by simp;omega);have s2:=HQ2.out _ hb5'.3;have s3:=HQ3.out _ hb5'.3;obtain⟨a5',M5',p5',rfl,hM5'⟩:=hb5'.shape2))
      | (refine zad rfl _ _ 22 9 rfl W.heap.size 5 i0 Tryz.underlying22 Tryz.underlying9 hi hz0 hz1 hz2 (.slice ar Mr pr) _ _ rfl hB0.1 _ rfl (by show _+4≤maxLen;unfold maxLen;omega) (by show _+4≤_;omega) hB0.2.size ?_;intro v3 w3 o3 g3;have hb3:Bf w1 W w3 v3 (zj++[118,97,114,32]):=hB0.put o3 rfl rfl g3;have hl3:(zj++[118,97,114,32]).length=zj.length+4:=(by simp);have u4:=HQ4.out _ hb3.3;have u2:=HQ2.out _ hb3.3;have u3:=HQ3.out _ hb3.3;obtain⟨a3,M3,p3,rfl,hM3⟩:=hb3.shape2)
      | fail "none")
     all_goals
      have hl4:((zj++[118,97,114,32])++nm++ty).length=zj.length+4+nm.length+ty.length:=by simp;omega
      go_wp2_with (at_builtin;refine Go.Lib.wpList_append_own_string _ rfl _ _ 22 9 rfl W.heap.size 5 i0 Tryz.underlying22 Tryz.underlying9 hi hz0 hz1 hz2 (.slice a4 M4 p4) _ _ rfl hb4.1 _ rfl (by rw[hl4];show _+3≤maxLen;unfold maxLen;omega) (by rw[hl4];show _+3≤_;omega) hb4.2.size ?_;intro v7 w7 o7 g7 _;have hb7:=hb4.put o7 (ts:=[32,59,10]) rfl rfl g7)
      have hb7':Bf w1 W w7 v7 (zj++([118,97,114,32]++nm++ty++[32,59,10])):=by simpa only[List.append_assoc] using hb7
      go_wp2_with fail
      go_roundw
      case rel=>exact⟨j+1,by go_num,by omega,HN1.out _ _ hb7'⟩
      case measure=>simp[intOf];omega
   ·as_aux_lemma =>
     obtain⟨mk,t0,t1,hk0,hk1,ht0,rfl⟩:=hT.at1 rfl
     obtain⟨c,ts0,rfl⟩:∃ c ts0,t0=c::ts0:=by
      cases t0 with
      | nil=>simp at ht0
      | cons c r=>exact⟨c,r,rfl⟩
     obtain⟨hmk,gk,ok,ck,k0,n0,tk0,tn0,z0,z1,ek,hgk,hclk,hcall⟩:=hk0
     cases ek
     have HC0:Hid (∀ w',Later W w'→w'.cell? ⟨gk,ok,none⟩=some (.int .i64 k0)∧w'.cell? ⟨gk,ok+1,none⟩=some (.int .i64 n0)∧w'.cell? ⟨gk,ok+2,none⟩=some (.int .i64 tk0)∧w'.cell? ⟨gk,ok+3,none⟩=some (.int .i64 tn0)∧w'.cell? ⟨gk,ok+4,none⟩=some z0∧w'.cell? ⟨gk,ok+5,none⟩=some z1):=fun w' hw=>by have:=hclk w' hw;rwa [Nat.zero_mul,Nat.add_zero]at this
     have HK0:Hid _:=hcall;have hmk':(0:Int)<(m1:Int):=by omega
     obtain⟨hmk1,gk',ok',ck',k1,n1,tk1,tn1,z2,z3,ek',_,hclk1,hcall1⟩:=hk1
     cases ek'
     have HC1:Hid (∀ w',Later W w'→w'.cell? ⟨gk,ok+6,none⟩=some (.int .i64 k1)∧w'.cell? ⟨gk,ok+6+1,none⟩=some (.int .i64 n1)∧w'.cell? ⟨gk,ok+6+2,none⟩=some (.int .i64 tk1)∧w'.cell? ⟨gk,ok+6+3,none⟩=some (.int .i64 tn1)∧w'.cell? ⟨gk,ok+6+4,none⟩=some z2∧w'.cell? ⟨gk,ok+6+5,none⟩=some z3):=fun w' hw=>by have:=hclk1 w' hw;rwa [Nat.one_mul]at this
     have HK1:Hid _:=hcall1;have hmk1':(1:Int)<(m1:Int):=by omega
     obtain⟨d0,d1,d2,d3,d4,d5⟩:=HC0.out wr hbr.2;have hgkr:gk<wr.heap.size:=Nat.lt_of_lt_of_le hgk hbr.2.size
     obtain⟨w1,hw1⟩:∃ w1,Hid (w1=wr.alloc (.cells #[.int .i64 1,.int .i64 n,.int .i64 tk,.int .i64 tn,.slice x0 m0 r0,.slice (some ⟨gk,ok,none⟩) m1 r1,.slice x2 m2 r2,.slice x3 m3 r3] 92)):=⟨_,rfl⟩
     have hbx:BxT wr.heap.size w1 [.int .i64 1,.int .i64 n,.int .i64 tk,.int .i64 tn,.slice x0 m0 r0,.slice (some ⟨gk,ok,none⟩) m1 r1,.slice x2 m2 r2,.slice x3 m3 r3] 92:=by rw[hw1.out];exact BxT.new wr _ _
     have hA1:Bf w1 W w1 (.slice ar Mr pr) zj:=by rw[hw1.out];exact (hbr.alloc _).from
     have hK8:K8 A w1:=by rw[hw1.out];exact (hbr.alloc _).3
     have HN1:Hid (∀ v' w',Bf w1 W w' v' (zj++((c::ts0).drop 1++[32,61]++t1++[32,59,10]))→Bf A W w' v' (zs++[32,123,10]++(Ts.take (j+1)).flatten)):=fun v' w' h=>HN.out _ _ (h.back hK8);have HQ:Hid (∀ w',K8 w1 w'→w'.cell? ⟨wr.heap.size,5,none⟩=some (.slice (some ⟨gk,ok,none⟩) m1 r1)):=hbx.at (by decide) 5 _ rfl;simp only[List.length_append,List.length_cons,List.length_nil ,List.drop_succ_cons,List.drop_zero]at hbT;have HKc:=HK0.out _ _ _ _ hA1 (by simp only[List.length_cons];omega);rw[hw1.out]at HKc;clear hbx hclk hcall hclk1 hcall1 hT HN HT HK0;have hMz:=hMr;go_wp2_with fail
     refine HKc.mono ?_;rintro e w4 ⟨v4,rfl,hb4⟩;rw[←hw1.out]at hb4;obtain⟨g4,q4,rfl,hg4,_,hc4⟩:=zat hb4.1 (by simp;omega)
     have hq4:(zj++c::ts0).length≤q4:=by
      rcases hb4.1.2 with ⟨e,_⟩|⟨g,cap,cur,e,_,_,hle,_⟩
      ·cases e
      ·cases e;exact hle
     have hcut:=@cut_row w1 W w4.drew g4 (zj++c::ts0).length q4 Mr zj ts0 c (hb4.later (Later.drew _)) (by simp;omega) hMz.out
     obtain⟨M4,hM4⟩:∃ M,(zj++c::ts0).length=M:=⟨_,rfl⟩
     rw[hM4]at hq4 ⊢;have hM4':M4=Mr+1+ts0.length:=by rw[←hM4,hMz.out];simp;omega
     have hHM:Hid _:=hMz
     have hsrc:∀ j u,(ts0.map (Value.int .u8))[j]?=some u→w4.drew.cell? ((⟨g4,Mr+1,none⟩:Addr).add j)=some u:=fun j u hj=>by
      have h1:=hc4 (Mr+1+j) u (by rw[hMz.out,List.map_append,List.getElem?_append_right (by simp;omega)];rw[List.length_map,show zj.length+1+j - zj.length=j+1 by omega];exact hj);rw[Addr.add_lit]at h1 ⊢;rw[(Later.drew w4).cell (p:=⟨g4,Mr+1+j,none⟩) (by assumption)];rw[Nat.zero_add]at h1;exact h1
     have hsp:∀ j,j<(ts0.map (Value.int .u8)).length→(w4.drew.cell? ⟨g4,0+Mr*1+j,none⟩).isSome=true∧w4.drew.frozen? ⟨g4,0+Mr*1+j,none⟩=false:=fun j hj=>by
      rw[List.length_map]at hj;have hB:=(hb4.later (Later.drew _)).1;refine⟨?_,hB.frozenAt _⟩;rw[hB.cellAt _ (by rw[hM4];omega),List.getElem?_eq_getElem (by rw[List.length_map,hM4];omega)];rfl
     clear hc4 hM4;subst hM4';rw[List.length_cons]at ht0;have hMq:Mr≤q4:=by omega
     have hMq1:Mr+1≤q4:=by omega
     have hMq2:¬ q4=Mr+1:=by omega
     have hMb:Mr≤1000000:=by rw[hMz.out];omega
     have hwm:IntKind.i64.wrap ((Mr:Int)+1)=(Mr:Int)+1:=by rw[IntKind.wrap_i64];omega
     have hMi1:(0:Int)≤(Mr:Int)+1:=by omega
     have hroom:Mr+ts0.length≤q4:=by omega
     have hMi2:(Mr:Int)+1≤(Mr:Int)+1+(ts0.length:Int):=by omega
     go_wp2_with fail
     go_region_law (first|(refine step_append_room rfl (.tmp 56) (.tmp 60) 22 rfl 5 i0 1 Tryz.underlying22 hi hz1 g4 0 Mr q4 ?q1 ⟨g4,Mr+1,none⟩ ts0.length (q4 - (Mr+1)) (ts0.map (Value.int .u8)) ?q2 (by rw[List.length_map,Nat.mul_one]) hsrc (zbe ts0) hroom hsp ?_;(case q1=>go_simp);(case q2=>go_simp);have hb5':=hcut;clear hcut hsrc hsp;generalize w4.drew.setCells g4 (0+Mr*1) (ts0.map (Value.int .u8))=w5' at hb5' ⊢;generalize hM5':Mr+ts0.length=M5' at hb5' ⊢)|fail "none")
     have hl5':(zj++ts0).length=zj.length+ts0.length:=by simp
     have hB5:=hb5'.later (Later.drew _);have s5:=HQ.out w5'.drew hB5.3;obtain⟨f0,f1,f2,f3,f4,f5⟩:=HC1.out w5'.drew hB5.2;clear hM5' hMi2 hMi1 hwm hMq hMq1 hMq2 hroom;go_wp2_with fail
     go_region_law (first
      | ((have _g:=hb6);(refine zaa rfl 55 en_say _ _ rfl [.slice a6 M6 p6,.agg #[.int .i64 k1,.int .i64 n1,.int .i64 tk1,.int .i64 tn1,z2,z3],sv] rfl (fun v w'=>Bf w1 W w' v ((zj++ts0++[32,61])++t1)) (HK1.out _ _ _ _ hb6 (by rw[hl6];omega)) ?_;intro v8 w8 hb8;obtain⟨a8,M8,p8,rfl,hM8⟩:=hb8.shape2))
      | (refine zad rfl _ _ 22 9 rfl W.heap.size 5 i0 Tryz.underlying22 Tryz.underlying9 hi hz0 hz1 hz2 (.slice (some ⟨g4,0,none⟩) M5' q4) _ _ rfl hB5.1 _ rfl (by rw[hl5'];show _+2≤maxLen;unfold maxLen;omega) (by rw[hl5'];show _+2≤_;omega) hB5.2.size ?_;intro v6 w6 o6 g6;have hb6:Bf w1 W w6 v6 (zj++ts0++[32,61]):=hB5.put o6 rfl rfl g6;have hl6:(zj++ts0++[32,61]).length=zj.length+ts0.length+2:=(by rw[List.length_append,hl5'];rfl);have q6:=HQ.out _ hb6.3;obtain⟨x10,x11,x12,x13,x14,x15⟩:=HC1.out _ hb6.2;obtain⟨a6,M6,p6,rfl,hM6⟩:=hb6.shape2)
      | fail "none")
     all_goals
      have hl8:((zj++ts0++[32,61])++t1).length=zj.length+ts0.length+2+t1.length:=by rw[List.length_append,hl6]
      go_wp2_with (at_builtin;refine Go.Lib.wpList_append_own_string _ rfl _ _ 22 9 rfl W.heap.size 5 i0 Tryz.underlying22 Tryz.underlying9 hi hz0 hz1 hz2 (.slice a8 M8 p8) _ _ rfl hb8.1 _ rfl (by rw[hl8];show _+3≤maxLen;unfold maxLen;omega) (by rw[hl8];show _+3≤_;omega) hb8.2.size ?_;intro v7 w7 o7 g7 _;have hb7:=hb8.put o7 (ts:=[32,59,10]) rfl rfl g7)
      have hb7':Bf w1 W w7 v7 (zj++((c::ts0).drop 1++[32,61]++t1++[32,59,10])):=by simpa only[List.append_assoc,List.drop_succ_cons,List.drop_zero] using hb7
      go_wp2_with fail
      go_roundw
      case rel=>exact⟨j+1,by go_num,by omega,HN1.out _ _ hb7'⟩
      case measure=>simp[intOf];omega
   ·as_aux_lemma =>
     obtain⟨t0,b,e,hk0,hbb,hbe,rfl⟩:=hT.at2 rfl;obtain⟨mk,hmk,gk,ok,ck,k0,n0,tk0,tn0,z0,z1,ek,hgk,hclk,hcall⟩:=hk0
     cases ek
     have HC0:Hid (∀ w',Later W w'→w'.cell? ⟨gk,ok,none⟩=some (.int .i64 k0)∧w'.cell? ⟨gk,ok+1,none⟩=some (.int .i64 n0)∧w'.cell? ⟨gk,ok+2,none⟩=some (.int .i64 tk0)∧w'.cell? ⟨gk,ok+3,none⟩=some (.int .i64 tn0)∧w'.cell? ⟨gk,ok+4,none⟩=some z0∧w'.cell? ⟨gk,ok+5,none⟩=some z1):=fun w' hw=>by have:=hclk w' hw;rwa [Nat.zero_mul,Nat.add_zero]at this
     have HK0:Hid _:=hcall;have hmk':(0:Int)<(m1:Int):=by omega
     obtain⟨w1,hw1⟩:∃ w1,Hid (w1=wr.alloc (.cells #[.int .i64 2,.int .i64 n,.int .i64 tk,.int .i64 tn,.slice x0 m0 r0,.slice (some ⟨gk,ok,none⟩) m1 r1,.slice x2 m2 r2,.slice x3 m3 r3] 92)):=⟨_,rfl⟩
     have hbx:BxT wr.heap.size w1 [.int .i64 2,.int .i64 n,.int .i64 tk,.int .i64 tn,.slice x0 m0 r0,.slice (some ⟨gk,ok,none⟩) m1 r1,.slice x2 m2 r2,.slice x3 m3 r3] 92:=by rw[hw1.out];exact BxT.new wr _ _
     have hA1:Bf w1 W w1 (.slice ar Mr pr) zj:=by rw[hw1.out];exact (hbr.alloc _).from
     have hK8:K8 A w1:=by rw[hw1.out];exact (hbr.alloc _).3
     have HN1:Hid (∀ v' w',Bf w1 W w' v' (zj++([105,102]++t0++blockL b++[32,101,108,115,101]++blockL e++[10]))→Bf A W w' v' (zs++[32,123,10]++(Ts.take (j+1)).flatten)):=fun v' w' h=>HN.out _ _ (h.back hK8);have HQ:Hid (∀ w',K8 w1 w'→w'.cell? ⟨wr.heap.size,5,none⟩=some (.slice (some ⟨gk,ok,none⟩) m1 r1)):=hbx.at (by decide) 5 _ rfl;have hB0:=hA1.later (Later.drew _);have q0:=HQ.out w1.drew hB0.3;obtain⟨b0,b1,b2,b3,b4,b5⟩:=HC0.out w1.drew hB0.2;have HBb:Hid _:=hbb;have HQ6:Hid (∀ w',K8 w1 w'→w'.cell? ⟨wr.heap.size,6,none⟩=some (.slice x2 m2 r2)):=hbx.at (by decide) 6 _ rfl
     have HS:Hid (∀ w',K8 w1 w'→Later W w'→(fun w'=>w'.cell? ⟨wr.heap.size,5,none⟩=some (.slice (some ⟨gk,ok,none⟩) m1 r1)∧w'.cell? ⟨wr.heap.size,6,none⟩=some (.slice x2 m2 r2)∧w'.cell? ⟨gk,ok,none⟩=some (.int .i64 k0)∧w'.cell? ⟨gk,ok+1,none⟩=some (.int .i64 n0)∧w'.cell? ⟨gk,ok+2,none⟩=some (.int .i64 tk0)∧w'.cell? ⟨gk,ok+3,none⟩=some (.int .i64 tn0)∧w'.cell? ⟨gk,ok+4,none⟩=some z0∧w'.cell? ⟨gk,ok+5,none⟩=some z1) w'):=fun w' k8 la=>⟨HQ.out _ k8,HQ6.out _ k8,HC0.out _ la⟩
     have HBe:Hid _:=hbe;have HQ7:Hid (∀ w',K8 w1 w'→w'.cell? ⟨wr.heap.size,7,none⟩=some (.slice x3 m3 r3)):=hbx.at (by decide) 7 _ rfl;clear hbe
     generalize blockL e=te at *
     simp only[List.length_append,List.length_cons,List.length_nil]at hbT;clear hbx hclk hcall hT HN HT hbb
     generalize blockL b=tb at *
     go_wp2_with fail
     rw[←hw1.out]
     go_region_held3 (fun w'=>w'.cell? ⟨wr.heap.size,5,none⟩=some (.slice (some ⟨gk,ok,none⟩) m1 r1)∧w'.cell? ⟨wr.heap.size,6,none⟩=some (.slice x2 m2 r2)∧w'.cell? ⟨gk,ok,none⟩=some (.int .i64 k0)∧w'.cell? ⟨gk,ok+1,none⟩=some (.int .i64 n0)∧w'.cell? ⟨gk,ok+2,none⟩=some (.int .i64 tk0)∧w'.cell? ⟨gk,ok+3,none⟩=some (.int .i64 tn0)∧w'.cell? ⟨gk,ok+4,none⟩=some z0∧w'.cell? ⟨gk,ok+5,none⟩=some z1)
      (first|exact HS.out _ hb6.3 hb6.2|exact HS.out _ hb4.3 hb4.2|exact HS.out _ hb3.3 hb3.2|exact HS.out _ hB0.3 hB0.2)
      (first
      | ((have _g:=hb4);(refine zaa rfl 37 en_block _ _ rfl [.slice a4 M4 p4,.slice x2 m2 r2,sv] rfl (fun v w'=>Bf w1 W w' v ((zj++[105,102])++t0++tb)) (HBb.out _ _ _ _ hb4 (by rw[hl4];omega)) ?_;intro v6 w6 hb6;obtain⟨a6,M6,p6,rfl,hM6⟩:=hb6.shape2))
      | ((have _g:=hb3);(refine zaa rfl 55 en_say _ _ rfl [.slice a3 M3 p3,.agg #[.int .i64 k0,.int .i64 n0,.int .i64 tk0,.int .i64 tn0,z0,z1],sv] rfl (fun v w'=>Bf w1 W w' v ((zj++[105,102])++t0)) (HK0.out _ _ _ _ hb3 (by rw[hl3];omega)) ?_;intro v4 w4 hb4;obtain⟨a4,M4,p4,rfl,hM4⟩:=hb4.shape2;have hl4:((zj++[105,102])++t0).length=zj.length+2+t0.length:=(by simp;omega)))
      | (refine zad rfl _ _ 22 9 rfl W.heap.size 5 i0 Tryz.underlying22 Tryz.underlying9 hi hz0 hz1 hz2 (.slice ar Mr pr) _ _ rfl hB0.1 _ rfl (by show _+2≤maxLen;unfold maxLen;omega) (by show _+2≤_;omega) hB0.2.size ?_;intro v3 w3 o3 g3;have hb3:Bf w1 W w3 v3 (zj++[105,102]):=hB0.put o3 rfl rfl g3;have hl3:(zj++[105,102]).length=zj.length+2:=(by simp);obtain⟨a3,M3,p3,rfl,hM3⟩:=hb3.shape2)
      | fail "none")
     all_goals
      have hl6:((zj++[105,102])++t0++tb).length=zj.length+2+t0.length+tb.length:=by simp;omega
      have hB6:=hb6.later (Later.drew _);have s7:=HQ7.out w6.drew hB6.3;go_wp2_with fail
      go_region_law (first
       | ((have _g:=hb8);(refine zaa rfl 37 en_block _ _ rfl [.slice a8 M8 p8,.slice x3 m3 r3,sv] rfl (fun v w'=>Bf w1 W w' v (((zj++[105,102])++t0++tb++[32,101,108,115,101])++te)) (HBe.out _ _ _ _ hb8 (by rw[hl8];omega)) ?_;intro v9 w9 hb9;obtain⟨a9,M9,p9,rfl,hM9⟩:=hb9.shape2))
       | (refine zad rfl _ _ 22 9 rfl W.heap.size 5 i0 Tryz.underlying22 Tryz.underlying9 hi hz0 hz1 hz2 (.slice a6 M6 p6) _ _ rfl hB6.1 _ rfl (by rw[hl6];show _+5≤maxLen;unfold maxLen;omega) (by rw[hl6];show _+5≤_;omega) hB6.2.size ?_;intro v8 w8 o8 g8;have hb8:Bf w1 W w8 v8 ((zj++[105,102])++t0++tb++[32,101,108,115,101]):=hB6.put o8 rfl rfl g8;have hl8:((zj++[105,102])++t0++tb++[32,101,108,115,101]).length=zj.length+2+t0.length+tb.length+5:=(by rw[List.length_append,hl6];rfl);have s8:=HQ7.out _ hb8.3;obtain⟨a8,M8,p8,rfl,hM8⟩:=hb8.shape2)
       | fail "none")
      all_goals
       have hl9:(((zj++[105,102])++t0++tb++[32,101,108,115,101])++te).length=zj.length+2+t0.length+tb.length+5+te.length:=by rw[List.length_append,hl8]
       go_wp2_with (at_builtin;refine wpList_append_own _ rfl _ _ 22 rfl W.heap.size 5 i0 (.int .u8 0) 1 1 Tryz.underlying22 hi hz0 hz1 hz2 rfl (by decide) (.slice a9 M9 p9) _ _ rfl (hb9.alloc _).1 ⟨w9.heap.size,0,none⟩ 1 1 [.int .u8 10] rfl rfl (zaq _ _) (by simp[Value.oneCell']) (by rw[hl9];unfold maxLen;omega) (by rw[hl9];omega) (hb9.alloc _).2.size ?_;intro v7 w7 o7 g7 _)
       have hb7:=(hb9.alloc _).put o7 (ts:=[10]) rfl rfl g7;have hb7':Bf w1 W w7 v7 (zj++([105,102]++t0++tb++[32,101,108,115,101]++te++[10])):=by simpa only[List.append_assoc] using hb7
       go_wp2_with fail
       go_roundw
       case rel=>exact⟨j+1,by go_num,by omega,HN1.out _ _ hb7'⟩
       case measure=>simp[intOf];omega
   ·as_aux_lemma =>
     obtain⟨t0,b,hk0,hbb,rfl⟩:=hT.at3 rfl;obtain⟨mk,hmk,gk,ok,ck,k0,n0,tk0,tn0,z0,z1,ek,hgk,hclk,hcall⟩:=hk0
     cases ek
     have HC0:Hid (∀ w',Later W w'→w'.cell? ⟨gk,ok,none⟩=some (.int .i64 k0)∧w'.cell? ⟨gk,ok+1,none⟩=some (.int .i64 n0)∧w'.cell? ⟨gk,ok+2,none⟩=some (.int .i64 tk0)∧w'.cell? ⟨gk,ok+3,none⟩=some (.int .i64 tn0)∧w'.cell? ⟨gk,ok+4,none⟩=some z0∧w'.cell? ⟨gk,ok+5,none⟩=some z1):=fun w' hw=>by have:=hclk w' hw;rwa [Nat.zero_mul,Nat.add_zero]at this
     have HK0:Hid _:=hcall;have hmk':(0:Int)<(m1:Int):=by omega
     obtain⟨w1,hw1⟩:∃ w1,Hid (w1=wr.alloc (.cells #[.int .i64 3,.int .i64 n,.int .i64 tk,.int .i64 tn,.slice x0 m0 r0,.slice (some ⟨gk,ok,none⟩) m1 r1,.slice x2 m2 r2,.slice x3 m3 r3] 92)):=⟨_,rfl⟩
     have hbx:BxT wr.heap.size w1 [.int .i64 3,.int .i64 n,.int .i64 tk,.int .i64 tn,.slice x0 m0 r0,.slice (some ⟨gk,ok,none⟩) m1 r1,.slice x2 m2 r2,.slice x3 m3 r3] 92:=by rw[hw1.out];exact BxT.new wr _ _
     have hA1:Bf w1 W w1 (.slice ar Mr pr) zj:=by rw[hw1.out];exact (hbr.alloc _).from
     have hK8:K8 A w1:=by rw[hw1.out];exact (hbr.alloc _).3
     have HN1:Hid (∀ v' w',Bf w1 W w' v' (zj++([102,111,114]++t0++blockL b++[10]))→Bf A W w' v' (zs++[32,123,10]++(Ts.take (j+1)).flatten)):=fun v' w' h=>HN.out _ _ (h.back hK8);have HQ:Hid (∀ w',K8 w1 w'→w'.cell? ⟨wr.heap.size,5,none⟩=some (.slice (some ⟨gk,ok,none⟩) m1 r1)):=hbx.at (by decide) 5 _ rfl;have hB0:=hA1.later (Later.drew _);have q0:=HQ.out w1.drew hB0.3;obtain⟨b0,b1,b2,b3,b4,b5⟩:=HC0.out w1.drew hB0.2;have HBb:Hid _:=hbb;have HQ6:Hid (∀ w',K8 w1 w'→w'.cell? ⟨wr.heap.size,6,none⟩=some (.slice x2 m2 r2)):=hbx.at (by decide) 6 _ rfl
     have HS:Hid (∀ w',K8 w1 w'→Later W w'→(fun w'=>w'.cell? ⟨wr.heap.size,5,none⟩=some (.slice (some ⟨gk,ok,none⟩) m1 r1)∧w'.cell? ⟨wr.heap.size,6,none⟩=some (.slice x2 m2 r2)∧w'.cell? ⟨gk,ok,none⟩=some (.int .i64 k0)∧w'.cell? ⟨gk,ok+1,none⟩=some (.int .i64 n0)∧w'.cell? ⟨gk,ok+2,none⟩=some (.int .i64 tk0)∧w'.cell? ⟨gk,ok+3,none⟩=some (.int .i64 tn0)∧w'.cell? ⟨gk,ok+4,none⟩=some z0∧w'.cell? ⟨gk,ok+5,none⟩=some z1) w'):=fun w' k8 la=>⟨HQ.out _ k8,HQ6.out _ k8,HC0.out _ la⟩
     simp only[List.length_append,List.length_cons,List.length_nil]at hbT;clear hbx hclk hcall hT HN HT hbb
     generalize blockL b=tb at *
     go_wp2_with fail
     rw[←hw1.out]
     go_region_held3 (fun w'=>w'.cell? ⟨wr.heap.size,5,none⟩=some (.slice (some ⟨gk,ok,none⟩) m1 r1)∧w'.cell? ⟨wr.heap.size,6,none⟩=some (.slice x2 m2 r2)∧w'.cell? ⟨gk,ok,none⟩=some (.int .i64 k0)∧w'.cell? ⟨gk,ok+1,none⟩=some (.int .i64 n0)∧w'.cell? ⟨gk,ok+2,none⟩=some (.int .i64 tk0)∧w'.cell? ⟨gk,ok+3,none⟩=some (.int .i64 tn0)∧w'.cell? ⟨gk,ok+4,none⟩=some z0∧w'.cell? ⟨gk,ok+5,none⟩=some z1)
      (first|exact HS.out _ hb6.3 hb6.2|exact HS.out _ hb4.3 hb4.2|exact HS.out _ hb3.3 hb3.2|exact HS.out _ hB0.3 hB0.2)
      (first
      | ((have _g:=hb4);(refine zaa rfl 37 en_block _ _ rfl [.slice a4 M4 p4,.slice x2 m2 r2,sv] rfl (fun v w'=>Bf w1 W w' v ((zj++[102,111,114])++t0++tb)) (HBb.out _ _ _ _ hb4 (by rw[hl4];omega)) ?_;intro v6 w6 hb6;obtain⟨a6,M6,p6,rfl,hM6⟩:=hb6.shape2))
      | ((have _g:=hb3);(refine zaa rfl 55 en_say _ _ rfl [.slice a3 M3 p3,.agg #[.int .i64 k0,.int .i64 n0,.int .i64 tk0,.int .i64 tn0,z0,z1],sv] rfl (fun v w'=>Bf w1 W w' v ((zj++[102,111,114])++t0)) (HK0.out _ _ _ _ hb3 (by rw[hl3];omega)) ?_;intro v4 w4 hb4;obtain⟨a4,M4,p4,rfl,hM4⟩:=hb4.shape2;have hl4:((zj++[102,111,114])++t0).length=zj.length+3+t0.length:=(by simp;omega)))
      | (refine zad rfl _ _ 22 9 rfl W.heap.size 5 i0 Tryz.underlying22 Tryz.underlying9 hi hz0 hz1 hz2 (.slice ar Mr pr) _ _ rfl hB0.1 _ rfl (by show _+3≤maxLen;unfold maxLen;omega) (by show _+3≤_;omega) hB0.2.size ?_;intro v3 w3 o3 g3;have hb3:Bf w1 W w3 v3 (zj++[102,111,114]):=hB0.put o3 rfl rfl g3;have hl3:(zj++[102,111,114]).length=zj.length+3:=(by simp);obtain⟨a3,M3,p3,rfl,hM3⟩:=hb3.shape2)
      | fail "none")
     all_goals
      have hl6:((zj++[102,111,114])++t0++tb).length=zj.length+3+t0.length+tb.length:=by simp;omega
      go_wp2_with (at_builtin;refine wpList_append_own _ rfl _ _ 22 rfl W.heap.size 5 i0 (.int .u8 0) 1 1 Tryz.underlying22 hi hz0 hz1 hz2 rfl (by decide) (.slice a6 M6 p6) _ _ rfl (hb6.alloc _).1 ⟨w6.heap.size,0,none⟩ 1 1 [.int .u8 10] rfl rfl (zaq _ _) (by simp[Value.oneCell']) (by rw[hl6];unfold maxLen;omega) (by rw[hl6];omega) (hb6.alloc _).2.size ?_;intro v7 w7 o7 g7 _)
      have hb7:=(hb6.alloc _).put o7 (ts:=[10]) rfl rfl g7;have hb7':Bf w1 W w7 v7 (zj++([102,111,114]++t0++tb++[10])):=by simpa only[List.append_assoc] using hb7
      go_wp2_with fail
      go_roundw
      case rel=>exact⟨j+1,by go_num,by omega,HN1.out _ _ hb7'⟩
      case measure=>simp[intOf];omega
   ·as_aux_lemma =>
     rcases hT.at4 rfl with ⟨t0,hk0,rfl⟩|⟨ax,cx,ex,rfl⟩
     ·obtain⟨mk,hmk,gk,ok,ck,k0,n0,tk0,tn0,z0,z1,ek,hgk,hclk,hcall⟩:=hk0
      cases ek
      have HC0:Hid (∀ w',Later W w'→w'.cell? ⟨gk,ok,none⟩=some (.int .i64 k0)∧w'.cell? ⟨gk,ok+1,none⟩=some (.int .i64 n0)∧w'.cell? ⟨gk,ok+2,none⟩=some (.int .i64 tk0)∧w'.cell? ⟨gk,ok+3,none⟩=some (.int .i64 tn0)∧w'.cell? ⟨gk,ok+4,none⟩=some z0∧w'.cell? ⟨gk,ok+5,none⟩=some z1):=fun w' hw=>by have:=hclk w' hw;rwa [Nat.zero_mul,Nat.add_zero]at this
      have HK0:Hid _:=hcall;have hmk':(0:Int)<(m1:Int):=by omega
      obtain⟨w1,hw1⟩:∃ w1,Hid (w1=wr.alloc (.cells #[.int .i64 4,.int .i64 n,.int .i64 tk,.int .i64 tn,.slice x0 m0 r0,.slice (some ⟨gk,ok,none⟩) m1 r1,.slice x2 m2 r2,.slice x3 m3 r3] 92)):=⟨_,rfl⟩
      have hbx:BxT wr.heap.size w1 [.int .i64 4,.int .i64 n,.int .i64 tk,.int .i64 tn,.slice x0 m0 r0,.slice (some ⟨gk,ok,none⟩) m1 r1,.slice x2 m2 r2,.slice x3 m3 r3] 92:=by rw[hw1.out];exact BxT.new wr _ _
      have hA1:Bf w1 W w1 (.slice ar Mr pr) zj:=by rw[hw1.out];exact (hbr.alloc _).from
      have hK8:K8 A w1:=by rw[hw1.out];exact (hbr.alloc _).3
      have HN1:Hid (∀ v' w',Bf w1 W w' v' (zj++([114,101,116,117,114,110]++t0++[32,59,10]))→Bf A W w' v' (zs++[32,123,10]++(Ts.take (j+1)).flatten)):=fun v' w' h=>HN.out _ _ (h.back hK8);have HQ:Hid (∀ w',K8 w1 w'→w'.cell? ⟨wr.heap.size,5,none⟩=some (.slice (some ⟨gk,ok,none⟩) m1 r1)):=hbx.at (by decide) 5 _ rfl;simp only[List.length_append,List.length_cons,List.length_nil]at hbT;have hlz:zj.length=zj.length:=rfl;have hw1':=hw1;rw[hw1.out]at hA1;clear hbx hclk hcall hT HN HT;go_wp2_with (at_builtin;refine Go.Lib.wpList_append_own_string _ rfl _ _ 22 9 rfl W.heap.size 5 i0 Tryz.underlying22 Tryz.underlying9 hi hz0 hz1 hz2 (.slice ar Mr pr) _ _ rfl hA1.1 _ rfl (by rw[hlz];show _+6≤maxLen;unfold maxLen;omega) (by rw[hlz];show _+6≤_;omega) hA1.2.size ?_;intro v3 w3 o3 g3 _;have hb3:=hA1.put o3 (ts:=[114,101,116,117,114,110]) rfl rfl g3;have hbH:Bf w1 W w3 v3 (zj++[114,101,116,117,114,110]):=(by rw[hw1'.out];exact hb3);have q3:=HQ.out _ hbH.3;obtain⟨d0,d1,d2,d3,d4,d5⟩:=HC0.out _ hbH.2;have hl3:(zj++[114,101,116,117,114,110]).length=zj.length+6:=(by simp);obtain⟨a3,M3,p3,rfl,hM3⟩:=hbH.shape2)
      refine (HK0.out _ _ _ _ hbH (by rw[hl3];omega)).mono ?_;rintro e w4 ⟨v4,rfl,hb4⟩;have hl4:((zj++[114,101,116,117,114,110])++t0).length=zj.length+6+t0.length:=by simp;omega
      obtain⟨a4,M4,p4,rfl,hM4⟩:=hb4.shape2;go_wp2_with (at_builtin;refine Go.Lib.wpList_append_own_string _ rfl _ _ 22 9 rfl W.heap.size 5 i0 Tryz.underlying22 Tryz.underlying9 hi hz0 hz1 hz2 (.slice a4 M4 p4) _ _ rfl hb4.1 _ rfl (by rw[hl4];show _+3≤maxLen;unfold maxLen;omega) (by rw[hl4];show _+3≤_;omega) hb4.2.size ?_;intro v7 w7 o7 g7 _;have hb7:=hb4.put o7 (ts:=[32,59,10]) rfl rfl g7)
      have hb7':Bf w1 W w7 v7 (zj++([114,101,116,117,114,110]++t0++[32,59,10])):=by simpa only[List.append_assoc] using hb7
      go_wp2_with fail
      go_roundw
      case rel=>exact⟨j+1,by go_num,by omega,HN1.out _ _ hb7'⟩
      case measure=>simp[intOf];omega
     ·cases ex
      obtain⟨w1,hw1⟩:∃ w1,Hid (w1=wr.alloc (.cells #[.int .i64 4,.int .i64 n,.int .i64 tk,.int .i64 tn,.slice x0 m0 r0,.slice x1 0 r1,.slice x2 m2 r2,.slice x3 m3 r3] 92)):=⟨_,rfl⟩
      have hbx:BxT wr.heap.size w1 [.int .i64 4,.int .i64 n,.int .i64 tk,.int .i64 tn,.slice x0 m0 r0,.slice x1 0 r1,.slice x2 m2 r2,.slice x3 m3 r3] 92:=by rw[hw1.out];exact BxT.new wr _ _
      have hA1:Bf w1 W w1 (.slice ar Mr pr) zj:=by rw[hw1.out];exact (hbr.alloc _).from
      have hK8:K8 A w1:=by rw[hw1.out];exact (hbr.alloc _).3
      have HN1:Hid (∀ v' w',Bf w1 W w' v' (zj++([114,101,116,117,114,110]++[32,59,10]))→Bf A W w' v' (zs++[32,123,10]++(Ts.take (j+1)).flatten)):=fun v' w' h=>HN.out _ _ (h.back hK8);have HQ:Hid (∀ w',K8 w1 w'→w'.cell? ⟨wr.heap.size,5,none⟩=some (.slice x1 0 r1)):=hbx.at (by decide) 5 _ rfl;simp only[List.length_append,List.length_cons,List.length_nil]at hbT;have hlz:zj.length=zj.length:=rfl;have hw1':=hw1;rw[hw1.out]at hA1;clear hbx hT HN HT;go_wp2_with (first|((have _g:=hbH);(at_builtin;refine Go.Lib.wpList_append_own_string _ rfl _ _ 22 9 rfl W.heap.size 5 i0 Tryz.underlying22 Tryz.underlying9 hi hz0 hz1 hz2 (.slice a3 M3 p3) _ _ rfl hbH.1 _ rfl (by rw[hl3];show _+3≤maxLen;unfold maxLen;omega) (by rw[hl3];show _+3≤_;omega) hbH.2.size ?_;intro v7 w7 o7 g7 _;have hb7:=hbH.put o7 (ts:=[32,59,10]) rfl rfl g7))|(at_builtin;refine Go.Lib.wpList_append_own_string _ rfl _ _ 22 9 rfl W.heap.size 5 i0 Tryz.underlying22 Tryz.underlying9 hi hz0 hz1 hz2 (.slice ar Mr pr) _ _ rfl hA1.1 _ rfl (by rw[hlz];show _+6≤maxLen;unfold maxLen;omega) (by rw[hlz];show _+6≤_;omega) hA1.2.size ?_;intro v3 w3 o3 g3 _;have hb3:=hA1.put o3 (ts:=[114,101,116,117,114,110]) rfl rfl g3;have hbH:Bf w1 W w3 v3 (zj++[114,101,116,117,114,110]):=(by rw[hw1'.out];exact hb3);have q3:=HQ.out _ hbH.3;have hl3:(zj++[114,101,116,117,114,110]).length=zj.length+6:=(by simp);obtain⟨a3,M3,p3,rfl,hM3⟩:=hbH.shape2))
      have hb7':Bf w1 W w7 v7 (zj++([114,101,116,117,114,110]++[32,59,10])):=by simpa only[List.append_assoc] using hb7
      go_wp2_with fail
      go_roundw
      case rel=>exact⟨j+1,by go_num,by omega,HN1.out _ _ hb7'⟩
      case measure=>simp[intOf];omega
   ·as_aux_lemma =>
     obtain⟨t0,hk0,rfl⟩:=hT.at5 rfl;obtain⟨mk,hmk,gk,ok,ck,k0,n0,tk0,tn0,z0,z1,ek,hgk,hclk,hcall⟩:=hk0
     cases ek
     have HC0:Hid (∀ w',Later W w'→w'.cell? ⟨gk,ok,none⟩=some (.int .i64 k0)∧w'.cell? ⟨gk,ok+1,none⟩=some (.int .i64 n0)∧w'.cell? ⟨gk,ok+2,none⟩=some (.int .i64 tk0)∧w'.cell? ⟨gk,ok+3,none⟩=some (.int .i64 tn0)∧w'.cell? ⟨gk,ok+4,none⟩=some z0∧w'.cell? ⟨gk,ok+5,none⟩=some z1):=fun w' hw=>by have:=hclk w' hw;rwa [Nat.zero_mul,Nat.add_zero]at this
     have HK0:Hid _:=hcall;have hmk':(0:Int)<(m1:Int):=by omega
     obtain⟨w1,hw1⟩:∃ w1,Hid (w1=wr.alloc (.cells #[.int .i64 5,.int .i64 n,.int .i64 tk,.int .i64 tn,.slice x0 m0 r0,.slice (some ⟨gk,ok,none⟩) m1 r1,.slice x2 m2 r2,.slice x3 m3 r3] 92)):=⟨_,rfl⟩
     have hbx:BxT wr.heap.size w1 [.int .i64 5,.int .i64 n,.int .i64 tk,.int .i64 tn,.slice x0 m0 r0,.slice (some ⟨gk,ok,none⟩) m1 r1,.slice x2 m2 r2,.slice x3 m3 r3] 92:=by rw[hw1.out];exact BxT.new wr _ _
     have hA1:Bf w1 W w1 (.slice ar Mr pr) zj:=by rw[hw1.out];exact (hbr.alloc _).from
     have hK8:K8 A w1:=by rw[hw1.out];exact (hbr.alloc _).3
     have HN1:Hid (∀ v' w',Bf w1 W w' v' (zj++([112,114,105,110,116]++t0++[32,59,10]))→Bf A W w' v' (zs++[32,123,10]++(Ts.take (j+1)).flatten)):=fun v' w' h=>HN.out _ _ (h.back hK8);have HQ:Hid (∀ w',K8 w1 w'→w'.cell? ⟨wr.heap.size,5,none⟩=some (.slice (some ⟨gk,ok,none⟩) m1 r1)):=hbx.at (by decide) 5 _ rfl;have hB0:=hA1.later (Later.drew _);have q0:=HQ.out w1.drew hB0.3;obtain⟨b0,b1,b2,b3,b4,b5⟩:=HC0.out w1.drew hB0.2;simp only[List.length_append,List.length_cons,List.length_nil]at hbT;clear hbx hclk hcall hT HN HT;go_wp2_with fail
     rw[←hw1.out]
     go_region_law (first
      | ((have _g:=hb3);(refine zaa rfl 55 en_say _ _ rfl [.slice a3 M3 p3,.agg #[.int .i64 k0,.int .i64 n0,.int .i64 tk0,.int .i64 tn0,z0,z1],sv] rfl (fun v w'=>Bf w1 W w' v ((zj++[112,114,105,110,116])++t0)) (HK0.out _ _ _ _ hb3 (by rw[hl3];omega)) ?_;intro v4 w4 hb4;obtain⟨a4,M4,p4,rfl,hM4⟩:=hb4.shape2))
      | (refine zad rfl _ _ 22 9 rfl W.heap.size 5 i0 Tryz.underlying22 Tryz.underlying9 hi hz0 hz1 hz2 (.slice ar Mr pr) _ _ rfl hB0.1 _ rfl (by show _+5≤maxLen;unfold maxLen;omega) (by show _+5≤_;omega) hB0.2.size ?_;intro v3 w3 o3 g3;have hb3:Bf w1 W w3 v3 (zj++[112,114,105,110,116]):=hB0.put o3 rfl rfl g3;have hl3:(zj++[112,114,105,110,116]).length=zj.length+5:=(by simp);have q3:=HQ.out _ hb3.3;obtain⟨d0,d1,d2,d3,d4,d5⟩:=HC0.out _ hb3.2;obtain⟨a3,M3,p3,rfl,hM3⟩:=hb3.shape2)
      | fail "none")
     all_goals
      have hl4:((zj++[112,114,105,110,116])++t0).length=zj.length+5+t0.length:=by simp;omega
      go_wp2_with (at_builtin;refine Go.Lib.wpList_append_own_string _ rfl _ _ 22 9 rfl W.heap.size 5 i0 Tryz.underlying22 Tryz.underlying9 hi hz0 hz1 hz2 (.slice a4 M4 p4) _ _ rfl hb4.1 _ rfl (by rw[hl4];show _+3≤maxLen;unfold maxLen;omega) (by rw[hl4];show _+3≤_;omega) hb4.2.size ?_;intro v7 w7 o7 g7 _;have hb7:=hb4.put o7 (ts:=[32,59,10]) rfl rfl g7)
      have hb7':Bf w1 W w7 v7 (zj++([112,114,105,110,116]++t0++[32,59,10])):=by simpa only[List.append_assoc] using hb7
      go_wp2_with fail
      go_roundw
      case rel=>exact⟨j+1,by go_num,by omega,HN1.out _ _ hb7'⟩
      case measure=>simp[intOf];omega
   ·as_aux_lemma =>
     obtain⟨t0,hk0,rfl⟩:=hT.at6 rfl;obtain⟨mk,hmk,gk,ok,ck,k0,n0,tk0,tn0,z0,z1,ek,hgk,hclk,hcall⟩:=hk0
     cases ek
     have HC0:Hid (∀ w',Later W w'→w'.cell? ⟨gk,ok,none⟩=some (.int .i64 k0)∧w'.cell? ⟨gk,ok+1,none⟩=some (.int .i64 n0)∧w'.cell? ⟨gk,ok+2,none⟩=some (.int .i64 tk0)∧w'.cell? ⟨gk,ok+3,none⟩=some (.int .i64 tn0)∧w'.cell? ⟨gk,ok+4,none⟩=some z0∧w'.cell? ⟨gk,ok+5,none⟩=some z1):=fun w' hw=>by have:=hclk w' hw;rwa [Nat.zero_mul,Nat.add_zero]at this
     have HK0:Hid _:=hcall;have hmk':(0:Int)<(m1:Int):=by omega
     obtain⟨w1,hw1⟩:∃ w1,Hid (w1=wr.alloc (.cells #[.int .i64 6,.int .i64 n,.int .i64 tk,.int .i64 tn,.slice x0 m0 r0,.slice (some ⟨gk,ok,none⟩) m1 r1,.slice x2 m2 r2,.slice x3 m3 r3] 92)):=⟨_,rfl⟩
     have hbx:BxT wr.heap.size w1 [.int .i64 6,.int .i64 n,.int .i64 tk,.int .i64 tn,.slice x0 m0 r0,.slice (some ⟨gk,ok,none⟩) m1 r1,.slice x2 m2 r2,.slice x3 m3 r3] 92:=by rw[hw1.out];exact BxT.new wr _ _
     have hA1:Bf w1 W w1 (.slice ar Mr pr) zj:=by rw[hw1.out];exact (hbr.alloc _).from
     have hK8:K8 A w1:=by rw[hw1.out];exact (hbr.alloc _).3
     have HN1:Hid (∀ v' w',Bf w1 W w' v' (zj++([112,97,110,105,99]++t0++[32,59,10]))→Bf A W w' v' (zs++[32,123,10]++(Ts.take (j+1)).flatten)):=fun v' w' h=>HN.out _ _ (h.back hK8);have HQ:Hid (∀ w',K8 w1 w'→w'.cell? ⟨wr.heap.size,5,none⟩=some (.slice (some ⟨gk,ok,none⟩) m1 r1)):=hbx.at (by decide) 5 _ rfl;have hB0:=hA1.later (Later.drew _);have q0:=HQ.out w1.drew hB0.3;obtain⟨b0,b1,b2,b3,b4,b5⟩:=HC0.out w1.drew hB0.2;simp only[List.length_append,List.length_cons,List.length_nil]at hbT;clear hbx hclk hcall hT HN HT;go_wp2_with fail
     rw[←hw1.out]
     go_region_law (first
      | ((have _g:=hb3);(refine zaa rfl 55 en_say _ _ rfl [.slice a3 M3 p3,.agg #[.int .i64 k0,.int .i64 n0,.int .i64 tk0,.int .i64 tn0,z0,z1],sv] rfl (fun v w'=>Bf w1 W w' v ((zj++[112,97,110,105,99])++t0)) (HK0.out _ _ _ _ hb3 (by rw[hl3];omega)) ?_;intro v4 w4 hb4;obtain⟨a4,M4,p4,rfl,hM4⟩:=hb4.shape2))
      | (refine zad rfl _ _ 22 9 rfl W.heap.size 5 i0 Tryz.underlying22 Tryz.underlying9 hi hz0 hz1 hz2 (.slice ar Mr pr) _ _ rfl hB0.1 _ rfl (by show _+5≤maxLen;unfold maxLen;omega) (by show _+5≤_;omega) hB0.2.size ?_;intro v3 w3 o3 g3;have hb3:Bf w1 W w3 v3 (zj++[112,97,110,105,99]):=hB0.put o3 rfl rfl g3;have hl3:(zj++[112,97,110,105,99]).length=zj.length+5:=(by simp);have q3:=HQ.out _ hb3.3;obtain⟨d0,d1,d2,d3,d4,d5⟩:=HC0.out _ hb3.2;obtain⟨a3,M3,p3,rfl,hM3⟩:=hb3.shape2)
      | fail "none")
     all_goals
      have hl4:((zj++[112,97,110,105,99])++t0).length=zj.length+5+t0.length:=by simp;omega
      go_wp2_with (at_builtin;refine Go.Lib.wpList_append_own_string _ rfl _ _ 22 9 rfl W.heap.size 5 i0 Tryz.underlying22 Tryz.underlying9 hi hz0 hz1 hz2 (.slice a4 M4 p4) _ _ rfl hb4.1 _ rfl (by rw[hl4];show _+3≤maxLen;unfold maxLen;omega) (by rw[hl4];show _+3≤_;omega) hb4.2.size ?_;intro v7 w7 o7 g7 _;have hb7:=hb4.put o7 (ts:=[32,59,10]) rfl rfl g7)
      have hb7':Bf w1 W w7 v7 (zj++([112,97,110,105,99]++t0++[32,59,10])):=by simpa only[List.append_assoc] using hb7
      go_wp2_with fail
      go_roundw
      case rel=>exact⟨j+1,by go_num,by omega,HN1.out _ _ hb7'⟩
      case measure=>simp[intOf];omega
   ·as_aux_lemma =>
     obtain⟨t0,hk0,rfl⟩:=hT.at7 rfl;obtain⟨mk,hmk,gk,ok,ck,k0,n0,tk0,tn0,z0,z1,ek,hgk,hclk,hcall⟩:=hk0
     cases ek
     have HC0:Hid (∀ w',Later W w'→w'.cell? ⟨gk,ok,none⟩=some (.int .i64 k0)∧w'.cell? ⟨gk,ok+1,none⟩=some (.int .i64 n0)∧w'.cell? ⟨gk,ok+2,none⟩=some (.int .i64 tk0)∧w'.cell? ⟨gk,ok+3,none⟩=some (.int .i64 tn0)∧w'.cell? ⟨gk,ok+4,none⟩=some z0∧w'.cell? ⟨gk,ok+5,none⟩=some z1):=fun w' hw=>by have:=hclk w' hw;rwa [Nat.zero_mul,Nat.add_zero]at this
     have HK0:Hid _:=hcall;have hmk':(0:Int)<(m1:Int):=by omega
     obtain⟨w1,hw1⟩:∃ w1,Hid (w1=wr.alloc (.cells #[.int .i64 7,.int .i64 n,.int .i64 tk,.int .i64 tn,.slice x0 m0 r0,.slice (some ⟨gk,ok,none⟩) m1 r1,.slice x2 m2 r2,.slice x3 m3 r3] 92)):=⟨_,rfl⟩
     have hbx:BxT wr.heap.size w1 [.int .i64 7,.int .i64 n,.int .i64 tk,.int .i64 tn,.slice x0 m0 r0,.slice (some ⟨gk,ok,none⟩) m1 r1,.slice x2 m2 r2,.slice x3 m3 r3] 92:=by rw[hw1.out];exact BxT.new wr _ _
     have hA1:Bf w1 W w1 (.slice ar Mr pr) zj:=by rw[hw1.out];exact (hbr.alloc _).from
     have hK8:K8 A w1:=by rw[hw1.out];exact (hbr.alloc _).3
     have HN1:Hid (∀ v' w',Bf w1 W w' v' (zj++([100,111]++t0++[32,59,10]))→Bf A W w' v' (zs++[32,123,10]++(Ts.take (j+1)).flatten)):=fun v' w' h=>HN.out _ _ (h.back hK8);have HQ:Hid (∀ w',K8 w1 w'→w'.cell? ⟨wr.heap.size,5,none⟩=some (.slice (some ⟨gk,ok,none⟩) m1 r1)):=hbx.at (by decide) 5 _ rfl;have hB0:=hA1.later (Later.drew _);have q0:=HQ.out w1.drew hB0.3;obtain⟨b0,b1,b2,b3,b4,b5⟩:=HC0.out w1.drew hB0.2;simp only[List.length_append,List.length_cons,List.length_nil]at hbT;clear hbx hclk hcall hT HN HT;go_wp2_with fail
     rw[←hw1.out]
     go_region_law (first
      | ((have _g:=hb3);(refine zaa rfl 55 en_say _ _ rfl [.slice a3 M3 p3,.agg #[.int .i64 k0,.int .i64 n0,.int .i64 tk0,.int .i64 tn0,z0,z1],sv] rfl (fun v w'=>Bf w1 W w' v ((zj++[100,111])++t0)) (HK0.out _ _ _ _ hb3 (by rw[hl3];omega)) ?_;intro v4 w4 hb4;obtain⟨a4,M4,p4,rfl,hM4⟩:=hb4.shape2))
      | (refine zad rfl _ _ 22 9 rfl W.heap.size 5 i0 Tryz.underlying22 Tryz.underlying9 hi hz0 hz1 hz2 (.slice ar Mr pr) _ _ rfl hB0.1 _ rfl (by show _+2≤maxLen;unfold maxLen;omega) (by show _+2≤_;omega) hB0.2.size ?_;intro v3 w3 o3 g3;have hb3:Bf w1 W w3 v3 (zj++[100,111]):=hB0.put o3 rfl rfl g3;have hl3:(zj++[100,111]).length=zj.length+2:=(by simp);have q3:=HQ.out _ hb3.3;obtain⟨d0,d1,d2,d3,d4,d5⟩:=HC0.out _ hb3.2;obtain⟨a3,M3,p3,rfl,hM3⟩:=hb3.shape2)
      | fail "none")
     all_goals
      have hl4:((zj++[100,111])++t0).length=zj.length+2+t0.length:=by simp;omega
      go_wp2_with (at_builtin;refine Go.Lib.wpList_append_own_string _ rfl _ _ 22 9 rfl W.heap.size 5 i0 Tryz.underlying22 Tryz.underlying9 hi hz0 hz1 hz2 (.slice a4 M4 p4) _ _ rfl hb4.1 _ rfl (by rw[hl4];show _+3≤maxLen;unfold maxLen;omega) (by rw[hl4];show _+3≤_;omega) hb4.2.size ?_;intro v7 w7 o7 g7 _;have hb7:=hb4.put o7 (ts:=[32,59,10]) rfl rfl g7)
      have hb7':Bf w1 W w7 v7 (zj++([100,111]++t0++[32,59,10])):=by simpa only[List.append_assoc] using hb7
      go_wp2_with fail
      go_roundw
      case rel=>exact⟨j+1,by go_num,by omega,HN1.out _ _ hb7'⟩
      case measure=>simp[intOf];omega
  ·have hje:j=Ts.length:=by omega
   have i1:¬ (j:Int)<(Ts.length:Int):=by omega
   have hte:Ts.take j=Ts:=by rw[hje];exact List.take_length
   rw[hte]at hbr;have hlr:(zs++[32,123,10]++Ts.flatten).length=zs.length+3+Ts.flatten.length:=by rw[List.length_append,hl5]
   have hrs:=hbr.2.size;clear HSt HT hMr hte hje;go_wp2_with (at_builtin;refine wpList_append_own _ rfl _ _ 22 rfl W.heap.size 5 i0 (.int .u8 0) 1 1 Tryz.underlying22 hi hz0 hz1 hz2 rfl (by decide) (.slice ar Mr pr) _ _ rfl (hbr.alloc _).1 ⟨wr.heap.size,0,none⟩ 1 1 [.int .u8 125] rfl rfl (zaq _ _) (by simp[Value.oneCell']) (by rw[hlr];unfold maxLen;omega) (by rw[hlr];omega) (by simp;omega) ?_;intro v9 w9 o9 g9 _)
   exact HF.out _ _ ((hbr.alloc _).put o9 (ts:=[125]) rfl rfl g9)
end Go.Proofs.YtgholpilmdebmaaGreatDoor
