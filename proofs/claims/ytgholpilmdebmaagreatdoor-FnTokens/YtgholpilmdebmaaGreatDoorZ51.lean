import Derived.Test.YtgholpilmdebmaaGreatDoorZ43
import Derived.Test.YtgholpilmdebmaaGreatDoorZ48
import Derived.Test.YtgholpilmdebmaaGreatDoorZ50
import Derived.Test.YtgholpilmdebmaaGreatDoorZ29
import Derived.Test.YtgholpilmdebmaaGreatDoorZ10
import Derived.Test.YtgholpilmdebmaaGreatDoorZ06
import Derived.Test.YtgholpilmdebmaaGreatDoorZ42
import Derived.Deep.CutBlock
set_option maxHeartbeats 100000000
set_option maxRecDepth 100000
namespace Go.Proofs.YtgholpilmdebmaaGreatDoor
open Go.RowKit Go.Maps
theorem Gs.read {c:Dx}{g:GS}{w:World}{v:Gv}(h:Gs c g w v):RdL w 2 v.sv (Sc.dats v.ss)∧RdL w 5 v.fv (Fu.dats v.fs):=by
 refine⟨RdL.sub (Ov.refl g w).subw h.ss,?_⟩;obtain⟨xf,f1,f2⟩:=h.fs
 have r:Rw ⟨g.S,fun _=>False⟩ w (c.G+1) 73 5 v.fv (Fu.dats v.fs) xf:=⟨by rw[Fu.dats_len];exact f1,f2,fun b e=>⟨fun q=>h.ok.a b q (h.df b e),fun q=>q⟩⟩
 rcases r.done with ⟨_,q⟩|⟨b,_,_,_,_,_,q⟩
 ·exact RdL.sub (Ov.refl _ w).subw q
 ·exact RdL.sub (Ov.refl _ w).subw q
theorem FsOk.goods {fs:List Fu}(h:FsOk fs):Fu.goods fs:=fun j hj=>(h.2 j hj).2.1
theorem src_T2 {c:Dx}{w:World}{x:So}{sa:Option Addr}{sn sc:Nat}{fa:Option Addr}{fn fc:Nat}(h0:RdL w 2 (.slice sa sn sc) (Sc.dats x.structs)) (h1:RdL w 5 (.slice fa fn fc) (Fu.dats x.funcs)) (hg:Fu.goods x.funcs) {b:Nat}(hb:Bxx w b [.slice sa sn sc,.slice fa fn fc]) (z i:Int) {RS:Nat}(hR:Bxx w RS [.slice none 0 0,.slice none 0 0]) (Q:Exit→Act→World→Prop) (HN:∀ us w',Later w w'→Q .normal { tmps:=(fr11 c RS z i us).toArray,defers:=[] } w') (HR:∀ us w2 w' (y:So) a0 n0 c0 a1 n1 c1,Later w w2→OnlyK RS w2 w'→Bxx w' RS [.slice a0 n0 c0,.slice a1 n1 c1]→SoFine y→RdL w' 2 (.slice a0 n0 c0) (Sc.dats y.structs)→RdL w' 5 (.slice a1 n1 c1) (Fu.dats y.funcs)→y.text.length≤6000→Q .ret { tmps:=(fr11 c RS z i us).toArray,defers:=[] } w') (us:Nat→Value):Code.wp Tryz.prog (rt (rt srcT)) Q { tmps:=([.pointer (some ⟨c.K,0,none⟩),.int .i64 z,us 2,us 3,.pointer (some ⟨RS,0,none⟩),.int .i64 i,.pointer (some ⟨c.G,0,none⟩),us 7,us 8,us 9,.pointer (some ⟨b,0,none⟩)]++tl us 11 83).toArray,defers:=[] } w:=by
 have HS:=sok_any x _ _ w hg h0 h1;obtain⟨⟨⟨b0,_⟩,⟨b1,_⟩⟩,bl⟩:=hb.two';have HO:Hid (x.ok=true→∀ w',Later w w'→Calls Tryz.prog 43 #[.agg #[.slice sa sn sc,.slice fa fn fc]] w' fun e w2=>∃ a0 n0 c0 a1 n1 c1 F,e=.returned (.agg #[.slice a0 n0 c0,.slice a1 n1 c1])∧RdF w2 x.dat [.slice a0 n0 c0,.slice a1 n1 c1] F∧(∀ b∈F,w'.heap.size≤b)∧Later w' w2):=fun q w' l=>sown_any x _ _ w' (So.sm_of q) (h0.later l) (h1.later l)
 have HF:Hid (x.ok=true→SoFine x∧x.text.length≤6000):=fun q=>by
  unfold So.ok at q;rw[Bool.and_eq_true]at q
  cases e:So.run x with
  | none=>rw[e]at q;cases q.1
  | some r=>exact⟨(So.run_fine hg e).fine,of_decide_eq_true q.2⟩
 clear h0 h1 hg;show Code.wp _ (Code.seq _ _) _ _ _
 apply wp_seq_k
 intro K hK;have HK:Hid _:=hK;clear hK;dsimp only [List.cons_append,List.nil_append,tl,Nat.reduceAdd];go_wp2_with fail
 refine HS.mono ?_;rintro e w2 ⟨rfl,l2⟩;clear HS
 cases hok:x.ok with
 | false =>
  clear HO HF HR;go_wp2_with fail
  refine HK.out _ _ ?_;refine wp_cond_false rfl (wp_skip ?_);exact fr_at (R:=Q .normal) (f:=fr11 c RS z i) (fun us=>HN us w2 l2) rfl
 | true =>
  clear HN;have HO2:=HO.out hok w2 l2;obtain⟨fine,htx⟩:=HF.out hok;have hb2:=hb.later l2;obtain⟨⟨⟨b20,_⟩,⟨b21,_⟩⟩,bl2⟩:=hb2.two';clear HO HF b0 b1;go_wp2_with fail
  refine HK.out _ _ ?_;clear HK;refine wp_cond_true rfl ?_;show Code.wp _ (Code.seq _ _) _ _ _
  apply wp_seq_k
  intro K2 hK2;have HK2:Hid _:=hK2;clear hK2;go_wp2_with fail
  refine HO2.mono ?_;rintro e w3 ⟨a0,n0,c0,a1,n1,c1,F,rfl,rf,hF,l3⟩;have hR3:=hR.later (l2.trans l3);obtain⟨⟨⟨r0,r0f⟩,⟨r1,r1f⟩⟩,rl⟩:=hR3.two'
  have HZ:Hid (∀ us,Q .ret { tmps:=(fr11 c RS z i us).toArray,defers:=[] } ((w3.setCell ⟨RS,0,none⟩ (.slice a0 n0 c0)).setCell ⟨RS,1,none⟩ (.slice a1 n1 c1))):=by
   intro us;have o3:OnlyK RS w3 ((w3.setCell ⟨RS,0,none⟩ (.slice a0 n0 c0)).setCell ⟨RS,1,none⟩ (.slice a1 n1 c1)):=((OnlyK.refl RS w3).set 0 _).set 1 _;have d:=rf.rd _ o3.size (fun b q=>o3.block b (rf.lt b q) (fun e=>by have:=hF b q;have:=hR.lt;have:=l2.size;omega));obtain⟨u0,u1,e,d0,d1⟩:=So.view d
   injection e with e0 e1
   injection e1 with e1 _
   subst e0 e1;exact HR us w3 _ x a0 n0 c0 a1 n1 c1 (l2.trans l3) o3 ((hR3.set 0 _ (by simp)).set 1 _ (by simp)) fine d0 d1 htx
  clear HR rf hF l3 hR3 hb2 hR hb l2 fine htx HO2;go_wp2_with fail
  refine HK2.out _ _ ?_;refine wp_ret ?_;exact fr_at (R:=Q .ret) (f:=fr11 c RS z i) (fun us=>HZ.out us) rfl
theorem src_T {c:Dx}{g:GS}{w:World}{v:Gv}(h:Gs c g w v) (z i:Int) {RS:Nat}(hR:Bxx w RS [.slice none 0 0,.slice none 0 0]) (Q:Exit→Act→World→Prop) (HN:∀ us w',Later w w'→Q .normal { tmps:=(fr11 c RS z i us).toArray,defers:=[] } w') (HR:∀ us w2 w' (y:So) a0 n0 c0 a1 n1 c1,Later w w2→OnlyK RS w2 w'→Bxx w' RS [.slice a0 n0 c0,.slice a1 n1 c1]→SoFine y→RdL w' 2 (.slice a0 n0 c0) (Sc.dats y.structs)→RdL w' 5 (.slice a1 n1 c1) (Fu.dats y.funcs)→y.text.length≤6000→Q .ret { tmps:=(fr11 c RS z i us).toArray,defers:=[] } w') (us:Nat→Value):Code.wp Tryz.prog (rt srcT) Q { tmps:=(fr11 c RS z i us).toArray,defers:=[] } w:=by
 obtain⟨h0,h1⟩:=h.read;have hg:=h.fok.goods;obtain⟨_,_,_,⟨fa,fc,hfv⟩,⟨sa,sc,hsv⟩⟩:=h.nvS;obtain⟨nx,lf,hbx⟩:=h.box;obtain⟨cc1,_⟩:=hbx.cell 1 _ rfl;obtain⟨cc2,_⟩:=hbx.cell 2 _ rfl;have la:=later1 w (.cells #[.slice none 0 0,.slice none 0 0] 46);obtain⟨cd1,_⟩:=(hbx.later la).cell 1 _ rfl;obtain⟨cd2,_⟩:=(hbx.later la).cell 2 _ rfl;have hG:=hbx.lt
 have HT:Hid (∀ w' b us,Later w w'→Bxx w' b [v.sv,v.fv]→Code.wp Tryz.prog (rt (rt srcT)) Q { tmps:=([.pointer (some ⟨c.K,0,none⟩),.int .i64 z,us 2,us 3,.pointer (some ⟨RS,0,none⟩),.int .i64 i,.pointer (some ⟨c.G,0,none⟩),us 7,us 8,us 9,.pointer (some ⟨b,0,none⟩)]++tl us 11 83).toArray,defers:=[] } w'):=by
  intro w' b us l hb;rw[hsv,hfv]at hb;rw[hsv]at h0;rw[hfv]at h1;exact src_T2 (x:=.mk v.ss v.fs) (h0.later l) (h1.later l) hg hb z i (hR.later l) Q (fun us w2 l2=>HN us w2 (l.trans l2)) (fun us w2 w3 y a0 n0 c0 a1 n1 c1 l2=>HR us w2 w3 y a0 n0 c0 a1 n1 c1 (l.trans l2)) us
 rw[hsv]at cc1 cd1 HT;rw[hfv]at cc2 cd2 HT;clear h0 h1 hg hR HN HR hbx h;show Code.wp _ (Code.seq _ _) _ _ _
 apply wp_seq_k
 intro K hK;have HK:Hid _:=hK;clear hK;unfold fr11;dsimp only [List.cons_append,List.nil_append,tl,Nat.reduceAdd];refine wp_region_noPanic ?_;go_region
 all_goals
  show Exit.then K Q .normal _ _
  refine HK.out _ _ ?_;exact zbb (f:=fun us=>([.pointer (some ⟨c.K,0,none⟩),.int .i64 z,us 2,us 3,.pointer (some ⟨RS,0,none⟩),.int .i64 i,.pointer (some ⟨c.G,0,none⟩),us 7,us 8,us 9,.pointer (some ⟨w.heap.size,0,none⟩)]++tl us 11 83)) (fun us=>HT.out _ _ us ((later1 _ _).trans (Later.drew _)) ((Bxx.new w #[.slice sa v.ss.length sc,.slice fa v.fs.length fc] 46).later (Later.drew _))) rfl
theorem src_L2 {c:Dx}{g:GS}{w:World}{v:Gv}(h:Gs c g w v) (z i:Int) (hz0:2≤z) (hz1:z≤4) (hi0:0≤i) (hi1:i≤3) (n RS:Nat) (hn:n≤3) (hf:v.fs.length=0) (Q:Exit→Act→World→Prop) (HQ:∀ us g' w' v',Stp g w g' w'→Gs c g' w' v'→v'.fs.length≤3→Q .normal { tmps:=(fr11 c RS z i us).toArray,defers:=[] } w') (us:Nat→Value):Code.wp Tryz.prog (lt (rt (rt srcB))) Q { tmps:=([.pointer (some ⟨c.K,0,none⟩),.int .i64 z,us 2,us 3,.pointer (some ⟨RS,0,none⟩),.int .i64 i,.pointer (some ⟨c.G,0,none⟩),.int .i64 (n:Int),us 8]++tl us 9 85).toArray,defers:=[] } w:=by
 show Code.wp _ (Code.seq _ _) _ _ _
 apply wp_seq_k
 intro K hK;have HK:Hid _:=hK;clear hK;dsimp only [List.cons_append,List.nil_append,tl,Nat.reduceAdd];go_wp2_with fail
 refine HK.out _ _ ?_;clear HK;refine wp_block ?_;refine wp_loop (fun a w'=>∃ (us:Nat→Value) (kz:Int) (g':GS) (v':Gv),a={ tmps:=([.pointer (some ⟨c.K,0,none⟩),.int .i64 z,us 2,us 3,.pointer (some ⟨RS,0,none⟩),.int .i64 i,.pointer (some ⟨c.G,0,none⟩),.int .i64 (n:Int),.int .i64 kz]++tl us 9 85).toArray,defers:=[] }∧0≤kz∧kz≤(n:Int)∧Stp g w g' w'∧Gs c g' w' v'∧(v'.fs.length:Int)=kz) (fun a _=>n - (intOf (a.tmps.getD 8 undef)).toNat) ?start ?round
 case start=>exact⟨us,0,g,v,rfl,by decide,by omega,Stp.refl _ _,h,by rw[hf];rfl⟩
 case round =>
  clear us h hf;rintro a w' ⟨us,kz,g',v',rfl,hk0,hk1,s,k',hl⟩
  obtain⟨k,rfl⟩:∃ k:Nat,kz=(k:Int):=⟨kz.toNat,by omega⟩
  have hl':v'.fs.length=k:=by omega
  show Code.wp _ (Code.seq (Code.seq _ _) _) _ _ _
  apply wp_seq_k
  intro K1 hK1;have HK1:Hid _:=hK1;clear hK1
  apply wp_seq_k
  intro K2 hK2;have HK2:Hid _:=hK2;clear hK2;dsimp only [List.cons_append,List.nil_append,tl,Nat.reduceAdd];by_cases hlt:(k:Int)<(n:Int)
  ·have HB:Hid (∀ us (Qx:Exit→Act→World→Prop),(∀ us g2 w2 v2,Stp g' w' g2 w2→Gs c g2 w2 v2→v2.fs.length=k+1→Qx .normal { tmps:=([.pointer (some ⟨c.K,0,none⟩),.int .i64 z,us 2,us 3,.pointer (some ⟨RS,0,none⟩),.int .i64 i,.pointer (some ⟨c.G,0,none⟩),.int .i64 (n:Int),.int .i64 (k:Int)]++tl us 9 85).toArray,defers:=[] } w2)→Code.wp Tryz.prog srcF Qx { tmps:=([.pointer (some ⟨c.K,0,none⟩),.int .i64 z,us 2,us 3,.pointer (some ⟨RS,0,none⟩),.int .i64 i,.pointer (some ⟨c.G,0,none⟩),.int .i64 (n:Int),.int .i64 (k:Int)]++tl us 9 85).toArray,defers:=[] } w'):=fun us Qx hq=>src_F k' z i hz0 hz1 hi0 hi1 n k RS (by omega) hl' Qx hq us;have qk:IntKind.i64.wrap ((k:Int)+1)=(k:Int)+1:=by rw[IntKind.wrap_i64];omega
   clear HQ k' hl hl';go_wp2_with fail
   refine HK2.out _ _ ?_;clear HK2;refine wp_cond_true rfl (wp_skip ?_);refine HK1.out _ _ ?_;clear HK1;show Code.wp _ (Code.seq _ _) _ _ _
   apply wp_seq_k
   intro K3 hK3;refine wp_block ?_;refine zbb (f:=fun us=>([.pointer (some ⟨c.K,0,none⟩),.int .i64 z,us 2,us 3,.pointer (some ⟨RS,0,none⟩),.int .i64 i,.pointer (some ⟨c.G,0,none⟩),.int .i64 (n:Int),.int .i64 (k:Int)]++tl us 9 85)) (fun us=>HB.out us _ ?_) rfl;intro us g2 w2 v2 s2 k2 e2;refine hK3 _ _ ?_;clear hK3 HB;dsimp only [List.cons_append,List.nil_append,tl,Nat.reduceAdd];go_wp2_with fail
   refine⟨⟨updS (updS us 28 (.int .i64 (k:Int))) 29 (.int .i64 ((k:Int)+1)),(k:Int)+1,g2,v2,rfl,by omega,by omega,s.trans s2,k2,by omega⟩,?_⟩;show n - (intOf (.int .i64 ((k:Int)+1))).toNat<n - (intOf (.int .i64 (k:Int))).toNat;dsimp only [intOf];omega
  ·clear HK1;go_wp2_with fail
   refine HK2.out _ _ ?_;refine wp_cond_false rfl (wp_exit ?_);show Q .normal _ _;exact fr_at (R:=Q .normal) (f:=fr11 c RS z i) (fun us=>HQ us g' w' v' s k' (by omega)) rfl
theorem Stp.onlyK {g g':GS}{w w':World}{K:Nat}(s:Stp g w g' w') (h:∀ b,g.D b→b=K):OnlyK K w w':=⟨s.os,s.tape,s.output,s.size,fun b hb hne=>s.block b hb fun q=>hne (h b q)⟩
theorem At.res {B K:Nat}{a:Option Addr}{len cap:Nat}{w0 w w':World}(h:At B K a len cap w0 w) (hK:K<w0.heap.size) {RS:Nat}(o:OnlyK RS w w') (hR:w0.heap.size≤RS):At B K a len cap w0 w' :=
 ⟨h.cur.keep o.size fun b _ h2=>o.block b (by omega) (by omega),⟨o.os.trans h.only.os,o.tape.trans h.only.tape,o.output.trans h.only.output,Nat.le_trans h.only.size o.size,fun b hb hne=>by rw[o.block b (Nat.lt_of_lt_of_le hb h.only.size) (by omega)];exact h.only.block b hb hne⟩⟩
theorem src_B {B K:Nat}{a:Option Addr}{len cap:Nat}{w:World}(hc:Cur B K a len cap w) (z i:Int) (hz0:2≤z) (hz1:z≤4) (hi0:0≤i) (hi1:i≤3) {RS:Nat}(hR:Bxx w RS [.slice none 0 0,.slice none 0 0]) (hKR:K≠RS) (Q:Exit→Act→World→Prop) (HN:∀ us w',At B K a len cap w w'→Q .normal { tmps:=([.pointer (some ⟨K,0,none⟩),.int .i64 z,us 2,us 3,.pointer (some ⟨RS,0,none⟩),.int .i64 i]++tl us 6 88).toArray,defers:=[] } w') (HR:∀ us w2 w' (y:So) a0 n0 c0 a1 n1 c1,At B K a len cap w w2→OnlyK RS w2 w'→Bxx w' RS [.slice a0 n0 c0,.slice a1 n1 c1]→SoFine y→RdL w' 2 (.slice a0 n0 c0) (Sc.dats y.structs)→RdL w' 5 (.slice a1 n1 c1) (Fu.dats y.funcs)→y.text.length≤6000→Q .ret { tmps:=([.pointer (some ⟨K,0,none⟩),.int .i64 z,us 2,us 3,.pointer (some ⟨RS,0,none⟩),.int .i64 i]++tl us 6 88).toArray,defers:=[] } w') (us:Nat→Value):Code.wp Tryz.prog srcB Q { tmps:=([.pointer (some ⟨K,0,none⟩),.int .i64 z,us 2,us 3,.pointer (some ⟨RS,0,none⟩),.int .i64 i]++tl us 6 88).toArray,defers:=[] } w:=by
 have ok0:(⟨fun _=>false,fun b=>b=K⟩:GS).Ok w:=⟨fun b q=>(by cases q),fun b q=>(by cases (show b=K from q);exact hc.hK),fun b q=>(by cases q)⟩
 have HS:=structs_any ok0 hc rfl;have HR':Hid _:=HR;have HN':Hid _:=HN;clear HR HN;have q1:IntKind.i64.wrap (20*z)=20*z:=by rw[IntKind.wrap_i64];omega
 have q2:IntKind.i64.wrap (60+20*z)=60+20*z:=by rw[IntKind.wrap_i64];omega
 show Code.wp _ (Code.seq _ _) _ _ _
 apply wp_seq_k
 intro K1 hK1;have HK1:Hid _:=hK1;clear hK1;dsimp only [List.cons_append,List.nil_append,tl,Nat.reduceAdd];go_wp2_with fail
 refine HS.mono ?_;rintro e w2 ⟨u,rfl,g2,ss,s2,ok2,c2,r2,hss⟩;obtain⟨sa,sp,rfl,_⟩:=Sc.slice r2
 have HM:Hid (∀ w3,w3=w2.alloc (.cells #[.pointer (some ⟨K,0,none⟩),.slice sa ss.length sp,.slice none 0 0,.slice none 0 0,.slice none 0 0,.slice none 0 0,.int .i64 0,.int .i64 (60+20*z),.int .i64 0,.int .i64 0] 81)→∃ g3 v3,Stp ⟨fun _=>false,fun b=>b=K⟩ w g3 w3∧Gs ⟨B,K,w2.heap.size,a,len,cap⟩ g3 w3 v3∧v3.fs.length=0):=fun w3 e3=>by
  obtain⟨k3,s3⟩:=Gs.make ok2 c2 (s2.d K rfl) r2 hss e3;exact⟨_,_,s2.trans s3,k3,rfl⟩
 clear HS ok0 s2 ok2 c2 r2 hss;go_wp2_with fail
 refine HK1.out _ _ ?_;clear HK1 q1 q2;obtain⟨g3,v3,s3,k3,e3⟩:=HM.out _ rfl;clear HM
 generalize w2.alloc _=w3 at *
 generalize hC:(⟨B,K,w2.heap.size,a,len,cap⟩:Dx)=c at *
 have hcB:c.B=B:=by rw[←hC]
 have hcK:c.K=K:=by rw[←hC]
 have hca:c.a=a:=by rw[←hC]
 have hcl:c.len=len:=by rw[←hC]
 have hcc:c.cap=cap:=by rw[←hC]
 have hcG:c.G=w2.heap.size:=by rw[←hC]
 rw[←hcG];clear hC hcG;subst hcB hcK hca hcl hcc;have HB:=zal k3 4 (by decide) (by decide)
 have X3:Hid (Stp ⟨fun _=>false,fun b=>b=c.K⟩ w g3 w3∧Gs c g3 w3 v3):=⟨s3,k3⟩
 clear s3 k3;show Code.wp _ (Code.seq _ _) _ _ _
 apply wp_seq_k
 intro K2 hK2;have HK2:Hid _:=hK2;clear hK2;go_wp2_with fail
 refine HB.mono ?_;rintro e w4 ⟨_,rfl,g4,s4,k4,m,rfl,m0,m1⟩
 obtain⟨m,rfl⟩:∃ m':Nat,m=(m':Int):=⟨m.toNat,by omega⟩
 have s5:=X3.out.1.trans s4
 have HL:Hid (∀ us,Code.wp Tryz.prog (rt (rt srcB)) Q { tmps:=([.pointer (some ⟨c.K,0,none⟩),.int .i64 z,us 2,us 3,.pointer (some ⟨RS,0,none⟩),.int .i64 i,.pointer (some ⟨c.G,0,none⟩),.int .i64 (m:Int),us 8]++tl us 9 85).toArray,defers:=[] } w4):=by
  intro us;have e4:(rt (rt srcB))=Code.seq (lt (rt (rt srcB))) srcT:=rfl;rw[e4];refine wp_seq ?_;refine src_L2 k4 z i hz0 hz1 hi0 hi1 m RS (by omega) e3 _ ?_ us;intro us g6 w6 v6 s6 k6 e6;have s7:=s5.trans s6;show Code.wp _ srcT _ _ _;have e7:srcT=Code.seq (lt srcT) (rt srcT):=rfl;rw[e7];refine wp_seq ?_;refine src_M k6 z i hz0 hz1 RS (by omega) _ ?_ us;intro us g8 w8 v8 s8 k8 _;have o8:=(s7.trans s8).onlyK (fun b q=>q)
  have a8:At c.B c.K c.a c.len c.cap w w8:=⟨k8.cur,o8⟩
  refine src_T k8 z i (hR.only o8 (fun q=>hKR q.symm)) Q ?_ ?_ us
  ·intro us w9 l9;exact fr_at (R:=Q .normal) (f:=fun us=>([.pointer (some ⟨c.K,0,none⟩),.int .i64 z,us 2,us 3,.pointer (some ⟨RS,0,none⟩),.int .i64 i]++tl us 6 88)) (fun us=>HN'.out us w9 (a8.later l9)) rfl
  ·intro us w9 w10 y a0 n0 c0 a1 n1 c1 l9 o9 b9 fine d0 d1 ht;exact fr_at (R:=Q .ret) (f:=fun us=>([.pointer (some ⟨c.K,0,none⟩),.int .i64 z,us 2,us 3,.pointer (some ⟨RS,0,none⟩),.int .i64 i]++tl us 6 88)) (fun us=>HR'.out us w9 w10 y a0 n0 c0 a1 n1 c1 (a8.later l9) o9 b9 fine d0 d1 ht) rfl
 clear HB X3 s4 k4 HN' HR' hR e3 s5 hc;go_wp2_with fail
 refine HK2.out _ _ ?_;exact zbb (f:=fun us=>([.pointer (some ⟨c.K,0,none⟩),.int .i64 z,us 2,us 3,.pointer (some ⟨RS,0,none⟩),.int .i64 i,.pointer (some ⟨c.G,0,none⟩),.int .i64 (m:Int),us 8]++tl us 9 85)) HL.out rfl
def litSo:So:=.mk [] [.mk [109,97,105,110] [] 0 0 [.mk 5 0 0 0 [] [.mk 0 7 0 0 [] []] [] []]]
theorem litSo_goods:Fu.goods litSo.funcs:=fun j hj=>by
 obtain rfl:j=0:=by have:j<1:=hj;omega
 show St.goods [.mk 5 0 0 0 [] [.mk 0 7 0 0 [] []] [] []];simp[St.goods,St.good,Ex.goods,Ex.good,InR]
theorem litSo_fine:SoFine litSo∧litSo.text.length≤6000:=⟨(So.run_fine (q:=(So.run litSo).getD 0) litSo_goods (by kernel_rfl)).fine,by decide +kernel⟩
noncomputable def srcE:Code:=rt (rt (Tryz.f22.body.getD .skip))
theorem lit_read {w w1 w2 w5 w6:World}{RS:Nat}(hRS:RS<w.heap.size) (o6:OnlyK RS w5 w6) (e1:w1=w.alloc (.cells #[.int .u8 109,.int .u8 97,.int .u8 105,.int .u8 110] 5 (4,5))) (l2:Later w1 w2) (e5:w5=(((w2.alloc (.cells #[.int .i64 0,.int .i64 7,.int .i64 0,.int .i64 0,.slice none 0 0,.slice none 0 0] 89)).alloc (.cells #[.int .i64 5,.int .i64 0,.int .i64 0,.int .i64 0,.slice none 0 0,.slice (some ⟨w2.heap.size,0,none⟩) 1 1,.slice none 0 0,.slice none 0 0] 92)).alloc (.cells #[.slice (some ⟨w.heap.size,0,none⟩) 4 4,.slice none 0 0,.int .i64 0,.int .i64 0,.slice (some ⟨w2.heap.size+1,0,none⟩) 1 1] 73))):RdL w6 5 (.slice (some ⟨w2.heap.size+1+1,0,none⟩) 1 1) (Fu.dats litSo.funcs):=by
 have l35:Later (w2.alloc (.cells #[.int .i64 0,.int .i64 7,.int .i64 0,.int .i64 0,.slice none 0 0,.slice none 0 0] 89)) w5:=by rw[e5];exact (later1 _ _).trans (later1 _ _)
 have l45:Later ((w2.alloc (.cells #[.int .i64 0,.int .i64 7,.int .i64 0,.int .i64 0,.slice none 0 0,.slice none 0 0] 89)).alloc (.cells #[.int .i64 5,.int .i64 0,.int .i64 0,.int .i64 0,.slice none 0 0,.slice (some ⟨w2.heap.size,0,none⟩) 1 1,.slice none 0 0,.slice none 0 0] 92)) w5:=by rw[e5];exact later1 _ _
 have l25:Later w2 w5:=(later1 _ _).trans l35;have b0:Bxx w5 w.heap.size [.int .u8 109,.int .u8 97,.int .u8 105,.int .u8 110]:=((by rw[e1];exact Bxx.newF w [.int .u8 109,.int .u8 97,.int .u8 105,.int .u8 110] 5:Bxx w1 w.heap.size [.int .u8 109,.int .u8 97,.int .u8 105,.int .u8 110]).later l2).later l25;have b1:Bxx w5 w2.heap.size [.int .i64 0,.int .i64 7,.int .i64 0,.int .i64 0,.slice none 0 0,.slice none 0 0]:=(Bxx.new w2 #[.int .i64 0,.int .i64 7,.int .i64 0,.int .i64 0,.slice none 0 0,.slice none 0 0] 89).later l35;have s3:(w2.alloc (.cells #[.int .i64 0,.int .i64 7,.int .i64 0,.int .i64 0,.slice none 0 0,.slice none 0 0] 89)).heap.size=w2.heap.size+1:=World.size_alloc _ _
 have b2:Bxx w5 (w2.heap.size+1) [.int .i64 5,.int .i64 0,.int .i64 0,.int .i64 0,.slice none 0 0,.slice (some ⟨w2.heap.size,0,none⟩) 1 1,.slice none 0 0,.slice none 0 0]:=by
  have:=(Bxx.new (w2.alloc (.cells #[.int .i64 0,.int .i64 7,.int .i64 0,.int .i64 0,.slice none 0 0,.slice none 0 0] 89)) #[.int .i64 5,.int .i64 0,.int .i64 0,.int .i64 0,.slice none 0 0,.slice (some ⟨w2.heap.size,0,none⟩) 1 1,.slice none 0 0,.slice none 0 0] 92).later l45;rw[s3]at this;exact this
 have s4:((w2.alloc (.cells #[.int .i64 0,.int .i64 7,.int .i64 0,.int .i64 0,.slice none 0 0,.slice none 0 0] 89)).alloc (.cells #[.int .i64 5,.int .i64 0,.int .i64 0,.int .i64 0,.slice none 0 0,.slice (some ⟨w2.heap.size,0,none⟩) 1 1,.slice none 0 0,.slice none 0 0] 92)).heap.size=w2.heap.size+1+1:=by rw[World.size_alloc,s3]
 have b3:Bxx w5 (w2.heap.size+1+1) [.slice (some ⟨w.heap.size,0,none⟩) 4 4,.slice none 0 0,.int .i64 0,.int .i64 0,.slice (some ⟨w2.heap.size+1,0,none⟩) 1 1]:=by
  have:=Bxx.new ((w2.alloc (.cells #[.int .i64 0,.int .i64 7,.int .i64 0,.int .i64 0,.slice none 0 0,.slice none 0 0] 89)).alloc (.cells #[.int .i64 5,.int .i64 0,.int .i64 0,.int .i64 0,.slice none 0 0,.slice (some ⟨w2.heap.size,0,none⟩) 1 1,.slice none 0 0,.slice none 0 0] 92)) #[.slice (some ⟨w.heap.size,0,none⟩) 4 4,.slice none 0 0,.int .i64 0,.int .i64 0,.slice (some ⟨w2.heap.size+1,0,none⟩) 1 1] 73;rw[s4,← e5]at this;exact this
 have l12:=l2.size;have e1s:w1.heap.size=w.heap.size+1:=by rw[e1];exact World.size_alloc _ _
 have b0:=b0.only o6 (by omega);have b1:=b1.only o6 (by omega);have b2:=b2.only o6 (by omega);have b3:=b3.only o6 (by omega);clear l35 l45 l25 s3 s4 e5 o6
 obtain⟨g,hg⟩:∃ g:GS,g=⟨fun _=>true,fun _=>False⟩:=⟨_,rfl⟩
 have hS:∀ b,g.S b:=fun b=>by rw[hg]
 have n0:=RdN.lit (g:=g) (b:=w.heap.size) (zs:=[109,97,105,110]) b0 (hS _) (zbv (by decide)) (by decide)
 have z0:RdN (mask g w6) (.slice none 0 0) []:=⟨⟨none,0,rfl,by simp,fun j=>by simp[isB],fun j hj=>by cases hj⟩,none,0,rfl,Nat.le_refl _,by unfold maxLen;omega⟩
 have x1:RdL (mask g w6) 6 (.slice (some ⟨w2.heap.size,0,none⟩) 1 1) (Ex.dats [.mk 0 7 0 0 [] []]):=RdL.lit (l:=Ex.dats [.mk 0 7 0 0 [] []]) b1 (hS _) (by unfold maxLen;simp[Ex.dats]) (by rw[Ex.dats,Ex.dats];exact ElS.one rfl (Ex.unview (x:=.mk 0 7 0 0 [] []) z0 (by rw[show Ex.dats (Ex.kids (.mk 0 7 0 0 [] []))=[] by simp[Ex.kids,Ex.dats]];exact RdL.nil0 _ _)));have nb:∀ l:List St,l=[]→RdL (mask g w6) 8 (.slice none 0 0) (St.dats l):=fun l h=>by rw[h,St.dats];exact RdL.nil0 _ _
 have x2:RdL (mask g w6) 8 (.slice (some ⟨w2.heap.size+1,0,none⟩) 1 1) (St.dats [.mk 5 0 0 0 [] [.mk 0 7 0 0 [] []] [] []]):=RdL.lit (l:=St.dats [.mk 5 0 0 0 [] [.mk 0 7 0 0 [] []] [] []]) b2 (hS _) (by unfold maxLen;simp[St.dats]) (by rw[St.dats,St.dats];exact ElS.one rfl (St.unview (x:=.mk 5 0 0 0 [] [.mk 0 7 0 0 [] []] [] []) z0 x1 (nb _ rfl) (nb _ rfl)));have x3:RdL (mask g w6) 5 (.slice (some ⟨w2.heap.size+1+1,0,none⟩) 1 1) (Fu.dats litSo.funcs):=RdL.lit (l:=Fu.dats litSo.funcs) b3 (hS _) (by unfold maxLen;simp[litSo,So.funcs,Fu.dats]) (by rw[show litSo.funcs=[.mk [109,97,105,110] [] 0 0 [.mk 5 0 0 0 [] [.mk 0 7 0 0 [] []] [] []]] from rfl,Fu.dats,Fu.dats];exact ElS.one rfl (Fu.unview (x:=.mk [109,97,105,110] [] 0 0 [.mk 5 0 0 0 [] [.mk 0 7 0 0 [] []] [] []]) n0 (by rw[show Pa.dats (Fu.params (.mk [109,97,105,110] [] 0 0 [.mk 5 0 0 0 [] [.mk 0 7 0 0 [] []] [] []]))=[] by simp[Fu.params,Pa.dats]];exact RdL.nil0 _ _) x2));exact RdL.sub (Ov.refl g w6).subw x3
theorem src_E {w:World}{K RS:Nat}{z i:Int}(hR:Bxx w RS [.slice none 0 0,.slice none 0 0]) (Q:Exit→Act→World→Prop) (HR:∀ us w2 w' (y:So) a0 n0 c0 a1 n1 c1,Later w w2→OnlyK RS w2 w'→Bxx w' RS [.slice a0 n0 c0,.slice a1 n1 c1]→SoFine y→RdL w' 2 (.slice a0 n0 c0) (Sc.dats y.structs)→RdL w' 5 (.slice a1 n1 c1) (Fu.dats y.funcs)→y.text.length≤6000→Q .ret { tmps:=([.pointer (some ⟨K,0,none⟩),.int .i64 z,us 2,us 3,.pointer (some ⟨RS,0,none⟩),.int .i64 i]++tl us 6 88).toArray,defers:=[] } w') (us:Nat→Value):Code.wp Tryz.prog srcE Q { tmps:=([.pointer (some ⟨K,0,none⟩),.int .i64 z,us 2,us 3,.pointer (some ⟨RS,0,none⟩),.int .i64 i]++tl us 6 88).toArray,defers:=[] } w:=by
 have kc:=fun (w:World) (C:Array Value) (n c g:Nat) (hg:g=w.heap.size)=>Joins.run_convert_bytes_const_at (P:=Tryz.prog) w 22 5 C n c g hg Tryz.underlying22 Tryz.underlying5;obtain⟨w1,hw1⟩:=hidx (w.alloc (.cells #[.int .u8 109,.int .u8 97,.int .u8 105,.int .u8 110] 5 (4,5)));have l1:Later w w1:=by rw[hw1.out];exact later1 _ _
 have HB:=zbu 7 w1;have HR':Hid _:=HR;clear HR;show Code.wp _ (Code.seq _ _) _ _ _
 apply wp_seq_k
 intro K2 hK2;have HK2:Hid _:=hK2;clear hK2;dsimp only [List.cons_append,List.nil_append,tl,Nat.reduceAdd];go_wp2_with fail
 rw[←hw1.out];refine HB.mono ?_;rintro e w2 ⟨rfl,l2⟩;obtain⟨w5,hw5⟩:=hidx (((w2.alloc (.cells #[.int .i64 0,.int .i64 7,.int .i64 0,.int .i64 0,.slice none 0 0,.slice none 0 0] 89)).alloc (.cells #[.int .i64 5,.int .i64 0,.int .i64 0,.int .i64 0,.slice none 0 0,.slice (some ⟨w2.heap.size,0,none⟩) 1 1,.slice none 0 0,.slice none 0 0] 92)).alloc (.cells #[.slice (some ⟨w.heap.size,0,none⟩) 4 4,.slice none 0 0,.int .i64 0,.int .i64 0,.slice (some ⟨w2.heap.size+1,0,none⟩) 1 1] 73));have l5:Later w2 w5:=by rw[hw5.out];exact ((later1 _ _).trans (later1 _ _)).trans (later1 _ _)
 have hR5:=hR.later ((l1.trans l2).trans l5);obtain⟨⟨⟨r0,r0f⟩,⟨r1,r1f⟩⟩,rl⟩:=hR5.two'
 have HZ:Hid (∀ us,Q .ret { tmps:=([.pointer (some ⟨K,0,none⟩),.int .i64 z,us 2,us 3,.pointer (some ⟨RS,0,none⟩),.int .i64 i]++tl us 6 88).toArray,defers:=[] } ((w5.setCell ⟨RS,0,none⟩ (.slice none 0 0)).setCell ⟨RS,1,none⟩ (.slice (some ⟨w2.heap.size+1+1,0,none⟩) 1 1))):=by
  intro us;have o:=((OnlyK.refl RS w5).set 0 (.slice none 0 0)).set 1 (.slice (some ⟨w2.heap.size+1+1,0,none⟩) 1 1);have b:=(hR5.set 0 (.slice none 0 0) (by simp)).set 1 (.slice (some ⟨w2.heap.size+1+1,0,none⟩) 1 1) (by simp);exact HR'.out us w5 _ litSo none 0 0 (some ⟨w2.heap.size+1+1,0,none⟩) 1 1 ((l1.trans l2).trans l5) o b litSo_fine.1 (by rw[show Sc.dats litSo.structs=[] by simp[litSo,So.structs,Sc.dats]];exact RdL.nil0 _ _) (lit_read hR.lt o hw1.out l2 hw5.out) litSo_fine.2
 rw[hw5.out]at r0 r0f r1 r1f rl;clear HB HR' l2 hR hR5 l1 l5;go_wp2_with fail
 rw[←hw5.out];refine HK2.out _ _ (wp_ret ?_);exact fr_at (R:=Q .ret) (f:=fun us=>([.pointer (some ⟨K,0,none⟩),.int .i64 z,us 2,us 3,.pointer (some ⟨RS,0,none⟩),.int .i64 i]++tl us 6 88)) (fun us=>HZ.out us) rfl
def AllB (l:List Int):Prop:=∀ z∈l,isB z
theorem allB_nil:AllB []↔True:=⟨fun _=>trivial,fun _ z h=>by cases h⟩
theorem allB_cons {x:Int}{r:List Int}:AllB (x::r)↔isB x∧AllB r:=⟨fun h=>⟨h x (List.mem_cons_self ..),fun z q=>h z (List.mem_cons_of_mem _ q)⟩,fun h z q=>by rcases List.mem_cons.1 q with rfl|q;exact h.1;exact h.2 z q⟩
theorem allB_append {a b:List Int}:AllB (a ++ b)↔AllB a∧AllB b:=⟨fun h=>⟨fun z q=>h z (List.mem_append_left _ q),fun z q=>h z (List.mem_append_right _ q)⟩,fun h z q=>(List.mem_append.1 q).elim (h.1 z) (h.2 z)⟩
theorem zak:AllB []↔True:=⟨fun _=>trivial,fun _ z h=>by cases h⟩
theorem zav {x:Int}{r:List Int}:AllB (x::r)↔isB x∧AllB r:=⟨fun h=>⟨h x (List.mem_cons_self ..),fun z q=>h z (List.mem_cons_of_mem _ q)⟩,fun h z q=>by rcases List.mem_cons.1 q with rfl|q;exact h.1;exact h.2 z q⟩
theorem zah {a b:List Int}:AllB (a++b)↔AllB a∧AllB b:=⟨fun h=>⟨fun z q=>h z (List.mem_append_left _ q),fun z q=>h z (List.mem_append_right _ q)⟩,fun h z q=>(List.mem_append.1 q).elim (h.1 z) (h.2 z)⟩
theorem zdk {c:Prop} [Decidable c] {a b:List Int}(ha:AllB a) (hb:AllB b):AllB (if c then a else b):=by
 split
 ·exact ha
 ·exact hb
theorem AllB.at {l:List Int}(h:AllB l) (j:Nat):isB (l.getD j 0):=by
 rw[List.getD_eq_getElem?_getD];rcases Nat.lt_or_ge j l.length with q|q
 ·rw[List.getElem?_eq_getElem q];exact h _ (List.getElem_mem q)
 ·rw[List.getElem?_eq_none q];exact⟨by simp,by simp⟩
theorem AllB.of {l:List Int}(h:∀ j,isB (l.getD j 0)):AllB l:=fun z q=>by
 obtain⟨j,hj,rfl⟩:=List.mem_iff_getElem.1 q;have:=h j;rw[List.getD_eq_getElem?_getD,List.getElem?_eq_getElem hj]at this;exact this
theorem allB_dec (n:Int):AllB (decL n):=AllB.of (KL.decL_isB n)
theorem allB_hexF:∀ (k u:Nat),AllB (hexF k u)
 | 0,_=>allB_nil.2 trivial
 | k+1,u=>by
  unfold hexF;refine allB_append.2 ⟨allB_hexF k _,allB_cons.2 ⟨?_,allB_nil.2 trivial⟩⟩;have:u % 16<16:=Nat.mod_lt _ (by decide);unfold hexD isB;split <;> omega
theorem allB_hex (n:Int):AllB (hexL n):=by
 unfold hexL
 generalize (n % 18446744073709551616).toNat=u
 generalize 16=k
 exact allB_append.2 ⟨allB_cons.2 ⟨by unfold isB;omega,allB_cons.2 ⟨by unfold isB;omega,allB_nil.2 trivial⟩⟩,allB_hexF k u⟩
def NmBt (l:List Sc):Prop:=∀ s∈l,AllB s.name
theorem NmBt.at {l:List Sc}(h:NmBt l) (n:Int):AllB (nmAt l n):=by
 unfold nmAt;split
 ·rename_i x hx;exact h x (List.mem_of_getElem? hx)
 ·exact allB_nil.2 trivial
theorem allB_ty {l:List Sc}(h:NmBt l) (k n:Int):AllB (sayTy l k n):=by
 unfold sayTy;have:=h.at n
 repeat' first|assumption|exact allB_nil.2 trivial|refine zdk ?_ ?_|refine allB_append.2 ⟨?_,?_⟩|refine allB_cons.2 ⟨?_,?_⟩|(unfold isB;omega)
theorem allB_op (n:Int):AllB (opL n):=by
 unfold opL
 repeat' first|assumption|exact allB_nil.2 trivial|refine zdk ?_ ?_|refine allB_append.2 ⟨?_,?_⟩|refine allB_cons.2 ⟨?_,?_⟩|(unfold isB;omega)
theorem zdb {ts:List (List Int)}(h:∀ t∈ts,AllB t) (i:Nat):AllB (kidL ts i):=by
 unfold kidL;rw[List.getD_eq_getElem?_getD];rcases Nat.lt_or_ge i ts.length with q|q
 ·rw[List.getElem?_eq_getElem q];exact h _ (List.getElem_mem q)
 ·rw[List.getElem?_eq_none q];exact allB_nil.2 trivial
theorem allB_tail:∀ (ts:List (List Int)),(∀ t∈ts,AllB t)→AllB (tailL ts)
 | [],_=>allB_nil.2 trivial
 | x::r,h=>by
  unfold tailL;have h1:=h x (List.mem_cons_self ..);have h2:=allB_tail r (fun t q=>h t (List.mem_cons_of_mem _ q))
  repeat' first|assumption|exact allB_nil.2 trivial|refine zdk ?_ ?_|refine allB_append.2 ⟨?_,?_⟩|refine allB_cons.2 ⟨?_,?_⟩|(unfold isB;omega)
theorem allB_join (ts:List (List Int)) (h:∀ t∈ts,AllB t):AllB (joinL ts):=by
 cases ts with
 | nil=>exact allB_nil.2 trivial
 | cons x r=>exact allB_append.2 ⟨h x (List.mem_cons_self ..),allB_tail r (fun t q=>h t (List.mem_cons_of_mem _ q))⟩
theorem allB_ex {l:List Sc}(hl:NmBt l) (k n tk tn:Int) {name:List Int}{ts:List (List Int)}(hn:AllB name) (ht:∀ t∈ts,AllB t):AllB (exL l k n tk tn name ts):=by
 have h1:=allB_dec n;have h2:=allB_hex n;have h3:=hl.at n;have h40:=zdb ht 0;have h41:=zdb ht 1;have h5:=allB_op n;have h6:=allB_ty hl tk tn;have h7:=allB_join ts ht;unfold exL headL
 repeat' first|assumption|exact allB_nil.2 trivial|refine zdk ?_ ?_|refine allB_append.2 ⟨?_,?_⟩|refine allB_cons.2 ⟨?_,?_⟩|(unfold isB;omega)
mutual
def Ex.nb:Ex→Prop
 | .mk _ _ _ _ name kids=>AllB name∧Ex.nbs kids
def Ex.nbs:List Ex→Prop
 | []=>True
 | x::r=>Ex.nb x∧Ex.nbs r
end
mutual
theorem Ex.say_b {l:List Sc}(hl:NmBt l):∀ (x:Ex),Ex.nb x→AllB (Ex.say l x)
 | .mk k n tk tn name kids,h=>by
  unfold Ex.nb at h;unfold Ex.say;exact allB_ex hl k n tk tn h.1 (Ex.says_b hl kids h.2)
theorem Ex.says_b {l:List Sc}(hl:NmBt l):∀ (xs:List Ex),Ex.nbs xs→∀ t∈Ex.says l xs,AllB t
 | [],_,t,q=>by unfold Ex.says at q;cases q
 | x::r,h,t,q=>by
  unfold Ex.nbs at h;unfold Ex.says at q;rcases List.mem_cons.1 q with rfl|q
  ·exact Ex.say_b hl x h.1
  ·exact Ex.says_b hl r h.2 t q
end
theorem AllB.drop {l:List Int}(h:AllB l) (n:Nat):AllB (l.drop n):=fun z q=>h z (List.mem_of_mem_drop q)
theorem zdl {t:List Int}(h:AllB t):AllB (blockL t):=by
 unfold blockL
 repeat' first|assumption|exact allB_nil.2 trivial|refine zdk ?_ ?_|refine allB_append.2 ⟨?_,?_⟩|refine allB_cons.2 ⟨?_,?_⟩|(unfold isB;omega)
theorem allB_st {l:List Sc}(hl:NmBt l) (k tk tn:Int) {name:List Int}{ts:List (List Int)}{b e:List Int}(hn:AllB name) (ht:∀ t∈ts,AllB t) (hb:AllB b) (he:AllB e):AllB (stL l k tk tn name ts b e):=by
 have h40:=zdb ht 0;have h41:=zdb ht 1;have h5:=(zdb ht 0).drop 1;have h6:=allB_ty hl tk tn;have h7:=zdl hb;have h8:=zdl he;unfold stL
 repeat' first|assumption|exact allB_nil.2 trivial|refine zdk ?_ ?_|refine allB_append.2 ⟨?_,?_⟩|refine allB_cons.2 ⟨?_,?_⟩|(unfold isB;omega)
mutual
def St.nb:St→Prop
 | .mk _ _ _ _ name kids body els=>AllB name∧Ex.nbs kids∧St.nbs body∧St.nbs els
def St.nbs:List St→Prop
 | []=>True
 | x::r=>St.nb x∧St.nbs r
end
mutual
theorem St.say_b {l:List Sc}(hl:NmBt l):∀ (x:St),St.nb x→AllB (St.say l x)
 | .mk k _ tk tn name kids body els,h=>by
  unfold St.nb at h;unfold St.say;exact allB_st hl k tk tn h.1 (Ex.says_b hl kids h.2.1) (St.says_b hl body h.2.2.1) (St.says_b hl els h.2.2.2)
theorem St.says_b {l:List Sc}(hl:NmBt l):∀ (xs:List St),St.nbs xs→AllB (St.says l xs)
 | [],_=>by unfold St.says;exact allB_nil.2 trivial
 | x::r,h=>by
  unfold St.nbs at h;unfold St.says;exact allB_append.2 ⟨St.say_b hl x h.1,St.says_b hl r h.2⟩
end
mutual
def Dat.nb:Dat→Prop
 | .int _=>True
 | .bytes zs=>AllB zs
 | .agg fs=>Dat.nbs fs
 | .list _ l=>Dat.nbs l
def Dat.nbs:List Dat→Prop
 | []=>True
 | d::r=>Dat.nb d∧Dat.nbs r
end
mutual
theorem RdD.nb {w:World}:∀ (d:Dat) {cs:List Value},RdD w d cs→Dat.nb d
 | .int n,cs,_=>by rw[Dat.nb];trivial
 | .bytes zs,cs,h=>by
  rw[RdD]at h;obtain⟨v,_,hr⟩:=h;rw[Dat.nb];obtain⟨_,_,_,_,hz,_⟩:=hr.rd;exact AllB.of hz
 | .agg fs,cs,h=>by rw[RdD]at h;rw[Dat.nb];exact RdAgg.nb fs h
 | .list k l,cs,h=>by
  rw[RdD]at h;obtain⟨_,_,_,_,hr⟩:=h;rw[Dat.nb];exact RdAll.nb l hr
theorem RdAgg.nb {w:World}:∀ (fs:List Dat) {cs:List Value},RdAgg w fs cs→Dat.nbs fs
 | [],cs,_=>by rw[Dat.nbs];trivial
 | d::r,cs,h=>by
  rw[RdAgg]at h;obtain⟨c1,c2,_,h1,h2⟩:=h;rw[Dat.nbs];exact⟨RdD.nb d h1,RdAgg.nb r h2⟩
theorem RdAll.nb {w:World}{k:Nat}{a:Option Addr}:∀ (l:List Dat) {i:Nat},RdAll w k a i l→Dat.nbs l
 | [],i,_=>by rw[Dat.nbs];trivial
 | d::r,i,h=>by
  rw[RdAll]at h;obtain⟨⟨_,_,_,_,_,_,_,hd⟩,hr⟩:=h;rw[Dat.nbs];exact⟨RdD.nb d hd,RdAll.nb r hr⟩
end
theorem RdL.nb {w:World}{k:Nat}{v:Value}{l:List Dat}(h:RdL w k v l):Dat.nbs l:=by
 have:=RdD.nb _ (RdL.iff.2 ⟨v,rfl,h⟩)
 rwa [Dat.nb]at this
theorem Pa.nb_of:∀ (l:List Pa),Dat.nbs (Pa.dats l)→∀ p∈l,AllB p.name
 | .mk n k t::r,h,p,q=>by
  rw[Pa.dats,Dat.nbs,Pa.dat,Dat.nb,Dat.nbs,Dat.nb]at h;rcases List.mem_cons.1 q with rfl|q
  ·exact h.1.1
  ·exact Pa.nb_of r h.2 p q
theorem Sc.nb_of:∀ (l:List Sc),Dat.nbs (Sc.dats l)→∀ s∈l,AllB s.name∧∀ p∈s.fields,AllB p.name
 | .mk n fs::r,h,s,q=>by
  rw[Sc.dats,Dat.nbs,Sc.dat,Dat.nb,Dat.nbs,Dat.nb,Dat.nbs,Dat.nb]at h;rcases List.mem_cons.1 q with rfl|q
  ·exact⟨h.1.1,Pa.nb_of fs h.1.2.1⟩
  ·exact Sc.nb_of r h.2 s q
mutual
theorem Ex.nb_of:∀ (x:Ex),Dat.nb x.dat→Ex.nb x
 | .mk _ _ _ _ name kids,h=>by
  rw[Ex.dat,Dat.nb]at h;simp only[Dat.nbs,Dat.nb,true_and,and_true]at h;rw[Ex.nb];exact⟨h.1,Ex.nbs_of kids h.2⟩
theorem Ex.nbs_of:∀ (l:List Ex),Dat.nbs (Ex.dats l)→Ex.nbs l
 | [],_=>by rw[Ex.nbs];trivial
 | x::r,h=>by
  rw[Ex.dats,Dat.nbs]at h;rw[Ex.nbs];exact⟨Ex.nb_of x h.1,Ex.nbs_of r h.2⟩
end
mutual
theorem St.nb_of:∀ (x:St),Dat.nb x.dat→St.nb x
 | .mk _ _ _ _ name kids body els,h=>by
  rw[St.dat,Dat.nb]at h;simp only[Dat.nbs,Dat.nb,true_and,and_true]at h;rw[St.nb];exact⟨h.1,Ex.nbs_of kids h.2.1,St.nbs_of body h.2.2.1,St.nbs_of els h.2.2.2⟩
theorem St.nbs_of:∀ (l:List St),Dat.nbs (St.dats l)→St.nbs l
 | [],_=>by rw[St.nbs];trivial
 | x::r,h=>by
  rw[St.dats,Dat.nbs]at h;rw[St.nbs];exact⟨St.nb_of x h.1,St.nbs_of r h.2⟩
end
theorem paL_b {l:List Sc}(hl:NmBt l) (p:Pa) (h:AllB p.name):AllB (paL l p):=allB_append.2 ⟨h,allB_ty hl _ _⟩
theorem fieldsL_b {l:List Sc}(hl:NmBt l):∀ (xs:List Pa),(∀ p∈xs,AllB p.name)→AllB (fieldsL l xs)
 | [],_=>allB_nil.2 trivial
 | x::r,h=>by
  have h1:=paL_b hl x (h x (List.mem_cons_self ..));have h2:=fieldsL_b hl r (fun p q=>h p (List.mem_cons_of_mem _ q));unfold fieldsL
  repeat' first|assumption|exact allB_nil.2 trivial|refine allB_append.2 ⟨?_,?_⟩|refine allB_cons.2 ⟨?_,?_⟩|(unfold isB;omega)
theorem scsL_b {l:List Sc}(hl:NmBt l):∀ (xs:List Sc),(∀ s∈xs,AllB s.name∧∀ p∈s.fields,AllB p.name)→AllB (scsL l xs)
 | [],_=>allB_nil.2 trivial
 | x::r,h=>by
  have h0:=(h x (List.mem_cons_self ..)).1;have h1:=fieldsL_b hl x.fields (h x (List.mem_cons_self ..)).2;have h2:=scsL_b hl r (fun p q=>h p (List.mem_cons_of_mem _ q));unfold scsL scL
  repeat' first|assumption|exact allB_nil.2 trivial|refine allB_append.2 ⟨?_,?_⟩|refine allB_cons.2 ⟨?_,?_⟩|(unfold isB;omega)
theorem fusL_b {l:List Sc}(hl:NmBt l):∀ (xs:List Fu),Dat.nbs (Fu.dats xs)→AllB (fusL l xs)
 | [],_=>allB_nil.2 trivial
 | .mk name params rk rn body::r,h=>by
  rw[Fu.dats,Dat.nbs,Fu.dat,Dat.nb]at h;simp only[Dat.nbs,Dat.nb,true_and,and_true]at h;have h0:AllB (Fu.mk name params rk rn body).name:=h.1.1
  have h1:AllB (joinL ((Fu.mk name params rk rn body).params.map fun p=>32::paL l p)):=allB_join _ fun t q=>by
   obtain⟨p,hp,rfl⟩:=List.mem_map.1 q;exact allB_cons.2 ⟨by unfold isB;omega,paL_b hl p (Pa.nb_of params h.1.2.1 p hp)⟩
  have h2:AllB (blockL (St.says l (Fu.mk name params rk rn body).body)):=zdl (St.says_b hl body (St.nbs_of body h.1.2.2));have h3:=allB_ty hl (Fu.mk name params rk rn body).rk (Fu.mk name params rk rn body).rn;have h4:=fusL_b hl r h.2;unfold fusL fuL
  repeat' first|assumption|exact allB_nil.2 trivial|refine allB_append.2 ⟨?_,?_⟩|refine allB_cons.2 ⟨?_,?_⟩|(unfold isB;omega)
theorem text_isB {x:So}{w:World}{v0 v1:Value}(h0:RdL w 2 v0 (Sc.dats x.structs)) (h1:RdL w 5 v1 (Fu.dats x.funcs)):∀ j,isB (x.text.getD j 0):=by
 have hs:=Sc.nb_of _ h0.nb;have hl:NmBt x.structs:=fun s q=>(hs s q).1;exact AllB.at (allB_append.2 ⟨scsL_b hl _ hs,fusL_b hl _ h1.nb⟩)
theorem source_any {B K:Nat}{a:Option Addr}{len cap:Nat}{w:World}(hc:Cur B K a len cap w) (z:Int) (hz0:2≤z) (hz1:z≤4):Calls Tryz.prog 22 #[.pointer (some ⟨K,0,none⟩),.int .i64 z] w (SoP B K a len cap w):=by
 have HF:Hid (∀ (us:Nat→Value) w2 w' (y:So) a0 n0 c0 a1 n1 c1,At B K a len cap w w2→OnlyK w.heap.size w2 w'→Bxx w' w.heap.size [.slice a0 n0 c0,.slice a1 n1 c1]→SoFine y→RdL w' 2 (.slice a0 n0 c0) (Sc.dats y.structs)→RdL w' 5 (.slice a1 n1 c1) (Fu.dats y.funcs)→y.text.length≤6000→bodyPost Tryz.prog Tryz.f22 (SoP B K a len cap w) .ret { tmps:=([.pointer (some ⟨K,0,none⟩),.int .i64 z,us 2,us 3,.pointer (some ⟨w.heap.size,0,none⟩),us 5]++tl us 6 88).toArray,defers:=[] } w'):=by
  intro us w2 w' y a0 n0 c0 a1 n1 c1 h o b fine d0 d1 ht;obtain⟨⟨⟨e0,_⟩,⟨e1,_⟩⟩,_⟩:=b.two';refine bodyPost_ret (v:=.agg #[.slice a0 n0 c0,.slice a1 n1 c1]) ?_ rfl ⟨_,_,y,rfl,fine,d0,d1,ht,text_isB d0 d1,h.res hc.hK o (Nat.le_refl _)⟩;simp[results,Tryz.results22,go_sem,e0,e1]
 have a1:At B K a len cap w (w.alloc (.cells #[.slice none 0 0,.slice none 0 0] 46)):=(At.start hc).alloc _;have b1:=Bxx.new w #[.slice none 0 0,.slice none 0 0] 46;have hKR:=hc.hK
 generalize hQ:SoP B K a len cap w=Q at *
 clear hQ hc;go_enter Tryz.func22,Tryz.ntmps22;show Code.wp _ (Code.seq _ (Code.seq (Code.seq _ _) _)) _ _ _
 apply wp_seq_k
 intro K1 hK1;have HK1:Hid _:=hK1;clear hK1;go_wp2_with fail
 refine HK1.out _ _ ?_;clear HK1
 generalize w.alloc (.cells #[.slice none 0 0,.slice none 0 0] 46)=w1 at *
 apply wp_seq_k
 intro K2 hK2
 have HE:Hid (∀ us (i:Int) w',At B K a len cap w w'→Bxx w' w.heap.size [.slice none 0 0,.slice none 0 0]→K2 { tmps:=([.pointer (some ⟨K,0,none⟩),.int .i64 z,us 2,us 3,.pointer (some ⟨w.heap.size,0,none⟩),.int .i64 i]++tl us 6 88).toArray,defers:=[] } w'):=fun us i w' h b=>by
  refine hK2 _ _ ?_
  exact src_E b _ (fun us2 w2 w3 y a0 n0 c0 a1 n1 c1 l2=>by
   have:=HF.out (fun j=>if j=5 then .int .i64 i else us2 j) w2 w3 y a0 n0 c0 a1 n1 c1 (h.later l2)
   exact this) us
 clear hK2
 apply wp_seq_k
 intro K3 hK3;have HK3:Hid _:=hK3;clear hK3;go_wp2_with fail
 refine HK3.out _ _ ?_;clear HK3;refine wp_block ?_;refine wp_loop (fun a' w'=>∃ (us:Nat→Value) (i:Int),a'={ tmps:=([.pointer (some ⟨K,0,none⟩),.int .i64 z,us 2,us 3,.pointer (some ⟨w.heap.size,0,none⟩),.int .i64 i]++tl us 6 88).toArray,defers:=[] }∧0≤i∧i≤4∧At B K a len cap w w'∧Bxx w' w.heap.size [.slice none 0 0,.slice none 0 0]) (fun a' _=>4 - (intOf (a'.tmps.getD 5 undef)).toNat) ?start ?round
 case start=>exact⟨fun _=>undef,0,rfl,by decide,by decide,a1,b1⟩
 case round =>
  clear a1 b1;rintro a' w' ⟨us,i,rfl,hi0,hi4,a1,b1⟩;show Code.wp _ (Code.seq (Code.seq _ _) _) _ _ _
  apply wp_seq_k
  intro K5 hK5;have HK5:Hid _:=hK5;clear hK5
  apply wp_seq_k
  intro K6 hK6;have HK6:Hid _:=hK6;clear hK6;dsimp only [List.cons_append,List.nil_append,tl,Nat.reduceAdd];by_cases hlt:i<4
  ·have qk:IntKind.i64.wrap (i+1)=i+1:=by rw[IntKind.wrap_i64];omega
   have HB:Hid (∀ us (Qx:Exit→Act→World→Prop),(∀ us w2,At B K a len cap w' w2→Qx .normal { tmps:=([.pointer (some ⟨K,0,none⟩),.int .i64 z,us 2,us 3,.pointer (some ⟨w.heap.size,0,none⟩),.int .i64 i]++tl us 6 88).toArray,defers:=[] } w2)→(∀ us w2 w3 (y:So) a0 n0 c0 a1 n1 c1,At B K a len cap w' w2→OnlyK w.heap.size w2 w3→Bxx w3 w.heap.size [.slice a0 n0 c0,.slice a1 n1 c1]→SoFine y→RdL w3 2 (.slice a0 n0 c0) (Sc.dats y.structs)→RdL w3 5 (.slice a1 n1 c1) (Fu.dats y.funcs)→y.text.length≤6000→Qx .ret { tmps:=([.pointer (some ⟨K,0,none⟩),.int .i64 z,us 2,us 3,.pointer (some ⟨w.heap.size,0,none⟩),.int .i64 i]++tl us 6 88).toArray,defers:=[] } w3)→Code.wp Tryz.prog srcB Qx { tmps:=([.pointer (some ⟨K,0,none⟩),.int .i64 z,us 2,us 3,.pointer (some ⟨w.heap.size,0,none⟩),.int .i64 i]++tl us 6 88).toArray,defers:=[] } w'):=fun us Qx hn hr=>src_B a1.cur z i hz0 hz1 hi0 (by omega) b1 (by omega) Qx hn hr us;clear HE;go_wp2_with fail
   refine HK6.out _ _ ?_;clear HK6;refine wp_cond_true rfl (wp_skip ?_);refine HK5.out _ _ ?_;clear HK5;show Code.wp _ (Code.seq _ _) _ _ _
   apply wp_seq_k
   intro K7 hK7;refine wp_block ?_;refine zbb (f:=fun us=>([.pointer (some ⟨K,0,none⟩),.int .i64 z,us 2,us 3,.pointer (some ⟨w.heap.size,0,none⟩),.int .i64 i]++tl us 6 88)) (fun us=>HB.out us _ ?_ ?_) rfl
   ·intro us w2 h2;refine hK7 _ _ ?_;clear hK7 HB
    have hA:At B K a len cap w w2:=⟨h2.cur,a1.only.trans h2.only⟩
    have hB2:Bxx w2 w.heap.size [.slice none 0 0,.slice none 0 0]:=b1.only h2.only (by omega);dsimp only [List.cons_append,List.nil_append,tl,Nat.reduceAdd];go_wp2_with fail
    refine⟨⟨updS (updS us 13 (.int .i64 i)) 14 (.int .i64 (i+1)),i+1,rfl,by omega,by omega,hA,hB2⟩,?_⟩;show 4 - (intOf (.int .i64 (i+1))).toNat<4 - (intOf (.int .i64 i)).toNat;dsimp only [intOf];omega
   ·intro us w2 w3 y a0 n0 c0 a1' n1 c1 h2;have:=HF.out (fun j=>if j=5 then .int .i64 i else us j) w2 w3 y a0 n0 c0 a1' n1 c1 ⟨h2.cur,a1.only.trans h2.only⟩;exact this
  ·clear HK5;go_wp2_with fail
   refine HK6.out _ _ ?_;refine wp_cond_false rfl (wp_exit ?_);show K2 _ _;exact fr_at (R:=K2) (f:=fun us=>([.pointer (some ⟨K,0,none⟩),.int .i64 z,us 2,us 3,.pointer (some ⟨w.heap.size,0,none⟩),.int .i64 i]++tl us 6 88)) (fun us=>HE.out us i w' a1 b1) rfl
theorem five_rdF (w:World):RdB (w.alloc (.cells #[.int .u8 120,.int .u8 32,.int .u8 45,.int .u8 32,.int .u8 53] 5 (5,6))) (.slice (some ⟨w.heap.size,0,none⟩) 5 5) [120,32,45,32,53]:=by
 have hb:=Bxx.newF w [.int .u8 120,.int .u8 32,.int .u8 45,.int .u8 32,.int .u8 53] 5;refine⟨_,5,rfl,by decide,fun j=>?_,fun j hj=>⟨w.heap.size,0,rfl,hb.lt,?_⟩⟩
 ·rcases (show j=0∨j=1∨j=2∨j=3∨j=4∨5≤j by omega) with rfl|rfl|rfl|rfl|rfl|q
  ·exact⟨by decide,by decide⟩
  ·exact⟨by decide,by decide⟩
  ·exact⟨by decide,by decide⟩
  ·exact⟨by decide,by decide⟩
  ·exact⟨by decide,by decide⟩
  ·rw[List.getD_eq_getElem?_getD,List.getElem?_eq_none (by simpa using q)];exact⟨by simp,by simp⟩
 ·have hj5:j<5:=hj;rcases (show j=0∨j=1∨j=2∨j=3∨j=4 by omega) with rfl|rfl|rfl|rfl|rfl <;> rw[Nat.zero_add] <;> exact (hb.cell _ _ rfl).1
theorem lawtok_any {a:Option Addr}{len:Nat}(cap:Nat) {w:World}(hb:Bytes w a len) (hE:LEnv w):Calls Tryz.prog 3 #[.slice a len cap] w fun e w'=>e=.returned (.bool true)∧Later w w':=by
 by_cases hs:(60000:Int)<(len:Int)
 ·go_enter Tryz.func3,Tryz.ntmps3;go_wp2_with fail
  refine (big_any a len cap w).mono ?_;rintro e w0 ⟨rfl,rfl⟩;go_wp2_with fail
  go_ret;exact⟨rfl,Later.refl _⟩
 ·have hs':decide ((60000:Int)<(len:Int))=false:=decide_eq_false hs;have kc:=fun (w:World) (C:Array Value) (n c g:Nat) (hg:g=w.heap.size)=>Joins.run_convert_bytes_const_at (P:=Tryz.prog) w 22 5 C n c g hg Tryz.underlying22 Tryz.underlying5
  obtain⟨Q,hQ⟩:∃ Q:Ending→World→Prop,Q=fun e w'=>e=.returned (.bool true)∧Later w w':=⟨_,rfl⟩
  rw[←hQ];have HZ:Hid (∀ w',Later w w'→Q (.returned (.bool true)) w'):=fun w' r=>by rw[hQ];exact⟨rfl,r⟩
  clear hQ;obtain⟨W0,hW0⟩:=hidx (w.alloc (.cells #[.int .u8 120,.int .u8 32,.int .u8 45,.int .u8 32,.int .u8 53] 5 (5,6)));have l0:Later w W0:=by rw[hW0.out];exact later1 _ _
  have hfive:RdB W0 (.slice (some ⟨w.heap.size,0,none⟩) 5 5) [120,32,45,32,53]:=by rw[hW0.out];exact five_rdF w
  have hE0:=hE.later l0
  have HB:Hid (Bytes w a len∧LEnv w):=⟨hb,hE⟩
  clear hb hE;go_enter Tryz.func3,Tryz.ntmps3;show Code.wp _ (Code.seq _ (Code.seq (Code.seq _ _) (Code.seq _ (Code.seq (Code.seq _ _) (Code.seq _ (Code.seq _ _)))))) _ _ _
  apply wp_seq_k
  intro K0 hK0;have HK0:Hid _:=hK0;clear hK0;go_wp2_with fail
  refine HK0.out _ _ ?_;clear HK0
  apply wp_seq_k
  intro K1 hK1;have HK1:Hid _:=hK1;clear hK1
  apply wp_seq_k
  intro K2 hK2;have HK2:Hid _:=hK2;clear hK2;go_wp2_with fail
  refine (big_any a len cap w).mono ?_;rintro e w0 ⟨rfl,rfl⟩;go_wp2_with fail
  refine HK2.out _ _ ?_;clear HK2;refine wp_cond_false rfl (wp_skip ?_);refine HK1.out _ _ ?_;clear HK1
  apply wp_seq_k
  intro K3 hK3;have HK3:Hid _:=hK3;clear hK3;go_wp2_with fail
  rw[←hW0.out];refine ilexO_any _ 5 [120,32,45,32,53] _ hfive (by decide) (by decide) (by unfold maxLen;decide) hE0 _ ?_;refine fun tv i ps w1 e1 o1 _ l1=>?_;rw[lex_one,Prod.mk.injEq]at e1;obtain⟨e1,rfl⟩:=e1;have hp3:ps.length=3:=by rw[←List.length_map (f:=fun x=>x.fst),← e1];rfl
  obtain⟨g1,c1,ta,tc,rfl,k0,k1,k3,hq⟩:=out_tok o1 1 (by omega)
  have hk:ps[1].1.1=4:=by
   have:(ps.map (fun x=>x.fst))[1]?=some (4,2,0,[45]):=by rw[←e1];rfl
   rw[List.getElem?_map,List.getElem?_eq_getElem (by omega)]at this;simp only[Option.map_some,Option.some.injEq]at this;rw[this]
  rw[hk,Nat.one_mul]at k0;have LA:Hid (Later w0 w1):=l0.trans l1;rw[hp3];clear hq k1 k3 e1 o1 l0 l1 hfive hE0 hW0 hk hp3 kc;go_wp2_with fail
  refine HK3.out _ _ ?_;clear HK3
  apply wp_seq_k
  intro K4 hK4;have HK4:Hid _:=hK4;clear hK4
  apply wp_seq_k
  intro K5 hK5;have HK5:Hid _:=hK5;clear hK5;go_wp2_with fail
  refine HK5.out _ _ ?_;clear HK5;refine wp_cond_false rfl (wp_skip ?_);refine HK4.out _ _ ?_;clear HK4 k0
  apply wp_seq_k
  intro K6 hK6;have HK6:Hid _:=hK6;clear hK6;have HD:=draw_any cap (HB.out.1.later LA.out) (fun B K w' z hc z2 z4=>source_any hc z z2 z4);go_wp2_with fail
  refine HD.mono ?_;rintro e w2 ⟨u,zs,rfl,o2,r2,hl2,l2⟩;obtain⟨a2,c2,hu⟩:=zac o2;subst hu;obtain⟨hc1,hc2⟩:=zct o2;have LB:Hid (Later w0 w2):=LA.out.trans l2;have HX:=ilexO_any a2 c2 zs w2 r2 (by omega) hc1 hc2 (HB.out.2.later LB.out);have R2:Hid (RdB w2 (.slice a2 zs.length c2) zs):=r2;clear HD HB LA o2 r2 l2 hc1 hc2;go_wp2_with fail
  refine HK6.out _ _ ?_;clear HK6
  apply wp_seq_k
  intro K7 hK7;have HK7:Hid _:=hK7;clear hK7;go_wp2_with fail
  refine HX _ ?_;refine fun tv i ps w3 e3 o3 n3 l3=>?_;clear HX;obtain⟨va,vc,hv⟩:=zac o3.row;subst hv
  have X3:Hid (KL.lexL zs=(ps.map (·.1),i)∧KL.OutF w2.heap.size w3 (.slice va ps.length vc) ps∧ps.length≤6000∧Later w2 w3):=⟨e3,o3,n3,l3⟩
  clear e3 o3 n3 l3;go_wp2_with fail
  refine HK7.out _ _ ?_;refine zbb (f:=fun us=>([us 0,us 1,us 2,us 3,us 4,.slice a2 zs.length c2,.slice va ps.length vc,.int .i64 i,us 8]++tl us 9 112)) (fun us=>?_) rfl;exact law_T (R2.out.later X3.out.2.2.2) X3.out.2.1 X3.out.2.2.1 X3.out.1 Q (fun w' l'=>HZ.out w' ((LB.out.trans X3.out.2.2.2).trans l')) us
end Go.Proofs.YtgholpilmdebmaaGreatDoor
