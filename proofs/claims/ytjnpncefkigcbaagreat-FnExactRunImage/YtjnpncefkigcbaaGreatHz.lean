import Derived.Test.YtjnpncefkigcbaaGreatHk
set_option maxHeartbeats 100000000
set_option maxRecDepth 100000
namespace Go.Proofs.YtjnpncefkigcbaaGreat
open Go.RowKit Go.Lib Go.Maps
theorem imove_any {C:Cx}(hC:CxI C) {w:World}{s:Vm}{e:Nat}{cp iv ov rv:Value}(h:Pv C w s e cp iv ov rv) {a:Nat}(ha:a+(1+szW C.x (s.W a))≤C.N) (hf:s.free+(1+szW C.x (s.W a))≤C.N) (h1:12000≤s.free) (hg:Good C.x (s.W a)) :
  Calls Tryz.prog 166 #[.pointer (some ⟨C.P,0,none⟩),.int .i64 (a:Int)] w (MvQ C w (.returned (.int .i64 (s.free:Int))) (s.mv C.x a) e cp iv ov rv):=by
 have hN:=hC.hN;have hM:=hC.hM;have h4:=hC.h4;have hsz:Hid (∀ w',Later w w'→Calls Tryz.prog 162 #[.pointer (some ⟨C.P,0,none⟩),.int .i64 (a:Int)] w' (DrQ (.returned (.int .i64 ((1+szW C.x (s.W a):Nat):Int))) w')):=fun w' l=>isizeAt_any hC (h.kept l) (by omega) hg
 obtain⟨sz,hsze⟩:∃ sz,sz=1+szW C.x (s.W a):=⟨_,rfl⟩
 have hz1:1≤sz:=by omega
 rw[←hsze]at hsz ha hf;have HK:Hid (∀ w',Later w w'→Pv C w' s e cp iv ov rv):=fun w' l=>h.kept l;have HC9:Hid (∀ w',Later w w'→w'.cell? ⟨C.P,9,none⟩=some (.slice (some ⟨C.WB,0,none⟩) C.N C.N)):=fun w' l=>(h.kept l).c9.1;obtain⟨c64,z64⟩:=h.c64;obtain⟨c65,_⟩:=h.c65;obtain⟨c9,_⟩:=h.c9
 have HZ:Hid (∀ w1 w2,Later w w1→w2=(((w1.setCells C.WB s.free ((List.range sz).map (fun j=>Value.int .i64 (s.W (a+j))))).setCell ⟨C.P,64,none⟩ (.int .i64 ((s.free+sz:Nat):Int))).setCell ⟨C.PB,s.free - 12000,none⟩ (.int .i64 (s.free:Int))) →
   MvQ C w (.returned (.int .i64 (s.free:Int))) (s.mv C.x a) e cp iv ov rv (.returned (.int .i64 (s.free:Int))) w2):=by
  rintro w1 w2 l rfl;refine⟨rfl,?_,(((OnlyM.of_later l).setWs _ _).setP _ _).setL _ _⟩;have p1:=(h.kept l).setWs hC hf (fun j=>s.W (a+j));have p2:=p1.setP hC (s':={ s with W:=fun b=>if s.free≤b∧b<s.free+sz then s.W (a+(b - s.free)) else s.W b,free:=s.free+sz }) (o:=64) (v:=.int .i64 ((s.free+sz:Nat):Int)) (by decide) (e':=e) (cp':=cp) (map_ext rfl) rfl rfl rfl rfl rfl;have p3:=p2.setL hC (a:=s.free - 12000) (by omega) s.free;refine p3.conv (s':=s.mv C.x a) (fun b=>?_) (fun b=>?_) (by unfold Vm.mv;rw[←hsze])
  ·show (if s.free≤b∧b<s.free+(1+szW C.x (s.W a)) then s.W (b - s.free+a) else s.W b)=if s.free≤b∧b<s.free+sz then s.W (a+(b - s.free)) else s.W b
   rw[←hsze,Nat.add_comm a]
  ·show fset s.pl s.free s.free b=fset s.pl (12000+(s.free - 12000)) s.free b;rw[show 12000+(s.free - 12000)=s.free by omega]
 generalize MvQ C w (.returned (.int .i64 (s.free:Int))) (s.mv C.x a) e cp iv ov rv=Q at *
 have hcs:∀ w',Later w w'→(∀ (j:Nat) (v:Value),((List.range sz).map (fun j=>Value.int .i64 (s.W (a+j))))[j]?=some v→w'.cell? ((⟨C.WB,a,none⟩:Addr).add j)=some v)∧(∀ j,j<sz→(w'.cell? ⟨C.WB,s.free+j,none⟩).isSome=true∧w'.frozen? ⟨C.WB,s.free+j,none⟩=false):=by
  intro w' l;have p:=HK.out w' l;refine⟨fun j v hj=>?_,fun j hj=>?_⟩
  ·have hj':j<sz:=by
    rcases Nat.lt_or_ge j sz with q|q
    ·exact q
    ·rw[List.getElem?_eq_none (by simpa using q)]at hj;cases hj
   rw[List.getElem?_map,List.getElem?_range hj']at hj
   cases hj
   rw[Addr.add_lit];exact (p.word (by omega)).1
  ·have:=p.word (a:=s.free+j) (by omega);exact⟨by rw[this.1];rfl,this.2⟩
 have HCS:Hid (∀ w',Later w w'→(∀ (j:Nat) (v:Value),((List.range sz).map (fun j=>Value.int .i64 (s.W (a+j))))[j]?=some v→w'.cell? ((⟨C.WB,a,none⟩:Addr).add j)=some v)∧(∀ j,j<sz→(w'.cell? ⟨C.WB,s.free+j,none⟩).isSome=true∧w'.frozen? ⟨C.WB,s.free+j,none⟩=false)):=hcs
 have hone:Hid (∀ v∈(List.range sz).map (fun j=>Value.int .i64 (s.W (a+j))),v.oneCell'=true):=by
  intro v hv;obtain⟨j,_,rfl⟩:=List.mem_map.1 hv;rfl
 have hlen:Hid (((List.range sz).map (fun j=>Value.int .i64 (s.W (a+j)))).length=sz):=by show _=_;simp
 have H64:Hid (∀ w1,Later w w1→(w1.setCells C.WB s.free ((List.range sz).map (fun j=>Value.int .i64 (s.W (a+j))))).cell? ⟨C.P,64,none⟩=some (.int .i64 (s.free:Int))∧(w1.setCells C.WB s.free ((List.range sz).map (fun j=>Value.int .i64 (s.W (a+j))))).cell? ⟨C.P,9,none⟩=some (.slice (some ⟨C.WB,0,none⟩) C.N C.N)∧(w1.setCells C.WB s.free ((List.range sz).map (fun j=>Value.int .i64 (s.W (a+j))))).cell? ⟨C.P,65,none⟩=some (.slice (some ⟨C.PB,0,none⟩) C.M C.M)
   ∧ (w1.setCells C.WB s.free ((List.range sz).map (fun j=>Value.int .i64 (s.W (a+j))))).frozen? ⟨C.P,64,none⟩=false∧(w1.setCells C.WB s.free ((List.range sz).map (fun j=>Value.int .i64 (s.W (a+j))))).cell? ⟨C.PB,s.free - 12000,none⟩=some (.int .i64 (s.pl s.free:Int))∧(w1.setCells C.WB s.free ((List.range sz).map (fun j=>Value.int .i64 (s.W (a+j))))).frozen? ⟨C.PB,s.free - 12000,none⟩=false):=fun w1 l=>by
  have p1:=(h.kept l).setWs hC hf (fun j=>s.W (a+j));have q:=p1.place hC h1 (by omega);exact⟨p1.c64.1,p1.c9.1,p1.c65.1,p1.c64.2,q.1,q.2⟩
 obtain⟨cs,hcse⟩:∃ cs,cs=(List.range sz).map (fun j=>Value.int .i64 (s.W (a+j))):=⟨_,rfl⟩
 rw[←hcse]at HZ HCS hone hlen H64
 have HD:Hid (∀ w',Later w w'→w'.cell? ⟨C.P,64,none⟩=some (.int .i64 (s.free:Int))∧w'.cell? ⟨C.P,9,none⟩=some (.slice (some ⟨C.WB,0,none⟩) C.N C.N)):=fun w' l=>⟨(h.kept l).c64.1,(h.kept l).c9.1⟩
 have hSZ:Hid (∀ w',Later w w'→Calls Tryz.prog 162 #[.pointer (some ⟨C.P,0,none⟩),.int .i64 (a:Int)] w' (fun n w2=>∃ v,n=.returned v∧v=.int .i64 (sz:Int)∧Later w w2)):=fun w' l=>(hsz.out w' l).mono (by rintro n w2 ⟨rfl,k,rfl⟩;exact⟨_,rfl,rfl,l.trans (Later.drewN' _ _)⟩);clear hcs hcse HK hg h hsze hsz;have n1:¬ C.N=s.free:=by omega
 have n2:¬ C.N=a:=by omega
 have i1:(s.free:Int)≤(C.N:Int):=by omega
 obtain⟨b,hb⟩:∃ b,b=a+sz:=⟨_,rfl⟩
 have hw1:IntKind.i64.wrap ((a:Int)+(sz:Int))=(b:Int):=by rw[IntKind.wrap_i64];omega
 have i2:(b:Int)≤(C.N:Int):=by omega
 have i3:a≤b:=by omega
 have i6:b - a=sz:=by omega
 obtain⟨G,hG⟩:∃ G,G=s.free+sz:=⟨_,rfl⟩
 have hw2:IntKind.i64.wrap ((s.free:Int)+(sz:Int))=(G:Int):=by rw[IntKind.wrap_i64];omega
 rw[←hG]at HZ;clear hb hG;have i4:(s.free:Int) - 12000=((s.free - 12000:Nat):Int):=by omega
 have i5:((s.free - 12000:Nat):Int)<(C.M:Int):=by omega
 have hmin:Hid (sz=Nat.min sz (C.N - s.free)):=by show sz=min sz _;omega
 have d2:=hC.d2;have i7:((s.free - 12000:Nat):Int)≤40000:=by omega
 have i8:wrap64 ((s.free - 12000:Nat):Int)=((s.free - 12000:Nat):Int):=by unfold wrap64;omega
 clear hN hM h4 ha hf h1 hC hz1
 generalize s.free - 12000=fo at *
 generalize s.free=F at *
 generalize s.pl F=plf at *
 go_enter Tryz.func166,Tryz.ntmps166;go_wp2_with fail
 refine wp_region_held_drew (S:=fun w'=>w'.cell? ⟨C.P,9,none⟩=some (.slice (some ⟨C.WB,0,none⟩) C.N C.N)) (by kernel_rfl) (HC9.out _ (Later.drew _)) (fun hHeld=>?_);refine tk 0 (.pointer (some ⟨C.P,0,none⟩)) rfl ?_;(try go_simp);refine tk 1 (.pointer (some ⟨C.P,0,none⟩)) rfl ?_;(try go_simp);refine tk 2 (.pointer (some ⟨C.P,64,none⟩)) rfl ?_;(try go_simp);refine tk 4 (.pointer (some ⟨C.P,0,none⟩)) rfl ?_;(try go_simp);refine tk 5 (.pointer (some ⟨C.P,0,none⟩)) rfl ?_;(try go_simp);refine tk 6 (.pointer (some ⟨C.P,9,none⟩)) rfl ?_;(try go_simp);refine tk 7 (.slice (some ⟨C.WB,0,none⟩) C.N C.N) rfl ?_;(try go_simp);refine tk 8 (.int .i64 (F:Int)) rfl ?_;(try go_simp);refine tk 9 (.slice (some ⟨C.WB,F,none⟩) (C.N - F) (C.N - F)) rfl ?_;(try go_simp);refine tk 10 (.pointer (some ⟨C.P,0,none⟩)) rfl ?_;(try go_simp);refine tk 11 (.pointer (some ⟨C.P,0,none⟩)) rfl ?_;(try go_simp);refine tk 12 (.pointer (some ⟨C.P,9,none⟩)) rfl ?_;(try go_simp);refine tk 13 (.slice (some ⟨C.WB,0,none⟩) C.N C.N) rfl ?_;(try go_simp);refine tk 14 (.int .i64 (a:Int)) rfl ?_;(try go_simp);refine tk 15 (.int .i64 (a:Int)) rfl ?_;(try go_simp);refine tk 16 (.pointer (some ⟨C.P,0,none⟩)) rfl ?_;(try go_simp);refine tk 17 (.int .i64 (a:Int)) rfl ?_;(try go_simp);refine wpAnyH_ready (rs:=[3,18]) (by kernel_rfl) (by simp) ?_;refine (AllReadyH.cons rfl (fun K hK=>?_) (AllReadyH.cons rfl (fun K hK=>?_) AllReadyH.nil))
 ·go_simp;refine hK.out _ _ ?_ (fun hHeld=>?_)
  ·first|assumption|exact HC9.out _ (Later.drew _)|exact d9s|(show World.cell? _ _=_;first|(rw[set_off _ _ _ (by decide)];assumption))
  clear hK K;(try go_simp);refine rd1 18 rfl fun K hK=>?_;refine step_call rfl 162 en_sizeAt _ _ rfl [.pointer (some ⟨C.P,0,none⟩),.int .i64 (a:Int)] rfl (fun v w'=>v=.int .i64 (sz:Int)∧Later w w') (hSZ.out _ (Later.drew _)) ?_;intro u2 w2 hc2;obtain⟨rfl,l2⟩:=hc2;obtain⟨d64,d9⟩:=HD.out _ l2;refine hK.out _ _ ?_ (fun hHeld=>?_)
  ·first|assumption|exact HC9.out _ (Later.drew _)|exact d9s|(show World.cell? _ _=_;first|(rw[set_off _ _ _ (by decide)];assumption))
  clear hK K;(try go_simp);refine tk 19 (.int .i64 (b:Int)) rfl ?_;(try go_simp);refine tk 20 (.slice (some ⟨C.WB,a,none⟩) sz (C.N - a)) rfl ?_;(try go_simp);refine rd1 21 rfl fun K hK=>?_;refine step_copyC rfl _ _ 26 26 rfl 3 Tryz.underlying26 (by kernel_rfl) C.WB F _ _ ⟨C.WB,a,none⟩ _ _ (by rfl) (by rfl) cs sz hlen.out hmin.out (HCS.out _ l2).1 (HCS.out _ l2).2 hone.out ?_;intro w3 hw3;obtain⟨d64',d9',d65',z64',dp,zp⟩:=H64.out _ l2;rw[←hw3.out]at d64' d9' d65' z64' dp zp;refine hK.out _ _ ?_ (fun hHeld=>?_)
  ·first|assumption|exact HC9.out _ (Later.drew _)|exact d9s|(show World.cell? _ _=_;first|(rw[set_off _ _ _ (by decide)];assumption))
  clear hK K;(try go_simp);refine tk 22 (.int .i64 (G:Int)) rfl ?_;(try go_simp);refine tk 23 (.pointer (some ⟨C.P,0,none⟩)) rfl ?_;(try go_simp);refine tk 24 (.pointer (some ⟨C.P,64,none⟩)) rfl ?_;(try go_simp);refine rd1 25 rfl fun K hK=>?_;go_simp;refine hK.out _ _ ?_ (fun hHeld=>?_)
  ·first|assumption|exact HC9.out _ (Later.drew _)|exact d9s|(show World.cell? _ _=_;first|(rw[set_off _ _ _ (by decide)];assumption))
  clear hK K;(try go_simp);refine wpAnyH_done (by kernel_rfl) ?_ _;have dpz:=(World.cell?_setCell_far w3 ⟨C.P,64,none⟩ ⟨C.PB,fo,none⟩ (.int .i64 (G:Int)) d2).trans dp;have zpz:(w3.setCell ⟨C.P,64,none⟩ (.int .i64 (G:Int))).frozen? ⟨C.PB,fo,none⟩=false:=by rw[World.frozen?_setCell];exact zp
  go_wp2_with fail
  exact HZ.out w2 ((w3.setCell ⟨C.P,64,none⟩ (.int .i64 (G:Int))).setCell ⟨C.PB,fo,none⟩ (.int .i64 (F:Int))) l2 (by rw[hw3.out])
 ·refine step_call rfl 162 en_sizeAt _ _ rfl [.pointer (some ⟨C.P,0,none⟩),.int .i64 (a:Int)] rfl (fun v w'=>v=.int .i64 (sz:Int)∧Later w w') (hSZ.out _ (Later.drew _)) ?_;intro u2 w2 hc2;obtain⟨rfl,l2⟩:=hc2;obtain⟨d64,d9⟩:=HD.out _ l2;refine hK.out _ _ ?_ (fun hHeld=>?_)
  ·first|assumption|exact HC9.out _ (Later.drew _)|exact d9s|(show World.cell? _ _=_;first|(rw[set_off _ _ _ (by decide)];assumption))
  clear hK K;(try go_simp);refine tk 19 (.int .i64 (b:Int)) rfl ?_;(try go_simp);refine tk 20 (.slice (some ⟨C.WB,a,none⟩) sz (C.N - a)) rfl ?_;(try go_simp);refine wpAnyH_ready (rs:=[3,21]) (by kernel_rfl) (by simp) ?_;refine (AllReadyH.cons rfl (fun K hK=>?_) (AllReadyH.cons rfl (fun K hK=>?_) AllReadyH.nil))
  ·go_simp;refine hK.out _ _ ?_ (fun hHeld=>?_)
   ·first|assumption|exact HC9.out _ (Later.drew _)|exact d9s|(show World.cell? _ _=_;first|(rw[set_off _ _ _ (by decide)];assumption))
   clear hK K;(try go_simp);refine rd1 21 rfl fun K hK=>?_;refine step_copyC rfl _ _ 26 26 rfl 3 Tryz.underlying26 (by kernel_rfl) C.WB F _ _ ⟨C.WB,a,none⟩ _ _ (by rfl) (by rfl) cs sz hlen.out hmin.out (HCS.out _ l2).1 (HCS.out _ l2).2 hone.out ?_;intro w3 hw3;obtain⟨d64',d9',d65',z64',dp,zp⟩:=H64.out _ l2;rw[←hw3.out]at d64' d9' d65' z64' dp zp;refine hK.out _ _ ?_ (fun hHeld=>?_)
   ·first|assumption|exact HC9.out _ (Later.drew _)|exact d9s|(show World.cell? _ _=_;first|(rw[set_off _ _ _ (by decide)];assumption))
   clear hK K;(try go_simp);refine tk 22 (.int .i64 (G:Int)) rfl ?_;(try go_simp);refine tk 23 (.pointer (some ⟨C.P,0,none⟩)) rfl ?_;(try go_simp);refine tk 24 (.pointer (some ⟨C.P,64,none⟩)) rfl ?_;(try go_simp);refine rd1 25 rfl fun K hK=>?_;go_simp;refine hK.out _ _ ?_ (fun hHeld=>?_)
   ·first|assumption|exact HC9.out _ (Later.drew _)|exact d9s|(show World.cell? _ _=_;first|(rw[set_off _ _ _ (by decide)];assumption))
   clear hK K;(try go_simp);refine wpAnyH_done (by kernel_rfl) ?_ _;have dpz:=(World.cell?_setCell_far w3 ⟨C.P,64,none⟩ ⟨C.PB,fo,none⟩ (.int .i64 (G:Int)) d2).trans dp;have zpz:(w3.setCell ⟨C.P,64,none⟩ (.int .i64 (G:Int))).frozen? ⟨C.PB,fo,none⟩=false:=by rw[World.frozen?_setCell];exact zp
   go_wp2_with fail
   exact HZ.out w2 ((w3.setCell ⟨C.P,64,none⟩ (.int .i64 (G:Int))).setCell ⟨C.PB,fo,none⟩ (.int .i64 (F:Int))) l2 (by rw[hw3.out])
  ·refine step_copyC rfl _ _ 26 26 rfl 3 Tryz.underlying26 (by kernel_rfl) C.WB F _ _ ⟨C.WB,a,none⟩ _ _ (by rfl) (by rfl) cs sz hlen.out hmin.out (HCS.out _ l2).1 (HCS.out _ l2).2 hone.out ?_;intro w3 hw3;obtain⟨d64',d9',d65',z64',dp,zp⟩:=H64.out _ l2;rw[←hw3.out]at d64' d9' d65' z64' dp zp;refine hK.out _ _ ?_ (fun hHeld=>?_)
   ·first|assumption|exact HC9.out _ (Later.drew _)|exact d9s|(show World.cell? _ _=_;first|(rw[set_off _ _ _ (by decide)];assumption))
   clear hK K;(try go_simp);refine rd1 3 rfl fun K hK=>?_;go_simp;refine hK.out _ _ ?_ (fun hHeld=>?_)
   ·first|assumption|exact HC9.out _ (Later.drew _)|exact d9s|(show World.cell? _ _=_;first|(rw[set_off _ _ _ (by decide)];assumption))
   clear hK K;(try go_simp);refine tk 22 (.int .i64 (G:Int)) rfl ?_;(try go_simp);refine tk 23 (.pointer (some ⟨C.P,0,none⟩)) rfl ?_;(try go_simp);refine tk 24 (.pointer (some ⟨C.P,64,none⟩)) rfl ?_;(try go_simp);refine rd1 25 rfl fun K hK=>?_;go_simp;refine hK.out _ _ ?_ (fun hHeld=>?_)
   ·first|assumption|exact HC9.out _ (Later.drew _)|exact d9s|(show World.cell? _ _=_;first|(rw[set_off _ _ _ (by decide)];assumption))
   clear hK K;(try go_simp);refine wpAnyH_done (by kernel_rfl) ?_ _;have dpz:=(World.cell?_setCell_far w3 ⟨C.P,64,none⟩ ⟨C.PB,fo,none⟩ (.int .i64 (G:Int)) d2).trans dp;have zpz:(w3.setCell ⟨C.P,64,none⟩ (.int .i64 (G:Int))).frozen? ⟨C.PB,fo,none⟩=false:=by rw[World.frozen?_setCell];exact zp
   go_wp2_with fail
   exact HZ.out w2 ((w3.setCell ⟨C.P,64,none⟩ (.int .i64 (G:Int))).setCell ⟨C.PB,fo,none⟩ (.int .i64 (F:Int))) l2 (by rw[hw3.out])
end Go.Proofs.YtjnpncefkigcbaaGreat
