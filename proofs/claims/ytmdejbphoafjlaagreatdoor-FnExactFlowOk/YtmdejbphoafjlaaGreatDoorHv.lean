/- My texts F4, F5, F6 in one. -/
import Derived.Test.YtmdejbphoafjlaaGreatDoorHu
import Derived.Test.YtmdejbphoafjlaaGreatDoorHg
set_option maxHeartbeats 100000000
set_option maxRecDepth 100000
namespace Go.Proofs.YtmdejbphoafjlaaGreatDoor
open Go.RowKit Go.Maps
theorem ts_returnPart_yes (v:Value) (w:World):(Instr.typeAssert (.iface (stT 4) v) 152 201 true).run Tryz.prog w=.ok (.tuple #[v,.bool true]) w:=by kernel_rfl
theorem ts_returnPart_no (k:Int) (hk:k≠4) (v:Value) (w:World):(Instr.typeAssert (.iface (stT k) v) 152 201 true).run Tryz.prog w=.ok (.tuple #[.agg #[.pointer none],.bool false]) w:=by
 unfold stT
 rcases formS_cases k with (rfl|rfl|rfl|rfl|rfl|rfl|rfl|rfl)|⟨n0,n1,n2,n3,n4,n5,n6,n7⟩
 ·kernel_rfl
 ·kernel_rfl
 ·kernel_rfl
 ·kernel_rfl
 ·exact absurd rfl hk
 ·kernel_rfl
 ·kernel_rfl
 ·kernel_rfl
 ·rw[if_neg n0,if_neg n1,if_neg n2,if_neg n3,if_neg n4,if_neg n5,if_neg n6,if_neg n7]
  kernel_rfl
theorem ts_panicPart_yes (v:Value) (w:World):(Instr.typeAssert (.iface (stT 6) v) 152 203 true).run Tryz.prog w=.ok (.tuple #[v,.bool true]) w:=by kernel_rfl
theorem ts_panicPart_no (k:Int) (hk:k≠6) (v:Value) (w:World):(Instr.typeAssert (.iface (stT k) v) 152 203 true).run Tryz.prog w=.ok (.tuple #[.agg #[.pointer none],.bool false]) w:=by
 unfold stT
 rcases formS_cases k with (rfl|rfl|rfl|rfl|rfl|rfl|rfl|rfl)|⟨n0,n1,n2,n3,n4,n5,n6,n7⟩
 ·kernel_rfl
 ·kernel_rfl
 ·kernel_rfl
 ·kernel_rfl
 ·kernel_rfl
 ·kernel_rfl
 ·exact absurd rfl hk
 ·kernel_rfl
 ·rw[if_neg n0,if_neg n1,if_neg n2,if_neg n3,if_neg n4,if_neg n5,if_neg n6,if_neg n7]
  kernel_rfl
theorem ts_ifPart_yes (v:Value) (w:World):(Instr.typeAssert (.iface (stT 2) v) 152 199 true).run Tryz.prog w=.ok (.tuple #[v,.bool true]) w:=by kernel_rfl
theorem ts_ifPart_no (k:Int) (hk:k≠2) (v:Value) (w:World):(Instr.typeAssert (.iface (stT k) v) 152 199 true).run Tryz.prog w=.ok (.tuple #[.agg #[.pointer none],.bool false]) w:=by
 unfold stT
 rcases formS_cases k with (rfl|rfl|rfl|rfl|rfl|rfl|rfl|rfl)|⟨n0,n1,n2,n3,n4,n5,n6,n7⟩
 ·kernel_rfl
 ·kernel_rfl
 ·exact absurd rfl hk
 ·kernel_rfl
 ·kernel_rfl
 ·kernel_rfl
 ·kernel_rfl
 ·kernel_rfl
 ·rw[if_neg n0,if_neg n1,if_neg n2,if_neg n3,if_neg n4,if_neg n5,if_neg n6,if_neg n7]
  kernel_rfl
theorem iends_of (k:Int) (bo el:List St) (g o:Nat) (v2 v3:Value) (w:World) (hgs:g<w.heap.size) (c6:w.cell? ⟨g,o+6,none⟩=some v2) (c7:w.cell? ⟨g,o+7,none⟩=some v3) (hv2:∃ a n c,v2=.slice a n c) (hv3:∃ a n c,v3=.slice a n c)
  (hB:∀ w',Later w w'→Calls Tryz.prog 67 #[v2] w' (EndP (St.ends bo) w')) (hC:∀ w',Later w w'→Calls Tryz.prog 67 #[v3] w' (EndP (St.ends el) w')) :
  Calls Tryz.prog 114 #[stV k g o] w (EndP ((k==4)||((k==6)||((k==2)&&St.ends bo&&St.ends el))) w):=by
 unfold stV
 obtain⟨z2,n2,d2,rfl⟩:=hv2
 obtain⟨z3,n3,d3,rfl⟩:=hv3
 have HA:Hid (∀ w' b,Later w w'→((k==4)||((k==6)||((k==2)&&St.ends bo&&St.ends el)))=b→EndP ((k==4)||((k==6)||((k==2)&&St.ends bo&&St.ends el))) w (.returned (.bool b)) w'):=fun w' b l h=>⟨by rw[h],l⟩
 have HE:Hid (((k==4)||((k==6)||((k==2)&&St.ends bo&&St.ends el)))=((k==4)||((k==6)||((k==2)&&St.ends bo&&St.ends el)))):=rfl
 generalize hQ:EndP ((k==4)||((k==6)||((k==2)&&St.ends bo&&St.ends el))) w=Q at *
 clear hQ
 generalize St.ends bo=eb at *
 generalize St.ends el=ee at *
 by_cases k4:k=4
 ·subst k4
  have HZ:=HA.out w true (Later.refl _) rfl
  have t1:=ts_returnPart_yes (.agg #[.pointer (some ⟨g,o,none⟩)])
  have t2:=ts_panicPart_no 4 (by decide) (.agg #[.pointer (some ⟨g,o,none⟩)])
  generalize stT 4=T at *
  clear HA hB hC HE
  go_enter Tryz.func114,Tryz.ntmps114
  go_wp2_with fail
  exact HZ
 ·by_cases k6:k=6
  ·subst k6
   have HZ:=HA.out w true (Later.refl _) rfl
   have t1:=ts_returnPart_no 6 (by decide) (.agg #[.pointer (some ⟨g,o,none⟩)])
   have t2:=ts_panicPart_yes (.agg #[.pointer (some ⟨g,o,none⟩)])
   generalize stT 6=T at *
   clear HA hB hC HE
   go_enter Tryz.func114,Tryz.ntmps114
   go_wp2_with fail
   exact HZ
  ·have t1:=ts_returnPart_no k k4 (.agg #[.pointer (some ⟨g,o,none⟩)])
   have t2:=ts_panicPart_no k k6 (.agg #[.pointer (some ⟨g,o,none⟩)])
   by_cases k2:k=2
   ·subst k2
    have t3:=ts_ifPart_yes (.agg #[.pointer (some ⟨g,o,none⟩)])
    generalize stT 2=T at *
    obtain⟨w1,hw1⟩:=hidx (w.alloc (.cells #[.pointer (some ⟨g,o,none⟩)] 199))
    have L1:Later w w1:=by rw[hw1.out];exact later1 _ _
    have hb1:Bxx w1 w.heap.size [.pointer (some ⟨g,o,none⟩)]:=by rw[hw1.out];exact Bxx.new _ _ _
    have hB1:=hB w1 L1
    have HE2:Hid (((2:Int)==4||((2:Int)==6||(2:Int)==2&&eb&&ee))=(eb&&ee)):=rfl
    clear hB k4 k6
    go_enter Tryz.func114,Tryz.ntmps114
    go_wp2_with fail
    rw[←hw1.out]
    refine hB1.mono ?_
    rintro e w2 ⟨rfl,l2⟩
    have L2:=L1.trans l2
    have y0:=((hb1.later l2).cell 0 _ rfl).1
    have yl:=(hb1.later l2).lt
    have x7:w2.cell? ⟨g,o+7,none⟩=some (.slice z3 n3 d3):=by rw[Below.cell L2 (p:=⟨g,o+7,none⟩) hgs];exact c7
    have hC1:=hC w2 L2
    clear hB1 hC
    cases eb with
    | false =>
     have HZ:=HA.out w2 false L2 rfl
     clear HA hC1
     go_wp2_with fail
     exact HZ
    | true =>
     go_wp2_with fail
     refine hC1.mono ?_
     rintro e w3 ⟨rfl,l3⟩
     have HZ:=HA.out w3 ee (L2.trans l3) (by rw[HE2.out];rfl)
     clear HA hC1
     cases ee
     all_goals
      go_wp2_with fail
      exact HZ
   ·have t3:=ts_ifPart_no k k2 (.agg #[.pointer (some ⟨g,o,none⟩)])
    have HZ:=HA.out w false (Later.refl _) (by rw[neb k4,neb k6,neb k2];rfl)
    generalize stT k=T at *
    clear HA hB hC HE k4 k6 k2
    go_enter Tryz.func114,Tryz.ntmps114
    go_wp2_with fail
    exact HZ
theorem ibends_all:∀ (n:Nat) (l:List St) (v:Value) (w:World),St.szs l≤n→RdL w 8 v (St.dats l)→Calls Tryz.prog 67 #[v] w (EndP (St.ends l) w):=by
 intro n
 induction n using Nat.strongRecOn with
 | _ n IH =>
 intro l v w hz h
 obtain⟨a,cap,rfl,hlen⟩:=St.slice h
 have HA:Hid (∀ w' b,Later w w'→St.ends l=b→EndP (St.ends l) w (.returned (.bool b)) w'):=fun w' b l h=>⟨by rw[h],l⟩
 generalize hQ:EndP (St.ends l) w=Q at *
 clear hQ
 rcases Nat.eq_zero_or_pos l.length with hl|hpos
 ·obtain rfl:=List.eq_nil_of_length_eq_zero hl
  have HZ:=HA.out w false (Later.refl _) (by rw[St.ends])
  clear HA IH h
  go_enter Tryz.func67,Tryz.ntmps67
  go_wp2_with fail
  exact HZ
 ·obtain⟨J,hJ⟩:∃ J,J+1=l.length:=⟨l.length - 1,by omega⟩
  have hlt:J<l.length:=by omega
  obtain⟨g,off,k0,k1,k2,k3,rfl,hgs,c0,c1,c2,c3,c4,c5,c6,c7,r0,r1,r2,r3⟩:=St.elem h J hlt
  have hszj:=St.sz_at l J hlt
  have hkle:=St.kids_le l[J]
  have HE:Hid (St.ends l=((l[J].kind==4)||((l[J].kind==6)||((l[J].kind==2)&&St.ends l[J].body&&St.ends l[J].els)))):=by unfold Hid;rw[St.ends_last l J hlt hJ,St.end1_eq]
  have hP:=ipst_any l[J].kind g (off+J*8) w c0
  have hN:=fun w' (q:Later w w')=>iends_of l[J].kind l[J].body l[J].els g (off+J*8) k2 k3 w' (Nat.lt_of_lt_of_le hgs q.size) (by rw[Below.cell q (p:=⟨g,off+J*8+6,none⟩) hgs];exact c6) (by rw[Below.cell q (p:=⟨g,off+J*8+7,none⟩) hgs];exact c7) (by obtain⟨a,c,e,_⟩:=St.slice r2;exact⟨a,_,c,e⟩) (by obtain⟨a,c,e,_⟩:=St.slice r3;exact⟨a,_,c,e⟩) (fun w'' q'=>IH (St.szs l[J].body) (by omega) l[J].body k2 w'' (Nat.le_refl _) (RdL.later (q.trans q') r2)) (fun w'' q'=>IH (St.szs l[J].els) (by omega) l[J].els k3 w'' (Nat.le_refl _) (RdL.later (q.trans q') r3))
  rw[←HE.out]at hN
  have i1:(l.length:Int) - 1=(J:Int):=by omega
  have i2:(J:Int)<(l.length:Int):=by omega
  have i3:(0:Int)<(l.length:Int):=by omega
  clear h IH r0 r1 r2 r3 hszj hkle hJ hz c0 c1 c2 c3 c4 c5 c6 c7 HE
  generalize stV l[J].kind g (off+J*8)=pv at *
  generalize St.ends l=eb at *
  go_enter Tryz.func67,Tryz.ntmps67
  go_wp2_with fail
  refine hP.mono ?_
  rintro e w1 ⟨rfl,l1⟩
  have hN1:=hN w1 l1
  clear hP hN
  go_wp2_with fail
  refine hN1.mono ?_
  rintro e w2 ⟨rfl,l2⟩
  have HZ:=HA.out w2 eb (l1.trans l2) rfl
  clear HA hN1
  cases eb
  all_goals
   go_wp2_with fail
   exact HZ
theorem ibflow_all:∀ (n:Nat) (l:List St) (v:Value) (w:World),St.szs l≤n→RdL w 8 v (St.dats l)→Calls Tryz.prog 66 #[v] w (EndP (St.flows l) w):=by
 intro n
 induction n using Nat.strongRecOn with
 | _ n IH =>
 intro l v w hz h
 obtain⟨a,cap,rfl,hlen⟩:=St.slice h
 have HA:Hid (∀ w' b,Later w w'→St.flows l=b→EndP (St.flows l) w (.returned (.bool b)) w'):=fun w' b l h=>⟨by rw[h],l⟩
 generalize hQ:EndP (St.flows l) w=Q at *
 clear hQ
 go_enter Tryz.func66,Tryz.ntmps66
 go_wp2_with fail
 go_loopw [9] (fun i wr=>∃ (j:Nat),i=.int .i64 (j:Int)∧j≤l.length∧Later w wr∧Hid (∀ i (hi:i<l.length),i<j→l[i].flow1=true∧(i+1<l.length→l[i].end1=false))) (fun i _=>l.length - (intOf i).toNat)
 case atStart=>exact⟨0,rfl,Nat.zero_le _,Later.refl _,fun i _ hj=>absurd hj (Nat.not_lt_zero _)⟩
 case round =>
  obtain⟨j,rfl,hj,lr,HJ⟩:=hrel
  by_cases hlt:j<l.length
  ·obtain⟨g,off,k0,k1,k2,k3,rfl,hgs,c0,c1,c2,c3,c4,c5,c6,c7,r0,r1,r2,r3⟩:=St.elem (RdL.later lr h) j hlt
   have hszj:=St.sz_at l j hlt
   have hkle:=St.kids_le l[j]
   have i1:(j:Int)<(l.length:Int):=by omega
   have hB:=fun w' (q:Later wr w')=>IH (St.szs l[j].body) (by omega) l[j].body k2 w' (Nat.le_refl _) (RdL.later q r2)
   have hC:=fun w' (q:Later wr w')=>IH (St.szs l[j].els) (by omega) l[j].els k3 w' (Nat.le_refl _) (RdL.later q r3)
   have hP:=ipst_any l[j].kind g (off+j*8) wr c0
   have hN:=fun w' (q:Later wr w')=>iends_of l[j].kind l[j].body l[j].els g (off+j*8) k2 k3 w' (Nat.lt_of_lt_of_le hgs q.size) (by rw[Below.cell q (p:=⟨g,off+j*8+6,none⟩) hgs];exact c6) (by rw[Below.cell q (p:=⟨g,off+j*8+7,none⟩) hgs];exact c7) (by obtain⟨a,c,e,_⟩:=St.slice r2;exact⟨a,_,c,e⟩) (by obtain⟨a,c,e,_⟩:=St.slice r3;exact⟨a,_,c,e⟩) (fun w'' q'=>ibends_all _ l[j].body k2 w'' (Nat.le_refl _) (RdL.later (q.trans q') r2)) (fun w'' q'=>ibends_all _ l[j].els k3 w'' (Nat.le_refl _) (RdL.later (q.trans q') r3))
   rw[←St.end1_eq]at hN
   have HNo:Hid ((l[j].flow1=true→j+1<l.length∧l[j].end1=true)→St.flows l=false):=St.flows_no hlt
   have HGo:Hid (l[j].flow1=true→(j+1<l.length→l[j].end1=false)→∀ i (hi:i<l.length),i<j+1→l[i].flow1=true∧(i+1<l.length→l[i].end1=false)):=fun h1 h2 i hi hij=>by
    rcases Nat.lt_or_ge i j with q|q
    ·exact HJ.out i hi q
    ·have:i=j:=by omega
     subst this
     exact⟨h1,h2⟩
   have H1:Hid (l[j].flow1=(St.flows l[j].body&&St.flows l[j].els)):=St.flow1_eq _
   obtain⟨z2,d2,rfl,_⟩:=St.slice r2
   obtain⟨z3,d3,rfl,_⟩:=St.slice r3
   have hK:=fun w' (q:Later wr w')=>iblkS g (off+j*8) z2 z3 l[j].body.length d2 l[j].els.length d3 w' (by rw[Below.cell q (p:=⟨g,off+j*8+6,none⟩) hgs];exact c6) (by rw[Below.cell q (p:=⟨g,off+j*8+7,none⟩) hgs];exact c7)
   have hmb:=(stV_part l[j].kind g (off+j*8)).1.blocks
   unfold stV at hP hN
   have HB:Hid (∀ w',Later wr w'→Calls Tryz.prog 66 #[.slice z2 l[j].body.length d2] w' (EndP (St.flows l[j].body) w')):=hB
   have HC:Hid (∀ w',Later wr w'→Calls Tryz.prog 66 #[.slice z3 l[j].els.length d3] w' (EndP (St.flows l[j].els) w')):=hC
   have HK:Hid (∀ w',Later wr w'→Calls Tryz.prog 252 #[.agg #[.pointer (some ⟨g,off+j*8,none⟩)]] w' fun e w''=>∃ v,e=.returned v∧Two w' w'' v (.slice z2 l[j].body.length d2) (.slice z3 l[j].els.length d3)∧Later w' w''):=hK
   clear IH HJ r0 r1 r2 r3 c0 c1 c2 c3 c4 c5 c6 c7 hszj hkle h hz hB hC hK
   generalize stT l[j].kind=T at *
   generalize l[j].flow1=fl at *
   generalize l[j].end1=en at *
   generalize St.flows l[j].body=fb at *
   generalize St.flows l[j].els=fe at *
   generalize l[j].body.length=n2 at *
   generalize l[j].els.length=n3 at *
   go_wp2_with fail
   refine hP.mono ?_
   rintro e w1 ⟨rfl,l1⟩
   have hN1:=hN w1 l1
   clear hP hN
   go_wp2_with fail
   refine hN1.mono ?_
   rintro e w2 ⟨rfl,l2⟩
   have L2:=l1.trans l2
   clear hN1
   by_cases hout:en=true∧j+1<l.length
   ·obtain⟨rfl,hm⟩:=hout
    have i5:(j:Int)+1<(l.length:Int):=by omega
    have HZ:=HA.out w2 false (lr.trans L2) (HNo.out (fun _=>⟨hm,rfl⟩))
    clear HA HNo HGo H1 HB HC HK hmb
    go_wp2_with fail
    exact HZ
   ·have HG2:Hid (fl=true→∀ i (hi:i<l.length),i<j+1→l[i].flow1=true∧(i+1<l.length→l[i].end1=false)):=fun q=>HGo.out q (fun q'=>by cases en;rfl;exact absurd ⟨rfl,q'⟩ hout)
    have hK2:=HK.out w2 L2
    have HM:Hid (∀ (G:Prop),(en=false→G)→(en=true→(¬ (j:Int)+1<(l.length:Int)∧decide ((j:Int)+1<(l.length:Int))=false)→G)→G):=fun G g1 g2=>by
     cases en
     ·exact g1 rfl
     ·have hm:¬ (j:Int)+1<(l.length:Int):=fun q=>hout ⟨rfl,by omega⟩
      exact g2 rfl ⟨hm,decide_eq_false hm⟩
    clear HK HGo hout
    refine HM.out _ ?_ ?_
    all_goals
     clear HM
     rintro rfl
     try rintro ⟨i5,i6⟩
     go_wp2_with fail
     refine hK2.mono ?_
     rintro e w4 ⟨bv,rfl,⟨B,rfl,hBg,hBl,d0,d1⟩,l4⟩
     have L4:=L2.trans l4
     have HD:Hid (∀ W,Later w4 W→W.cell? ⟨B,0,none⟩=some (.slice z2 n2 d2)∧W.cell? ⟨B,1,none⟩=some (.slice z3 n3 d3)∧B<W.heap.size):=fun W q=>⟨by rw[Below.cell q (p:=⟨B,0,none⟩) hBl];exact d0,by rw[Below.cell q (p:=⟨B,1,none⟩) hBl];exact d1,Nat.lt_of_lt_of_le hBl q.size⟩
     clear hK2 d0 d1 hBg hBl
     go_wp2_with fail
     go_loopw [28] (fun i W=>Later w4 W∧(i=.int .i64 0∨(i=.int .i64 1∧Hid (fb=true))∨(i=.int .i64 2∧Hid (fb=true)∧Hid (fe=true)))) (fun i _=>2 - (intOf i).toNat)
     case atStart=>exact⟨Later.refl _,.inl rfl⟩
     case round =>
      obtain⟨lw,hcase⟩:=hrel
      obtain⟨d0,d1,hBl⟩:=HD.out _ lw
      have LW:=L4.trans lw
      rcases hcase with rfl|⟨rfl,hf1⟩|⟨rfl,hf1,hf2⟩
      ·have hC:=HB.out _ LW
       clear HB HC
       go_wp2_with fail
       refine hC.mono ?_
       rintro e w5 ⟨rfl,l5⟩
       have L5:=LW.trans l5
       have l45:=lw.trans l5
       clear hC d0 d1
       cases fb with
       | false =>
        have HZ:=HA.out w5 false (lr.trans L5) (HNo.out (by rw[H1.out];intro q;cases q))
        clear HA HNo HG2 H1 HD
        go_wp2_with fail
        exact HZ
       | true =>
        go_wp2_with fail
        go_roundw
        case rel=>exact⟨l45,.inr (.inl ⟨by go_num,by unfold Hid;simp⟩)⟩
        case measure=>simp[intOf]
      ·have hC:=HC.out _ LW
       clear HB HC
       go_wp2_with fail
       refine hC.mono ?_
       rintro e w5 ⟨rfl,l5⟩
       have L5:=LW.trans l5
       have l45:=lw.trans l5
       clear hC d0 d1
       cases fe with
       | false =>
        have HZ:=HA.out w5 false (lr.trans L5) (HNo.out (by rw[H1.out,hf1.out];intro q;cases q))
        clear HA HNo HG2 H1 HD
        go_wp2_with fail
        exact HZ
       | true =>
        go_wp2_with fail
        go_roundw
        case rel=>exact⟨l45,.inr (.inr ⟨by go_num,hf1,by unfold Hid;simp⟩)⟩
        case measure=>simp[intOf]
      ·have HZ:Hid _:=HG2.out (by rw[H1.out,hf1.out,hf2.out];rfl)
       have LZ:=lr.trans LW
       clear HB HC d0 d1 HNo HG2 H1 HD
       go_wp2_with fail
       go_roundw
       case rel=>exact⟨j+1,by go_num,by omega,LZ,HZ⟩
       case measure=>simp[intOf];omega
  ·have i1:¬ (j:Int)<(l.length:Int):=by omega
   have i2:decide ((j:Int)<(l.length:Int))=false:=decide_eq_false i1
   have HZ:=HA.out wr true lr ((St.flows_iff l).2 fun i hi=>HJ.out i hi (by omega))
   clear HA HJ IH h
   go_wp2_with fail
   exact HZ
def Fu.flowB (f:Fu):Bool:=St.flows f.body&&((f.rk==0)||St.ends f.body)
theorem allNo {α:Type}{f:α→Bool}{l:List α}{j:Nat}(h:j<l.length) (hf:f l[j]=false):l.all f=false:=by
 rw[←Bool.not_eq_true,List.all_eq_true]
 intro q
 rw[q _ (List.getElem_mem h)]at hf
 cases hf
theorem allYes {α:Type}{f:α→Bool}{l:List α}(h:∀ i (hi:i<l.length),f l[i]=true):l.all f=true:=by
 rw[List.all_eq_true]
 intro x hx
 obtain⟨j,hj,rfl⟩:=List.mem_iff_getElem.1 hx
 exact h j hj
theorem iflows_any (fs:List Fu) (v0 v1:Value) (w:World) (hv0:∃ a n c,v0=.slice a n c) (h1:RdL w 5 v1 (Fu.dats fs)) :
  Calls Tryz.prog 35 #[.agg #[v0,v1]] w (EndP (fs.all Fu.flowB) w):=by
 obtain⟨sa,sn,sc,rfl⟩:=hv0
 obtain⟨fa,fc,rfl,hfl⟩:=Fu.slice h1
 have HA:Hid (∀ w' b,Later w w'→fs.all Fu.flowB=b→EndP (fs.all Fu.flowB) w (.returned (.bool b)) w'):=fun w' b l h=>⟨by rw[h],l⟩
 generalize hQ:EndP (fs.all Fu.flowB) w=Q at *
 clear hQ
 obtain⟨w1,hw1⟩:=hidx (w.alloc (.cells #[.slice sa sn sc,.slice fa fs.length fc] 31))
 have L1:Later w w1:=by rw[hw1.out];exact later1 _ _
 go_enter Tryz.func35,Tryz.ntmps35
 go_wp2_with fail
 rw[←hw1.out]
 go_loopw [8] (fun i wr=>∃ (j:Nat),i=.int .i64 (j:Int)∧j≤fs.length∧Later w wr∧Hid (∀ i (hi:i<fs.length),i<j→fs[i].flowB=true)) (fun i _=>fs.length - (intOf i).toNat)
 case atStart=>exact⟨0,rfl,Nat.zero_le _,L1,fun i _ hj=>absurd hj (Nat.not_lt_zero _)⟩
 case round =>
  obtain⟨j,rfl,hj,lr,HJ⟩:=hrel
  by_cases hlt:j<fs.length
  ·obtain⟨g,off,e0,e1,e2,rfl,hgs,d0,d1,d2,d3,d4,s0,s1,s2⟩:=Fu.elem (RdL.later lr h1) j hlt
   have i1:(j:Int)<(fs.length:Int):=by omega
   have hB:=fun w' (q:Later wr w')=>ibflow_all _ fs[j].body e2 w' (Nat.le_refl _) (RdL.later q s2)
   have hC:=fun w' (q:Later wr w')=>ibends_all _ fs[j].body e2 w' (Nat.le_refl _) (RdL.later q s2)
   have HNo:Hid (fs[j].flowB=false→fs.all Fu.flowB=false):=fun q=>allNo hlt q
   have HGo:Hid (fs[j].flowB=true→∀ i (hi:i<fs.length),i<j+1→fs[i].flowB=true):=fun h1 i hi hij=>by
    rcases Nat.lt_or_ge i j with q|q
    ·exact HJ.out i hi q
    ·have:i=j:=by omega
     subst this
     exact h1
   have H1:Hid (fs[j].flowB=(St.flows fs[j].body&&((fs[j].rk==0)||St.ends fs[j].body))):=rfl
   obtain⟨z0,m0,rfl,_⟩:=s0.slice
   obtain⟨z1,m1,rfl,_⟩:=Pa.slice s1
   obtain⟨z2,m2,rfl,_⟩:=St.slice s2
   obtain⟨wB,hwB⟩:=hidx (wr.alloc (.cells #[.slice z0 fs[j].name.length m0,.slice z1 fs[j].params.length m1,.int .i64 fs[j].rk,.int .i64 fs[j].rn,.slice z2 fs[j].body.length m2] 50))
   have LB:Later wr wB:=by rw[hwB.out];exact later1 _ _
   have hbB:Bxx wB wr.heap.size [.slice z0 fs[j].name.length m0,.slice z1 fs[j].params.length m1,.int .i64 fs[j].rk,.int .i64 fs[j].rn,.slice z2 fs[j].body.length m2]:=by rw[hwB.out];exact Bxx.new _ _ _
   have hB1:=hB wB LB
   clear HJ s0 s1 s2 h1 hB
   generalize fs[j].flowB=fl at *
   generalize St.flows fs[j].body=fb at *
   generalize St.ends fs[j].body=eb at *
   generalize fs[j].rk=rk at *
   generalize fs[j].rn=rn at *
   go_wp2_with fail
   rw[←hwB.out]
   refine hB1.mono ?_
   rintro e w2 ⟨rfl,l2⟩
   have L2:=LB.trans l2
   have hb2:=hbB.later l2
   have y2:=(hb2.cell 2 _ rfl).1
   have y4:=(hb2.cell 4 _ rfl).1
   have yl:=hb2.lt
   have hC1:=hC w2 L2
   clear hB1 hC
   cases fb with
   | false =>
    have HZ:=HA.out w2 false (lr.trans L2) (HNo.out (by rw[H1.out];rfl))
    clear HA HNo HGo H1 hC1
    go_wp2_with fail
    exact HZ
   | true =>
    by_cases hk:rk=0
    ·subst hk
     have HZ:Hid _:=HGo.out (by rw[H1.out];rfl)
     have LZ:=lr.trans L2
     clear HNo HGo H1 hC1
     go_wp2_with fail
     go_roundw
     case rel=>exact⟨j+1,by go_num,by omega,LZ,HZ⟩
     case measure=>simp[intOf];omega
    ·have nk:=neb hk
     have HE:Hid (fl=eb):=by unfold Hid;rw[H1.out,nk];rfl
     clear H1
     go_wp2_with fail
     refine hC1.mono ?_
     rintro e w3 ⟨rfl,l3⟩
     have L3:=lr.trans (L2.trans l3)
     clear hC1
     cases eb with
     | false =>
      have HZ:=HA.out w3 false L3 (HNo.out HE.out)
      clear HA HNo HGo HE
      go_wp2_with fail
      exact HZ
     | true =>
      have HZ:Hid _:=HGo.out HE.out
      clear HNo HGo HE
      go_wp2_with fail
      go_roundw
      case rel=>exact⟨j+1,by go_num,by omega,L3,HZ⟩
      case measure=>simp[intOf];omega
  ·have i1:¬ (j:Int)<(fs.length:Int):=by omega
   have i2:decide ((j:Int)<(fs.length:Int))=false:=decide_eq_false i1
   have HZ:=HA.out wr true lr (allYes fun i hi=>HJ.out i hi (by omega))
   clear HA HJ h1
   go_wp2_with fail
   exact HZ
end Go.Proofs.YtmdejbphoafjlaaGreatDoor
