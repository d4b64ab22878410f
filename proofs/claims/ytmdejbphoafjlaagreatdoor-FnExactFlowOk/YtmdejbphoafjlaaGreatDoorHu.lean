/- My texts F1, F2 in one. -/
import Derived.Test.YtmdejbphoafjlaaGreatDoorGi
import Derived.Test.YtmdejbphoafjlaaGreatDoorHd
import Derived.BigQuiet
set_option maxHeartbeats 100000000
set_option maxRecDepth 100000
namespace Go.Proofs.YtmdejbphoafjlaaGreatDoor
open Go.RowKit
mutual
def St.end1:St→Bool
 | .mk k _ _ _ _ _ bo el=>(k==4)||((k==6)||((k==2)&&St.ends bo&&St.ends el))
def St.ends:List St→Bool
 | []=>false
 | x::r=>if r.isEmpty then St.end1 x else St.ends r
end
mutual
def St.flow1:St→Bool
 | .mk _ _ _ _ _ _ bo el=>St.flows bo&&St.flows el
def St.flows:List St→Bool
 | []=>true
 | x::r=>St.flow1 x&&(r.isEmpty||!St.end1 x)&&St.flows r
end
theorem St.end1_eq (x:St):x.end1=((x.kind==4)||((x.kind==6)||((x.kind==2)&&St.ends x.body&&St.ends x.els))):=by obtain⟨k,n,tk,tn,nm,ks,bo,el⟩:=x;rw[St.end1];rfl
theorem St.flow1_eq (x:St):x.flow1=(St.flows x.body&&St.flows x.els):=by obtain⟨k,n,tk,tn,nm,ks,bo,el⟩:=x;rw[St.flow1];rfl
theorem St.ends_last:∀ (l:List St) (j:Nat) (h:j<l.length),j+1=l.length→St.ends l=l[j].end1
 | [x],0,_,_=>by rw[St.ends];rfl
 | x::y::r,j+1,h,e=>by
  rw[St.ends]
  simp only[List.isEmpty_cons,List.getElem_cons_succ]
  exact St.ends_last (y::r) j (Nat.lt_of_succ_lt_succ h) (by simpa using e)
theorem St.ends_take {l:List St}{j:Nat}(h:j<l.length):St.ends (l.take (j+1))=l[j].end1:=by
 rw[St.ends_last (l.take (j+1)) j (by rw[List.length_take];omega) (by rw[List.length_take];omega),List.getElem_take]
theorem St.flows_iff:∀ (l:List St),St.flows l=true↔∀ j (h:j<l.length),l[j].flow1=true∧(j+1<l.length→l[j].end1=false)
 | []=>by rw[St.flows];exact⟨fun _ j h=>absurd h (Nat.not_lt_zero _),fun _=>rfl⟩
 | x::r=>by
  rw[St.flows,Bool.and_eq_true,Bool.and_eq_true,St.flows_iff r]
  constructor
  ·rintro ⟨⟨h1,h2⟩,h3⟩ j h
   match j with
   | 0 =>
    refine⟨h1,fun q=>?_⟩
    cases r with
    | nil=>simp at q
    | cons y r=>simpa using h2
   | j+1 =>
    obtain⟨a,b⟩:=h3 j (Nat.lt_of_succ_lt_succ h)
    exact⟨a,fun q=>b (by simpa using q)⟩
  ·intro h
   refine⟨⟨(h 0 (Nat.succ_pos _)).1,?_⟩,fun j hj=>?_⟩
   ·cases r with
    | nil=>rfl
    | cons y r =>
     have:=(h 0 (Nat.succ_pos _)).2 (by simp)
     simpa using this
   ·obtain⟨a,b⟩:=h (j+1) (Nat.succ_lt_succ hj)
    exact⟨a,fun q=>b (by simpa using q)⟩
theorem St.flows_no {l:List St}{j:Nat}(h:j<l.length) (hb:l[j].flow1=true→j+1<l.length∧l[j].end1=true):St.flows l=false:=by
 rw[←Bool.not_eq_true,St.flows_iff]
 intro q
 obtain⟨a,b⟩:=q j h
 obtain⟨c,d⟩:=hb a
 rw[b c]at d
 cases d
def EndP (b:Bool) (w:World) (e:Ending) (w':World):Prop:=e=.returned (.bool b)∧Later w w'
theorem sends_all:∀ (n:Nat) (l:List St) (v:Value) (w:World),St.szs l≤n→RdL w 8 v (St.dats l)→Calls Tryz.prog 34 #[v] w (EndP (St.ends l) w):=by
 intro n
 induction n using Nat.strongRecOn with
 | _ n IH =>
 intro l v w hz h
 obtain⟨a,cap,rfl,hlen⟩:=St.slice h
 have HA:Hid (∀ w' b,Later w w'→St.ends l=b→EndP (St.ends l) w (.returned (.bool b)) w'):=fun w' b l h=>⟨by rw[h],l⟩
 generalize hQ:EndP (St.ends l) w=Q at *
 clear hQ
 rcases Nat.eq_zero_or_pos l.length with hl|hpos
 ·obtain rfl:=List.eq_nil_of_length_eq_zero hl
  have HZ:=HA.out w false (Later.refl _) (by rw[St.ends])
  clear HA IH h
  go_enter Tryz.func34,Tryz.ntmps34
  go_wp2_with fail
  exact HZ
 ·have hpos':=hpos
  obtain⟨J,hJ⟩:∃ J,J+1=l.length:=⟨l.length - 1,by omega⟩
  have hlt:J<l.length:=by omega
  obtain⟨g,off,k0,k1,k2,k3,rfl,hgs,c0,c1,c2,c3,c4,c5,c6,c7,r0',r1,r2,r3⟩:=St.elem h J hlt
  have hszj:=St.sz_at l J hlt
  have hkle:=St.kids_le l[J]
  have HE:Hid (St.ends l=((l[J].kind==4)||((l[J].kind==6)||((l[J].kind==2)&&St.ends l[J].body&&St.ends l[J].els)))):=by unfold Hid;rw[St.ends_last l J hlt hJ,St.end1_eq]
  have hB:=fun w' (q:Later w w')=>IH (St.szs l[J].body) (by omega) l[J].body k2 w' (Nat.le_refl _) (RdL.later q r2)
  have hC:=fun w' (q:Later w w')=>IH (St.szs l[J].els) (by omega) l[J].els k3 w' (Nat.le_refl _) (RdL.later q r3)
  have i1:(l.length:Int) - 1=(J:Int):=by omega
  have i2:(J:Int)<(l.length:Int):=by omega
  have i3:((l.length:Int)==0)=false:=neb (by omega)
  obtain⟨z0,d0,rfl,_⟩:=r0'.slice
  obtain⟨z1,d1,rfl,_⟩:=Ex.slice r1
  obtain⟨z2,d2,rfl,_⟩:=St.slice r2
  obtain⟨z3,d3,rfl,_⟩:=St.slice r3
  clear h IH r0' r1 r2 r3 hszj hkle hJ hz
  obtain⟨w1,hw1⟩:=hidx (w.alloc (.cells #[.int .i64 l[J].kind,.int .i64 l[J].n,.int .i64 l[J].tk,.int .i64 l[J].tn,.slice z0 l[J].name.length d0,.slice z1 l[J].kids.length d1,.slice z2 l[J].body.length d2,.slice z3 l[J].els.length d3] 93))
  have L1:Later w w1:=by rw[hw1.out];exact later1 _ _
  have hb1:Bxx w1 w.heap.size [.int .i64 l[J].kind,.int .i64 l[J].n,.int .i64 l[J].tk,.int .i64 l[J].tn,.slice z0 l[J].name.length d0,.slice z1 l[J].kids.length d1,.slice z2 l[J].body.length d2,.slice z3 l[J].els.length d3]:=by rw[hw1.out];exact Bxx.new _ _ _
  generalize St.ends l[J].body=eb at *
  generalize St.ends l[J].els=ee at *
  generalize l[J].n=s_n at *
  generalize l[J].tk=s_tk at *
  generalize l[J].tn=s_tn at *
  generalize l[J].kind=kd at *
  by_cases k4:kd=4
  ·subst k4
   have HZ:=HA.out w1 true L1 (by rw[HE.out];rfl)
   clear HA hB hC
   go_enter Tryz.func34,Tryz.ntmps34
   go_wp2_with fail
   rw[←hw1.out]
   exact HZ
  ·by_cases k6:kd=6
   ·subst k6
    have HZ:=HA.out w1 true L1 (by rw[HE.out];rfl)
    clear HA hB hC
    go_enter Tryz.func34,Tryz.ntmps34
    go_wp2_with fail
    rw[←hw1.out]
    exact HZ
   ·by_cases k2:kd=2
    ·subst k2
     have hB1:=hB w1 L1
     have HE2:Hid (St.ends l=(eb&&ee)):=by unfold Hid;rw[HE.out];rfl
     clear hB HE
     go_enter Tryz.func34,Tryz.ntmps34
     go_wp2_with fail
     rw[←hw1.out]
     refine hB1.mono ?_
     rintro e w2 ⟨rfl,l2⟩
     have L2:=L1.trans l2
     have hb2:=hb1.later l2
     have y6:=(hb2.cell 6 _ rfl).1
     have y7:=(hb2.cell 7 _ rfl).1
     have yl:=hb2.lt
     have hC1:=hC w2 L2
     clear hB1 hC
     cases eb with
     | false =>
      have HZ:=HA.out w2 false L2 (by rw[HE2.out];rfl)
      clear HA hC1
      go_wp2_with fail
      exact HZ
     | true =>
      go_wp2_with fail
      refine hC1.mono ?_
      rintro e w3 ⟨rfl,l3⟩
      have HZ:=HA.out w3 ee (L2.trans l3) (by rw[HE2.out];rfl)
      clear HA hC1
      cases ee
      all_goals
       go_wp2_with fail
       exact HZ
    ·have n4:=neb k4
     have n6:=neb k6
     have n2:=neb k2
     have HZ:=HA.out w1 false L1 (by rw[HE.out,n4,n6,n2];rfl)
     clear HA hB hC k4 k6 k2
     go_enter Tryz.func34,Tryz.ntmps34
     go_wp2_with fail
     rw[←hw1.out]
     exact HZ
theorem St.dats_mp (l:List St):St.dats l=l.map St.dat:=by
 induction l with
 | nil=>rw[St.dats,List.map_nil]
 | cons x r ih=>rw[St.dats,ih,List.map_cons]
theorem St.front {w:World}{a:Option Addr}{n cap:Nat}{l:List St}(h:RdL w 8 (.slice a n cap) (St.dats l)) {j:Nat}(hj:j≤l.length):RdL w 8 (.slice a j cap) (St.dats (l.take j)):=by
 obtain⟨a',c',e,⟨h1,h2⟩,h3⟩:=h
 cases e
 rw[St.dats_mp]at h1 h3
 rw[List.length_map]at h1
 have e:((l.take j).map St.dat).length=j:=by rw[List.length_map,List.length_take];omega
 rw[St.dats_mp]
 refine⟨a,cap,by rw[e],by rw[e];exact⟨by omega,h2⟩,fun i hi=>?_⟩
 rw[e]at hi
 have:=h3 i (by rw[List.length_map];omega)
 simpa using this
theorem sflow_all:∀ (n:Nat) (l:List St) (v:Value) (w:World),St.szs l≤n→RdL w 8 v (St.dats l)→Calls Tryz.prog 33 #[v] w (EndP (St.flows l) w):=by
 intro n
 induction n using Nat.strongRecOn with
 | _ n IH =>
 intro l v w hz h
 obtain⟨a,cap,rfl,hlen⟩:=St.slice h
 have HA:Hid (∀ w' b,Later w w'→St.flows l=b→EndP (St.flows l) w (.returned (.bool b)) w'):=fun w' b l h=>⟨by rw[h],l⟩
 have hcap:l.length≤cap:=by
  obtain⟨a',c',e,⟨h1,_⟩,_⟩:=h
  rw[St.dats_mp,List.length_map]at *
  cases e
  exact h1
 generalize hQ:EndP (St.flows l) w=Q at *
 clear hQ
 go_enter Tryz.func33,Tryz.ntmps33
 go_wp2_with fail
 go_loopw [3] (fun i wr=>∃ (j:Nat),i=.int .i64 (j:Int)∧j≤l.length∧Later w wr∧Hid (∀ i (hi:i<l.length),i<j→l[i].flow1=true∧(i+1<l.length→l[i].end1=false))) (fun i _=>l.length - (intOf i).toNat)
 case atStart=>exact⟨0,rfl,Nat.zero_le _,Later.refl _,fun i _ hj=>absurd hj (Nat.not_lt_zero _)⟩
 case round =>
  obtain⟨j,rfl,hj,lr,HJ⟩:=hrel
  by_cases hlt:j<l.length
  ·obtain⟨g,off,k0,k1,k2,k3,rfl,hgs,c0,c1,c2,c3,c4,c5,c6,c7,r0,r1,r2,r3⟩:=St.elem (RdL.later lr h) j hlt
   have hszj:=St.sz_at l j hlt
   have hkle:=St.kids_le l[j]
   have i1:(j:Int)<(l.length:Int):=by omega
   have i0:(0:Int)≤(j:Int)+1:=by omega
   have i4:(j:Int)+1≤(cap:Int):=by omega
   have hB:=fun w' (q:Later wr w')=>IH (St.szs l[j].body) (by omega) l[j].body k2 w' (Nat.le_refl _) (RdL.later q r2)
   have hC:=fun w' (q:Later wr w')=>IH (St.szs l[j].els) (by omega) l[j].els k3 w' (Nat.le_refl _) (RdL.later q r3)
   have hD:=fun w' (q:Later wr w')=>sends_all (St.szs (l.take (j+1))) (l.take (j+1)) (.slice (some ⟨g,off,none⟩) (j+1) cap) w' (Nat.le_refl _) (St.front (RdL.later (lr.trans q) h) hlt)
   rw[St.ends_take hlt]at hD
   have HNo:Hid ((l[j].flow1=true→j+1<l.length∧l[j].end1=true)→St.flows l=false):=St.flows_no hlt
   have HGo:Hid (l[j].flow1=true→(j+1<l.length→l[j].end1=false)→∀ i (hi:i<l.length),i<j+1→l[i].flow1=true∧(i+1<l.length→l[i].end1=false)):=fun h1 h2 i hi hij=>by
    rcases Nat.lt_or_ge i j with q|q
    ·exact HJ.out i hi q
    ·have:i=j:=by omega
     subst this
     exact⟨h1,h2⟩
   have H1:Hid (l[j].flow1=(St.flows l[j].body&&St.flows l[j].els)):=St.flow1_eq _
   have hgw:g<wr.heap.size:=hgs
   have HC:Hid (∀ w',Later wr w'→w'.cell? ⟨g,off+j*8+7,none⟩=some k3):=fun w' q=>by rw[Below.cell q (p:=⟨g,off+j*8+7,none⟩) hgs];exact c7
   obtain⟨z2,d2,rfl,_⟩:=St.slice r2
   obtain⟨z3,d3,rfl,_⟩:=St.slice r3
   clear IH HJ r0 r1 r2 r3 c0 c1 c2 c3 c4 c5 hszj hkle h hz
   generalize l[j].flow1=fl at *
   generalize l[j].end1=en at *
   generalize St.flows l[j].body=fb at *
   generalize St.flows l[j].els=fe at *
   have hB1:=hB wr (Later.refl _)
   clear hB
   go_wp2_with fail
   refine hB1.mono ?_
   rintro e w2 ⟨rfl,l2⟩
   clear hB1
   cases fb with
   | false =>
    have HZ:=HA.out w2 false (lr.trans l2) (HNo.out (by rw[H1.out];intro q;cases q))
    clear HA hC hD HNo HGo H1 HC
    go_wp2_with fail
    exact HZ
   | true =>
    have hC1:=hC w2 l2
    have y7:=HC.out w2 l2
    have hg2:g<w2.heap.size:=Nat.lt_of_lt_of_le hgw l2.size
    clear hC HC
    go_wp2_with fail
    refine hC1.mono ?_
    rintro e w3 ⟨rfl,l3⟩
    have L3:=l2.trans l3
    clear hC1
    cases fe with
    | false =>
     have HZ:=HA.out w3 false (lr.trans L3) (HNo.out (by rw[H1.out];intro q;cases q))
     clear HA hD HNo HGo H1
     go_wp2_with fail
     exact HZ
    | true =>
     by_cases hm:j+1<l.length
     ·have i5:(j:Int)+1<(l.length:Int):=by omega
      have hD1:=hD w3 L3
      clear hD
      go_wp2_with fail
      refine hD1.mono ?_
      rintro e w4 ⟨rfl,l4⟩
      have L4:=L3.trans l4
      clear hD1
      cases en with
      | true =>
       have HZ:=HA.out w4 false (lr.trans L4) (HNo.out (fun _=>⟨hm,rfl⟩))
       clear HA HNo HGo H1
       go_wp2_with fail
       exact HZ
      | false =>
       have HN:Hid _:=HGo.out (by rw[H1.out];rfl) (fun _=>rfl)
       clear HNo HGo H1
       go_wp2_with fail
       go_roundw
       case rel=>exact⟨j+1,by go_num,by omega,lr.trans L4,HN⟩
       case measure=>simp[intOf];omega
     ·have i5:¬ (j:Int)+1<(l.length:Int):=by omega
      have i6:decide ((j:Int)+1<(l.length:Int))=false:=decide_eq_false i5
      have HN:Hid _:=HGo.out (by rw[H1.out];rfl) (fun q=>absurd q hm)
      clear HNo HGo H1 hD
      go_wp2_with fail
      go_roundw
      case rel=>exact⟨j+1,by go_num,by omega,lr.trans L3,HN⟩
      case measure=>simp[intOf];omega
  ·have i1:¬ (j:Int)<(l.length:Int):=by omega
   have i2:decide ((j:Int)<(l.length:Int))=false:=decide_eq_false i1
   have HZ:=HA.out wr true lr ((St.flows_iff l).2 fun i hi=>HJ.out i hi (by omega))
   clear HA HJ IH h
   go_wp2_with fail
   exact HZ
end Go.Proofs.YtmdejbphoafjlaaGreatDoor
