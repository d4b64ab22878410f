import Derived.Test.YtjnpncefkigcbaaGreatHe
set_option maxHeartbeats 100000000
set_option maxRecDepth 100000
namespace Go.Proofs.YtjnpncefkigcbaaGreat
open Go.RowKit
theorem hidq {α:Type}(x:α):∃ T,Hid (T=x):=⟨x,rfl⟩
def cdSz (c:Cd):Nat:=8+12*c.ins.length+(4*c.maps.length+2*Ma.pre c.maps c.maps.length)
def cdSzs:List Cd→Nat
 | []=>0
 | c::r=>cdSz c+cdSzs r
theorem cdSzs_app (a b:List Cd):cdSzs (a++b)=cdSzs a+cdSzs b:=by
 induction a with
 | nil=>rw[List.nil_append,cdSzs,Nat.zero_add]
 | cons x r ih=>rw[List.cons_append,cdSzs,cdSzs,ih];omega
theorem cdSzs_succ {l:List Cd}{k:Nat}(h:k<l.length):cdSzs (l.take (k+1))=cdSzs (l.take k)+cdSz l[k]:=by
 rw[List.take_succ_eq_append_getElem h,cdSzs_app,cdSzs,cdSzs,Nat.add_zero]
theorem cdSz_le (c:Cd):cdSz c≤8+12*c.sz:=by
 obtain⟨f,p,is,ms⟩:=c;have e:=Ma.pre_all ms;show 8+12*is.length+(4*ms.length+2*Ma.pre ms ms.length)≤8+12*(Is.szs is+Ma.szs ms);unfold Is.szs;omega
theorem cdSzs_le (l:List Cd):cdSzs l≤12*Cd.szs l:=by
 induction l with
 | nil=>exact Nat.zero_le _
 | cons x r ih=>rw[cdSzs,Cd.szs];have:=cdSz_le x;omega
theorem cdSzs_pre (l:List Cd) (k:Nat):cdSzs (l.take k)≤cdSzs l:=by
 have e:cdSzs l=cdSzs (l.take k)+cdSzs (l.drop k):=by rw[←cdSzs_app,List.take_append_drop]
 omega
def imSz (x:Im):Nat:=8+(2*x.structs.length+Bs.pre x.structs x.structs.length)+cdSzs x.codes
theorem Im.sz_eq (x:Im):x.sz=Bs.szs x.structs+Cd.szs x.codes:=by obtain⟨s,c,m⟩:=x;rfl
theorem isize_any (B:Nat) (x:Im) (sv cv:Value) (w:World) (hs:w.cell? ⟨B,0,none⟩=some sv) (hc:w.cell? ⟨B,1,none⟩=some cv) (hB:B<w.heap.size) (h0:RdL w 1 sv (Bs.dats x.structs)) (h1:RdL w 4 cv (Cd.dats x.codes)) (hsz:x.sz≤1048576) :
  Calls Tryz.prog 58 #[.pointer (some ⟨B,0,none⟩)] w fun e w'=>e=.returned (.int .i64 (imSz x:Nat))∧Later w w':=by
 have HC:Hid (∀ w',Later w w'→w'.cell? ⟨B,1,none⟩=some cv):=fun w' l=>by rw[Below.cell l (p:=⟨B,1,none⟩) hB];exact hc
 have HE:Hid ((imSz x:Nat)=8+(2*x.structs.length+Bs.pre x.structs x.structs.length)+cdSzs x.codes):=rfl
 generalize imSz x=M at *
 rw[Im.sz_eq]at hsz;obtain⟨a,cap,rfl,hl⟩:=Bs.slice h0;obtain⟨a',cap',rfl,hl'⟩:=Cd.slice h1;go_enter Tryz.func58,Tryz.ntmps58;go_wp2_with fail
 go_loopw [3,15] (fun z i wr=>∃ (k:Nat),z=.int .i64 ((8+(2*k+Bs.pre x.structs k):Nat):Int)∧i=.int .i64 (k:Int)∧k≤x.structs.length∧Later w wr) (fun _ i _=>x.structs.length - (intOf i).toNat)
 case atStart=>exact⟨0,by rw[Bs.pre_zero];rfl,rfl,Nat.zero_le _,Later.refl _⟩
 case round =>
  obtain⟨k,rfl,rfl,hk,lr⟩:=hrel;by_cases hlt:k<x.structs.length
  ·obtain⟨g,off,v0,rfl,hg,c0,r0⟩:=Bs.elem (RdL.later lr h0) k hlt;rw[Nat.mul_one]at c0;obtain⟨a0,p0,rfl,hl0⟩:=Bo.slice r0;have i1:(k:Int)<(x.structs.length:Int):=by omega
   have e1:=Bs.pre_succ hlt;have e2:x.structs[k].sz=x.structs[k].l.length:=by obtain⟨l⟩:=x.structs[k];rfl
   have e3:=Bs.pre_le x.structs (k+1) (by omega);have HP:Hid (Bs.pre x.structs (k+1)=Bs.pre x.structs k+x.structs[k].l.length):=by unfold Hid;rw[e1,e2]
   have b1:-9223372036854775808≤(2:Int)+(x.structs[k].l.length:Int):=by omega
   have b2:(2:Int)+(x.structs[k].l.length:Int)≤9223372036854775807:=by omega
   have b3:-9223372036854775808≤((8+(2*k+Bs.pre x.structs k):Nat):Int)+(2+(x.structs[k].l.length:Int)):=by omega
   have b4:((8+(2*k+Bs.pre x.structs k):Nat):Int)+(2+(x.structs[k].l.length:Int))≤9223372036854775807:=by omega
   clear h0 h1 e1 e2 e3 r0
   generalize x.structs[k].l.length=n at *
   generalize hq:(8+(2*k+Bs.pre x.structs k):Nat)=q at *
   have HQ:Hid (8+(2*k+Bs.pre x.structs k)=q):=hq;clear hq;go_wp2_with fail
   go_roundw
   case rel=>exact⟨k+1,by rw[HP.out];have:=HQ.out;go_num,by go_num,by omega,lr⟩
   case measure=>simp[intOf];omega
  ·have i1:¬ (k:Int)<(x.structs.length:Int):=by omega
   have i2:decide ((k:Int)<(x.structs.length:Int))=false:=decide_eq_false i1;have hkk:k=x.structs.length:=by omega
   subst hkk;have c1:=HC.out wr lr;have hBw:=Nat.lt_of_lt_of_le hB lr.size;have hp:=Bs.pre_all x.structs;obtain⟨q,hq⟩ :=hidq (8+(2*x.structs.length+Bs.pre x.structs x.structs.length));have hq1:q≤8+2*1048576:=by have:=hq.out;omega
   rw[←hq.out]at HE ⊢;have hcs:=cdSzs_le x.codes;clear h0 hp hq;go_wp2_with fail
   go_loopw [3,30] (fun z i wr=>∃ (k:Nat),z=.int .i64 ((q+cdSzs (x.codes.take k):Nat):Int)∧i=.int .i64 (k:Int)∧k≤x.codes.length∧Later w wr) (fun _ i _=>x.codes.length - (intOf i).toNat)
   case atStart=>exact⟨0,rfl,rfl,Nat.zero_le _,lr⟩
   case round =>
    obtain⟨k,rfl,rfl,hk,lr2⟩:=hrel;by_cases hlt:k<x.codes.length
    ·obtain⟨g,off,v0,v1,rfl,hg,c0,c1',c2,c3,r0,r1⟩:=Cd.elem (RdL.later lr2 h1) k hlt;have i1:(k:Int)<(x.codes.length:Int):=by omega
     have e1:=cdSzs_succ hlt;have e2:=cdSzs_pre x.codes (k+1);have e3:cdSz x.codes[k]=8+12*x.codes[k].ins.length+(4*x.codes[k].maps.length+2*Ma.pre x.codes[k].maps x.codes[k].maps.length):=rfl;have e4:=Ma.pre_all x.codes[k].maps;obtain⟨a0,p0,rfl,hl0⟩:=Is.slice r0;obtain⟨a1,p1,rfl,hl1⟩:=Ma.slice r1;have HR:Hid (∀ w',Later wr w'→RdL w' 2 (.slice a1 x.codes[k].maps.length p1) (Ma.dats x.codes[k].maps)):=fun w' l=>RdL.later l r1;obtain⟨t,ht⟩:=hidq (q+cdSzs (x.codes.take k));have HT:Hid (q+cdSzs (x.codes.take (k+1))=t+8+12*x.codes[k].ins.length+(4*x.codes[k].maps.length+2*Ma.pre x.codes[k].maps x.codes[k].maps.length)):=by unfold Hid;rw[e1,e3,ht.out];omega
     rw[←ht.out];have tb:t+8+12*x.codes[k].ins.length+(4*x.codes[k].maps.length+2*Ma.pre x.codes[k].maps x.codes[k].maps.length)≤100000000:=by have:=HT.out;omega
     have HM:Hid (∀ m,m<x.codes[k].maps.length→Ma.pre x.codes[k].maps (m+1)≤Ma.pre x.codes[k].maps x.codes[k].maps.length):=fun m hm=>by
      have z1:=Ma.pre_le x.codes[k].maps (m+1) hm;have z2:=Ma.pre_all x.codes[k].maps;omega
     generalize x.codes[k].frame=zf at *
     generalize x.codes[k].params=zp at *
     generalize x.codes[k].ins.length=ni at *
     have b1:-9223372036854775808≤(ni:Int)*12:=by omega
     have b2:(ni:Int)*12≤9223372036854775807:=by omega
     have b3:-9223372036854775808≤8+(ni:Int)*12:=by omega
     have b4:8+(ni:Int)*12≤9223372036854775807:=by omega
     have b5:-9223372036854775808≤(t:Int)+(8+(ni:Int)*12):=by omega
     have b6:(t:Int)+(8+(ni:Int)*12)≤9223372036854775807:=by omega
     clear h1 r0 r1 e1 e2 e3 e4 ht HC c1;obtain⟨wo,hwo⟩:=hidq wr;rw[←hwo.out]at lr2 HR;obtain⟨wk,hwk⟩:=hidq (wr.alloc (.cells #[.int .i64 zf,.int .i64 zp,.slice a0 ni p0,.slice a1 x.codes[k].maps.length p1] 61));have lk:Later wo wk:=by rw[hwk.out,hwo.out];exact later1 _ _
     go_wp2_with fail
     rw[←hwk.out];clear hwk hwo;go_loopw [3,44] (fun z i wr=>∃ (m:Nat),z=.int .i64 ((t+8+12*ni+(4*m+2*Ma.pre x.codes[k].maps m):Nat):Int)∧i=.int .i64 (m:Int)∧m≤x.codes[k].maps.length∧Later wo wr) (fun _ i _=>x.codes[k].maps.length - (intOf i).toNat)
     case atStart=>exact⟨0,by rw[Ma.pre_zero];go_num,rfl,Nat.zero_le _,lk⟩
     case round =>
      obtain⟨m,rfl,rfl,hm,lm⟩:=hrel;by_cases hmt:m<x.codes[k].maps.length
      ·obtain⟨g2,off2,v2,rfl,hg2,d0,d1,s2⟩:=Ma.elem (HR.out _ lm) m hmt;obtain⟨a2,p2,rfl,hl2⟩:=In.slice s2;have i2:(m:Int)<(x.codes[k].maps.length:Int):=by omega
       have f1:=Ma.pre_succ hmt;have f2:x.codes[k].maps[m].sz=x.codes[k].maps[m].slots.length:=by obtain⟨pc,l⟩:=x.codes[k].maps[m];rfl
       have f3:=HM.out m hmt;have HP:Hid (Ma.pre x.codes[k].maps (m+1)=Ma.pre x.codes[k].maps m+x.codes[k].maps[m].slots.length):=by unfold Hid;rw[f1,f2]
       have f4:Ma.pre x.codes[k].maps m+x.codes[k].maps[m].slots.length≤Ma.pre x.codes[k].maps x.codes[k].maps.length:=by rw[←HP.out];exact f3
       generalize x.codes[k].maps[m].pc=zc at *
       generalize x.codes[k].maps[m].slots.length=ns at *
       obtain⟨u,hu⟩:=hidq (t+8+12*ni+(4*m+2*Ma.pre x.codes[k].maps m));have hu1:u+4+2*ns≤100000004:=by have:=hu.out;omega
       rw[←hu.out];have b1:-9223372036854775808≤(ns:Int)*2:=by omega
       have b2:(ns:Int)*2≤9223372036854775807:=by omega
       have b3:-9223372036854775808≤4+(ns:Int)*2:=by omega
       have b4:4+(ns:Int)*2≤9223372036854775807:=by omega
       have b5:-9223372036854775808≤(u:Int)+(4+(ns:Int)*2):=by omega
       have b6:(u:Int)+(4+(ns:Int)*2)≤9223372036854775807:=by omega
       clear f1 f2 f3 f4 s2 HM;go_wp2_with fail
       go_roundw
       case rel=>exact⟨m+1,by rw[HP.out];have:=hu.out;go_num,by go_num,by omega,lm.trans (later1 _ _)⟩
       case measure=>simp[intOf];omega
      ·have i2:¬ (m:Int)<(x.codes[k].maps.length:Int):=by omega
       have i3:decide ((m:Int)<(x.codes[k].maps.length:Int))=false:=decide_eq_false i2;have hmm:m=x.codes[k].maps.length:=by omega
       subst hmm;rw[←HT.out];clear HM HR;go_wp2_with fail
       go_roundw
       case rel=>exact⟨k+1,rfl,by go_num,by omega,lr2.trans lm⟩
       case measure=>simp[intOf];omega
    ·have i1:¬ (k:Int)<(x.codes.length:Int):=by omega
     have i2:decide ((k:Int)<(x.codes.length:Int))=false:=decide_eq_false i1;have hkk:k=x.codes.length:=by omega
     subst hkk;rw[List.take_length];have HM:Hid (q+cdSzs x.codes=M):=HE.out.symm;rw[HM.out];clear h1 HE HM hcs;go_wp2_with fail
     go_ret;exact⟨rfl,lr2⟩
def imB0 (x:Im):Bool:=decide (x.structs.length≤6)&&(decide (x.codes.length≤8)&&(plB x.main (x.codes.length:Int)&&((match x.codes[x.main.toNat]? with|some c=>c.params==0|none=>false)&&(x.structs.all (fun l=>decide (l.l.length≤5))&&x.codes.all (cdB (x.structs.length:Int) (x.codes.length:Int))))))
def imB (x:Im):Bool:=imB0 x&&decide (imSz x≤200000)
theorem iimok_b (x:Im) (sv cv:Value) (w:World) (h0:RdL w 1 sv (Bs.dats x.structs)) (h1:RdL w 4 cv (Cd.dats x.codes)) (hsz:x.sz≤1048576) {b:Bool}(hb:imB x=b) :
  Calls Tryz.prog 28 #[.agg #[sv,cv,.int .i64 x.main]] w fun e w'=>e=.returned (.bool b)∧Later w w':=by
 obtain⟨a,cap,rfl,hl⟩:=Bs.slice h0;obtain⟨a',cap',rfl,hl'⟩:=Cd.slice h1;obtain⟨wa,hwa⟩:=hidq (w.alloc (.cells #[.slice a x.structs.length cap,.slice a' x.codes.length cap',.int .i64 x.main] 37));have la:Later w wa:=by rw[hwa.out];exact later1 _ _
 have hBl:w.heap.size<wa.heap.size:=by rw[hwa.out,World.size_alloc];omega
 have HX:Hid (∀ w',Later wa w'→w'.cell? ⟨w.heap.size,0,none⟩=some (.slice a x.structs.length cap)∧w'.cell? ⟨w.heap.size,1,none⟩=some (.slice a' x.codes.length cap')∧w'.cell? ⟨w.heap.size,2,none⟩=some (.int .i64 x.main)∧w.heap.size<w'.heap.size):=fun w' l=>by
  refine⟨?_,?_,?_,Nat.lt_of_lt_of_le hBl l.size⟩
  ·rw[Below.cell l (p:=⟨w.heap.size,0,none⟩) hBl,hwa.out];simp
  ·rw[Below.cell l (p:=⟨w.heap.size,1,none⟩) hBl,hwa.out];simp
  ·rw[Below.cell l (p:=⟨w.heap.size,2,none⟩) hBl,hwa.out];simp
 have HI:Hid (∀ w',Later wa w'→Calls Tryz.prog 58 #[.pointer (some ⟨w.heap.size,0,none⟩)] w' fun e w2=>e=.returned (.int .i64 (imSz x:Nat))∧Later w' w2):=fun w' l=>isize_any w.heap.size x _ _ w' (HX.out w' l).1 (HX.out w' l).2.1 (HX.out w' l).2.2.2 (RdL.later (la.trans l) h0) (RdL.later (la.trans l) h1) hsz;unfold imB imB0 at hb;by_cases s6:x.structs.length≤6
 case neg =>
  rw[decide_eq_false s6,Bool.false_and,Bool.false_and]at hb;subst hb;have g1:(6:Int)<(x.structs.length:Int):=by omega
  clear h0 h1 HX HI;go_enter Tryz.func28,Tryz.ntmps28;go_wp2_with fail
  go_ret;exact⟨rfl,later1 _ _⟩
 rw[decide_eq_true s6,Bool.true_and]at hb;have g1:¬ (6:Int)<(x.structs.length:Int):=by omega
 by_cases c8:x.codes.length≤8
 case neg =>
  rw[decide_eq_false c8,Bool.false_and,Bool.false_and]at hb;subst hb;have g2:(8:Int)<(x.codes.length:Int):=by omega
  clear h0 h1 HX HI;go_enter Tryz.func28,Tryz.ntmps28;go_wp2_with fail
  go_ret;exact⟨rfl,later1 _ _⟩
 rw[decide_eq_true c8,Bool.true_and]at hb;have g2:¬ (8:Int)<(x.codes.length:Int):=by omega
 cases e3:plB x.main (x.codes.length:Int) with
 | false =>
  rw[e3,Bool.false_and,Bool.false_and]at hb;subst hb;clear h0 h1 HX HI
  generalize x.main=zm at *
  go_enter Tryz.func28,Tryz.ntmps28;go_wp2_with (go_at_call 56;refine (place_b (by assumption) _).mono ?_;rintro e w1 ⟨rfl,hww⟩;obtain rfl:=hww.symm)
  go_ret;exact⟨rfl,later1 _ _⟩
 | true =>
 rw[e3,Bool.true_and]at hb
 have hmn:0≤x.main∧x.main<(x.codes.length:Int):=by
  unfold plB at e3;rw[Bool.and_eq_true,decide_eq_true_eq,decide_eq_true_eq]at e3;exact e3
 obtain⟨mn,hmv⟩:∃ mn:Nat,x.main=(mn:Int):=⟨x.main.toNat,by omega⟩
 have hml:mn<x.codes.length:=by omega
 have htn:x.main.toNat=mn:=by omega
 rw[htn,List.getElem?_eq_getElem hml]at hb;dsimp only at hb;have ma0:(0:Int)≤(mn:Int):=by omega
 have ma1:(mn:Int)<(x.codes.length:Int):=by omega
 rw[hmv]at hwa HX e3 ⊢;obtain⟨gm,om,u0,u1,rfl,hgm,m0,m1,m2,m3,_,_⟩:=Cd.elem h1 mn hml
 cases e4:(x.codes[mn].params==0) with
 | false =>
  rw[e4,Bool.false_and,Bool.false_and]at hb;subst hb;have e4':(x.codes[mn].params != 0)=true:=by simpa using e4
  generalize x.codes[mn].params=zp at *
  clear h0 h1 HX HI m0 m2 m3;go_enter Tryz.func28,Tryz.ntmps28;go_wp2_with (go_at_call 56;refine (place_b (by assumption) _).mono ?_;rintro e w1 ⟨rfl,hww⟩;obtain rfl:=hww.symm)
  go_ret;exact⟨rfl,later1 _ _⟩
 | true =>
 rw[e4,Bool.true_and]at hb;have e4':(x.codes[mn].params != 0)=false:=by simpa using e4
 have HAll:Hid ((x.structs.all (fun l=>decide (l.l.length≤5))&&x.codes.all (cdB (x.structs.length:Int) (x.codes.length:Int))&&decide (imSz x≤200000))=b):=hb;have H0:Hid (∀ w',Later wa w'→RdL w' 1 (.slice a x.structs.length cap) (Bs.dats x.structs)):=fun w' l=>RdL.later (la.trans l) h0;have H1:Hid (∀ w',Later wa w'→RdL w' 4 (.slice (some ⟨gm,om,none⟩) x.codes.length cap') (Cd.dats x.codes)):=fun w' l=>RdL.later (la.trans l) h1
 generalize x.codes[mn].params=zp at *
 clear h0 h1 m0 m2 m3 hb;go_enter Tryz.func28,Tryz.ntmps28;go_wp2_with (go_at_call 56;refine (place_b (by assumption) _).mono ?_;rintro e w1 ⟨rfl,hww⟩;obtain rfl:=hww.symm)
 rw[←hwa.out];go_loopw [38] (fun i wr=>∃ (k:Nat),i=.int .i64 (k:Int)∧k≤x.structs.length∧wr=wa∧∀ y∈x.structs.take k,y.l.length≤5) (fun i _=>x.structs.length - (intOf i).toNat)
 case atStart=>exact⟨0,rfl,Nat.zero_le _,rfl,fun y hy=>by cases hy⟩
 case round =>
  obtain⟨k,rfl,hk,rfl,hS⟩:=hrel;by_cases hlt:k<x.structs.length
  ·obtain⟨g,off,v0,rfl,hg,c0,r0⟩:=Bs.elem (H0.out _ (Later.refl _)) k hlt;rw[Nat.mul_one]at c0;obtain⟨a0,p0,rfl,hl0⟩:=Bo.slice r0;have i1:(k:Int)<(x.structs.length:Int):=by omega
   by_cases h5:x.structs[k].l.length≤5
   ·have g5:¬ (5:Int)<(x.structs[k].l.length:Int):=by omega
    have HT:Hid (∀ y∈x.structs.take (k+1),y.l.length≤5):=fun y hy=>by
     rw[List.take_succ_eq_append_getElem hlt]at hy;rcases List.mem_append.1 hy with hy|hy
     ·exact hS y hy
     ·rw[List.mem_singleton.1 hy];exact h5
    clear hS r0;go_wp2_with fail
    go_roundw
    case rel=>exact⟨k+1,by go_num,by omega,trivial,HT.out⟩
    case measure=>simp[intOf];omega
   ·have g5:(5:Int)<(x.structs[k].l.length:Int):=by omega
    have hbf:b=false:=by
     have:x.structs.all (fun l=>decide (l.l.length≤5))=false:=by
      rw[List.all_eq_false];exact⟨_,List.getElem_mem hlt,by simp;omega⟩
     rw[←HAll.out,this,Bool.false_and,Bool.false_and]
    subst hbf;clear hS r0 HAll;go_wp2_with fail
    go_ret;exact⟨rfl,la⟩
  ·have i1:¬ (k:Int)<(x.structs.length:Int):=by omega
   have i2:decide ((k:Int)<(x.structs.length:Int))=false:=decide_eq_false i1
   have hall:x.structs.all (fun l=>decide (l.l.length≤5))=true:=by
    rw[List.all_eq_true];intro y hy;exact decide_eq_true (hS y (by rw[List.take_of_length_le (by omega)];exact hy))
   have HA2:Hid ((x.codes.all (cdB (x.structs.length:Int) (x.codes.length:Int))&&decide (imSz x≤200000))=b):=by unfold Hid;rw[←HAll.out,hall,Bool.true_and]
   obtain⟨t0,t1,t2,_⟩:=HX.out wr (Later.refl _);clear hall HAll hS hwa;go_wp2_with fail
   obtain⟨wo,hwo⟩:=hidq wr;rw[←hwo.out]at la HX HI H0 H1 t0 t1 t2 hBl ⊢;clear hwo;go_loopw [49] (fun i wr=>∃ (k:Nat),i=.int .i64 (k:Int)∧k≤x.codes.length∧Later wo wr∧∀ y∈x.codes.take k,cdB (x.structs.length:Int) (x.codes.length:Int) y=true) (fun i _=>x.codes.length - (intOf i).toNat)
   case atStart=>exact⟨0,rfl,Nat.zero_le _,Later.refl _,fun y hy=>by cases hy⟩
   case round =>
    obtain⟨k,rfl,hk,lr,hS⟩:=hrel;obtain⟨t0,t1,t2,t3⟩:=HX.out wr lr;by_cases hlt:k<x.codes.length
    ·obtain⟨g,off,v0,v1,eg,hg,c0,c1,c2,c3,r0,r1⟩:=Cd.elem (H1.out wr lr) k hlt
     cases eg
     have i1:(k:Int)<(x.codes.length:Int):=by omega
     have HT:Hid (∀ bb,cdB (x.structs.length:Int) (x.codes.length:Int) x.codes[k]=bb→(bb=true→∀ y∈x.codes.take (k+1),cdB (x.structs.length:Int) (x.codes.length:Int) y=true)∧(bb=false→b=false)):=fun bb hbb=>by
      refine⟨fun e y hy=>?_,fun e=>?_⟩
      ·rw[List.take_succ_eq_append_getElem hlt]at hy;rcases List.mem_append.1 hy with hy|hy
       ·exact hS y hy
       ·rw[List.mem_singleton.1 hy,hbb,e]
      ·have:x.codes.all (cdB (x.structs.length:Int) (x.codes.length:Int))=false:=by
        rw[List.all_eq_false];exact⟨_,List.getElem_mem hlt,by rw[hbb,e];exact Bool.false_ne_true⟩
       rw[←HA2.out,this,Bool.false_and]
     have hx:=codeok_b w.heap.size gm (om+k*4) x.structs.length x.codes.length _ _ _ _ x.codes[k] v0 v1 wr t0 t1 c0 c1 c2 c3 t3 hg r0 r1 hl hl' rfl
     generalize hii:cdB (x.structs.length:Int) (x.codes.length:Int) x.codes[k]=bb at *
     have HT'':Hid ((bb=true→∀ y∈x.codes.take (k+1),cdB (x.structs.length:Int) (x.codes.length:Int) y=true)∧(bb=false→b=false)):=HT.out bb rfl;clear hS HT hii r0 r1 c0 c1 c2 c3;go_wp2_with fail
     refine hx.mono ?_;rintro e w1 ⟨rfl,l1⟩
     cases bb with
     | false =>
      have hbf:=HT''.out.2 rfl;subst hbf;clear hx HA2;go_wp2_with fail
      go_ret;exact⟨rfl,la.trans (lr.trans l1)⟩
     | true =>
      clear hx;go_wp2_with fail
      go_roundw
      case rel=>exact⟨k+1,by go_num,by omega,lr.trans l1,HT''.out.1 (by trivial)⟩
      case measure=>simp[intOf];omega
    ·have i1:¬ (k:Int)<(x.codes.length:Int):=by omega
     have i2:decide ((k:Int)<(x.codes.length:Int))=false:=decide_eq_false i1
     have hall:x.codes.all (cdB (x.structs.length:Int) (x.codes.length:Int))=true:=by
      rw[List.all_eq_true];intro y hy;exact hS y (by rw[List.take_of_length_le (by omega)];exact hy)
     have hmb:decide (imSz x≤200000)=b:=by rw[←HA2.out,hall,Bool.true_and]
     have hx:=HI.out wr lr
     have HD:Hid (decide (((imSz x:Nat):Int)≤200000)=b):=by
      unfold Hid;rw[←hmb]
      apply decide_eq_decide.2
      omega
     generalize imSz x=M at *
     clear hS HA2 hall hmb HI H0 H1;go_wp2_with fail
     refine hx.mono ?_;rintro e w1 ⟨rfl,l1⟩;clear hx;go_wp2_with fail
     go_ret;exact⟨by rw[←HD.out];first|rfl|simp,la.trans (lr.trans l1)⟩
end Go.Proofs.YtjnpncefkigcbaaGreat
