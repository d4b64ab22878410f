import Derived.Test.YtgaddpkkjebekaaGreatDoorZ30
import Derived.Test.YtgaddpkkjebekaaGreatDoorZ26
set_option maxHeartbeats 100000000
set_option maxRecDepth 100000
namespace Go.Proofs.YtgaddpkkjebekaaGreatDoor
open Go.RowKit Go.Lib
theorem Good.blk {X:List Int}(h:Good X) (t:List Int):Good (X++bu t):=⟨by have:=h.two;rw[List.length_append];omega,aT X (aT ([32,123,10]++t) (t:=[125]) rfl)⟩
theorem Ut (K:Nat) (A W w:World) (sv tv:Value) (v0:Value) (x1 x2 x3:Option Addr) (y1 z1 y2 z2 y3 z3:Nat) (zs:List Int) (n tk tn:Int) (h:Pr K A W w sv tv zs) (l:List Sc) (hl:RdL W 2 sv (Sc.ah l)) (hnm:dm l) (ht:jv l tk tn) (nm:List Int) (hv0:RdN W v0 nm) (hm:aV nm=true) (hn1:1<=nm.length) (hb:zs.length+([32,118,97,114,32]++nm++aN l tk tn++[32,59]).length<=1000000) :
  Calls Tryz.prog 110 #[.pointer (some ⟨K,0,none⟩),.agg #[.int .i64 0,.int .i64 n,.int .i64 tk,.int .i64 tn,v0,.slice x1 y1 z1,.slice x2 y2 z2,.slice x3 y3 z3]] w (PrP K A W sv (atL zs ([32,118,97,114,32]++nm++aN l tk tn++[32,59]))):=by
 obtain⟨s,g0,off0,q,rfl,_,hs,hcv⟩:=jc hv0 hn1;have hs1:aV (bytesOf s)=true:=by rw[hs];exact hm
 have hG1:Good ([32,118,97,114,32]++nm):=⟨by simp,aT _ hm⟩
 have hG2:Good ([32,118,97,114,32]++nm++aN l tk tn):=by
  rcases y8 hnm ht with e|e
  ·rw[e,List.append_nil];exact hG1
  ·exact hG1.app e
 obtain⟨w1,hw1,hA,HC,hsz,hA1,T,hT,HF⟩:=pr0 h [.int .i64 0,.int .i64 n,.int .i64 tk,.int .i64 tn,.slice (some ⟨g0,off0,none⟩) nm.length q,.slice x1 y1 z1,.slice x2 y2 z2,.slice x3 y3 z3] 110 (by decide) (atL zs ([32,118,97,114,32]++nm++aN l tk tn++[32,59]));have hK:=lt_of_some h.row;rw[<-hT.out];have cv:=hcv w1 hA.lat;rw[hw1.out]at cv;have hl1:=bJ zs ([32,118,97,114,32]++nm);have hl2:=bJ zs ([32,118,97,114,32]++nm++aN l tk tn);have hla:([32,118,97,114,32]:List Int).length=5:=rfl;have hlc:([32,59]:List Int).length=2:=rfl;rw[List.length_append]at hl1;rw[List.length_append,List.length_append]at hl2;rw[List.length_append,List.length_append,List.length_append]at hb;have hat1:atL (atL zs ([32,118,97,114,32]++nm)) (aN l tk tn)=atL zs ([32,118,97,114,32]++nm++aN l tk tn):=cZ zs hG1 _;have hat:atL (atL zs ([32,118,97,114,32]++nm++aN l tk tn)) [32,59]=T:=by rw[hT.out];exact cZ zs hG2 _
 clear hcv;clear hA;go_enter Tryz.func110,Tryz.ntmps110;go_wp2_with fail
 rw[<-hw1.out];refine (Oi K w1 W w1 sv tv zs ⟨#[118,97,114]⟩ s ([32,118,97,114,32]++nm) (by rw[hs];simp[spread,bytesOf]) hA1 (by decide) hs1 (by rw[List.length_append];omega) _ hsz.out).mono ?_;rintro e w2 ⟨rfl,t2,hp2⟩;have q2:=HC.out 2 _ rfl _ hp2.kp;have q3:=HC.out 3 _ rfl _ hp2.kp;go_wp2_with fail
 refine (zn K w1 W w2 sv t2 _ l tk tn hp2 hl hnm ht (by omega)).mono ?_;rintro e w3 ⟨rfl,t3,hp3⟩;rw[hat1]at hp3;go_wp2_with fail
 refine (jw K w1 W w3 sv t3 _ ⟨#[59]⟩ [32,59] rfl hp3 (by decide) (by omega) _ rfl).mono ?_;rintro e wE ⟨rfl,tE,hpE⟩;rw[hat]at hpE;go_wp2_with fail
 refine bodyPost_end (results_none rfl _ _ _) rfl ?_;exact HF.out _ _ hpE
theorem Us (K:Nat) (A W w:World) (sv tv:Value)  (x0 x1 x2 x3:Option Addr) (y0 z0 y1 z1 y2 z2 y3 z3:Nat) (zs:List Int) (n tk tn:Int) (h:Pr K A W w sv tv zs) (ts:List (List Int)) (hks:jX W sv (.slice x1 y1 z1) ts) (hts:ts.length<=1000) (hne:ts≠[]) (hb:zs.length+(bI [61] ts++[32,59]).length<=1000000) :
  Calls Tryz.prog 110 #[.pointer (some ⟨K,0,none⟩),.agg #[.int .i64 1,.int .i64 n,.int .i64 tk,.int .i64 tn,.slice x0 y0 z0,.slice x1 y1 z1,.slice x2 y2 z2,.slice x3 y3 z3]] w (PrP K A W sv (atL zs (bI [61] ts++[32,59]))):=by
 have hG:Good (bI [61] ts):=by
  obtain⟨_,_,_,hg,_⟩:=hks;have:=lm [61] rfl ts hg ts.length (by cases ts with|nil=>exact absurd rfl hne|cons a r=>simp) (Nat.le_refl _)
  rwa [List.take_length]at this
 obtain⟨w1,hw1,hA,HC,hsz,hA1,T,hT,HF⟩:=pr0 h [.int .i64 1,.int .i64 n,.int .i64 tk,.int .i64 tn,.slice x0 y0 z0,.slice x1 y1 z1,.slice x2 y2 z2,.slice x3 y3 z3] 110 (by decide) (atL zs (bI [61] ts++[32,59]));have hK:=lt_of_some h.row;rw[<-hT.out];have hl1:=bJ zs (bI [61] ts);have hlc:([32,59]:List Int).length=2:=rfl;rw[List.length_append]at hb;have hat:atL (atL zs (bI [61] ts)) [32,59]=T:=by rw[hT.out];exact cZ zs hG _
 clear hA;go_enter Tryz.func110,Tryz.ntmps110;go_wp2_with fail
 rw[<-hw1.out];refine (Bl K w1 W w1 sv tv _ zs [61] ⟨#[61]⟩ ts hA1 hks rfl rfl hts (by omega)).mono ?_;rintro e w2 ⟨rfl,t2,hp2⟩;go_wp2_with fail
 refine (jw K w1 W w2 sv t2 _ ⟨#[59]⟩ [32,59] rfl hp2 (by decide) (by omega) _ rfl).mono ?_;rintro e wE ⟨rfl,tE,hpE⟩;rw[hat]at hpE;go_wp2_with fail
 refine bodyPost_end (results_none rfl _ _ _) rfl ?_;exact HF.out _ _ hpE
theorem Ur (K:Nat) (A W w:World) (sv tv:Value) (v1:Value) (x0 x2 x3:Option Addr) (y0 z0 y2 z2 y3 z3:Nat) (zs:List Int) (n tk tn:Int) (h:Pr K A W w sv tv zs) (m:Nat) (t0 tb te:List Int) (hk0:BP W sv v1 m 0 t0) (hg0:Good t0) (hB:Jy W sv (.slice x2 y2 z2) tb) (hE:Jy W sv (.slice x3 y3 z3) te) (hb:zs.length+([32,105,102]++t0++bu tb++[32,101,108,115,101]++bu te).length<=999999) :
  Calls Tryz.prog 110 #[.pointer (some ⟨K,0,none⟩),.agg #[.int .i64 2,.int .i64 n,.int .i64 tk,.int .i64 tn,.slice x0 y0 z0,v1,.slice x2 y2 z2,.slice x3 y3 z3]] w (PrP K A W sv (atL zs ([32,105,102]++t0++bu tb++[32,101,108,115,101]++bu te))):=by
 have hG0:Good [32,105,102]:=⟨by decide,by decide⟩
 have hG1:=hG0.app hg0;have hG2:=hG1.blk tb;have hG3:Good ([32,105,102]++t0++bu tb++[32,101,108,115,101]):=hG2.app ⟨by decide,by decide⟩;obtain⟨hm0,g,off,cap1,k0,n0,tk0,tn0,xx0,xx1,yy0,zz0,yy1,zz1,rfl,hgW,hcl,hcall⟩:=hk0;have hm0':(0:Int)<(m:Int):=by omega
 obtain⟨w1,hw1,hA,HC,hsz,hA1,T,hT,HF⟩:=pr0 h [.int .i64 2,.int .i64 n,.int .i64 tk,.int .i64 tn,.slice x0 y0 z0,.slice (some ⟨g,off,none⟩) m cap1,.slice x2 y2 z2,.slice x3 y3 z3] 110 (by decide) (atL zs ([32,105,102]++t0++bu tb++[32,101,108,115,101]++bu te));have hK:=lt_of_some h.row;rw[<-hT.out];have hl0:=bJ zs [32,105,102];have hl1:=bJ zs ([32,105,102]++t0);have hl2:=bJ zs ([32,105,102]++t0++bu tb);have hl3:=bJ zs ([32,105,102]++t0++bu tb++[32,101,108,115,101]);have hla:([32,105,102]:List Int).length=3:=rfl;have hlc:([32,101,108,115,101]:List Int).length=5:=rfl;simp only[List.length_append]at hb hl1 hl2 hl3;rw[hla]at hb hl0 hl1 hl2 hl3;rw[hlc]at hb hl3;have hat1:atL (atL zs [32,105,102]) t0=atL zs ([32,105,102]++t0):=cZ zs hG0 _;have hat2:atL zs ([32,105,102]++t0)++bu tb=atL zs ([32,105,102]++t0++bu tb):=by rw[<-cZ zs hG1,xk (lY zs hG1)]
 have hat3:atL (atL zs ([32,105,102]++t0++bu tb)) [32,101,108,115,101]=atL zs ([32,105,102]++t0++bu tb++[32,101,108,115,101]):=cZ zs hG2 _;have hat:atL zs ([32,105,102]++t0++bu tb++[32,101,108,115,101])++bu te=T:=by rw[hT.out,<- cZ zs hG3,xk (lY zs hG3)]
 obtain⟨_,_,_,_,hB⟩:=hB;obtain⟨_,_,_,_,hE⟩:=hE;clear hA;go_enter Tryz.func110,Tryz.ntmps110;go_wp2_with fail
 rw[<-hw1.out];refine (jw K w1 W w1 sv tv zs ⟨#[105,102]⟩ [32,105,102] rfl hA1 (by decide) (by omega) _ hsz.out).mono ?_;rintro e w2 ⟨rfl,t2,hp2⟩;obtain⟨c0,c1,c2,c3,c4,c5⟩:=hcl w2 hp2.lat;rw[Nat.zero_mul,Nat.add_zero]at c0 c1 c2 c3 c4 c5;have hgw:g<w2.heap.size:=Nat.lt_of_lt_of_le hgW hp2.lat.size;have q5:=HC.out 5 _ rfl _ hp2.kp;go_wp2_with fail
 refine (hcall K w1 w2 t2 _ hp2 (by omega)).mono ?_;rintro e w3 ⟨rfl,t3,hp3⟩;rw[hat1]at hp3;have q6:=HC.out 6 _ rfl _ hp3.kp;go_wp2_with fail
 refine (hB K w1 w3 t3 _ hp3 (lY zs hG1) (by omega)).mono ?_;rintro e w4 ⟨rfl,t4,hp4⟩;rw[hat2]at hp4;go_wp2_with fail
 refine (jw K w1 W w4 sv t4 _ ⟨#[101,108,115,101]⟩ [32,101,108,115,101] rfl hp4 (by decide) (by omega) _ rfl).mono ?_;rintro e w5 ⟨rfl,t5,hp5⟩;rw[hat3]at hp5;have q7:=HC.out 7 _ rfl _ hp5.kp;go_wp2_with fail
 refine (hE K w1 w5 t5 _ hp5 (lY zs hG3) (by omega)).mono ?_;rintro e wE ⟨rfl,tE,hpE⟩;rw[hat]at hpE;go_wp2_with fail
 refine bodyPost_end (results_none rfl _ _ _) rfl ?_;exact HF.out _ _ hpE
theorem Uo (K:Nat) (A W w:World) (sv tv:Value) (v1:Value) (x0 x2 x3:Option Addr) (y0 z0 y2 z2 y3 z3:Nat) (zs:List Int) (n tk tn:Int) (h:Pr K A W w sv tv zs) (m:Nat) (t0 tb:List Int) (hk0:BP W sv v1 m 0 t0) (hg0:Good t0) (hB:Jy W sv (.slice x2 y2 z2) tb) (hb:zs.length+([32,102,111,114]++t0++bu tb).length<=999999) :
  Calls Tryz.prog 110 #[.pointer (some ⟨K,0,none⟩),.agg #[.int .i64 3,.int .i64 n,.int .i64 tk,.int .i64 tn,.slice x0 y0 z0,v1,.slice x2 y2 z2,.slice x3 y3 z3]] w (PrP K A W sv (atL zs ([32,102,111,114]++t0++bu tb))):=by
 have hG0:Good [32,102,111,114]:=⟨by decide,by decide⟩
 have hG1:=hG0.app hg0;obtain⟨hm0,g,off,cap1,k0,n0,tk0,tn0,xx0,xx1,yy0,zz0,yy1,zz1,rfl,hgW,hcl,hcall⟩:=hk0;have hm0':(0:Int)<(m:Int):=by omega
 obtain⟨w1,hw1,hA,HC,hsz,hA1,T,hT,HF⟩:=pr0 h [.int .i64 3,.int .i64 n,.int .i64 tk,.int .i64 tn,.slice x0 y0 z0,.slice (some ⟨g,off,none⟩) m cap1,.slice x2 y2 z2,.slice x3 y3 z3] 110 (by decide) (atL zs ([32,102,111,114]++t0++bu tb));have hK:=lt_of_some h.row;rw[<-hT.out];have hl0:=bJ zs [32,102,111,114];have hl1:=bJ zs ([32,102,111,114]++t0);have hla:([32,102,111,114]:List Int).length=4:=rfl;simp only[List.length_append]at hb hl1;rw[hla]at hb hl0 hl1;have hat1:atL (atL zs [32,102,111,114]) t0=atL zs ([32,102,111,114]++t0):=cZ zs hG0 _;have hat:atL zs ([32,102,111,114]++t0)++bu tb=T:=by rw[hT.out,<- cZ zs hG1,xk (lY zs hG1)]
 obtain⟨_,_,_,_,hB⟩:=hB;clear hA;go_enter Tryz.func110,Tryz.ntmps110;go_wp2_with fail
 rw[<-hw1.out];refine (jw K w1 W w1 sv tv zs ⟨#[102,111,114]⟩ [32,102,111,114] rfl hA1 (by decide) (by omega) _ hsz.out).mono ?_;rintro e w2 ⟨rfl,t2,hp2⟩;obtain⟨c0,c1,c2,c3,c4,c5⟩:=hcl w2 hp2.lat;rw[Nat.zero_mul,Nat.add_zero]at c0 c1 c2 c3 c4 c5;have hgw:g<w2.heap.size:=Nat.lt_of_lt_of_le hgW hp2.lat.size;have q5:=HC.out 5 _ rfl _ hp2.kp;go_wp2_with fail
 refine (hcall K w1 w2 t2 _ hp2 (by omega)).mono ?_;rintro e w3 ⟨rfl,t3,hp3⟩;rw[hat1]at hp3;have q6:=HC.out 6 _ rfl _ hp3.kp;go_wp2_with fail
 refine (hB K w1 w3 t3 _ hp3 (lY zs hG1) (by omega)).mono ?_;rintro e wE ⟨rfl,tE,hpE⟩;rw[hat]at hpE;go_wp2_with fail
 refine bodyPost_end (results_none rfl _ _ _) rfl ?_;exact HF.out _ _ hpE
theorem Un (K:Nat) (A W w:World) (sv tv:Value)  (x0 x1 x2 x3:Option Addr) (y0 z0 y1 z1 y2 z2 y3 z3:Nat) (zs:List Int) (n tk tn:Int) (h:Pr K A W w sv tv zs) (ts:List (List Int)) (hks:jX W sv (.slice x1 y1 z1) ts) (hts:ts.length<=1000) (hb:zs.length+((32::[114,101,116,117,114,110])++joinL ts++(32::[59])).length<=1000000) :
  Calls Tryz.prog 110 #[.pointer (some ⟨K,0,none⟩),.agg #[.int .i64 4,.int .i64 n,.int .i64 tk,.int .i64 tn,.slice x0 y0 z0,.slice x1 y1 z1,.slice x2 y2 z2,.slice x3 y3 z3]] w (PrP K A W sv (atL zs ((32::[114,101,116,117,114,110])++joinL ts++(32::[59])))):=by
 obtain⟨w1,hw1,hA,HC,hsz,hA1,T,hT,HF⟩:=pr0 h [.int .i64 4,.int .i64 n,.int .i64 tk,.int .i64 tn,.slice x0 y0 z0,.slice x1 y1 z1,.slice x2 y2 z2,.slice x3 y3 z3] 110 (by decide) (atL zs ((32::[114,101,116,117,114,110])++joinL ts++(32::[59])));have hK:=lt_of_some h.row;rw[<-hT.out];clear hA;go_enter Tryz.func110,Tryz.ntmps110;go_wp2_with fail
 rw[<-hw1.out];refine (fV K w1 W w1 sv tv _ zs [114,101,116,117,114,110] [59] ⟨#[114,101,116,117,114,110]⟩ ⟨#[59]⟩ ts hA1 hks rfl rfl rfl rfl hts hb).mono ?_;rintro e wE ⟨rfl,tE,hpE⟩;rw[<-hT.out]at hpE;go_wp2_with fail
 refine bodyPost_end (results_none rfl _ _ _) rfl ?_;exact HF.out _ _ hpE
theorem Um (K:Nat) (A W w:World) (sv tv:Value)  (x0 x1 x2 x3:Option Addr) (y0 z0 y1 z1 y2 z2 y3 z3:Nat) (zs:List Int) (n tk tn:Int) (h:Pr K A W w sv tv zs) (ts:List (List Int)) (hks:jX W sv (.slice x1 y1 z1) ts) (hts:ts.length<=1000) (hb:zs.length+((32::[112,114,105,110,116])++joinL ts++(32::[59])).length<=1000000) :
  Calls Tryz.prog 110 #[.pointer (some ⟨K,0,none⟩),.agg #[.int .i64 5,.int .i64 n,.int .i64 tk,.int .i64 tn,.slice x0 y0 z0,.slice x1 y1 z1,.slice x2 y2 z2,.slice x3 y3 z3]] w (PrP K A W sv (atL zs ((32::[112,114,105,110,116])++joinL ts++(32::[59])))):=by
 obtain⟨w1,hw1,hA,HC,hsz,hA1,T,hT,HF⟩:=pr0 h [.int .i64 5,.int .i64 n,.int .i64 tk,.int .i64 tn,.slice x0 y0 z0,.slice x1 y1 z1,.slice x2 y2 z2,.slice x3 y3 z3] 110 (by decide) (atL zs ((32::[112,114,105,110,116])++joinL ts++(32::[59])));have hK:=lt_of_some h.row;rw[<-hT.out];clear hA;go_enter Tryz.func110,Tryz.ntmps110;go_wp2_with fail
 rw[<-hw1.out];refine (fV K w1 W w1 sv tv _ zs [112,114,105,110,116] [59] ⟨#[112,114,105,110,116]⟩ ⟨#[59]⟩ ts hA1 hks rfl rfl rfl rfl hts hb).mono ?_;rintro e wE ⟨rfl,tE,hpE⟩;rw[<-hT.out]at hpE;go_wp2_with fail
 refine bodyPost_end (results_none rfl _ _ _) rfl ?_;exact HF.out _ _ hpE
theorem Ul (K:Nat) (A W w:World) (sv tv:Value)  (x0 x1 x2 x3:Option Addr) (y0 z0 y1 z1 y2 z2 y3 z3:Nat) (zs:List Int) (n tk tn:Int) (h:Pr K A W w sv tv zs) (ts:List (List Int)) (hks:jX W sv (.slice x1 y1 z1) ts) (hts:ts.length<=1000) (hb:zs.length+((32::[112,97,110,105,99])++joinL ts++(32::[59])).length<=1000000) :
  Calls Tryz.prog 110 #[.pointer (some ⟨K,0,none⟩),.agg #[.int .i64 6,.int .i64 n,.int .i64 tk,.int .i64 tn,.slice x0 y0 z0,.slice x1 y1 z1,.slice x2 y2 z2,.slice x3 y3 z3]] w (PrP K A W sv (atL zs ((32::[112,97,110,105,99])++joinL ts++(32::[59])))):=by
 obtain⟨w1,hw1,hA,HC,hsz,hA1,T,hT,HF⟩:=pr0 h [.int .i64 6,.int .i64 n,.int .i64 tk,.int .i64 tn,.slice x0 y0 z0,.slice x1 y1 z1,.slice x2 y2 z2,.slice x3 y3 z3] 110 (by decide) (atL zs ((32::[112,97,110,105,99])++joinL ts++(32::[59])));have hK:=lt_of_some h.row;rw[<-hT.out];clear hA;go_enter Tryz.func110,Tryz.ntmps110;go_wp2_with fail
 rw[<-hw1.out];refine (fV K w1 W w1 sv tv _ zs [112,97,110,105,99] [59] ⟨#[112,97,110,105,99]⟩ ⟨#[59]⟩ ts hA1 hks rfl rfl rfl rfl hts hb).mono ?_;rintro e wE ⟨rfl,tE,hpE⟩;rw[<-hT.out]at hpE;go_wp2_with fail
 refine bodyPost_end (results_none rfl _ _ _) rfl ?_;exact HF.out _ _ hpE
theorem Uk (K:Nat) (A W w:World) (sv tv:Value)  (x0 x1 x2 x3:Option Addr) (y0 z0 y1 z1 y2 z2 y3 z3:Nat) (zs:List Int) (n tk tn:Int) (h:Pr K A W w sv tv zs) (ts:List (List Int)) (hks:jX W sv (.slice x1 y1 z1) ts) (hts:ts.length<=1000) (hb:zs.length+((32::[100,111])++joinL ts++(32::[59])).length<=1000000) :
  Calls Tryz.prog 110 #[.pointer (some ⟨K,0,none⟩),.agg #[.int .i64 7,.int .i64 n,.int .i64 tk,.int .i64 tn,.slice x0 y0 z0,.slice x1 y1 z1,.slice x2 y2 z2,.slice x3 y3 z3]] w (PrP K A W sv (atL zs ((32::[100,111])++joinL ts++(32::[59])))):=by
 obtain⟨w1,hw1,hA,HC,hsz,hA1,T,hT,HF⟩:=pr0 h [.int .i64 7,.int .i64 n,.int .i64 tk,.int .i64 tn,.slice x0 y0 z0,.slice x1 y1 z1,.slice x2 y2 z2,.slice x3 y3 z3] 110 (by decide) (atL zs ((32::[100,111])++joinL ts++(32::[59])));have hK:=lt_of_some h.row;rw[<-hT.out];clear hA;go_enter Tryz.func110,Tryz.ntmps110;go_wp2_with fail
 rw[<-hw1.out];refine (fV K w1 W w1 sv tv _ zs [100,111] [59] ⟨#[100,111]⟩ ⟨#[59]⟩ ts hA1 hks rfl rfl rfl rfl hts hb).mono ?_;rintro e wE ⟨rfl,tE,hpE⟩;rw[<-hT.out]at hpE;go_wp2_with fail
 refine bodyPost_end (results_none rfl _ _ _) rfl ?_;exact HF.out _ _ hpE
structure KD (l:List Sc) (k tk tn:Int) (name:List Int) (m:Nat):Prop where
 base:VB l k tk tn name m
 tok:k=0->aV name=true
 ty:k=0->jv l tk tn
 two:k=1->m=2
 few:k=4->m<=1
 one:k=5\/k=6\/k=7->m=1
inductive St.jh (l:List Sc):St->Prop
 | mk {k n tk tn:Int}{name:List Int}{kids:List Ex}{body els:List St}(h:KD l k tk tn name kids.length) (hm:body.length<=1000000/\els.length<=1000000) (hk:∀ x∈kids,Ex.jh l x) (hb:∀ x∈body,St.jh l x) (he:∀ x∈els,St.jh l x):St.jh l (.mk k n tk tn name kids body els)
theorem eight {k:Int}(h0:0<=k) (h1:k<=7):k=0\/k=1\/k=2\/k=3\/k=4\/k=5\/k=6\/k=7:=by omega
theorem sU {ts:List (List Int)}(h:ts.length<=1):joinL ts=dU ts 0:=by
 match ts,h with
 | [],_=>rfl
 | [a],_=>simp[joinL,kM,dU]
 | a::b::r,h=>simp at h
theorem jR {K:Nat}{A W:World}{sv:Value}{zs:List Int}{T X:List Int}(hm:aV zs=false) (hX:T.drop 1=X) {e:Ending}{w':World}(h:PrP K A W sv (atL zs T) e w'):PrP K A W sv (zs++X) e w':=by
 rw[pq hm,hX]at h;exact h
theorem Jq {W:World}{l:List Sc}{sv:Value}(hE:Env W) (hl:RdL W 2 sv (Sc.ah l)) (hnm:dm l) (N:Nat):∀ (ss:List St) (v:Value),St.szs ss<N->ss.length<=1000000->(∀ x∈ss,St.jh l x)->RdL W 8 v (St.ah ss)->Jy W sv v (St.says l ss):=by
 induction N with
 | zero=>intro ss v hx;exact absurd hx (Nat.not_lt_zero _)
 | succ N ih =>
  intro ss v hN hm hf hr;obtain⟨a1,cap1,rfl,hsl⟩:=St.slice hr;rw[Lm];have hlen:(ss.map (St.say l)).length=ss.length:=List.length_map _;have key:=Qw W sv a1 cap1 (ss.map (St.say l)) (by rw[hlen];omega) (fun j hj=>?_)
  ·rw[hlen]at key;exact key
  have hj':j<ss.length:=by rw[hlen]at hj;exact hj
  rw[hlen,List.getElem_map];obtain⟨g,off,v0,v1,v2,v3,rfl,hgs,c0,c1,c2,c3,c4,c5,c6,c7,r0,r1,r2,r3⟩:=St.elem hr j hj';have hsz:=St.dW ss j hj';have hF:=hf _ (List.getElem_mem hj')
  generalize ss[j]=x at *
  cases hF with
  | @mk k n tk tn name kids body els h hmb hk hb he =>
  replace r0:RdN W v0 name:=r0
  replace r1:RdL W 6 v1 (Ex.ah kids):=r1
  replace r2:RdL W 8 v2 (St.ah body):=r2
  replace r3:RdL W 8 v3 (St.ah els):=r3
  rw[St.sz]at hsz;have hB:=ih body v2 (by omega) hmb.1 hb r2;have hL:=ih els v3 (by omega) hmb.2 he r3;obtain⟨y0,t0,rfl,_⟩:=r0.slice;obtain⟨y1,t1,rfl,_⟩:=Ex.slice r1;obtain⟨y2,t2,rfl,_⟩:=St.slice r2;obtain⟨y3,t3,rfl,_⟩:=St.slice r3;have hKc:∀ (i:Nat) (hi:i<kids.length),DD W sv l kids[i]:=fun i hi=>Qj hE hl hnm kids[i] (hk _ (List.getElem_mem hi));have hK:∀ (i:Nat) (hi:i<kids.length),BP W sv (.slice y1 kids.length t1) kids.length i (Ex.say l kids[i]):=fun i hi=>Ec r1 i hi rfl (hKc i hi);have hKs:jX W sv (.slice y1 kids.length t1) (Ex.says l kids):=FM hnm r1 hk hKc;have hKg:∀ (i:Nat) (hi:i<kids.length),Good (Ex.say l kids[i]):=fun i hi=>zS hnm (hk _ (List.getElem_mem hi));have hml:(Ex.says l kids).length=kids.length:=Ex.kQ l kids;refine⟨hj',g,off,cap1,k,n,tk,tn,y0,y1,y2,y3,name.length,t0,kids.length,t1,body.length,t2,els.length,t3,rfl,hgs,fun w' hw=>?_,?_⟩
  ·exact⟨by rw[hw.cell (p:=⟨g,off+j*8,none⟩) hgs];exact c0,by rw[hw.cell (p:=⟨g,off+j*8+1,none⟩) hgs];exact c1,by rw[hw.cell (p:=⟨g,off+j*8+2,none⟩) hgs];exact c2,by rw[hw.cell (p:=⟨g,off+j*8+3,none⟩) hgs];exact c3,by rw[hw.cell (p:=⟨g,off+j*8+4,none⟩) hgs];exact c4,by rw[hw.cell (p:=⟨g,off+j*8+5,none⟩) hgs];exact c5,by rw[hw.cell (p:=⟨g,off+j*8+6,none⟩) hgs];exact c6,by rw[hw.cell (p:=⟨g,off+j*8+7,none⟩) hgs];exact c7⟩
  have hk0:∀ (i:0<kids.length),dU (Ex.says l kids) 0=Ex.say l kids[0]:=fun i=>Ex.vY l kids 0 i;rw[St.say]
  generalize Ex.says l kids=ts at *
  obtain rfl|rfl|rfl|rfl|rfl|rfl|rfl|rfl:=eight h.base.k0 h.base.k7
  ·have e:stL l 0 tk tn name ts (St.says l body) (St.says l els)=([32,118,97,114,32]++name++aN l tk tn++[32,59]).drop 1++[10]:=by
    show [118,97,114,32]++name++aN l tk tn++[32,59,10]=_;simp[List.append_assoc]
   refine⟨_,e.symm,fun K A w tv zs hp hmid hbn=>?_⟩;have hbl:zs.length+([32,118,97,114,32]++name++aN l tk tn++[32,59]).length<=1000000:=by rw[e]at hbn;simp at hbn ⊢;omega
   exact (Ut K A W w sv tv _ y1 y2 y3 _ t1 _ t2 _ t3 zs n tk tn hp l hl hnm (h.ty rfl) name r0 (h.tok rfl) (h.base.nm rfl) hbl).mono (fun _ _=>jR hmid rfl)
  ·have h2:=h.two rfl
   obtain⟨p,q,rfl⟩:∃ p q,ts=[p,q]:=by
    match ts,hml with
    | [],hml=>simp at hml;omega
    | [a],hml=>simp at hml;omega
    | [a,b],_=>exact⟨a,b,rfl⟩
    | a::b::c::r,hml=>simp at hml;omega
   have hg0:Good p:=by
    have:=hKg 0 (by omega);rw[<-hk0 (by omega)]at this;exact this
   have e:stL l 1 tk tn name [p,q] (St.says l body) (St.says l els)=(bI [61] [p,q]++[32,59]).drop 1++[10]:=by
    show p.drop 1++[32,61]++q++[32,59,10]=_
    cases p with
    | nil=>exact absurd hg0.two (by simp)
    | cons a r=>simp[bI,mY,List.append_assoc]
   refine⟨_,e.symm,fun K A w tv zs hp hmid hbn=>?_⟩;have hbl:zs.length+(bI [61] [p,q]++[32,59]).length<=1000000:=by rw[e,List.length_append,List.length_drop]at hbn;simp at hbn ⊢;omega
   exact (Us K A W w sv tv y0 y1 y2 y3 _ t0 _ t1 _ t2 _ t3 zs n tk tn hp [p,q] hKs (by simp) (by simp) hbl).mono (fun _ _=>jR hmid rfl)
  ·have h2:=h.base.one (.inl rfl)
   have e:stL l 2 tk tn name ts (St.says l body) (St.says l els)=(([32,105,102]:List Int)++Ex.say l kids[0]++bu (St.says l body)++[32,101,108,115,101]++bu (St.says l els)).drop 1++[10]:=by
    rw[<-hk0 h2];show [105,102]++dU ts 0++bu (St.says l body)++[32,101,108,115,101]++bu (St.says l els)++[10]=_;simp[List.append_assoc]
   refine⟨_,e.symm,fun K A w tv zs hp hmid hbn=>?_⟩;have hbl:zs.length+(([32,105,102]:List Int)++Ex.say l kids[0]++bu (St.says l body)++[32,101,108,115,101]++bu (St.says l els)).length<=999999:=by rw[e,List.length_append,List.length_drop]at hbn;simp only[List.length_append,List.length_cons,List.length_nil]at hbn ⊢;omega
   exact (Ur K A W w sv tv _ y0 y2 y3 _ t0 _ t2 _ t3 zs n tk tn hp _ _ _ _ (hK 0 h2) (hKg 0 h2) hB hL hbl).mono (fun _ _=>jR hmid rfl)
  ·have h2:=h.base.one (.inr (.inl rfl))
   have e:stL l 3 tk tn name ts (St.says l body) (St.says l els)=(([32,102,111,114]:List Int)++Ex.say l kids[0]++bu (St.says l body)).drop 1++[10]:=by
    rw[<-hk0 h2];show [102,111,114]++dU ts 0++bu (St.says l body)++[10]=_;simp[List.append_assoc]
   refine⟨_,e.symm,fun K A w tv zs hp hmid hbn=>?_⟩;have hbl:zs.length+(([32,102,111,114]:List Int)++Ex.say l kids[0]++bu (St.says l body)).length<=999999:=by rw[e,List.length_append,List.length_drop]at hbn;simp only[List.length_append,List.length_cons,List.length_nil]at hbn ⊢;omega
   exact (Uo K A W w sv tv _ y0 y2 y3 _ t0 _ t2 _ t3 zs n tk tn hp _ _ _ (hK 0 h2) (hKg 0 h2) hB hbl).mono (fun _ _=>jR hmid rfl)
  ·have h2:=h.few rfl
   have e:stL l 4 tk tn name ts (St.says l body) (St.says l els)=((32::[114,101,116,117,114,110])++joinL ts++(32::[59])).drop 1++[10]:=by
    rw[sU (by omega)];show [114,101,116,117,114,110]++dU ts 0++[32,59,10]=_;simp[List.append_assoc]
   refine⟨_,e.symm,fun K A w tv zs hp hmid hbn=>?_⟩;have hbl:zs.length+((32::[114,101,116,117,114,110])++joinL ts++(32::[59])).length<=1000000:=by rw[e,List.length_append,List.length_drop]at hbn;simp only[List.length_append,List.length_cons,List.length_nil]at hbn ⊢;omega
   exact (Un K A W w sv tv y0 y1 y2 y3 _ t0 _ t1 _ t2 _ t3 zs n tk tn hp ts hKs (by omega) hbl).mono (fun _ _=>jR hmid rfl)
  ·have h2:=h.one (.inl rfl)
   have e:stL l 5 tk tn name ts (St.says l body) (St.says l els)=((32::[112,114,105,110,116])++joinL ts++(32::[59])).drop 1++[10]:=by
    rw[sU (by omega)];show [112,114,105,110,116]++dU ts 0++[32,59,10]=_;simp[List.append_assoc]
   refine⟨_,e.symm,fun K A w tv zs hp hmid hbn=>?_⟩;have hbl:zs.length+((32::[112,114,105,110,116])++joinL ts++(32::[59])).length<=1000000:=by rw[e,List.length_append,List.length_drop]at hbn;simp only[List.length_append,List.length_cons,List.length_nil]at hbn ⊢;omega
   exact (Um K A W w sv tv y0 y1 y2 y3 _ t0 _ t1 _ t2 _ t3 zs n tk tn hp ts hKs (by omega) hbl).mono (fun _ _=>jR hmid rfl)
  ·have h2:=h.one (.inr (.inl rfl))
   have e:stL l 6 tk tn name ts (St.says l body) (St.says l els)=((32::[112,97,110,105,99])++joinL ts++(32::[59])).drop 1++[10]:=by
    rw[sU (by omega)];show [112,97,110,105,99]++dU ts 0++[32,59,10]=_;simp[List.append_assoc]
   refine⟨_,e.symm,fun K A w tv zs hp hmid hbn=>?_⟩;have hbl:zs.length+((32::[112,97,110,105,99])++joinL ts++(32::[59])).length<=1000000:=by rw[e,List.length_append,List.length_drop]at hbn;simp only[List.length_append,List.length_cons,List.length_nil]at hbn ⊢;omega
   exact (Ul K A W w sv tv y0 y1 y2 y3 _ t0 _ t1 _ t2 _ t3 zs n tk tn hp ts hKs (by omega) hbl).mono (fun _ _=>jR hmid rfl)
  ·have h2:=h.one (.inr (.inr rfl))
   have e:stL l 7 tk tn name ts (St.says l body) (St.says l els)=((32::[100,111])++joinL ts++(32::[59])).drop 1++[10]:=by
    rw[sU (by omega)];show [100,111]++dU ts 0++[32,59,10]=_;simp[List.append_assoc]
   refine⟨_,e.symm,fun K A w tv zs hp hmid hbn=>?_⟩;have hbl:zs.length+((32::[100,111])++joinL ts++(32::[59])).length<=1000000:=by rw[e,List.length_append,List.length_drop]at hbn;simp only[List.length_append,List.length_cons,List.length_nil]at hbn ⊢;omega
   exact (Uk K A W w sv tv y0 y1 y2 y3 _ t0 _ t1 _ t2 _ t3 zs n tk tn hp ts hKs (by omega) hbl).mono (fun _ _=>jR hmid rfl)
theorem Jp {W:World}{l:List Sc}{sv:Value}(hE:Env W) (hl:RdL W 2 sv (Sc.ah l)) (hnm:dm l) (ss:List St) (v:Value) (hm:ss.length<=1000000) (hf:∀ x∈ss,St.jh l x) (hr:RdL W 8 v (St.ah ss)):Jy W sv v (St.says l ss) :=
 Jq hE hl hnm _ ss v (Nat.lt_succ_self _) hm hf hr
structure kG (l:List Sc) (x:Pa):Prop where
 nm:1<=x.name.length
 tok:aV x.name=true
 ty:jv l x.tk x.tn
theorem JF {l:List Sc}(hnm:dm l) {x:Pa}(h:kG l x):Good (32::paL l x):=by
 show Good ((32::x.name)++aN l x.tk x.tn);rcases y8 hnm h.ty with e|e
 ·rw[e,List.append_nil];exact Good.cons h.tok
 ·exact (Good.cons h.tok).app e
theorem BJ (K:Nat) (A W w:World) (sv tv v0 v1:Value) (zs:List Int) (l:List Sc) (x:Sc) (h:Pr K A W w sv tv zs) (hl:RdL W 2 sv (Sc.ah l)) (hnm:dm l) (hn1:1<=x.name.length) (hm:aV x.name=true) (hfew:x.fields.length<=1000) (hfs:∀ p∈x.fields,kG l p) (h0:RdN W v0 x.name) (h1:RdL W 3 v1 (Pa.ah x.fields)) (hmid:aV zs=false) (hb:zs.length+(scL l x).length<=999999) :
  Calls Tryz.prog 49 #[.pointer (some ⟨K,0,none⟩),.agg #[v0,v1]] w (PrP K A W sv (zs++scL l x)):=by
 obtain⟨nm,fs⟩:=x
 replace hn1:1<=nm.length:=hn1
 replace hm:aV nm=true:=hm
 replace hfew:fs.length<=1000:=hfew
 replace hfs:∀ p∈fs,kG l p:=hfs
 replace h0:RdN W v0 nm:=h0
 replace h1:RdL W 3 v1 (Pa.ah fs):=h1
 obtain⟨s,g0,off0,q,rfl,_,hs,hcv⟩:=jc h0 hn1;have hs1:aV (bytesOf s)=true:=by rw[hs];exact hm
 obtain⟨fa,fcap,rfl,hfl⟩:=Pa.slice h1;obtain⟨H,hH⟩:=dJ (zs++([116,121,112,101,32]++nm++[32,115,116,114,117,99,116,32,123]));have hlH:H.length=zs.length+nm.length+14:=by rw[hH.out];simp;omega
 have heT:zs++scL l (.mk nm fs)=H++[10]++bi l fs++[125]++[10]:=by
  rw[hH.out];show zs++([116,121,112,101,32]++nm++[32,115,116,114,117,99,116,32,123,10]++bi l fs++[125,10])=_;simp[List.append_assoc]
 have hbT:H.length+1+(bi l fs).length+2<=999999:=by
  have:=congrArg List.length heT;rw[List.length_append]at this;simp only[List.length_append,List.length_cons,List.length_nil]at this;omega
 have he0:atL zs ([32,116,121,112,101,32]++nm++[32,115,116,114,117,99,116,32,123])=H:=by rw[pq hmid,hH.out];simp
 obtain⟨w1,hw1⟩:∃ w1,Hid (w1=w.alloc (.cells #[.slice (some ⟨g0,off0,none⟩) nm.length q,.slice fa fs.length fcap] 82)):=⟨_,rfl⟩
 have hK:=lt_of_some h.row;have hA:Pr K A W w1 sv tv zs:=by rw[hw1.out];exact h.alloc _
 have hbx:BxT w.heap.size w1 [.slice (some ⟨g0,off0,none⟩) nm.length q,.slice fa fs.length fcap] 82:=by rw[hw1.out];exact BxT.new w _ _
 have HC:Hid (∀ w',KP K w1 w'->w'.cell? ⟨w.heap.size,1,none⟩=some (.slice fa fs.length fcap)):=hbx.kp (by decide) (by omega) 1 _ rfl;have hsz:Hid (w.heap.size+1=w1.heap.size):=by rw[hw1.out];show _=_;simp
 have hA1:=hA.from
 have HF:Hid (∀ w' t',Pr K w1 W w' sv t' (H++[10]++bi l fs++[125]++[10])->PrP K A W sv (zs++scL l (.mk nm fs)) (.returned (.tuple #[])) w'):=fun w' t' hp=>⟨rfl,t',by rw[heT];exact hp.back hA.kp⟩
 have cv:=hcv w1 hA.lat;rw[hw1.out]at cv;have hm0:aV (H++[10]++bi l (fs.take 0))=false:=by rw[List.take_zero,bi,List.append_nil];exact nJ _
 have HE:Hid (∀ (j:Nat) (hj:j<fs.length),∃ g off x0 y0 z0,fa=some ⟨g,off,none⟩/\RdN W (.slice x0 y0 z0) fs[j].name/\∀ w',Later W w'->w'.cell? ⟨g,off+j*3,none⟩=some (.slice x0 y0 z0)/\w'.cell? ⟨g,off+j*3+1,none⟩=some (.int .i64 fs[j].tk)/\w'.cell? ⟨g,off+j*3+2,none⟩=some (.int .i64 fs[j].tn)):=fun j hj=>by
  obtain⟨g,off,u0,e,hgs,c0,c1,c2,r0⟩:=Pa.elem h1 j hj;obtain⟨b0,p0,rfl,_⟩:=r0.slice;exact⟨g,off,b0,_,p0,e,r0,fun w' hw=>⟨by rw[hw.cell (p:=⟨g,off+j*3,none⟩) hgs];exact c0,by rw[hw.cell (p:=⟨g,off+j*3+1,none⟩) hgs];exact c1,by rw[hw.cell (p:=⟨g,off+j*3+2,none⟩) hgs];exact c2⟩⟩
 generalize hQ:PrP K A W sv (zs++scL l (.mk nm fs))=Q
 rw[hQ]at HF;clear hQ hA hbx hcv h heT;go_enter Tryz.func49,Tryz.ntmps49;go_wp2_with fail
 rw[<-hw1.out];refine (put4 K w1 W w1 sv tv zs ⟨#[116,121,112,101]⟩ s ⟨#[115,116,114,117,99,116]⟩ ⟨#[123]⟩ ([32,116,121,112,101,32]++nm++[32,115,116,114,117,99,116,32,123]) (by rw[hs];simp[spread,bytesOf]) hA1 (by decide) hs1 (by decide) (by decide) (by simp;omega) _ hsz.out).mono ?_;rintro e w2 ⟨rfl,t2,hp2⟩;rw[he0]at hp2;go_wp2_with fail
 refine (je K w1 W w2 sv t2 _ hp2 (by omega)).mono ?_;rintro e w3 ⟨rfl,t3,hp3⟩;have q1:=HC.out _ hp3.kp;go_wp2_with fail
 go_loopw [17] (fun i wr=>∃ (j:Nat) (tv':Value),i=.int .i64 (j:Int)/\j<=fs.length/\aV (H++[10]++bi l (fs.take j))=false/\Pr K w1 W wr sv tv' (H++[10]++bi l (fs.take j))) (fun i _=>fs.length - (intOf i).toNat)
 case atStart=>exact⟨0,t3,rfl,Nat.zero_le _,hm0,by rw[List.take_zero,bi,List.append_nil];exact hp3⟩
 case round =>
  obtain⟨j,tv',rfl,hj,hmj,hp⟩:=hrel;by_cases hlt:j<fs.length
  ·obtain⟨g,off,x0,y0,z0,rfl,r0,hcl⟩:=HE.out j hlt;obtain⟨d0,d1,d2⟩:=hcl _ hp.lat;have hst:=Em l fs j hlt;have hpr:=Gs l fs (j+1);have hF:=hfs _ (List.getElem_mem hlt);have hG:=JF hnm hF;rw[hst]at hpr;have i1:(j:Int)<(fs.length:Int):=by omega
   have hlj:(H++[10]++bi l (fs.take j)).length=H.length+1+(bi l (fs.take j)).length:=by simp;omega
   have hpb:=hp.alloc (.cells #[.slice x0 y0 z0,.int .i64 fs[j].tk,.int .i64 fs[j].tn] 75)
   have he1:atL (atL (H++[10]++bi l (fs.take j)) (32::paL l fs[j])) [32,59]++[10]=H++[10]++bi l (fs.take (j+1)):=by
    rw[cZ _ hG,pq hmj,hst];simp[List.append_assoc]
   have hl1:=bJ (H++[10]++bi l (fs.take j)) (32::paL l fs[j]);have hl2:=bJ (atL (H++[10]++bi l (fs.take j)) (32::paL l fs[j])) [32,59];have hmn:aV (H++[10]++bi l (fs.take (j+1)))=false:=by rw[<-he1];exact nJ _
   have hlp:(32::paL l fs[j]).length=(paL l fs[j]).length+1:=rfl;have hlq:([32,59]:List Int).length=2:=rfl;simp only[List.length_append,List.length_cons,List.length_nil]at hpr;clear hcl hst;go_wp2_with fail
   refine (xR K w1 W _ sv tv' _ _ l fs[j].name fs[j].tk fs[j].tn hpb hl hnm hF.ty r0 hF.tok hF.nm (by show _+(32::paL l fs[j]).length<=_;omega)).mono ?_;rintro e w4 ⟨rfl,t4,hp4⟩;go_wp2_with fail
   refine (jw K w1 W w4 sv t4 _ ⟨#[59]⟩ [32,59] rfl hp4 (by decide) (by show (atL _ (32::paL l fs[j])).length+_<=_;omega) _ rfl).mono ?_;rintro e w5 ⟨rfl,t5,hp5⟩;go_wp2_with fail
   refine (je K w1 W w5 sv t5 _ hp5 (by show (atL (atL _ (32::paL l fs[j])) _).length<=_;omega)).mono ?_;rintro e w6 ⟨rfl,t6,hp6⟩
   replace hp6:Pr K w1 W w6 sv t6 (H++[10]++bi l (fs.take (j+1))):=by rw[<-he1];exact hp6
   go_wp2_with fail
   go_roundw
   case rel=>exact⟨j+1,_,by go_num,by omega,hmn,hp6⟩
   case measure=>simp[intOf];omega
  ·have hje:j=fs.length:=by omega
   have i1:¬ (j:Int)<(fs.length:Int):=by omega
   rw[hje,List.take_length]at hp hmj;have hlj:(H++[10]++bi l fs).length=H.length+1+(bi l fs).length:=by simp;omega
   have he:atL (H++[10]++bi l fs) [32,125]=H++[10]++bi l fs++[125]:=by rw[pq hmj];rfl
   have hlc:([32,125]:List Int).length=2:=rfl;have hld:(H++[10]++bi l fs++[125]).length=H.length+1+(bi l fs).length+1:=by rw[List.length_append,hlj];rfl
   go_wp2_with fail
   refine (jw K w1 W wr sv tv' _ ⟨#[125]⟩ [32,125] rfl hp (by decide) (by omega) _ rfl).mono ?_;rintro e w4 ⟨rfl,t4,hp4⟩;rw[he]at hp4;go_wp2_with fail
   refine (je K w1 W w4 sv t4 _ hp4 (by omega)).mono ?_;rintro e w5 ⟨rfl,t5,hp5⟩;go_wp2_with fail
   refine bodyPost_end (results_none rfl _ _ _) rfl ?_;exact HF.out _ _ hp5
structure xE (l:List Sc) (x:Fu):Prop where
 nm:1<=x.name.length
 tok:aV x.name=true
 ps:∀ p∈x.params,kG l p
 few:x.params.length<=1000
 ty:jv l x.rk x.rn
 Ve:x.body.length<=1000000
 body:∀ s∈x.body,St.jh l s
theorem Eg (K:Nat) (A W w:World) (sv tv v0 v1 v2:Value) (zs:List Int) (l:List Sc) (x:Fu) (h:Pr K A W w sv tv zs) (hE:Env W) (hl:RdL W 2 sv (Sc.ah l)) (hnm:dm l) (hx:xE l x) (h0:RdN W v0 x.name) (h1:RdL W 3 v1 (Pa.ah x.params)) (h2:RdL W 8 v2 (St.ah x.body)) (hmid:aV zs=false) (hb:zs.length+(fuL l x).length<=999999) :
  Calls Tryz.prog 50 #[.pointer (some ⟨K,0,none⟩),.agg #[v0,v1,.int .i64 x.rk,.int .i64 x.rn,v2]] w (PrP K A W sv (zs++fuL l x)):=by
 have hBk:=Jp hE hl hnm x.body v2 hx.Ve hx.body h2;obtain⟨nm,ps,rk,rn,body⟩:=x
 replace h0:RdN W v0 nm:=h0
 replace h1:RdL W 3 v1 (Pa.ah ps):=h1
 replace h2:RdL W 8 v2 (St.ah body):=h2
 have hn1:1<=nm.length:=hx.nm;have hm:aV nm=true:=hx.tok;have hps:∀ p∈ps,kG l p:=hx.ps;have hfew:ps.length<=1000:=hx.few;have hty:jv l rk rn:=hx.ty
 replace hBk:Jy W sv v2 (St.says l body):=hBk
 show Calls Tryz.prog 50 #[.pointer (some ⟨K,0,none⟩),.agg #[v0,v1,.int .i64 rk,.int .i64 rn,v2]] w (PrP K A W sv (zs++fuL l (.mk nm ps rk rn body)));obtain⟨s,g0,off0,q,rfl,_,hs,hcv⟩:=jc h0 hn1;have hs1:aV (bytesOf s)=true:=by rw[hs];exact hm
 obtain⟨fa,fcap,rfl,hfl⟩:=Pa.slice h1;obtain⟨ba,bn,bc,rfl,hBk⟩:=hBk;obtain⟨ts,hts⟩:=dJ (ps.map fun p=>32::paL l p);have htl:ts.length=ps.length:=by rw[hts.out];simp
 have hta:∀ (j:Nat) (hj:j<ps.length),ts[j]'(by omega)=32::paL l ps[j]:=fun j hj=>by simp only[hts.out,List.getElem_map]
 have hg:∀ t∈ts,Good t:=fun t ht=>by
  rw[hts.out,List.mem_map]at ht;obtain⟨p,hp,rfl⟩:=ht;exact JF hnm (hps p hp)
 obtain⟨F,hF⟩:=dJ ([32,102,117,110,99,32]++nm++[32,40]);have hGF:Good F:=by rw[hF.out];exact⟨by simp,aT ([32,102,117,110,99,32]++nm) (t:=[32,40]) rfl⟩
 have hlF:F.length=nm.length+8:=by rw[hF.out];simp
 have hGj:∀ j,j<=ts.length->Good (F++joinL (ts.take j)):=fun j hj=>by
  rcases Nat.eq_zero_or_pos j with h0|h0
  ·rw[h0,List.take_zero,joinL,List.append_nil];exact hGF
  ·have:=lm [44] rfl ts hg j h0 hj;rw[mi]at this;exact hGF.app this
 obtain⟨J,hJ⟩:=dJ (F++joinL ts);have hGJ:Good J:=by have:=hGj ts.length (Nat.le_refl _);rw[List.take_length]at this;rw[hJ.out];exact this
 have hlJ:J.length=F.length+(joinL ts).length:=by rw[hJ.out,List.length_append]
 have hG2:Good (J++[32,41]):=hGJ.app ⟨by decide,by decide⟩
 have hG3:Good (J++[32,41]++aN l rk rn):=by
  rcases y8 hnm hty with e|e
  ·rw[e,List.append_nil];exact hG2
  ·exact hG2.app e
 have heT:zs++fuL l (.mk nm ps rk rn body)=atL zs (J++[32,41]++aN l rk rn)++bu (St.says l body)++[10]:=by
  rw[pq hmid,hJ.out,hF.out,hts.out];show zs++([102,117,110,99,32]++nm++[32,40]++joinL (ps.map fun p=>32::paL l p)++[32,41]++aN l rk rn++bu (St.says l body)++[10])=_;simp[List.append_assoc]
 have hbT:zs.length+(J.length+2+(aN l rk rn).length)+(bu (St.says l body)).length<=999999:=by
  have:=congrArg List.length heT;rw[List.length_append,pq hmid]at this;simp only[List.length_append,List.length_drop,List.length_cons,List.length_nil]at this;omega
 obtain⟨w1,hw1⟩:∃ w1,Hid (w1=w.alloc (.cells #[.slice (some ⟨g0,off0,none⟩) nm.length q,.slice fa ps.length fcap,.int .i64 rk,.int .i64 rn,.slice ba bn bc] 55)):=⟨_,rfl⟩
 have hK:=lt_of_some h.row;have hA:Pr K A W w1 sv tv zs:=by rw[hw1.out];exact h.alloc _
 have hbx:BxT w.heap.size w1 [.slice (some ⟨g0,off0,none⟩) nm.length q,.slice fa ps.length fcap,.int .i64 rk,.int .i64 rn,.slice ba bn bc] 55:=by rw[hw1.out];exact BxT.new w _ _
 have HC:Hid (∀ i u,[Value.slice (some ⟨g0,off0,none⟩) nm.length q,.slice fa ps.length fcap,.int .i64 rk,.int .i64 rn,.slice ba bn bc][i]?=some u->∀ w',KP K w1 w'->w'.cell? ⟨w.heap.size,i,none⟩=some u):=fun i u hu=>hbx.kp (by decide) (by omega) i u hu;have hsz:Hid (w.heap.size+1=w1.heap.size):=by rw[hw1.out];show _=_;simp
 have hA1:=hA.from
 have HF:Hid (∀ w' t',Pr K w1 W w' sv t' (atL zs (J++[32,41]++aN l rk rn)++bu (St.says l body)++[10])->PrP K A W sv (zs++fuL l (.mk nm ps rk rn body)) (.returned (.tuple #[])) w'):=fun w' t' hp=>⟨rfl,t',by rw[heT];exact hp.back hA.kp⟩
 have cv:=hcv w1 hA.lat;rw[hw1.out]at cv
 have HE:Hid (∀ (j:Nat) (hj:j<ps.length),∃ g off x0 y0 z0,fa=some ⟨g,off,none⟩/\RdN W (.slice x0 y0 z0) ps[j].name/\∀ w',Later W w'->w'.cell? ⟨g,off+j*3,none⟩=some (.slice x0 y0 z0)/\w'.cell? ⟨g,off+j*3+1,none⟩=some (.int .i64 ps[j].tk)/\w'.cell? ⟨g,off+j*3+2,none⟩=some (.int .i64 ps[j].tn)):=fun j hj=>by
  obtain⟨g,off,u0,e,hgs,c0,c1,c2,r0⟩:=Pa.elem h1 j hj;obtain⟨b0,p0,rfl,_⟩:=r0.slice;exact⟨g,off,b0,_,p0,e,r0,fun w' hw=>⟨by rw[hw.cell (p:=⟨g,off+j*3,none⟩) hgs];exact c0,by rw[hw.cell (p:=⟨g,off+j*3+1,none⟩) hgs];exact c1,by rw[hw.cell (p:=⟨g,off+j*3+2,none⟩) hgs];exact c2⟩⟩
 have htl':Hid (ts.length=ps.length):=htl;have hGj':Hid (∀ j,j<=ts.length->Good (F++joinL (ts.take j))):=hGj
 have hta':Hid (∀ (j:Nat) (hj:j<ps.length),ts[j]'(by rw[htl'.out];exact hj)=32::paL l ps[j]):=hta
 have hlF':=bJ zs F
 generalize hQ:PrP K A W sv (zs++fuL l (.mk nm ps rk rn body))=Q
 rw[hQ]at HF;clear hQ hA hbx hcv h heT htl hGj hta hg hx;go_enter Tryz.func50,Tryz.ntmps50;go_wp2_with fail
 rw[<-hw1.out];refine (UC K w1 W w1 sv tv zs ⟨#[102,117,110,99]⟩ s ⟨#[40]⟩ F (by rw[hF.out,hs];simp[spread,bytesOf]) hA1 (by decide) hs1 (by decide) (by omega) _ hsz.out).mono ?_;rintro e w2 ⟨rfl,t2,hp2⟩;have q1:=HC.out 1 _ rfl _ hp2.kp;go_wp2_with fail
 go_loopw [15] (fun i wr=>∃ (j:Nat) (tv':Value),i=.int .i64 (j:Int)/\j<=ps.length/\Pr K w1 W wr sv tv' (atL zs (F++joinL (ts.take j)))) (fun i _=>ps.length - (intOf i).toNat)
 case atStart=>exact⟨0,t2,rfl,Nat.zero_le _,by rw[List.take_zero,joinL,List.append_nil];exact hp2⟩
 case round =>
  obtain⟨j,tv',rfl,hj,hp⟩:=hrel;by_cases hlt:j<ps.length
  ·obtain⟨g,off,x0,y0,z0,rfl,r0,hcl⟩:=HE.out j hlt;obtain⟨d0,d1,d2⟩:=hcl _ hp.lat;have hlt':j<ts.length:=by rw[htl'.out];exact hlt
   have hG:=hGj'.out j (by omega);have hst:=Ar ts j hlt';have hat:=Pg ts j hlt';rw[hta'.out j hlt]at hst hat;have hFi:=hps _ (List.getElem_mem hlt);have i1:(j:Int)<(ps.length:Int):=by omega
   have hlj:=bJ zs (F++joinL (ts.take j));rw[List.length_append]at hlj;obtain⟨wb,hwb⟩:=dJ (wr.alloc (.cells #[.slice x0 y0 z0,.int .i64 ps[j].tk,.int .i64 ps[j].tn] 75));have hKr:=lt_of_some hp.row;have hpb:Pr K w1 W wb sv tv' (atL zs (F++joinL (ts.take j))):=by rw[hwb.out];exact hp.alloc _
   have hbxr:BxT wr.heap.size wb [.slice x0 y0 z0,.int .i64 ps[j].tk,.int .i64 ps[j].tn] 75:=by rw[hwb.out];exact BxT.new wr _ _
   have hszr:Hid (wr.heap.size+1=wb.heap.size):=by rw[hwb.out];show _=_;simp
   have hlp:(32::paL l ps[j]).length=(paL l ps[j]).length+1:=rfl;have hlq:([32,44]:List Int).length=2:=rfl;have hlr:(32::(ps[j].name++aN l ps[j].tk ps[j].tn)).length=(32::paL l ps[j]).length:=rfl;clear hcl;by_cases hz:j=0
   ·rw[if_pos hz]at hst hat;have he:atL (atL zs (F++joinL (ts.take j))) (32::paL l ps[j])=atL zs (F++joinL (ts.take (j+1))):=by rw[hst,cZ zs hG];simp[List.append_assoc]
    have i2:¬ (0:Int)<(j:Int):=by omega
    have hz':Hid (j=0):=hz;clear hz hst hbxr;go_wp2_with fail
    rw[<-hwb.out];refine (xR K w1 W _ sv tv' _ _ l ps[j].name ps[j].tk ps[j].tn hpb hl hnm hFi.ty r0 hFi.tok hFi.nm (by omega)).mono ?_;rintro e w4 ⟨rfl,t4,hp4⟩
    replace hp4:Pr K w1 W w4 sv t4 (atL zs (F++joinL (ts.take (j+1)))):=by rw[<-he];exact hp4
    go_wp2_with fail
    go_roundw
    case rel=>exact⟨j+1,_,by go_num,by omega,hp4⟩
    case measure=>simp[intOf];omega
   ·rw[if_neg hz]at hst hat;have hG4:Good (F++joinL (ts.take j)++[32,44]):=hG.app ⟨by decide,by decide⟩;have he1:atL (atL zs (F++joinL (ts.take j))) [32,44]=atL zs (F++joinL (ts.take j)++[32,44]):=cZ zs hG _;have he:atL (atL zs (F++joinL (ts.take j)++[32,44])) (32::paL l ps[j])=atL zs (F++joinL (ts.take (j+1))):=by rw[hst,cZ zs hG4];simp[List.append_assoc]
    have hl2:=bJ zs (F++joinL (ts.take j)++[32,44]);rw[List.length_append,List.length_append]at hl2;have i2:(0:Int)<(j:Int):=by omega
    have HCr:Hid (∀ i u,[Value.slice x0 y0 z0,.int .i64 ps[j].tk,.int .i64 ps[j].tn][i]?=some u->∀ w',KP K wb w'->w'.cell? ⟨wr.heap.size,i,none⟩=some u):=fun i u hu=>hbxr.kp (by decide) (by omega) i u hu;have hbk:=hpb.kp;have hpf:=hpb.from
    clear hst hbxr hpb;go_wp2_with fail
    rw[<-hwb.out];refine (jw K wb W wb sv tv' _ ⟨#[44]⟩ [32,44] rfl hpf (by decide) (by omega) _ hszr.out).mono ?_;rintro e w3 ⟨rfl,t3,hp3⟩;rw[he1]at hp3;have c0:=HCr.out 0 _ rfl _ hp3.kp;have c1:=HCr.out 1 _ rfl _ hp3.kp;have c2:=HCr.out 2 _ rfl _ hp3.kp;go_wp2_with fail
    refine (xR K w1 W _ sv t3 _ _ l ps[j].name ps[j].tk ps[j].tn (hp3.back hbk) hl hnm hFi.ty r0 hFi.tok hFi.nm (by omega)).mono ?_;rintro e w4 ⟨rfl,t4,hp4⟩
    replace hp4:Pr K w1 W w4 sv t4 (atL zs (F++joinL (ts.take (j+1)))):=by rw[<-he];exact hp4
    go_wp2_with fail
    go_roundw
    case rel=>exact⟨j+1,_,by go_num,by omega,hp4⟩
    case measure=>simp[intOf];omega
  ·have hje:j=ps.length:=by omega
   have i1:¬ (j:Int)<(ps.length:Int):=by omega
   rw[hje,<- htl'.out,List.take_length,<- hJ.out]at hp;have hlj:=bJ zs J;have hl2:=bJ zs (J++[32,41]);have hl3:=bJ zs (J++[32,41]++aN l rk rn);have hlc:([32,41]:List Int).length=2:=rfl;rw[List.length_append]at hl2;rw[List.length_append,List.length_append]at hl3;have he1:atL (atL zs J) [32,41]=atL zs (J++[32,41]):=cZ zs hGJ _;have he2:atL (atL zs (J++[32,41])) (aN l rk rn)=atL zs (J++[32,41]++aN l rk rn):=cZ zs hG2 _;have hlB:(atL zs (J++[32,41]++aN l rk rn)++bu (St.says l body)).length=(atL zs (J++[32,41]++aN l rk rn)).length+(bu (St.says l body)).length:=List.length_append;go_wp2_with fail
   refine (jw K w1 W wr sv tv' _ ⟨#[41]⟩ [32,41] rfl hp (by decide) (by omega) _ rfl).mono ?_;rintro e w3 ⟨rfl,t3,hp3⟩;rw[he1]at hp3;have q2:=HC.out 2 _ rfl _ hp3.kp;have q3:=HC.out 3 _ rfl _ hp3.kp;go_wp2_with fail
   refine (zn K w1 W w3 sv t3 _ l rk rn hp3 hl hnm hty (by omega)).mono ?_;rintro e w4 ⟨rfl,t4,hp4⟩;rw[he2]at hp4;have q4:=HC.out 4 _ rfl _ hp4.kp;go_wp2_with fail
   refine (hBk K w1 w4 t4 _ hp4 (lY zs hG3) (by omega)).mono ?_;rintro e w5 ⟨rfl,t5,hp5⟩;go_wp2_with fail
   refine (je K w1 W w5 sv t5 _ hp5 (by omega)).mono ?_;rintro e w6 ⟨rfl,t6,hp6⟩;go_wp2_with fail
   refine bodyPost_end (results_none rfl _ _ _) rfl ?_;exact HF.out _ _ hp6
end Go.Proofs.YtgaddpkkjebekaaGreatDoor
