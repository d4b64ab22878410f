import Derived.Test.YtgaddpkkjebekaaGreatDoorZ28
set_option maxHeartbeats 100000000
set_option maxRecDepth 100000
namespace Go.Proofs.YtgaddpkkjebekaaGreatDoor
open Go.RowKit Go.Lib
theorem dJ {α:Type}(x:α):∃ T,Hid (T=x):=⟨x,rfl⟩
theorem Tm (K:Nat) (A W w:World) (sv tv:Value) (x0 x1:Option Addr) (y0 z0 y1 z1:Nat) (zs:List Int) (n tk tn:Int) (h:Pr K A W w sv tv zs)  (hb:zs.length+([32,114,101,97,100]).length<=1000000) :
  Calls Tryz.prog 139 #[.pointer (some ⟨K,0,none⟩),.agg #[.int .i64 11,.int .i64 n,.int .i64 tk,.int .i64 tn,.slice x0 y0 z0,.slice x1 y1 z1]] w (PrP K A W sv (atL zs ([32,114,101,97,100]))):=by
 obtain⟨w1,hw1,hA,HC,hsz,hA1,T,hT,HF⟩:=pr0 h [.int .i64 11,.int .i64 n,.int .i64 tk,.int .i64 tn,.slice x0 y0 z0,.slice x1 y1 z1] 148 (by decide) (atL zs ([32,114,101,97,100]));have hK:=lt_of_some h.row;rw[<-hT.out];clear hA;go_enter Tryz.func139,Tryz.ntmps139;go_wp2_with fail
 rw[<-hw1.out];refine (jw K w1 W w1 sv tv zs ⟨#[114,101,97,100]⟩ [32,114,101,97,100] rfl hA1 (by decide) hb _ hsz.out).mono ?_;rintro e wE ⟨rfl,tE,hpE⟩;rw[<-hT.out]at hpE;go_wp2_with fail
 refine bodyPost_end (results_none rfl _ _ _) rfl ?_;exact HF.out _ _ hpE
theorem U9 (K:Nat) (A W w:World) (sv tv:Value) (x0 x1:Option Addr) (y0 z0 y1 z1:Nat) (zs:List Int) (n tk tn:Int) (h:Pr K A W w sv tv zs)  (hb:zs.length+([32,108,101,110]).length<=1000000) :
  Calls Tryz.prog 162 #[.pointer (some ⟨K,0,none⟩),.agg #[.int .i64 9,.int .i64 n,.int .i64 tk,.int .i64 tn,.slice x0 y0 z0,.slice x1 y1 z1]] w (PrP K A W sv (atL zs ([32,108,101,110]))):=by
 obtain⟨w1,hw1,hA,HC,hsz,hA1,T,hT,HF⟩:=pr0 h [.int .i64 9,.int .i64 n,.int .i64 tk,.int .i64 tn,.slice x0 y0 z0,.slice x1 y1 z1] 148 (by decide) (atL zs ([32,108,101,110]));have hK:=lt_of_some h.row;rw[<-hT.out];clear hA;go_enter Tryz.func162,Tryz.ntmps162;go_wp2_with fail
 rw[<-hw1.out];refine (jw K w1 W w1 sv tv zs ⟨#[108,101,110]⟩ [32,108,101,110] rfl hA1 (by decide) hb _ hsz.out).mono ?_;rintro e wE ⟨rfl,tE,hpE⟩;rw[<-hT.out]at hpE;go_wp2_with fail
 refine bodyPost_end (results_none rfl _ _ _) rfl ?_;exact HF.out _ _ hpE
theorem SQ (K:Nat) (A W w:World) (sv tv:Value) (x0 x1:Option Addr) (y0 z0 y1 z1:Nat) (zs:List Int) (n tk tn:Int) (h:Pr K A W w sv tv zs)  (hb:zs.length+([32,105,110,116]).length<=1000000) :
  Calls Tryz.prog 162 #[.pointer (some ⟨K,0,none⟩),.agg #[.int .i64 12,.int .i64 n,.int .i64 tk,.int .i64 tn,.slice x0 y0 z0,.slice x1 y1 z1]] w (PrP K A W sv (atL zs ([32,105,110,116]))):=by
 obtain⟨w1,hw1,hA,HC,hsz,hA1,T,hT,HF⟩:=pr0 h [.int .i64 12,.int .i64 n,.int .i64 tk,.int .i64 tn,.slice x0 y0 z0,.slice x1 y1 z1] 148 (by decide) (atL zs ([32,105,110,116]));have hK:=lt_of_some h.row;rw[<-hT.out];clear hA;go_enter Tryz.func162,Tryz.ntmps162;go_wp2_with fail
 rw[<-hw1.out];refine (jw K w1 W w1 sv tv zs ⟨#[105,110,116]⟩ [32,105,110,116] rfl hA1 (by decide) hb _ hsz.out).mono ?_;rintro e wE ⟨rfl,tE,hpE⟩;rw[<-hT.out]at hpE;go_wp2_with fail
 refine bodyPost_end (results_none rfl _ _ _) rfl ?_;exact HF.out _ _ hpE
theorem SN (K:Nat) (A W w:World) (sv tv:Value) (x0 x1:Option Addr) (y0 z0 y1 z1:Nat) (zs:List Int) (n tk tn:Int) (h:Pr K A W w sv tv zs)  (hb:zs.length+([32,102,108,111,97,116]).length<=1000000) :
  Calls Tryz.prog 162 #[.pointer (some ⟨K,0,none⟩),.agg #[.int .i64 13,.int .i64 n,.int .i64 tk,.int .i64 tn,.slice x0 y0 z0,.slice x1 y1 z1]] w (PrP K A W sv (atL zs ([32,102,108,111,97,116]))):=by
 obtain⟨w1,hw1,hA,HC,hsz,hA1,T,hT,HF⟩:=pr0 h [.int .i64 13,.int .i64 n,.int .i64 tk,.int .i64 tn,.slice x0 y0 z0,.slice x1 y1 z1] 148 (by decide) (atL zs ([32,102,108,111,97,116]));have hK:=lt_of_some h.row;rw[<-hT.out];clear hA;go_enter Tryz.func162,Tryz.ntmps162;go_wp2_with fail
 rw[<-hw1.out];refine (jw K w1 W w1 sv tv zs ⟨#[102,108,111,97,116]⟩ [32,102,108,111,97,116] rfl hA1 (by decide) hb _ hsz.out).mono ?_;rintro e wE ⟨rfl,tE,hpE⟩;rw[<-hT.out]at hpE;go_wp2_with fail
 refine bodyPost_end (results_none rfl _ _ _) rfl ?_;exact HF.out _ _ hpE
theorem Vo (K:Nat) (A W w:World) (sv tv:Value) (x0 x1:Option Addr) (y0 z0 y1 z1:Nat) (zs:List Int) (n tk tn:Int) (h:Pr K A W w sv tv zs) (l:List Sc) (hl:RdL W 2 sv (Sc.ah l)) (h0:0<=n) (h1:n<l.length) (hnm:1<=(iC l n).length/\aV (iC l n)=true) (hb:zs.length+([32,110,105,108,32]++iC l n).length<=1000000) :
  Calls Tryz.prog 139 #[.pointer (some ⟨K,0,none⟩),.agg #[.int .i64 2,.int .i64 n,.int .i64 tk,.int .i64 tn,.slice x0 y0 z0,.slice x1 y1 z1]] w (PrP K A W sv (atL zs ([32,110,105,108,32]++iC l n))):=by
 obtain⟨w1,hw1,hA,HC,hsz,hA1,T,hT,HF⟩:=pr0 h [.int .i64 2,.int .i64 n,.int .i64 tk,.int .i64 tn,.slice x0 y0 z0,.slice x1 y1 z1] 148 (by decide) (atL zs ([32,110,105,108,32]++iC l n));have hK:=lt_of_some h.row;rw[<-hT.out];clear hA;go_enter Tryz.func139,Tryz.ntmps139;go_wp2_with fail
 rw[<-hw1.out];refine (jm K w1 W w1 sv tv zs l n hA1 hl h0 h1 hnm.1).mono ?_;rintro e w2 ⟨s,rfl,hs,hw⟩;obtain rfl:=hw;have hs1:aV (bytesOf s)=true:=by rw[hs];exact hnm.2
 go_wp2_with fail
 refine (Oi K w2 W w2 sv tv zs ⟨#[110,105,108]⟩ s ([32,110,105,108,32]++iC l n) (by rw[hs];simp[spread,bytesOf]) hA1 (by decide) hs1 hb _ rfl).mono ?_;rintro e wE ⟨rfl,tE,hpE⟩;rw[<-hT.out]at hpE;go_wp2_with fail
 refine bodyPost_end (results_none rfl _ _ _) rfl ?_;exact HF.out _ _ hpE
theorem Vl (K:Nat) (A W w:World) (sv tv:Value) (x0 x1:Option Addr) (y0 z0 y1 z1:Nat) (zs:List Int) (n tk tn:Int) (h:Pr K A W w sv tv zs) (l:List Sc) (hl:RdL W 2 sv (Sc.ah l)) (h0:0<=n) (h1:n<l.length) (hnm:1<=(iC l n).length/\aV (iC l n)=true) (hb:zs.length+([32,110,101,119,32]++iC l n).length<=1000000) :
  Calls Tryz.prog 139 #[.pointer (some ⟨K,0,none⟩),.agg #[.int .i64 4,.int .i64 n,.int .i64 tk,.int .i64 tn,.slice x0 y0 z0,.slice x1 y1 z1]] w (PrP K A W sv (atL zs ([32,110,101,119,32]++iC l n))):=by
 obtain⟨w1,hw1,hA,HC,hsz,hA1,T,hT,HF⟩:=pr0 h [.int .i64 4,.int .i64 n,.int .i64 tk,.int .i64 tn,.slice x0 y0 z0,.slice x1 y1 z1] 148 (by decide) (atL zs ([32,110,101,119,32]++iC l n));have hK:=lt_of_some h.row;rw[<-hT.out];clear hA;go_enter Tryz.func139,Tryz.ntmps139;go_wp2_with fail
 rw[<-hw1.out];refine (jm K w1 W w1 sv tv zs l n hA1 hl h0 h1 hnm.1).mono ?_;rintro e w2 ⟨s,rfl,hs,hw⟩;obtain rfl:=hw;have hs1:aV (bytesOf s)=true:=by rw[hs];exact hnm.2
 go_wp2_with fail
 refine (Oi K w2 W w2 sv tv zs ⟨#[110,101,119]⟩ s ([32,110,101,119,32]++iC l n) (by rw[hs];simp[spread,bytesOf]) hA1 (by decide) hs1 hb _ rfl).mono ?_;rintro e wE ⟨rfl,tE,hpE⟩;rw[<-hT.out]at hpE;go_wp2_with fail
 refine bodyPost_end (results_none rfl _ _ _) rfl ?_;exact HF.out _ _ hpE
theorem Vm (K:Nat) (A W w:World) (sv tv:Value) (v0:Value) (x1:Option Addr) (y1 z1:Nat) (zs:List Int) (n tk tn:Int) (h:Pr K A W w sv tv zs) (nm:List Int) (hv0:RdN W v0 nm) (hm:aV nm=true) (hn1:1<=nm.length) (hb:zs.length+(32::nm).length<=1000000) :
  Calls Tryz.prog 139 #[.pointer (some ⟨K,0,none⟩),.agg #[.int .i64 3,.int .i64 n,.int .i64 tk,.int .i64 tn,v0,.slice x1 y1 z1]] w (PrP K A W sv (atL zs (32::nm))):=by
 obtain⟨s,g0,off0,q,rfl,hg0,hs,hcv⟩:=jc hv0 hn1;have hs1:aV (bytesOf s)=true:=by rw[hs];exact hm
 obtain⟨w1,hw1,hA,HC,hsz,hA1,T,hT,HF⟩:=pr0 h [.int .i64 3,.int .i64 n,.int .i64 tk,.int .i64 tn,.slice (some ⟨g0,off0,none⟩) nm.length q,.slice x1 y1 z1] 148 (by decide) (atL zs (32::nm));have hK:=lt_of_some h.row;rw[<-hT.out];have cv:=hcv w1 hA.lat;rw[hw1.out]at cv;clear hcv;clear hA;go_enter Tryz.func139,Tryz.ntmps139;go_wp2_with fail
 rw[<-hw1.out];refine (jw K w1 W w1 sv tv zs s (32::nm) (by rw[hs];simp[spread]) hA1 hs1 hb _ hsz.out).mono ?_;rintro e wE ⟨rfl,tE,hpE⟩;rw[<-hT.out]at hpE;go_wp2_with fail
 refine bodyPost_end (results_none rfl _ _ _) rfl ?_;exact HF.out _ _ hpE
theorem Va (K:Nat) (A W w:World) (sv tv:Value) (v0:Value) (x1:Option Addr) (y1 z1:Nat) (zs:List Int) (n tk tn:Int) (h:Pr K A W w sv tv zs) (nm:List Int) (hv0:RdN W v0 nm) (hm:aV nm=true) (hn1:1<=nm.length) (hb:zs.length+(32::nm).length<=1000000) :
  Calls Tryz.prog 162 #[.pointer (some ⟨K,0,none⟩),.agg #[.int .i64 6,.int .i64 n,.int .i64 tk,.int .i64 tn,v0,.slice x1 y1 z1]] w (PrP K A W sv (atL zs (32::nm))):=by
 obtain⟨s,g0,off0,q,rfl,hg0,hs,hcv⟩:=jc hv0 hn1;have hs1:aV (bytesOf s)=true:=by rw[hs];exact hm
 obtain⟨w1,hw1,hA,HC,hsz,hA1,T,hT,HF⟩:=pr0 h [.int .i64 6,.int .i64 n,.int .i64 tk,.int .i64 tn,.slice (some ⟨g0,off0,none⟩) nm.length q,.slice x1 y1 z1] 148 (by decide) (atL zs (32::nm));have hK:=lt_of_some h.row;rw[<-hT.out];have cv:=hcv w1 hA.lat;rw[hw1.out]at cv;clear hcv;clear hA;go_enter Tryz.func162,Tryz.ntmps162;go_wp2_with fail
 rw[<-hw1.out];refine (jw K w1 W w1 sv tv zs s (32::nm) (by rw[hs];simp[spread]) hA1 hs1 hb _ hsz.out).mono ?_;rintro e wE ⟨rfl,tE,hpE⟩;rw[<-hT.out]at hpE;go_wp2_with fail
 refine bodyPost_end (results_none rfl _ _ _) rfl ?_;exact HF.out _ _ hpE
theorem Vb (K:Nat) (A W w:World) (sv tv:Value) (x0 x1:Option Addr) (y0 z0 y1 z1:Nat) (zs:List Int) (n tk tn:Int) (h:Pr K A W w sv tv zs) (l:List Sc) (hl:RdL W 2 sv (Sc.ah l)) (hnm:dm l) (ht:jv l tk tn) (hb:zs.length+([32,109,97,107,101]++aN l tk tn).length<=1000000) :
  Calls Tryz.prog 162 #[.pointer (some ⟨K,0,none⟩),.agg #[.int .i64 5,.int .i64 n,.int .i64 tk,.int .i64 tn,.slice x0 y0 z0,.slice x1 y1 z1]] w (PrP K A W sv (atL zs ([32,109,97,107,101]++aN l tk tn))):=by
 obtain⟨w1,hw1,hA,HC,hsz,hA1,T,hT,HF⟩:=pr0 h [.int .i64 5,.int .i64 n,.int .i64 tk,.int .i64 tn,.slice x0 y0 z0,.slice x1 y1 z1] 148 (by decide) (atL zs ([32,109,97,107,101]++aN l tk tn));have hK:=lt_of_some h.row;rw[<-hT.out];have hl1:=bJ zs [32,109,97,107,101];rw[List.length_append]at hb;have hat:atL (atL zs [32,109,97,107,101]) (aN l tk tn)=T:=by rw[hT.out];exact cZ zs ⟨by decide,by decide⟩ _
 have hbm:([32,109,97,107,101]:List Int).length=5:=rfl;clear hA;go_enter Tryz.func162,Tryz.ntmps162;go_wp2_with fail
 rw[<-hw1.out];refine (jw K w1 W w1 sv tv zs ⟨#[109,97,107,101]⟩ [32,109,97,107,101] rfl hA1 (by decide) (by omega) _ hsz.out).mono ?_;rintro e w2 ⟨rfl,t2,hp2⟩;have q1:=HC.out 2 _ rfl _ hp2.kp;have q2:=HC.out 3 _ rfl _ hp2.kp;go_wp2_with fail
 refine (zn K w1 W w2 sv t2 _ l tk tn hp2 hl hnm ht (by omega)).mono ?_;rintro e wE ⟨rfl,tE,hpE⟩;rw[hat]at hpE;go_wp2_with fail
 refine bodyPost_end (results_none rfl _ _ _) rfl ?_;exact HF.out _ _ hpE
theorem Vk (K:Nat) (A W w:World) (sv tv:Value) (x0 x1:Option Addr) (y0 z0 y1 z1:Nat) (zs:List Int) (n tk tn:Int) (h:Pr K A W w sv tv zs) (l:List Sc) (hl:RdL W 2 sv (Sc.ah l)) (hnm:dm l) (ht:jv l tk tn) (ts:List (List Int)) (hks:jX W sv (.slice x1 y1 z1) ts) (hts:ts.length<=1000) (hb:zs.length+(([32,109,97,107,101]++aN l tk tn)++((32::[40])++joinL ts++(32::[41]))).length<=1000000) :
  Calls Tryz.prog 139 #[.pointer (some ⟨K,0,none⟩),.agg #[.int .i64 5,.int .i64 n,.int .i64 tk,.int .i64 tn,.slice x0 y0 z0,.slice x1 y1 z1]] w (PrP K A W sv (atL zs (([32,109,97,107,101]++aN l tk tn)++((32::[40])++joinL ts++(32::[41]))))):=by
 have hG:Good ([32,109,97,107,101]++aN l tk tn):=by
  rcases y8 hnm ht with e|e
  ·rw[e];exact⟨by simp,rfl⟩
  ·exact Good.app ⟨by decide,by decide⟩ e
 obtain⟨w1,hw1,hA,HC,hsz,hA1,T,hT,HF⟩:=pr0 h [.int .i64 5,.int .i64 n,.int .i64 tk,.int .i64 tn,.slice x0 y0 z0,.slice x1 y1 z1] 148 (by decide) (atL zs (([32,109,97,107,101]++aN l tk tn)++((32::[40])++joinL ts++(32::[41]))));have hK:=lt_of_some h.row;rw[<-hT.out];have hl1:=bJ zs ([32,109,97,107,101]++aN l tk tn);rw[List.length_append]at hb;have hat:atL (atL zs ([32,109,97,107,101]++aN l tk tn)) ((32::[40])++joinL ts++(32::[41]))=T:=by rw[hT.out];exact cZ zs hG _
 have qq0:=HC.out 0 _ rfl _ hA.from.kp
 clear hA;go_enter Tryz.func139,Tryz.ntmps139;go_wp2_with fail
 rw[<-hw1.out];refine (Vb K w1 W w1 sv tv x0 x1 y0 z0 y1 z1 zs n tk tn hA1 l hl hnm ht (by omega)).mono ?_;rintro e w2 ⟨rfl,t2,hp2⟩;have q5:=HC.out 5 _ rfl _ hp2.kp;go_wp2_with fail
 refine (fV K w1 W w2 sv t2 _ _ [40] [41] ⟨#[40]⟩ ⟨#[41]⟩ ts hp2 hks rfl rfl rfl rfl hts (by omega)).mono ?_;rintro e wE ⟨rfl,tE,hpE⟩;rw[hat]at hpE;go_wp2_with fail
 refine bodyPost_end (results_none rfl _ _ _) rfl ?_;exact HF.out _ _ hpE
theorem Vj (K:Nat) (A W w:World) (sv tv:Value) (v0:Value) (x1:Option Addr) (y1 z1:Nat) (zs:List Int) (n tk tn:Int) (h:Pr K A W w sv tv zs) (nm:List Int) (hv0:RdN W v0 nm) (hm:aV nm=true) (hn1:1<=nm.length) (ts:List (List Int)) (hks:jX W sv (.slice x1 y1 z1) ts) (hts:ts.length<=1000) (hb:zs.length+((32::nm)++((32::[40])++joinL ts++(32::[41]))).length<=1000000) :
  Calls Tryz.prog 139 #[.pointer (some ⟨K,0,none⟩),.agg #[.int .i64 6,.int .i64 n,.int .i64 tk,.int .i64 tn,v0,.slice x1 y1 z1]] w (PrP K A W sv (atL zs ((32::nm)++((32::[40])++joinL ts++(32::[41]))))):=by
 obtain⟨b0,q0,rfl,hbl⟩:=hv0.slice;have hG:Good (32::nm):=Good.cons hm;obtain⟨w1,hw1,hA,HC,hsz,hA1,T,hT,HF⟩:=pr0 h [.int .i64 6,.int .i64 n,.int .i64 tk,.int .i64 tn,.slice b0 nm.length q0,.slice x1 y1 z1] 148 (by decide) (atL zs ((32::nm)++((32::[40])++joinL ts++(32::[41]))));have hK:=lt_of_some h.row;rw[<-hT.out];have hl1:=bJ zs (32::nm);rw[List.length_append]at hb;have hat:atL (atL zs (32::nm)) ((32::[40])++joinL ts++(32::[41]))=T:=by rw[hT.out];exact cZ zs hG _
 have qq0:=HC.out 0 _ rfl _ hA.from.kp
 clear hA;go_enter Tryz.func139,Tryz.ntmps139;go_wp2_with fail
 rw[<-hw1.out];refine (Va K w1 W w1 sv tv (.slice b0 nm.length q0) x1 y1 z1 zs n tk tn hA1 nm hv0 hm hn1 (by omega)).mono ?_;rintro e w2 ⟨rfl,t2,hp2⟩;have q5:=HC.out 5 _ rfl _ hp2.kp;go_wp2_with fail
 refine (fV K w1 W w2 sv t2 _ _ [40] [41] ⟨#[40]⟩ ⟨#[41]⟩ ts hp2 hks rfl rfl rfl rfl hts (by omega)).mono ?_;rintro e wE ⟨rfl,tE,hpE⟩;rw[hat]at hpE;go_wp2_with fail
 refine bodyPost_end (results_none rfl _ _ _) rfl ?_;exact HF.out _ _ hpE
theorem Vf (K:Nat) (A W w:World) (sv tv:Value) (x0 x1:Option Addr) (y0 z0 y1 z1:Nat) (zs:List Int) (n tk tn:Int) (h:Pr K A W w sv tv zs)  (ts:List (List Int)) (hks:jX W sv (.slice x1 y1 z1) ts) (hts:ts.length<=1000) (hb:zs.length+(([32,108,101,110])++((32::[40])++joinL ts++(32::[41]))).length<=1000000) :
  Calls Tryz.prog 139 #[.pointer (some ⟨K,0,none⟩),.agg #[.int .i64 9,.int .i64 n,.int .i64 tk,.int .i64 tn,.slice x0 y0 z0,.slice x1 y1 z1]] w (PrP K A W sv (atL zs (([32,108,101,110])++((32::[40])++joinL ts++(32::[41]))))):=by
 have hG:Good ([32,108,101,110]):=⟨by decide,by decide⟩
 obtain⟨w1,hw1,hA,HC,hsz,hA1,T,hT,HF⟩:=pr0 h [.int .i64 9,.int .i64 n,.int .i64 tk,.int .i64 tn,.slice x0 y0 z0,.slice x1 y1 z1] 148 (by decide) (atL zs (([32,108,101,110])++((32::[40])++joinL ts++(32::[41]))));have hK:=lt_of_some h.row;rw[<-hT.out];have hl1:=bJ zs ([32,108,101,110]);rw[List.length_append]at hb;have hat:atL (atL zs ([32,108,101,110])) ((32::[40])++joinL ts++(32::[41]))=T:=by rw[hT.out];exact cZ zs hG _
 have qq0:=HC.out 0 _ rfl _ hA.from.kp
 clear hA;go_enter Tryz.func139,Tryz.ntmps139;go_wp2_with fail
 rw[<-hw1.out];refine (U9 K w1 W w1 sv tv x0 x1 y0 z0 y1 z1 zs n tk tn hA1 (by omega)).mono ?_;rintro e w2 ⟨rfl,t2,hp2⟩;have q5:=HC.out 5 _ rfl _ hp2.kp;go_wp2_with fail
 refine (fV K w1 W w2 sv t2 _ _ [40] [41] ⟨#[40]⟩ ⟨#[41]⟩ ts hp2 hks rfl rfl rfl rfl hts (by omega)).mono ?_;rintro e wE ⟨rfl,tE,hpE⟩;rw[hat]at hpE;go_wp2_with fail
 refine bodyPost_end (results_none rfl _ _ _) rfl ?_;exact HF.out _ _ hpE
theorem Tj (K:Nat) (A W w:World) (sv tv:Value) (x0 x1:Option Addr) (y0 z0 y1 z1:Nat) (zs:List Int) (n tk tn:Int) (h:Pr K A W w sv tv zs)  (ts:List (List Int)) (hks:jX W sv (.slice x1 y1 z1) ts) (hts:ts.length<=1000) (hb:zs.length+(([32,105,110,116])++((32::[40])++joinL ts++(32::[41]))).length<=1000000) :
  Calls Tryz.prog 139 #[.pointer (some ⟨K,0,none⟩),.agg #[.int .i64 12,.int .i64 n,.int .i64 tk,.int .i64 tn,.slice x0 y0 z0,.slice x1 y1 z1]] w (PrP K A W sv (atL zs (([32,105,110,116])++((32::[40])++joinL ts++(32::[41]))))):=by
 have hG:Good ([32,105,110,116]):=⟨by decide,by decide⟩
 obtain⟨w1,hw1,hA,HC,hsz,hA1,T,hT,HF⟩:=pr0 h [.int .i64 12,.int .i64 n,.int .i64 tk,.int .i64 tn,.slice x0 y0 z0,.slice x1 y1 z1] 148 (by decide) (atL zs (([32,105,110,116])++((32::[40])++joinL ts++(32::[41]))));have hK:=lt_of_some h.row;rw[<-hT.out];have hl1:=bJ zs ([32,105,110,116]);rw[List.length_append]at hb;have hat:atL (atL zs ([32,105,110,116])) ((32::[40])++joinL ts++(32::[41]))=T:=by rw[hT.out];exact cZ zs hG _
 have qq0:=HC.out 0 _ rfl _ hA.from.kp
 clear hA;go_enter Tryz.func139,Tryz.ntmps139;go_wp2_with fail
 rw[<-hw1.out];refine (SQ K w1 W w1 sv tv x0 x1 y0 z0 y1 z1 zs n tk tn hA1 (by omega)).mono ?_;rintro e w2 ⟨rfl,t2,hp2⟩;have q5:=HC.out 5 _ rfl _ hp2.kp;go_wp2_with fail
 refine (fV K w1 W w2 sv t2 _ _ [40] [41] ⟨#[40]⟩ ⟨#[41]⟩ ts hp2 hks rfl rfl rfl rfl hts (by omega)).mono ?_;rintro e wE ⟨rfl,tE,hpE⟩;rw[hat]at hpE;go_wp2_with fail
 refine bodyPost_end (results_none rfl _ _ _) rfl ?_;exact HF.out _ _ hpE
theorem Ti (K:Nat) (A W w:World) (sv tv:Value) (x0 x1:Option Addr) (y0 z0 y1 z1:Nat) (zs:List Int) (n tk tn:Int) (h:Pr K A W w sv tv zs)  (ts:List (List Int)) (hks:jX W sv (.slice x1 y1 z1) ts) (hts:ts.length<=1000) (hb:zs.length+(([32,102,108,111,97,116])++((32::[40])++joinL ts++(32::[41]))).length<=1000000) :
  Calls Tryz.prog 139 #[.pointer (some ⟨K,0,none⟩),.agg #[.int .i64 13,.int .i64 n,.int .i64 tk,.int .i64 tn,.slice x0 y0 z0,.slice x1 y1 z1]] w (PrP K A W sv (atL zs (([32,102,108,111,97,116])++((32::[40])++joinL ts++(32::[41]))))):=by
 have hG:Good ([32,102,108,111,97,116]):=⟨by decide,by decide⟩
 obtain⟨w1,hw1,hA,HC,hsz,hA1,T,hT,HF⟩:=pr0 h [.int .i64 13,.int .i64 n,.int .i64 tk,.int .i64 tn,.slice x0 y0 z0,.slice x1 y1 z1] 148 (by decide) (atL zs (([32,102,108,111,97,116])++((32::[40])++joinL ts++(32::[41]))));have hK:=lt_of_some h.row;rw[<-hT.out];have hl1:=bJ zs ([32,102,108,111,97,116]);rw[List.length_append]at hb;have hat:atL (atL zs ([32,102,108,111,97,116])) ((32::[40])++joinL ts++(32::[41]))=T:=by rw[hT.out];exact cZ zs hG _
 have qq0:=HC.out 0 _ rfl _ hA.from.kp
 clear hA;go_enter Tryz.func139,Tryz.ntmps139;go_wp2_with fail
 rw[<-hw1.out];refine (SN K w1 W w1 sv tv x0 x1 y0 z0 y1 z1 zs n tk tn hA1 (by omega)).mono ?_;rintro e w2 ⟨rfl,t2,hp2⟩;have q5:=HC.out 5 _ rfl _ hp2.kp;go_wp2_with fail
 refine (fV K w1 W w2 sv t2 _ _ [40] [41] ⟨#[40]⟩ ⟨#[41]⟩ ts hp2 hks rfl rfl rfl rfl hts (by omega)).mono ?_;rintro e wE ⟨rfl,tE,hpE⟩;rw[hat]at hpE;go_wp2_with fail
 refine bodyPost_end (results_none rfl _ _ _) rfl ?_;exact HF.out _ _ hpE
end Go.Proofs.YtgaddpkkjebekaaGreatDoor
