import Derived.Test.YtgaddpkkjebekaaGreatDoorZ29
import Derived.Test.YtgaddpkkjebekaaGreatDoorZ26
import Derived.Deep.RegionHeld3
set_option maxHeartbeats 100000000
set_option maxRecDepth 100000
namespace Go.Proofs.YtgaddpkkjebekaaGreatDoor
open Go.RowKit Go.Lib
def GY (w:World) (nm:List Int) (e:Ending) (w':World):Prop:=∃ s,e=.returned (.string s)/\bytesOf s=nm/\Later w w'
structure Env (W:World):Prop where
 ito:∀ (n:Int) (w:World),InR n->Later W w->Calls Tryz.prog 66 #[.int .i64 n] w (GY w (iI n))
 flo:∀ (n:Int) (w:World),InR n->Later W w->Calls Tryz.prog 69 #[.int .i64 n] w (GY w (hexL n))
 ops:∀ i:Nat,i<7->∃ s,W.cell? ⟨5,i,none⟩=some (.string s)/\bytesOf s=opL i
 big:5<W.heap.size
theorem nI (b:List Int) (z:Int) (h:z≠10):aV (b++[z])=true:=by
 unfold aV;rw[List.getLast?_append];simpa using h
theorem CJ:∀ (f n:Nat),aV (kE (f+1) n)=true:=by
 intro f
 cases f with
 | zero =>
  intro n;unfold kE;split
  ·exact nI [] _ (by omega)
  ·exact nI _ _ (by omega)
 | succ f =>
  intro n;unfold kE;split
  ·exact nI [] _ (by omega)
  ·exact nI _ _ (by omega)
theorem Fq (n:Int):aV (iI n)=true:=by
 unfold iI;split
 ·exact aT [45] (CJ 19 _)
 ·exact CJ 19 _
theorem Fp (n:Int):aV (hexL n)=true:=by
 unfold hexL;refine aT _ ?_;rw[dD];refine nI _ _ ?_;unfold hexD;split <;> omega
theorem JO (n:Int):aV (opL n)=true:=by
 unfold opL;split
 ·rfl
 split
 ·rfl
 split
 ·rfl
 split
 ·rfl
 split
 ·rfl
 split
 ·rfl
 rfl
theorem Vq (K:Nat) (A W w:World) (sv tv:Value) (x0 x1:Option Addr) (y0 z0 y1 z1:Nat) (zs:List Int) (n tk tn:Int) (h:Pr K A W w sv tv zs) (hE:Env W) (hn:InR n) (hb:zs.length+(32::iI n).length<=1000000) :
  Calls Tryz.prog 139 #[.pointer (some ⟨K,0,none⟩),.agg #[.int .i64 0,.int .i64 n,.int .i64 tk,.int .i64 tn,.slice x0 y0 z0,.slice x1 y1 z1]] w (PrP K A W sv (atL zs (32::iI n))):=by
 obtain⟨w1,hw1,hA,HC,hsz,hA1,T,hT,HF⟩:=pr0 h [.int .i64 0,.int .i64 n,.int .i64 tk,.int .i64 tn,.slice x0 y0 z0,.slice x1 y1 z1] 148 (by decide) (atL zs (32::iI n));have hK:=lt_of_some h.row;rw[<-hT.out];clear hA;go_enter Tryz.func139,Tryz.ntmps139;go_wp2_with fail
 rw[<-hw1.out];refine (hE.ito n w1 hn hA1.lat).mono ?_;rintro e w2 ⟨s,rfl,hs,hw⟩;have hs1:aV (bytesOf s)=true:=by rw[hs];exact Fq n
 have hp2:=hA1.later hw;go_wp2_with fail
 refine (jw K w1 W w2 sv tv zs s (32::iI n) (by rw[hs];simp[spread]) hp2 hs1 hb _ rfl).mono ?_;rintro e wE ⟨rfl,tE,hpE⟩;rw[<-hT.out]at hpE;go_wp2_with fail
 refine bodyPost_end (results_none rfl _ _ _) rfl ?_;exact HF.out _ _ hpE
theorem Vp (K:Nat) (A W w:World) (sv tv:Value) (x0 x1:Option Addr) (y0 z0 y1 z1:Nat) (zs:List Int) (n tk tn:Int) (h:Pr K A W w sv tv zs) (hE:Env W) (hn:InR n) (hb:zs.length+(32::hexL n).length<=1000000) :
  Calls Tryz.prog 139 #[.pointer (some ⟨K,0,none⟩),.agg #[.int .i64 1,.int .i64 n,.int .i64 tk,.int .i64 tn,.slice x0 y0 z0,.slice x1 y1 z1]] w (PrP K A W sv (atL zs (32::hexL n))):=by
 obtain⟨w1,hw1,hA,HC,hsz,hA1,T,hT,HF⟩:=pr0 h [.int .i64 1,.int .i64 n,.int .i64 tk,.int .i64 tn,.slice x0 y0 z0,.slice x1 y1 z1] 148 (by decide) (atL zs (32::hexL n));have hK:=lt_of_some h.row;rw[<-hT.out];clear hA;go_enter Tryz.func139,Tryz.ntmps139;go_wp2_with fail
 rw[<-hw1.out];refine (hE.flo n w1 hn hA1.lat).mono ?_;rintro e w2 ⟨s,rfl,hs,hw⟩;have hs1:aV (bytesOf s)=true:=by rw[hs];exact Fp n
 have hp2:=hA1.later hw;go_wp2_with fail
 refine (jw K w1 W w2 sv tv zs s (32::hexL n) (by rw[hs];simp[spread]) hp2 hs1 hb _ rfl).mono ?_;rintro e wE ⟨rfl,tE,hpE⟩;rw[<-hT.out]at hpE;go_wp2_with fail
 refine bodyPost_end (results_none rfl _ _ _) rfl ?_;exact HF.out _ _ hpE
theorem Vh (K:Nat) (A W w:World) (sv tv:Value) (v0 v1:Value) (zs:List Int) (n tk tn:Int) (h:Pr K A W w sv tv zs) (m:Nat) (t0 nm:List Int) (hk0:BP W sv v1 m 0 t0) (hg0:Good t0) (hv0:RdN W v0 nm) (hm:aV nm=true) (hn1:1<=nm.length) (hb:zs.length+(t0++([32,46,32]++nm)).length<=1000000) :
  Calls Tryz.prog 139 #[.pointer (some ⟨K,0,none⟩),.agg #[.int .i64 7,.int .i64 n,.int .i64 tk,.int .i64 tn,v0,v1]] w (PrP K A W sv (atL zs (t0++([32,46,32]++nm)))):=by
 obtain⟨s,g0,off0,q,rfl,_,hs,hcv⟩:=jc hv0 hn1;have hs1:aV (bytesOf s)=true:=by rw[hs];exact hm
 obtain⟨hm0,g,off,cap1,k0,n0,tk0,tn0,x0,x1,y0,z0,y1,z1,rfl,hgW,hcl,hcall⟩:=hk0;obtain⟨c0,c1,c2,c3,c4,c5⟩:=hcl w h.lat;rw[Nat.zero_mul,Nat.add_zero]at c0 c1 c2 c3 c4 c5;have hgw:g<w.heap.size:=Nat.lt_of_lt_of_le hgW h.lat.size;have hm0':(0:Int)<(m:Int):=by omega
 obtain⟨w1,hw1,hA,HC,hsz,hA1,T,hT,HF⟩:=pr0 h [.int .i64 7,.int .i64 n,.int .i64 tk,.int .i64 tn,.slice (some ⟨g0,off0,none⟩) nm.length q,.slice (some ⟨g,off,none⟩) m cap1] 148 (by decide) (atL zs (t0++([32,46,32]++nm)));have hK:=lt_of_some h.row;rw[<-hT.out];have hl1:=bJ zs t0;rw[List.length_append]at hb;have hat:atL (atL zs t0) ([32,46,32]++nm)=T:=by rw[hT.out];exact cZ zs hg0 _
 have HK:=hcall K w1 w1 tv zs hA1 (by omega);clear hcl hcall;clear hA;go_enter Tryz.func139,Tryz.ntmps139;go_wp2_with fail
 rw[<-hw1.out];refine HK.mono ?_;rintro e w2 ⟨rfl,t2,hp2⟩;have q4:=HC.out 4 _ rfl _ hp2.kp;have cv:=hcv w2 hp2.lat;go_wp2_with fail
 refine (Oi K w1 W w2 sv t2 _ ⟨#[46]⟩ s ([32,46,32]++nm) (by rw[hs];simp[spread,bytesOf]) hp2 (by decide) hs1 (by omega) _ rfl).mono ?_;rintro e wE ⟨rfl,tE,hpE⟩;rw[hat]at hpE;go_wp2_with fail
 refine bodyPost_end (results_none rfl _ _ _) rfl ?_;exact HF.out _ _ hpE
theorem MG {W:World}{sv:Value}{g off cap:Nat}{t1:List Int}(h:BP W sv (.slice (some ⟨g,off,none⟩) 2 cap) 2 1 t1) (hg:Good t1) (c:Nat):jX W sv (.slice (some ⟨g,off+6,none⟩) 1 c) [t1]:=by
 obtain⟨_,g',off',cap',k,n,tk,tn,x0,x1,y0,z0,y1,z1,e,hgs,hcl,hcall⟩:=h
 cases e
 refine⟨_,c,rfl,by simpa using hg,fun j hj=>?_⟩;obtain rfl:j=0:=by simpa using hj
 refine⟨by simp,g,off+6,c,k,n,tk,tn,x0,x1,y0,z0,y1,z1,rfl,hgs,fun w' hw=>?_,hcall⟩;have:=hcl w' hw;simpa using this
theorem Vg (K:Nat) (A W w:World) (sv tv:Value) (v1:Value) (x0:Option Addr) (y0 z0:Nat) (zs:List Int) (n tk tn:Int) (h:Pr K A W w sv tv zs) (t0 t1:List Int) (hk0:BP W sv v1 2 0 t0) (hk1:BP W sv v1 2 1 t1) (hg0:Good t0) (hg1:Good t1) (hv1:∃ a c,v1=.slice a 2 c/\2<=c) (hb:zs.length+(t0++((32::[91])++joinL [t1]++(32::[93]))).length<=1000000) :
  Calls Tryz.prog 139 #[.pointer (some ⟨K,0,none⟩),.agg #[.int .i64 8,.int .i64 n,.int .i64 tk,.int .i64 tn,.slice x0 y0 z0,v1]] w (PrP K A W sv (atL zs (t0++((32::[91])++joinL [t1]++(32::[93]))))):=by
 obtain⟨hm0,g,off,cap1,k0,n0,tk0,tn0,xx0,xx1,yy0,zz0,yy1,zz1,rfl,hgW,hcl,hcall⟩:=hk0;obtain⟨c0,c1,c2,c3,c4,c5⟩:=hcl w h.lat;rw[Nat.zero_mul,Nat.add_zero]at c0 c1 c2 c3 c4 c5;have hgw:g<w.heap.size:=Nat.lt_of_lt_of_le hgW h.lat.size;have hm0':True:=trivial;have hc2:2<=cap1:=by obtain⟨a,c,e,hc⟩:=hv1;cases e;exact hc
 obtain⟨w1,hw1,hA,HC,hsz,hA1,T,hT,HF⟩:=pr0 h [.int .i64 8,.int .i64 n,.int .i64 tk,.int .i64 tn,.slice x0 y0 z0,.slice (some ⟨g,off,none⟩) 2 cap1] 148 (by decide) (atL zs (t0++((32::[91])++joinL [t1]++(32::[93]))));have hK:=lt_of_some h.row;rw[<-hT.out];have hl1:=bJ zs t0;rw[List.length_append]at hb;have hat:atL (atL zs t0) ((32::[91])++joinL [t1]++(32::[93]))=T:=by rw[hT.out];exact cZ zs hg0 _
 have HK:=hcall K w1 w1 tv zs hA1 (by omega);clear hcl hcall;clear hA;go_enter Tryz.func139,Tryz.ntmps139;go_wp2_with fail
 rw[<-hw1.out];refine HK.mono ?_;rintro e w2 ⟨rfl,t2,hp2⟩;have q5:=HC.out 5 _ rfl _ hp2.kp;go_wp2_with fail
 refine (fV K w1 W w2 sv t2 _ _ [91] [93] ⟨#[91]⟩ ⟨#[93]⟩ [t1] hp2 (MG hk1 hg1 _) rfl rfl rfl rfl (by simp) (by omega)).mono ?_;rintro e wE ⟨rfl,tE,hpE⟩;rw[hat]at hpE;go_wp2_with fail
 refine bodyPost_end (results_none rfl _ _ _) rfl ?_;exact HF.out _ _ hpE
theorem Tn (K:Nat) (A W w:World) (sv tv:Value) (x0 x1:Option Addr) (y0 z0 y1 z1:Nat) (zs:List Int) (n tk tn:Int) (h:Pr K A W w sv tv zs) (hE:Env W) (h0:0<=n) (h7:n<7) (ts:List (List Int)) (hks:jX W sv (.slice x1 y1 z1) ts) (hts:ts.length<=1000) (hne:ts≠[]) (hb:zs.length+([32,40]++(bI (opL n) ts++[32,41])).length<=1000000) :
  Calls Tryz.prog 139 #[.pointer (some ⟨K,0,none⟩),.agg #[.int .i64 10,.int .i64 n,.int .i64 tk,.int .i64 tn,.slice x0 y0 z0,.slice x1 y1 z1]] w (PrP K A W sv (atL zs ([32,40]++(bI (opL n) ts++[32,41])))):=by
 obtain⟨N,rfl⟩:∃ N:Nat,n=N:=⟨n.toNat,by omega⟩
 obtain⟨s,hs0,hs⟩:=hE.ops N (by omega);have hbig:=hE.big
 have hG:Good (bI (opL (N:Int)) ts):=by
  obtain⟨_,_,_,hg,_⟩:=hks;have:=lm (opL (N:Int)) (JO _) ts hg ts.length (by cases ts with|nil=>exact absurd rfl hne|cons a r=>simp) (Nat.le_refl _)
  rwa [List.take_length]at this
 obtain⟨w1,hw1,hA,HC,hsz,hA1,T,hT,HF⟩:=pr0 h [.int .i64 10,.int .i64 (N:Int),.int .i64 tk,.int .i64 tn,.slice x0 y0 z0,.slice x1 y1 z1] 148 (by decide) (atL zs ([32,40]++(bI (opL (N:Int)) ts++[32,41])));have hK:=lt_of_some h.row;rw[<-hT.out];have hl1:=bJ zs [32,40];have hl2:=bJ zs ([32,40]++bI (opL (N:Int)) ts);rw[List.length_append,List.length_append]at hb;rw[List.length_append]at hl2;have hb0:([32,40]:List Int).length=2:=rfl;have hb1:([32,41]:List Int).length=2:=rfl;have hat1:atL (atL zs [32,40]) (bI (opL (N:Int)) ts)=atL zs ([32,40]++bI (opL (N:Int)) ts):=cZ zs ⟨by decide,by decide⟩ _;have hat:atL (atL zs ([32,40]++bI (opL (N:Int)) ts)) [32,41]=T:=by rw[hT.out,<- List.append_assoc];exact cZ zs (Good.app ⟨by decide,by decide⟩ hG) _
 have hN:N<7:=by omega
 have hN':(N:Int)<7:=by omega
 clear hA;go_enter Tryz.func139,Tryz.ntmps139;go_wp2_with fail
 rw[<-hw1.out];refine (jw K w1 W w1 sv tv zs ⟨#[40]⟩ [32,40] rfl hA1 (by decide) (by omega) _ hsz.out).mono ?_;rintro e w2 ⟨rfl,t2,hp2⟩;have q1:=HC.out 1 _ rfl _ hp2.kp;have q5:=HC.out 5 _ rfl _ hp2.kp;have qs:=hp2.at hbig hs0
 have HS:Hid (∀ w',KP K w1 w'->Later W w'->(fun w'=>w'.cell? ⟨w.heap.size,5,none⟩=some (.slice x1 y1 z1)/\w'.cell? ⟨w.heap.size,1,none⟩=some (.int .i64 (N:Int))/\w'.cell? ⟨5,N,none⟩=some (.string s)) w'):=fun w' k la=>⟨HC.out 5 _ rfl _ k,HC.out 1 _ rfl _ k,by rw[la.cell (p:=⟨5,N,none⟩) hbig];exact hs0⟩
 have hpd:=hp2.later (Later.drew w2);go_wp2_with fail
 go_region_held3 (fun w'=>w'.cell? ⟨w.heap.size,5,none⟩=some (.slice x1 y1 z1)/\w'.cell? ⟨w.heap.size,1,none⟩=some (.int .i64 (N:Int))/\w'.cell? ⟨5,N,none⟩=some (.string s)) (first|exact HS.out _ hpd.kp hpd.lat|exact HS.out _ hp3.kp hp3.lat) ((go_at_call 138;refine (Bl K w1 W _ sv t2 _ _ (opL (N:Int)) s ts hpd hks hs (JO _) hts (by omega)).mono ?_;rintro e w3 ⟨rfl,t3,hp3⟩))
 rw[hat1]at hp3;go_wp2_with fail
 refine (jw K w1 W w3 sv t3 _ ⟨#[41]⟩ [32,41] rfl hp3 (by decide) (by omega) _ rfl).mono ?_;rintro e wE ⟨rfl,tE,hpE⟩;rw[hat]at hpE;go_wp2_with fail
 refine bodyPost_end (results_none rfl _ _ _) rfl ?_;exact HF.out _ _ hpE
structure QE (l:List Sc) (k n tk tn:Int) (name:List Int) (m:Nat):Prop where
 tok:k=3\/k=6\/k=7->aV name=true
 two:k=8\/k=10->m=2
 ty:k=5->jv l tk tn
inductive Ex.jh (l:List Sc):Ex->Prop
 | mk {k n tk tn:Int}{name:List Int}{kids:List Ex}(h:Jv l k n tk tn name kids.length) (ht:QE l k n tk tn name kids.length) (hs:∀ x∈kids,Ex.jh l x):Ex.jh l (.mk k n tk tn name kids)
theorem Ex.jh.fine {l:List Sc}:∀ {x:Ex},Ex.jh l x->Ex.Fine l x:=by
 intro x h
 induction h with
 | mk h ht hs ih=>exact .mk h ih
theorem zS {l:List Sc}(hnm:dm l) {x:Ex}(h:Ex.jh l x):Good (Ex.say l x):=by
 refine⟨Rl h.fine,?_⟩
 cases h with
 | @mk k n tk tn name kids h ht hs =>
 rw[Ex.say];obtain rfl|rfl|rfl|rfl|rfl|rfl|rfl|rfl|rfl|rfl|rfl|rfl|rfl|rfl:=fourteen h.k0 h.k13
 ·exact aT [32] (Fq n)
 ·exact aT [32] (Fp n)
 ·exact aT [32,110,105,108,32] (hnm.at (h.st (.inl rfl)).1 (h.st (.inl rfl)).2).2
 ·exact aT [32] (ht.tok (.inl rfl))
 ·exact aT [32,110,101,119,32] (hnm.at (h.st (.inr rfl)).1 (h.st (.inr rfl)).2).2
 ·exact aT (nV l 5 tk tn name++[32,40]++joinL (Ex.says l kids)) (t:=[32,41]) rfl
 ·exact aT (nV l 6 tk tn name++[32,40]++joinL (Ex.says l kids)) (t:=[32,41]) rfl
 ·exact aT (dU (Ex.says l kids) 0++[32,46,32]) (ht.tok (.inr (.inr rfl)))
 ·exact aT (dU (Ex.says l kids) 0++[32,91]++dU (Ex.says l kids) 1) (t:=[32,93]) rfl
 ·exact aT (nV l 9 tk tn name++[32,40]++joinL (Ex.says l kids)) (t:=[32,41]) rfl
 ·exact aT ([32,40]++dU (Ex.says l kids) 0++(32::opL n)++dU (Ex.says l kids) 1) (t:=[32,41]) rfl
 ·rfl
 ·exact aT (nV l 12 tk tn name++[32,40]++joinL (Ex.says l kids)) (t:=[32,41]) rfl
 ·exact aT (nV l 13 tk tn name++[32,40]++joinL (Ex.says l kids)) (t:=[32,41]) rfl
def DD (W:World) (sv:Value) (l:List Sc) (x:Ex):Prop:=∀ K A w tv v0 v1 zs,RdN W v0 x.name->RdL W 6 v1 (Ex.ah x.kids)->Pr K A W w sv tv zs->zs.length+(Ex.say l x).length<=1000000 ->
  Calls Tryz.prog 139 #[.pointer (some ⟨K,0,none⟩),.agg #[.int .i64 x.kind,.int .i64 x.n,.int .i64 x.tk,.int .i64 x.tn,v0,v1]] w (PrP K A W sv (atL zs (Ex.say l x)))
theorem Ec {W:World}{l:List Sc}{sv:Value}{a:Option Addr}{n cap:Nat}{kids:List Ex}(h1:RdL W 6 (.slice a n cap) (Ex.ah kids)) (j:Nat) (hj:j<kids.length) (hn:n=kids.length) (ih:DD W sv l kids[j]) :
  BP W sv (.slice a n cap) kids.length j (Ex.say l kids[j]):=by
 obtain⟨g,off,u0,u1,rfl,hgs,c0,c1,c2,c3,c4,c5,r0,r1⟩:=Ex.elem h1 j hj;obtain⟨b0,p0,rfl,_⟩:=r0.slice;obtain⟨b1,p1,rfl,_⟩:=Ex.slice r1;refine⟨hj,g,off,cap,_,_,_,_,b0,b1,_,p0,_,p1,by rw[hn],hgs,fun w' hw=>?_,fun K A w tv zs hB hl=>ih K A w tv _ _ zs r0 r1 hB hl⟩;exact⟨by rw[hw.cell (p:=⟨g,off+j*6,none⟩) hgs];exact c0,by rw[hw.cell (p:=⟨g,off+j*6+1,none⟩) hgs];exact c1,by rw[hw.cell (p:=⟨g,off+j*6+2,none⟩) hgs];exact c2,by rw[hw.cell (p:=⟨g,off+j*6+3,none⟩) hgs];exact c3,by rw[hw.cell (p:=⟨g,off+j*6+4,none⟩) hgs];exact c4,by rw[hw.cell (p:=⟨g,off+j*6+5,none⟩) hgs];exact c5⟩
theorem FM {W:World}{l:List Sc}{sv:Value}{a:Option Addr}{cap:Nat}{kids:List Ex}(hnm:dm l) (h1:RdL W 6 (.slice a kids.length cap) (Ex.ah kids)) (hf:∀ x∈kids,Ex.jh l x) (ih:∀ (j:Nat) (hj:j<kids.length),DD W sv l kids[j]) :
  jX W sv (.slice a kids.length cap) (Ex.says l kids):=⟨a,cap,by rw[Ex.kQ],fun t ht=>by
  obtain⟨j,hj,rfl⟩:=List.mem_iff_getElem.1 ht;have hj':j<kids.length:=by rw[<-Ex.kQ l];exact hj
  rw[EQ l kids j hj hj']
  exact zS hnm (hf _ (List.getElem_mem hj')),fun j hj=>by
  have hj':j<kids.length:=by rw[<-Ex.kQ l];exact hj
  rw[EQ l kids j hj hj',Ex.kQ]
  exact Ec h1 j hj' rfl (ih j hj')⟩
theorem Qk {W:World}{l:List Sc}{sv:Value}(hE:Env W) (hl:RdL W 2 sv (Sc.ah l)) (hnm:dm l) (N:Nat):∀ (x:Ex),x.sz<N->Ex.jh l x->DD W sv l x:=by
 induction N with
 | zero =>
  intro x hx;exact absurd hx (Nat.not_lt_zero _)
 | succ N ih =>
  intro x hx hf K A w tv v0 v1 zs h0 h1 hB hb
  cases hf with
  | @mk k n tk tn name kids h ht hs =>
  replace h0:RdN W v0 name:=h0
  replace h1:RdL W 6 v1 (Ex.ah kids):=h1
  show Calls Tryz.prog 139 #[.pointer (some ⟨K,0,none⟩),.agg #[.int .i64 k,.int .i64 n,.int .i64 tk,.int .i64 tn,v0,v1]] w (PrP K A W sv (atL zs (Ex.say l (.mk k n tk tn name kids))));obtain⟨a1,cap1,rfl,hsl⟩:=Ex.slice h1
  have hcap:kids.length<=cap1:=by
   obtain⟨a',cap',e,hc,_⟩:=h1;have:=hc.1;rw[Ex.az]at this
   injection e with e1 e2 e3
   omega
  have hsz:∀ (j:Nat) (hj:j<kids.length),kids[j].sz<N:=fun j hj=>by
   have:=Ex.dW kids j hj;rw[Ex.sz]at hx;omega
  have ihk:∀ (j:Nat) (hj:j<kids.length),DD W sv l kids[j]:=fun j hj=>ih kids[j] (hsz j hj) (hs _ (List.getElem_mem hj));have hK:∀ (j:Nat) (hj:j<kids.length),BP W sv (.slice a1 kids.length cap1) kids.length j (Ex.say l kids[j]):=fun j hj=>Ec h1 j hj rfl (ihk j hj);have hKg:∀ (j:Nat) (hj:j<kids.length),Good (Ex.say l kids[j]):=fun j hj=>zS hnm (hs _ (List.getElem_mem hj));have hKs:jX W sv (.slice a1 kids.length cap1) (Ex.says l kids):=FM hnm h1 hs ihk;have hm:(Ex.says l kids).length<=1000:=by rw[Ex.kQ];exact h.many
  have hml:(Ex.says l kids).length=kids.length:=Ex.kQ l kids;have hk0:∀ (hj:0<kids.length),dU (Ex.says l kids) 0=Ex.say l kids[0]:=fun hj=>Ex.vY l kids 0 hj;have hk1:∀ (hj:1<kids.length),dU (Ex.says l kids) 1=Ex.say l kids[1]:=fun hj=>Ex.vY l kids 1 hj;rw[Ex.say]at hb ⊢
  generalize Ex.says l kids=ts at *
  obtain⟨b0,p0,rfl,_⟩:=h0.slice;obtain rfl|rfl|rfl|rfl|rfl|rfl|rfl|rfl|rfl|rfl|rfl|rfl|rfl|rfl:=fourteen h.k0 h.k13
  ·exact Vq K A W w sv tv b0 a1 _ p0 _ cap1 zs n tk tn hB hE h.n64 hb
  ·exact Vp K A W w sv tv b0 a1 _ p0 _ cap1 zs n tk tn hB hE h.n64 hb
  ·exact Vo K A W w sv tv b0 a1 _ p0 _ cap1 zs n tk tn hB l hl (h.st (.inl rfl)).1 (h.st (.inl rfl)).2 (hnm.at (h.st (.inl rfl)).1 (h.st (.inl rfl)).2) hb
  ·exact Vm K A W w sv tv _ a1 _ cap1 zs n tk tn hB name h0 (ht.tok (.inl rfl)) (h.nm (.inl rfl)) hb
  ·exact Vl K A W w sv tv b0 a1 _ p0 _ cap1 zs n tk tn hB l hl (h.st (.inr rfl)).1 (h.st (.inr rfl)).2 (hnm.at (h.st (.inr rfl)).1 (h.st (.inr rfl)).2) hb
  ·have e:exL l 5 n tk tn name ts=([32,109,97,107,101]++aN l tk tn)++((32::[40])++joinL ts++(32::[41])):=by
    show [32,109,97,107,101]++aN l tk tn++[32,40]++joinL ts++[32,41]=_;simp only[List.append_assoc]
   rw[e]at hb ⊢;exact Vk K A W w sv tv b0 a1 _ p0 _ cap1 zs n tk tn hB l hl hnm (ht.ty rfl) ts hKs hm hb
  ·have e:exL l 6 n tk tn name ts=(32::name)++((32::[40])++joinL ts++(32::[41])):=by
    show (32::name)++[32,40]++joinL ts++[32,41]=_;simp only[List.append_assoc]
   rw[e]at hb ⊢;exact Vj K A W w sv tv _ a1 _ cap1 zs n tk tn hB name h0 (ht.tok (.inr (.inl rfl))) (h.nm (.inr (.inl rfl))) ts hKs hm hb
  ·have hj:0<kids.length:=h.one (.inl rfl);have e:exL l 7 n tk tn name ts=Ex.say l kids[0]++([32,46,32]++name):=by rw[<-hk0 hj,<- List.append_assoc];rfl
   rw[e]at hb ⊢;exact Vh K A W w sv tv _ _ zs n tk tn hB _ _ name (hK 0 hj) (hKg 0 hj) h0 (ht.tok (.inr (.inr rfl))) (h.nm (.inr (.inr rfl))) hb
  ·have hj:1<kids.length:=h.two (.inl rfl);have h2:kids.length=2:=ht.two (.inl rfl)
   have e:exL l 8 n tk tn name ts=Ex.say l kids[0]++(((32::[91]:List Int))++joinL [Ex.say l kids[1]]++(32::[93])):=by
    rw[<-hk0 (by omega),<- hk1 hj];show dU ts 0++[32,91]++dU ts 1++[32,93]=_;simp[joinL,kM]
   rw[e]at hb ⊢;have k0:=hK 0 (by omega);have k1:=hK 1 hj;have g0:=hKg 0 (by omega);have g1:=hKg 1 hj
   generalize Ex.say l kids[0]=t0 at k0 g0 hb ⊢
   generalize Ex.say l kids[1]=t1 at k1 g1 hb ⊢
   rw[h2]at k0 k1 ⊢;exact Vg K A W w sv tv _ b0 _ p0 zs n tk tn hB _ _ k0 k1 g0 g1 ⟨a1,cap1,rfl,by omega⟩ hb
  ·have e:exL l 9 n tk tn name ts=[32,108,101,110]++((32::[40])++joinL ts++(32::[41])):=by
    show [32,108,101,110]++[32,40]++joinL ts++[32,41]=_;simp only[List.append_assoc]
   rw[e]at hb ⊢;exact Vf K A W w sv tv b0 a1 _ p0 _ cap1 zs n tk tn hB ts hKs hm hb
  ·have hj:1<kids.length:=h.two (.inr rfl);have h2:kids.length=2:=ht.two (.inr rfl)
   have hts:ts=[dU ts 0,dU ts 1]:=by
    match ts,hml with
    | [],hml=>simp at hml;omega
    | [a],hml=>simp at hml;omega
    | [a,b],_=>rfl
    | a::b::c::r,hml=>simp at hml;omega
   have e:exL l 10 n tk tn name ts=[32,40]++(bI (opL n) ts++[32,41]):=by
    show [32,40]++dU ts 0++(32::opL n)++dU ts 1++[32,41]=_
    conv=>rhs;rw[hts]
    simp[bI,mY]
   rw[e]at hb ⊢;exact Tn K A W w sv tv b0 a1 _ p0 _ cap1 zs n tk tn hB hE (h.op rfl).1 (h.op rfl).2 ts hKs hm (by rw[hts];simp) hb
  ·exact Tm K A W w sv tv b0 a1 _ p0 _ cap1 zs n tk tn hB hb
  ·have e:exL l 12 n tk tn name ts=[32,105,110,116]++((32::[40])++joinL ts++(32::[41])):=by
    show [32,105,110,116]++[32,40]++joinL ts++[32,41]=_;simp only[List.append_assoc]
   rw[e]at hb ⊢;exact Tj K A W w sv tv b0 a1 _ p0 _ cap1 zs n tk tn hB ts hKs hm hb
  ·have e:exL l 13 n tk tn name ts=[32,102,108,111,97,116]++((32::[40])++joinL ts++(32::[41])):=by
    show [32,102,108,111,97,116]++[32,40]++joinL ts++[32,41]=_;simp only[List.append_assoc]
   rw[e]at hb ⊢;exact Ti K A W w sv tv b0 a1 _ p0 _ cap1 zs n tk tn hB ts hKs hm hb
theorem Qj {W:World}{l:List Sc}{sv:Value}(hE:Env W) (hl:RdL W 2 sv (Sc.ah l)) (hnm:dm l) (x:Ex) (hf:Ex.jh l x):DD W sv l x:=Qk hE hl hnm _ x (Nat.lt_succ_self _) hf
def StP (W:World) (sv v1:Value) (m j:Nat) (t:List Int):Prop:=j<m/\∃ (g off cap:Nat) (k n tk tn:Int) (x0 x1 x2 x3:Option Addr) (y0 z0 y1 z1 y2 z2 y3 z3:Nat),v1=.slice (some ⟨g,off,none⟩) m cap/\g<W.heap.size /\
 (∀ w',Later W w'->w'.cell? ⟨g,off+j*8,none⟩=some (.int .i64 k)/\w'.cell? ⟨g,off+j*8+1,none⟩=some (.int .i64 n)/\w'.cell? ⟨g,off+j*8+2,none⟩=some (.int .i64 tk)/\w'.cell? ⟨g,off+j*8+3,none⟩=some (.int .i64 tn)/\w'.cell? ⟨g,off+j*8+4,none⟩=some (.slice x0 y0 z0)/\w'.cell? ⟨g,off+j*8+5,none⟩=some (.slice x1 y1 z1)/\w'.cell? ⟨g,off+j*8+6,none⟩=some (.slice x2 y2 z2)/\w'.cell? ⟨g,off+j*8+7,none⟩=some (.slice x3 y3 z3)) /\
 ∃ X,X++[10]=t/\(∀ K A w tv zs,Pr K A W w sv tv zs->aV zs=false->zs.length+t.length<=999999->Calls Tryz.prog 110 #[.pointer (some ⟨K,0,none⟩),.agg #[.int .i64 k,.int .i64 n,.int .i64 tk,.int .i64 tn,.slice x0 y0 z0,.slice x1 y1 z1,.slice x2 y2 z2,.slice x3 y3 z3]] w (PrP K A W sv (zs++X)))
def Jy (W:World) (sv v1:Value) (t:List Int):Prop:=∃ a n c,v1=.slice a n c/\∀ K A w tv zs,Pr K A W w sv tv zs->aV zs=true->zs.length+(bu t).length<=999999->Calls Tryz.prog 82 #[.pointer (some ⟨K,0,none⟩),v1] w (PrP K A W sv (zs++bu t))
theorem Qw (W:World) (sv:Value) (a1:Option Addr) (cap1:Nat) (Ts:List (List Int)) (hTs:Ts.length<=1000000)
  (hst:∀ (j:Nat) (hj:j<Ts.length),StP W sv (.slice a1 Ts.length cap1) Ts.length j Ts[j]):Jy W sv (.slice a1 Ts.length cap1) Ts.flatten:=by
 refine⟨_,_,_,rfl,?_⟩;intro K A w tv zs h hmid hb;have hbl:(bu Ts.flatten).length=Ts.flatten.length+4:=by unfold bu;simp
 rw[hbl]at hb;have HKs:Hid _:=hst
 have HF:Hid (∀ w' t',Pr K w W w' sv t' (zs++[32,123,10]++Ts.flatten++[125])->PrP K A W sv (zs++bu Ts.flatten) (.returned (.tuple #[])) w'):=fun w' t' hp=>⟨rfl,t',by
  have:=hp.back h.kp;unfold bu
  simpa only[List.append_assoc] using this⟩
 have hp0:=h.from
 have he1:atL zs [32,123]++[10]=zs++[32,123,10]:=by rw[xk hmid,List.append_assoc];rfl
 have hl1:=bJ zs [32,123];have hlz:(zs++[32,123,10]).length=zs.length+3:=by simp
 have hlb:([32,123]:List Int).length=2:=rfl
 have hm3:aV (zs++[32,123,10]++(Ts.take 0).flatten)=false:=by
  rw[List.take_zero,List.flatten_nil,List.append_nil];unfold aV;rw[List.getLast?_append];rfl
 generalize hQ:PrP K A W sv (zs++bu Ts.flatten)=Q
 rw[hQ]at HF;clear hQ hst h hbl;go_enter Tryz.func82,Tryz.ntmps82;go_wp2_with fail
 refine (jw K w W w sv tv zs ⟨#[123]⟩ [32,123] rfl hp0 (by decide) (by omega) _ rfl).mono ?_;rintro e w2 ⟨rfl,t2,hp2⟩;go_wp2_with fail
 refine (je K w W w2 sv t2 _ hp2 (by omega)).mono ?_;rintro e w3 ⟨rfl,t3,hp3⟩;rw[he1]at hp3;go_wp2_with fail
 go_loopw [13] (fun i wr=>∃ (j:Nat) (tv':Value),i=.int .i64 (j:Int)/\j<=Ts.length/\aV (zs++[32,123,10]++(Ts.take j).flatten)=false/\Pr K w W wr sv tv' (zs++[32,123,10]++(Ts.take j).flatten)) (fun i _=>Ts.length - (intOf i).toNat)
 case atStart=>exact⟨0,t3,rfl,Nat.zero_le _,hm3,by rw[List.take_zero,List.flatten_nil,List.append_nil];exact hp3⟩
 case round =>
  obtain⟨j,tv',rfl,hj,hmj,hp⟩:=hrel;by_cases hlt:j<Ts.length
  ·obtain⟨_,g,off,cap',k,n',tk',tn',x0,x1,x2,x3,y0,z0,y1,z1,y2,z2,y3,z3,e1,hgs,hcl,X,hX,hcall⟩:=HKs.out j hlt
   cases e1
   obtain⟨d0,d1,d2,d3,d4,d5,d6,d7⟩:=hcl _ hp.lat;have hfs:=Nq Ts j hlt;have hfl:=Qh Ts (j+1);have hlj:(zs++[32,123,10]++(Ts.take j).flatten).length=zs.length+3+(Ts.take j).flatten.length:=by rw[List.length_append,hlz]
   have i1:(j:Int)<(Ts.length:Int):=by omega
   have hXl:X.length+1=Ts[j].length:=by rw[<-hX];simp
   have he:zs++[32,123,10]++(Ts.take j).flatten++X++[10]=zs++[32,123,10]++(Ts.take (j+1)).flatten:=by rw[hfs,<- hX];simp only[List.append_assoc]
   have hmn:aV (zs++[32,123,10]++(Ts.take (j+1)).flatten)=false:=by rw[<-he];exact nJ _
   rw[hfs,List.length_append]at hfl;have hlx:(zs++[32,123,10]++(Ts.take j).flatten++X).length=zs.length+3+(Ts.take j).flatten.length+X.length:=by rw[List.length_append,hlj]
   have hpb:=hp.alloc (.cells #[.int .i64 k,.int .i64 n',.int .i64 tk',.int .i64 tn',.slice x0 y0 z0,.slice x1 y1 z1,.slice x2 y2 z2,.slice x3 y3 z3] 110);clear hcl hfs hX;go_wp2_with fail
   refine (hcall K w _ tv' _ hpb hmj (by omega)).mono ?_;rintro e w4 ⟨rfl,t4,hp4⟩;go_wp2_with fail
   refine (je K w W w4 sv t4 _ hp4 (by omega)).mono ?_;rintro e w5 ⟨rfl,t5,hp5⟩;rw[he]at hp5;go_wp2_with fail
   go_roundw
   case rel=>exact⟨j+1,_,by go_num,by omega,hmn,hp5⟩
   case measure=>simp[intOf];omega
  ·have hje:j=Ts.length:=by omega
   have i1:¬ (j:Int)<(Ts.length:Int):=by omega
   rw[hje,List.take_length]at hp hmj;have hlj:(zs++[32,123,10]++Ts.flatten).length=zs.length+3+Ts.flatten.length:=by rw[List.length_append,hlz]
   have he:atL (zs++[32,123,10]++Ts.flatten) [32,125]=zs++[32,123,10]++Ts.flatten++[125]:=by rw[pq hmj];rfl
   have hlc:([32,125]:List Int).length=2:=rfl;go_wp2_with fail
   refine (jw K w W wr sv tv' _ ⟨#[125]⟩ [32,125] rfl hp (by decide) (by omega) _ rfl).mono ?_;rintro e w4 ⟨rfl,t4,hp4⟩;rw[he]at hp4;go_wp2_with fail
   refine bodyPost_end (results_none rfl _ _ _) rfl ?_;exact HF.out _ _ hp4
end Go.Proofs.YtgaddpkkjebekaaGreatDoor
