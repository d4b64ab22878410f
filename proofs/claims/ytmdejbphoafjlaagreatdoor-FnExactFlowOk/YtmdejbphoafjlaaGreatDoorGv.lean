/- My texts T54, T55, T56, T57, T58 in one. -/
import Derived.Test.YtmdejbphoafjlaaGreatDoorGu
import Derived.Test.YtmdejbphoafjlaaGreatDoorGs
set_option maxHeartbeats 100000000
set_option maxRecDepth 100000
namespace Go.Proofs.YtmdejbphoafjlaaGreatDoor
open Go.RowKit Go.Lib
def StP (W:World) (sv v1:Value) (m j:Nat) (t:List Int):Prop:=j<m∧∃ (g off cap:Nat) (k n tk tn:Int) (x0 x1 x2 x3:Option Addr) (y0 z0 y1 z1 y2 z2 y3 z3:Nat),v1=.slice (some ⟨g,off,none⟩) m cap∧g<W.heap.size ∧
 (∀ w',Later W w'→w'.cell? ⟨g,off+j*8,none⟩=some (.int .i64 k)∧w'.cell? ⟨g,off+j*8+1,none⟩=some (.int .i64 n)∧w'.cell? ⟨g,off+j*8+2,none⟩=some (.int .i64 tk)∧w'.cell? ⟨g,off+j*8+3,none⟩=some (.int .i64 tn)∧w'.cell? ⟨g,off+j*8+4,none⟩=some (.slice x0 y0 z0)∧w'.cell? ⟨g,off+j*8+5,none⟩=some (.slice x1 y1 z1)∧w'.cell? ⟨g,off+j*8+6,none⟩=some (.slice x2 y2 z2)∧w'.cell? ⟨g,off+j*8+7,none⟩=some (.slice x3 y3 z3)) ∧
 ∃ X,X++[10]=t∧(∀ K A w tv zs,Pr K A W w sv tv zs→midB zs=false→zs.length+t.length≤999999→Calls Tryz.prog 168 #[.pointer (some ⟨K,0,none⟩),.agg #[.int .i64 k,.int .i64 n,.int .i64 tk,.int .i64 tn,.slice x0 y0 z0,.slice x1 y1 z1,.slice x2 y2 z2,.slice x3 y3 z3]] w (PrP K A W sv (zs++X)))
def BlkP (W:World) (sv v1:Value) (t:List Int):Prop:=∃ a n c,v1=.slice a n c∧∀ K A w tv zs,Pr K A W w sv tv zs→midB zs=true→zs.length+(blockL t).length≤999999→Calls Tryz.prog 143 #[.pointer (some ⟨K,0,none⟩),v1] w (PrP K A W sv (zs++blockL t))
theorem block_of (W:World) (sv:Value) (a1:Option Addr) (cap1:Nat) (Ts:List (List Int)) (hTs:Ts.length≤1000000)
  (hst:∀ (j:Nat) (hj:j<Ts.length),StP W sv (.slice a1 Ts.length cap1) Ts.length j Ts[j]):BlkP W sv (.slice a1 Ts.length cap1) Ts.flatten:=by
 refine⟨_,_,_,rfl,?_⟩
 intro K A w tv zs h hmid hb
 have hbl:(blockL Ts.flatten).length=Ts.flatten.length+4:=by unfold blockL;simp
 rw[hbl]at hb
 have HKs:Hid (∀ (j:Nat) (hj:j<Ts.length),StP W sv (.slice a1 Ts.length cap1) Ts.length j Ts[j]):=hst
 have HF:Hid (∀ w' t',Pr K w W w' sv t' (zs++[32,123,10]++Ts.flatten++[125])→PrP K A W sv (zs++blockL Ts.flatten) (.returned (.tuple #[])) w'):=fun w' t' hp=>⟨rfl,t',by
  have:=hp.back h.kp
  unfold blockL
  simpa only[List.append_assoc] using this⟩
 have hp0:=h.from
 have he1:atL zs [32,123]++[10]=zs++[32,123,10]:=by rw[atL_mid hmid,List.append_assoc];rfl
 have hl1:=atL_len zs [32,123]
 have hlz:(zs++[32,123,10]).length=zs.length+3:=by simp
 have hlb:([32,123]:List Int).length=2:=rfl
 have hm3:midB (zs++[32,123,10]++(Ts.take 0).flatten)=false:=by
  rw[List.take_zero,List.flatten_nil,List.append_nil]
  unfold midB
  rw[List.getLast?_append]
  rfl
 generalize hQ:PrP K A W sv (zs++blockL Ts.flatten)=Q
 rw[hQ]at HF
 clear hQ hst h hbl
 go_enter Tryz.func143,Tryz.ntmps143
 go_wp2_with fail
 refine (put1 K w W w sv tv zs ⟨#[123]⟩ [32,123] rfl hp0 (by decide) (by omega) _ rfl).mono ?_
 rintro e w2 ⟨rfl,t2,hp2⟩
 go_wp2_with fail
 refine (endLine_any K w W w2 sv t2 _ hp2 (by omega)).mono ?_
 rintro e w3 ⟨rfl,t3,hp3⟩
 rw[he1]at hp3
 go_wp2_with fail
 go_loopw [13] (fun i wr=>∃ (j:Nat) (tv':Value),i=.int .i64 (j:Int)∧j≤Ts.length∧midB (zs++[32,123,10]++(Ts.take j).flatten)=false∧Pr K w W wr sv tv' (zs++[32,123,10]++(Ts.take j).flatten)) (fun i _=>Ts.length - (intOf i).toNat)
 case atStart=>exact⟨0,t3,rfl,Nat.zero_le _,hm3,by rw[List.take_zero,List.flatten_nil,List.append_nil];exact hp3⟩
 case round =>
  obtain⟨j,tv',rfl,hj,hmj,hp⟩:=hrel
  by_cases hlt:j<Ts.length
  ·obtain⟨_,g,off,cap',k,n',tk',tn',x0,x1,x2,x3,y0,z0,y1,z1,y2,z2,y3,z3,e1,hgs,hcl,X,hX,hcall⟩:=HKs.out j hlt
   cases e1
   obtain⟨d0,d1,d2,d3,d4,d5,d6,d7⟩:=hcl _ hp.lat
   have hfs:=flat_step Ts j hlt
   have hfl:=flat_pre Ts (j+1)
   have hlj:(zs++[32,123,10]++(Ts.take j).flatten).length=zs.length+3+(Ts.take j).flatten.length:=by rw[List.length_append,hlz]
   have i1:(j:Int)<(Ts.length:Int):=by omega
   have hXl:X.length+1=Ts[j].length:=by rw[←hX];simp
   have he:zs++[32,123,10]++(Ts.take j).flatten++X++[10]=zs++[32,123,10]++(Ts.take (j+1)).flatten:=by rw[hfs,← hX];simp only[List.append_assoc]
   have hmn:midB (zs++[32,123,10]++(Ts.take (j+1)).flatten)=false:=by rw[←he];exact midB_line _
   rw[hfs,List.length_append]at hfl
   have hlx:(zs++[32,123,10]++(Ts.take j).flatten++X).length=zs.length+3+(Ts.take j).flatten.length+X.length:=by rw[List.length_append,hlj]
   have hpb:=hp.alloc (.cells #[.int .i64 k,.int .i64 n',.int .i64 tk',.int .i64 tn',.slice x0 y0 z0,.slice x1 y1 z1,.slice x2 y2 z2,.slice x3 y3 z3] 93)
   clear hcl hfs hX
   go_wp2_with fail
   refine (hcall K w _ tv' _ hpb hmj (by omega)).mono ?_
   rintro e w4 ⟨rfl,t4,hp4⟩
   go_wp2_with fail
   refine (endLine_any K w W w4 sv t4 _ hp4 (by omega)).mono ?_
   rintro e w5 ⟨rfl,t5,hp5⟩
   rw[he]at hp5
   go_wp2_with fail
   go_roundw
   case rel=>exact⟨j+1,_,by go_num,by omega,hmn,hp5⟩
   case measure=>simp[intOf];omega
  ·have hje:j=Ts.length:=by omega
   have i1:¬ (j:Int)<(Ts.length:Int):=by omega
   rw[hje,List.take_length]at hp hmj
   have hlj:(zs++[32,123,10]++Ts.flatten).length=zs.length+3+Ts.flatten.length:=by rw[List.length_append,hlz]
   have he:atL (zs++[32,123,10]++Ts.flatten) [32,125]=zs++[32,123,10]++Ts.flatten++[125]:=by rw[atL_new hmj];rfl
   have hlc:([32,125]:List Int).length=2:=rfl
   go_wp2_with fail
   refine (put1 K w W wr sv tv' _ ⟨#[125]⟩ [32,125] rfl hp (by decide) (by omega) _ rfl).mono ?_
   rintro e w4 ⟨rfl,t4,hp4⟩
   rw[he]at hp4
   go_wp2_with fail
   refine bodyPost_end (results_none rfl _ _ _) rfl ?_
   exact HF.out _ _ hp4
theorem Good.blk {X:List Int}(h:Good X) (t:List Int):Good (X++blockL t):=⟨by have:=h.two;rw[List.length_append];omega,midB_append X (midB_append ([32,123,10]++t) (t:=[125]) rfl)⟩
theorem stmt_0 (K:Nat) (A W w:World) (sv tv:Value) (v0:Value) (x1 x2 x3:Option Addr) (y1 z1 y2 z2 y3 z3:Nat) (zs:List Int) (n tk tn:Int) (h:Pr K A W w sv tv zs) (l:List Sc) (hl:RdL W 2 sv (Sc.dats l)) (hnm:NamesTok l) (ht:TyFine l tk tn) (nm:List Int) (hv0:RdN W v0 nm) (hm:midB nm=true) (hn1:1≤nm.length) (hb:zs.length+([32,118,97,114,32]++nm++sayTy l tk tn++[32,59]).length≤1000000) :
  Calls Tryz.prog 168 #[.pointer (some ⟨K,0,none⟩),.agg #[.int .i64 0,.int .i64 n,.int .i64 tk,.int .i64 tn,v0,.slice x1 y1 z1,.slice x2 y2 z2,.slice x3 y3 z3]] w (PrP K A W sv (atL zs ([32,118,97,114,32]++nm++sayTy l tk tn++[32,59]))):=by
 obtain⟨s,g0,off0,q,rfl,_,hs,hcv⟩:=nm_string hv0 hn1
 have hs1:midB (bytesOf s)=true:=by rw[hs];exact hm
 have hG1:Good ([32,118,97,114,32]++nm):=⟨by simp,midB_append _ hm⟩
 have hG2:Good ([32,118,97,114,32]++nm++sayTy l tk tn):=by
  rcases ty_good hnm ht with e|e
  ·rw[e,List.append_nil];exact hG1
  ·exact hG1.app e
 obtain⟨w1,hw1⟩:∃ w1,Hid (w1=w.alloc (.cells #[.int .i64 0,.int .i64 n,.int .i64 tk,.int .i64 tn,.slice (some ⟨g0,off0,none⟩) nm.length q,.slice x1 y1 z1,.slice x2 y2 z2,.slice x3 y3 z3] 93)):=⟨_,rfl⟩
 have hK:=lt_of_some h.row
 have hA:Pr K A W w1 sv tv zs:=by rw[hw1.out];exact h.alloc _
 have hbx:BxT w.heap.size w1 [.int .i64 0,.int .i64 n,.int .i64 tk,.int .i64 tn,.slice (some ⟨g0,off0,none⟩) nm.length q,.slice x1 y1 z1,.slice x2 y2 z2,.slice x3 y3 z3] 93:=by rw[hw1.out];exact BxT.new w _ _
 have HC:Hid (∀ i u,[Value.int .i64 0,.int .i64 n,.int .i64 tk,.int .i64 tn,.slice (some ⟨g0,off0,none⟩) nm.length q,.slice x1 y1 z1,.slice x2 y2 z2,.slice x3 y3 z3][i]?=some u→∀ w',KP K w1 w'→w'.cell? ⟨w.heap.size,i,none⟩=some u):=fun i u hu=>hbx.kp (by decide) (by omega) i u hu
 have hsz:Hid (w.heap.size+1=w1.heap.size):=by rw[hw1.out];show _=_;simp
 have hA1:=hA.from
 obtain⟨T,hT⟩:=hid_ex (atL zs ([32,118,97,114,32]++nm++sayTy l tk tn++[32,59]))
 have HF:Hid (∀ w' t',Pr K w1 W w' sv t' T→PrP K A W sv T (.returned (.tuple #[])) w'):=fun w' t' hp=>⟨rfl,t',hp.back hA.kp⟩
 rw[←hT.out]
 have cv:=hcv w1 hA.lat
 rw[hw1.out]at cv
 have hl1:=atL_len zs ([32,118,97,114,32]++nm)
 have hl2:=atL_len zs ([32,118,97,114,32]++nm++sayTy l tk tn)
 have hla:([32,118,97,114,32]:List Int).length=5:=rfl
 have hlc:([32,59]:List Int).length=2:=rfl
 rw[List.length_append]at hl1
 rw[List.length_append,List.length_append]at hl2
 rw[List.length_append,List.length_append,List.length_append]at hb
 have hat1:atL (atL zs ([32,118,97,114,32]++nm)) (sayTy l tk tn)=atL zs ([32,118,97,114,32]++nm++sayTy l tk tn):=atL_at zs hG1 _
 have hat:atL (atL zs ([32,118,97,114,32]++nm++sayTy l tk tn)) [32,59]=T:=by rw[hT.out];exact atL_at zs hG2 _
 clear hcv
 clear hbx hA
 go_enter Tryz.func168,Tryz.ntmps168
 go_wp2_with fail
 rw[←hw1.out]
 refine (put2 K w1 W w1 sv tv zs ⟨#[118,97,114]⟩ s ([32,118,97,114,32]++nm) (by rw[hs];simp[spread,bytesOf]) hA1 (by decide) hs1 (by rw[List.length_append];omega) _ hsz.out).mono ?_
 rintro e w2 ⟨rfl,t2,hp2⟩
 have q2:=HC.out 2 _ rfl _ hp2.kp
 have q3:=HC.out 3 _ rfl _ hp2.kp
 go_wp2_with fail
 refine (pty_any K w1 W w2 sv t2 _ l tk tn hp2 hl hnm ht (by omega)).mono ?_
 rintro e w3 ⟨rfl,t3,hp3⟩
 rw[hat1]at hp3
 go_wp2_with fail
 refine (put1 K w1 W w3 sv t3 _ ⟨#[59]⟩ [32,59] rfl hp3 (by decide) (by omega) _ rfl).mono ?_
 rintro e wE ⟨rfl,tE,hpE⟩
 rw[hat]at hpE
 go_wp2_with fail
 refine bodyPost_end (results_none rfl _ _ _) rfl ?_
 exact HF.out _ _ hpE
theorem stmt_1 (K:Nat) (A W w:World) (sv tv:Value)  (x0 x1 x2 x3:Option Addr) (y0 z0 y1 z1 y2 z2 y3 z3:Nat) (zs:List Int) (n tk tn:Int) (h:Pr K A W w sv tv zs) (ts:List (List Int)) (hks:KidsP W sv (.slice x1 y1 z1) ts) (hts:ts.length≤1000) (hne:ts≠[]) (hb:zs.length+(joinG [61] ts++[32,59]).length≤1000000) :
  Calls Tryz.prog 168 #[.pointer (some ⟨K,0,none⟩),.agg #[.int .i64 1,.int .i64 n,.int .i64 tk,.int .i64 tn,.slice x0 y0 z0,.slice x1 y1 z1,.slice x2 y2 z2,.slice x3 y3 z3]] w (PrP K A W sv (atL zs (joinG [61] ts++[32,59]))):=by
 have hG:Good (joinG [61] ts):=by
  obtain⟨_,_,_,hg,_⟩:=hks
  have:=joinG_good [61] rfl ts hg ts.length (by cases ts with|nil=>exact absurd rfl hne|cons a r=>simp) (Nat.le_refl _)
  rwa [List.take_length]at this
 obtain⟨w1,hw1⟩:∃ w1,Hid (w1=w.alloc (.cells #[.int .i64 1,.int .i64 n,.int .i64 tk,.int .i64 tn,.slice x0 y0 z0,.slice x1 y1 z1,.slice x2 y2 z2,.slice x3 y3 z3] 93)):=⟨_,rfl⟩
 have hK:=lt_of_some h.row
 have hA:Pr K A W w1 sv tv zs:=by rw[hw1.out];exact h.alloc _
 have hbx:BxT w.heap.size w1 [.int .i64 1,.int .i64 n,.int .i64 tk,.int .i64 tn,.slice x0 y0 z0,.slice x1 y1 z1,.slice x2 y2 z2,.slice x3 y3 z3] 93:=by rw[hw1.out];exact BxT.new w _ _
 have HC:Hid (∀ i u,[Value.int .i64 1,.int .i64 n,.int .i64 tk,.int .i64 tn,.slice x0 y0 z0,.slice x1 y1 z1,.slice x2 y2 z2,.slice x3 y3 z3][i]?=some u→∀ w',KP K w1 w'→w'.cell? ⟨w.heap.size,i,none⟩=some u):=fun i u hu=>hbx.kp (by decide) (by omega) i u hu
 have hsz:Hid (w.heap.size+1=w1.heap.size):=by rw[hw1.out];show _=_;simp
 have hA1:=hA.from
 obtain⟨T,hT⟩:=hid_ex (atL zs (joinG [61] ts++[32,59]))
 have HF:Hid (∀ w' t',Pr K w1 W w' sv t' T→PrP K A W sv T (.returned (.tuple #[])) w'):=fun w' t' hp=>⟨rfl,t',hp.back hA.kp⟩
 rw[←hT.out]
 have hl1:=atL_len zs (joinG [61] ts)
 have hlc:([32,59]:List Int).length=2:=rfl
 rw[List.length_append]at hb
 have hat:atL (atL zs (joinG [61] ts)) [32,59]=T:=by rw[hT.out];exact atL_at zs hG _
 clear hbx hA
 go_enter Tryz.func168,Tryz.ntmps168
 go_wp2_with fail
 rw[←hw1.out]
 refine (exprs_of K w1 W w1 sv tv _ zs [61] ⟨#[61]⟩ ts hA1 hks rfl rfl hts (by omega)).mono ?_
 rintro e w2 ⟨rfl,t2,hp2⟩
 go_wp2_with fail
 refine (put1 K w1 W w2 sv t2 _ ⟨#[59]⟩ [32,59] rfl hp2 (by decide) (by omega) _ rfl).mono ?_
 rintro e wE ⟨rfl,tE,hpE⟩
 rw[hat]at hpE
 go_wp2_with fail
 refine bodyPost_end (results_none rfl _ _ _) rfl ?_
 exact HF.out _ _ hpE
theorem stmt_2 (K:Nat) (A W w:World) (sv tv:Value) (v1:Value) (x0 x2 x3:Option Addr) (y0 z0 y2 z2 y3 z3:Nat) (zs:List Int) (n tk tn:Int) (h:Pr K A W w sv tv zs) (m:Nat) (t0 tb te:List Int) (hk0:KidP W sv v1 m 0 t0) (hg0:Good t0) (hB:BlkP W sv (.slice x2 y2 z2) tb) (hE:BlkP W sv (.slice x3 y3 z3) te) (hb:zs.length+([32,105,102]++t0++blockL tb++[32,101,108,115,101]++blockL te).length≤999999) :
  Calls Tryz.prog 168 #[.pointer (some ⟨K,0,none⟩),.agg #[.int .i64 2,.int .i64 n,.int .i64 tk,.int .i64 tn,.slice x0 y0 z0,v1,.slice x2 y2 z2,.slice x3 y3 z3]] w (PrP K A W sv (atL zs ([32,105,102]++t0++blockL tb++[32,101,108,115,101]++blockL te))):=by
 have hG0:Good [32,105,102]:=⟨by decide,by decide⟩
 have hG1:=hG0.app hg0
 have hG2:=hG1.blk tb
 have hG3:Good ([32,105,102]++t0++blockL tb++[32,101,108,115,101]):=hG2.app ⟨by decide,by decide⟩
 obtain⟨hm0,g,off,cap1,k0,n0,tk0,tn0,xx0,xx1,yy0,zz0,yy1,zz1,rfl,hgW,hcl,hcall⟩:=hk0
 have hm0':(0:Int)<(m:Int):=by omega
 obtain⟨w1,hw1⟩:∃ w1,Hid (w1=w.alloc (.cells #[.int .i64 2,.int .i64 n,.int .i64 tk,.int .i64 tn,.slice x0 y0 z0,.slice (some ⟨g,off,none⟩) m cap1,.slice x2 y2 z2,.slice x3 y3 z3] 93)):=⟨_,rfl⟩
 have hK:=lt_of_some h.row
 have hA:Pr K A W w1 sv tv zs:=by rw[hw1.out];exact h.alloc _
 have hbx:BxT w.heap.size w1 [.int .i64 2,.int .i64 n,.int .i64 tk,.int .i64 tn,.slice x0 y0 z0,.slice (some ⟨g,off,none⟩) m cap1,.slice x2 y2 z2,.slice x3 y3 z3] 93:=by rw[hw1.out];exact BxT.new w _ _
 have HC:Hid (∀ i u,[Value.int .i64 2,.int .i64 n,.int .i64 tk,.int .i64 tn,.slice x0 y0 z0,.slice (some ⟨g,off,none⟩) m cap1,.slice x2 y2 z2,.slice x3 y3 z3][i]?=some u→∀ w',KP K w1 w'→w'.cell? ⟨w.heap.size,i,none⟩=some u):=fun i u hu=>hbx.kp (by decide) (by omega) i u hu
 have hsz:Hid (w.heap.size+1=w1.heap.size):=by rw[hw1.out];show _=_;simp
 have hA1:=hA.from
 obtain⟨T,hT⟩:=hid_ex (atL zs ([32,105,102]++t0++blockL tb++[32,101,108,115,101]++blockL te))
 have HF:Hid (∀ w' t',Pr K w1 W w' sv t' T→PrP K A W sv T (.returned (.tuple #[])) w'):=fun w' t' hp=>⟨rfl,t',hp.back hA.kp⟩
 rw[←hT.out]
 have hl0:=atL_len zs [32,105,102]
 have hl1:=atL_len zs ([32,105,102]++t0)
 have hl2:=atL_len zs ([32,105,102]++t0++blockL tb)
 have hl3:=atL_len zs ([32,105,102]++t0++blockL tb++[32,101,108,115,101])
 have hla:([32,105,102]:List Int).length=3:=rfl
 have hlc:([32,101,108,115,101]:List Int).length=5:=rfl
 simp only[List.length_append]at hb hl1 hl2 hl3
 rw[hla]at hb hl0 hl1 hl2 hl3
 rw[hlc]at hb hl3
 have hat1:atL (atL zs [32,105,102]) t0=atL zs ([32,105,102]++t0):=atL_at zs hG0 _
 have hat2:atL zs ([32,105,102]++t0)++blockL tb=atL zs ([32,105,102]++t0++blockL tb):=by rw[←atL_at zs hG1,atL_mid (midB_at zs hG1)]
 have hat3:atL (atL zs ([32,105,102]++t0++blockL tb)) [32,101,108,115,101]=atL zs ([32,105,102]++t0++blockL tb++[32,101,108,115,101]):=atL_at zs hG2 _
 have hat:atL zs ([32,105,102]++t0++blockL tb++[32,101,108,115,101])++blockL te=T:=by rw[hT.out,← atL_at zs hG3,atL_mid (midB_at zs hG3)]
 obtain⟨_,_,_,_,hB⟩:=hB
 obtain⟨_,_,_,_,hE⟩:=hE
 clear hbx hA
 go_enter Tryz.func168,Tryz.ntmps168
 go_wp2_with fail
 rw[←hw1.out]
 refine (put1 K w1 W w1 sv tv zs ⟨#[105,102]⟩ [32,105,102] rfl hA1 (by decide) (by omega) _ hsz.out).mono ?_
 rintro e w2 ⟨rfl,t2,hp2⟩
 obtain⟨c0,c1,c2,c3,c4,c5⟩:=hcl w2 hp2.lat
 rw[Nat.zero_mul,Nat.add_zero]at c0 c1 c2 c3 c4 c5
 have hgw:g<w2.heap.size:=Nat.lt_of_lt_of_le hgW hp2.lat.size
 have q5:=HC.out 5 _ rfl _ hp2.kp
 go_wp2_with fail
 refine (hcall K w1 w2 t2 _ hp2 (by omega)).mono ?_
 rintro e w3 ⟨rfl,t3,hp3⟩
 rw[hat1]at hp3
 have q6:=HC.out 6 _ rfl _ hp3.kp
 go_wp2_with fail
 refine (hB K w1 w3 t3 _ hp3 (midB_at zs hG1) (by omega)).mono ?_
 rintro e w4 ⟨rfl,t4,hp4⟩
 rw[hat2]at hp4
 go_wp2_with fail
 refine (put1 K w1 W w4 sv t4 _ ⟨#[101,108,115,101]⟩ [32,101,108,115,101] rfl hp4 (by decide) (by omega) _ rfl).mono ?_
 rintro e w5 ⟨rfl,t5,hp5⟩
 rw[hat3]at hp5
 have q7:=HC.out 7 _ rfl _ hp5.kp
 go_wp2_with fail
 refine (hE K w1 w5 t5 _ hp5 (midB_at zs hG3) (by omega)).mono ?_
 rintro e wE ⟨rfl,tE,hpE⟩
 rw[hat]at hpE
 go_wp2_with fail
 refine bodyPost_end (results_none rfl _ _ _) rfl ?_
 exact HF.out _ _ hpE
theorem stmt_3 (K:Nat) (A W w:World) (sv tv:Value) (v1:Value) (x0 x2 x3:Option Addr) (y0 z0 y2 z2 y3 z3:Nat) (zs:List Int) (n tk tn:Int) (h:Pr K A W w sv tv zs) (m:Nat) (t0 tb:List Int) (hk0:KidP W sv v1 m 0 t0) (hg0:Good t0) (hB:BlkP W sv (.slice x2 y2 z2) tb) (hb:zs.length+([32,102,111,114]++t0++blockL tb).length≤999999) :
  Calls Tryz.prog 168 #[.pointer (some ⟨K,0,none⟩),.agg #[.int .i64 3,.int .i64 n,.int .i64 tk,.int .i64 tn,.slice x0 y0 z0,v1,.slice x2 y2 z2,.slice x3 y3 z3]] w (PrP K A W sv (atL zs ([32,102,111,114]++t0++blockL tb))):=by
 have hG0:Good [32,102,111,114]:=⟨by decide,by decide⟩
 have hG1:=hG0.app hg0
 obtain⟨hm0,g,off,cap1,k0,n0,tk0,tn0,xx0,xx1,yy0,zz0,yy1,zz1,rfl,hgW,hcl,hcall⟩:=hk0
 have hm0':(0:Int)<(m:Int):=by omega
 obtain⟨w1,hw1⟩:∃ w1,Hid (w1=w.alloc (.cells #[.int .i64 3,.int .i64 n,.int .i64 tk,.int .i64 tn,.slice x0 y0 z0,.slice (some ⟨g,off,none⟩) m cap1,.slice x2 y2 z2,.slice x3 y3 z3] 93)):=⟨_,rfl⟩
 have hK:=lt_of_some h.row
 have hA:Pr K A W w1 sv tv zs:=by rw[hw1.out];exact h.alloc _
 have hbx:BxT w.heap.size w1 [.int .i64 3,.int .i64 n,.int .i64 tk,.int .i64 tn,.slice x0 y0 z0,.slice (some ⟨g,off,none⟩) m cap1,.slice x2 y2 z2,.slice x3 y3 z3] 93:=by rw[hw1.out];exact BxT.new w _ _
 have HC:Hid (∀ i u,[Value.int .i64 3,.int .i64 n,.int .i64 tk,.int .i64 tn,.slice x0 y0 z0,.slice (some ⟨g,off,none⟩) m cap1,.slice x2 y2 z2,.slice x3 y3 z3][i]?=some u→∀ w',KP K w1 w'→w'.cell? ⟨w.heap.size,i,none⟩=some u):=fun i u hu=>hbx.kp (by decide) (by omega) i u hu
 have hsz:Hid (w.heap.size+1=w1.heap.size):=by rw[hw1.out];show _=_;simp
 have hA1:=hA.from
 obtain⟨T,hT⟩:=hid_ex (atL zs ([32,102,111,114]++t0++blockL tb))
 have HF:Hid (∀ w' t',Pr K w1 W w' sv t' T→PrP K A W sv T (.returned (.tuple #[])) w'):=fun w' t' hp=>⟨rfl,t',hp.back hA.kp⟩
 rw[←hT.out]
 have hl0:=atL_len zs [32,102,111,114]
 have hl1:=atL_len zs ([32,102,111,114]++t0)
 have hla:([32,102,111,114]:List Int).length=4:=rfl
 simp only[List.length_append]at hb hl1
 rw[hla]at hb hl0 hl1
 have hat1:atL (atL zs [32,102,111,114]) t0=atL zs ([32,102,111,114]++t0):=atL_at zs hG0 _
 have hat:atL zs ([32,102,111,114]++t0)++blockL tb=T:=by rw[hT.out,← atL_at zs hG1,atL_mid (midB_at zs hG1)]
 obtain⟨_,_,_,_,hB⟩:=hB
 clear hbx hA
 go_enter Tryz.func168,Tryz.ntmps168
 go_wp2_with fail
 rw[←hw1.out]
 refine (put1 K w1 W w1 sv tv zs ⟨#[102,111,114]⟩ [32,102,111,114] rfl hA1 (by decide) (by omega) _ hsz.out).mono ?_
 rintro e w2 ⟨rfl,t2,hp2⟩
 obtain⟨c0,c1,c2,c3,c4,c5⟩:=hcl w2 hp2.lat
 rw[Nat.zero_mul,Nat.add_zero]at c0 c1 c2 c3 c4 c5
 have hgw:g<w2.heap.size:=Nat.lt_of_lt_of_le hgW hp2.lat.size
 have q5:=HC.out 5 _ rfl _ hp2.kp
 go_wp2_with fail
 refine (hcall K w1 w2 t2 _ hp2 (by omega)).mono ?_
 rintro e w3 ⟨rfl,t3,hp3⟩
 rw[hat1]at hp3
 have q6:=HC.out 6 _ rfl _ hp3.kp
 go_wp2_with fail
 refine (hB K w1 w3 t3 _ hp3 (midB_at zs hG1) (by omega)).mono ?_
 rintro e wE ⟨rfl,tE,hpE⟩
 rw[hat]at hpE
 go_wp2_with fail
 refine bodyPost_end (results_none rfl _ _ _) rfl ?_
 exact HF.out _ _ hpE
theorem stmt_4 (K:Nat) (A W w:World) (sv tv:Value)  (x0 x1 x2 x3:Option Addr) (y0 z0 y1 z1 y2 z2 y3 z3:Nat) (zs:List Int) (n tk tn:Int) (h:Pr K A W w sv tv zs) (ts:List (List Int)) (hks:KidsP W sv (.slice x1 y1 z1) ts) (hts:ts.length≤1000) (hb:zs.length+((32::[114,101,116,117,114,110])++joinL ts++(32::[59])).length≤1000000) :
  Calls Tryz.prog 168 #[.pointer (some ⟨K,0,none⟩),.agg #[.int .i64 4,.int .i64 n,.int .i64 tk,.int .i64 tn,.slice x0 y0 z0,.slice x1 y1 z1,.slice x2 y2 z2,.slice x3 y3 z3]] w (PrP K A W sv (atL zs ((32::[114,101,116,117,114,110])++joinL ts++(32::[59])))):=by
 obtain⟨w1,hw1⟩:∃ w1,Hid (w1=w.alloc (.cells #[.int .i64 4,.int .i64 n,.int .i64 tk,.int .i64 tn,.slice x0 y0 z0,.slice x1 y1 z1,.slice x2 y2 z2,.slice x3 y3 z3] 93)):=⟨_,rfl⟩
 have hK:=lt_of_some h.row
 have hA:Pr K A W w1 sv tv zs:=by rw[hw1.out];exact h.alloc _
 have hbx:BxT w.heap.size w1 [.int .i64 4,.int .i64 n,.int .i64 tk,.int .i64 tn,.slice x0 y0 z0,.slice x1 y1 z1,.slice x2 y2 z2,.slice x3 y3 z3] 93:=by rw[hw1.out];exact BxT.new w _ _
 have HC:Hid (∀ i u,[Value.int .i64 4,.int .i64 n,.int .i64 tk,.int .i64 tn,.slice x0 y0 z0,.slice x1 y1 z1,.slice x2 y2 z2,.slice x3 y3 z3][i]?=some u→∀ w',KP K w1 w'→w'.cell? ⟨w.heap.size,i,none⟩=some u):=fun i u hu=>hbx.kp (by decide) (by omega) i u hu
 have hsz:Hid (w.heap.size+1=w1.heap.size):=by rw[hw1.out];show _=_;simp
 have hA1:=hA.from
 obtain⟨T,hT⟩:=hid_ex (atL zs ((32::[114,101,116,117,114,110])++joinL ts++(32::[59])))
 have HF:Hid (∀ w' t',Pr K w1 W w' sv t' T→PrP K A W sv T (.returned (.tuple #[])) w'):=fun w' t' hp=>⟨rfl,t',hp.back hA.kp⟩
 rw[←hT.out]
 clear hbx hA
 go_enter Tryz.func168,Tryz.ntmps168
 go_wp2_with fail
 rw[←hw1.out]
 refine (within_of K w1 W w1 sv tv _ zs [114,101,116,117,114,110] [59] ⟨#[114,101,116,117,114,110]⟩ ⟨#[59]⟩ ts hA1 hks rfl rfl rfl rfl hts hb).mono ?_
 rintro e wE ⟨rfl,tE,hpE⟩
 rw[←hT.out]at hpE
 go_wp2_with fail
 refine bodyPost_end (results_none rfl _ _ _) rfl ?_
 exact HF.out _ _ hpE
theorem stmt_5 (K:Nat) (A W w:World) (sv tv:Value)  (x0 x1 x2 x3:Option Addr) (y0 z0 y1 z1 y2 z2 y3 z3:Nat) (zs:List Int) (n tk tn:Int) (h:Pr K A W w sv tv zs) (ts:List (List Int)) (hks:KidsP W sv (.slice x1 y1 z1) ts) (hts:ts.length≤1000) (hb:zs.length+((32::[112,114,105,110,116])++joinL ts++(32::[59])).length≤1000000) :
  Calls Tryz.prog 168 #[.pointer (some ⟨K,0,none⟩),.agg #[.int .i64 5,.int .i64 n,.int .i64 tk,.int .i64 tn,.slice x0 y0 z0,.slice x1 y1 z1,.slice x2 y2 z2,.slice x3 y3 z3]] w (PrP K A W sv (atL zs ((32::[112,114,105,110,116])++joinL ts++(32::[59])))):=by
 obtain⟨w1,hw1⟩:∃ w1,Hid (w1=w.alloc (.cells #[.int .i64 5,.int .i64 n,.int .i64 tk,.int .i64 tn,.slice x0 y0 z0,.slice x1 y1 z1,.slice x2 y2 z2,.slice x3 y3 z3] 93)):=⟨_,rfl⟩
 have hK:=lt_of_some h.row
 have hA:Pr K A W w1 sv tv zs:=by rw[hw1.out];exact h.alloc _
 have hbx:BxT w.heap.size w1 [.int .i64 5,.int .i64 n,.int .i64 tk,.int .i64 tn,.slice x0 y0 z0,.slice x1 y1 z1,.slice x2 y2 z2,.slice x3 y3 z3] 93:=by rw[hw1.out];exact BxT.new w _ _
 have HC:Hid (∀ i u,[Value.int .i64 5,.int .i64 n,.int .i64 tk,.int .i64 tn,.slice x0 y0 z0,.slice x1 y1 z1,.slice x2 y2 z2,.slice x3 y3 z3][i]?=some u→∀ w',KP K w1 w'→w'.cell? ⟨w.heap.size,i,none⟩=some u):=fun i u hu=>hbx.kp (by decide) (by omega) i u hu
 have hsz:Hid (w.heap.size+1=w1.heap.size):=by rw[hw1.out];show _=_;simp
 have hA1:=hA.from
 obtain⟨T,hT⟩:=hid_ex (atL zs ((32::[112,114,105,110,116])++joinL ts++(32::[59])))
 have HF:Hid (∀ w' t',Pr K w1 W w' sv t' T→PrP K A W sv T (.returned (.tuple #[])) w'):=fun w' t' hp=>⟨rfl,t',hp.back hA.kp⟩
 rw[←hT.out]
 clear hbx hA
 go_enter Tryz.func168,Tryz.ntmps168
 go_wp2_with fail
 rw[←hw1.out]
 refine (within_of K w1 W w1 sv tv _ zs [112,114,105,110,116] [59] ⟨#[112,114,105,110,116]⟩ ⟨#[59]⟩ ts hA1 hks rfl rfl rfl rfl hts hb).mono ?_
 rintro e wE ⟨rfl,tE,hpE⟩
 rw[←hT.out]at hpE
 go_wp2_with fail
 refine bodyPost_end (results_none rfl _ _ _) rfl ?_
 exact HF.out _ _ hpE
theorem stmt_6 (K:Nat) (A W w:World) (sv tv:Value)  (x0 x1 x2 x3:Option Addr) (y0 z0 y1 z1 y2 z2 y3 z3:Nat) (zs:List Int) (n tk tn:Int) (h:Pr K A W w sv tv zs) (ts:List (List Int)) (hks:KidsP W sv (.slice x1 y1 z1) ts) (hts:ts.length≤1000) (hb:zs.length+((32::[112,97,110,105,99])++joinL ts++(32::[59])).length≤1000000) :
  Calls Tryz.prog 168 #[.pointer (some ⟨K,0,none⟩),.agg #[.int .i64 6,.int .i64 n,.int .i64 tk,.int .i64 tn,.slice x0 y0 z0,.slice x1 y1 z1,.slice x2 y2 z2,.slice x3 y3 z3]] w (PrP K A W sv (atL zs ((32::[112,97,110,105,99])++joinL ts++(32::[59])))):=by
 obtain⟨w1,hw1⟩:∃ w1,Hid (w1=w.alloc (.cells #[.int .i64 6,.int .i64 n,.int .i64 tk,.int .i64 tn,.slice x0 y0 z0,.slice x1 y1 z1,.slice x2 y2 z2,.slice x3 y3 z3] 93)):=⟨_,rfl⟩
 have hK:=lt_of_some h.row
 have hA:Pr K A W w1 sv tv zs:=by rw[hw1.out];exact h.alloc _
 have hbx:BxT w.heap.size w1 [.int .i64 6,.int .i64 n,.int .i64 tk,.int .i64 tn,.slice x0 y0 z0,.slice x1 y1 z1,.slice x2 y2 z2,.slice x3 y3 z3] 93:=by rw[hw1.out];exact BxT.new w _ _
 have HC:Hid (∀ i u,[Value.int .i64 6,.int .i64 n,.int .i64 tk,.int .i64 tn,.slice x0 y0 z0,.slice x1 y1 z1,.slice x2 y2 z2,.slice x3 y3 z3][i]?=some u→∀ w',KP K w1 w'→w'.cell? ⟨w.heap.size,i,none⟩=some u):=fun i u hu=>hbx.kp (by decide) (by omega) i u hu
 have hsz:Hid (w.heap.size+1=w1.heap.size):=by rw[hw1.out];show _=_;simp
 have hA1:=hA.from
 obtain⟨T,hT⟩:=hid_ex (atL zs ((32::[112,97,110,105,99])++joinL ts++(32::[59])))
 have HF:Hid (∀ w' t',Pr K w1 W w' sv t' T→PrP K A W sv T (.returned (.tuple #[])) w'):=fun w' t' hp=>⟨rfl,t',hp.back hA.kp⟩
 rw[←hT.out]
 clear hbx hA
 go_enter Tryz.func168,Tryz.ntmps168
 go_wp2_with fail
 rw[←hw1.out]
 refine (within_of K w1 W w1 sv tv _ zs [112,97,110,105,99] [59] ⟨#[112,97,110,105,99]⟩ ⟨#[59]⟩ ts hA1 hks rfl rfl rfl rfl hts hb).mono ?_
 rintro e wE ⟨rfl,tE,hpE⟩
 rw[←hT.out]at hpE
 go_wp2_with fail
 refine bodyPost_end (results_none rfl _ _ _) rfl ?_
 exact HF.out _ _ hpE
theorem stmt_7 (K:Nat) (A W w:World) (sv tv:Value)  (x0 x1 x2 x3:Option Addr) (y0 z0 y1 z1 y2 z2 y3 z3:Nat) (zs:List Int) (n tk tn:Int) (h:Pr K A W w sv tv zs) (ts:List (List Int)) (hks:KidsP W sv (.slice x1 y1 z1) ts) (hts:ts.length≤1000) (hb:zs.length+((32::[100,111])++joinL ts++(32::[59])).length≤1000000) :
  Calls Tryz.prog 168 #[.pointer (some ⟨K,0,none⟩),.agg #[.int .i64 7,.int .i64 n,.int .i64 tk,.int .i64 tn,.slice x0 y0 z0,.slice x1 y1 z1,.slice x2 y2 z2,.slice x3 y3 z3]] w (PrP K A W sv (atL zs ((32::[100,111])++joinL ts++(32::[59])))):=by
 obtain⟨w1,hw1⟩:∃ w1,Hid (w1=w.alloc (.cells #[.int .i64 7,.int .i64 n,.int .i64 tk,.int .i64 tn,.slice x0 y0 z0,.slice x1 y1 z1,.slice x2 y2 z2,.slice x3 y3 z3] 93)):=⟨_,rfl⟩
 have hK:=lt_of_some h.row
 have hA:Pr K A W w1 sv tv zs:=by rw[hw1.out];exact h.alloc _
 have hbx:BxT w.heap.size w1 [.int .i64 7,.int .i64 n,.int .i64 tk,.int .i64 tn,.slice x0 y0 z0,.slice x1 y1 z1,.slice x2 y2 z2,.slice x3 y3 z3] 93:=by rw[hw1.out];exact BxT.new w _ _
 have HC:Hid (∀ i u,[Value.int .i64 7,.int .i64 n,.int .i64 tk,.int .i64 tn,.slice x0 y0 z0,.slice x1 y1 z1,.slice x2 y2 z2,.slice x3 y3 z3][i]?=some u→∀ w',KP K w1 w'→w'.cell? ⟨w.heap.size,i,none⟩=some u):=fun i u hu=>hbx.kp (by decide) (by omega) i u hu
 have hsz:Hid (w.heap.size+1=w1.heap.size):=by rw[hw1.out];show _=_;simp
 have hA1:=hA.from
 obtain⟨T,hT⟩:=hid_ex (atL zs ((32::[100,111])++joinL ts++(32::[59])))
 have HF:Hid (∀ w' t',Pr K w1 W w' sv t' T→PrP K A W sv T (.returned (.tuple #[])) w'):=fun w' t' hp=>⟨rfl,t',hp.back hA.kp⟩
 rw[←hT.out]
 clear hbx hA
 go_enter Tryz.func168,Tryz.ntmps168
 go_wp2_with fail
 rw[←hw1.out]
 refine (within_of K w1 W w1 sv tv _ zs [100,111] [59] ⟨#[100,111]⟩ ⟨#[59]⟩ ts hA1 hks rfl rfl rfl rfl hts hb).mono ?_
 rintro e wE ⟨rfl,tE,hpE⟩
 rw[←hT.out]at hpE
 go_wp2_with fail
 refine bodyPost_end (results_none rfl _ _ _) rfl ?_
 exact HF.out _ _ hpE
structure StNodeI (l:List Sc) (k tk tn:Int) (name:List Int) (m:Nat):Prop where
 base:StNode l k tk tn name m
 tok:k=0→midB name=true
 ty:k=0→TyFine l tk tn
 two:k=1→m=2
 few:k=4→m≤1
 one:k=5∨k=6∨k=7→m=1
inductive St.FineI (l:List Sc):St→Prop
 | mk {k n tk tn:Int}{name:List Int}{kids:List Ex}{body els:List St}(h:StNodeI l k tk tn name kids.length) (hm:body.length≤1000000∧els.length≤1000000) (hk:∀ x∈kids,Ex.FineI l x) (hb:∀ x∈body,St.FineI l x) (he:∀ x∈els,St.FineI l x):St.FineI l (.mk k n tk tn name kids body els)
theorem St.FineI.fine {l:List Sc}:∀ {x:St},St.FineI l x→St.Fine l x:=by
 intro x h
 induction h with
 | mk h hm hk hb he ib ie=>exact .mk h.base hm (fun x hx=>(hk x hx).fine) ib ie
theorem eight {k:Int}(h0:0≤k) (h1:k≤7):k=0∨k=1∨k=2∨k=3∨k=4∨k=5∨k=6∨k=7:=by omega
theorem joinL_few {ts:List (List Int)}(h:ts.length≤1):joinL ts=kidL ts 0:=by
 match ts,h with
 | [],_=>rfl
 | [a],_=>simp[joinL,tailL,kidL]
 | a::b::r,h=>simp at h
theorem new_line {K:Nat}{A W:World}{sv:Value}{zs:List Int}{T X:List Int}(hm:midB zs=false) (hX:T.drop 1=X) {e:Ending}{w':World}(h:PrP K A W sv (atL zs T) e w'):PrP K A W sv (zs++X) e w':=by
 rw[atL_new hm,hX]at h
 exact h
theorem blockP_all {W:World}{l:List Sc}{sv:Value}(hE:Env W) (hl:RdL W 2 sv (Sc.dats l)) (hnm:NamesTok l) (N:Nat):∀ (ss:List St) (v:Value),St.szs ss<N→ss.length≤1000000→(∀ x∈ss,St.FineI l x)→RdL W 8 v (St.dats ss)→BlkP W sv v (St.says l ss):=by
 induction N with
 | zero=>intro ss v hx;exact absurd hx (Nat.not_lt_zero _)
 | succ N ih =>
  intro ss v hN hm hf hr
  obtain⟨a1,cap1,rfl,hsl⟩:=St.slice hr
  rw[says_flat]
  have hlen:(ss.map (St.say l)).length=ss.length:=List.length_map _
  have key:=block_of W sv a1 cap1 (ss.map (St.say l)) (by rw[hlen];omega) (fun j hj=>?_)
  ·rw[hlen]at key;exact key
  have hj':j<ss.length:=by rw[hlen]at hj;exact hj
  rw[hlen,List.getElem_map]
  obtain⟨g,off,v0,v1,v2,v3,rfl,hgs,c0,c1,c2,c3,c4,c5,c6,c7,r0,r1,r2,r3⟩:=St.elem hr j hj'
  have hsz:=St.sz_at ss j hj'
  have hF:=hf _ (List.getElem_mem hj')
  generalize ss[j]=x at *
  cases hF with
  | @mk k n tk tn name kids body els h hmb hk hb he =>
  replace r0:RdN W v0 name:=r0
  replace r1:RdL W 6 v1 (Ex.dats kids):=r1
  replace r2:RdL W 8 v2 (St.dats body):=r2
  replace r3:RdL W 8 v3 (St.dats els):=r3
  rw[St.sz]at hsz
  have hB:=ih body v2 (by omega) hmb.1 hb r2
  have hL:=ih els v3 (by omega) hmb.2 he r3
  obtain⟨y0,t0,rfl,_⟩:=r0.slice
  obtain⟨y1,t1,rfl,_⟩:=Ex.slice r1
  obtain⟨y2,t2,rfl,_⟩:=St.slice r2
  obtain⟨y3,t3,rfl,_⟩:=St.slice r3
  have hKc:∀ (i:Nat) (hi:i<kids.length),ExprC W sv l kids[i]:=fun i hi=>expr_any hE hl hnm kids[i] (hk _ (List.getElem_mem hi))
  have hK:∀ (i:Nat) (hi:i<kids.length),KidP W sv (.slice y1 kids.length t1) kids.length i (Ex.say l kids[i]):=fun i hi=>kidP_of r1 i hi rfl (hKc i hi)
  have hKs:KidsP W sv (.slice y1 kids.length t1) (Ex.says l kids):=kidsP_of hnm r1 hk hKc
  have hKg:∀ (i:Nat) (hi:i<kids.length),Good (Ex.say l kids[i]):=fun i hi=>say_good hnm (hk _ (List.getElem_mem hi))
  have hml:(Ex.says l kids).length=kids.length:=Ex.says_len l kids
  refine⟨hj',g,off,cap1,k,n,tk,tn,y0,y1,y2,y3,name.length,t0,kids.length,t1,body.length,t2,els.length,t3,rfl,hgs,fun w' hw=>?_,?_⟩
  ·exact⟨by rw[hw.cell (p:=⟨g,off+j*8,none⟩) hgs];exact c0,by rw[hw.cell (p:=⟨g,off+j*8+1,none⟩) hgs];exact c1,by rw[hw.cell (p:=⟨g,off+j*8+2,none⟩) hgs];exact c2,by rw[hw.cell (p:=⟨g,off+j*8+3,none⟩) hgs];exact c3,by rw[hw.cell (p:=⟨g,off+j*8+4,none⟩) hgs];exact c4,by rw[hw.cell (p:=⟨g,off+j*8+5,none⟩) hgs];exact c5,by rw[hw.cell (p:=⟨g,off+j*8+6,none⟩) hgs];exact c6,by rw[hw.cell (p:=⟨g,off+j*8+7,none⟩) hgs];exact c7⟩
  have hk0:∀ (i:0<kids.length),kidL (Ex.says l kids) 0=Ex.say l kids[0]:=fun i=>Ex.says_at l kids 0 i
  rw[St.say]
  generalize Ex.says l kids=ts at *
  obtain rfl|rfl|rfl|rfl|rfl|rfl|rfl|rfl:=eight h.base.k0 h.base.k7
  ·have e:stL l 0 tk tn name ts (St.says l body) (St.says l els)=([32,118,97,114,32]++name++sayTy l tk tn++[32,59]).drop 1++[10]:=by
    show [118,97,114,32]++name++sayTy l tk tn++[32,59,10]=_
    simp[List.append_assoc]
   refine⟨_,e.symm,fun K A w tv zs hp hmid hbn=>?_⟩
   have hbl:zs.length+([32,118,97,114,32]++name++sayTy l tk tn++[32,59]).length≤1000000:=by rw[e]at hbn;simp at hbn ⊢;omega
   exact (stmt_0 K A W w sv tv _ y1 y2 y3 _ t1 _ t2 _ t3 zs n tk tn hp l hl hnm (h.ty rfl) name r0 (h.tok rfl) (h.base.nm rfl) hbl).mono (fun _ _=>new_line hmid rfl)
  ·have h2:=h.two rfl
   obtain⟨p,q,rfl⟩:∃ p q,ts=[p,q]:=by
    match ts,hml with
    | [],hml=>simp at hml;omega
    | [a],hml=>simp at hml;omega
    | [a,b],_=>exact⟨a,b,rfl⟩
    | a::b::c::r,hml=>simp at hml;omega
   have hg0:Good p:=by
    have:=hKg 0 (by omega)
    rw[←hk0 (by omega)]at this
    exact this
   have e:stL l 1 tk tn name [p,q] (St.says l body) (St.says l els)=(joinG [61] [p,q]++[32,59]).drop 1++[10]:=by
    show p.drop 1++[32,61]++q++[32,59,10]=_
    cases p with
    | nil=>exact absurd hg0.two (by simp)
    | cons a r=>simp[joinG,tailG,List.append_assoc]
   refine⟨_,e.symm,fun K A w tv zs hp hmid hbn=>?_⟩
   have hbl:zs.length+(joinG [61] [p,q]++[32,59]).length≤1000000:=by rw[e,List.length_append,List.length_drop]at hbn;simp at hbn ⊢;omega
   exact (stmt_1 K A W w sv tv y0 y1 y2 y3 _ t0 _ t1 _ t2 _ t3 zs n tk tn hp [p,q] hKs (by simp) (by simp) hbl).mono (fun _ _=>new_line hmid rfl)
  ·have h2:=h.base.one (.inl rfl)
   have e:stL l 2 tk tn name ts (St.says l body) (St.says l els)=(([32,105,102]:List Int)++Ex.say l kids[0]++blockL (St.says l body)++[32,101,108,115,101]++blockL (St.says l els)).drop 1++[10]:=by
    rw[←hk0 h2]
    show [105,102]++kidL ts 0++blockL (St.says l body)++[32,101,108,115,101]++blockL (St.says l els)++[10]=_
    simp[List.append_assoc]
   refine⟨_,e.symm,fun K A w tv zs hp hmid hbn=>?_⟩
   have hbl:zs.length+(([32,105,102]:List Int)++Ex.say l kids[0]++blockL (St.says l body)++[32,101,108,115,101]++blockL (St.says l els)).length≤999999:=by rw[e,List.length_append,List.length_drop]at hbn;simp only[List.length_append,List.length_cons,List.length_nil]at hbn ⊢;omega
   exact (stmt_2 K A W w sv tv _ y0 y2 y3 _ t0 _ t2 _ t3 zs n tk tn hp _ _ _ _ (hK 0 h2) (hKg 0 h2) hB hL hbl).mono (fun _ _=>new_line hmid rfl)
  ·have h2:=h.base.one (.inr (.inl rfl))
   have e:stL l 3 tk tn name ts (St.says l body) (St.says l els)=(([32,102,111,114]:List Int)++Ex.say l kids[0]++blockL (St.says l body)).drop 1++[10]:=by
    rw[←hk0 h2]
    show [102,111,114]++kidL ts 0++blockL (St.says l body)++[10]=_
    simp[List.append_assoc]
   refine⟨_,e.symm,fun K A w tv zs hp hmid hbn=>?_⟩
   have hbl:zs.length+(([32,102,111,114]:List Int)++Ex.say l kids[0]++blockL (St.says l body)).length≤999999:=by rw[e,List.length_append,List.length_drop]at hbn;simp only[List.length_append,List.length_cons,List.length_nil]at hbn ⊢;omega
   exact (stmt_3 K A W w sv tv _ y0 y2 y3 _ t0 _ t2 _ t3 zs n tk tn hp _ _ _ (hK 0 h2) (hKg 0 h2) hB hbl).mono (fun _ _=>new_line hmid rfl)
  ·have h2:=h.few rfl
   have e:stL l 4 tk tn name ts (St.says l body) (St.says l els)=((32::[114,101,116,117,114,110])++joinL ts++(32::[59])).drop 1++[10]:=by
    rw[joinL_few (by omega)]
    show [114,101,116,117,114,110]++kidL ts 0++[32,59,10]=_
    simp[List.append_assoc]
   refine⟨_,e.symm,fun K A w tv zs hp hmid hbn=>?_⟩
   have hbl:zs.length+((32::[114,101,116,117,114,110])++joinL ts++(32::[59])).length≤1000000:=by rw[e,List.length_append,List.length_drop]at hbn;simp only[List.length_append,List.length_cons,List.length_nil]at hbn ⊢;omega
   exact (stmt_4 K A W w sv tv y0 y1 y2 y3 _ t0 _ t1 _ t2 _ t3 zs n tk tn hp ts hKs (by omega) hbl).mono (fun _ _=>new_line hmid rfl)
  ·have h2:=h.one (.inl rfl)
   have e:stL l 5 tk tn name ts (St.says l body) (St.says l els)=((32::[112,114,105,110,116])++joinL ts++(32::[59])).drop 1++[10]:=by
    rw[joinL_few (by omega)]
    show [112,114,105,110,116]++kidL ts 0++[32,59,10]=_
    simp[List.append_assoc]
   refine⟨_,e.symm,fun K A w tv zs hp hmid hbn=>?_⟩
   have hbl:zs.length+((32::[112,114,105,110,116])++joinL ts++(32::[59])).length≤1000000:=by rw[e,List.length_append,List.length_drop]at hbn;simp only[List.length_append,List.length_cons,List.length_nil]at hbn ⊢;omega
   exact (stmt_5 K A W w sv tv y0 y1 y2 y3 _ t0 _ t1 _ t2 _ t3 zs n tk tn hp ts hKs (by omega) hbl).mono (fun _ _=>new_line hmid rfl)
  ·have h2:=h.one (.inr (.inl rfl))
   have e:stL l 6 tk tn name ts (St.says l body) (St.says l els)=((32::[112,97,110,105,99])++joinL ts++(32::[59])).drop 1++[10]:=by
    rw[joinL_few (by omega)]
    show [112,97,110,105,99]++kidL ts 0++[32,59,10]=_
    simp[List.append_assoc]
   refine⟨_,e.symm,fun K A w tv zs hp hmid hbn=>?_⟩
   have hbl:zs.length+((32::[112,97,110,105,99])++joinL ts++(32::[59])).length≤1000000:=by rw[e,List.length_append,List.length_drop]at hbn;simp only[List.length_append,List.length_cons,List.length_nil]at hbn ⊢;omega
   exact (stmt_6 K A W w sv tv y0 y1 y2 y3 _ t0 _ t1 _ t2 _ t3 zs n tk tn hp ts hKs (by omega) hbl).mono (fun _ _=>new_line hmid rfl)
  ·have h2:=h.one (.inr (.inr rfl))
   have e:stL l 7 tk tn name ts (St.says l body) (St.says l els)=((32::[100,111])++joinL ts++(32::[59])).drop 1++[10]:=by
    rw[joinL_few (by omega)]
    show [100,111]++kidL ts 0++[32,59,10]=_
    simp[List.append_assoc]
   refine⟨_,e.symm,fun K A w tv zs hp hmid hbn=>?_⟩
   have hbl:zs.length+((32::[100,111])++joinL ts++(32::[59])).length≤1000000:=by rw[e,List.length_append,List.length_drop]at hbn;simp only[List.length_append,List.length_cons,List.length_nil]at hbn ⊢;omega
   exact (stmt_7 K A W w sv tv y0 y1 y2 y3 _ t0 _ t1 _ t2 _ t3 zs n tk tn hp ts hKs (by omega) hbl).mono (fun _ _=>new_line hmid rfl)
theorem blockP_any {W:World}{l:List Sc}{sv:Value}(hE:Env W) (hl:RdL W 2 sv (Sc.dats l)) (hnm:NamesTok l) (ss:List St) (v:Value) (hm:ss.length≤1000000) (hf:∀ x∈ss,St.FineI l x) (hr:RdL W 8 v (St.dats ss)):BlkP W sv v (St.says l ss) :=
 blockP_all hE hl hnm _ ss v (Nat.lt_succ_self _) hm hf hr
structure PaFineI (l:List Sc) (x:Pa):Prop where
 nm:1≤x.name.length
 tok:midB x.name=true
 ty:TyFine l x.tk x.tn
theorem PaFineI.fine {l:List Sc}{x:Pa}(h:PaFineI l x):PaFine l x:=⟨h.nm,h.ty.2.2⟩
theorem pa_good {l:List Sc}(hnm:NamesTok l) {x:Pa}(h:PaFineI l x):Good (32::paL l x):=by
 show Good ((32::x.name)++sayTy l x.tk x.tn)
 rcases ty_good hnm h.ty with e|e
 ·rw[e,List.append_nil];exact Good.cons h.tok
 ·exact (Good.cons h.tok).app e
theorem structure_any (K:Nat) (A W w:World) (sv tv v0 v1:Value) (zs:List Int) (l:List Sc) (x:Sc) (h:Pr K A W w sv tv zs) (hl:RdL W 2 sv (Sc.dats l)) (hnm:NamesTok l) (hn1:1≤x.name.length) (hm:midB x.name=true) (hfew:x.fields.length≤1000) (hfs:∀ p∈x.fields,PaFineI l p) (h0:RdN W v0 x.name) (h1:RdL W 3 v1 (Pa.dats x.fields)) (hmid:midB zs=false) (hb:zs.length+(scL l x).length≤999999) :
  Calls Tryz.prog 105 #[.pointer (some ⟨K,0,none⟩),.agg #[v0,v1]] w (PrP K A W sv (zs++scL l x)):=by
 obtain⟨nm,fs⟩:=x
 replace hn1:1≤nm.length:=hn1
 replace hm:midB nm=true:=hm
 replace hfew:fs.length≤1000:=hfew
 replace hfs:∀ p∈fs,PaFineI l p:=hfs
 replace h0:RdN W v0 nm:=h0
 replace h1:RdL W 3 v1 (Pa.dats fs):=h1
 obtain⟨s,g0,off0,q,rfl,_,hs,hcv⟩:=nm_string h0 hn1
 have hs1:midB (bytesOf s)=true:=by rw[hs];exact hm
 obtain⟨fa,fcap,rfl,hfl⟩:=Pa.slice h1
 obtain⟨H,hH⟩:=hid_ex (zs++([116,121,112,101,32]++nm++[32,115,116,114,117,99,116,32,123]))
 have hlH:H.length=zs.length+nm.length+14:=by rw[hH.out];simp;omega
 have heT:zs++scL l (.mk nm fs)=H++[10]++fieldsL l fs++[125]++[10]:=by
  rw[hH.out]
  show zs++([116,121,112,101,32]++nm++[32,115,116,114,117,99,116,32,123,10]++fieldsL l fs++[125,10])=_
  simp[List.append_assoc]
 have hbT:H.length+1+(fieldsL l fs).length+2≤999999:=by
  have:=congrArg List.length heT
  rw[List.length_append]at this
  simp only[List.length_append,List.length_cons,List.length_nil]at this
  omega
 have he0:atL zs ([32,116,121,112,101,32]++nm++[32,115,116,114,117,99,116,32,123])=H:=by rw[atL_new hmid,hH.out];simp
 obtain⟨w1,hw1⟩:∃ w1,Hid (w1=w.alloc (.cells #[.slice (some ⟨g0,off0,none⟩) nm.length q,.slice fa fs.length fcap] 44)):=⟨_,rfl⟩
 have hK:=lt_of_some h.row
 have hA:Pr K A W w1 sv tv zs:=by rw[hw1.out];exact h.alloc _
 have hbx:BxT w.heap.size w1 [.slice (some ⟨g0,off0,none⟩) nm.length q,.slice fa fs.length fcap] 44:=by rw[hw1.out];exact BxT.new w _ _
 have HC:Hid (∀ w',KP K w1 w'→w'.cell? ⟨w.heap.size,1,none⟩=some (.slice fa fs.length fcap)):=hbx.kp (by decide) (by omega) 1 _ rfl
 have hsz:Hid (w.heap.size+1=w1.heap.size):=by rw[hw1.out];show _=_;simp
 have hA1:=hA.from
 have HF:Hid (∀ w' t',Pr K w1 W w' sv t' (H++[10]++fieldsL l fs++[125]++[10])→PrP K A W sv (zs++scL l (.mk nm fs)) (.returned (.tuple #[])) w'):=fun w' t' hp=>⟨rfl,t',by rw[heT];exact hp.back hA.kp⟩
 have cv:=hcv w1 hA.lat
 rw[hw1.out]at cv
 have hm0:midB (H++[10]++fieldsL l (fs.take 0))=false:=by rw[List.take_zero,fieldsL,List.append_nil];exact midB_line _
 have HE:Hid (∀ (j:Nat) (hj:j<fs.length),∃ g off x0 y0 z0,fa=some ⟨g,off,none⟩∧RdN W (.slice x0 y0 z0) fs[j].name∧∀ w',Later W w'→w'.cell? ⟨g,off+j*3,none⟩=some (.slice x0 y0 z0)∧w'.cell? ⟨g,off+j*3+1,none⟩=some (.int .i64 fs[j].tk)∧w'.cell? ⟨g,off+j*3+2,none⟩=some (.int .i64 fs[j].tn)):=fun j hj=>by
  obtain⟨g,off,u0,e,hgs,c0,c1,c2,r0⟩:=Pa.elem h1 j hj
  obtain⟨b0,p0,rfl,_⟩:=r0.slice
  exact⟨g,off,b0,_,p0,e,r0,fun w' hw=>⟨by rw[hw.cell (p:=⟨g,off+j*3,none⟩) hgs];exact c0,by rw[hw.cell (p:=⟨g,off+j*3+1,none⟩) hgs];exact c1,by rw[hw.cell (p:=⟨g,off+j*3+2,none⟩) hgs];exact c2⟩⟩
 generalize hQ:PrP K A W sv (zs++scL l (.mk nm fs))=Q
 rw[hQ]at HF
 clear hQ hA hbx hcv h heT
 go_enter Tryz.func105,Tryz.ntmps105
 go_wp2_with fail
 rw[←hw1.out]
 refine (put4 K w1 W w1 sv tv zs ⟨#[116,121,112,101]⟩ s ⟨#[115,116,114,117,99,116]⟩ ⟨#[123]⟩ ([32,116,121,112,101,32]++nm++[32,115,116,114,117,99,116,32,123]) (by rw[hs];simp[spread,bytesOf]) hA1 (by decide) hs1 (by decide) (by decide) (by simp;omega) _ hsz.out).mono ?_
 rintro e w2 ⟨rfl,t2,hp2⟩
 rw[he0]at hp2
 go_wp2_with fail
 refine (endLine_any K w1 W w2 sv t2 _ hp2 (by omega)).mono ?_
 rintro e w3 ⟨rfl,t3,hp3⟩
 have q1:=HC.out _ hp3.kp
 go_wp2_with fail
 go_loopw [17] (fun i wr=>∃ (j:Nat) (tv':Value),i=.int .i64 (j:Int)∧j≤fs.length∧midB (H++[10]++fieldsL l (fs.take j))=false∧Pr K w1 W wr sv tv' (H++[10]++fieldsL l (fs.take j))) (fun i _=>fs.length - (intOf i).toNat)
 case atStart=>exact⟨0,t3,rfl,Nat.zero_le _,hm0,by rw[List.take_zero,fieldsL,List.append_nil];exact hp3⟩
 case round =>
  obtain⟨j,tv',rfl,hj,hmj,hp⟩:=hrel
  by_cases hlt:j<fs.length
  ·obtain⟨g,off,x0,y0,z0,rfl,r0,hcl⟩:=HE.out j hlt
   obtain⟨d0,d1,d2⟩:=hcl _ hp.lat
   have hst:=fieldsL_step l fs j hlt
   have hpr:=fieldsL_pre l fs (j+1)
   have hF:=hfs _ (List.getElem_mem hlt)
   have hG:=pa_good hnm hF
   rw[hst]at hpr
   have i1:(j:Int)<(fs.length:Int):=by omega
   have hlj:(H++[10]++fieldsL l (fs.take j)).length=H.length+1+(fieldsL l (fs.take j)).length:=by simp;omega
   have hpb:=hp.alloc (.cells #[.slice x0 y0 z0,.int .i64 fs[j].tk,.int .i64 fs[j].tn] 57)
   have he1:atL (atL (H++[10]++fieldsL l (fs.take j)) (32::paL l fs[j])) [32,59]++[10]=H++[10]++fieldsL l (fs.take (j+1)):=by
    rw[atL_at _ hG,atL_new hmj,hst]
    simp[List.append_assoc]
   have hl1:=atL_len (H++[10]++fieldsL l (fs.take j)) (32::paL l fs[j])
   have hl2:=atL_len (atL (H++[10]++fieldsL l (fs.take j)) (32::paL l fs[j])) [32,59]
   have hmn:midB (H++[10]++fieldsL l (fs.take (j+1)))=false:=by rw[←he1];exact midB_line _
   have hlp:(32::paL l fs[j]).length=(paL l fs[j]).length+1:=rfl
   have hlq:([32,59]:List Int).length=2:=rfl
   simp only[List.length_append,List.length_cons,List.length_nil]at hpr
   clear hcl hst
   go_wp2_with fail
   refine (param_any K w1 W _ sv tv' _ _ l fs[j].name fs[j].tk fs[j].tn hpb hl hnm hF.ty r0 hF.tok hF.nm (by show _+(32::paL l fs[j]).length≤_;omega)).mono ?_
   rintro e w4 ⟨rfl,t4,hp4⟩
   go_wp2_with fail
   refine (put1 K w1 W w4 sv t4 _ ⟨#[59]⟩ [32,59] rfl hp4 (by decide) (by show (atL _ (32::paL l fs[j])).length+_≤_;omega) _ rfl).mono ?_
   rintro e w5 ⟨rfl,t5,hp5⟩
   go_wp2_with fail
   refine (endLine_any K w1 W w5 sv t5 _ hp5 (by show (atL (atL _ (32::paL l fs[j])) _).length≤_;omega)).mono ?_
   rintro e w6 ⟨rfl,t6,hp6⟩
   replace hp6:Pr K w1 W w6 sv t6 (H++[10]++fieldsL l (fs.take (j+1))):=by rw[←he1];exact hp6
   go_wp2_with fail
   go_roundw
   case rel=>exact⟨j+1,_,by go_num,by omega,hmn,hp6⟩
   case measure=>simp[intOf];omega
  ·have hje:j=fs.length:=by omega
   have i1:¬ (j:Int)<(fs.length:Int):=by omega
   rw[hje,List.take_length]at hp hmj
   have hlj:(H++[10]++fieldsL l fs).length=H.length+1+(fieldsL l fs).length:=by simp;omega
   have he:atL (H++[10]++fieldsL l fs) [32,125]=H++[10]++fieldsL l fs++[125]:=by rw[atL_new hmj];rfl
   have hlc:([32,125]:List Int).length=2:=rfl
   have hld:(H++[10]++fieldsL l fs++[125]).length=H.length+1+(fieldsL l fs).length+1:=by rw[List.length_append,hlj];rfl
   go_wp2_with fail
   refine (put1 K w1 W wr sv tv' _ ⟨#[125]⟩ [32,125] rfl hp (by decide) (by omega) _ rfl).mono ?_
   rintro e w4 ⟨rfl,t4,hp4⟩
   rw[he]at hp4
   go_wp2_with fail
   refine (endLine_any K w1 W w4 sv t4 _ hp4 (by omega)).mono ?_
   rintro e w5 ⟨rfl,t5,hp5⟩
   go_wp2_with fail
   refine bodyPost_end (results_none rfl _ _ _) rfl ?_
   exact HF.out _ _ hp5
structure FuFineI (l:List Sc) (x:Fu):Prop where
 nm:1≤x.name.length
 tok:midB x.name=true
 ps:∀ p∈x.params,PaFineI l p
 few:x.params.length≤1000
 ty:TyFine l x.rk x.rn
 few2:x.body.length≤1000000
 body:∀ s∈x.body,St.FineI l s
theorem FuFineI.fine {l:List Sc}{x:Fu}(h:FuFineI l x):FuFine l x:=⟨h.nm,fun p hp=>(h.ps p hp).fine,h.few,h.ty.2.2,h.few2,fun s hs=>(h.body s hs).fine⟩
theorem function_any (K:Nat) (A W w:World) (sv tv v0 v1 v2:Value) (zs:List Int) (l:List Sc) (x:Fu) (h:Pr K A W w sv tv zs) (hE:Env W) (hl:RdL W 2 sv (Sc.dats l)) (hnm:NamesTok l) (hx:FuFineI l x) (h0:RdN W v0 x.name) (h1:RdL W 3 v1 (Pa.dats x.params)) (h2:RdL W 8 v2 (St.dats x.body)) (hmid:midB zs=false) (hb:zs.length+(fuL l x).length≤999999) :
  Calls Tryz.prog 106 #[.pointer (some ⟨K,0,none⟩),.agg #[v0,v1,.int .i64 x.rk,.int .i64 x.rn,v2]] w (PrP K A W sv (zs++fuL l x)):=by
 have hBk:=blockP_any hE hl hnm x.body v2 hx.few2 hx.body h2
 obtain⟨nm,ps,rk,rn,body⟩:=x
 replace h0:RdN W v0 nm:=h0
 replace h1:RdL W 3 v1 (Pa.dats ps):=h1
 replace h2:RdL W 8 v2 (St.dats body):=h2
 have hn1:1≤nm.length:=hx.nm
 have hm:midB nm=true:=hx.tok
 have hps:∀ p∈ps,PaFineI l p:=hx.ps
 have hfew:ps.length≤1000:=hx.few
 have hty:TyFine l rk rn:=hx.ty
 replace hBk:BlkP W sv v2 (St.says l body):=hBk
 show Calls Tryz.prog 106 #[.pointer (some ⟨K,0,none⟩),.agg #[v0,v1,.int .i64 rk,.int .i64 rn,v2]] w (PrP K A W sv (zs++fuL l (.mk nm ps rk rn body)))
 obtain⟨s,g0,off0,q,rfl,_,hs,hcv⟩:=nm_string h0 hn1
 have hs1:midB (bytesOf s)=true:=by rw[hs];exact hm
 obtain⟨fa,fcap,rfl,hfl⟩:=Pa.slice h1
 obtain⟨ba,bn,bc,rfl,hBk⟩:=hBk
 obtain⟨ts,hts⟩:=hid_ex (ps.map fun p=>32::paL l p)
 have htl:ts.length=ps.length:=by rw[hts.out];simp
 have hta:∀ (j:Nat) (hj:j<ps.length),ts[j]'(by omega)=32::paL l ps[j]:=fun j hj=>by simp only[hts.out,List.getElem_map]
 have hg:∀ t∈ts,Good t:=fun t ht=>by
  rw[hts.out,List.mem_map]at ht
  obtain⟨p,hp,rfl⟩:=ht
  exact pa_good hnm (hps p hp)
 obtain⟨F,hF⟩:=hid_ex ([32,102,117,110,99,32]++nm++[32,40])
 have hGF:Good F:=by rw[hF.out];exact⟨by simp,midB_append ([32,102,117,110,99,32]++nm) (t:=[32,40]) rfl⟩
 have hlF:F.length=nm.length+8:=by rw[hF.out];simp
 have hGj:∀ j,j≤ts.length→Good (F++joinL (ts.take j)):=fun j hj=>by
  rcases Nat.eq_zero_or_pos j with h0|h0
  ·rw[h0,List.take_zero,joinL,List.append_nil];exact hGF
  ·have:=joinG_good [44] rfl ts hg j h0 hj
   rw[joinG_comma]at this
   exact hGF.app this
 obtain⟨J,hJ⟩:=hid_ex (F++joinL ts)
 have hGJ:Good J:=by have:=hGj ts.length (Nat.le_refl _);rw[List.take_length]at this;rw[hJ.out];exact this
 have hlJ:J.length=F.length+(joinL ts).length:=by rw[hJ.out,List.length_append]
 have hG2:Good (J++[32,41]):=hGJ.app ⟨by decide,by decide⟩
 have hG3:Good (J++[32,41]++sayTy l rk rn):=by
  rcases ty_good hnm hty with e|e
  ·rw[e,List.append_nil];exact hG2
  ·exact hG2.app e
 have heT:zs++fuL l (.mk nm ps rk rn body)=atL zs (J++[32,41]++sayTy l rk rn)++blockL (St.says l body)++[10]:=by
  rw[atL_new hmid,hJ.out,hF.out,hts.out]
  show zs++([102,117,110,99,32]++nm++[32,40]++joinL (ps.map fun p=>32::paL l p)++[32,41]++sayTy l rk rn++blockL (St.says l body)++[10])=_
  simp[List.append_assoc]
 have hbT:zs.length+(J.length+2+(sayTy l rk rn).length)+(blockL (St.says l body)).length≤999999:=by
  have:=congrArg List.length heT
  rw[List.length_append,atL_new hmid]at this
  simp only[List.length_append,List.length_drop,List.length_cons,List.length_nil]at this
  omega
 obtain⟨w1,hw1⟩:∃ w1,Hid (w1=w.alloc (.cells #[.slice (some ⟨g0,off0,none⟩) nm.length q,.slice fa ps.length fcap,.int .i64 rk,.int .i64 rn,.slice ba bn bc] 50)):=⟨_,rfl⟩
 have hK:=lt_of_some h.row
 have hA:Pr K A W w1 sv tv zs:=by rw[hw1.out];exact h.alloc _
 have hbx:BxT w.heap.size w1 [.slice (some ⟨g0,off0,none⟩) nm.length q,.slice fa ps.length fcap,.int .i64 rk,.int .i64 rn,.slice ba bn bc] 50:=by rw[hw1.out];exact BxT.new w _ _
 have HC:Hid (∀ i u,[Value.slice (some ⟨g0,off0,none⟩) nm.length q,.slice fa ps.length fcap,.int .i64 rk,.int .i64 rn,.slice ba bn bc][i]?=some u→∀ w',KP K w1 w'→w'.cell? ⟨w.heap.size,i,none⟩=some u):=fun i u hu=>hbx.kp (by decide) (by omega) i u hu
 have hsz:Hid (w.heap.size+1=w1.heap.size):=by rw[hw1.out];show _=_;simp
 have hA1:=hA.from
 have HF:Hid (∀ w' t',Pr K w1 W w' sv t' (atL zs (J++[32,41]++sayTy l rk rn)++blockL (St.says l body)++[10])→PrP K A W sv (zs++fuL l (.mk nm ps rk rn body)) (.returned (.tuple #[])) w'):=fun w' t' hp=>⟨rfl,t',by rw[heT];exact hp.back hA.kp⟩
 have cv:=hcv w1 hA.lat
 rw[hw1.out]at cv
 have HE:Hid (∀ (j:Nat) (hj:j<ps.length),∃ g off x0 y0 z0,fa=some ⟨g,off,none⟩∧RdN W (.slice x0 y0 z0) ps[j].name∧∀ w',Later W w'→w'.cell? ⟨g,off+j*3,none⟩=some (.slice x0 y0 z0)∧w'.cell? ⟨g,off+j*3+1,none⟩=some (.int .i64 ps[j].tk)∧w'.cell? ⟨g,off+j*3+2,none⟩=some (.int .i64 ps[j].tn)):=fun j hj=>by
  obtain⟨g,off,u0,e,hgs,c0,c1,c2,r0⟩:=Pa.elem h1 j hj
  obtain⟨b0,p0,rfl,_⟩:=r0.slice
  exact⟨g,off,b0,_,p0,e,r0,fun w' hw=>⟨by rw[hw.cell (p:=⟨g,off+j*3,none⟩) hgs];exact c0,by rw[hw.cell (p:=⟨g,off+j*3+1,none⟩) hgs];exact c1,by rw[hw.cell (p:=⟨g,off+j*3+2,none⟩) hgs];exact c2⟩⟩
 have htl':Hid (ts.length=ps.length):=htl
 have hGj':Hid (∀ j,j≤ts.length→Good (F++joinL (ts.take j))):=hGj
 have hta':Hid (∀ (j:Nat) (hj:j<ps.length),ts[j]'(by rw[htl'.out];exact hj)=32::paL l ps[j]):=hta
 have hlF':=atL_len zs F
 generalize hQ:PrP K A W sv (zs++fuL l (.mk nm ps rk rn body))=Q
 rw[hQ]at HF
 clear hQ hA hbx hcv h heT htl hGj hta hg hx
 go_enter Tryz.func106,Tryz.ntmps106
 go_wp2_with fail
 rw[←hw1.out]
 refine (put3 K w1 W w1 sv tv zs ⟨#[102,117,110,99]⟩ s ⟨#[40]⟩ F (by rw[hF.out,hs];simp[spread,bytesOf]) hA1 (by decide) hs1 (by decide) (by omega) _ hsz.out).mono ?_
 rintro e w2 ⟨rfl,t2,hp2⟩
 have q1:=HC.out 1 _ rfl _ hp2.kp
 go_wp2_with fail
 go_loopw [15] (fun i wr=>∃ (j:Nat) (tv':Value),i=.int .i64 (j:Int)∧j≤ps.length∧Pr K w1 W wr sv tv' (atL zs (F++joinL (ts.take j)))) (fun i _=>ps.length - (intOf i).toNat)
 case atStart=>exact⟨0,t2,rfl,Nat.zero_le _,by rw[List.take_zero,joinL,List.append_nil];exact hp2⟩
 case round =>
  obtain⟨j,tv',rfl,hj,hp⟩:=hrel
  by_cases hlt:j<ps.length
  ·obtain⟨g,off,x0,y0,z0,rfl,r0,hcl⟩:=HE.out j hlt
   obtain⟨d0,d1,d2⟩:=hcl _ hp.lat
   have hlt':j<ts.length:=by rw[htl'.out];exact hlt
   have hG:=hGj'.out j (by omega)
   have hst:=joinL_step ts j hlt'
   have hat:=joinL_at ts j hlt'
   rw[hta'.out j hlt]at hst hat
   have hFi:=hps _ (List.getElem_mem hlt)
   have i1:(j:Int)<(ps.length:Int):=by omega
   have hlj:=atL_len zs (F++joinL (ts.take j))
   rw[List.length_append]at hlj
   obtain⟨wb,hwb⟩:=hid_ex (wr.alloc (.cells #[.slice x0 y0 z0,.int .i64 ps[j].tk,.int .i64 ps[j].tn] 57))
   have hKr:=lt_of_some hp.row
   have hpb:Pr K w1 W wb sv tv' (atL zs (F++joinL (ts.take j))):=by rw[hwb.out];exact hp.alloc _
   have hbxr:BxT wr.heap.size wb [.slice x0 y0 z0,.int .i64 ps[j].tk,.int .i64 ps[j].tn] 57:=by rw[hwb.out];exact BxT.new wr _ _
   have hszr:Hid (wr.heap.size+1=wb.heap.size):=by rw[hwb.out];show _=_;simp
   have hlp:(32::paL l ps[j]).length=(paL l ps[j]).length+1:=rfl
   have hlq:([32,44]:List Int).length=2:=rfl
   have hlr:(32::(ps[j].name++sayTy l ps[j].tk ps[j].tn)).length=(32::paL l ps[j]).length:=rfl
   clear hcl
   by_cases hz:j=0
   ·rw[if_pos hz]at hst hat
    have he:atL (atL zs (F++joinL (ts.take j))) (32::paL l ps[j])=atL zs (F++joinL (ts.take (j+1))):=by rw[hst,atL_at zs hG];simp[List.append_assoc]
    have i2:¬ (0:Int)<(j:Int):=by omega
    have hz':Hid (j=0):=hz
    clear hz hst hbxr
    go_wp2_with fail
    rw[←hwb.out]
    refine (param_any K w1 W _ sv tv' _ _ l ps[j].name ps[j].tk ps[j].tn hpb hl hnm hFi.ty r0 hFi.tok hFi.nm (by omega)).mono ?_
    rintro e w4 ⟨rfl,t4,hp4⟩
    replace hp4:Pr K w1 W w4 sv t4 (atL zs (F++joinL (ts.take (j+1)))):=by rw[←he];exact hp4
    go_wp2_with fail
    go_roundw
    case rel=>exact⟨j+1,_,by go_num,by omega,hp4⟩
    case measure=>simp[intOf];omega
   ·rw[if_neg hz]at hst hat
    have hG4:Good (F++joinL (ts.take j)++[32,44]):=hG.app ⟨by decide,by decide⟩
    have he1:atL (atL zs (F++joinL (ts.take j))) [32,44]=atL zs (F++joinL (ts.take j)++[32,44]):=atL_at zs hG _
    have he:atL (atL zs (F++joinL (ts.take j)++[32,44])) (32::paL l ps[j])=atL zs (F++joinL (ts.take (j+1))):=by rw[hst,atL_at zs hG4];simp[List.append_assoc]
    have hl2:=atL_len zs (F++joinL (ts.take j)++[32,44])
    rw[List.length_append,List.length_append]at hl2
    have i2:(0:Int)<(j:Int):=by omega
    have HCr:Hid (∀ i u,[Value.slice x0 y0 z0,.int .i64 ps[j].tk,.int .i64 ps[j].tn][i]?=some u→∀ w',KP K wb w'→w'.cell? ⟨wr.heap.size,i,none⟩=some u):=fun i u hu=>hbxr.kp (by decide) (by omega) i u hu
    have hbk:=hpb.kp
    have hpf:=hpb.from
    clear hst hbxr hpb
    go_wp2_with fail
    rw[←hwb.out]
    refine (put1 K wb W wb sv tv' _ ⟨#[44]⟩ [32,44] rfl hpf (by decide) (by omega) _ hszr.out).mono ?_
    rintro e w3 ⟨rfl,t3,hp3⟩
    rw[he1]at hp3
    have c0:=HCr.out 0 _ rfl _ hp3.kp
    have c1:=HCr.out 1 _ rfl _ hp3.kp
    have c2:=HCr.out 2 _ rfl _ hp3.kp
    go_wp2_with fail
    refine (param_any K w1 W _ sv t3 _ _ l ps[j].name ps[j].tk ps[j].tn (hp3.back hbk) hl hnm hFi.ty r0 hFi.tok hFi.nm (by omega)).mono ?_
    rintro e w4 ⟨rfl,t4,hp4⟩
    replace hp4:Pr K w1 W w4 sv t4 (atL zs (F++joinL (ts.take (j+1)))):=by rw[←he];exact hp4
    go_wp2_with fail
    go_roundw
    case rel=>exact⟨j+1,_,by go_num,by omega,hp4⟩
    case measure=>simp[intOf];omega
  ·have hje:j=ps.length:=by omega
   have i1:¬ (j:Int)<(ps.length:Int):=by omega
   rw[hje,← htl'.out,List.take_length,← hJ.out]at hp
   have hlj:=atL_len zs J
   have hl2:=atL_len zs (J++[32,41])
   have hl3:=atL_len zs (J++[32,41]++sayTy l rk rn)
   have hlc:([32,41]:List Int).length=2:=rfl
   rw[List.length_append]at hl2
   rw[List.length_append,List.length_append]at hl3
   have he1:atL (atL zs J) [32,41]=atL zs (J++[32,41]):=atL_at zs hGJ _
   have he2:atL (atL zs (J++[32,41])) (sayTy l rk rn)=atL zs (J++[32,41]++sayTy l rk rn):=atL_at zs hG2 _
   have hlB:(atL zs (J++[32,41]++sayTy l rk rn)++blockL (St.says l body)).length=(atL zs (J++[32,41]++sayTy l rk rn)).length+(blockL (St.says l body)).length:=List.length_append
   go_wp2_with fail
   refine (put1 K w1 W wr sv tv' _ ⟨#[41]⟩ [32,41] rfl hp (by decide) (by omega) _ rfl).mono ?_
   rintro e w3 ⟨rfl,t3,hp3⟩
   rw[he1]at hp3
   have q2:=HC.out 2 _ rfl _ hp3.kp
   have q3:=HC.out 3 _ rfl _ hp3.kp
   go_wp2_with fail
   refine (pty_any K w1 W w3 sv t3 _ l rk rn hp3 hl hnm hty (by omega)).mono ?_
   rintro e w4 ⟨rfl,t4,hp4⟩
   rw[he2]at hp4
   have q4:=HC.out 4 _ rfl _ hp4.kp
   go_wp2_with fail
   refine (hBk K w1 w4 t4 _ hp4 (midB_at zs hG3) (by omega)).mono ?_
   rintro e w5 ⟨rfl,t5,hp5⟩
   go_wp2_with fail
   refine (endLine_any K w1 W w5 sv t5 _ hp5 (by omega)).mono ?_
   rintro e w6 ⟨rfl,t6,hp6⟩
   go_wp2_with fail
   refine bodyPost_end (results_none rfl _ _ _) rfl ?_
   exact HF.out _ _ hp6
end Go.Proofs.YtmdejbphoafjlaaGreatDoor
