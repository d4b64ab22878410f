import Derived.Test.YtgaddpkkjebekaaGreatDoorZ27
set_option maxHeartbeats 100000000
set_option maxRecDepth 100000
namespace Go.Proofs.YtgaddpkkjebekaaGreatDoor
open Go.RowKit Go.Lib
theorem ty_1 (K:Nat) (A W w:World) (sv tv:Value) (zs:List Int) (l:List Sc) (n:Int) (h:Pr K A W w sv tv zs) (hb:zs.length+(aN l 1 n).length<=1000000) :
  Calls Tryz.prog 81 #[.pointer (some ⟨K,0,none⟩),.agg #[.int .i64 1,.int .i64 n]] w (PrP K A W sv (atL zs (aN l 1 n))):=by
 have hA:=h.alloc (.cells #[.int .i64 1,.int .i64 n] 52);have hK:=lt_of_some h.row;go_enter Tryz.func81,Tryz.ntmps81;go_wp2_with fail
 refine (jw K A W _ sv tv zs ⟨#[105,110,116]⟩ (aN l 1 n) rfl hA (by decide) hb _ (by simp)).mono ?_;rintro e w2 ⟨rfl,t2,hp2⟩;go_wp2_with fail
 refine bodyPost_end (results_none rfl _ _ _) rfl ?_;exact⟨rfl,_,hp2⟩
theorem ty_2 (K:Nat) (A W w:World) (sv tv:Value) (zs:List Int) (l:List Sc) (n:Int) (h:Pr K A W w sv tv zs) (hb:zs.length+(aN l 2 n).length<=1000000) :
  Calls Tryz.prog 81 #[.pointer (some ⟨K,0,none⟩),.agg #[.int .i64 2,.int .i64 n]] w (PrP K A W sv (atL zs (aN l 2 n))):=by
 have hA:=h.alloc (.cells #[.int .i64 2,.int .i64 n] 52);have hK:=lt_of_some h.row;go_enter Tryz.func81,Tryz.ntmps81;go_wp2_with fail
 refine (jw K A W _ sv tv zs ⟨#[102,108,111,97,116]⟩ (aN l 2 n) rfl hA (by decide) hb _ (by simp)).mono ?_;rintro e w2 ⟨rfl,t2,hp2⟩;go_wp2_with fail
 refine bodyPost_end (results_none rfl _ _ _) rfl ?_;exact⟨rfl,_,hp2⟩
theorem ty_3 (K:Nat) (A W w:World) (sv tv:Value) (zs:List Int) (l:List Sc) (n:Int) (h:Pr K A W w sv tv zs) (hb:zs.length+(aN l 3 n).length<=1000000) (hl:RdL W 2 sv (Sc.ah l)) (h0:0<=n) (h1:n<l.length) (hnm:1<=(iC l n).length/\aV (iC l n)=true) :
  Calls Tryz.prog 81 #[.pointer (some ⟨K,0,none⟩),.agg #[.int .i64 3,.int .i64 n]] w (PrP K A W sv (atL zs (aN l 3 n))):=by
 have hA:=h.alloc (.cells #[.int .i64 3,.int .i64 n] 52);have hK:=lt_of_some h.row;go_enter Tryz.func81,Tryz.ntmps81;go_wp2_with fail
 refine (jm K A W _ sv tv zs l n hA hl h0 h1 hnm.1).mono ?_;rintro e w1 ⟨s,rfl,hs,hw⟩;obtain rfl:=hw.symm;clear hw;have hs1:aV (bytesOf s)=true:=by rw[hs];exact hnm.2
 go_wp2_with fail
 refine (Oi K A W _ sv tv zs ⟨#[42]⟩ s (aN l 3 n) (by rw[hs];simp[spread,bytesOf,aN];done) hA (by decide) hs1 hb _ (by simp)).mono ?_;rintro e w2 ⟨rfl,t2,hp2⟩;go_wp2_with fail
 refine bodyPost_end (results_none rfl _ _ _) rfl ?_;exact⟨rfl,_,hp2⟩
theorem ty_4 (K:Nat) (A W w:World) (sv tv:Value) (zs:List Int) (l:List Sc) (n:Int) (h:Pr K A W w sv tv zs) (hb:zs.length+(aN l 4 n).length<=1000000) :
  Calls Tryz.prog 81 #[.pointer (some ⟨K,0,none⟩),.agg #[.int .i64 4,.int .i64 n]] w (PrP K A W sv (atL zs (aN l 4 n))):=by
 have hA:=h.alloc (.cells #[.int .i64 4,.int .i64 n] 52);have hK:=lt_of_some h.row;go_enter Tryz.func81,Tryz.ntmps81;go_wp2_with fail
 refine (UC K A W _ sv tv zs ⟨#[91]⟩ ⟨#[93]⟩ ⟨#[105,110,116]⟩ (aN l 4 n) rfl hA (by decide) (by decide) (by decide) hb _ (by simp)).mono ?_;rintro e w2 ⟨rfl,t2,hp2⟩;go_wp2_with fail
 refine bodyPost_end (results_none rfl _ _ _) rfl ?_;exact⟨rfl,_,hp2⟩
theorem ty_5 (K:Nat) (A W w:World) (sv tv:Value) (zs:List Int) (l:List Sc) (n:Int) (h:Pr K A W w sv tv zs) (hb:zs.length+(aN l 5 n).length<=1000000) :
  Calls Tryz.prog 81 #[.pointer (some ⟨K,0,none⟩),.agg #[.int .i64 5,.int .i64 n]] w (PrP K A W sv (atL zs (aN l 5 n))):=by
 have hA:=h.alloc (.cells #[.int .i64 5,.int .i64 n] 52);have hK:=lt_of_some h.row;go_enter Tryz.func81,Tryz.ntmps81;go_wp2_with fail
 refine (UC K A W _ sv tv zs ⟨#[91]⟩ ⟨#[93]⟩ ⟨#[102,108,111,97,116]⟩ (aN l 5 n) rfl hA (by decide) (by decide) (by decide) hb _ (by simp)).mono ?_;rintro e w2 ⟨rfl,t2,hp2⟩;go_wp2_with fail
 refine bodyPost_end (results_none rfl _ _ _) rfl ?_;exact⟨rfl,_,hp2⟩
theorem ty_6 (K:Nat) (A W w:World) (sv tv:Value) (zs:List Int) (l:List Sc) (n:Int) (h:Pr K A W w sv tv zs) (hb:zs.length+(aN l 6 n).length<=1000000) (hl:RdL W 2 sv (Sc.ah l)) (h0:0<=n) (h1:n<l.length) (hnm:1<=(iC l n).length/\aV (iC l n)=true) :
  Calls Tryz.prog 81 #[.pointer (some ⟨K,0,none⟩),.agg #[.int .i64 6,.int .i64 n]] w (PrP K A W sv (atL zs (aN l 6 n))):=by
 have hA:=h.alloc (.cells #[.int .i64 6,.int .i64 n] 52);have hK:=lt_of_some h.row;go_enter Tryz.func81,Tryz.ntmps81;go_wp2_with fail
 refine (jm K A W _ sv tv zs l n hA hl h0 h1 hnm.1).mono ?_;rintro e w1 ⟨s,rfl,hs,hw⟩;obtain rfl:=hw.symm;clear hw;have hs1:aV (bytesOf s)=true:=by rw[hs];exact hnm.2
 go_wp2_with fail
 refine (put4 K A W _ sv tv zs ⟨#[91]⟩ ⟨#[93]⟩ ⟨#[42]⟩ s (aN l 6 n) (by rw[hs];simp[spread,bytesOf,aN];done) hA (by decide) (by decide) (by decide) hs1 hb _ (by simp)).mono ?_;rintro e w2 ⟨rfl,t2,hp2⟩;go_wp2_with fail
 refine bodyPost_end (results_none rfl _ _ _) rfl ?_;exact⟨rfl,_,hp2⟩
theorem ty_0 (K:Nat) (A W w:World) (sv tv:Value) (zs:List Int) (n:Int) (h:Pr K A W w sv tv zs) :
  Calls Tryz.prog 81 #[.pointer (some ⟨K,0,none⟩),.agg #[.int .i64 0,.int .i64 n]] w (PrP K A W sv zs):=by
 have hA:=h.alloc (.cells #[.int .i64 0,.int .i64 n] 52);go_enter Tryz.func81,Tryz.ntmps81;go_wp2_with fail
 refine bodyPost_end (results_none rfl _ _ _) rfl ?_;exact⟨rfl,_,hA⟩
def dm (l:List Sc):Prop:=∀ x∈l,(1<=x.name.length/\x.name.length<=1000)/\aV x.name=true
theorem dm.at {l:List Sc}(h:dm l) {n:Int}(h0:0<=n) (h1:n<l.length):1<=(iC l n).length/\aV (iC l n)=true:=by
 have hN:n.toNat<l.length:=by omega
 have he:iC l n=l[n.toNat].name:=by unfold iC;rw[List.getElem?_eq_getElem hN]
 have:=h _ (List.getElem_mem hN);rw[he];exact⟨this.1.1,this.2⟩
def jv (l:List Sc) (k n:Int):Prop:=0<=k/\k<=6/\(k=3\/k=6->0<=n/\n<l.length)
theorem zn (K:Nat) (A W w:World) (sv tv:Value) (zs:List Int) (l:List Sc) (k n:Int) (h:Pr K A W w sv tv zs) (hl:RdL W 2 sv (Sc.ah l)) (hnm:dm l) (ht:jv l k n) (hb:zs.length+(aN l k n).length<=1000000) :
  Calls Tryz.prog 81 #[.pointer (some ⟨K,0,none⟩),.agg #[.int .i64 k,.int .i64 n]] w (PrP K A W sv (atL zs (aN l k n))):=by
 obtain⟨k0,k6,hn⟩:=ht;have:k=0\/k=1\/k=2\/k=3\/k=4\/k=5\/k=6:=by omega
 obtain rfl|rfl|rfl|rfl|rfl|rfl|rfl:=this
 ·rw[show aN l 0 n=[] from rfl,zA];exact ty_0 K A W w sv tv zs n h
 ·exact ty_1 K A W w sv tv zs l n h hb
 ·exact ty_2 K A W w sv tv zs l n h hb
 ·exact ty_3 K A W w sv tv zs l n h hb hl (hn (.inl rfl)).1 (hn (.inl rfl)).2 (hnm.at (hn (.inl rfl)).1 (hn (.inl rfl)).2)
 ·exact ty_4 K A W w sv tv zs l n h hb
 ·exact ty_5 K A W w sv tv zs l n h hb
 ·exact ty_6 K A W w sv tv zs l n h hb hl (hn (.inr rfl)).1 (hn (.inr rfl)).2 (hnm.at (hn (.inr rfl)).1 (hn (.inr rfl)).2)
theorem y8 {l:List Sc}(hnm:dm l) {k n:Int}(ht:jv l k n):aN l k n=[]\/Good (aN l k n):=by
 obtain⟨k0,k6,hn⟩:=ht;have:k=0\/k=1\/k=2\/k=3\/k=4\/k=5\/k=6:=by omega
 obtain rfl|rfl|rfl|rfl|rfl|rfl|rfl:=this
 ·exact .inl rfl
 ·exact .inr ⟨by simp[aN],rfl⟩
 ·exact .inr ⟨by simp[aN],rfl⟩
 ·exact .inr ⟨by show 2<=([32,42,32]++iC l n).length;simp,aT _ (hnm.at (hn (.inl rfl)).1 (hn (.inl rfl)).2).2⟩
 ·exact .inr ⟨by simp[aN],rfl⟩
 ·exact .inr ⟨by simp[aN],rfl⟩
 ·exact .inr ⟨by show 2<=([32,91,32,93,32,42,32]++iC l n).length;simp,aT _ (hnm.at (hn (.inr rfl)).1 (hn (.inr rfl)).2).2⟩
theorem BxT.kp {b K:Nat}{A:World}{cs:List Value}{t:TypeId}(h:BxT b A cs t) (ht:t≠5) (hK:b≠K) (i:Nat) (u:Value) (hu:cs[i]?=some u):∀ w',KP K A w'->w'.cell? ⟨b,i,none⟩=some u:=fun w' k=>BxT.cell (t:=t) (by unfold BxT at h ⊢;rw[k.2 b _ _ _ hK h ht];exact h) i u hu
theorem xR (K:Nat) (A W w:World) (sv tv v0:Value) (zs:List Int) (l:List Sc) (nm:List Int) (k n:Int) (h:Pr K A W w sv tv zs) (hl:RdL W 2 sv (Sc.ah l)) (hnm:dm l) (ht:jv l k n) (h0:RdN W v0 nm) (hm:aV nm=true) (h1:1<=nm.length) (hb:zs.length+(32::(nm++aN l k n)).length<=1000000) :
  Calls Tryz.prog 80 #[.pointer (some ⟨K,0,none⟩),.agg #[v0,.int .i64 k,.int .i64 n]] w (PrP K A W sv (atL zs (32::(nm++aN l k n)))):=by
 obtain⟨s,g0,off0,q,rfl,hg0,hs,hcv⟩:=jc h0 h1
 obtain⟨w1,hw1⟩:∃ w1,Hid (w1=w.alloc (.cells #[.slice (some ⟨g0,off0,none⟩) nm.length q,.int .i64 k,.int .i64 n] 75)):=⟨_,rfl⟩
 have hK:=lt_of_some h.row;have hA:Pr K A W w1 sv tv zs:=by rw[hw1.out];exact h.alloc _
 have hsz:Hid (w.heap.size+1=w1.heap.size):=by rw[hw1.out];show _=_;simp
 have hbx:BxT w.heap.size w1 [.slice (some ⟨g0,off0,none⟩) nm.length q,.int .i64 k,.int .i64 n] 75:=by rw[hw1.out];exact BxT.new w _ _
 have HQ1:Hid (∀ w',KP K w1 w'->w'.cell? ⟨w.heap.size,1,none⟩=some (.int .i64 k)):=hbx.kp (by decide) (by omega) 1 _ rfl;have HQ2:Hid (∀ w',KP K w1 w'->w'.cell? ⟨w.heap.size,2,none⟩=some (.int .i64 n)):=hbx.kp (by decide) (by omega) 2 _ rfl;have hs1:aV (bytesOf s)=true:=by rw[hs];exact hm
 have cv:=hcv w1 hA.lat
 have HF:Hid (∀ w' t',Pr K w1 W w' sv t' (atL zs (32::(nm++aN l k n)))->PrP K A W sv (atL zs (32::(nm++aN l k n))) (.returned (.tuple #[])) w'):=fun w' t' hp=>⟨rfl,t',hp.back hA.kp⟩
 have hA1:=hA.from
 have hl1:(atL zs (32::nm)).length<=zs.length+(nm.length+1):=by have:=bJ zs (32::nm);simpa using this
 have hl2:(32::(nm++aN l k n)).length=nm.length+(aN l k n).length+1:=by simp
 have hat:=cZ zs (Good.cons hm) (aN l k n);rw[hl2]at hb
 generalize hQ:PrP K A W sv (atL zs (32::(nm++aN l k n)))=Q
 rw[hQ]at HF;clear hQ hA h hbx hcv h0;rw[hw1.out]at cv;go_enter Tryz.func80,Tryz.ntmps80;go_wp2_with fail
 rw[<-hw1.out];refine (jw K w1 W w1 sv tv zs s (32::nm) (by rw[hs];simp[spread]) hA1 hs1 (by rw[List.length_cons];omega) _ hsz.out).mono ?_;rintro e w2 ⟨rfl,t2,hp2⟩;have q1:=HQ1.out _ hp2.kp;have q2:=HQ2.out _ hp2.kp;go_wp2_with fail
 refine (zn K w1 W w2 sv t2 _ l k n hp2 hl hnm ht (by omega)).mono ?_;rintro e w3 ⟨rfl,t3,hp3⟩;rw[hat]at hp3;go_wp2_with fail
 refine bodyPost_end (results_none rfl _ _ _) rfl ?_;exact HF.out _ _ hp3
def mY (sg:List Int):List (List Int)->List Int
 | []=>[]
 | x::r=>(32::sg)++x++mY sg r
def bI (sg:List Int):List (List Int)->List Int
 | []=>[]
 | x::r=>x++mY sg r
theorem BZ (sg:List Int) (x y:List (List Int)):mY sg (x++y)=mY sg x++mY sg y:=by
 induction x with
 | nil=>rfl
 | cons a r ih=>rw[List.cons_append,mY,mY,ih];simp only[List.append_assoc]
theorem oQ (sg:List Int) (ts:List (List Int)) (j:Nat) (h:j<ts.length):bI sg (ts.take (j+1))=bI sg (ts.take j)++(if j=0 then [] else 32::sg)++ts[j]:=by
 cases ts with
 | nil=>simp at h
 | cons x r =>
  cases j with
  | zero=>simp[bI,mY]
  | succ j =>
   have hj:j<r.length:=by simpa using h
   rw[List.take_succ_cons,List.take_succ_cons,bI,bI,List.take_add_one,BZ,List.getElem?_eq_getElem hj];simp[mY]
theorem MI (sg:List Int) (ts:List (List Int)) (j:Nat):(bI sg (ts.take j)).length<=(bI sg ts).length:=by
 have h:∀ x y:List (List Int),(bI sg x).length<=(bI sg (x++y)).length:=by
  intro x y
  cases x with
  | nil=>simp[bI]
  | cons a r=>rw[List.cons_append,bI,bI,BZ];simp only[List.length_append];omega
 have:=h (ts.take j) (ts.drop j)
 rwa [List.take_append_drop]at this
theorem Ph (sg:List Int) (ts:List (List Int)) (j:Nat) (h:j<ts.length):(bI sg (ts.take j)).length+(if j=0 then 0 else sg.length+1)+ts[j].length<=(bI sg ts).length:=by
 have h1:=MI sg ts (j+1);rw[oQ sg ts j h]at h1;by_cases h0:j=0
 ·rw[if_pos h0]at h1 ⊢;simp only[List.length_append,List.length_nil]at h1;omega
 ·rw[if_neg h0]at h1 ⊢;simp only[List.length_append,List.length_cons]at h1;omega
theorem EI (ts:List (List Int)):mY [44] ts=kM ts:=by
 induction ts with
 | nil=>rfl
 | cons x r ih=>rw[mY,kM,ih]
theorem mi (ts:List (List Int)):bI [44] ts=joinL ts:=by
 cases ts with
 | nil=>rfl
 | cons x r=>rw[bI,joinL,EI]
theorem lm (sg:List Int) (hsg:aV sg=true) (ts:List (List Int)) (hg:∀ t∈ts,Good t):∀ j,0<j->j<=ts.length->Good (bI sg (ts.take j)):=by
 intro j h0 hj
 induction j with
 | zero=>exact absurd h0 (Nat.lt_irrefl _)
 | succ j ih =>
  rw[oQ sg ts j hj];have hG:=hg _ (List.getElem_mem hj);by_cases hz:j=0
  ·subst hz;simpa[bI] using hG
  ·rw[if_neg hz];exact ((ih (by omega) (by omega)).app (Good.cons hsg)).app hG
def BP (W:World) (sv v1:Value) (m j:Nat) (t:List Int):Prop:=j<m/\∃ (g off cap:Nat) (k n tk tn:Int) (x0 x1:Option Addr) (y0 z0 y1 z1:Nat),v1=.slice (some ⟨g,off,none⟩) m cap/\g<W.heap.size /\
 (∀ w',Later W w'->w'.cell? ⟨g,off+j*6,none⟩=some (.int .i64 k)/\w'.cell? ⟨g,off+j*6+1,none⟩=some (.int .i64 n)/\w'.cell? ⟨g,off+j*6+2,none⟩=some (.int .i64 tk)/\w'.cell? ⟨g,off+j*6+3,none⟩=some (.int .i64 tn)/\w'.cell? ⟨g,off+j*6+4,none⟩=some (.slice x0 y0 z0)/\w'.cell? ⟨g,off+j*6+5,none⟩=some (.slice x1 y1 z1)) /\
 (∀ K A w tv zs,Pr K A W w sv tv zs->zs.length+t.length<=1000000->Calls Tryz.prog 139 #[.pointer (some ⟨K,0,none⟩),.agg #[.int .i64 k,.int .i64 n,.int .i64 tk,.int .i64 tn,.slice x0 y0 z0,.slice x1 y1 z1]] w (PrP K A W sv (atL zs t)))
def jX (W:World) (sv v1:Value) (ts:List (List Int)):Prop:=∃ a1 cap1,v1=.slice a1 ts.length cap1/\(∀ t∈ts,Good t)/\∀ (j:Nat) (hj:j<ts.length),BP W sv (.slice a1 ts.length cap1) ts.length j ts[j]
theorem Bl (K:Nat) (A W w:World) (sv tv v1:Value) (zs sg:List Int) (s:ByteArray) (ts:List (List Int)) (h:Pr K A W w sv tv zs) (hks:jX W sv v1 ts) (hs:bytesOf s=sg) (hsg:aV sg=true) (hts:ts.length<=1000) (hb:zs.length+(bI sg ts).length<=1000000) :
  Calls Tryz.prog 138 #[.pointer (some ⟨K,0,none⟩),v1,.string s] w (PrP K A W sv (atL zs (bI sg ts))):=by
 obtain⟨a1,cap1,rfl,hg,hk⟩:=hks;have hs1:aV (bytesOf s)=true:=by rw[hs];exact hsg
 have hsp:Hid (spread [bytesOf s]=32::sg):=by show _=_;rw[hs];simp[spread]
 have hss:Hid _:=hs;have hgd:Hid (∀ j,0<j->j<=ts.length->Good (bI sg (ts.take j))):=lm sg hsg ts hg;have HKs:Hid _:=hk
 have HF:Hid (∀ w' t',Pr K w W w' sv t' (atL zs (bI sg ts))->PrP K A W sv (atL zs (bI sg ts)) (.returned (.tuple #[])) w'):=fun w' t' hp=>⟨rfl,t',hp.back h.kp⟩
 have hp0:=h.from
 generalize hQ:PrP K A W sv (atL zs (bI sg ts))=Q
 rw[hQ]at HF;clear hQ hk h hs hg;go_enter Tryz.func138,Tryz.ntmps138;go_wp2_with fail
 go_loopw [10] (fun i wr=>∃ (j:Nat) (tv':Value),i=.int .i64 (j:Int)/\j<=ts.length/\Pr K w W wr sv tv' (atL zs (bI sg (ts.take j)))) (fun i _=>ts.length - (intOf i).toNat)
 case atStart=>exact⟨0,tv,rfl,Nat.zero_le _,by rw[List.take_zero,bI,zA];exact hp0⟩
 case round =>
  obtain⟨j,tv',rfl,hj,hp⟩:=hrel;by_cases hlt:j<ts.length
  ·obtain⟨_,g,off,cap',k,n',tk',tn',x0,x1,y0,z0,y1,z1,e1,hgs,hcl,hcall⟩:=HKs.out j hlt
   cases e1
   obtain⟨d0,d1,d2,d3,d4,d5⟩:=hcl _ hp.lat;have hat:=Ph sg ts j hlt;have i1:(j:Int)<(ts.length:Int):=by omega
   have hl1:=bJ zs (bI sg (ts.take j))
   obtain⟨wb,hwb⟩:∃ wb,Hid (wb=wr.alloc (.cells #[.int .i64 k,.int .i64 n',.int .i64 tk',.int .i64 tn',.slice x0 y0 z0,.slice x1 y1 z1] 148)):=⟨_,rfl⟩
   have hK:=lt_of_some hp.row;have hpb:Pr K w W wb sv tv' (atL zs (bI sg (ts.take j))):=by rw[hwb.out];exact hp.alloc _
   have hbx:BxT wr.heap.size wb [.int .i64 k,.int .i64 n',.int .i64 tk',.int .i64 tn',.slice x0 y0 z0,.slice x1 y1 z1] 148:=by rw[hwb.out];exact BxT.new wr _ _
   have hsz:Hid (wr.heap.size+1=wb.heap.size):=by rw[hwb.out];show _=_;simp
   clear hcl;by_cases h0:j=0
   ·rw[if_pos h0]at hat;have hst:=oQ sg ts j hlt;rw[if_pos h0]at hst
    have he:atL (atL zs (bI sg (ts.take j))) ts[j]=atL zs (bI sg (ts.take (j+1))):=by
     rw[hst];subst h0;rw[List.take_zero,bI,zA];rfl
    have i2:¬ (0:Int)<(j:Int):=by omega
    have h0':Hid (j=0):=h0;clear h0;go_wp2_with fail
    refine (hcall K w _ tv' _ (hp.alloc _) (by omega)).mono ?_;rintro e w2 ⟨rfl,t2,hp2⟩;rw[he]at hp2;go_wp2_with fail
    go_roundw
    case rel=>exact⟨j+1,_,by go_num,by omega,hp2⟩
    case measure=>simp[intOf];omega
   ·rw[if_neg h0]at hat;have hst:=oQ sg ts j hlt;rw[if_neg h0]at hst;have hG:=hgd.out j (by omega) hj;have he1:atL (atL zs (bI sg (ts.take j))) (32::sg)=atL zs (bI sg (ts.take j)++32::sg):=cZ zs hG _;have he:atL (atL zs (bI sg (ts.take j)++32::sg)) ts[j]=atL zs (bI sg (ts.take (j+1))):=by rw[hst];exact cZ zs (hG.app (Good.cons hsg)) _
    have i2:(0:Int)<(j:Int):=by omega
    have hl2:=bJ zs (bI sg (ts.take j)++32::sg);rw[List.length_append,List.length_cons]at hl2;have HC:Hid (∀ i u,[Value.int .i64 k,.int .i64 n',.int .i64 tk',.int .i64 tn',.slice x0 y0 z0,.slice x1 y1 z1][i]?=some u->∀ w',KP K wb w'->w'.cell? ⟨wr.heap.size,i,none⟩=some u):=fun i u hu=>hbx.kp (by decide) (by omega) i u hu;have hbk:=hpb.kp;have hpf:=hpb.from
    clear hbx hst hpb;go_wp2_with fail
    rw[<-hwb.out];refine (jw K wb W wb sv tv' _ s (32::sg) hsp.out hpf hs1 (by rw[List.length_cons];omega) _ hsz.out).mono ?_;rintro e w2 ⟨rfl,t2,hp2⟩;rw[he1]at hp2;have c0:=HC.out 0 _ rfl _ hp2.kp;have c1:=HC.out 1 _ rfl _ hp2.kp;have c2:=HC.out 2 _ rfl _ hp2.kp;have c3:=HC.out 3 _ rfl _ hp2.kp;have c4:=HC.out 4 _ rfl _ hp2.kp;have c5:=HC.out 5 _ rfl _ hp2.kp;go_wp2_with fail
    refine (hcall K w _ t2 _ (hp2.back hbk) (by omega)).mono ?_;rintro e w3 ⟨rfl,t3,hp3⟩;rw[he]at hp3;go_wp2_with fail
    go_roundw
    case rel=>exact⟨j+1,_,by go_num,by omega,hp3⟩
    case measure=>simp[intOf];omega
  ·have hje:j=ts.length:=by omega
   have i1:¬ (j:Int)<(ts.length:Int):=by omega
   rw[hje,List.take_length]at hp;go_wp2_with fail
   refine bodyPost_end (results_none rfl _ _ _) rfl ?_;exact HF.out _ _ hp
theorem fV (K:Nat) (A W w:World) (sv tv v1:Value) (zs fi la:List Int) (s0 s1:ByteArray) (ts:List (List Int)) (h:Pr K A W w sv tv zs) (hks:jX W sv v1 ts) (hs0:bytesOf s0=fi) (hs1:bytesOf s1=la) (hm0:aV fi=true) (hm1:aV la=true) (hts:ts.length<=1000) (hb:zs.length+((32::fi)++joinL ts++(32::la)).length<=1000000) :
  Calls Tryz.prog 140 #[.pointer (some ⟨K,0,none⟩),.string s0,v1,.string s1] w (PrP K A W sv (atL zs ((32::fi)++joinL ts++(32::la)))):=by
 have hp0:=h.from
 have hj:ts=[]\/Good (joinL ts):=by
  obtain⟨_,_,_,hg,_⟩:=hks
  cases ts with
  | nil=>exact .inl rfl
  | cons x r =>
   have:=lm [44] rfl (x::r) hg (x::r).length (by simp) (Nat.le_refl _);rw[List.take_length,mi]at this;exact .inr this
 have hsp0:spread [bytesOf s0]=32::fi:=by rw[hs0];simp[spread]
 have hsp1:spread [bytesOf s1]=32::la:=by rw[hs1];simp[spread]
 have hG1:Good ((32::fi)++joinL ts):=by
  rcases hj with rfl|hj
  ·rw[joinL,List.append_nil];exact Good.cons hm0
  ·exact (Good.cons hm0).app hj
 have he1:atL (atL zs (32::fi)) (bI [44] ts)=atL zs ((32::fi)++joinL ts):=by rw[mi];exact cZ zs (Good.cons hm0) _
 have he2:atL (atL zs ((32::fi)++joinL ts)) (32::la)=atL zs ((32::fi)++joinL ts++(32::la)):=cZ zs hG1 _;have hl1:=bJ zs (32::fi);have hl2:=bJ zs ((32::fi)++joinL ts);have hjl:(bI [44] ts).length=(joinL ts).length:=by rw[mi]
 simp only[List.length_append,List.length_cons]at hb hl1 hl2;have hm0':aV (bytesOf s0)=true:=by rw[hs0];exact hm0
 have hm1':aV (bytesOf s1)=true:=by rw[hs1];exact hm1
 obtain⟨T,hT⟩:∃ T,Hid (T=atL zs ((32::fi)++joinL ts++(32::la))):=⟨_,rfl⟩
 have HF:Hid (∀ w' t',Pr K w W w' sv t' T->PrP K A W sv T (.returned (.tuple #[])) w'):=fun w' t' hp=>⟨rfl,t',hp.back h.kp⟩
 rw[<-hT.out];rw[<-hT.out]at he2;clear h hs0 hs1;go_enter Tryz.func140,Tryz.ntmps140;go_wp2_with fail
 refine (jw K w W w sv tv zs s0 (32::fi) hsp0 hp0 hm0' (by rw[List.length_cons];omega) _ rfl).mono ?_;rintro e w2 ⟨rfl,t2,hp2⟩;go_wp2_with fail
 refine (Bl K w W w2 sv t2 v1 _ [44] ⟨#[44]⟩ ts hp2 hks rfl rfl hts (by omega)).mono ?_;rintro e w3 ⟨rfl,t3,hp3⟩;rw[he1]at hp3;go_wp2_with fail
 refine (jw K w W w3 sv t3 _ s1 (32::la) hsp1 hp3 hm1' (by rw[List.length_cons];omega) _ rfl).mono ?_;rintro e w4 ⟨rfl,t4,hp4⟩;rw[he2]at hp4;go_wp2_with fail
 refine bodyPost_end (results_none rfl _ _ _) rfl ?_;exact HF.out _ _ hp4
theorem pr0 {K:Nat}{A W w:World}{sv tv:Value}{zs:List Int}(h:Pr K A W w sv tv zs) (cs:List Value) (t:TypeId) (ht:t≠5) (TX:List Int):∃ w1,Hid (w1=w.alloc (.cells cs.toArray t))/\Pr K A W w1 sv tv zs/\Hid (∀ i u,cs[i]?=some u->∀ w',KP K w1 w'->w'.cell? ⟨w.heap.size,i,none⟩=some u)/\Hid (w.heap.size+1=w1.heap.size)/\Pr K w1 W w1 sv tv zs/\∃ T,Hid (T=TX)/\Hid (∀ w' t',Pr K w1 W w' sv t' T->PrP K A W sv T (.returned (.tuple #[])) w'):=by
 have hK:=lt_of_some h.row;have hbx:BxT w.heap.size (w.alloc (.cells cs.toArray t)) cs t:=BxT.new w _ _;have hA:Pr K A W (w.alloc (.cells cs.toArray t)) sv tv zs:=h.alloc _;exact⟨_,rfl,hA,fun i u hu=>hbx.kp ht (by omega) i u hu,by show _=_;simp,hA.from,TX,rfl,fun w' t' hp=>⟨rfl,t',hp.back hA.kp⟩⟩
end Go.Proofs.YtgaddpkkjebekaaGreatDoor
