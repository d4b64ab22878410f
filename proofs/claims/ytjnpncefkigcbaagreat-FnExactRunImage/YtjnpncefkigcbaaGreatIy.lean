import Derived.Test.YtjnpncefkigcbaaGreatIp
import Derived.Test.YtjnpncefkigcbaaGreatIq
import Derived.Test.YtjnpncefkigcbaaGreatIr
import Derived.Test.YtjnpncefkigcbaaGreatIs
import Derived.Test.YtjnpncefkigcbaaGreatIu
import Derived.Test.YtjnpncefkigcbaaGreatIv
import Derived.Test.YtjnpncefkigcbaaGreatIw
import Derived.Test.YtjnpncefkigcbaaGreatIx
import Derived.Test.YtjnpncefkigcbaaGreatIa
set_option maxHeartbeats 100000000
set_option maxRecDepth 100000
namespace Go.Proofs.YtjnpncefkigcbaaGreat
open Go.RowKit Go.Lib Go.Maps
theorem more_any {C:Mx}(hC:MxI C) (hIB:C.IB<C.K) {w:World}{s:Vm}{q:Mq}{iv ov:Value}(h:Al C w s q iv ov) (hpc:q.pc+1=(s.pc:Int)) {p:Nat}{i:Is}(hq:s.pc=p+1) (hi:(cdAt C.x s.fn).ins[p]?=some i) (h10:10≤i.op) (hmv:s.moves≤999990) (hcp:s.copies≤999990) (hout:s.out.length≤1000000) (hev:q.ev≤1000000) (fr:Int) (hfe:fr=((frN C.x s.fn:Nat):Int)) (v1 v2 v3:Value) :
  Calls Tryz.prog 53 #[.pointer (some ⟨C.K,0,none⟩),.agg #[.int .i64 fr,v1,v2,v3],.agg #[.int .i64 i.op,.int .i64 i.a,.int .i64 i.b,.int .i64 i.c,.int .i64 i.n]] w (StM C q.ev (s.ins C.x C.H i)):=by
 have hI:=h.iv;have hii:=(hC.xi.at hI.fn).insI hi;have hfr:=(hC.xi.at hI.fn).fr;have hi6:=(hC.xi.at hI.fn).i6;have hn:=hii.n
 have hql:p<(cdAt C.x s.fn).ins.length:=by
  rcases Nat.lt_or_ge p (cdAt C.x s.fn).ins.length with k|k
  ·exact k
  ·rw[List.getElem?_eq_none k]at hi;cases hi
 have hsafe:hmB i.op=true→SafeAt C.x s.fn ((s.pc:Int) - 1):=fun hm=>⟨p,i,by omega,hi,hm⟩
 have hpb:s.pc≤6000:=by omega
 have hIv:∀ t,s.ins C.x C.H i=.go t→Iv C.x C.H t:=fun t e=>h.iv.ins hC.xi hq hi e;obtain⟨o0,o27,a0,a16,b0,b16,c0,c16,_⟩:=hii;clear hi hq;obtain⟨op,a,b,c,n⟩:=i;simp only at *
 obtain⟨A,rfl⟩:∃ A:Nat,a=(A:Int):=⟨a.toNat,by omega⟩
 obtain⟨B,rfl⟩:∃ B:Nat,b=(B:Int):=⟨b.toNat,by omega⟩
 obtain⟨D,rfl⟩:∃ D:Nat,c=(D:Int):=⟨c.toNat,by omega⟩
 obtain⟨k,rfl⟩:∃ k:Nat,op=(k:Int):=⟨op.toNat,by omega⟩
 have hA:A<16:=by omega
 have hB:B<16:=by omega
 have hD:D<16:=by omega
 have hk:k≤27:=by omega
 have hk10:10≤k:=by omega
 clear o0 o27 a0 a16 b0 b16 c0 c16 h10
 match k,hk,hk10 with
 | 0,_,h28=>omega
 | 1,_,h28=>omega
 | 2,_,h28=>omega
 | 3,_,h28=>omega
 | 4,_,h28=>omega
 | 5,_,h28=>omega
 | 6,_,h28=>omega
 | 7,_,h28=>omega
 | 8,_,h28=>omega
 | 9,_,h28=>omega
 | 10,_,_ =>
  simp[bnd]at hn
  obtain⟨N,rfl⟩:∃ N:Nat,n=(N:Int):=⟨n.toNat,by omega⟩
  have:=mo10_any hC h hpc hpb hA (N:=N) (N8:=N*8) (by omega) rfl (hsafe rfl) hmv hev (fun t e=>hIv t (by rw[show ((N*8:Nat):Int)=(N:Int)*8 by omega]at e;exact e)) fr v1 v2 v3 (B:Int) (D:Int);rw[show ((N*8:Nat):Int)=(N:Int)*8 by omega]at this;exact this
 | 11,_,_ =>
  simp[bnd]at hn
  obtain⟨N,rfl⟩:∃ N:Nat,n=(N:Int):=⟨n.toNat,by omega⟩
  refine mo11_any hC h hpc hpb hA hB (N:=N) (by omega) (hsafe rfl) hmv hev _ (fun e=>?_) (fun k e1 e2=>?_) hIv fr v1 v2 v3 _
  ·show (if 0≤s.rg B∧s.rg B≤100 then _ else St.fin 7 0 s)=_;rw[if_neg e]
  ·show (if 0≤s.rg B∧s.rg B≤100 then s.take C.x C.H (s.rg B*8+1+(N:Int)) (s.rg B).toNat A else St.fin 7 0 s)=_;rw[if_pos (by omega),e1];show s.take C.x C.H ((k:Int)*8+1+(N:Int)) k A=_;rw[show ((k*8+1+N:Nat):Int)=(k:Int)*8+1+(N:Int) by omega]
 | 12,_,_=>exact mo12_any hC h hpc hpb hA fr v1 v2 v3 _ _ _
 | 13,_,_ =>
  refine mo13_any hC h hpc hpb hA hB _ (fun e=>?_) (fun z e=>?_) fr v1 v2 v3 _ _
  ·show (match s.len C.H (s.rg A) with|none=>St.fin 7 0 s|some n=>if 0≤s.rg B∧s.rg B<n then .go s else .fin 3 2 s)=_;rw[e]
  ·show (match s.len C.H (s.rg A) with|none=>St.fin 7 0 s|some n=>if 0≤s.rg B∧s.rg B<n then .go s else .fin 3 2 s)=_;rw[e]
 | 14,_,_=>exact mo14_any hC h hpc hpb hA fr v1 v2 v3 _ _ _
 | 15,_,_=>exact mo15_any hC h hpc hpb hA fr v1 v2 v3 _ _ _
 | 16,_,_ =>
  simp[bnd]at hn
  obtain⟨N,rfl⟩:∃ N:Nat,n=(N:Int):=⟨n.toNat,by omega⟩
  refine mo16_any hC h hpc hpb hA hB (N:=N) _ (fun e=>?_) (fun z e=>?_) fr v1 v2 v3 _
  ·show (match s.fld C.x C.H (s.rg B) (N:Int) with|none=>St.fin 7 0 s|some a=>.go (s.set (A:Int) (s.W a)))=_;rw[e]
  ·show (match s.fld C.x C.H (s.rg B) (N:Int) with|none=>St.fin 7 0 s|some a=>.go (s.set (A:Int) (s.W a)))=_;rw[e]
 | 17,_,_ =>
  simp[bnd]at hn
  obtain⟨N,rfl⟩:∃ N:Nat,n=(N:Int):=⟨n.toNat,by omega⟩
  refine mo17_any hC h hpc hpb hA hB (N:=N) _ (fun e=>?_) (fun z e=>?_) fr v1 v2 v3 _
  ·show (match s.fld C.x C.H (s.rg A) (N:Int) with|none=>St.fin 7 0 s|some a=>.go { s with W:=fset s.W a (s.rg B) })=_;rw[e]
  ·show (match s.fld C.x C.H (s.rg A) (N:Int) with|none=>St.fin 7 0 s|some a=>.go { s with W:=fset s.W a (s.rg B) })=_;rw[e]
 | 18,_,_ =>
  refine mo18_any hC h hpc hpb hA hB hD _ (fun e=>?_) (fun z e=>?_) fr v1 v2 v3 _
  ·show (match s.elm C.H (s.rg B) (s.rg D) with|none=>St.fin 7 0 s|some a=>.go (s.set (A:Int) (s.W a)))=_;rw[e]
  ·show (match s.elm C.H (s.rg B) (s.rg D) with|none=>St.fin 7 0 s|some a=>.go (s.set (A:Int) (s.W a)))=_;rw[e]
 | 19,_,_ =>
  refine mo19_any hC h hpc hpb hA hB hD _ (fun e=>?_) (fun z e=>?_) fr v1 v2 v3 _
  ·show (match s.elm C.H (s.rg A) (s.rg B) with|none=>St.fin 7 0 s|some a=>.go { s with W:=fset s.W a (s.rg D) })=_;rw[e]
  ·show (match s.elm C.H (s.rg A) (s.rg B) with|none=>St.fin 7 0 s|some a=>.go { s with W:=fset s.W a (s.rg D) })=_;rw[e]
 | 20,_,_=>exact mo20_any hC h hpc hpb hA fr v1 v2 v3 _ _ _
 | 21,_,_=>exact mo21_any hC h hpc hpb hA hIB hout fr v1 v2 v3 _ _ _
 | 22,_,_ =>
  simp[bnd]at hn
  obtain⟨N,rfl⟩:∃ N:Nat,n=(N:Int):=⟨n.toNat,by omega⟩
  exact mo22_any hC h hpc hpb hA (N:=N) (by omega) fr hfe v1 v2 v3 _ _
 | 23,_,_ =>
  simp[bnd]at hn
  obtain⟨N,rfl⟩:∃ N:Nat,n=(N:Int):=⟨n.toNat,by omega⟩
  exact mo23_any hC h hpc hpb (N:=N) (by omega) hev hcp hIv fr v1 v2 v3 _ _ _
 | 24,_,_ =>
  simp[bnd]at hn;exact mo24_any hC h hpc hpb hA fr v1 v2 v3 _ _ n (by omega)
 | 25,_,_=>exact mo25_any hC h hpc hpb hA fr v1 v2 v3 _ _ _
 | 26,_,_ =>
  simp[bnd]at hn
  obtain⟨N,rfl⟩:∃ N:Nat,n=(N:Int):=⟨n.toNat,by omega⟩
  exact mo26_any hC h hpc hpb (N:=N) fr v1 v2 v3 _ _ _
 | 27,_,_ =>
  simp[bnd]at hn
  obtain⟨N,rfl⟩:∃ N:Nat,n=(N:Int):=⟨n.toNat,by omega⟩
  exact mo27_any hC h hpc hpb hA (N:=N) fr v1 v2 v3 _ _
 | k+28,h28,_=>omega
def stepI (x:Im) (H:Nat) (s:Vm):St:=match (cdAt x s.fn).ins[s.pc]? with
 | none=>.fin 7 0 s
 | some i=>s.tick.ins x H i
theorem lstep_any {C:Mx}(hC:MxI C) (hIB:C.IB<C.K) {w:World}{s:Vm}{q:Mq}{iv ov:Value}(h:Al C w s q iv ov) (hpc:q.pc=(s.pc:Int)) (hst:s.steps≤1000000) (hmv:s.moves≤999990) (hcp:s.copies≤999990) (hout:s.out.length≤1000000) (hev:q.ev≤1000000) :
  Calls Tryz.prog 24 #[.pointer (some ⟨C.K,0,none⟩)] w (StM C q.ev (stepI C.x C.H s)):=by
 cases hi:(cdAt C.x s.fn).ins[s.pc]? with
 | none =>
  have e:stepI C.x C.H s=.fin 7 0 s:=by unfold stepI;rw[hi]
  rw[e];exact spnone_any hC h hpc hi
 | some i =>
  have e:stepI C.x C.H s=s.tick.ins C.x C.H i:=by unfold stepI;rw[hi]
  rw[e];have hI:=h.iv;have hii:=(hC.xi.at hI.fn).insI hi;have hfr:=(hC.xi.at hI.fn).fr;have hi6:=(hC.xi.at hI.fn).i6;have hn:=hii.n
  have hql:s.pc<(cdAt C.x s.fn).ins.length:=by
   rcases Nat.lt_or_ge s.pc (cdAt C.x s.fn).ins.length with k|k
   ·exact k
   ·rw[List.getElem?_eq_none k]at hi;cases hi
  have hpb:s.pc+1≤6000:=by omega
  by_cases h10:10≤i.op
  ·exact spmore_any hC h rfl hpc hpb hst h10 _ (fun fr v1 v2 v3 w' hf a=>more_any hC hIB a (by rw[hpc];rfl) (p:=s.pc) rfl hi h10 hmv hcp hout hev fr hf v1 v2 v3) hi
  ·obtain⟨o0,o27,a0,a16,b0,b16,c0,c16,_⟩:=hii;clear e;obtain⟨op,a,b,c,n⟩:=i;simp only at *
   obtain⟨A,rfl⟩:∃ A:Nat,a=(A:Int):=⟨a.toNat,by omega⟩
   obtain⟨B,rfl⟩:∃ B:Nat,b=(B:Int):=⟨b.toNat,by omega⟩
   obtain⟨D,rfl⟩:∃ D:Nat,c=(D:Int):=⟨c.toNat,by omega⟩
   obtain⟨k,rfl⟩:∃ k:Nat,op=(k:Int):=⟨op.toNat,by omega⟩
   have hA:A<16:=by omega
   have hB:B<16:=by omega
   have hD:D<16:=by omega
   have hk:k≤9:=by omega
   clear o0 o27 a0 a16 b0 b16 c0 c16 h10
   match k,hk with
   | 0,_=>exact sp0_any hC h rfl hpc hpb hst hA _ _ _ hi
   | 1,_=>exact sp1_any hC h rfl hpc hpb hst hA hB _ _ hi
   | 2,_ =>
    simp[bnd]at hn
    obtain⟨N,rfl⟩:∃ N:Nat,n=(N:Int):=⟨n.toNat,by omega⟩
    exact sp2_any hC h rfl hpc hpb hst hA (N:=N) (show N<frN C.x s.fn by omega) _ _ hi
   | 3,_ =>
    simp[bnd]at hn
    obtain⟨N,rfl⟩:∃ N:Nat,n=(N:Int):=⟨n.toNat,by omega⟩
    exact sp3_any hC h rfl hpc hpb hst hA (N:=N) (by omega) (show N<frN C.x s.fn by omega) _ _ hi
   | 4,_ =>
    simp[bnd]at hn;refine sp4_any hC h rfl hpc hpb hst hA hB hD hn.1 hn.2 _ (fun e=>?_) (fun e=>?_) hi
    ·show (if s.tick.rg D=0∧(n=3∨n=4) then St.fin 7 0 s.tick else _)=_;rw[if_pos e]
    ·show (if s.tick.rg D=0∧(n=3∨n=4) then St.fin 7 0 s.tick else St.go (s.tick.set (A:Int) (arI n (s.tick.rg B) (s.tick.rg D))))=_;rw[if_neg e]
   | 5,_=>exact sp5_any hC h rfl hpc hpb hst hA hB hD _ hi
   | 6,_=>exact sp6_any hC h rfl hpc hpb hst hA hB hD _ hi
   | 7,_=>exact sp7_any hC h rfl hpc hpb hst hA hB _ _ hi
   | 8,_=>exact sp8_any hC h rfl hpc hpb hst hA hB _ _ hi
   | 9,_ =>
    refine sp9_any hC h rfl hpc hpb hst hA hB _ (fun e=>?_) (fun z e=>?_) _ _ hi
    ·show (match s.tick.len C.H (s.tick.rg B) with|none=>St.fin 7 0 s.tick|some n=>.go (s.tick.set (A:Int) n))=_;rw[e]
    ·show (match s.tick.len C.H (s.tick.rg B) with|none=>St.fin 7 0 s.tick|some n=>.go (s.tick.set (A:Int) n))=_;rw[e]
   | k+10,h28=>omega
theorem run_append_none {P:Program}{w:World}(base:Nat) (t ty e:TypeId) (i:TypeInfo) (size:Nat) (ht:P.underlying t=some (.slice e)) (hi:P.info? e=some i)
  (v:Value) (n:Nat) (xs:List Value) (hown:w.ownsRow base e size v n xs) (c:Nat) :
  (Builtin.append_ #[t,t] ty #[v,.slice none 0 c]).run P w=.ok v w:=by
 rcases hown.2 with ⟨rfl,rfl⟩|⟨g,cap,cur,rfl,_,_,hnc,_⟩
 ·simp[Builtin.append_,run_underlying ht,sizeOf,typeInfo,hi,Builtin.lenOf,Builtin.firstCells]
 ·simp[Builtin.append_,run_underlying ht,sizeOf,typeInfo,hi,Builtin.lenOf,Builtin.firstCells,hnc,storeCells]
def Src (w:World) (u:Value) (m:Nat) (news:List Value):Prop:=(∃ c,u=.slice none 0 c∧m=0∧news=[])∨∃ ad c,u=.slice (some ad) m c∧∀ j y,news[j]?=some y→w.cell? (ad.add j)=some y
theorem step_append_any {P:Program}{ops:Array Oper}{o:Oper}{a:Act}{w:World}{K:Act→World→Prop}{Q:Exit→Act→World→Prop}{E:Prop}
  (hg:o.guard=none) (s x:Operand) (t:TypeId) (hop:o.op=Op.call { callee:=Callee.builtin Builtin.append,args:=#[s,x],argTypes:=#[t,t] })
  (base:Nat) (e:TypeId) (i:TypeInfo) (z:Value) (size bytes:Nat) (ht:P.underlying t=some (.slice e)) (hi:P.info? e=some i) (hz:i.zero=some z)
  (hsize:i.size=size) (hby:i.bytes=bytes) (hzs:z.cells.size=size) (hsz:0<size)
  (v:Value) (n:Nat) (xs:List Value) (hs:a.eval s=v) (hown:w.ownsRow base e size v n xs)
  (u:Value) (m:Nat) (news:List Value) (hx:a.eval x=u) (hu:Src w u m news) (hl:news.length=m*size) (h1:∀ y∈news,y.oneCell'=true)
  (h63:n+m≤maxLen) (hbytes:(n+m)*bytes≤140737488355328) (hbase:base≤w.heap.size)
  (h:∀ v' w',w'.ownsRow base e size v' (n+m) (xs++news)→w.grownBy w' v.ownBlock→(v'.ownBlock=v.ownBlock∨v'.ownBlock=some w.heap.size)→K (a.put o.dst v') w') :
  if Region.wanted o (yielded ops a.tmps)=true then Oper.wp P o a w K Q else E:=by
 rcases hu with ⟨c,rfl,rfl,rfl⟩|⟨ad,c,rfl,hc⟩
 ·have hw:Region.wanted o (yielded ops a.tmps)=true:=by simp[Region.wanted,hg]
  rw[if_pos hw];have hrun:=run_append_none (P:=P) (w:=w) base t o.type e i size ht hi v n xs hown c;unfold Oper.wp execOp;simp only[hop,resolve,invoke,builtin,Sem.run_bind,Sem.run_pure,Result.andThen_ok,List.map_toArray,List.map_cons,List.map_nil,hs,hx,hrun];refine h v w (by simpa using hown) ⟨rfl,rfl,rfl,Nat.le_refl _,fun _ _ _=>rfl⟩ (.inl rfl)
 ·exact step_append_at hg s x t hop base e i z size bytes ht hi hz hsize hby hzs hsz v n xs hs hown ad m c news hx hl hc h1 h63 hbytes hbase h
theorem src_in {w:World}{u:Value}{l:List Int}(h:RdL w 1 u (In.dats l)):Src w u l.length (l.map (Value.int .i64)):=by
 obtain⟨ra,rc,rfl,_⟩:=In.slice h
 cases ra with
 | none =>
  cases l with
  | nil=>exact .inl ⟨rc,rfl,rfl,rfl⟩
  | cons y r=>obtain⟨g,off,q,_⟩:=In.elem h 0 (by simp);cases q
 | some ad =>
  refine .inr ⟨ad,rc,rfl,fun j y hj=>?_⟩;have hl:j<l.length:=by have:=(List.getElem?_eq_some_iff.1 hj).1;rwa [List.length_map]at this
  obtain⟨g,off,q,_,hc⟩:=In.elem h j hl
  cases q
  rw[List.getElem?_map,List.getElem?_eq_getElem hl]at hj;simp only[Option.map_some,Option.some.injEq]at hj;rw[show (⟨g,off,none⟩:Addr).add j=⟨g,off+j,none⟩ from by simp[Addr.add],hc,hj]
theorem src_row {w:World}{base k n:Nat}{e:TypeId}{u:Value}{xs:List Value}(h:w.ownsRow base e k u n xs):Src w u n xs:=by
 rcases h.2 with ⟨rfl,rfl⟩|⟨g,cap,cur,rfl,_⟩
 ·refine .inl ⟨0,rfl,rfl,?_⟩;have:=h.1;rw[Nat.zero_mul]at this;exact List.eq_nil_of_length_eq_zero this
 ·refine .inr ⟨_,cap,rfl,fun j y hj=>?_⟩;have hl:=(List.getElem?_eq_some_iff.1 hj).1;rw[show (⟨g,0,none⟩:Addr).add j=⟨g,j,none⟩ from (by simp[Addr.add];exact fun q=>q.symm),h.cellAt j (by rw[←h.1];exact hl),hj]
theorem lit_row (w:World) {base k:Nat}{e:TypeId}(hb:base≤w.heap.size):(w.alloc (.cells #[] e)).ownsRow base e k (.slice (some ⟨w.heap.size,0,none⟩) 0 0) 0 []:=World.ownsRow_lit w #[] 0 hb (by unfold maxLen;omega) (by simp)
theorem blk_alloc {w:World}{cs:Array Value}{t:TypeId}{n:Nat}{f:Nat→Value}(h:∀ a,a<n→cs[a]?=some (f a)):Blk (w.alloc (Obj.cells cs t)) w.heap.size n f:=⟨box_lt' w _,fun a ha=>⟨box_at' w _ (h a ha),by simp⟩⟩
structure Acc (w0 w:World) (N:Nat) (g1 g2 g3:Option Nat) (vi:Option Value) (zs:List Int):Prop where
 lat:Later w0 w
 a1:∀ g,g1=some g→w0.heap.size≤g∧Blk w g N (fun _=>.int .i64 0)
 a2:∀ g,g2=some g→w0.heap.size≤g∧Blk w g N (fun _=>.bool false)
 a3:∀ g,g3=some g→w0.heap.size≤g∧Blk w g 16 (fun _=>.int .i64 0)
 n12:∀ g h,g1=some g→g2=some h→g≠h
 n13:∀ g h,g1=some g→g3=some h→g≠h
 n23:∀ g h,g2=some g→g3=some h→g≠h
 ai:∀ v,vi=some v→w.ownsRow w0.heap.size 3 1 v zs.length (zs.map (Value.int .i64))∧∀ b,v.ownBlock=some b→(∀ g,g1=some g→g≠b)∧(∀ g,g2=some g→g≠b)∧(∀ g,g3=some g→g≠b)
theorem Acc.start (w:World) (N:Nat):Acc w w.drew N none none none none []:=⟨Later.drew w,fun _ h=>(by cases h),fun _ h=>(by cases h),fun _ h=>(by cases h),fun _ _ h=>(by cases h),fun _ _ h=>(by cases h),fun _ _ h=>(by cases h),fun _ h=>(by cases h)⟩
theorem Acc.kept {w0 w w':World}{N:Nat}{g1 g2 g3:Option Nat}{vi:Option Value}{zs:List Int}(h:Acc w0 w N g1 g2 g3 vi zs) (l:Later w w'):Acc w0 w' N g1 g2 g3 vi zs :=
 ⟨h.lat.trans l,fun g e=>⟨(h.a1 g e).1,(h.a1 g e).2.kept l.size (l.block _ (h.a1 g e).2.lt)⟩,fun g e=>⟨(h.a2 g e).1,(h.a2 g e).2.kept l.size (l.block _ (h.a2 g e).2.lt)⟩,fun g e=>⟨(h.a3 g e).1,(h.a3 g e).2.kept l.size (l.block _ (h.a3 g e).2.lt)⟩,h.n12,h.n13,h.n23,fun v e=>⟨own_kept (h.ai v e).1 (fun b hb=>l.block b ((h.ai v e).1.lt b hb).2),(h.ai v e).2⟩⟩
theorem Acc.words {w0 w w':World}{N:Nat}{g2 g3:Option Nat}{vi:Option Value}{zs:List Int}(h:Acc w0 w N none g2 g3 vi zs) (o:w'.ownsRow w0.heap.size 3 1 (.slice (some ⟨w.heap.size,0,none⟩) N N) N (madeCells (Value.int .i64 0).cells (N*1)).toList) (g:w.grownBy w' none):Acc w0 w' N (some w.heap.size) g2 g3 vi zs:=by
 have k:=h.kept (grown_later g);have hs:=h.lat.size;refine⟨k.lat,fun g e=>by cases e;exact⟨hs,blk_made rfl o⟩,k.a2,k.a3,fun a b e1 e2=>?_,fun a b e1 e2=>?_,k.n23,fun v e=>⟨(k.ai v e).1,fun b hb=>⟨fun a e1=>?_,((k.ai v e).2 b hb).2⟩⟩⟩
 ·cases e1;have:=(h.a2 b e2).2.lt;omega
 ·cases e1;have:=(h.a3 b e2).2.lt;omega
 ·cases e1;have:=((h.ai v e).1.lt b hb).2;omega
theorem Acc.marks {w0 w w':World}{N:Nat}{g1 g3:Option Nat}{vi:Option Value}{zs:List Int}(h:Acc w0 w N g1 none g3 vi zs) (o:w'.ownsRow w0.heap.size 4 1 (.slice (some ⟨w.heap.size,0,none⟩) N N) N (madeCells (Value.bool false).cells (N*1)).toList) (g:w.grownBy w' none):Acc w0 w' N g1 (some w.heap.size) g3 vi zs:=by
 have k:=h.kept (grown_later g);have hs:=h.lat.size;refine⟨k.lat,k.a1,fun g e=>by cases e;exact⟨hs,blk_made rfl o⟩,k.a3,fun a b e1 e2=>?_,k.n13,fun a b e1 e2=>?_,fun v e=>⟨(k.ai v e).1,fun b hb=>⟨((k.ai v e).2 b hb).1,fun a e1=>?_,((k.ai v e).2 b hb).2.2⟩⟩⟩
 ·cases e2;have:=(h.a1 a e1).2.lt;omega
 ·cases e1;have:=(h.a3 b e2).2.lt;omega
 ·cases e1;have:=((h.ai v e).1.lt b hb).2;omega
theorem Acc.regs {w0 w w':World}{N:Nat}{g1 g2:Option Nat}{vi:Option Value}{zs:List Int}(h:Acc w0 w N g1 g2 none vi zs) (o:w'.ownsRow w0.heap.size 3 1 (.slice (some ⟨w.heap.size,0,none⟩) 16 16) 16 (madeCells (Value.int .i64 0).cells (16*1)).toList) (g:w.grownBy w' none):Acc w0 w' N g1 g2 (some w.heap.size) vi zs:=by
 have k:=h.kept (grown_later g);have hs:=h.lat.size;refine⟨k.lat,k.a1,k.a2,fun g e=>by cases e;exact⟨hs,blk_made rfl o⟩,k.n12,fun a b e1 e2=>?_,fun a b e1 e2=>?_,fun v e=>⟨(k.ai v e).1,fun b hb=>⟨((k.ai v e).2 b hb).1,((k.ai v e).2 b hb).2.1,fun a e1=>?_⟩⟩⟩
 ·cases e2;have:=(h.a1 a e1).2.lt;omega
 ·cases e2;have:=(h.a2 a e1).2.lt;omega
 ·cases e1;have:=((h.ai v e).1.lt b hb).2;omega
theorem Acc.lit {w0 w:World}{N:Nat}{g1 g2 g3:Option Nat}(h:Acc w0 w N g1 g2 g3 none []):Acc w0 (w.alloc (.cells #[] 3)) N g1 g2 g3 (some (.slice (some ⟨w.heap.size,0,none⟩) 0 0)) []:=by
 have k:=h.kept (later_a w (.cells #[] 3));refine⟨k.lat,k.a1,k.a2,k.a3,k.n12,k.n13,k.n23,fun v e=>?_⟩
 cases e
 refine⟨lit_row w h.lat.size,fun b hb=>?_⟩
 cases hb
 exact⟨fun g e=>by have:=(h.a1 g e).2.lt;show g≠w.heap.size;omega,fun g e=>by have:=(h.a2 g e).2.lt;show g≠w.heap.size;omega,fun g e=>by have:=(h.a3 g e).2.lt;show g≠w.heap.size;omega⟩
theorem Acc.app {w0 w w':World}{N:Nat}{g1 g2 g3:Option Nat}{v v':Value}{l:List Int}(h:Acc w0 w N g1 g2 g3 (some v) []) (o:w'.ownsRow w0.heap.size 3 1 v' (0+l.length) ([]++l.map (Value.int .i64))) (g:w.grownBy w' v.ownBlock) (hv:v'.ownBlock=v.ownBlock∨v'.ownBlock=some w.heap.size):Acc w0 w' N g1 g2 g3 (some v') l:=by
 obtain⟨hr,hn⟩:=h.ai v rfl;have hk:∀ a,(∀ b,v.ownBlock=some b→a≠b)→a<w.heap.size→w'.heap[a]?=w.heap[a]?:=fun a ha hl=>g.block a hl (fun q=>ha a q.symm rfl)
 have lat:Later w0 w':=⟨g.os.trans h.lat.os,g.tape.trans h.lat.tape,g.output.trans h.lat.output,Nat.le_trans h.lat.size g.size,fun b hb=>by rw[g.block b (Nat.lt_of_lt_of_le hb h.lat.size) (fun q=>by have:=(hr.lt b q.symm).1;omega)];exact h.lat.block b hb⟩
 refine⟨lat,fun a e=>⟨(h.a1 a e).1,(h.a1 a e).2.kept g.size (hk a (fun b hb=>(hn b hb).1 a e) (h.a1 a e).2.lt)⟩,fun a e=>⟨(h.a2 a e).1,(h.a2 a e).2.kept g.size (hk a (fun b hb=>(hn b hb).2.1 a e) (h.a2 a e).2.lt)⟩,fun a e=>⟨(h.a3 a e).1,(h.a3 a e).2.kept g.size (hk a (fun b hb=>(hn b hb).2.2 a e) (h.a3 a e).2.lt)⟩,h.n12,h.n13,h.n23,fun u e=>?_⟩
 cases e
 rw[Nat.zero_add,List.nil_append]at o;refine⟨o,fun b hb=>?_⟩;rcases hv with q|q
 ·exact hn b (q ▸ hb)
 ·rw[q]at hb
  cases hb
  exact⟨fun g e=>by have:=(h.a1 g e).2.lt;omega,fun g e=>by have:=(h.a2 g e).2.lt;omega,fun g e=>by have:=(h.a3 g e).2.lt;omega⟩
theorem row_rd {w:World}{base:Nat}{v:Value}{zs:List Int}(h:w.ownsRow base 3 1 v zs.length (zs.map (Value.int .i64))):RdL w 1 v (In.dats zs):=by
 have hl:(In.dats zs).length=zs.length:=In.dats_len zs;rcases h.2 with ⟨rfl,e⟩|⟨g,cap,cur,rfl,hb,hg,hc1,hc2,_⟩
 ·exact⟨none,0,by rw[hl,e],⟨by omega,by unfold maxLen;omega⟩,fun j hj=>by omega⟩
 ·refine⟨some ⟨g,0,none⟩,cap,by rw[hl],⟨by omega,hc2⟩,fun j hj=>?_⟩;have hj':j<zs.length:=by omega
  refine⟨g,0,[.int .i64 zs[j]],rfl,(Array.getElem?_eq_some_iff.1 hg).1,rfl,fun m u hm=>?_,?_⟩
  ·cases m with
   | zero =>
    simp only[List.getElem?_cons_zero,Option.some.injEq]at hm;rw[show 0+j*1+0=j by omega,h.cellAt j (by omega),List.getElem?_map,List.getElem?_eq_getElem hj',← hm];rfl
   | succ m=>simp at hm
  ·have hdat:(In.dats zs)[j]=Dat.int zs[j]:=List.getElem_map ..;rw[hdat,RdD]
def z0V (e:Se) (M:Nat) (f:Nat):Vm:={ W:=fun _=>0,pl:=fun _=>0,rg:=fun _=>0,used:=12000,free:=12000,base:=1,size:=e.stack.toNat,fp:=f,fn:=M,pc:=0,calls:=1,inp:=e.input,orc:=e.oracle,out:=[],steps:=0,moves:=0,copies:=0 }
def q0M:Mq:={ W:=fun _=>0,pc:=0,ev:=0,en:=0,cd:=0 }
theorem map_extO2 {f g:Nat→Option Value}{n:Nat}(h:(List.range n).map f=(List.range n).map g):∀ a,a<n→f a=g a:=map_extO h
theorem Acc.mv {x:Im}{e:Se}{w0 wz:World}{H T M WB SB RB L iq cg co cc B0:Nat}{a9:Option Addr}{sv rv:Value}(hx:ImI x) (h8:8≤H) (h4:H≤4000) (hT:e.stack=(T:Int)) (hM:x.main=(M:Int)) (hor:e.oracle.length≤2000)
  (r1:RdL w0 1 sv (Bs.dats x.structs)) (r2:RdL w0 4 (.slice (some ⟨cg,co,none⟩) x.codes.length cc) (Cd.dats x.codes)) (r4:RdL w0 1 rv (In.dats e.oracle)) (hB0:B0<w0.heap.size)
  (h:Acc w0 wz (12000+2*H) (some WB) (some SB) (some RB) (some (.slice a9 L iq)) e.input) :
  ∃ C:Mx,MxI C∧C.IB<C.K∧C.x=x∧C.H=H∧C.w0=w0∧C.K=wz.heap.size∧C.orc=e.oracle∧C.cg=cg∧C.co=co∧C.WB=WB∧C.N=12000+2*H ∧
   Mv C (wz.alloc (Obj.cells #[sv,.slice (some ⟨cg,co,none⟩) x.codes.length cc,.int .i64 x.main,.slice (some ⟨WB,0,none⟩) (12000+2*H) (12000+2*H),.slice (some ⟨SB,0,none⟩) (12000+2*H) (12000+2*H),.int .i64 (H:Int),.int .i64 12000,.int .i64 12000,.int .i64 1,.int .i64 (T:Int),.int .i64 0,.int .i64 x.main,.int .i64 0,.int .i64 1,.slice (some ⟨RB,0,none⟩) 16 16,.slice a9 L iq,rv,.int .i64 0,.slice none 0 0,.int .i64 0,.int .i64 0,.int .i64 0,.int .i64 0,.int .i64 0] 56)) (z0V e M 0) q0M (.slice a9 L iq) (.slice none 0 0):=by
 obtain⟨p1,b1⟩:=h.a1 WB rfl;obtain⟨p2,b2⟩:=h.a2 SB rfl;obtain⟨p3,b3⟩:=h.a3 RB rfl;obtain⟨ro,rn⟩:=h.ai _ rfl;have n12:=h.n12 _ _ rfl rfl;have n13:=h.n13 _ _ rfl rfl;have n23:=h.n23 _ _ rfl rfl;have l1:=b1.lt;have l2:=b2.lt;have l3:=b3.lt;have hs:=h.lat.size
 obtain⟨IB,hIB,i1,i2,i3,i4,hib⟩:∃ IB,IB<wz.heap.size∧IB≠wz.heap.size∧IB≠WB∧IB≠SB∧IB≠RB∧∀ a,a9=some a→a.block=IB:=by
  cases a9 with
  | none=>exact⟨B0,by omega,by omega,by omega,by omega,by omega,fun a q=>by cases q⟩
  | some a =>
   have hl:=(ro.lt a.block rfl).2;obtain⟨k1,k2,k3⟩:=rn a.block rfl;exact⟨a.block,hl,by omega,fun q=>k1 _ rfl q.symm,fun q=>k2 _ rfl q.symm,fun q=>k3 _ rfl q.symm,fun b q=>by cases q;rfl⟩
 refine⟨{ x:=x,H:=H,w0:=w0,K:=wz.heap.size,WB:=WB,SB:=SB,RB:=RB,IB:=IB,sv:=sv,cg:=cg,co:=co,cc:=cc,rv:=rv,orc:=e.oracle,N:=12000+2*H },⟨hx,h8,h4,hs,p1,p2,p3,?_,?_,?_,n12,n13,n23,i1,i2,i3,i4,rfl,hor,r1,r2,r4⟩,hIB,rfl,rfl,rfl,rfl,rfl,rfl,rfl,rfl,rfl,?_⟩
 ·show wz.heap.size≠WB;omega
 ·show wz.heap.size≠SB;omega
 ·show wz.heap.size≠RB;omega
 ·have lz:=later_a wz (Obj.cells #[sv,.slice (some ⟨cg,co,none⟩) x.codes.length cc,.int .i64 x.main,.slice (some ⟨WB,0,none⟩) (12000+2*H) (12000+2*H),.slice (some ⟨SB,0,none⟩) (12000+2*H) (12000+2*H),.int .i64 (H:Int),.int .i64 12000,.int .i64 12000,.int .i64 1,.int .i64 (T:Int),.int .i64 0,.int .i64 x.main,.int .i64 0,.int .i64 1,.slice (some ⟨RB,0,none⟩) 16 16,.slice a9 L iq,rv,.int .i64 0,.slice none 0 0,.int .i64 0,.int .i64 0,.int .i64 0,.int .i64 0,.int .i64 0] 56);have k:=h.kept lz;have hTn:e.stack.toNat=T:=by omega
  refine⟨k.lat,?_,(k.a1 _ rfl).2,(k.a2 _ rfl).2,(k.a3 _ rfl).2,?_,(fun a n c q=>(by cases q;exact hib _ rfl)),⟨rfl,.inl ⟨rfl,rfl⟩⟩,(fun q=>(by cases q)),(fun q=>(by cases q)),(fun q=>(by cases q)),(fun q=>(by cases q)),(fun q=>(by cases q))⟩
  ·refine (blk_alloc (f:=fun a=>if a=11 then .int .i64 x.main else if a=9 then .int .i64 (T:Int) else boxM { x:=x,H:=H,w0:=w0,K:=wz.heap.size,WB:=WB,SB:=SB,RB:=RB,IB:=IB,sv:=sv,cg:=cg,co:=co,cc:=cc,rv:=rv,orc:=e.oracle,N:=12000+2*H } (z0V e M 0) q0M (.slice a9 L iq) (.slice none 0 0) a) (map_extO2 rfl)).agree (fun a _=>?_);by_cases h11:a=11
   ·subst h11;rw[if_pos rfl,hM];rfl
   ·rw[if_neg h11];by_cases h9:a=9
    ·subst h9;rw[if_pos rfl,← hTn];rfl
    ·rw[if_neg h9]
  ·obtain⟨ko,_⟩:=k.ai _ rfl;exact row_rd ko
theorem take_end {x:Im}{H:Nat}{s t:Vm}{z:Int}{n a:Nat}{e c:Int}(h:s.take x H z n a=.fin e c t):e≠0:=by
 have h2:∀ s:Vm,s.take2 x H z n a=.fin e c t→e≠0:=fun s h=>by
  unfold Vm.take2 at h;split at h
  ·cases h
  ·split at h
   ·cases h;decide
   ·split at h
    ·cases h
    ·cases h;decide
 unfold Vm.take at h;split at h
 ·split at h
  ·cases h;decide
  ·exact h2 _ h
 ·exact h2 _ h
theorem call_end {x:Im}{s t:Vm}{n:Nat}{e c:Int}(h:s.call x n=.fin e c t):e≠0:=by
 have h2:∀ s:Vm,s.enter x n=.fin e c t→e≠0:=fun s h=>by
  unfold Vm.enter at h;dsimp only at h;split at h
  ·cases h
  ·split at h
   ·cases h;decide
   ·cases h
 unfold Vm.call at h;split at h
 ·cases h;decide
 ·split at h
  ·exact h2 _ h
  ·exact h2 _ h
theorem ret_end {s t:Vm}{i:Is}{e c:Int}(h:s.ret i=.fin e c t):e≠0:=by
 unfold Vm.ret at h;dsimp only at h;split at h <;> (split at h <;> first|(cases h;decide)|(cases h;done))
theorem ins_end {x:Im}{H:Nat}{s t:Vm}{i:Is}{e c:Int}(h:s.ins x H i=.fin e c t):e≠0:=by
 unfold Vm.ins at h;split at h
 all_goals first
  | (cases h;done)
  | exact take_end h
  | exact call_end h
  | exact ret_end h
  | (cases h;decide)
  | (split at h <;> first|(cases h;done)|exact take_end h|(cases h;decide)|(split at h <;> first|(cases h;done)|(cases h;decide)))
theorem run_end (x:Im) (H:Nat):∀ (k:Nat) (s:Vm),(runV x H k s).1≠0
 | 0,s=>by rw[runV];show (4:Int)≠0;decide
 | k+1,s=>by
  rw[runV];split
  ·show (7:Int)≠0;decide
  ·split
   ·exact run_end x H k _
   ·rename_i h;exact ins_end h
theorem runI_end (x:Im) (e:Se):(runI x e).1≠0:=by
 unfold runI;dsimp only;split
 ·exact run_end _ _ _ _
 ·split
  ·show (6:Int)≠0;decide
  ·exact run_end _ _ _ _
structure Lr (C:Mx) (R:Int × Int × Vm) (F:Nat) (wr:World) (s:Vm) (q:Mq) (iv ov:Value):Prop where
 al:Al C wr s q iv ov
 pc:q.pc=(s.pc:Int)
 st:s.steps≤F
 mv:s.moves≤2*s.steps
 cp:s.copies≤2*s.steps+1
 ou:s.out.length≤s.steps
 ev:q.ev≤s.steps
 rn:runV C.x C.H (F - s.steps) s=R
def LrI (C:Mx) (R:Int × Int × Vm) (F:Nat) (wr:World):Prop:=(∃ s q iv ov,Lr C R F wr s q iv ov)∨∃ iv ov,FinM C R.2.2 R.1 R.2.1 iv ov wr
def lrM (C:Mx) (F:Nat) (wr:World):Nat:=match wr.cell? ⟨C.K,22,none⟩ with
 | some (.int _ z)=>if z=0 then (match wr.cell? ⟨C.K,19,none⟩ with|some (.int _ y)=>F+1 - y.toNat|_=>0) else 0
 | _=>0
theorem lrM_al {C:Mx}{F:Nat}{wr:World}{s:Vm}{q:Mq}{iv ov:Value}(h:Al C wr s q iv ov):lrM C F wr=F+1 - s.steps:=by
 unfold lrM;rw[h.mv.c22.1,h.en];dsimp only;rw[if_pos rfl,h.mv.c19.1];rfl
theorem lrM_fin {C:Mx}{F:Nat}{wr:World}{s:Vm}{e c:Int}{iv ov:Value}(h:FinM C s e c iv ov wr) (he:e≠0):lrM C F wr=0:=by
 obtain⟨s',q',m,e1,_⟩:=h;unfold lrM;rw[m.c22.1,e1];dsimp only;rw[if_neg he]
theorem Lr.next {C:Mx}(hC:MxI C) {R:Int × Int × Vm}{F:Nat}{wr w':World}{s:Vm}{q:Mq}{iv ov:Value}(h:Lr C R F wr s q iv ov) (hlt:s.steps<F) {n:Ending}(hq:StM C q.ev (stepI C.x C.H s) n w'):n=unitE∧LrI C R F w'∧lrM C F w'<lrM C F wr:=by
 obtain⟨rfl,hf,hg⟩:=hq;have hrn:=h.rn;rw[show F - s.steps=(F - (s.steps+1))+1 by omega,runV]at hrn;have hm:=lrM_al (F:=F) h.al;refine⟨rfl,?_⟩;unfold stepI at hf hg
 cases hi:(cdAt C.x s.fn).ins[s.pc]? with
 | none =>
  rw[hi]at hf hrn;obtain⟨iv',ov',f⟩:=hf _ _ _ rfl;rw[←hrn];have he:=lrM_fin (F:=F) f (by decide);exact⟨.inr ⟨iv',ov',f⟩,by rw[he,hm];omega⟩
 | some i =>
  rw[hi]at hf hg hrn;simp only at hf hg hrn
  cases hs:s.tick.ins C.x C.H i with
  | fin e c t =>
   rw[hs]at hrn;obtain⟨iv',ov',f⟩:=hf _ _ _ hs;rw[←hrn];have he:=lrM_fin (F:=F) f (ins_end hs);exact⟨.inr ⟨iv',ov',f⟩,by rw[he,hm];omega⟩
  | go t =>
   rw[hs]at hrn;obtain⟨q',iv',ov',a,p,ev⟩:=hg _ hs;obtain⟨c1,c2,c3,c4⟩:=ins_cnt hC.xi h.al.iv.tick rfl hi hs
   have e1:s.tick.steps=s.steps+1∧s.tick.moves=s.moves∧s.tick.copies=s.copies∧s.tick.out=s.out:=⟨rfl,rfl,rfl,rfl⟩
   have h1:=h.mv;have h2:=h.cp;have h3:=h.ou;have h4:=h.ev;rw[e1.2.2.2]at c4;have ha:=lrM_al (F:=F) a;refine⟨.inl ⟨t,q',iv',ov',a,p,by omega,by omega,by omega,by omega,by omega,?_⟩,by rw[ha,hm];omega⟩;rw[←hrn,show F - t.steps=F - (s.steps+1) by omega]
theorem Lr.over {C:Mx}{R:Int × Int × Vm}{F:Nat}{wr w':World}{s:Vm}{q:Mq}{iv ov:Value}(h:Lr C R F wr s q iv ov) (hlt:¬ s.steps<F) (m:Mv C w' s (q.stop 4 0) iv ov):FinM C R.2.2 R.1 R.2.1 iv ov w':=by
 have:=h.rn;rw[show F - s.steps=0 by have:=h.st;omega,runV]at this;rw[←this];exact h.al.stop m
theorem start_fit {C:Mx}(hC:MxI C) {e:Se}{M T G FL:Nat}(hM:C.x.main=(M:Int)) (hT:e.stack.toNat=T) (s1:16≤T) (s2:T≤2000) (hH:C.H=e.half.toNat) (hF:FL=e.fuel.toNat) (hor:C.orc=e.oracle) (hG:G=growS 10 T (1 - 1+frN C.x M+7)) {w w':World}{iv ov:Value}{n:Ending}(h:LtQ C w (z0V e M 1) q0M 1 G [1] iv ov n w') :
  (n=.returned (.bool false)∧Mv C w' (z0V e M 1) q0M iv ov∧runI C.x e=(6,0,startV C.x e 1 T 0)) ∨
  (n=.returned (.bool true)∧∃ b s0 q',b+2<12000∧1≤b∧Mv C w' s0 q' iv ov∧s0.fp=b∧∀ w'',Later (w'.setCell ⟨C.WB,b+2,none⟩ (.int .i64 (M:Int))) w''→∃ s q,Lr C (runI C.x e) FL w'' s q iv ov):=by
 have hm0:C.x.main.toNat=M:=by omega
 have hfr:=(hC.xi.at hC.xi.mn).fr;rw[hm0]at hfr;have hG':G=growS 10 e.stack.toNat (frN C.x C.x.main.toNat+7):=by rw[hG,hT,hm0];congr 1;omega
 have hok:frN C.x C.x.main.toNat+7≤G:=by
  rw[hG',hm0];exact grow10 (by omega) (by omega)
 have hge:T≤G:=by rw[hG];exact growS_ge _ _ _
 have hN:=hC.hN
 have hR:runI C.x e=if G=T then runV C.x C.H FL (startV C.x e 1 G 0) else if 12000<1+T+G then (6,0,startV C.x e 1 T 0) else runV C.x C.H FL (startV C.x e (1+T) G 1):=by
  unfold runI;dsimp only;rw[←hG',hT,← hH,← hF]
 obtain⟨hy,hn⟩:=h;have hsz:(z0V e M 1).size=T:=hT
 have key:∀ (b z c:Nat) (q':Mq) (wx:World) (s0:Vm),Mv C wx s0 q' iv ov→s0={ z0V e M 1 with base:=b,size:=z,fp:=b,copies:=c }→(∀ a,a<C.N→q'.W a=0)→q'={ q0M with W:=q'.W }→b+2<12000→Iv C.x C.H (startV C.x e b z c)→c≤1→runI C.x e=runV C.x C.H FL (startV C.x e b z c)→∀ w'',Later (wx.setCell ⟨C.WB,b+2,none⟩ (.int .i64 (M:Int))) w''→∃ s q,Lr C (runI C.x e) FL w'' s q iv ov:=by
  intro b z c q' wx s0 m es hW hq' hb hI hc hr w'' l;have m1:=m.setW hC (a:=b+2) (by omega) (M:Int)
  have m2:Mv C (wx.setCell ⟨C.WB,b+2,none⟩ (.int .i64 (M:Int))) (startV C.x e b z c) { q' with W:=fset q'.W (b+2) (M:Int) } iv ov:=by
   refine m1.conv ?_ (fun a _=>by rw[es];rfl);rw[es];unfold startV z0V;rw[hm0]
  refine⟨startV C.x e b z c,{ q' with W:=fset q'.W (b+2) (M:Int) },⟨m2.kept l,fun a ha=>?_,hI,?_,?_,?_⟩,?_,Nat.zero_le _,Nat.zero_le _,?_,Nat.zero_le _,?_,?_⟩
  ·show fset q'.W (b+2) (M:Int) a=fset (fun _=>0) (b+2) C.x.main a;rw[hM];unfold fset;split
   ·rfl
   ·refine hW a ?_;have hfe:=hI.fe;have hu:=hI.u;omega
  ·show q'.en=0;rw[hq'];rfl
  ·show q'.cd=0;rw[hq'];rfl
  ·show e.oracle=C.orc.drop q'.ev;rw[hq',hor];rfl
  ·show q'.pc=((0:Nat):Int);rw[hq'];rfl
  ·show c≤2*0+1;omega
  ·show q'.ev≤0;rw[hq'];exact Nat.le_refl _
  ·rw[hr];rfl
 by_cases g1:G=T
 ·rw[if_pos g1]at hR;obtain⟨rfl,m,_⟩:=hy (by rw[hsz];exact g1);refine .inr ⟨rfl,1,z0V e M 1,q0M,by omega,Nat.le_refl _,m,rfl,?_⟩;exact key 1 G 0 q0M w' _ m (by rw[g1,← hT];rfl) (fun _ _=>rfl) rfl (by omega) (startV_iv hC.xi hC.h8 hC.h4 (by omega) (by omega) (by omega) hok) (by omega) hR
 ·rw[if_neg g1]at hR
  have hcb:cpB (z0V e M 1) G=1+T:=by
   unfold cpB;rw[if_neg (by show ¬ 1+G≤1;omega),← hsz];rfl
  obtain⟨hno,hyes⟩:=hn (by rw[hsz];exact g1);rw[hcb]at hno hyes;by_cases g2:12000<1+T+G
  ·rw[if_pos g2]at hR;obtain⟨rfl,m,_⟩:=hno g2;exact .inl ⟨rfl,m,hR⟩
  ·rw[if_neg g2]at hR;obtain⟨rfl,m,_⟩:=hyes g2;refine .inr ⟨rfl,1+T,_,_,by omega,by omega,m,by show 1+T+(1 - 1)=1+T;omega,?_⟩;refine key (1+T) G 1 _ w' _ m ?_ (fun a _=>?_) rfl (by omega) (startV_iv hC.xi hC.h8 hC.h4 (by omega) (by omega) (by omega) hok) (Nat.le_refl _) hR
   ·show { z0V e M 1 with base:=1+T,size:=G,fp:=1+T+(1 - 1),copies:=0+1 }=_;rw[show 1+T+(1 - 1)=1+T by omega]
   ·show mcW (fun _=>0) 1 1 (1+T) [1] (1 - 1) a=0;rw[show 1 - 1=0 from rfl,mcW_zero];unfold mvW;split <;> rfl
theorem start_links {W:Nat→Int}(hW:∀ a,W a=0) {B:Nat}(hB:B<12000):McI W 1 1 1 B [1]:=by
 refine⟨rfl,by simp,by omega,fun f hf=>by rw[List.mem_singleton]at hf;omega,fun j hj=>⟨fun h=>?_,fun _=>?_⟩⟩
 ·simp at h
 ·unfold mvW;split <;> exact hW _
section
variable {ops:Array Oper}{o:Oper}{a:Act}{w:World}{K:Act→World→Prop}{Q:Exit→Act→World→Prop}{E:Prop}{w0:World}{N:Nat}{g1 g2 g3:Option Nat}{vi:Option Value}{zs:List Int}
theorem step_words (hN:N≤20000) (A:Acc w0 w N none g2 g3 vi zs) (hg:o.guard=none) (l:Operand) (hop:o.op=Op.makeSlice 26 l l) (hl:a.eval l=.int .i64 (N:Int)) (h:∀ w',Acc w0 w' N (some w.heap.size) g2 g3 vi zs→K (a.put o.dst (.slice (some ⟨w.heap.size,0,none⟩) N N)) w') :
  if Region.wanted o (yielded ops a.tmps)=true then Oper.wp Tryz.prog o a w K Q else E:=by
 obtain⟨i0,hi,hz0,hz1,hz2⟩:=info_parts Tryz.info3;exact step_make hg l l _ hop w0.heap.size 3 i0 (.int .i64 0) 1 Tryz.underlying26 hi hz0 hz1 .i64 .i64 _ _ N hl hl rfl rfl (by rw[hz2];omega) (by unfold maxLen;omega) A.lat.size (fun w' o g=>h w' (A.words o g))
theorem step_marks (hN:N≤20000) (A:Acc w0 w N g1 none g3 vi zs) (hg:o.guard=none) (l:Operand) (hop:o.op=Op.makeSlice 54 l l) (hl:a.eval l=.int .i64 (N:Int)) (h:∀ w',Acc w0 w' N g1 (some w.heap.size) g3 vi zs→K (a.put o.dst (.slice (some ⟨w.heap.size,0,none⟩) N N)) w') :
  if Region.wanted o (yielded ops a.tmps)=true then Oper.wp Tryz.prog o a w K Q else E:=by
 obtain⟨i0,hi,hz0,hz1,hz2⟩:=info_parts Tryz.info4;exact step_make hg l l _ hop w0.heap.size 4 i0 (.bool false) 1 Tryz.underlying54 hi hz0 hz1 .i64 .i64 _ _ N hl hl rfl rfl (by rw[hz2];omega) (by unfold maxLen;omega) A.lat.size (fun w' o g=>h w' (A.marks o g))
theorem step_regs (A:Acc w0 w N g1 g2 none vi zs) (hg:o.guard=none) (l:Operand) (hop:o.op=Op.makeSlice 26 l l) (hl:a.eval l=.int .i64 16) (h:∀ w',Acc w0 w' N g1 g2 (some w.heap.size) vi zs→K (a.put o.dst (.slice (some ⟨w.heap.size,0,none⟩) 16 16)) w') :
  if Region.wanted o (yielded ops a.tmps)=true then Oper.wp Tryz.prog o a w K Q else E:=by
 obtain⟨i0,hi,hz0,hz1,hz2⟩:=info_parts Tryz.info3;exact step_make hg l l _ hop w0.heap.size 3 i0 (.int .i64 0) 1 Tryz.underlying26 hi hz0 hz1 .i64 .i64 _ _ 16 hl hl rfl rfl (by rw[hz2];omega) (by unfold maxLen;omega) A.lat.size (fun w' o g=>h w' (A.regs o g))
theorem step_inp {v u:Value}{l:List Int}(hl:l.length≤2000) (hu:∀ w',Later w0 w'→Src w' u l.length (l.map (Value.int .i64))) (A:Acc w0 w N g1 g2 g3 (some v) []) (hg:o.guard=none) (s x:Operand) (hop:o.op=Op.call { callee:=Callee.builtin Builtin.append,args:=#[s,x],argTypes:=#[26,26] }) (hs:a.eval s=v) (hx:a.eval x=u) (h:∀ a9 iq w',Acc w0 w' N g1 g2 g3 (some (.slice a9 l.length iq)) l→K (a.put o.dst (.slice a9 l.length iq)) w') :
  if Region.wanted o (yielded ops a.tmps)=true then Oper.wp Tryz.prog o a w K Q else E:=by
 obtain⟨i0,hi,hz0,hz1,hz2⟩:=info_parts Tryz.info3;refine step_append_any hg s x _ hop w0.heap.size 3 i0 (.int .i64 0) 1 8 Tryz.underlying26 hi hz0 hz1 hz2 rfl (by decide) v 0 [] hs (A.ai v rfl).1 u l.length (l.map (Value.int .i64)) hx (hu w A.lat) (by rw[List.length_map,Nat.mul_one]) (fun y hy=>?_) (by unfold maxLen;omega) (by omega) A.lat.size (fun v' w' o g hv=>?_)
 ·obtain⟨u,_,rfl⟩:=List.mem_map.1 hy;rfl
 ·have B:=A.app o g hv;obtain⟨a9,iq,rfl⟩:=row_form (B.ai _ rfl).1;exact h a9 iq w' B
end
def FitB (C:Mx) (e:Se) (M T F:Nat) (R:Int × Int × Vm) (iv ov:Value) (b:Bool) (w1:World):Prop :=
 (b=false∧Mv C w1 (z0V e M 1) q0M iv ov∧R=(6,0,startV C.x e 1 T 0))∨(b=true∧∃ b0 s0 q',b0+2<12000∧1≤b0∧Mv C w1 s0 q' iv ov∧s0.fp=b0∧∀ w'',Later (w1.setCell ⟨C.WB,b0+2,none⟩ (.int .i64 (M:Int))) w''→∃ s q,Lr C R F w'' s q iv ov)
theorem FitB.lat {C:Mx}{e:Se}{M T F:Nat}{R:Int × Int × Vm}{iv ov:Value}{b:Bool}{w1:World}(h:FitB C e M T F R iv ov b w1):Later C.w0 w1:=by
 rcases h with ⟨_,m,_⟩|⟨_,_,_,_,_,_,m,_⟩
 ·exact m.lat
 ·exact m.lat
theorem Lr.kept {C:Mx}{R:Int × Int × Vm}{F:Nat}{w w':World}{s:Vm}{q:Mq}{iv ov:Value}(h:Lr C R F w s q iv ov) (l:Later w w'):Lr C R F w' s q iv ov:=⟨h.al.kept l,h.pc,h.st,h.mv,h.cp,h.ou,h.ev,h.rn⟩
theorem LrI.lat {C:Mx}{R:Int × Int × Vm}{F:Nat}{w:World}(h:LrI C R F w):Later C.w0 w:=by
 rcases h with ⟨s,q,iv,ov,h⟩|⟨iv,ov,s',q',m,_⟩
 ·exact h.al.mv.lat
 ·exact m.lat
theorem coll_out {x:Im}(hx:ImI x) {H:Nat}{s t:Vm}(h:Iv x H s) (hs:SafeAt x s.fn ((s.pc:Int) - 1)) (e:s.coll x H=some t):Iv x H t∧t.fn=s.fn∧t.pc=s.pc∧t.out=s.out:=by
 obtain⟨i,cw⟩:=h.coll hx hs e;refine⟨i,?_⟩;rw[cw.eq];exact⟨rfl,rfl,rfl⟩
theorem take_out {x:Im}(hx:ImI x) {H:Nat}{s t:Vm}{z:Int}{n a:Nat}{e c:Int}(hI:Iv x H s) (hs:SafeAt x s.fn ((s.pc:Int) - 1)) (h:s.take x H z n a=.fin e c t):t.out=s.out:=by
 have h2:∀ s:Vm,Iv x H s→SafeAt x s.fn ((s.pc:Int) - 1)→s.take2 x H z n a=.fin e c t→t.out=s.out:=fun s hI hs h=>by
  unfold Vm.take2 at h;split at h
  ·cases h
  ·split at h
   ·cases h;rfl
   ·rename_i u hu
    split at h
    ·cases h
    ·cases h;exact (coll_out hx hI hs hu).2.2.2
 unfold Vm.take at h;split at h
 ·split at h
  ·cases h;rfl
  ·rename_i u hu
   obtain⟨i,e1,e2,e3⟩:=coll_out hx hI.next hs hu
   exact (h2 _ i (by rw[e1,e2];exact hs) h).trans e3
 ·exact h2 s.next hI.next hs h
theorem call_out {x:Im}{s t:Vm}{n:Nat}{e c:Int}(h:s.call x n=.fin e c t):t.out=s.out:=by
 have h2:∀ s:Vm,s.enter x n=.fin e c t→t.out=s.out:=fun s h=>by
  unfold Vm.enter at h;dsimp only at h;split at h
  ·cases h
  ·split at h
   ·cases h;rfl
   ·cases h
 unfold Vm.call at h;split at h
 ·cases h;rfl
 ·split at h
  ·refine (h2 _ h).trans ?_
   cases hc:s.next.copied x s.size with
   | none=>rfl
   | some u =>
    unfold Vm.copied at hc;dsimp only at hc;split at hc
    ·split at hc
     ·cases hc
     ·cases hc;rfl
    ·split at hc
     ·cases hc
     ·cases hc;rfl
  ·exact h2 s.next h
theorem ret_out {s t:Vm}{i:Is}{e c:Int}(h:s.ret i=.fin e c t):t.out=s.out:=by
 unfold Vm.ret at h;dsimp only at h;split at h <;> (split at h <;> first|(cases h;rfl)|(cases h;done))
theorem ins_out {x:Im}(hx:ImI x) {H:Nat}{s t:Vm}(hI:Iv x H s) {q:Nat}{i:Is}(hq:s.pc=q+1) (hi:(cdAt x s.fn).ins[q]?=some i) {e c:Int}(h:s.ins x H i=.fin e c t):t.out=s.out:=by
 have hii:=(hx.at hI.fn).insI hi
 have hsafe:hmB i.op=true→SafeAt x s.fn ((s.pc:Int) - 1):=fun hm=>⟨q,i,by omega,hi,hm⟩
 unfold Vm.ins at h;split at h
 all_goals first
  | (cases h;done)
  | (cases h;rfl)
  | exact take_out hx hI (hsafe (by rw[hii.at _ (by assumption)];rfl)) h
  | exact call_out h
  | exact ret_out h
  | (split at h <;> first|(cases h;done)|(cases h;rfl)|exact take_out hx hI (hsafe (by rw[hii.at _ (by assumption)];rfl)) h|(split at h <;> first|(cases h;done)|(cases h;rfl)))
theorem run_out {x:Im}(hx:ImI x) (H:Nat):∀ (k:Nat) (s:Vm),Iv x H s→(runV x H k s).2.2.out.length≤s.out.length+k
 | 0,s,_=>by rw[runV];exact Nat.le_refl _
 | k+1,s,h=>by
  rw[runV]
  cases hi:(cdAt x s.fn).ins[s.pc]? with
  | none=>show s.out.length≤s.out.length+(k+1);omega
  | some i =>
   dsimp only
   cases hs:s.tick.ins x H i with
   | go t =>
    dsimp only;have h1:=run_out hx H k t (h.tick.ins hx rfl hi hs);have h2:=(ins_cnt hx h.tick rfl hi hs).2.2.2;have h3:s.tick.out=s.out:=rfl;rw[h3]at h2;omega
   | fin e c t =>
    dsimp only;rw[ins_out hx h.tick rfl hi hs];show s.out.length≤s.out.length+(k+1)
    omega
theorem runI_out {x:Im}{e:Se}(hx:ImI x) (hs:seB e=true):(runI x e).2.2.out.length≤200000:=by
 have hr:=seB_rg hs;have hfr:=(hx.at hx.mn).fr
 have key:∀ b z c,1≤b→16≤z→b+z≤12000→frN x x.main.toNat+7≤z→(runV x e.half.toNat e.fuel.toNat (startV x e b z c)).2.2.out.length≤200000:=fun b z c h1 h2 h3 h4=>by
  have:=run_out hx e.half.toNat e.fuel.toNat (startV x e b z c) (startV_iv hx (by omega) (by omega) h1 h2 h3 h4);have h5:(startV x e b z c).out.length=0:=rfl;omega
 have hge:=growS_ge 10 e.stack.toNat (frN x x.main.toNat+7);have hok:frN x x.main.toNat+7≤growS 10 e.stack.toNat (frN x x.main.toNat+7):=grow10 (by omega) (by omega);unfold runI;dsimp only;split
 ·rename_i hz
  exact key _ _ _ (by omega) (by omega) (by omega) hok
 ·split
  ·show 0≤200000;omega
  ·exact key _ _ _ (by omega) (by omega) (by omega) hok
theorem later_grow {a b c:World}{g:Nat}(h:Later a b) (k:b.grownBy c (some g)) (hg:a.heap.size≤g):Later a c:=⟨k.os.trans h.os,k.tape.trans h.tape,k.output.trans h.output,Nat.le_trans h.size k.size,fun i hi=>by rw[k.block i (Nat.lt_of_lt_of_le hi h.size) (fun q=>by have:=Option.some.inj q;omega)];exact h.block i hi⟩
theorem items_one (l:List (Int × Int)):∀ y∈itemsL l,y.oneCell'=true:=fun y hy=>by
 unfold itemsL at hy;obtain⟨p,_,hp⟩:=List.mem_flatMap.1 hy;simp only[List.mem_cons,List.not_mem_nil,or_false]at hp;rcases hp with rfl|rfl <;> rfl
theorem put6_row {w9:World}{b base k n:Nat}{t:TypeId}{v:Value}{xs:List Value}(v0 v1 v2 v3 v4 v5:Value) (o:w9.ownsRow base t k v n xs) (hb:∀ c,v.ownBlock=some c→c≠b):(put6 w9 b v0 v1 v2 v3 v4 v5).ownsRow base t k v n xs:=own_kept o (fun c hc=>put6_far v0 v1 v2 v3 v4 v5 (hb c hc))
theorem put6_cell {w9:World}{b K o:Nat}{u:Value}(v0 v1 v2 v3 v4 v5:Value) (hK:K≠b) (h:w9.cell? ⟨K,o,none⟩=some u):(put6 w9 b v0 v1 v2 v3 v4 v5).cell? ⟨K,o,none⟩=some u:=(World.cell?_of_block (put6_far v0 v1 v2 v3 v4 v5 hK)).trans h
theorem put6_end {w w3 wc w9:World}{b n:Nat}{v0 v1 v2 v3 v4 v5:Value}{oa:Option Addr}{oc:Nat}{xs:List Value}{Z:World→Prop}(HZ:∀ W,W.ownsRow w.heap.size 125 2 (.slice oa n oc) n xs→Later w W→Z W) (lw:Later w w3) (l3:Later w3 wc) (l9:Later wc w9) (hb:w.heap.size≤b) (hbc:b<wc.heap.size) (o9:w9.ownsRow w.heap.size 125 2 (.slice oa n oc) n xs) (hb9:∀ c,(Value.slice oa n oc).ownBlock=some c→wc.heap.size≤c):∀ W,Later (put6 w9 b v0 v1 v2 v3 v4 v5) W→Z W:=fun W l=>by
 have o10:=put6_row v0 v1 v2 v3 v4 v5 o9 (b:=b) (fun c hc=>by have:=hb9 c hc;omega);exact HZ W (own_kept o10 (fun c hc=>l.block c (o10.lt c hc).2)) ((put6_later v0 v1 v2 v3 v4 v5 (lw.trans (l3.trans l9)) hb).trans l)
theorem buildR (a b:Int) (oa:Option Addr) (on oc:Nat) (c d f:Int) (w:World):(Instr.build 33 #[(0,.int .i64 a),(1,.int .i64 b),(2,.slice oa on oc),(3,.int .i64 c),(4,.int .i64 d),(5,.int .i64 f)]).run Tryz.prog w=.ok (.agg #[.int .i64 a,.int .i64 b,.slice oa on oc,.int .i64 c,.int .i64 d,.int .i64 f]) w:=run_build w 33 _ _ (by kernel_rfl)
theorem lit_run (w:World):(Instr.buildSlice 26 0 #[]).run Tryz.prog w=.ok (.slice (some ⟨w.heap.size,0,none⟩) 0 0) (w.alloc (.cells #[] 3)):=by first|kernel_rfl|simp[go_sem]
theorem step_lit {ops:Array Oper}{o:Oper}{a:Act}{w:World}{K:Act→World→Prop}{Q:Exit→Act→World→Prop}{E:Prop}(hg:o.guard=none) (hop:o.op=Op.buildSlice 26 0 #[]) (h:K (a.put o.dst (.slice (some ⟨w.heap.size,0,none⟩) 0 0)) (w.alloc (.cells #[] 3))) :
  if Region.wanted o (yielded ops a.tmps)=true then Oper.wp Tryz.prog o a w K Q else E:=by
 have hw:Region.wanted o (yielded ops a.tmps)=true:=by simp[Region.wanted,hg]
 rw[if_pos hw];have hr:=lit_run w;unfold Oper.wp;simp[execOp,hop,hr,Result.andThen];exact h
def cntB (b:Bool):Nat:=if b then 0 else 1
def rdyB (b5 b10 b15:Bool) (p:Nat):List Nat:=(if b5 then [] else [5])++((if b10 then [] else [10])++((if b15 then [] else [15])++(if p=0 then [16] else if p=1 then [19] else [])))
theorem allH_app {ops:Array Oper}{Q:Exit→Act→World→Prop}{S:World→Prop}{f:Nat}{li:Array Bool}{a:Act}{w:World}{l1 l2:List Nat}(h1:AllReadyH Tryz.prog .any ops Q S f li a w l1) (h2:AllReadyH Tryz.prog .any ops Q S f li a w l2):AllReadyH Tryz.prog .any ops Q S f li a w (l1++l2):=fun j hj=>(List.mem_append.1 hj).elim (h1 j) (h2 j)
def Made (w0:World) (N:Nat) (l:List Int) (b5 b10 b15:Bool) (p:Nat) (v20 v25 v30 v31 v34:Value) (w:World):Prop :=
 ∃ g1 g2 g3 vi zs,Acc w0 w N g1 g2 g3 vi zs∧(b5=true→∃ g,g1=some g∧v20=.slice (some ⟨g,0,none⟩) N N)∧(b5=false→g1=none)∧(b10=true→∃ g,g2=some g∧v25=.slice (some ⟨g,0,none⟩) N N)∧(b10=false→g2=none)∧(b15=true→∃ g,g3=some g∧v30=.slice (some ⟨g,0,none⟩) 16 16)∧(b15=false→g3=none)∧(p=0→vi=none∧zs=[])∧(p=1→vi=some v31∧zs=[])∧(p=2→∃ a9 iq,v34=.slice a9 l.length iq∧vi=some v34∧zs=l)
theorem tree3 {ops:Array Oper}{Q:Exit→Act→World→Prop}{S:World→Prop}{w0:World}{N f0:Nat}{l:List Int}{u:Value}(listed:Bool→Bool→Bool→Nat→Array Bool) (fr:Value→Value→Value→Value→Value→Act)
  (hr:∀ b5 b10 b15 p,p≤2→Region.ready .any ops (listed b5 b10 b15 p)=if b5&&b10&&b15&&p==2 then [24] else rdyB b5 b10 b15 p)
  (hl5:∀ b10 b15 p,(listed false b10 b15 p).setIfInBounds 5 true=listed true b10 b15 p) (hl10:∀ b5 b15 p,(listed b5 false b15 p).setIfInBounds 10 true=listed b5 true b15 p) (hl15:∀ b5 b10 p,(listed b5 b10 false p).setIfInBounds 15 true=listed b5 b10 true p) (hl16:∀ b5 b10 b15,(listed b5 b10 b15 0).setIfInBounds 16 true=listed b5 b10 b15 1) (hl19:∀ b5 b10 b15,(listed b5 b10 b15 1).setIfInBounds 19 true=listed b5 b10 b15 2)
  (f20:∀ a b c d e v,(fr a b c d e).put (some 20) v=fr v b c d e) (f25:∀ a b c d e v,(fr a b c d e).put (some 25) v=fr a v c d e) (f30:∀ a b c d e v,(fr a b c d e).put (some 30) v=fr a b v d e) (f31:∀ a b c d e v,(fr a b c d e).put (some 31) v=fr a b c v e) (f34:∀ a b c d e v,(fr a b c d e).put (some 34) v=fr a b c d v)
  {o5 o10 o15 o16 o19:Oper}(h5:ops[5]?=some o5) (h10:ops[10]?=some o10) (h15:ops[15]?=some o15) (h16:ops[16]?=some o16) (h19:ops[19]?=some o19) (g5:o5.guard=none) (g10:o10.guard=none) (g15:o15.guard=none) (g16:o16.guard=none) (g19:o19.guard=none) (d5:o5.dst=some 20) (d10:o10.dst=some 25) (d15:o15.dst=some 30) (d16:o16.dst=some 31) (d19:o19.dst=some 34)
  (p5:o5.op=Op.makeSlice 26 (.tmp 19) (.tmp 19)) (p10:o10.op=Op.makeSlice 54 (.tmp 24) (.tmp 24)) (p15:o15.op=Op.makeSlice 26 (.const (.int .i64 16)) (.const (.int .i64 16))) (p16:o16.op=Op.buildSlice 26 0 #[]) (p19:o19.op=Op.call { callee:=Callee.builtin Builtin.append,args:=#[.tmp 31,.tmp 33],argTypes:=#[26,26] })
  (e19:∀ a b c d e,(fr a b c d e).eval (.tmp 19)=.int .i64 (N:Int)) (e24:∀ a b c d e,(fr a b c d e).eval (.tmp 24)=.int .i64 (N:Int)) (e31:∀ a b c d e,(fr a b c d e).eval (.tmp 31)=d) (e33:∀ a b c d e,(fr a b c d e).eval (.tmp 33)=u)
  (hN:N≤20000) (hl:l.length≤2000) (hu:∀ w',Later w0 w'→Src w' u l.length (l.map (Value.int .i64))) (hS:∀ w',Later w0 w'→S w')
  (leaf:∀ g1 g2 g3 a9 iq d w,Acc w0 w N (some g1) (some g2) (some g3) (some (.slice a9 l.length iq)) l→wpAnyH Tryz.prog .any ops Q S f0 (listed true true true 2) (fr (.slice (some ⟨g1,0,none⟩) N N) (.slice (some ⟨g2,0,none⟩) N N) (.slice (some ⟨g3,0,none⟩) 16 16) d (.slice a9 l.length iq)) w) :
  ∀ (n:Nat) (b5 b10 b15:Bool) (p:Nat) (v20 v25 v30 v31 v34:Value) (w:World),p≤2→n=cntB b5+cntB b10+cntB b15+(2 - p)→Made w0 N l b5 b10 b15 p v20 v25 v30 v31 v34 w→wpAnyH Tryz.prog .any ops Q S (f0+n) (listed b5 b10 b15 p) (fr v20 v25 v30 v31 v34) w:=by
 intro n
 induction n with
 | zero =>
  intro b5 b10 b15 p v20 v25 v30 v31 v34 w hp hn hM;obtain⟨g1,g2,g3,vi,zs,A,k5,_,k10,_,k15,_,_,_,k2⟩:=hM;have hc:∀ b,cntB b=0→b=true:=fun b h=>by cases b <;> simp[cntB]at h ⊢
  obtain rfl:=hc b5 (by omega);obtain rfl:=hc b10 (by omega);obtain rfl:=hc b15 (by omega);obtain rfl:p=2:=by omega
  obtain⟨g1,rfl,rfl⟩:=k5 rfl;obtain⟨g2,rfl,rfl⟩:=k10 rfl;obtain⟨g3,rfl,rfl⟩:=k15 rfl;obtain⟨a9,iq,rfl,rfl,rfl⟩:=k2 rfl;exact leaf _ _ _ _ _ _ _ A
 | succ n ih =>
  intro b5 b10 b15 p v20 v25 v30 v31 v34 w hp hn hM;obtain⟨g1,g2,g3,vi,zs,A,k5,j5,k10,j10,k15,j15,k0,k1,k2⟩:=hM
  have hnf:(b5&&b10&&b15&&p==2)=false:=by
   unfold cntB at hn
   cases b5 <;> cases b10 <;> cases b15 <;> simp at hn ⊢
   omega
  have hrd:=hr b5 b10 b15 p hp;rw[hnf]at hrd;refine wpAnyH_ready hrd ?_ ?_
  ·unfold rdyB
   cases b5 <;> cases b10 <;> cases b15 <;> simp
   simp at hnf;split
   ·simp
   ·split
    ·simp
    ·omega
  ·show AllReadyH Tryz.prog .any ops Q S (f0+n) (listed b5 b10 b15 p) (fr v20 v25 v30 v31 v34) w (rdyB b5 b10 b15 p);unfold rdyB;refine allH_app ?_ (allH_app ?_ (allH_app ?_ ?_))
   ·cases b5 with
    | true=>exact AllReadyH.nil
    | false =>
     refine AllReadyH.cons h5 (fun K hK=>?_) AllReadyH.nil;obtain rfl:=j5 rfl;refine step_words hN A g5 _ p5 (e19 _ _ _ _ _) (fun w' B=>?_);rw[d5,f20];refine hK.out _ _ (hS w' B.lat) (fun _=>?_);rw[hl5];exact ih _ _ _ _ _ _ _ _ _ _ hp (by unfold cntB at hn ⊢;simp at hn ⊢;omega) ⟨_,_,_,_,_,B,fun _=>⟨_,rfl,rfl⟩,(fun q=>by cases q),k10,j10,k15,j15,k0,k1,k2⟩
   ·cases b10 with
    | true=>exact AllReadyH.nil
    | false =>
     refine AllReadyH.cons h10 (fun K hK=>?_) AllReadyH.nil;obtain rfl:=j10 rfl;refine step_marks hN A g10 _ p10 (e24 _ _ _ _ _) (fun w' B=>?_);rw[d10,f25];refine hK.out _ _ (hS w' B.lat) (fun _=>?_);rw[hl10];exact ih _ _ _ _ _ _ _ _ _ _ hp (by unfold cntB at hn ⊢;simp at hn ⊢;omega) ⟨_,_,_,_,_,B,k5,j5,fun _=>⟨_,rfl,rfl⟩,(fun q=>by cases q),k15,j15,k0,k1,k2⟩
   ·cases b15 with
    | true=>exact AllReadyH.nil
    | false =>
     refine AllReadyH.cons h15 (fun K hK=>?_) AllReadyH.nil;obtain rfl:=j15 rfl;refine step_regs A g15 _ p15 rfl (fun w' B=>?_);rw[d15,f30];refine hK.out _ _ (hS w' B.lat) (fun _=>?_);rw[hl15];exact ih _ _ _ _ _ _ _ _ _ _ hp (by unfold cntB at hn ⊢;simp at hn ⊢;omega) ⟨_,_,_,_,_,B,k5,j5,k10,j10,fun _=>⟨_,rfl,rfl⟩,(fun q=>by cases q),k0,k1,k2⟩
   ·by_cases p0:p=0
    ·subst p0;rw[if_pos rfl];refine AllReadyH.cons h16 (fun K hK=>?_) AllReadyH.nil;obtain⟨rfl,rfl⟩:=k0 rfl;refine step_lit g16 p16 ?_;have B:=A.lit;rw[d16,f31];refine hK.out _ _ (hS _ B.lat) (fun _=>?_);rw[hl16];exact ih _ _ _ _ _ _ _ _ _ _ (by omega) (by omega) ⟨_,_,_,_,_,B,k5,j5,k10,j10,k15,j15,(fun q=>by cases q),fun _=>⟨rfl,rfl⟩,(fun q=>by cases q)⟩
    ·rw[if_neg p0];by_cases p1:p=1
     ·subst p1;rw[if_pos rfl];refine AllReadyH.cons h19 (fun K hK=>?_) AllReadyH.nil;obtain⟨rfl,rfl⟩:=k1 rfl;refine step_inp hl hu A g19 _ _ p19 (e31 _ _ _ _ _) (e33 _ _ _ _ _) (fun a9 iq w' B=>?_);rw[d19,f34];refine hK.out _ _ (hS _ B.lat) (fun _=>?_);rw[hl19];exact ih _ _ _ _ _ _ _ _ _ _ (by omega) (by omega) ⟨_,_,_,_,_,B,k5,j5,k10,j10,k15,j15,(fun q=>by cases q),(fun q=>by cases q),fun _=>⟨_,_,rfl,rfl,rfl⟩⟩
     ·rw[if_neg p1];exact AllReadyH.nil
def fr0 (a0:Act) (a b c d e:Value):Act:=((((a0.put (some 20) a).put (some 25) b).put (some 30) c).put (some 31) d).put (some 34) e
theorem tree3a {ops:Array Oper}{Q:Exit→Act→World→Prop}{S:World→Prop}{w0:World}{N f0:Nat}{l:List Int}{u:Value}{a0:Act}{li0:Array Bool}(listed:Bool→Bool→Bool→Nat→Array Bool) (hl0:li0=listed false false false 0) (h0:fr0 a0 undef undef undef undef undef=a0)
  (hr:∀ b5 b10 b15 p,p≤2→Region.ready .any ops (listed b5 b10 b15 p)=if b5&&b10&&b15&&p==2 then [24] else rdyB b5 b10 b15 p)
  (hl5:∀ b10 b15 p,(listed false b10 b15 p).setIfInBounds 5 true=listed true b10 b15 p) (hl10:∀ b5 b15 p,(listed b5 false b15 p).setIfInBounds 10 true=listed b5 true b15 p) (hl15:∀ b5 b10 p,(listed b5 b10 false p).setIfInBounds 15 true=listed b5 b10 true p) (hl16:∀ b5 b10 b15,(listed b5 b10 b15 0).setIfInBounds 16 true=listed b5 b10 b15 1) (hl19:∀ b5 b10 b15,(listed b5 b10 b15 1).setIfInBounds 19 true=listed b5 b10 b15 2)
  (f20:∀ a b c d e v,(fr0 a0 a b c d e).put (some 20) v=fr0 a0 v b c d e) (f25:∀ a b c d e v,(fr0 a0 a b c d e).put (some 25) v=fr0 a0 a v c d e) (f30:∀ a b c d e v,(fr0 a0 a b c d e).put (some 30) v=fr0 a0 a b v d e) (f31:∀ a b c d e v,(fr0 a0 a b c d e).put (some 31) v=fr0 a0 a b c v e) (f34:∀ a b c d e v,(fr0 a0 a b c d e).put (some 34) v=fr0 a0 a b c d v)
  {o5 o10 o15 o16 o19:Oper}(h5:ops[5]?=some o5) (h10:ops[10]?=some o10) (h15:ops[15]?=some o15) (h16:ops[16]?=some o16) (h19:ops[19]?=some o19) (g5:o5.guard=none) (g10:o10.guard=none) (g15:o15.guard=none) (g16:o16.guard=none) (g19:o19.guard=none) (d5:o5.dst=some 20) (d10:o10.dst=some 25) (d15:o15.dst=some 30) (d16:o16.dst=some 31) (d19:o19.dst=some 34)
  (p5:o5.op=Op.makeSlice 26 (.tmp 19) (.tmp 19)) (p10:o10.op=Op.makeSlice 54 (.tmp 24) (.tmp 24)) (p15:o15.op=Op.makeSlice 26 (.const (.int .i64 16)) (.const (.int .i64 16))) (p16:o16.op=Op.buildSlice 26 0 #[]) (p19:o19.op=Op.call { callee:=Callee.builtin Builtin.append,args:=#[.tmp 31,.tmp 33],argTypes:=#[26,26] })
  (e19:∀ a b c d e,(fr0 a0 a b c d e).eval (.tmp 19)=.int .i64 (N:Int)) (e24:∀ a b c d e,(fr0 a0 a b c d e).eval (.tmp 24)=.int .i64 (N:Int)) (e31:∀ a b c d e,(fr0 a0 a b c d e).eval (.tmp 31)=d) (e33:∀ a b c d e,(fr0 a0 a b c d e).eval (.tmp 33)=u)
  (hN:N≤20000) (hl:l.length≤2000) (hu:∀ w',Later w0 w'→Src w' u l.length (l.map (Value.int .i64))) (hS:∀ w',Later w0 w'→S w')
  (leaf:∀ g1 g2 g3 a9 iq d w,Acc w0 w N (some g1) (some g2) (some g3) (some (.slice a9 l.length iq)) l→wpAnyH Tryz.prog .any ops Q S f0 (listed true true true 2) (fr0 a0 (.slice (some ⟨g1,0,none⟩) N N) (.slice (some ⟨g2,0,none⟩) N N) (.slice (some ⟨g3,0,none⟩) 16 16) d (.slice a9 l.length iq)) w) :
  ∀ w,Acc w0 w N none none none none []→wpAnyH Tryz.prog .any ops Q S (f0+5) li0 a0 w:=fun w A=>by
 have h:=tree3 listed (fr0 a0) hr hl5 hl10 hl15 hl16 hl19 f20 f25 f30 f31 f34 h5 h10 h15 h16 h19 g5 g10 g15 g16 g19 d5 d10 d15 d16 d19 p5 p10 p15 p16 p19 e19 e24 e31 e33 hN hl hu hS leaf 5 false false false 0 undef undef undef undef undef w (by decide) rfl ⟨none,none,none,none,[],A,(fun q=>by cases q),fun _=>rfl,(fun q=>by cases q),fun _=>rfl,(fun q=>by cases q),fun _=>rfl,fun _=>⟨rfl,rfl⟩,(fun q=>by cases q),(fun q=>by cases q)⟩;rw[h0]at h;rw[hl0];exact h
end Go.Proofs.YtjnpncefkigcbaaGreat
