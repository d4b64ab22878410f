import Derived.Test.YtgaddpkkjebekaaGreatDoorZ01
import Derived.Test.YtgaddpkkjebekaaGreatDoorZ08
import Derived.Test.YtgaddpkkjebekaaGreatDoorZ05
import Derived.Test.YtgaddpkkjebekaaGreatDoorZ37
import Derived.Deep.RegionWith
import Derived.Laws.BytesArg
import Derived.Laws.Bits64b
set_option maxHeartbeats 100000000
set_option maxRecDepth 100000
namespace Go.Proofs.YtgaddpkkjebekaaGreatDoor.KL
open Go.RowKit
abbrev Tok:=Int × Int × Int × List Int
abbrev Lay:=Nat × Nat × Nat
theorem lt_of_cell {w:World}{a:Addr}{v:Value}(h:w.cell? a=some v):a.block<w.heap.size:=by
 rcases Nat.lt_or_ge a.block w.heap.size with l|l
 ·exact l
 ·have:w.heap[a.block]?=none:=Array.getElem?_eq_none l;unfold World.cell? at h;rw[this]at h
  cases h
def evN (zs:List Int):Int:=zs.foldl (fun a z=>a*10+(z - 48)) 0
theorem Qm (zs:List Int) (z:Int):evN (zs++[z])=evN zs*10+(z - 48):=by unfold evN;rw[List.foldl_append];rfl
theorem Gt (k u:Nat) (h:u<10 ^ k) (hk:0<k):evN (kE k u)=u:=by
 induction k generalizing u with
 | zero=>exact absurd hk (Nat.lt_irrefl _)
 | succ k ih =>
  unfold kE;split
  ·unfold evN;simp;omega
  ·rename_i hlt
   have hk0:0<k:=by
    rcases Nat.eq_zero_or_pos k with h'|h'
    ·subst h';simp at h;omega
    ·exact h'
   rw[Qm,ih (u / 10) (by rw[Nat.pow_succ]at h;omega) hk0];omega
theorem nY (k u:Nat):∀ z∈kE k u,48<=z/\z<=57:=by
 induction k generalizing u with
 | zero=>intro z hz;cases hz
 | succ k ih =>
  unfold kE;split
  ·intro z hz;rw[List.mem_singleton.1 hz];omega
  ·intro z hz;rcases List.mem_append.1 hz with hz|hz
   ·exact ih _ z hz
   ·rw[List.mem_singleton.1 hz];omega
def inB (n:Int):Bool:=decide (-9223372036854775808<=n)&&decide (n<=9223372036854775807)
theorem J9 (n:Int):inB n=true↔InR n:=by unfold inB InR;simp
def AU (zs:List Int):Int:=if zs.head?=some 45 then -(evN zs.tail) else evN zs
def jH (zs:List Int):Option Int:=if inB (AU zs)&&(iI (AU zs)==zs) then some (AU zs) else none
theorem GG {n:Int}(h:n<0):iI n=45::kE 20 (-n).toNat:=if_pos h
theorem yN {n:Int}(h:¬ n<0):iI n=kE 20 n.toNat:=if_neg h
theorem IQ {m:Int}(h:InR m):jH (iI m)=some m:=by
 unfold InR at h
 have e:AU (iI m)=m:=by
  unfold AU;by_cases hn:m<0
  ·rw[GG hn,if_pos (show (45::kE 20 (-m).toNat).head?=some 45 from rfl),List.tail_cons,Gt 20 _ (by omega) (by decide)];omega
  ·rw[yN hn];have hp:=Bq 19 m.toNat;have hd:=nY 20 m.toNat;rw[if_neg,Gt 20 _ (by omega) (by decide)]
   ·omega
   ·intro hh;have:=hd 45 (List.mem_of_mem_head? hh);omega
 unfold jH;simp only[e,(J9 m).2 h,beq_self_eq_true,Bool.and_self,if_true]
theorem rM {zs:List Int}{n:Int}(h:jH zs=some n):InR n/\zs=iI n:=by
 unfold jH at h;split at h
 ·rename_i hc
  rw[Bool.and_eq_true,beq_iff_eq]at hc
  cases h
  exact⟨(J9 _).1 hc.1,hc.2.symm⟩
 ·cases h
theorem mr {zs:List Int}(h:∀ m,InR m->zs≠iI m):jH zs=none:=by
 cases e:jH zs with
 | none=>rfl
 | some m=>exact absurd (rM e).2 (h m (rM e).1)
theorem lQ {xs ys:List Int}(hx:∀ j,isB (xs.getD j 0)) (hy:∀ j,isB (ys.getD j 0)):((strOfNums xs).toList==(strOfNums ys).toList)=decide (xs=ys):=by
 have e:∀ zs:List Int,(strOfNums zs).toList=zs.map fun n=>UInt8.ofNat n.toNat:=fun zs=>by
  rw[ByteArray.toList_eq];exact strOfNums_data zs
 rw[e,e,Bool.eq_iff_iff,beq_iff_eq,decide_eq_true_eq];constructor
 ·intro h;have hl:xs.length=ys.length:=by simpa using congrArg List.length h
  refine Bo hl (fun j hj=>?_);have h1:=congrArg (fun l=>l[j]?) h;simp only[List.getElem?_map,List.getElem?_eq_getElem hj,List.getElem?_eq_getElem (show j<ys.length by omega),Option.map_some,Option.some.injEq]at h1;have a:=hx j;have b:=hy j;rw[List.getD_eq_getElem?_getD,List.getElem?_eq_getElem hj]at a ⊢;rw[List.getD_eq_getElem?_getD,List.getElem?_eq_getElem (show j<ys.length by omega)]at b ⊢;simp only[Option.getD_some]at a b ⊢;unfold isB at a b;have h2:=congrArg UInt8.toNat h1;rw[UInt8.toNat_ofNat',UInt8.toNat_ofNat']at h2;omega
 ·intro h;rw[h]
theorem GM {w:World}{v:Value}{zs:List Int}(h:RdB w v zs):∀ w',Later w w'->(convert 22 9 v).run Tryz.prog w'=.ok (.string (strOfNums zs)) w':=by
 intro w' hl;obtain⟨a,cap,rfl,_,_,hc⟩:=h.later hl;rcases Nat.eq_zero_or_pos zs.length with h0|h0
 ·have:zs=[]:=List.eq_nil_of_length_eq_zero h0;subst this
  cases a with
  | none=>exact run_convert_bytes_nil w' 22 5 Tryz.underlying22 Tryz.underlying5 0 cap 9 Tryz.underlying9
  | some x =>
   obtain⟨b,off,sp⟩:=x;rw[run_convert_bytes_string w' 22 9 5 _ _ cap Tryz.underlying22 Tryz.underlying5 Tryz.underlying9,run_bytesToString w' _ _ cap [] (by simpa using run_loadCells_list (P:=Tryz.prog) w' ⟨b,off,sp⟩ [] (fun j v h=>by simp at h))];rfl
 ·obtain⟨g,off,rfl,_,_⟩:=hc 0 h0;refine run_convert_bytes_arg w' 22 5 Tryz.underlying22 Tryz.underlying5 g off zs.length cap zs rfl (fun i hi=>?_) 9 Tryz.underlying9;obtain⟨_,_,he,_,hv⟩:=hc i hi
  cases he
  exact hv
theorem Qp (n:Int):∀ j,isB ((iI n).getD j 0):=by
 have h:∀ z∈iI n,isB z:=by
  unfold iI isB;split
  ·intro z hz;rcases List.mem_cons.1 hz with rfl|hz
   ·omega
   ·have:=nY _ _ z hz;omega
  ·intro z hz;have:=nY _ _ z hz;omega
 intro j;rw[List.getD_eq_getElem?_getD];rcases Nat.lt_or_ge j (iI n).length with hj|hj
 ·rw[List.getElem?_eq_getElem hj];exact h _ (List.getElem_mem _)
 ·rw[List.getElem?_eq_none hj];exact⟨by simp,by simp⟩
theorem NF (n:Int):InR (IntKind.i64.wrap n):=by rw[IntKind.wrap_i64];unfold InR;omega
theorem w64 (n:Int):IntKind.i64.wrap n=wrap64 n:=by rw[IntKind.wrap_i64];unfold wrap64;rfl
def BQ (zs:List Int) (w:World) (e:Ending) (w':World):Prop:=∃ n b,e=.returned (.tuple #[.int .i64 n,.bool b])/\jH zs=(if b then some n else none)/\Later w w'
theorem Jo {n:Int}(hn:InR n) (h:Ag (fb n)=false):cb (fb n)=n:=by
 rw[Jm h];unfold InR at hn;have:=Ku n;rw[IntKind.wrap_u64]at this;unfold wrap64;omega
def canon (n:Int):Bool:=if Ag (fb n) then n==9221120237041090561 else true
def x9 (z:Int):Bool:=dig z||(decide (97<=z)&&decide (z<=102))
def hexV (z:Int):Int:=if z<=57 then z - 48 else z - 97+10
def evH (zs:List Int):Int:=zs.foldl (fun a z=>a*16+hexV z) 0
theorem Gu (zs:List Int) (z:Int):evH (zs++[z])=evH zs*16+hexV z:=by unfold evH;rw[List.foldl_append];rfl
def dB (zs:List Int):Option Int :=
 if decide (zs.length=18)&&(zs.getD 0 0==48)&&(zs.getD 1 0==102)&&(zs.drop 2).all x9&&canon (wrap64 (evH (zs.drop 2))) then some (wrap64 (evH (zs.drop 2))) else none
def GZ (zs:List Int) (w:World) (e:Ending) (w':World):Prop:=∃ n b,e=.returned (.tuple #[.int .i64 n,.bool b])/\dB zs=(if b then some n else none)/\Later w w'
theorem GZ.no {zs:List Int}{w w':World}{e:Ending}{n:Int}(h:e=.returned (.tuple #[.int .i64 n,.bool false])) (h2:dB zs=none) (h3:Later w w'):GZ zs w e w':=⟨n,false,h,h2,h3⟩
theorem Gn {zs:List Int}(h:¬ (zs.length=18/\zs.getD 0 0=48/\zs.getD 1 0=102/\∀ j,2<=j->j<18->x9 (zs.getD j 0)=true)):dB zs=none:=by
 unfold dB;refine if_neg (fun hc=>h ?_);simp only[Bool.and_eq_true,decide_eq_true_eq,beq_iff_eq,List.all_eq_true]at hc;obtain⟨⟨⟨⟨h1,h2⟩,h3⟩,h4⟩,_⟩:=hc;refine⟨h1,h2,h3,fun j hj hj'=>h4 _ ?_⟩;rw[List.getD_eq_getElem?_getD,List.getElem?_eq_getElem (by omega)];refine List.mem_iff_getElem.2 ⟨j - 2,by simp;omega,?_⟩;rw[List.getElem_drop];simp only[Option.getD_some]
 congr 1
 omega
theorem Qc {zs:List Int}(h1:zs.length=18) (h2:zs.getD 0 0=48) (h3:zs.getD 1 0=102) (h4:∀ j,2<=j->j<18->x9 (zs.getD j 0)=true):dB zs=if canon (wrap64 (evH (zs.drop 2))) then some (wrap64 (evH (zs.drop 2))) else none:=by
 unfold dB
 have h5:(zs.drop 2).all x9=true:=by
  rw[List.all_eq_true];intro x hx;obtain⟨j,hj,rfl⟩:=List.mem_iff_getElem.1 hx;rw[List.length_drop]at hj;have:=h4 (2+j) (by omega) (by omega);rw[List.getD_eq_getElem?_getD,List.getElem?_eq_getElem (by omega)]at this;rw[List.getElem_drop];simp only[Option.getD_some]at this;exact this
 rw[decide_eq_true h1,h2,h3,h5];simp
theorem AZ {z:Int}(h:isB z):(48<=z/\z<=57/\x9 z=true/\hexV z=z - 48)\/(97<=z/\z<=102/\x9 z=true/\hexV z=z - 97+10)\/(z<48/\x9 z=false)\/(57<z/\z<97/\x9 z=false)\/(102<z/\x9 z=false):=by
 unfold isB at h;unfold x9 dig hexV;rcases (by omega:(48<=z/\z<=57)\/(97<=z/\z<=102)\/(z<48)\/(57<z/\z<97)\/(102<z)) with h|h|h|h|h
 ·exact .inl ⟨h.1,h.2,by simp;omega,by rw[if_pos h.2]⟩
 ·exact .inr (.inl ⟨h.1,h.2,by simp;omega,by rw[if_neg (by omega)]⟩)
 ·exact .inr (.inr (.inl ⟨h,by simp;omega⟩))
 ·exact .inr (.inr (.inr (.inl ⟨h.1,h.2,by simp;omega⟩)))
 ·exact .inr (.inr (.inr (.inr ⟨h,by simp;omega⟩)))
def rq (zs:List Int):Nat->Nat->Nat
 | 0,j=>j
 | f+1,j=>if decide (j<zs.length)&&inner (zs.getD j 0) then rq zs f (j+1) else j
def jY (zs:List Int) (j:Nat):Nat:=rq zs zs.length j
def Jr (z:Int):Bool:=z==32||z==10
def qW (zs:List Int) (i:Nat):Bool:=inner (zs.getD i 0)||((zs.getD i 0==45)&&decide (i+1<zs.length)&&dig (zs.getD (i+1) 0))
def kF (zs:List Int) (i j:Nat):List Int:=(zs.take j).drop i
def uY (p:List Int) (i:Nat):Option Tok :=
 match jH p with
 | some n=>some (2,(i:Int),n,[])
 | none=>match dB p with
  | some m=>some (3,(i:Int),m,[])
  | none=>if aY p false||aY p true then some (1,(i:Int),0,p) else none
def ni (zs:List Int) (i:Nat):Nat:=if (zs.getD i 0==61)&&decide (i+1<zs.length)&&(zs.getD (i+1) 0==61) then i+2 else i+1
def lS (zs:List Int) (i:Nat):Option (List Tok × Nat) :=
 if Jr (zs.getD i 0) then some ([],i+1)
 else if qW zs i then (uY (kF zs i (jY zs (i+1))) i).map fun t=>([t],jY zs (i+1))
 else if sign (zs.getD i 0) then some ([(4,(i:Int),0,kF zs i (ni zs i))],ni zs i)
 else none
def qy (zs:List Int):Nat->Nat->List Tok->List Tok × Int
 | 0,_,acc=>(acc,-1)
 | f+1,i,acc=>if decide (i<zs.length) then (match lS zs i with|none=>([],(i:Int))|some (t,j)=>qy zs f j (acc++t)) else (acc,-1)
def xY (zs:List Int):List Tok × Int:=if decide (6000<zs.length) then ([],0) else qy zs zs.length 0 []
def UX (zs:List Int):List Tok:=(xY zs).1
def mG (zs:List Int) (k:Nat) (acc:List Tok):Prop:=∃ f,zs.length - k<=f/\qy zs f k acc=qy zs zs.length 0 []
theorem mG.start (zs:List Int):mG zs 0 []:=⟨zs.length,by omega,rfl⟩
theorem mG.done {zs:List Int}{k:Nat}{acc:List Tok}(h:mG zs k acc) (hk:zs.length<=k):qy zs zs.length 0 []=(acc,-1):=by
 obtain⟨f,_,e⟩:=h;rw[<-e]
 cases f with
 | zero=>rfl
 | succ f=>rw[qy,if_neg (by simp;omega)]
theorem mG.bad {zs:List Int}{k:Nat}{acc:List Tok}(h:mG zs k acc) (hk:k<zs.length) (hs:lS zs k=none):qy zs zs.length 0 []=([],(k:Int)):=by
 obtain⟨f,hf,e⟩:=h;rw[<-e]
 cases f with
 | zero=>omega
 | succ f=>rw[qy,if_pos (by simpa using hk),hs]
theorem mG.next {zs:List Int}{k:Nat}{acc:List Tok}(h:mG zs k acc) (hk:k<zs.length) {t:List Tok}{j:Nat}(hs:lS zs k=some (t,j)) (hj:k<j):mG zs j (acc++t):=by
 obtain⟨f,hf,e⟩:=h
 cases f with
 | zero=>omega
 | succ f =>
  rw[qy,if_pos (by simpa using hk),hs]at e;exact⟨f,by omega,e⟩
def Piece (zs:List Int) (j E:Nat):Prop:=∃ f,zs.length - j<=f/\rq zs f j=E
theorem Piece.start (zs:List Int) (j:Nat):Piece zs j (jY zs j):=⟨zs.length,by omega,rfl⟩
theorem Piece.done {zs:List Int}{j E:Nat}(h:Piece zs j E) (hn:¬ (j<zs.length/\inner (zs.getD j 0)=true)):E=j:=by
 obtain⟨f,_,e⟩:=h;rw[<-e]
 cases f with
 | zero=>rfl
 | succ f=>rw[rq,if_neg (by simpa using hn)]
theorem Piece.next {zs:List Int}{j E:Nat}(h:Piece zs j E) (h1:j<zs.length) (h2:inner (zs.getD j 0)=true):Piece zs (j+1) E:=by
 obtain⟨f,hf,e⟩:=h
 cases f with
 | zero=>omega
 | succ f =>
  rw[rq,if_pos (by rw[decide_eq_true h1,h2];rfl)]at e;exact⟨f,by omega,e⟩
theorem xQ (zs:List Int) (f j:Nat):j<=rq zs f j/\(j<=zs.length->rq zs f j<=zs.length):=by
 induction f generalizing j with
 | zero=>exact⟨Nat.le_refl _,fun h=>h⟩
 | succ f ih =>
  unfold rq;split
  ·rename_i hc
   rw[Bool.and_eq_true,decide_eq_true_eq]at hc;have:=ih (j+1);exact⟨by omega,fun _=>this.2 (by omega)⟩
  ·exact⟨Nat.le_refl _,fun h=>h⟩
theorem Ci (zs:List Int) (j:Nat):j<=jY zs j:=(xQ zs _ j).1
theorem LH {zs:List Int}{j:Nat}(h:j<=zs.length):jY zs j<=zs.length:=(xQ zs _ j).2 h
theorem lI {zs:List Int}{i j:Nat}(h:j<=zs.length):(kF zs i j).length=j - i:=by unfold kF;simp;omega
theorem rU {zs:List Int}{i j m:Nat}(_:j<=zs.length) (hm:m<j - i):(kF zs i j).getD m 0=zs.getD (i+m) 0:=by
 unfold kF;rw[List.getD_eq_getElem?_getD,List.getD_eq_getElem?_getD,List.getElem?_drop,List.getElem?_take_of_lt (by omega)]
theorem GI {zs:List Int}(hz:∀ j,isB (zs.getD j 0)) {i j:Nat}(hj:j<=zs.length):∀ m,isB ((kF zs i j).getD m 0):=by
 intro m;rcases Nat.lt_or_ge m (j - i) with h|h
 ·rw[rU hj h];exact hz _
 ·rw[List.getD_eq_getElem?_getD,List.getElem?_eq_none (by rw[lI hj];exact h)];exact⟨by simp,by simp⟩
def pY:List (Tok × Value)->List Value
 | []=>[]
 | p::r=>.int .i64 p.1.1::.int .i64 p.1.2.1::.int .i64 p.1.2.2.1::p.2::pY r
theorem Ej (ps qs:List (Tok × Value)):pY (ps++qs)=pY ps++pY qs:=by
 induction ps with
 | nil=>rfl
 | cons p r ih=>simp[pY,ih]
theorem yg:∀ (ps:List (Tok × Value)) (j:Nat) (hj:j<ps.length),(pY ps)[j*4]?=some (.int .i64 ps[j].1.1)/\(pY ps)[j*4+1]?=some (.int .i64 ps[j].1.2.1)/\(pY ps)[j*4+2]?=some (.int .i64 ps[j].1.2.2.1)/\(pY ps)[j*4+3]?=some ps[j].2
 | p::r,0,_=>⟨rfl,rfl,rfl,rfl⟩
 | p::r,j+1,hj=>by
  have:=yg r j (by simpa using hj);rw[show (j+1)*4=j*4+1+1+1+1 by omega];exact this
end Go.Proofs.YtgaddpkkjebekaaGreatDoor.KL
namespace Go.Proofs.YtgaddpkkjebekaaGreatDoor.KL
open Go.RowKit
end Go.Proofs.YtgaddpkkjebekaaGreatDoor.KL
namespace Go.Proofs.YtgaddpkkjebekaaGreatDoor
open Go.RowKit
def TkN (l:List PTk):Prop:=∀ t∈l,InR t.2.2.1
theorem Uy {z:Int}(h:sign z=true):wS z=false:=by
 unfold sign eU at h;simp only[List.contains_cons,List.contains_nil,Bool.or_eq_true,beq_iff_eq,Bool.or_false]at h;rcases h with rfl|rfl|rfl|rfl|rfl|rfl|rfl|rfl|rfl|rfl|rfl|rfl|rfl|rfl|rfl|rfl <;> decide
theorem Nv {zs:List Int}{i j:Nat}(hi:i<zs.length) (hj:i<j):∃ r,KL.kF zs i j=zs.getD i 0::r:=by
 unfold KL.kF;rw[List.drop_eq_getElem_cons (by rw[List.length_take];omega),List.getElem_take];exact⟨_,by rw[List.getD_eq_getElem?_getD,List.getElem?_eq_getElem hi];rfl⟩
theorem IV (n:Int):InR (wrap64 n):=by rw[<-KL.w64];exact KL.NF _
theorem Ei {zs:List Int}{n:Int}(h:KL.dB zs=some n):InR n:=by
 unfold KL.dB at h;split at h
 ·cases h;exact IV _
 ·cases h
theorem Cf {p:List Int}{i:Nat}{t:KL.Tok}(h:KL.uY p i=some t):((t.1=1/\zC t.2.2.2=true)\/(t.1=2/\t.2.2.2=[])\/(t.1=3/\t.2.2.2=[])\/(t.1=4/\Hw t.2.2.2=true))/\InR t.2.2.1:=by
 unfold KL.uY at h
 cases e:KL.jH p with
 | some n =>
  rw[e]at h
  cases h
  exact⟨.inr (.inl ⟨rfl,rfl⟩),(KL.rM e).1⟩
 | none =>
  rw[e]at h;dsimp only at h
  cases e2:KL.dB p with
  | some m =>
   rw[e2]at h
   cases h
   exact⟨.inr (.inr (.inl ⟨rfl,rfl⟩)),Ei e2⟩
  | none =>
   rw[e2]at h;dsimp only at h;split at h
   next q =>
    cases h
    refine⟨.inl ⟨rfl,?_⟩,by show InR 0;unfold InR;decide⟩;simp only[Bool.or_eq_true]at q;exact q.elim yZ yZ
   next=>cases h
theorem NU {zs:List Int}{i j:Nat}{l:List KL.Tok}(hi:i<zs.length) (h:KL.lS zs i=some (l,j)):TJ l/\TkN l:=by
 unfold KL.lS at h;split at h
 next=>cases h;exact⟨fun t q=>(by cases q),fun t q=>(by cases q)⟩
 next =>
  split at h
  next =>
   cases e:KL.uY (KL.kF zs i (KL.jY zs (i+1))) i with
   | none=>rw[e]at h;cases h
   | some t =>
    rw[e]at h
    cases h
    exact⟨fun t' q=>by rw[List.mem_singleton.1 q];exact (Cf e).1,fun t' q=>by rw[List.mem_singleton.1 q];exact (Cf e).2⟩
  next =>
   split at h
   next q =>
    cases h
    refine⟨fun t' q'=>?_,fun t' q'=>?_⟩
    ·rw[List.mem_singleton.1 q'];refine .inr (.inr (.inr ⟨rfl,?_⟩));obtain⟨r,e⟩:=Nv (zs:=zs) (i:=i) (j:=KL.ni zs i) hi (by unfold KL.ni;split <;> omega);show Hw (KL.kF zs i (KL.ni zs i))=true;rw[e];show (!wS (zs.getD i 0))=true;rw[Uy q];rfl
    ·rw[List.mem_singleton.1 q'];show InR 0;unfold InR;decide
   next=>cases h
theorem JZ (zs:List Int):∀ (f i:Nat) (acc:List KL.Tok),TJ acc/\TkN acc->TJ (KL.qy zs f i acc).1/\TkN (KL.qy zs f i acc).1
 | 0,i,acc,h=>by rw[KL.qy];exact h
 | f+1,i,acc,h=>by
  rw[KL.qy];split
  next q =>
   have hi:i<zs.length:=by simpa using q
   cases e:KL.lS zs i with
   | none=>exact⟨fun t q=>(by cases q),fun t q=>(by cases q)⟩
   | some y =>
    obtain⟨t,j⟩:=y;have h2:=NU hi e;exact JZ zs f j (acc++t) ⟨fun x q=>(List.mem_append.1 q).elim (h.1 x) (h2.1 x),fun x q=>(List.mem_append.1 q).elim (h.2 x) (h2.2 x)⟩
  next=>exact h
theorem JY (zs:List Int):TJ (KL.UX zs)/\TkN (KL.UX zs):=by
 unfold KL.UX KL.xY;split
 ·exact⟨fun t q=>(by cases q),fun t q=>(by cases q)⟩
 ·exact JZ zs _ _ _ ⟨fun t q=>(by cases q),fun t q=>(by cases q)⟩
end Go.Proofs.YtgaddpkkjebekaaGreatDoor
