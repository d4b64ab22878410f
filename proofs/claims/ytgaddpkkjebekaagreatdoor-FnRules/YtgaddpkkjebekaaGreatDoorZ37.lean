import Derived.Test.YtgaddpkkjebekaaGreatDoorZ02
import Derived.Test.YtgaddpkkjebekaaGreatDoorZ04
set_option maxHeartbeats 100000000
set_option maxRecDepth 100000
namespace Go.Proofs.YtgaddpkkjebekaaGreatDoor
open Go.RowKit Go.Maps
abbrev PTk:=Int × Int × Int × List Int
abbrev PR (α:Type):=Except Nat (α × Nat)
def PR.andThen {α β:Type}(x:PR α) (k:α->Nat->PR β):PR β:=match x with
 | .error e=>.error e
 | .ok (a,i)=>k a i
structure ak where
 l:List PTk
 nm:List Int->Bool
 ns:List (List Int)
def ak.txt (E:ak) (i:Nat):List Int:=match E.l[i]? with
 | some t=>t.2.2.2
 | none=>[]
def ak.kind (E:ak) (i:Nat):Int:=match E.l[i]? with
 | some t=>t.1
 | none=>0
def ak.num (E:ak) (i:Nat):Int:=match E.l[i]? with
 | some t=>t.2.2.1
 | none=>0
def aG (E:ak) (t:List Int) (i:Nat):PR Unit:=if E.txt i=t then .ok ((),i+1) else .error i
def eX (E:ak) (i:Nat):PR (List Int):=if E.nm (E.txt i)=true then .ok (E.txt i,i+1) else .error i
def kV (E:ak) (i:Nat):PR Int:=match E.ns.findIdx? (fun x=>x==E.txt i) with
 | some n=>.ok ((n:Int),i+1)
 | none=>.error i
def wH (E:ak) (k:Int) (i:Nat):PR (Int × Int) :=
 if E.txt i=[105,110,116] then .ok ((k,0),i+1)
 else if E.txt i=[102,108,111,97,116] then .ok ((k+1,0),i+1)
 else PR.andThen (aG E [42] i) fun _ i=>PR.andThen (kV E i) fun n i=>.ok ((k+2,n),i)
def lJ (E:ak) (i:Nat):PR (Int × Int):=PR.andThen (aG E [91] i) fun _ i=>PR.andThen (aG E [93] i) fun _ i=>wH E 4 i
def pTy (E:ak) (i:Nat):PR (Int × Int):=if E.txt i=[91] then lJ E i else wH E 1 i
def dR (E:ak) (i:Nat):PR Pa:=PR.andThen (eX E i) fun a i=>PR.andThen (pTy E i) fun t i=>.ok (.mk a t.1 t.2,i)
def RV (t:List Int):Option Int:=if t=[43] then some 0 else if t=[45] then some 1 else if t=[42] then some 2 else if t=[47] then some 3 else if t=[37] then some 4 else if t=[60] then some 5 else if t=[61,61] then some 6 else none
def pOp (E:ak) (i:Nat):PR Int:=match RV (E.txt i) with
 | some n=>.ok (n,i+1)
 | none=>.error i
mutual
def pE (E:ak):Nat->Nat->PR Ex
 | 0,i=>.error i
 | f+1,i=>PR.andThen (pO E f i) fun e i=>fP E f e i
def fP (E:ak):Nat->Ex->Nat->PR Ex
 | 0,_,i=>.error i
 | f+1,e,i =>
  if E.txt i=[46] then PR.andThen (eX E (i+1)) fun a i=>fP E f (.mk 7 0 0 0 a [e]) i
  else if E.txt i=[91] then PR.andThen (pE E f (i+1)) fun k i=>PR.andThen (aG E [93] i) fun _ i=>fP E f (.mk 8 0 0 0 [] [e,k]) i
  else .ok (e,i)
def pO (E:ak):Nat->Nat->PR Ex
 | 0,i=>.error i
 | f+1,i =>
  if E.kind i=2 then .ok (.mk 0 (E.num i) 0 0 [] [],i+1)
  else if E.kind i=3 then .ok (.mk 1 (E.num i) 0 0 [] [],i+1)
  else if E.txt i=[40] then PR.andThen (pE E f (i+1)) fun a i=>PR.andThen (pOp E i) fun n i=>PR.andThen (pE E f i) fun b i=>PR.andThen (aG E [41] i) fun _ i=>.ok (.mk 10 n 0 0 [] [a,b],i)
  else if E.txt i=[110,105,108] then PR.andThen (kV E (i+1)) fun n i=>.ok (.mk 2 n 0 0 [] [],i)
  else if E.txt i=[110,101,119] then PR.andThen (kV E (i+1)) fun n i=>.ok (.mk 4 n 0 0 [] [],i)
  else if E.txt i=[114,101,97,100] then .ok (.mk 11 0 0 0 [] [],i+1)
  else if E.txt i=[109,97,107,101] then PR.andThen (lJ E (i+1)) fun t i=>PR.andThen (iH E f i) fun k i=>.ok (.mk 5 0 t.1 t.2 [] [k],i)
  else if E.txt i=[108,101,110] then PR.andThen (iH E f (i+1)) fun k i=>.ok (.mk 9 0 0 0 [] [k],i)
  else if E.txt i=[105,110,116] then PR.andThen (iH E f (i+1)) fun k i=>.ok (.mk 12 0 0 0 [] [k],i)
  else if E.txt i=[102,108,111,97,116] then PR.andThen (iH E f (i+1)) fun k i=>.ok (.mk 13 0 0 0 [] [k],i)
  else PR.andThen (eX E i) fun a i=>if E.txt i=[40] then PR.andThen (nG E f (i+1)) fun ks i=>.ok (.mk 6 0 0 0 a ks,i) else .ok (.mk 3 0 0 0 a [],i)
def iH (E:ak):Nat->Nat->PR Ex
 | 0,i=>.error i
 | f+1,i=>PR.andThen (aG E [40] i) fun _ i=>PR.andThen (pE E f i) fun k i=>PR.andThen (aG E [41] i) fun _ i=>.ok (k,i)
def nG (E:ak):Nat->Nat->PR (List Ex)
 | 0,i=>.error i
 | f+1,i=>if E.txt i=[41] then .ok ([],i+1) else PR.andThen (pE E f i) fun k i=>iJ E f [k] i
def iJ (E:ak):Nat->List Ex->Nat->PR (List Ex)
 | 0,_,i=>.error i
 | f+1,ks,i=>if E.txt i=[41] then .ok (ks,i+1) else PR.andThen (aG E [44] i) fun _ i=>PR.andThen (pE E f i) fun k i=>iJ E f (ks++[k]) i
end
def gI (E:ak) (k:Int) (ks:List Ex) (i:Nat):PR St:=PR.andThen (aG E [59] i) fun _ i=>.ok (.mk k 0 0 0 [] ks [] [],i)
mutual
def pS (E:ak):Nat->Nat->PR St
 | 0,i=>.error i
 | f+1,i =>
  if E.txt i=[118,97,114] then PR.andThen (eX E (i+1)) fun a i=>PR.andThen (pTy E i) fun t i=>PR.andThen (aG E [59] i) fun _ i=>.ok (.mk 0 0 t.1 t.2 a [] [] [],i)
  else if E.txt i=[105,102] then PR.andThen (pE E f (i+1)) fun c i=>PR.andThen (pB E f i) fun b i=>PR.andThen (aG E [101,108,115,101] i) fun _ i=>PR.andThen (pB E f i) fun d i=>.ok (.mk 2 0 0 0 [] [c] b d,i)
  else if E.txt i=[102,111,114] then PR.andThen (pE E f (i+1)) fun c i=>PR.andThen (pB E f i) fun b i=>.ok (.mk 3 0 0 0 [] [c] b [],i)
  else if E.txt i=[114,101,116,117,114,110] then (if E.txt (i+1)=[59] then gI E 4 [] (i+1) else PR.andThen (pE E f (i+1)) fun c i=>gI E 4 [c] i)
  else if E.txt i=[112,114,105,110,116] then PR.andThen (pE E f (i+1)) fun c i=>gI E 5 [c] i
  else if E.txt i=[112,97,110,105,99] then PR.andThen (pE E f (i+1)) fun c i=>gI E 6 [c] i
  else if E.txt i=[100,111] then PR.andThen (pE E f (i+1)) fun c j=>if c.kind=6 then gI E 7 [c] j else .error (i+1)
  else PR.andThen (pE E f i) fun c j=>if c.kind=3\/c.kind=7\/c.kind=8 then PR.andThen (aG E [61] j) fun _ j=>PR.andThen (pE E f j) fun d j=>gI E 1 [c,d] j else .error i
def pB (E:ak):Nat->Nat->PR (List St)
 | 0,i=>.error i
 | f+1,i=>PR.andThen (aG E [123] i) fun _ i=>pBs E f [] i
def pBs (E:ak):Nat->List St->Nat->PR (List St)
 | 0,_,i=>.error i
 | f+1,ss,i=>if E.txt i=[125] then .ok (ss,i+1) else PR.andThen (pS E f i) fun s i=>pBs E f (ss++[s]) i
end
theorem PR.got {α β:Type}{x:PR α}{k:α->Nat->PR β}{b:β}{j:Nat}(h:PR.andThen x k=.ok (b,j)):∃ a i,x=.ok (a,i)/\k a i=.ok (b,j):=by
 cases x with
 | error e=>cases h
 | ok y=>obtain⟨a,i⟩:=y;exact⟨a,i,rfl,h⟩
theorem ak.aX {E:ak}{i:Nat}(h:E.txt i≠[]):i<E.l.length:=by
 rcases Nat.lt_or_ge i E.l.length with q|q
 ·exact q
 ·exact absurd (by unfold ak.txt;rw[List.getElem?_eq_none_iff.2 q]) h
theorem ak.zx {E:ak}{i:Nat}(h:E.kind i≠0):i<E.l.length:=by
 rcases Nat.lt_or_ge i E.l.length with q|q
 ·exact q
 ·exact absurd (by unfold ak.kind;rw[List.getElem?_eq_none_iff.2 q]) h
structure ak.Fit (E:ak):Prop where
 nm:E.nm []=false
 ns:∀ x∈E.ns,x≠[]
theorem bV {E:ak}{t:List Int}{i j:Nat}{u:Unit}(ht:t≠[]) (h:aG E t i=.ok (u,j)):j=i+1/\i<E.l.length:=by
 unfold aG at h;split at h
 next q=>cases h;exact⟨rfl,ak.aX (by rw[q];exact ht)⟩
 ·cases h
theorem nC {E:ak}(F:E.Fit) {i j:Nat}{a:List Int}(h:eX E i=.ok (a,j)):j=i+1/\i<E.l.length:=by
 unfold eX at h;split at h
 next q=>cases h;exact⟨rfl,ak.aX (fun e=>by rw[e,F.nm]at q;cases q)⟩
 ·cases h
theorem wL {E:ak}(F:E.Fit) {i j:Nat}{a:Int}(h:kV E i=.ok (a,j)):j=i+1/\i<E.l.length:=by
 unfold kV at h;split at h
 next n q =>
  cases h
  obtain⟨h1,h2,_⟩:=List.findIdx?_eq_some_iff_getElem.1 q;exact⟨rfl,ak.aX (fun e=>F.ns _ (List.getElem_mem h1) (by rw[e]at h2;simpa using h2))⟩
 ·cases h
theorem EZ {E:ak}(F:E.Fit) {k:Int}{i j:Nat}{a:Int × Int}(h:wH E k i=.ok (a,j)):i<j/\j<=E.l.length:=by
 unfold wH at h;split at h
 next q=>cases h;have:=ak.aX (E:=E) (i:=i) (by rw[q];simp);omega
 ·split at h
  next q=>cases h;have:=ak.aX (E:=E) (i:=i) (by rw[q];simp);omega
  ·obtain⟨_,i1,h1,h⟩:=PR.got h;obtain⟨_,i2,h2,h⟩:=PR.got h;have:=bV (by simp) h1;have:=wL F h2
   cases h
   omega
theorem Ac {E:ak}(F:E.Fit) {i j:Nat}{a:Int × Int}(h:lJ E i=.ok (a,j)):i<j/\j<=E.l.length:=by
 unfold lJ at h;obtain⟨_,i1,h1,h⟩:=PR.got h;obtain⟨_,i2,h2,h⟩:=PR.got h;have:=bV (by simp) h1;have:=bV (by simp) h2;have:=EZ F h;omega
theorem wG {E:ak}(F:E.Fit) {i j:Nat}{a:Int × Int}(h:pTy E i=.ok (a,j)):i<j/\j<=E.l.length:=by
 unfold pTy at h;split at h
 ·exact Ac F h
 ·exact EZ F h
theorem iR {E:ak}(F:E.Fit) {i j:Nat}{a:Pa}(h:dR E i=.ok (a,j)):i<j/\j<=E.l.length:=by
 unfold dR at h;obtain⟨_,i1,h1,h⟩:=PR.got h;obtain⟨_,i2,h2,h⟩:=PR.got h;have:=nC F h1;have:=wG F h2
 cases h
 omega
theorem JI {E:ak}{i j:Nat}{a:Int}(h:pOp E i=.ok (a,j)):j=i+1/\i<E.l.length:=by
 unfold pOp at h;split at h
 next n q=>cases h;exact⟨rfl,ak.aX (fun e=>by rw[e]at q;cases q)⟩
 ·cases h
theorem gX {E:ak}(F:E.Fit):∀ f:Nat,(∀ i x j,pE E f i=.ok (x,j)->i<j/\j<=E.l.length)/\(∀ e i x j,i<=E.l.length->fP E f e i=.ok (x,j)->i<=j/\j<=E.l.length)/\(∀ i x j,pO E f i=.ok (x,j)->i<j/\j<=E.l.length)/\(∀ i x j,iH E f i=.ok (x,j)->i<j/\j<=E.l.length)/\(∀ i x j,nG E f i=.ok (x,j)->i<j/\j<=E.l.length)/\(∀ ks i x j,iJ E f ks i=.ok (x,j)->i<j/\j<=E.l.length):=by
 intro f
 induction f with
 | zero=>exact⟨fun i x j h=>(by rw[pE]at h;cases h),fun e i x j _ h=>(by rw[fP]at h;cases h),fun i x j h=>(by rw[pO]at h;cases h),fun i x j h=>(by rw[iH]at h;cases h),fun i x j h=>(by rw[nG]at h;cases h),fun ks i x j h=>(by rw[iJ]at h;cases h)⟩
 | succ f IH =>
  obtain⟨hE,hT,hO,h1,hA,hM⟩:=IH;refine⟨fun i x j h=>?_,fun e i x j hi h=>?_,fun i x j h=>?_,fun i x j h=>?_,fun i x j h=>?_,fun ks i x j h=>?_⟩
  ·rw[pE]at h;obtain⟨_,i1,q1,h⟩:=PR.got h;have a1:=hO _ _ _ q1;have a2:=hT _ _ _ _ a1.2 h;omega
  ·rw[fP]at h;split at h
   ·obtain⟨_,i1,q1,h⟩:=PR.got h;have a1:=nC F q1;have a2:=hT _ _ _ _ (by omega) h;omega
   ·split at h
    ·obtain⟨_,i1,q1,h⟩:=PR.got h;obtain⟨_,i2,q2,h⟩:=PR.got h;have a1:=hE _ _ _ q1;have a2:=bV (by simp) q2;have a3:=hT _ _ _ _ (by omega) h;omega
    ·cases h
     omega
  ·rw[pO]at h;by_cases c0:E.kind i=2
   ·rw[if_pos c0]at h
    cases h
    have:=ak.zx (E:=E) (i:=i) (by rw[c0];decide);omega
   rw[if_neg c0]at h;by_cases c1:E.kind i=3
   ·rw[if_pos c1]at h
    cases h
    have:=ak.zx (E:=E) (i:=i) (by rw[c1];decide);omega
   rw[if_neg c1]at h;by_cases c2:E.txt i=[40]
   ·rw[if_pos c2]at h;obtain⟨_,i1,q1,h⟩:=PR.got h;obtain⟨_,i2,q2,h⟩:=PR.got h;obtain⟨_,i3,q3,h⟩:=PR.got h;obtain⟨_,i4,q4,h⟩:=PR.got h;have a1:=hE _ _ _ q1;have a2:=JI q2;have a3:=hE _ _ _ q3;have a4:=bV (by simp) q4
    cases h
    omega
   rw[if_neg c2]at h;by_cases c3:E.txt i=[110,105,108]
   ·rw[if_pos c3]at h;obtain⟨_,i1,q1,h⟩:=PR.got h;have a1:=wL F q1
    cases h
    omega
   rw[if_neg c3]at h;by_cases c4:E.txt i=[110,101,119]
   ·rw[if_pos c4]at h;obtain⟨_,i1,q1,h⟩:=PR.got h;have a1:=wL F q1
    cases h
    omega
   rw[if_neg c4]at h;by_cases c5:E.txt i=[114,101,97,100]
   ·rw[if_pos c5]at h
    cases h
    have:=ak.aX (E:=E) (i:=i) (by rw[c5];simp);omega
   rw[if_neg c5]at h;by_cases c6:E.txt i=[109,97,107,101]
   ·rw[if_pos c6]at h;obtain⟨_,i1,q1,h⟩:=PR.got h;obtain⟨_,i2,q2,h⟩:=PR.got h;have a1:=Ac F q1;have a2:=h1 _ _ _ q2
    cases h
    omega
   rw[if_neg c6]at h;by_cases c7:E.txt i=[108,101,110]
   ·rw[if_pos c7]at h;obtain⟨_,i1,q1,h⟩:=PR.got h;have a1:=h1 _ _ _ q1
    cases h
    omega
   rw[if_neg c7]at h;by_cases c8:E.txt i=[105,110,116]
   ·rw[if_pos c8]at h;obtain⟨_,i1,q1,h⟩:=PR.got h;have a1:=h1 _ _ _ q1
    cases h
    omega
   rw[if_neg c8]at h;by_cases c9:E.txt i=[102,108,111,97,116]
   ·rw[if_pos c9]at h;obtain⟨_,i1,q1,h⟩:=PR.got h;have a1:=h1 _ _ _ q1
    cases h
    omega
   rw[if_neg c9]at h;obtain⟨_,i1,q1,h⟩:=PR.got h;have a1:=nC F q1;by_cases c10:E.txt i1=[40]
   ·rw[if_pos c10]at h;obtain⟨_,i2,q2,h⟩:=PR.got h;have a2:=hA _ _ _ q2
    cases h
    omega
   ·rw[if_neg c10]at h
    cases h
    omega
  ·rw[iH]at h;obtain⟨_,i1,q1,h⟩:=PR.got h;obtain⟨_,i2,q2,h⟩:=PR.got h;obtain⟨_,i3,q3,h⟩:=PR.got h;have a1:=bV (by simp) q1;have a2:=hE _ _ _ q2;have a3:=bV (by simp) q3
   cases h
   omega
  ·rw[nG]at h;split at h
   next q=>cases h;have:=ak.aX (E:=E) (i:=i) (by rw[q];simp);omega
   obtain⟨_,i1,q1,h⟩:=PR.got h;have a1:=hE _ _ _ q1;have a2:=hM _ _ _ _ h;omega
  ·rw[iJ]at h;split at h
   next q=>cases h;have:=ak.aX (E:=E) (i:=i) (by rw[q];simp);omega
   obtain⟨_,i1,q1,h⟩:=PR.got h;obtain⟨_,i2,q2,h⟩:=PR.got h;have a1:=bV (by simp) q1;have a2:=hE _ _ _ q2;have a3:=hM _ _ _ _ h;omega
theorem nD {E:ak}{k:Int}{ks:List Ex}{i j:Nat}{x:St}(h:gI E k ks i=.ok (x,j)):j=i+1/\i<E.l.length:=by
 unfold gI at h;obtain⟨_,i1,q1,h⟩:=PR.got h;have:=bV (by simp) q1
 cases h
 exact this
theorem uZ {E:ak}(F:E.Fit):∀ f:Nat,(∀ i x j,pS E f i=.ok (x,j)->i<j/\j<=E.l.length)/\(∀ i x j,pB E f i=.ok (x,j)->i<j/\j<=E.l.length)/\(∀ ss i x j,pBs E f ss i=.ok (x,j)->i<j/\j<=E.l.length):=by
 intro f;have hE:=fun f=>(gX F f).1
 induction f with
 | zero=>exact⟨fun i x j h=>(by rw[pS]at h;cases h),fun i x j h=>(by rw[pB]at h;cases h),fun ss i x j h=>(by rw[pBs]at h;cases h)⟩
 | succ f IH =>
  obtain⟨hS,hB,hBs⟩:=IH;refine⟨fun i x j h=>?_,fun i x j h=>?_,fun ss i x j h=>?_⟩
  ·rw[pS]at h;split at h
   ·obtain⟨_,i1,q1,h⟩:=PR.got h;obtain⟨_,i2,q2,h⟩:=PR.got h;obtain⟨_,i3,q3,h⟩:=PR.got h;have a1:=nC F q1;have a2:=wG F q2;have a3:=bV (by simp) q3
    cases h
    omega
   split at h
   ·obtain⟨_,i1,q1,h⟩:=PR.got h;obtain⟨_,i2,q2,h⟩:=PR.got h;obtain⟨_,i3,q3,h⟩:=PR.got h;obtain⟨_,i4,q4,h⟩:=PR.got h;have a1:=hE _ _ _ _ q1;have a2:=hB _ _ _ q2;have a3:=bV (by simp) q3;have a4:=hB _ _ _ q4
    cases h
    omega
   split at h
   ·obtain⟨_,i1,q1,h⟩:=PR.got h;obtain⟨_,i2,q2,h⟩:=PR.got h;have a1:=hE _ _ _ _ q1;have a2:=hB _ _ _ q2
    cases h
    omega
   split at h
   ·split at h
    ·have a1:=nD h;omega
    ·obtain⟨_,i1,q1,h⟩:=PR.got h;have a1:=hE _ _ _ _ q1;have a2:=nD h;omega
   split at h
   ·obtain⟨_,i1,q1,h⟩:=PR.got h;have a1:=hE _ _ _ _ q1;have a2:=nD h;omega
   split at h
   ·obtain⟨_,i1,q1,h⟩:=PR.got h;have a1:=hE _ _ _ _ q1;have a2:=nD h;omega
   split at h
   ·obtain⟨_,i1,q1,h⟩:=PR.got h;have a1:=hE _ _ _ _ q1;split at h
    ·have a2:=nD h;omega
    ·cases h
   obtain⟨_,i1,q1,h⟩:=PR.got h;have a1:=hE _ _ _ _ q1;split at h
   ·obtain⟨_,i2,q2,h⟩:=PR.got h;obtain⟨_,i3,q3,h⟩:=PR.got h;have a2:=bV (by simp) q2;have a3:=hE _ _ _ _ q3;have a4:=nD h;omega
   ·cases h
  ·rw[pB]at h;obtain⟨_,i1,q1,h⟩:=PR.got h;have a1:=bV (by simp) q1;have a2:=hBs _ _ _ _ h;omega
  ·rw[pBs]at h;split at h
   next q=>cases h;have:=ak.aX (E:=E) (i:=i) (by rw[q];simp);omega
   obtain⟨_,i1,q1,h⟩:=PR.got h;have a1:=hS _ _ _ q1;have a2:=hBs _ _ _ _ h;omega
def dK (E:ak):Nat->List Pa->Nat->PR (List Pa)
 | 0,_,i=>.error i
 | f+1,ps,i=>if E.txt i=[125] then .ok (ps,i+1) else PR.andThen (dR E i) fun p i=>PR.andThen (aG E [59] i) fun _ i=>dK E f (ps++[p]) i
def dS (gr:List Int->Bool) (l:List PTk) (nm:List Int->Bool):Nat->List Sc->Nat->PR (List Sc)
 | 0,_,i=>.error i
 | f+1,ss,i =>
  if (ak.mk l nm (ss.map Sc.name)).txt i=[116,121,112,101] then
   if gr ((ak.mk l nm (ss.map Sc.name)).txt (i+1))=true/\(ak.mk l nm (ss.map Sc.name)).txt (i+1)∉ss.map Sc.name then
    PR.andThen (aG (ak.mk l nm (ss.map Sc.name)) [115,116,114,117,99,116] (i+2)) fun _ k=>PR.andThen (aG (ak.mk l nm (ss.map Sc.name)) [123] k) fun _ k=>PR.andThen (dK (ak.mk l nm (ss.map Sc.name++[(ak.mk l nm (ss.map Sc.name)).txt (i+1)])) f [] k) fun ps k=>dS gr l nm f (ss++[.mk ((ak.mk l nm (ss.map Sc.name)).txt (i+1)) ps]) k
   else .error (i+1)
  else .ok (ss,i)
def jy (E:ak):Nat->List Pa->Nat->PR (List Pa)
 | 0,_,i=>.error i
 | f+1,ps,i=>if E.txt i=[41] then .ok (ps,i+1) else PR.andThen (aG E [44] i) fun _ i=>PR.andThen (dR E i) fun p i=>jy E f (ps++[p]) i
def dA (E:ak) (f:Nat) (i:Nat):PR (List Pa):=PR.andThen (aG E [40] i) fun _ i=>if E.txt i=[41] then .ok ([],i+1) else PR.andThen (dR E i) fun p i=>jy E f [p] i
def LU (E:ak) (i:Nat):PR (Int × Int):=if E.txt i=[123] then .ok ((0,0),i) else pTy E i
def lU (E:ak) (f:Nat) (i:Nat):PR Fu:=PR.andThen (eX E i) fun a i=>PR.andThen (dA E f i) fun ps i=>PR.andThen (LU E i) fun t i=>PR.andThen (pB E f i) fun b i=>.ok (.mk a ps t.1 t.2 b,i)
def fK (E:ak):Nat->List Fu->Nat->PR (List Fu)
 | 0,_,i=>.error i
 | f+1,fs,i=>if E.txt i=[102,117,110,99] then PR.andThen (lU E f (i+1)) fun x i=>fK E f (fs++[x]) i else .ok (fs,i)
def uo (gr nm:List Int->Bool) (l:List PTk) (f:Nat):Except Nat So:=match dS gr l nm f [] 0 with
 | .error e=>.error e
 | .ok (ss,i)=>match fK (ak.mk l nm (ss.map Sc.name)) f [] i with
  | .error e=>.error e
  | .ok (fs,j)=>if j<l.length then .error j else .ok (.mk ss fs)
theorem Fe {E:ak}(F:E.Fit):∀ f ps i x j,dK E f ps i=.ok (x,j)->i<j/\j<=E.l.length:=by
 intro f
 induction f with
 | zero=>exact fun ps i x j h=>by rw[dK]at h;cases h
 | succ f IH =>
  intro ps i x j h;rw[dK]at h;split at h
  next q=>cases h;have:=ak.aX (E:=E) (i:=i) (by rw[q];simp);omega
  obtain⟨_,i1,q1,h⟩:=PR.got h;obtain⟨_,i2,q2,h⟩:=PR.got h;have a1:=iR F q1;have a2:=bV (by simp) q2;have a3:=IH _ _ _ _ h;omega
theorem LX {E:ak}(F:E.Fit):∀ f ps i x j,jy E f ps i=.ok (x,j)->i<j/\j<=E.l.length:=by
 intro f
 induction f with
 | zero=>exact fun ps i x j h=>by rw[jy]at h;cases h
 | succ f IH =>
  intro ps i x j h;rw[jy]at h;split at h
  next q=>cases h;have:=ak.aX (E:=E) (i:=i) (by rw[q];simp);omega
  obtain⟨_,i1,q1,h⟩:=PR.got h;obtain⟨_,i2,q2,h⟩:=PR.got h;have a1:=bV (by simp) q1;have a2:=iR F q2;have a3:=IH _ _ _ _ h;omega
theorem yE {E:ak}(F:E.Fit) {f i j:Nat}{x:List Pa}(h:dA E f i=.ok (x,j)):i<j/\j<=E.l.length:=by
 unfold dA at h;obtain⟨_,i1,q1,h⟩:=PR.got h;have a1:=bV (by simp) q1;split at h
 next q=>cases h;have:=ak.aX (E:=E) (i:=i1) (by rw[q];simp);omega
 obtain⟨_,i2,q2,h⟩:=PR.got h;have a2:=iR F q2;have a3:=LX F _ _ _ _ _ h;omega
theorem MB {E:ak}(F:E.Fit) {f i j:Nat}{x:Fu}(h:lU E f i=.ok (x,j)):i<j/\j<=E.l.length:=by
 unfold lU at h;obtain⟨_,i1,q1,h⟩:=PR.got h;obtain⟨_,i2,q2,h⟩:=PR.got h;obtain⟨_,i3,q3,h⟩:=PR.got h;obtain⟨_,i4,q4,h⟩:=PR.got h;have a1:=nC F q1;have a2:=yE F q2;have a4:=(uZ F f).2.1 _ _ _ q4
 have a3:i2<=i3:=by
  unfold LU at q3;split at q3
  ·cases q3;exact Nat.le_refl _
  ·exact Nat.le_of_lt (wG F q3).1
 cases h
 omega
def wS (c:Int):Bool:=(decide (97<=c)&&decide (c<=122))||(decide (65<=c)&&decide (c<=90))
def zC (t:List Int):Bool:=match t with
 | []=>false
 | c::_=>wS c
def Hw (t:List Int):Bool:=match t with
 | []=>false
 | c::_=>!wS c
def TJ (l:List PTk):Prop:=∀ t∈l,(t.1=1/\zC t.2.2.2=true)\/(t.1=2/\t.2.2.2=[])\/(t.1=3/\t.2.2.2=[])\/(t.1=4/\Hw t.2.2.2=true)
structure ak.VC (E:ak):Prop where
 nm:∀ t,E.nm t=true->zC t=true
 ns:∀ x∈E.ns,zC x=true
theorem ak.VC.fit {E:ak}(h:E.VC):E.Fit:=⟨by
 cases e:E.nm [] with
 | false=>rfl
 | true=>exact absurd (h.nm _ e) (by decide),fun x hx e=>by have:=h.ns x hx;rw[e]at this;cases this⟩
theorem yZ {t:List Int}{b:Bool}(h:aY t b=true):zC t=true:=by
 cases t with
 | nil=>unfold aY at h;exact absurd h (by simp)
 | cons c r =>
  unfold aY at h;simp only[Bool.and_eq_true]at h;have h1:=h.1.2;unfold zC wS;dsimp only
  cases b with
  | true =>
   rw[if_pos rfl]at h1;unfold up at h1;simp only[List.getD_cons_zero,Bool.and_eq_true,decide_eq_true_eq]at h1;simp only[Bool.or_eq_true,Bool.and_eq_true,decide_eq_true_eq];exact .inr h1
  | false =>
   rw[if_neg (by decide)]at h1;unfold low at h1;simp only[List.getD_cons_zero,Bool.and_eq_true,decide_eq_true_eq]at h1;simp only[Bool.or_eq_true,Bool.and_eq_true,decide_eq_true_eq];exact .inl h1
theorem Sz {t:List Int}(h:aQ t=true):zC t=true:=by
 unfold aQ at h;rw[Bool.and_eq_true]at h;exact yZ h.1
def aC (l:List PTk) (ns:List (List Int)):ak:=ak.mk l aQ ns
theorem Gw {l:List PTk}{ns:List (List Int)}(h:∀ x∈ns,aY x true=true):(aC l ns).VC:=⟨fun _ q=>Sz q,fun x q=>yZ (h x q)⟩
end Go.Proofs.YtgaddpkkjebekaaGreatDoor
