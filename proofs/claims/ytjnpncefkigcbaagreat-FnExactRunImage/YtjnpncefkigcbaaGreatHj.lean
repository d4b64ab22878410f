import Derived.Test.YtjnpncefkigcbaaGreatHe
import Derived.Test.YtjnpncefkigcbaaGreatHf
import Derived.Test.YtjnpncefkigcbaaGreatHi
set_option maxHeartbeats 100000000
set_option maxRecDepth 100000
namespace Go.Proofs.YtjnpncefkigcbaaGreat
open Go.RowKit
structure Vm where
  W:Nat→Int
  pl:Nat→Nat
  rg:Nat→Int
  used:Nat
  free:Nat
  base:Nat
  size:Nat
  fp:Nat
  fn:Nat
  pc:Nat
  calls:Nat
  inp:List Int
  orc:List Int
  out:List (Int × Int)
  steps:Nat
  moves:Nat
  copies:Nat
def fset {α:Type}(f:Nat→α) (a:Nat) (z:α):Nat→α:=fun b=>if b=a then z else f b
theorem fset_at {α:Type}(f:Nat→α) (a:Nat) (z:α):fset f a z a=z:=if_pos rfl
theorem fset_ne {α:Type}(f:Nat→α) {a b:Nat}(z:α) (h:b≠a):fset f a z b=f b:=if_neg h
def cdAt (x:Im) (n:Nat):Cd:=x.codes.getD n (.mk 0 0 [] [])
def frN (x:Im) (n:Nat):Nat:=(cdAt x n).frame.toNat
def stAt (x:Im) (n:Nat):List Bool:=(x.structs.getD n (.mk [])).l
def szW (x:Im) (h:Int):Nat:=if h % 8=0 then (stAt x (h / 8).toNat).length else (h / 8).toNat
def leads (x:Im) (h:Int) (k:Nat):Bool:=if h % 8=0 then (stAt x (h / 8).toNat).getD k false else h % 8==3
def mapAt (c:Cd) (pc:Int):List Int:=((c.maps.find? (fun m=>m.pc==pc)).map Ma.slots).getD []
def Vm.obj (H:Nat) (s:Vm) (z:Int):Bool:=decide ((s.used:Int)≤z)&&(decide (z<s.used+H)&&s.pl z.toNat != 0)
def Vm.fwd (x:Im) (H:Nat) (s:Vm) (z:Int):Option (Int × Vm) :=
  if z=0 then some (0,s) else if s.obj H z then
    (if s.pl z.toNat=z.toNat then some ((s.free:Int),{ s with W:=fun a=>if s.free≤a∧a<s.free+(1+szW x (s.W z.toNat)) then s.W (a - s.free+z.toNat) else s.W a,pl:=fset (fset s.pl s.free s.free) z.toNat s.free,free:=s.free+(1+szW x (s.W z.toNat)) })
     else some ((s.pl z.toNat:Int),s))
  else none
def Vm.foll (x:Im) (H:Nat) (s:Vm) (a:Nat):Option Vm:=(s.fwd x H (s.W a)).map fun p=>{ p.2 with W:=fset p.2.W a p.1 }
def slotsF (x:Im) (H fp:Nat):List Int→Vm→Option Vm
  | [],s=>some s
  | k::r,s=>(s.foll x H (fp+k.toNat)).bind (slotsF x H fp r)
def framesF (x:Im) (H:Nat):Nat→Nat→Int→Vm→Option Vm
  | 0,_,_,s=>some s
  | n+1,fp,pc,s=>(slotsF x H fp (mapAt (cdAt x (s.W (fp+2)).toNat) pc) s).bind fun t=>framesF x H n (t.W fp).toNat (t.W (fp+1) - 1) t
def wordsF (x:Im) (H at_:Nat) (h:Int):Nat→Nat→Vm→Option Vm
  | 0,_,s=>some s
  | m+1,k,s=>if leads x h k then (s.foll x H (at_+1+k)).bind (wordsF x H at_ h m (k+1)) else wordsF x H at_ h m (k+1) s
def scanF (x:Im) (H:Nat):Nat→Nat→Vm→Option Vm
  | 0,_,s=>some s
  | f+1,a,s=>if a<s.free then (wordsF x H a (s.W a) (szW x (s.W a)) 0 s).bind (scanF x H f (a+1+szW x (s.W a))) else some s
def Vm.other (H:Nat) (s:Vm):Nat:=24000+H - s.used
def Vm.coll0 (H:Nat) (s:Vm):Vm:={ s with moves:=s.moves+1,free:=s.other H }
def Vm.coll1 (H:Nat) (u:Vm):Vm:={ u with pl:=fun a=>if u.used≤a∧a<u.used+H then 0 else u.pl a,used:=u.other H }
def Vm.coll (x:Im) (H:Nat) (s:Vm):Option Vm :=
  ((framesF x H s.calls s.fp ((s.pc:Int) - 1) (s.coll0 H)).bind (scanF x H H (s.other H))).map (Vm.coll1 H)
inductive St where
  | go (s:Vm)
  | fin (e c:Int) (s:Vm)
def Vm.say (s:Vm):Int:=s.orc.headD 0
def Vm.next (s:Vm):Vm:={ s with orc:=s.orc.tail }
def Vm.room (H:Nat) (s:Vm) (n:Nat):Bool:=decide (s.free+(1+n)≤s.used+H)
def Vm.moved (s:Vm):Vm:={ s with moves:=s.moves+1 }
def Vm.put (s:Vm) (h:Int) (n a:Nat):Vm:={ s with W:=fun b=>if b=s.free then h else if s.free≤b∧b<s.free+(1+n) then 0 else s.W b,pl:=fset s.pl s.free s.free,free:=s.free+(1+n),rg:=fset s.rg a s.free }
def Vm.take2 (x:Im) (H:Nat) (s:Vm) (h:Int) (n a:Nat):St :=
  if s.room H n then .go (s.put h n a) else match s.coll x H with
    | none=>.fin 7 0 s.moved
    | some t=>if t.room H n then .go (t.put h n a) else .fin 6 0 t
def Vm.take (x:Im) (H:Nat) (s:Vm) (h:Int) (n a:Nat):St :=
  if s.say=1 then (match s.next.coll x H with
    | none=>.fin 7 0 s.next.moved
    | some t=>t.take2 x H h n a)
  else s.next.take2 x H h n a
def linksL (W:Nat→Int):Nat→Nat→List Nat
  | 0,_=>[]
  | k+1,fp=>fp::linksL W k (W fp).toNat
def Vm.top (x:Im) (s:Vm):Nat:=s.fp+frN x s.fn
def Vm.copyW (x:Im) (s:Vm) (b:Nat):Nat→Int:=fun a =>
  if b≤a∧a<b+(s.top x+7 - s.base) then
    (if (a - b+s.base)∈linksL s.W s.calls s.fp∧s.W (a - b+s.base)≠0 then s.W (a - b+s.base)+((b:Int) - s.base) else s.W (a - b+s.base))
  else s.W a
def Vm.copied (x:Im) (s:Vm) (z:Nat):Option Vm :=
  let b:=if 1+z≤s.base then 1 else s.base+s.size
  if 12000<b+z then none else some { s with W:=s.copyW x b,base:=b,size:=z,fp:=b+(s.fp - s.base),copies:=s.copies+1 }
def growS:Nat→Nat→Nat→Nat
  | 0,z,_=>z
  | f+1,z,need=>if z<need then growS f (2*z) need else z
def Vm.framed (x:Im) (s:Vm) (n:Nat):Vm:={ s with
  W:=fun a=>if a=s.top x then s.fp else if a=s.top x+1 then s.pc else if a=s.top x+2 then n else if s.top x+(3+(cdAt x n).params.toNat)≤a∧a<s.top x+frN x n then 0 else s.W a,
  fp:=s.top x,fn:=n,pc:=0,calls:=s.calls+1 }
def Vm.enter (x:Im) (s:Vm) (n:Nat):St :=
  let z:=growS 10 s.size (s.top x - s.base+frN x n+7)
  if z=s.size then .go (s.framed x n) else match s.copied x z with
    | none=>.fin 6 0 s
    | some t=>.go (t.framed x n)
def Vm.call (x:Im) (s:Vm) (n:Nat):St :=
  if 60≤s.calls then .fin 5 0 s else
    if s.say=2 then ((s.next.copied x s.size).getD s.next).enter x n else s.next.enter x n
def Vm.set (s:Vm) (a:Int) (z:Int):Vm:={ s with rg:=fset s.rg a.toNat z }
def Vm.reg (s:Vm) (a:Int):Int:=s.rg a.toNat
def Vm.ret (s:Vm) (i:Is):St :=
  let t:=if i.n=1 then s.set 0 (s.reg i.a) else s
  if t.W t.fp=0 then .fin 1 0 t else .go { t with pc:=(t.W (t.fp+1)).toNat,fp:=(t.W t.fp).toNat,fn:=(t.W ((t.W t.fp).toNat+2)).toNat,calls:=t.calls - 1 }
def Vm.len (H:Nat) (s:Vm) (z:Int):Option Int:=if z=0 then some 0 else if s.obj H z&&(s.W z.toNat % 8 != 0) then some (s.W z.toNat / 8) else none
def Vm.fld (x:Im) (H:Nat) (s:Vm) (z:Int) (k:Int):Option Nat:=if s.obj H z&&(s.W z.toNat % 8==0&&decide (k<(stAt x (s.W z.toNat / 8).toNat).length)) then some (z.toNat+1+k.toNat) else none
def Vm.elm (H:Nat) (s:Vm) (z:Int) (k:Int):Option Nat:=match s.len H z with
  | none=>none
  | some n=>if 0≤k∧k<n then some (z.toNat+1+k.toNat) else none
def arI (k a b:Int):Int:=if k=0 then wrap64 (a+b) else if k=1 then wrap64 (a - b) else if k=2 then wrap64 (a*b) else if k=3 then wrap64 (a.tdiv b) else if k=4 then a.tmod b else if k=5 then b2i (decide (a<b)) else b2i (a==b)
def Vm.ins (x:Im) (H:Nat) (s:Vm) (i:Is):St :=
  match i.op.toNat with
  | 0=>.go (s.set i.a i.n)
  | 1=>.go (s.set i.a (s.reg i.b))
  | 2=>.go (s.set i.a (s.W (s.fp+i.n.toNat)))
  | 3=>.go { s with W:=fset s.W (s.fp+i.n.toNat) (s.reg i.a) }
  | 4=>if s.reg i.c=0∧(i.n=3∨i.n=4) then .fin 7 0 s else .go (s.set i.a (arI i.n (s.reg i.b) (s.reg i.c)))
  | 5=>.go (s.set i.a (arOut i.n (fb (s.reg i.b)) (fb (s.reg i.c))))
  | 6=>.go (s.set i.a (b2i (s.reg i.b==s.reg i.c)))
  | 7=>.go (s.set i.a (toI (fb (s.reg i.b))))
  | 8=>.go (s.set i.a (cb (floatOfInt .f64 (s.reg i.b))))
  | 9=>match s.len H (s.reg i.b) with|none=>.fin 7 0 s|some n=>.go (s.set i.a n)
  | 10=>s.take x H (i.n*8) (stAt x i.n.toNat).length i.a.toNat
  | 11=>if 0≤s.reg i.b∧s.reg i.b≤100 then s.take x H (s.reg i.b*8+1+i.n) (s.reg i.b).toNat i.a.toNat else .fin 7 0 s
  | 12=>if s.reg i.a=0 then .fin 3 1 s else .go s
  | 13=>match s.len H (s.reg i.a) with|none=>.fin 7 0 s|some n=>if 0≤s.reg i.b∧s.reg i.b<n then .go s else .fin 3 2 s
  | 14=>if s.reg i.a=0 then .fin 3 3 s else .go s
  | 15=>if 0≤s.reg i.a∧s.reg i.a≤100 then .go s else .fin 3 4 s
  | 16=>match s.fld x H (s.reg i.b) i.n with|none=>.fin 7 0 s|some a=>.go (s.set i.a (s.W a))
  | 17=>match s.fld x H (s.reg i.a) i.n with|none=>.fin 7 0 s|some a=>.go { s with W:=fset s.W a (s.reg i.b) }
  | 18=>match s.elm H (s.reg i.b) (s.reg i.c) with|none=>.fin 7 0 s|some a=>.go (s.set i.a (s.W a))
  | 19=>match s.elm H (s.reg i.a) (s.reg i.b) with|none=>.fin 7 0 s|some a=>.go { s with W:=fset s.W a (s.reg i.c) }
  | 20=>.go { s.set i.a (s.inp.headD 0) with inp:=s.inp.tail }
  | 21=>.go { s with out:=s.out++[(i.n,s.reg i.a)] }
  | 22=>.go { s with W:=fset s.W (s.top x+3+i.n.toNat) (s.reg i.a) }
  | 23=>s.call x i.n.toNat
  | 24=>s.ret i
  | 25=>.fin 2 (s.reg i.a) s
  | 26=>.go { s with pc:=i.n.toNat }
  | _=>if s.reg i.a=0 then .go { s with pc:=i.n.toNat } else .go s
def Vm.tick (s:Vm):Vm:={ s with pc:=s.pc+1,steps:=s.steps+1 }
def runV (x:Im) (H:Nat):Nat→Vm→Int × Int × Vm
  | 0,s=>(4,0,s)
  | k+1,s=>match (cdAt x s.fn).ins[s.pc]? with
    | none=>(7,0,s)
    | some i=>match s.tick.ins x H i with
      | .go t=>runV x H k t
      | .fin e c t=>(e,c,t)
def startV (x:Im) (e:Se) (b z c:Nat):Vm:={ W:=fset (fun _=>0) (b+2) x.main,pl:=fun _=>0,rg:=fun _=>0,used:=12000,free:=12000,base:=b,size:=z,fp:=b,fn:=x.main.toNat,pc:=0,calls:=1,inp:=e.input,orc:=e.oracle,out:=[],steps:=0,moves:=0,copies:=c }
def runI (x:Im) (e:Se):Int × Int × Vm :=
  let z:=growS 10 e.stack.toNat (frN x x.main.toNat+7)
  if z=e.stack.toNat then runV x e.half.toNat e.fuel.toNat (startV x e 1 z 0)
  else if 12000<1+e.stack.toNat+z then (6,0,startV x e 1 e.stack.toNat 0)
  else runV x e.half.toNat e.fuel.toNat (startV x e (1+e.stack.toNat) z 1)
def Good (x:Im) (h:Int):Prop:=0≤h∧h≤900∧(h % 8=0→(h / 8).toNat<x.structs.length)∧h % 8≤3
def Tiled (x:Im) (W:Nat→Int):Nat→List Nat→Nat→Prop
 | lo,[],hi=>lo=hi
 | lo,a::r,hi=>a=lo∧Good x (W a)∧Tiled x W (a+(1+szW x (W a))) r hi
theorem Tiled.le {x:Im}{W:Nat→Int}:∀ {l:List Nat}{lo hi:Nat},Tiled x W lo l hi→lo≤hi
 | [],_,_,h=>by rw[Tiled]at h;omega
 | a::r,lo,hi,h=>by
  rw[Tiled]at h;obtain⟨rfl,_,h⟩:=h;have:=Tiled.le h;omega
theorem Tiled.mem {x:Im}{W:Nat→Int}:∀ {l:List Nat}{lo hi:Nat},Tiled x W lo l hi→∀ a∈l,lo≤a∧a+(1+szW x (W a))≤hi∧Good x (W a)
 | [],_,_,_,a,ha=>by cases ha
 | b::r,lo,hi,h,a,ha=>by
  rw[Tiled]at h;obtain⟨rfl,hg,h⟩:=h;rcases List.mem_cons.1 ha with rfl|ha
  ·exact⟨Nat.le_refl _,Tiled.le h,hg⟩
  ·have:=Tiled.mem h a ha;exact⟨by omega,this.2⟩
theorem Tiled.agree {x:Im}{W W':Nat→Int}:∀ {l:List Nat}{lo hi:Nat},Tiled x W lo l hi→(∀ a∈l,W' a=W a)→Tiled x W' lo l hi
 | [],_,_,h,_=>h
 | a::r,lo,hi,h,e=>by
  rw[Tiled]at h ⊢;rw[e a (List.mem_cons_self ..)];exact⟨h.1,h.2.1,Tiled.agree h.2.2 (fun b hb=>e b (List.mem_cons_of_mem _ hb))⟩
theorem Tiled.snoc {x:Im}{W:Nat→Int}:∀ {l:List Nat}{lo hi:Nat},Tiled x W lo l hi→Good x (W hi)→Tiled x W lo (l++[hi]) (hi+(1+szW x (W hi)))
 | [],lo,hi,h,g=>by
  rw[Tiled]at h;subst h;rw[List.nil_append,Tiled,Tiled];exact⟨rfl,g,rfl⟩
 | a::r,lo,hi,h,g=>by
  rw[Tiled]at h;rw[List.cons_append,Tiled];exact⟨h.1,h.2.1,Tiled.snoc h.2.2 g⟩
theorem Tiled.apart {x:Im}{W:Nat→Int}:∀ {l:List Nat}{lo hi:Nat},Tiled x W lo l hi→∀ a∈l,∀ b∈l,a<b→a+(1+szW x (W a))≤b
 | [],_,_,_,a,ha,_,_,_=>by cases ha
 | c::r,lo,hi,h,a,ha,b,hb,hl=>by
  rw[Tiled]at h;obtain⟨rfl,hg,h⟩:=h;rcases List.mem_cons.1 ha with ha2|ha2
  ·rcases List.mem_cons.1 hb with hb2|hb2
   ·omega
   ·rw[ha2];exact (Tiled.mem h b hb2).1
  ·rcases List.mem_cons.1 hb with hb2|hb2
   ·have:=(Tiled.mem h a ha2).1;omega
   ·exact Tiled.apart h a ha2 b hb2 hl
theorem Tiled.inner {x:Im}{W:Nat→Int}{l:List Nat}{lo hi:Nat}(h:Tiled x W lo l hi) {a k:Nat}(ha:a∈l) (hk:k<szW x (W a)):a+1+k∉l:=fun hb=>by
 have:=h.apart a ha _ hb (by omega);omega
theorem Tiled.nodup {x:Im}{W:Nat→Int}:∀ {l:List Nat}{lo hi:Nat},Tiled x W lo l hi→l.Nodup
 | [],_,_,_=>List.nodup_nil
 | a::r,lo,hi,h=>by
  rw[Tiled]at h;exact List.nodup_cons.2 ⟨fun hm=>by have:=(Tiled.mem h.2.2 a hm).1;omega,Tiled.nodup h.2.2⟩
def usum (x:Im) (W:Nat→Int) (pl:Nat→Nat):List Nat→Nat
 | []=>0
 | a::r=>(if pl a=a then 1+szW x (W a) else 0)+usum x W pl r
theorem usum_all {x:Im}{W:Nat→Int}{pl:Nat→Nat}:∀ {l:List Nat}{lo hi:Nat},Tiled x W lo l hi→(∀ a∈l,pl a=a)→lo+usum x W pl l=hi
 | [],lo,hi,h,_=>by rw[Tiled]at h;rw[usum];omega
 | a::r,lo,hi,h,e=>by
  rw[Tiled]at h;obtain⟨rfl,_,h⟩:=h;have:=usum_all h (fun b hb=>e b (List.mem_cons_of_mem _ hb));rw[usum,if_pos (e _ (List.mem_cons_self ..))];omega
theorem usum_same {x:Im}{W W':Nat→Int}{pl pl':Nat→Nat}:∀ {l:List Nat},(∀ a∈l,pl' a=pl a∧W' a=W a)→usum x W' pl' l=usum x W pl l
 | [],_=>rfl
 | a::r,e=>by
  rw[usum,usum,(e a (List.mem_cons_self ..)).1,(e a (List.mem_cons_self ..)).2,usum_same (fun b hb=>e b (List.mem_cons_of_mem _ hb))]
theorem usum_move {x:Im}{W W':Nat→Int}{pl pl':Nat→Nat}{z:Nat}(hz:pl z=z) (hz':pl' z≠z):∀ {l:List Nat},l.Nodup→z∈l→(∀ a∈l,a≠z→pl' a=pl a)→(∀ a∈l,W' a=W a)→usum x W' pl' l+(1+szW x (W z))=usum x W pl l
 | [],_,hm,_,_=>by cases hm
 | a::r,hn,hm,e,ew=>by
  obtain⟨hna,hn⟩:=List.nodup_cons.1 hn;rw[usum,usum];by_cases h:a=z
  ·subst h;rw[if_neg hz',if_pos hz,usum_same (W:=W) (pl:=pl) (fun b hb=>⟨e b (List.mem_cons_of_mem _ hb) (fun q=>hna (q ▸ hb)),ew b (List.mem_cons_of_mem _ hb)⟩)];omega
  ·have hm':z∈r:=by
    rcases List.mem_cons.1 hm with q|q
    ·exact absurd q.symm h
    ·exact q
   have:=usum_move (x:=x) (W:=W) (W':=W') hz hz' hn hm' (fun b hb=>e b (List.mem_cons_of_mem _ hb)) (fun b hb=>ew b (List.mem_cons_of_mem _ hb));rw[e a (List.mem_cons_self ..) h,ew a (List.mem_cons_self ..)];omega
theorem usum_ge {x:Im}{W:Nat→Int}{pl:Nat→Nat}{z:Nat}(hz:pl z=z):∀ {l:List Nat},z∈l→1+szW x (W z)≤usum x W pl l
 | [],hm=>by cases hm
 | a::r,hm=>by
  rw[usum];rcases List.mem_cons.1 hm with rfl|hm
  ·rw[if_pos hz];omega
  ·have:=usum_ge (x:=x) (W:=W) hz hm;omega
structure Gc (x:Im) (H:Nat) (ts:List Nat) (f0:Nat) (s:Vm) (us:List Nat):Prop where
 h8:8≤H
 h4:H≤4000
 u:s.used=12000∨s.used=12000+H
 t1:Tiled x s.W s.used ts f0
 t2:f0≤s.used+H
 o1:Tiled x s.W (s.other H) us s.free
 p1:∀ a∈ts,s.pl a=a∨s.pl a∈us
 p2:∀ a∈us,s.pl a=a
 p3:∀ a,a∉ts→a∉us→s.pl a=0
 sm:usum x s.W s.pl ts+s.free≤s.other H+(f0 - s.used)
structure Fw (s t:Vm):Prop where
 eq:t={ s with W:=t.W,pl:=t.pl,free:=t.free }
 le:s.free≤t.free
theorem Fw.refl (s:Vm):Fw s s:=⟨rfl,Nat.le_refl _⟩
theorem Fw.trans {a b c:Vm}(h:Fw a b) (k:Fw b c):Fw a c:=by
 refine⟨?_,Nat.le_trans h.le k.le⟩;rw[k.eq]
 conv=>lhs;rw[h.eq]
theorem Gc.other {x:Im}{H:Nat}{ts us:List Nat}{f0:Nat}{s:Vm}(h:Gc x H ts f0 s us):(s.used=12000∧s.other H=12000+H)∨(s.used=12000+H∧s.other H=12000):=by
 rcases h.u with e|e
 ·exact .inl ⟨e,by unfold Vm.other;omega⟩
 ·exact .inr ⟨e,by unfold Vm.other;omega⟩
theorem Gc.end {x:Im}{H:Nat}{ts us:List Nat}{f0:Nat}{s:Vm}(h:Gc x H ts f0 s us):s.free≤s.other H+H∧s.other H≤s.free:=by
 have:=h.sm;have:=h.t2;have:=h.o1.le;have:=h.t1.le;omega
theorem Gc.ts_rg {x:Im}{H:Nat}{ts us:List Nat}{f0:Nat}{s:Vm}(h:Gc x H ts f0 s us) {a:Nat}(ha:a∈ts):s.used≤a∧a+(1+szW x (s.W a))≤s.used+H∧Good x (s.W a):=by
 obtain⟨h1,h2,h3⟩:=h.t1.mem a ha;exact⟨h1,Nat.le_trans h2 h.t2,h3⟩
theorem Gc.us_rg {x:Im}{H:Nat}{ts us:List Nat}{f0:Nat}{s:Vm}(h:Gc x H ts f0 s us) {a:Nat}(ha:a∈us):s.other H≤a∧a+(1+szW x (s.W a))≤s.free∧Good x (s.W a):=h.o1.mem a ha
theorem Gc.obj {x:Im}{H:Nat}{ts us:List Nat}{f0:Nat}{s:Vm}(h:Gc x H ts f0 s us) {z:Int}(hz:s.obj H z=true):0≤z∧z.toNat∈ts∧z.toNat∉us:=by
 unfold Vm.obj at hz;simp only[Bool.and_eq_true,decide_eq_true_eq,bne_iff_ne,ne_eq]at hz;obtain⟨h1,h2,h3⟩:=hz
 have hu:z.toNat∉us:=fun hm=>by
  have:=(h.us_rg hm)
  have:=h.end;rcases h.other with ⟨e1,e2⟩|⟨e1,e2⟩ <;> omega
 refine⟨by omega,?_,hu⟩;by_cases hm:z.toNat∈ts
 ·exact hm
 ·exact absurd (h.p3 _ hm hu) h3
theorem Gc.room {x:Im}{H:Nat}{ts us:List Nat}{f0:Nat}{s:Vm}(h:Gc x H ts f0 s us) {a:Nat}(ha:a∈ts) (hp:s.pl a=a):s.free+(1+szW x (s.W a))≤s.other H+H:=by
 have:=usum_ge (x:=x) (W:=s.W) hp ha;have:=h.sm;have:=h.t2;have:=h.t1.le;omega
theorem Good.sz {x:Im}{h:Int}(hx:∀ l∈x.structs,l.l.length≤5) (g:Good x h):szW x h≤112:=by
 unfold szW;split
 ·unfold stAt;have:=g.2.2.1 (by assumption);rw[List.getD_eq_getElem?_getD,List.getElem?_eq_getElem this,Option.getD_some];have:=hx _ (List.getElem_mem this);omega
 ·have:=g.1;have:=g.2.1;omega
theorem fwd_gc {x:Im}{H:Nat}{ts us:List Nat}{f0:Nat}{s t:Vm}(h:Gc x H ts f0 s us) {z z':Int}(e:s.fwd x H z=some (z',t)) :
  ∃ us',Gc x H ts f0 t us'∧(us'=us∨us'=us++[s.free])∧Fw s t∧(∀ a,¬ (s.free≤a∧a<t.free)→t.W a=s.W a):=by
 unfold Vm.fwd at e;by_cases hz:z=0
 ·rw[if_pos hz]at e
  cases e
  exact⟨us,h,.inl rfl,Fw.refl _,fun _ _=>rfl⟩
 rw[if_neg hz]at e;by_cases ho:s.obj H z=true
 ·rw[if_pos ho]at e;obtain⟨hz0,hts,hus⟩:=h.obj ho;by_cases hp:s.pl z.toNat=z.toNat
  ·rw[if_pos hp]at e;simp only[Option.some.injEq,Prod.mk.injEq]at e;obtain⟨-,rfl⟩:=e
   generalize z.toNat=a at *
   have hro:=h.room hts hp;have hend:=h.end;have hta:=h.ts_rg hts
   have hfa:∀ b∈ts,¬ (s.free≤b∧b<s.free+(1+szW x (s.W a))):=fun b hb hc=>by
    have:=h.ts_rg hb;rcases h.other with ⟨e1,e2⟩|⟨e1,e2⟩ <;> omega
   have hfu:∀ b∈us,¬ (s.free≤b∧b<s.free+(1+szW x (s.W a))):=fun b hb hc=>by
    have:=h.us_rg hb;omega
   have hne:s.free≠a:=fun q=>hfa a hts ⟨by omega,by omega⟩;have hW:(if s.free≤s.free∧s.free<s.free+(1+szW x (s.W a)) then s.W (s.free - s.free+a) else s.W s.free)=s.W a:=by rw[if_pos ⟨Nat.le_refl _,by omega⟩,Nat.sub_self,Nat.zero_add]
   refine⟨us++[s.free],⟨h.h8,h.h4,h.u,h.t1.agree (fun b hb=>if_neg (hfa b hb)),h.t2,?_,?_,?_,?_,?_⟩,.inr rfl,⟨rfl,by show s.free≤s.free+_;omega⟩,fun b hb=>if_neg hb⟩
   ·have ho:=Tiled.snoc (h.o1.agree (W':=fun b=>if s.free≤b∧b<s.free+(1+szW x (s.W a)) then s.W (b - s.free+a) else s.W b) (fun b hb=>if_neg (hfu b hb))) (by show Good x (if _ then _ else _);rw[hW];exact hta.2.2);simp only[hW]at ho;exact ho
   ·intro b hb;show fset (fset s.pl s.free s.free) a s.free b=b∨fset (fset s.pl s.free s.free) a s.free b∈us++[s.free]
    by_cases q:b=a
    ·rw[q,fset_at];exact .inr (by simp)
    ·rw[fset_ne _ _ q,fset_ne _ _ (fun q2:b=s.free=>hfa b hb ⟨by omega,by omega⟩)];rcases h.p1 b hb with k|k
     ·exact .inl k
     ·exact .inr (List.mem_append_left _ k)
   ·intro b hb;show fset (fset s.pl s.free s.free) a s.free b=b;rcases List.mem_append.1 hb with k|k
    ·rw[fset_ne _ _ (fun q:b=a=>hus (q ▸ k)),fset_ne _ _ (fun q:b=s.free=>hfu b k ⟨by omega,by omega⟩)];exact h.p2 b k
    ·rw[List.mem_singleton.1 k,fset_ne _ _ hne,fset_at]
   ·intro b h1 h2;show fset (fset s.pl s.free s.free) a s.free b=0;rw[fset_ne _ _ (fun q:b=a=>h1 (q ▸ hts)),fset_ne _ _ (fun q:b=s.free=>h2 (by rw[q];simp))];exact h.p3 b h1 (fun k=>h2 (List.mem_append_left _ k))
   ·have:=usum_move (x:=x) (W:=s.W) (W':=fun b=>if s.free≤b∧b<s.free+(1+szW x (s.W a)) then s.W (b - s.free+a) else s.W b) (pl':=fset (fset s.pl s.free s.free) a s.free) hp (by rw[fset_at];exact hne) h.t1.nodup hts (fun b hb q=>by rw[fset_ne _ _ q,fset_ne _ _ (fun q2:b=s.free=>hfa b hb ⟨by omega,by omega⟩)]) (fun b hb=>if_neg (hfa b hb));have:=h.sm;show usum x (fun b=>if s.free≤b∧b<s.free+(1+szW x (s.W a)) then s.W (b - s.free+a) else s.W b) (fset (fset s.pl s.free s.free) a s.free) ts+(s.free+(1+szW x (s.W a)))≤s.other H+(f0 - s.used)
    omega
  ·rw[if_neg hp]at e
   cases e
   exact⟨us,h,.inl rfl,Fw.refl _,fun _ _=>rfl⟩
 ·rw[if_neg ho]at e
  cases e
theorem Gc.word {x:Im}{H:Nat}{ts us:List Nat}{f0:Nat}{s:Vm}(h:Gc x H ts f0 s us) {a:Nat}(z:Int) (h1:a∉ts) (h2:a∉us):Gc x H ts f0 { s with W:=fset s.W a z } us :=
 ⟨h.h8,h.h4,h.u,h.t1.agree (fun b hb=>fset_ne _ _ (fun q=>h1 (q ▸ hb))),h.t2,h.o1.agree (fun b hb=>fset_ne _ _ (fun q=>h2 (q ▸ hb))),h.p1,h.p2,h.p3,by
  rw[show usum x (fset s.W a z) s.pl ts=usum x s.W s.pl ts from usum_same (fun b hb=>⟨rfl,fset_ne _ _ (fun q=>h1 (q ▸ hb))⟩)]
  exact h.sm⟩
theorem foll_gc {x:Im}{H:Nat}{ts us:List Nat}{f0:Nat}{s t:Vm}(h:Gc x H ts f0 s us) {a:Nat}(h1:a∉ts) (h2:a∉us) (h3:a≠s.free) (e:s.foll x H a=some t) :
  ∃ us',Gc x H ts f0 t us'∧(us'=us∨us'=us++[s.free])∧Fw s t∧(∀ b,¬ (s.free≤b∧b<t.free)→b≠a→t.W b=s.W b):=by
 unfold Vm.foll at e
 cases hf:s.fwd x H (s.W a) with
 | none=>rw[hf]at e;cases e
 | some p =>
  rw[hf]at e
  cases e
  obtain⟨us',g,hu,fw,hw⟩:=fwd_gc h (z':=p.1) (t:=p.2) hf;refine⟨us',g.word _ h1 ?_,hu,⟨?_,fw.le⟩,fun b hb q=>?_⟩
  ·rcases hu with rfl|rfl
   ·exact h2
   ·intro k;rcases List.mem_append.1 k with k|k
    ·exact h2 k
    ·exact h3 (List.mem_singleton.1 k)
  ·exact congrArg (fun v:Vm=>{ v with W:=fset p.2.W a p.1 }) fw.eq
  ·show fset p.2.W a p.1 b=s.W b;rw[fset_ne _ _ q];exact hw b hb
structure ImI (x:Im):Prop where
 st:∀ l∈x.structs,l.l.length≤5
 ns:x.structs.length≤6
 nc:x.codes.length≤8
 cd:∀ c∈x.codes,cdB (x.structs.length:Int) (x.codes.length:Int) c=true
 mn:x.main.toNat<x.codes.length
 m0:0≤x.main
 mp:(cdAt x x.main.toNat).params=0
theorem cdAt_eq {x:Im}{n:Nat}(h:n<x.codes.length):cdAt x n=x.codes[n]:=by
 unfold cdAt;rw[List.getD_eq_getElem?_getD,List.getElem?_eq_getElem h,Option.getD_some]
theorem ImI.of {x:Im}(h:imB x=true):ImI x:=by
 unfold imB imB0 at h;simp only[Bool.and_eq_true,decide_eq_true_eq,List.all_eq_true]at h;obtain⟨⟨h1,h2,h3,h4,h5,h6⟩,_⟩:=h;unfold plB at h3;simp only[Bool.and_eq_true,decide_eq_true_eq]at h3;have hm:x.main.toNat<x.codes.length:=by omega
 rw[List.getElem?_eq_getElem hm]at h4;refine⟨h5,h1,h2,h6,hm,h3.1,?_⟩;rw[cdAt_eq hm];simpa using h4
structure CdI (x:Im) (n:Nat):Prop where
 p0:0≤(cdAt x n).params
 p4:(cdAt x n).params≤4
 f3:3+(cdAt x n).params≤(cdAt x n).frame
 f9:(cdAt x n).frame≤1000
 i1:1≤(cdAt x n).ins.length
 i6:(cdAt x n).ins.length≤6000
 ins:∀ i∈(cdAt x n).ins,insB x.structs.length x.codes.length (cdAt x n).frame (cdAt x n).ins.length i=true
 mp:mpB (cdAt x n).frame 0 (cdAt x n).ins (cdAt x n).maps=true
theorem ImI.at {x:Im}(h:ImI x) {n:Nat}(hn:n<x.codes.length):CdI x n:=by
 have:=h.cd _ (List.getElem_mem hn);rw[←cdAt_eq hn]at this;unfold cdB inB at this;simp only[Bool.and_eq_true,decide_eq_true_eq,List.all_eq_true]at this;obtain⟨⟨a,b⟩,⟨c,d⟩,⟨e,f⟩,g,k⟩:=this;exact⟨a,b,c,d,by omega,by omega,g,k⟩
theorem CdI.fr {x:Im}{n:Nat}(h:CdI x n):((frN x n:Nat):Int)=(cdAt x n).frame∧3≤frN x n∧frN x n≤1000:=by
 have:=h.p0;have:=h.f3;have:=h.f9;unfold frN;omega
theorem slB_mem {fr:Int}:∀ {l:List Int}{lo:Int},slB fr lo l=true→∀ k∈l,lo≤k∧k<fr
 | [],_,_,k,hk=>by cases hk
 | a::r,lo,h,k,hk=>by
  unfold slB inB at h;simp only[Bool.and_eq_true,decide_eq_true_eq]at h;rcases List.mem_cons.1 hk with q|q
  ·omega
  ·have:=slB_mem h.2 k q;omega
theorem mpB_at {fr:Int}:∀ {l:List Is}{pc:Nat}{ms:List Ma},mpB fr pc l ms=true→∀ {q:Nat}{i:Is},l[q]?=some i→hmB i.op=true→∃ m∈ms,m.pc=((pc+q:Nat):Int)∧ms.find? (fun m=>m.pc==((pc+q:Nat):Int))=some m∧slB fr 3 m.slots=true
 | [],_,_,_,q,i,e,_=>by cases e
 | j::r,pc,ms,h,q,i,e,hm=>by
  cases q with
  | zero =>
   cases e
   cases ms with
   | nil=>rw[mpB_none hm]at h;cases h
   | cons m t =>
    rw[mpB_some hm]at h;simp only[Bool.and_eq_true,beq_iff_eq]at h;refine⟨m,List.mem_cons_self ..,h.1,?_,h.2.1⟩;rw[List.find?_cons,show (m.pc==((pc+0:Nat):Int))=true by rw[h.1];simp]
  | succ q =>
   have e':r[q]?=some i:=e
   cases hj:hmB j.op with
   | false =>
    rw[mpB_skip hj]at h;have:=mpB_at h e' hm;rw[show pc+1+q=pc+(q+1) by omega]at this;exact this
   | true =>
    cases ms with
    | nil=>rw[mpB_none hj]at h;cases h
    | cons m t =>
     rw[mpB_some hj]at h;simp only[Bool.and_eq_true,beq_iff_eq]at h;obtain⟨m',h1,h2,h3,h4⟩:=mpB_at h.2.2 e' hm;rw[show pc+1+q=pc+(q+1) by omega]at h2 h3;refine⟨m',List.mem_cons_of_mem _ h1,h2,?_,h4⟩;rw[List.find?_cons,show (m.pc==((pc+(q+1):Nat):Int))=false by rw[h.1];simp;omega];exact h3
def SafeAt (x:Im) (c:Nat) (pc:Int):Prop:=∃ (q:Nat) (i:Is),pc=q∧(cdAt x c).ins[q]?=some i∧hmB i.op=true
theorem SafeAt.map {x:Im}{c:Nat}{pc:Int}(h:CdI x c) (hs:SafeAt x c pc):∃ m∈(cdAt x c).maps,m.pc=pc∧(cdAt x c).maps.find? (fun m=>m.pc==pc)=some m∧mapAt (cdAt x c) pc=m.slots∧∀ k:Int,k∈m.slots→3≤k∧k<(cdAt x c).frame:=by
 obtain⟨q,i,rfl,hi,hm⟩:=hs;obtain⟨m,h1,h2,h3,h4⟩:=mpB_at h.mp hi hm;rw[Nat.zero_add]at h2 h3;refine⟨m,h1,h2,h3,?_,slB_mem h4⟩;unfold mapAt;rw[h3];rfl
def Chain (x:Im) (W:Nat→Int) (base:Nat):Nat→Nat→Prop
 | 0,_=>False
 | 1,fp=>fp=base∧W fp=0
 | k+2,fp=>∃ (g q c:Nat) (i:Is),W fp=g∧0<g∧W (g+2)=c∧c<x.codes.length∧fp=g+frN x c∧W (fp+1)=(q:Int)+1∧(cdAt x c).ins[q]?=some i∧i.op=23∧Chain x W base (k+1) g
theorem links_ne {W:Nat→Int}{k fp f:Nat}(h:f∈linksL W k fp):∃ j,k=j+1:=by
 cases k with
 | zero=>cases h
 | succ j=>exact⟨j,rfl⟩
theorem Chain.agree {x:Im}{W W':Nat→Int}{base:Nat}:∀ {k fp:Nat},Chain x W base k fp→(∀ f∈linksL W k fp,W' f=W f∧W' (f+1)=W (f+1)∧W' (f+2)=W (f+2))→Chain x W' base k fp
 | 0,_,h,_=>h
 | 1,fp,h,e=>by
  rw[Chain]at h ⊢;exact⟨h.1,by rw[(e fp (List.mem_cons_self ..)).1];exact h.2⟩
 | k+2,fp,h,e=>by
  rw[Chain]at h ⊢;obtain⟨g,q,c,i,h1,h2,h3,h4,h5,h6,h7,h8,h9⟩:=h;have hl:linksL W (k+2) fp=fp::linksL W (k+1) g:=by rw[linksL,h1];rfl
  rw[hl]at e;have e0:=e fp (List.mem_cons_self ..);have e1:=e g (List.mem_cons_of_mem _ (List.mem_cons_self ..));exact⟨g,q,c,i,by rw[e0.1,h1],h2,by rw[e1.2.2,h3],h4,h5,by rw[e0.2.1,h6],h7,h8,Chain.agree h9 (fun f hf=>e f (List.mem_cons_of_mem _ hf))⟩
theorem links_agree {x:Im}{W W':Nat→Int}{base:Nat}:∀ {k fp:Nat},Chain x W base k fp→(∀ f∈linksL W k fp,W' f=W f)→linksL W' k fp=linksL W k fp
 | 0,_,_,_=>rfl
 | 1,fp,_,_=>rfl
 | k+2,fp,h,e=>by
  rw[Chain]at h;obtain⟨g,q,c,i,h1,h2,h3,h4,h5,h6,h7,h8,h9⟩:=h;have hl:linksL W (k+2) fp=fp::linksL W (k+1) g:=by rw[linksL,h1];rfl
  rw[hl]at e ⊢;rw[linksL,e fp (List.mem_cons_self ..),h1];exact congrArg _ (links_agree h9 (fun f hf=>e f (List.mem_cons_of_mem _ hf)))
theorem Chain.rg {x:Im}(hx:ImI x) {W:Nat→Int}{base:Nat}:∀ {k fp:Nat},Chain x W base k fp→∀ f∈linksL W k fp,base≤f∧f≤fp∧(f≠fp→(W (f+2)).toNat<x.codes.length∧f+frN x (W (f+2)).toNat≤fp)
 | 0,_,h,_,_=>h.elim
 | 1,fp,h,f,hf=>by
  rw[Chain]at h;have:f=fp:=by simpa[linksL] using hf
  exact⟨by omega,by omega,fun q=>absurd this q⟩
 | k+2,fp,h,f,hf=>by
  rw[Chain]at h;obtain⟨g,q,c,i,h1,h2,h3,h4,h5,h6,h7,h8,h9⟩:=h;have hl:linksL W (k+2) fp=fp::linksL W (k+1) g:=by rw[linksL,h1];rfl
  rw[hl]at hf;have hc:=(hx.at h4).fr;have hg:=Chain.rg hx h9 g (List.mem_cons_self ..);rcases List.mem_cons.1 hf with rfl|hf
  ·exact⟨by omega,by omega,fun q=>absurd rfl q⟩
  ·have:=Chain.rg hx h9 f hf;refine⟨this.1,by omega,fun _=>?_⟩;by_cases q:f=g
   ·subst q;rw[h3];exact⟨h4,by show f+frN x c≤fp;omega⟩
   ·have:=this.2.2 q;exact⟨this.1,by omega⟩
theorem Chain.off {x:Im}(hx:ImI x) {W:Nat→Int}{base:Nat}:∀ {k fp:Nat},Chain x W base k fp→∀ {f a:Nat},f∈linksL W k fp→f+3≤a→(f≠fp→a<f+frN x (W (f+2)).toNat)→∀ g∈linksL W k fp,g+3≤a∨a<g
 | 0,_,h,_,_,_,_,_,_,_=>h.elim
 | 1,fp,h,f,a,hf,h3,_,g,hg=>by
  have h1:f=fp:=by simpa[linksL] using hf
  have h2:g=fp:=by simpa[linksL] using hg
  exact .inl (by omega)
 | k+2,fp,h,f,a,hf,h3,ha,g,hg=>by
  have hc:=h;rw[Chain]at h;obtain⟨g0,q,c,i,h1,h2,e3,h4,h5,h6,h7,h8,h9⟩:=h;have hl:linksL W (k+2) fp=fp::linksL W (k+1) g0:=by rw[linksL,h1];rfl
  by_cases e:f=fp
  ·have:=(Chain.rg hx hc g hg).2.1;exact .inl (by omega)
  ·have hr:=(Chain.rg hx hc f hf).2.2 e;have ha:=ha e;rw[hl]at hf hg
   have hf':f∈linksL W (k+1) g0:=by
    rcases List.mem_cons.1 hf with q|q
    ·exact absurd q e
    ·exact q
   rcases List.mem_cons.1 hg with rfl|hg
   ·exact .inr (by omega)
   ·exact Chain.off hx h9 hf' h3 (fun _=>ha) g hg
theorem slotsF_gc {x:Im}{H fp:Nat}{ts:List Nat}{f0:Nat}:∀ {l:List Int}{s t:Vm}{us:List Nat},Gc x H ts f0 s us→(∀ k∈l,fp+k.toNat<12000)→slotsF x H fp l s=some t →
  ∃ us',Gc x H ts f0 t us'∧Fw s t∧(∀ b,b<12000→(∀ k∈l,b≠fp+k.toNat)→t.W b=s.W b)
 | [],s,t,us,g,_,e=>by
  cases e
  exact⟨us,g,Fw.refl _,fun _ _ _=>rfl⟩
 | k::r,s,t,us,g,hl,e=>by
  rw[slotsF]at e
  cases hf:s.foll x H (fp+k.toNat) with
  | none=>rw[hf]at e;cases e
  | some s1 =>
   rw[hf]at e;have hk:=hl k (List.mem_cons_self ..)
   have hge:∀ a,a∈ts∨a∈us∨a=s.free→12000≤a:=fun a ha=>by
    have:=g.end;rcases ha with q|q|q
    ·have:=(g.ts_rg q).1;rcases g.other with ⟨e1,e2⟩|⟨e1,e2⟩ <;> omega
    ·have:=(g.us_rg q).1;rcases g.other with ⟨e1,e2⟩|⟨e1,e2⟩ <;> omega
    ·rcases g.other with ⟨e1,e2⟩|⟨e1,e2⟩ <;> omega
   obtain⟨us1,g1,_,fw1,hw1⟩:=foll_gc g (fun q=>by have:=hge _ (.inl q);omega) (fun q=>by have:=hge _ (.inr (.inl q));omega) (fun q=>by have:=hge _ (.inr (.inr q));omega) hf;obtain⟨us2,g2,fw2,hw2⟩:=slotsF_gc g1 (fun k hk=>hl k (List.mem_cons_of_mem _ hk)) e;refine⟨us2,g2,fw1.trans fw2,fun b hb hn=>?_⟩;rw[hw2 b hb (fun k hk=>hn k (List.mem_cons_of_mem _ hk)),hw1 b (fun q=>by have:=hge s.free (.inr (.inr rfl));omega) (hn k (List.mem_cons_self ..))]
theorem Fw.calls {s t:Vm}(h:Fw s t):t.used=s.used∧t.base=s.base∧t.size=s.size∧t.fp=s.fp∧t.fn=s.fn∧t.pc=s.pc∧t.calls=s.calls∧t.rg=s.rg∧t.inp=s.inp∧t.orc=s.orc∧t.out=s.out∧t.steps=s.steps∧t.moves=s.moves∧t.copies=s.copies:=by
 rw[h.eq];exact⟨rfl,rfl,rfl,rfl,rfl,rfl,rfl,rfl,rfl,rfl,rfl,rfl,rfl,rfl⟩
structure FrI (x:Im) (s:Vm) (base n fp:Nat) (pc:Int):Prop where
 ch:0<n→Chain x s.W base n fp
 c:0<n→∃ c:Nat,s.W (fp+2)=c∧c<x.codes.length∧SafeAt x c pc∧fp+frN x c≤12000
theorem FrI.next {x:Im}(hx:ImI x) {H:Nat}{ts us:List Nat}{f0:Nat}{s t:Vm}(g:Gc x H ts f0 s us) {base n fp:Nat}{pc:Int}(h:FrI x s base (n+1) fp pc)
  (e:slotsF x H fp (mapAt (cdAt x (s.W (fp+2)).toNat) pc) s=some t) :
  ∃ us',Gc x H ts f0 t us'∧Fw s t∧FrI x t base n (t.W fp).toNat (t.W (fp+1) - 1)∧(∀ b,b<12000→¬ (fp+3≤b∧b<fp+frN x (s.W (fp+2)).toNat)→t.W b=s.W b):=by
 obtain⟨c,hc,hcl,hs,hf⟩:=h.c (by omega);have hch:=h.ch (by omega);have hct:(s.W (fp+2)).toNat=c:=by omega
 rw[hct]at e ⊢;have hci:=hx.at hcl;obtain⟨m,_,_,_,hm,hk⟩:=hs.map hci;rw[hm]at e;have hfr:=hci.fr;obtain⟨us',g',fw,hw⟩:=slotsF_gc g (fun k hk'=>by have:=hk k hk';omega) e;have hw':∀ b,b<12000→¬ (fp+3≤b∧b<fp+frN x c)→t.W b=s.W b:=fun b hb hn=>hw b hb (fun k hk' q=>hn (by have:=hk k hk';omega));refine⟨us',g',fw,?_,hw'⟩;have hlo:∀ b,b<fp+3→t.W b=s.W b:=fun b hb=>hw' b (by omega) (by omega)
 cases n with
 | zero=>exact⟨fun q=>by omega,fun q=>by omega⟩
 | succ n =>
  have hrg:=Chain.rg hx hch;rw[Chain]at hch;obtain⟨g0,q,c0,i,h1,h2,e3,h4,h5,h6,h7,h8,h9⟩:=hch;rw[hlo fp (by omega),hlo (fp+1) (by omega),h1,h6];have hg0:((g0:Int)).toNat=g0:=rfl;rw[hg0];have hrg9:=Chain.rg hx h9;refine⟨fun _=>Chain.agree h9 (fun f hf=>?_),fun _=>⟨c0,?_,h4,⟨q,i,by omega,h7,by rw[h8];decide⟩,by omega⟩⟩
  ·have hfr0:=(hx.at h4).fr;have:=(hrg9 f hf).2.1;exact⟨hlo _ (by omega),hlo _ (by omega),hlo _ (by omega)⟩
  ·have hfr0:=(hx.at h4).fr;rw[hlo _ (by omega),e3]
theorem framesF_gc {x:Im}(hx:ImI x) {H:Nat}{ts:List Nat}{f0 base:Nat}:∀ {n fp:Nat}{pc:Int}{s t:Vm}{us:List Nat},Gc x H ts f0 s us→FrI x s base n fp pc→framesF x H n fp pc s=some t→∃ us',Gc x H ts f0 t us'∧Fw s t ∧
  (∀ b,b<12000→(∀ f∈linksL s.W n fp,¬ (f+3≤b∧b<f+frN x (s.W (f+2)).toNat))→t.W b=s.W b)
 | 0,fp,pc,s,t,us,g,_,e=>by
  cases e
  exact⟨us,g,Fw.refl _,fun _ _ _=>rfl⟩
 | n+1,fp,pc,s,t,us,g,h,e=>by
  rw[framesF]at e
  cases hf:slotsF x H fp (mapAt (cdAt x (s.W (fp+2)).toNat) pc) s with
  | none=>rw[hf]at e;cases e
  | some s1 =>
   rw[hf]at e;obtain⟨us1,g1,fw1,fr1,hw1⟩:=FrI.next hx g h hf
   obtain⟨us2,g2,fw2,hw2⟩:=framesF_gc hx g1 fr1 e;refine⟨us2,g2,fw1.trans fw2,fun b hb hn=>?_⟩;have hch:=h.ch (by omega);obtain⟨c,hc,hcl,_,hfp⟩:=h.c (by omega);have hfc:=(hx.at hcl).fr;have hlo:∀ b,b<fp+3→s1.W b=s.W b:=fun b hb=>hw1 b (by omega) (by omega);rw[hw2 b hb ?_,hw1 b hb (hn fp (List.mem_cons_self ..))];intro f hf';obtain⟨j,rfl⟩:=links_ne hf';rw[Chain]at hch;obtain⟨g0,q,c0,i,h1,h2,e3,h4,h5,h6,h7,h8,h9⟩:=hch;rw[hlo fp (by omega),h1]at hf';have hg0:((g0:Int)).toNat=g0:=rfl;rw[hg0]at hf';have hfr0:=(hx.at h4).fr;have hrg9:=Chain.rg hx h9;rw[links_agree h9 (fun f hf=>hlo f (by have:=(hrg9 f hf).2.1;omega))]at hf';have:=(hrg9 f hf').2.1;rw[hlo (f+2) (by omega)];exact hn f (by rw[linksL,h1];exact List.mem_cons_of_mem _ hf')
theorem wordsF_gc {x:Im}{H:Nat}{ts:List Nat}{f0 a:Nat}{h:Int}:∀ {m k:Nat}{s t:Vm}{us:List Nat},Gc x H ts f0 s us→a∈us→s.W a=h→k+m=szW x h→wordsF x H a h m k s=some t→∃ us',Gc x H ts f0 t us'∧(∃ r,us'=us++r)∧Fw s t∧(∀ b,b<12000→t.W b=s.W b)∧(∀ b∈us,t.W b=s.W b)
 | 0,k,s,t,us,g,ha,hh,_,e=>by
  cases e
  exact⟨us,g,⟨[],by simp⟩,Fw.refl _,fun _ _=>rfl,fun _ _=>rfl⟩
 | m+1,k,s,t,us,g,ha,hh,hk,e=>by
  rw[wordsF]at e;by_cases hl:leads x h k=true
  ·rw[if_pos hl]at e
   cases hf:s.foll x H (a+1+k) with
   | none=>rw[hf]at e;cases e
   | some s1 =>
    rw[hf]at e;have hr:=g.us_rg ha;have hend:=g.end;rw[hh]at hr;have hot:=g.other;obtain⟨us1,g1,hu1,fw1,hw1⟩:=foll_gc g (fun q=>by have:=g.ts_rg q;rcases hot with ⟨e1,e2⟩|⟨e1,e2⟩ <;> omega) (g.o1.inner ha (by rw[hh];omega)) (by omega) hf;have hwu:∀ b∈us,s1.W b=s.W b:=fun b hb=>hw1 b (by have:=(g.us_rg hb).2.1;omega) (fun q=>g.o1.inner ha (k:=k) (by rw[hh];omega) (q ▸ hb));have hwa:s1.W a=h:=by rw[hwu a ha];exact hh
    have hsub:∃ r,us1=us++r:=by
     rcases hu1 with rfl|rfl
     ·exact⟨[],by simp⟩
     ·exact⟨_,rfl⟩
    obtain⟨r,rfl⟩:=hsub;obtain⟨us2,g2,⟨r2,rfl⟩,fw2,hw2,hwa2⟩:=wordsF_gc g1 (List.mem_append_left _ ha) hwa (by omega) e;exact⟨_,g2,⟨r++r2,by simp⟩,fw1.trans fw2,fun b hb=>by rw[hw2 b hb,hw1 b (by rcases hot with ⟨e1,e2⟩|⟨e1,e2⟩ <;> omega) (by rcases hot with ⟨e1,e2⟩|⟨e1,e2⟩ <;> omega)],fun b hb=>by rw[hwa2 b (List.mem_append_left _ hb),hwu b hb]⟩
  ·rw[if_neg hl]at e;exact wordsF_gc g ha hh (by omega) e
theorem Tiled.split {x:Im}{W:Nat→Int}:∀ {l r:List Nat}{lo hi:Nat},Tiled x W lo (l++r) hi→∃ m,Tiled x W lo l m∧Tiled x W m r hi
 | [],r,lo,hi,h=>⟨lo,rfl,h⟩
 | a::l,r,lo,hi,h=>by
  rw[List.cons_append,Tiled]at h;obtain⟨m,h1,h2⟩:=Tiled.split h.2.2;exact⟨m,⟨h.1,h.2.1,h1⟩,h2⟩
theorem Tiled.det {x:Im}{W:Nat→Int}:∀ {l:List Nat}{lo m m':Nat},Tiled x W lo l m→Tiled x W lo l m'→m=m'
 | [],_,_,_,h,k=>by rw[Tiled]at h k;omega
 | a::l,_,_,_,h,k=>by
  rw[Tiled]at h k;exact Tiled.det h.2.2 k.2.2
theorem scan_at {x:Im}{H:Nat}{ts us ds:List Nat}{f0 a:Nat}{s:Vm}(g:Gc x H ts f0 s us) (hd:Tiled x s.W (s.other H) ds a) (hu:∃ r,us=ds++r) (hl:a<s.free):a∈us∧∃ r,us=(ds++[a])++r:=by
 obtain⟨r,rfl⟩:=hu;obtain⟨m,h1,h2⟩:=g.o1.split
 cases Tiled.det hd h1
 cases r with
 | nil=>rw[Tiled]at h2;omega
 | cons b r =>
  rw[Tiled]at h2;rw[h2.1];exact⟨by simp,r,by simp⟩
theorem scanF_gc {x:Im}{H:Nat}{ts:List Nat}{f0:Nat}:∀ {f a:Nat}{s t:Vm}{us ds:List Nat},Gc x H ts f0 s us→Tiled x s.W (s.other H) ds a→(∃ r,us=ds++r)→s.other H+H≤a+f→scanF x H f a s=some t→∃ us',Gc x H ts f0 t us'∧Fw s t∧(∀ b,b<12000→t.W b=s.W b)
 | 0,a,s,t,us,ds,g,_,_,_,e=>by
  cases e
  exact⟨us,g,Fw.refl _,fun _ _=>rfl⟩
 | f+1,a,s,t,us,ds,g,hd,hu,hf,e=>by
  rw[scanF]at e;by_cases hl:a<s.free
  ·rw[if_pos hl]at e
   cases hw:wordsF x H a (s.W a) (szW x (s.W a)) 0 s with
   | none=>rw[hw]at e;cases e
   | some s1 =>
    rw[hw]at e;obtain⟨ha,r,hr⟩:=scan_at g hd hu hl;obtain⟨us1,g1,⟨r1,rfl⟩,fw1,hw1,hwa⟩:=wordsF_gc g ha rfl (by omega) hw;have hsame:s1.other H=s.other H:=by unfold Vm.other;rw[fw1.calls.1]
    have hd1:Tiled x s1.W (s1.other H) (ds++[a]) (a+1+szW x (s.W a)):=by
     rw[hsame,show a+1+szW x (s.W a)=a+(1+szW x (s.W a)) by omega];exact (Tiled.snoc hd ((g.us_rg ha).2.2)).agree (fun b hb=>hwa b (by rw[hr];exact List.mem_append_left _ hb))
    obtain⟨us2,g2,fw2,hw2⟩:=scanF_gc g1 hd1 ⟨r++r1,by rw[hr];simp⟩ (by rw[hsame];omega) e;exact⟨us2,g2,fw1.trans fw2,fun b hb=>by rw[hw2 b hb,hw1 b hb]⟩
  ·rw[if_neg hl]at e
   cases e
   exact⟨us,g,Fw.refl _,fun _ _=>rfl⟩
structure Iv (x:Im) (H:Nat) (s:Vm):Prop where
 h8:8≤H
 h4:H≤4000
 b1:1≤s.base
 b2:s.base+s.size≤12000
 b3:s.top x+7≤s.base+s.size
 z1:16≤s.size
 c1:s.calls≤60
 fn:s.fn<x.codes.length
 wf:s.W (s.fp+2)=s.fn
 ch:Chain x s.W s.base s.calls s.fp
 u:s.used=12000∨s.used=12000+H
 hp:∃ ts,Tiled x s.W s.used ts s.free∧(∀ a,s.pl a=if a∈ts then a else 0)
 fe:s.free≤s.used+H
theorem Iv.cpos {x:Im}{H:Nat}{s:Vm}(h:Iv x H s):1≤s.calls:=by
 have:=h.ch
 cases hc:s.calls with
 | zero=>rw[hc,Chain]at this;exact this.elim
 | succ k=>omega
theorem Iv.bf {x:Im}(hx:ImI x) {H:Nat}{s:Vm}(h:Iv x H s):s.base≤s.fp:=by
 obtain⟨k,hk⟩:∃ k,s.calls=k+1:=⟨s.calls - 1,by have:=h.cpos;omega⟩
 have:=h.ch;exact (this.rg hx s.fp (by rw[hk];exact List.mem_cons_self ..)).1
theorem Iv.gc {x:Im}{H:Nat}{s:Vm}(h:Iv x H s):∃ ts,Gc x H ts s.free (s.coll0 H) []:=by
 obtain⟨ts,ht,hp⟩:=h.hp;have hot:(s.coll0 H).other H=s.other H:=rfl;refine⟨ts,h.h8,h.h4,h.u,ht,h.fe,rfl,fun a ha=>.inl ?_,fun a ha=>(by cases ha),fun a ha _=>?_,?_⟩
 ·show s.pl a=a;rw[hp a,if_pos ha]
 ·show s.pl a=0;rw[hp a,if_neg ha]
 ·have:=usum_all ht (pl:=s.pl) (fun a ha=>by rw[hp a,if_pos ha]);show usum x s.W s.pl ts+s.other H≤s.other H+(s.free - s.used)
  omega
theorem Iv.fr {x:Im}{H:Nat}{s:Vm}(h:Iv x H s) (hs:SafeAt x s.fn ((s.pc:Int) - 1)):FrI x (s.coll0 H) s.base s.calls s.fp ((s.pc:Int) - 1) :=
 ⟨fun _=>h.ch,fun _=>⟨s.fn,h.wf,h.fn,hs,by have:=h.b3;have:=h.b2;unfold Vm.top at *;omega⟩⟩
structure Cw (s t:Vm):Prop where
 eq:t={ s with W:=t.W,pl:=t.pl,free:=t.free,used:=t.used,moves:=s.moves+1 }
theorem Iv.coll {x:Im}(hx:ImI x) {H:Nat}{s t:Vm}(h:Iv x H s) (hs:SafeAt x s.fn ((s.pc:Int) - 1)) (e:s.coll x H=some t):Iv x H t∧Cw s t:=by
 obtain⟨ts,g⟩:=h.gc;unfold Vm.coll at e
 cases hf:framesF x H s.calls s.fp ((s.pc:Int) - 1) (s.coll0 H) with
 | none=>rw[hf]at e;cases e
 | some s1 =>
  rw[hf]at e;obtain⟨us1,g1,fw1,hw1⟩:=framesF_gc hx g (h.fr hs) hf
  cases hsc:scanF x H H (s.other H) s1 with
  | none=>rw[Option.bind_some,hsc]at e;cases e
  | some s2 =>
   rw[Option.bind_some,hsc]at e
   cases e
   have hot1:s1.other H=s.other H:=by unfold Vm.other;rw[fw1.calls.1];rfl
   obtain⟨us2,g2,fw2,hw2⟩:=scanF_gc (ds:=[]) g1 (by rw[Tiled,hot1]) ⟨us1,rfl⟩ (by rw[hot1];omega) hsc;have fw:=fw1.trans fw2;obtain⟨f1,f2,f3,f4,f5,f6,f7,f8,f9,f10,f11,f12,f13,f14⟩:=fw.calls
   have hW:∀ f∈linksL s.W s.calls s.fp,s2.W f=s.W f∧s2.W (f+1)=s.W (f+1)∧s2.W (f+2)=s.W (f+2):=by
    intro f hf';have hrg:=h.ch.rg hx;have hr:=hrg f hf';have htop:=h.b3;have hb2:=h.b2;have hcf:=(hx.at h.fn).fr;unfold Vm.top at htop
    have key:∀ j,j<3→s2.W (f+j)=s.W (f+j):=fun j hj=>by
     rw[hw2 _ (by omega)];refine hw1 _ (by omega) (fun g' hg' hc=>?_);have hg2:g'∈linksL s.W s.calls s.fp:=hg';have hc2:g'+3≤f+j∧f+j<g'+frN x (s.W (g'+2)).toNat:=hc;rcases h.ch.off hx hg2 hc2.1 (fun _=>hc2.2) f hf' with q|q <;> omega
    exact⟨key 0 (by omega),key 1 (by omega),key 2 (by omega)⟩
   have hfp:s.fp∈linksL s.W s.calls s.fp:=by
    obtain⟨k,hk⟩:∃ k,s.calls=k+1:=⟨s.calls - 1,by have:=h.cpos;omega⟩
    rw[hk];exact List.mem_cons_self ..
   have hend:=g2.end;have hot2:s2.other H=s.other H:=by unfold Vm.other;rw[f1];rfl
   refine⟨⟨h.h8,h.h4,?_,?_,?_,?_,?_,?_,?_,?_,?_,⟨us2,g2.o1,fun a=>?_⟩,hend.1⟩,⟨?_⟩⟩
   ·show 1≤s2.base;rw[f2];exact h.b1
   ·show s2.base+s2.size≤12000;rw[f2,f3];exact h.b2
   ·show s2.fp+frN x s2.fn+7≤s2.base+s2.size;rw[f2,f3,f4,f5];exact h.b3
   ·show 16≤s2.size;rw[f3];exact h.z1
   ·show s2.calls≤60;rw[f7];exact h.c1
   ·show s2.fn<_;rw[f5];exact h.fn
   ·show s2.W (s2.fp+2)=s2.fn;rw[f4,f5];show s2.W (s.fp+2)=s.fn;rw[(hW s.fp hfp).2.2];exact h.wf
   ·show Chain x s2.W s2.base s2.calls s2.fp;rw[f2,f4,f7];exact h.ch.agree hW
   ·show s2.other H=12000∨s2.other H=12000+H;rcases g2.other with q|q <;> omega
   ·show (if s2.used≤a∧a<s2.used+H then 0 else s2.pl a)=_;have hot:=g2.other;by_cases hm:a∈us2
    ·have:=g2.us_rg hm;rw[if_pos hm,if_neg (by rcases hot with ⟨e1,e2⟩|⟨e1,e2⟩ <;> omega)];exact g2.p2 a hm
    ·rw[if_neg hm];split
     ·rfl
     ·exact g2.p3 a (fun q=>by have:=g2.ts_rg q;rename_i hn;exact hn ⟨this.1,by omega⟩) hm
   ·have:=congrArg (Vm.coll1 H) fw.eq;rw[this];rfl
theorem Iv.alike {x:Im}{H:Nat}{s t:Vm}(h:Iv x H s) (e:t={ s with rg:=t.rg,pc:=t.pc,inp:=t.inp,orc:=t.orc,out:=t.out,steps:=t.steps,moves:=t.moves,copies:=t.copies }):Iv x H t:=by
 rw[e];exact⟨h.h8,h.h4,h.b1,h.b2,h.b3,h.z1,h.c1,h.fn,h.wf,h.ch,h.u,h.hp,h.fe⟩
theorem Iv.set {x:Im}{H:Nat}{s:Vm}(h:Iv x H s) (a z:Int):Iv x H (s.set a z):=h.alike rfl
theorem Iv.next {x:Im}{H:Nat}{s:Vm}(h:Iv x H s):Iv x H s.next:=h.alike rfl
theorem Iv.tick {x:Im}{H:Nat}{s:Vm}(h:Iv x H s):Iv x H s.tick:=h.alike rfl
theorem Iv.frb {x:Im}{H:Nat}{s:Vm}(h:Iv x H s):12000≤s.used∧s.used≤s.free:=by
 obtain⟨ts,ht,_⟩:=h.hp;exact⟨by have:=h.u;omega,ht.le⟩
theorem Iv.put {x:Im}(hx:ImI x) {H:Nat}{s:Vm}(h:Iv x H s) {z:Int}{n:Nat}(a:Nat) (hr:s.room H n=true) (hg:Good x z) (hn:szW x z=n):Iv x H (s.put z n a):=by
 unfold Vm.room at hr;rw[decide_eq_true_eq]at hr;obtain⟨ts,ht,hp⟩:=h.hp;have hfb:=h.frb
 have hlow:∀ b,b<s.free→(s.put z n a).W b=s.W b:=fun b hb=>by
  show (if b=s.free then z else if s.free≤b∧b<s.free+(1+n) then 0 else s.W b)=_;rw[if_neg (by omega),if_neg (by omega)]
 have hmem:∀ b∈ts,b<s.free:=fun b hb=>by have:=(ht.mem b hb).2.1;omega
 have hat:(s.put z n a).W s.free=z:=if_pos rfl;have hb2:=h.b2;have hb3:=h.b3;have hfr:=(hx.at h.fn).fr;have htop:s.top x=s.fp+frN x s.fn:=rfl;refine⟨h.h8,h.h4,h.b1,h.b2,h.b3,h.z1,h.c1,h.fn,?_,h.ch.agree (fun f hf=>?_),h.u,⟨ts++[s.free],?_,fun b=>?_⟩,hr⟩
 ·show (s.put z n a).W (s.fp+2)=s.fn;rw[hlow _ (by omega)];exact h.wf
 ·have:=(h.ch.rg hx f hf).2.1;exact⟨hlow _ (by omega),hlow _ (by omega),hlow _ (by omega)⟩
 ·have:=Tiled.snoc (ht.agree (W':=(s.put z n a).W) (fun b hb=>hlow b (hmem b hb))) (by rw[hat];exact hg);rw[hat,hn]at this;exact this
 ·show fset s.pl s.free s.free b=_;by_cases q:b=s.free
  ·rw[q,fset_at,if_pos (by simp)]
  ·rw[fset_ne _ _ q,hp b];by_cases hm:b∈ts
   ·rw[if_pos hm,if_pos (List.mem_append_left _ hm)]
   ·rw[if_neg hm,if_neg (fun k=>by rcases List.mem_append.1 k with k|k;exact hm k;exact q (List.mem_singleton.1 k))]
theorem Iv.slot {x:Im}(hx:ImI x) {H:Nat}{s:Vm}(h:Iv x H s) {a:Nat}(z:Int) (h1:s.fp+3≤a) (h2:a<12000):Iv x H { s with W:=fset s.W a z }:=by
 obtain⟨ts,ht,hp⟩:=h.hp;have hfb:=h.frb;refine⟨h.h8,h.h4,h.b1,h.b2,h.b3,h.z1,h.c1,h.fn,?_,h.ch.agree (fun f hf=>?_),h.u,⟨ts,ht.agree (fun b hb=>fset_ne _ _ (by have:=(ht.mem b hb).1;omega)),hp⟩,h.fe⟩
 ·show fset s.W a z (s.fp+2)=s.fn;rw[fset_ne _ _ (by omega)];exact h.wf
 ·have:=(h.ch.rg hx f hf).2.1;exact⟨fset_ne _ _ (by omega),fset_ne _ _ (by omega),fset_ne _ _ (by omega)⟩
theorem Iv.obj {x:Im}(hx:ImI x) {H:Nat}{s:Vm}(h:Iv x H s) {z:Int}(hz:s.obj H z=true):12000≤z∧z.toNat+(1+szW x (s.W z.toNat))≤s.free∧Good x (s.W z.toNat)∧∀ k,k<szW x (s.W z.toNat)→∀ v,Iv x H { s with W:=fset s.W (z.toNat+1+k) v }:=by
 unfold Vm.obj at hz;simp only[Bool.and_eq_true,decide_eq_true_eq,bne_iff_ne,ne_eq]at hz;obtain⟨h1,h2,h3⟩:=hz;obtain⟨ts,ht,hp⟩:=h.hp;have hfb:=h.frb
 have hm:z.toNat∈ts:=by
  by_cases q:z.toNat∈ts
  ·exact q
  ·rw[hp,if_neg q]at h3;exact absurd rfl h3
 have hr:=ht.mem _ hm;refine⟨by omega,hr.2.1,hr.2.2,fun k hk v=>?_⟩;have hin:=ht.inner hm hk;have hb2:=h.b2;have hb3:=h.b3;unfold Vm.top at hb3;have hst:∀ b,b<12000→fset s.W (z.toNat+1+k) v b=s.W b:=fun b hb=>fset_ne _ _ (by omega);refine⟨h.h8,h.h4,h.b1,h.b2,h.b3,h.z1,h.c1,h.fn,?_,h.ch.agree (fun f hf=>?_),h.u,⟨ts,ht.agree (fun b hb=>fset_ne _ _ (fun q=>hin (q ▸ hb))),hp⟩,h.fe⟩
 ·show fset s.W _ v (s.fp+2)=s.fn;rw[hst _ (by omega)];exact h.wf
 ·have:=(h.ch.rg hx f hf).2.1;exact⟨hst _ (by omega),hst _ (by omega),hst _ (by omega)⟩
theorem szW_list {x:Im}{h:Int}(e:¬ h % 8=0):szW x h=(h / 8).toNat:=if_neg e
theorem szW_str {x:Im}{h:Int}(e:h % 8=0):szW x h=(stAt x (h / 8).toNat).length:=if_pos e
theorem Vm.len_ok {H:Nat}{s:Vm}{z n:Int}(e:s.len H z=some n):(z=0∧n=0)∨(s.obj H z=true∧¬ s.W z.toNat % 8=0∧n=s.W z.toNat / 8):=by
 unfold Vm.len at e;by_cases h0:z=0
 ·rw[if_pos h0]at e;cases e;exact .inl ⟨h0,rfl⟩
 ·rw[if_neg h0]at e;split at e
  ·rename_i hc
   simp only[Bool.and_eq_true,bne_iff_ne,ne_eq]at hc
   cases e
   exact .inr ⟨hc.1,hc.2,rfl⟩
  ·cases e
theorem Vm.elm_ok {x:Im}{H:Nat}{s:Vm}{z k:Int}{a:Nat}(e:s.elm H z k=some a):s.obj H z=true∧a=z.toNat+1+k.toNat∧k.toNat<szW x (s.W z.toNat):=by
 unfold Vm.elm at e
 cases hl:s.len H z with
 | none=>rw[hl]at e;cases e
 | some n =>
  rw[hl]at e;simp only at e;split at e
  ·rename_i hc
   cases e
   rcases Vm.len_ok hl with ⟨_,q⟩|⟨h1,h2,h3⟩
   ·omega
   ·exact⟨h1,rfl,by rw[szW_list h2];omega⟩
  ·cases e
theorem Vm.fld_ok {x:Im}{H:Nat}{s:Vm}{z k:Int}{a:Nat}(hk:0≤k) (e:s.fld x H z k=some a):s.obj H z=true∧a=z.toNat+1+k.toNat∧k.toNat<szW x (s.W z.toNat):=by
 unfold Vm.fld at e;split at e
 ·rename_i hc
  simp only[Bool.and_eq_true,beq_iff_eq,decide_eq_true_eq]at hc
  cases e
  exact⟨hc.1,rfl,by rw[szW_str hc.2.1];omega⟩
 ·cases e
theorem growS_ge:∀ (f z need:Nat),z≤growS f z need
 | 0,z,_=>Nat.le_refl _
 | f+1,z,need=>by
  rw[growS];split
  ·have:=growS_ge f (2*z) need;omega
  ·omega
theorem growS_ok:∀ (f z need:Nat),need≤z*2 ^ f→need≤growS f z need
 | 0,z,need,h=>by rw[growS];omega
 | f+1,z,need,h=>by
  rw[growS];split
  ·refine growS_ok f (2*z) need ?_;rw[Nat.pow_succ]at h;have:z*(2 ^ f*2)=2*z*2 ^ f:=by rw[Nat.mul_comm (2 ^ f) 2,← Nat.mul_assoc,Nat.mul_comm z 2]
   omega
  ·omega
theorem growS_id {f z need:Nat}(h:need≤z):growS f z need=z:=by
 cases f with
 | zero=>rfl
 | succ f=>rw[growS,if_neg (by omega)]
theorem grow10 {z need:Nat}(hz:16≤z) (h:need≤16384):need≤growS 10 z need:=growS_ok 10 z need (by omega)
theorem chain_copy {x:Im}(hx:ImI x) {W W':Nat→Int}{base b len:Nat}{L:List Nat}(h1:1≤b)
  (hW:∀ o,base≤o→o<base+len→W' (b+(o - base))=if o∈L∧W o≠0 then W o+((b:Int) - base) else W o)
  (hL:∀ f∈L,f+1∉L∧f+2∉L):∀ {k fp:Nat},Chain x W base k fp→(∀ f∈linksL W k fp,f∈L)→fp+3≤base+len→Chain x W' b k (b+(fp - base))
 | 0,_,h,_,_=>h
 | 1,fp,h,hs,hl=>by
  rw[Chain]at h ⊢;refine⟨by omega,?_⟩;rw[hW fp (by omega) (by omega),if_neg (by rw[h.2];simp)];exact h.2
 | k+2,fp,h,hs,hl=>by
  have hrg:=Chain.rg hx h;rw[Chain]at h ⊢;obtain⟨g,q,c,i,e1,h2,e3,h4,h5,h6,h7,h8,h9⟩:=h;have hll:linksL W (k+2) fp=fp::linksL W (k+1) g:=by rw[linksL,e1];rfl
  rw[hll]at hs hrg;have hg:=hrg g (List.mem_cons_of_mem _ (List.mem_cons_self ..));have hf:=hrg fp (List.mem_cons_self ..);have hgL:=hs g (List.mem_cons_of_mem _ (List.mem_cons_self ..));have hfL:=hs fp (List.mem_cons_self ..);have hfr:=(hx.at h4).fr;refine⟨b+(g - base),q,c,i,?_,by omega,?_,h4,by omega,?_,h7,h8,chain_copy hx h1 hW hL h9 (fun f hf=>hs f (List.mem_cons_of_mem _ hf)) (by omega)⟩
  ·rw[hW fp (by omega) (by omega),if_pos ⟨hfL,by rw[e1];omega⟩,e1];omega
  ·have:=hW (g+2) (by omega) (by omega);rw[if_neg (fun q=>(hL g hgL).2 q.1)]at this;rw[show b+(g - base)+2=b+(g+2 - base) by omega,this,e3]
  ·have:=hW (fp+1) (by omega) (by omega);rw[if_neg (fun q=>(hL fp hfL).1 q.1)]at this;rw[show b+(fp - base)+1=b+(fp+1 - base) by omega,this,h6]
theorem links_step {x:Im}(hx:ImI x) {W:Nat→Int}{base:Nat}:∀ {k fp:Nat},Chain x W base k fp→∀ f∈linksL W k fp,∀ g∈linksL W k fp,f<g→f+3≤g
 | 0,_,h,_,_,_,_,_=>h.elim
 | 1,fp,h,f,hf,g,hg,hl=>by
  have h1:f=fp:=by simpa[linksL] using hf
  have h2:g=fp:=by simpa[linksL] using hg
  omega
 | k+2,fp,h,f,hf,g,hg,hl=>by
  have hrg:=Chain.rg hx h;have hfr:=hrg f hf;have hgr:=hrg g hg;have h1:=hfr.2.2 (by omega);have hc:=(hx.at h1.1).fr;by_cases e:g=fp
  ·omega
  ·rw[Chain]at h;obtain⟨g0,q,c,i,e1,h2,e3,h4,h5,h6,h7,h8,h9⟩:=h;have hll:linksL W (k+2) fp=fp::linksL W (k+1) g0:=by rw[linksL,e1];rfl
   rw[hll]at hf hg;rcases List.mem_cons.1 hf with q|q
   ·omega
   rcases List.mem_cons.1 hg with q'|q'
   ·omega
   exact links_step hx h9 f q g q' hl
theorem links_gap {x:Im}(hx:ImI x) {W:Nat→Int}{base k fp:Nat}(h:Chain x W base k fp):∀ f∈linksL W k fp,f+1∉linksL W k fp∧f+2∉linksL W k fp:=fun f hf =>
 ⟨fun hg=>by have:=links_step hx h f hf _ hg (by omega);omega,fun hg=>by have:=links_step hx h f hf _ hg (by omega);omega⟩
theorem Iv.copied {x:Im}(hx:ImI x) {H:Nat}{s t:Vm}(h:Iv x H s) {z:Nat}(hz:16≤z) (hn:s.top x+7≤s.base+z) (e:s.copied x z=some t):Iv x H t∧t.top x - t.base=s.top x - s.base∧t.size=z∧t={ s with W:=t.W,base:=t.base,size:=z,fp:=t.fp,copies:=s.copies+1 }:=by
 unfold Vm.copied at e;simp only at e
 obtain⟨b,hb⟩:∃ b,b=if 1+z≤s.base then 1 else s.base+s.size:=⟨_,rfl⟩
 rw[←hb]at e;split at e
 ·cases e
 rename_i hno
 cases e
 have hbf:=h.bf hx;have hb3:=h.b3;have hb2:=h.b2;have hb1:=h.b1;have hfr:=(hx.at h.fn).fr;have htop:s.top x=s.fp+frN x s.fn:=rfl;have hb1':1≤b:=by rw[hb];split <;> omega
 have hlen:s.top x+7 - s.base≤z:=by omega
 have hcW:∀ o,s.base≤o→o<s.base+(s.top x+7 - s.base)→s.copyW x b (b+(o - s.base))=if o∈linksL s.W s.calls s.fp∧s.W o≠0 then s.W o+((b:Int) - s.base) else s.W o:=fun o h1 h2=>by
  unfold Vm.copyW;rw[if_pos ⟨by omega,by omega⟩,show b+(o - s.base) - b+s.base=o by omega]
 have hhi:∀ a,12000≤a→s.copyW x b a=s.W a:=fun a ha=>by
  unfold Vm.copyW;rw[if_neg (by omega)]
 obtain⟨ts,ht,hp⟩:=h.hp;have hfb:=h.frb;have hgap:=links_gap hx h.ch
 have hfpm:s.fp∈linksL s.W s.calls s.fp:=by
  obtain⟨k,hk⟩:∃ k,s.calls=k+1:=⟨s.calls - 1,by have:=h.cpos;omega⟩
  rw[hk];exact List.mem_cons_self ..
 have hch:=chain_copy hx hb1' hcW hgap h.ch (fun f hf=>hf) (by omega);refine⟨⟨h.h8,h.h4,hb1',by show b+z≤12000;omega,by show b+(s.fp - s.base)+frN x s.fn+7≤b+z;omega,hz,h.c1,h.fn,?_,hch,h.u,⟨ts,ht.agree (fun a ha=>hhi a (by have:=(ht.mem a ha).1;omega)),hp⟩,h.fe⟩,by show b+(s.fp - s.base)+frN x s.fn - b=s.top x - s.base;omega,rfl,rfl⟩;show s.copyW x b (b+(s.fp - s.base)+2)=s.fn;have:=hcW (s.fp+2) (by omega) (by omega);rw[show b+(s.fp+2 - s.base)=b+(s.fp - s.base)+2 by omega,if_neg (fun q=>(hgap _ hfpm).2 q.1)]at this;rw[this];exact h.wf
theorem Iv.framed {x:Im}(hx:ImI x) {H:Nat}{s:Vm}(h:Iv x H s) {n:Nat}(hn:n<x.codes.length) (hc:s.calls<60) (hr:s.top x - s.base+frN x n+7≤s.size) {q:Nat}{i:Is}(hq:s.pc=q+1) (hi:(cdAt x s.fn).ins[q]?=some i) (ho:i.op=23):Iv x H (s.framed x n):=by
 have hbf:=h.bf hx;have hb3:=h.b3;have hb2:=h.b2;have hb1:=h.b1;have hfr:=(hx.at h.fn).fr;have hfn:=(hx.at hn).fr;have htop:s.top x=s.fp+frN x s.fn:=rfl
 have hlo:∀ a,a<s.top x→(s.framed x n).W a=s.W a:=fun a ha=>by
  show (if a=s.top x then _ else if a=s.top x+1 then _ else if a=s.top x+2 then _ else if _ then _ else s.W a)=_;rw[if_neg (by omega),if_neg (by omega),if_neg (by omega),if_neg (by omega)]
 have hhi:∀ a,12000≤a→(s.framed x n).W a=s.W a:=fun a ha=>by
  show (if a=s.top x then _ else if a=s.top x+1 then _ else if a=s.top x+2 then _ else if _ then _ else s.W a)=_;rw[if_neg (by omega),if_neg (by omega),if_neg (by omega),if_neg (by omega)]
 have e0:(s.framed x n).W (s.top x)=s.fp:=if_pos rfl
 have e1:(s.framed x n).W (s.top x+1)=s.pc:=by
  show (if s.top x+1=s.top x then _ else if s.top x+1=s.top x+1 then _ else _)=_;rw[if_neg (by omega),if_pos rfl]
 have e2:(s.framed x n).W (s.top x+2)=n:=by
  show (if s.top x+2=s.top x then _ else if s.top x+2=s.top x+1 then _ else if s.top x+2=s.top x+2 then _ else _)=_;rw[if_neg (by omega),if_neg (by omega),if_pos rfl]
 obtain⟨ts,ht,hp⟩:=h.hp;have hfb:=h.frb
 obtain⟨k,hk⟩:∃ k,s.calls=k+1:=⟨s.calls - 1,by have:=h.cpos;omega⟩
 refine⟨h.h8,h.h4,h.b1,h.b2,by show s.top x+frN x n+7≤s.base+s.size;omega,h.z1,by show s.calls+1≤60;omega,hn,e2,?_,h.u,⟨ts,ht.agree (fun a ha=>hhi a (by have:=(ht.mem a ha).1;omega)),hp⟩,h.fe⟩;show Chain x (s.framed x n).W s.base (s.calls+1) (s.top x);have hch:=h.ch;have hrg:=hch.rg hx;rw[hk]at hch hrg ⊢;rw[Chain];exact⟨s.fp,q,s.fn,i,e0,by omega,by rw[hlo _ (by omega)];exact h.wf,h.fn,htop,by rw[e1,hq];rfl,hi,ho,hch.agree (fun f hf=>by have:=(hrg f hf).2.1;exact⟨hlo _ (by omega),hlo _ (by omega),hlo _ (by omega)⟩)⟩
theorem Iv.enter {x:Im}(hx:ImI x) {H:Nat}{s t:Vm}(h:Iv x H s) {n:Nat}(hn:n<x.codes.length) (hc:s.calls<60) {q:Nat}{i:Is}(hq:s.pc=q+1) (hi:(cdAt x s.fn).ins[q]?=some i) (ho:i.op=23) (e:s.enter x n=.go t):Iv x H t:=by
 have hfr:=(hx.at h.fn).fr;have hfn:=(hx.at hn).fr;have hb3:=h.b3;have hb2:=h.b2;have htop:s.top x=s.fp+frN x s.fn:=rfl;have hgr:=grow10 (need:=s.top x - s.base+frN x n+7) h.z1 (by omega);have hge:=growS_ge 10 s.size (s.top x - s.base+frN x n+7);unfold Vm.enter at e;simp only at e;split at e
 ·rename_i hz
  cases e
  exact h.framed hx hn hc (by omega) hq hi ho
 ·split at e
  ·cases e
  ·rename_i u hu
   cases e
   have hbf:=h.bf hx;have hz1:=h.z1;obtain⟨hu1,hu2,hu3,hu4⟩:=h.copied hx (by omega) (by omega) hu;have c1:u.calls=s.calls:=by rw[hu4]
   have c2:u.pc=s.pc:=by rw[hu4]
   have c3:u.fn=s.fn:=by rw[hu4]
   exact hu1.framed hx hn (by omega) (by omega) (by rw[c2];exact hq) (by rw[c3];exact hi) ho
theorem Iv.ret {x:Im}(hx:ImI x) {H:Nat}{s t:Vm}(h:Iv x H s) {i:Is}(e:s.ret i=.go t):Iv x H t:=by
 unfold Vm.ret at e;simp only at e;have h':Iv x H (if i.n=1 then s.set 0 (s.reg i.a) else s):=by split;exact h.set _ _;exact h
 revert e
 generalize (if i.n=1 then s.set 0 (s.reg i.a) else s)=u at *
 intro e;split at e
 ·cases e
 rename_i hne
 cases e
 have hch:=h'.ch;have hb3:=h'.b3;have hfr:=(hx.at h'.fn).fr;have htop:u.top x=u.fp+frN x u.fn:=rfl
 obtain⟨k,hk⟩:∃ k,u.calls=k+2:=by
  cases hc:u.calls with
  | zero=>rw[hc,Chain]at hch;exact hch.elim
  | succ k =>
   cases k with
   | zero=>rw[hc,Chain]at hch;exact absurd hch.2 hne
   | succ k=>exact⟨k,rfl⟩
 rw[hk,Chain]at hch;obtain⟨g,q,c,j,e1,h2,e3,h4,h5,h6,h7,h8,h9⟩:=hch;have hg:(u.W u.fp).toNat=g:=by omega
 have hcg:(u.W ((u.W u.fp).toNat+2)).toNat=c:=by rw[hg,e3];rfl
 refine⟨h'.h8,h'.h4,h'.b1,h'.b2,?_,h'.z1,?_,?_,?_,?_,h'.u,h'.hp,h'.fe⟩
 ·show (u.W u.fp).toNat+frN x (u.W ((u.W u.fp).toNat+2)).toNat+7≤_;rw[hcg,hg];show g+frN x c+7≤u.base+u.size;omega
 ·show u.calls - 1≤60;have:=h'.c1;omega
 ·show (u.W ((u.W u.fp).toNat+2)).toNat<_;rw[hcg];exact h4
 ·show u.W ((u.W u.fp).toNat+2)=(((u.W ((u.W u.fp).toNat+2)).toNat:Nat):Int)
  rw[hcg,hg,e3]
 ·show Chain x u.W u.base (u.calls - 1) (u.W u.fp).toNat;rw[hg,hk];exact h9
theorem Iv.take2 {x:Im}(hx:ImI x) {H:Nat}{s t:Vm}(h:Iv x H s) {z:Int}{n a:Nat}(hs:SafeAt x s.fn ((s.pc:Int) - 1)) (hg:Good x z) (hn:szW x z=n) (e:s.take2 x H z n a=.go t):Iv x H t:=by
 unfold Vm.take2 at e;split at e
 ·rename_i hr
  cases e
  exact h.put hx a hr hg hn
 ·split at e
  ·cases e
  ·rename_i u hu
   split at e
   ·rename_i hr
    cases e
    exact (h.coll hx hs hu).1.put hx a hr hg hn
   ·cases e
theorem Iv.take {x:Im}(hx:ImI x) {H:Nat}{s t:Vm}(h:Iv x H s) {z:Int}{n a:Nat}(hs:SafeAt x s.fn ((s.pc:Int) - 1)) (hg:Good x z) (hn:szW x z=n) (e:s.take x H z n a=.go t):Iv x H t:=by
 unfold Vm.take at e;split at e
 ·split at e
  ·cases e
  ·rename_i u hu
   obtain⟨h1,h2⟩:=h.next.coll hx hs hu
   exact h1.take2 hx (by rw[h2.eq];exact hs) hg hn e
 ·exact h.next.take2 hx hs hg hn e
structure InsI (x:Im) (c:Nat) (i:Is):Prop where
 o0:0≤i.op
 o27:i.op≤27
 a0:0≤i.a
 a16:i.a<16
 b0:0≤i.b
 b16:i.b<16
 c0:0≤i.c
 c16:i.c<16
 n:(bnd x.structs.length x.codes.length (cdAt x c).frame (cdAt x c).ins.length i.op).1≤i.n∧i.n≤(bnd x.structs.length x.codes.length (cdAt x c).frame (cdAt x c).ins.length i.op).2
theorem CdI.insI {x:Im}{c:Nat}(h:CdI x c) {q:Nat}{i:Is}(hi:(cdAt x c).ins[q]?=some i):InsI x c i:=by
 have:=h.ins i (List.mem_of_getElem? hi);unfold insB inB plB at this;simp only[Bool.and_eq_true,decide_eq_true_eq]at this;obtain⟨⟨h1,h2⟩,⟨h3,h4⟩,⟨h5,h6⟩,⟨h7,h8⟩,h9⟩:=this;exact⟨h1,h2,h3,h4,h5,h6,h7,h8,h9⟩
theorem InsI.at {x:Im}{c:Nat}{i:Is}(h:InsI x c i) (k:Nat) (hk:i.op.toNat=k):i.op=k:=by have:=h.o0;omega
theorem good_str {x:Im}(hx:ImI x) {n:Int}(h0:0≤n) (h1:n<x.structs.length):Good x (n*8)∧szW x (n*8)=(stAt x n.toNat).length:=by
 have hn:=hx.ns;have e1:n*8 % 8=0:=by omega
 have e2:n*8 / 8=n:=by omega
 refine⟨⟨by omega,by omega,fun _=>by rw[e2];omega,by omega⟩,?_⟩;rw[szW_str e1,e2]
theorem good_lst {x:Im}{k n:Int}(h0:0≤k) (h1:k≤100) (n0:0≤n) (n2:n≤2):Good x (k*8+1+n)∧szW x (k*8+1+n)=k.toNat:=by
 have e1:¬ (k*8+1+n) % 8=0:=by omega
 have e2:(k*8+1+n) / 8=k:=by omega
 refine⟨⟨by omega,by omega,fun q=>absurd q e1,by omega⟩,?_⟩;rw[szW_list e1,e2]
theorem Iv.ins {x:Im}(hx:ImI x) {H:Nat}{s t:Vm}(h:Iv x H s) {q:Nat}{i:Is}(hq:s.pc=q+1) (hi:(cdAt x s.fn).ins[q]?=some i) (e:s.ins x H i=.go t):Iv x H t:=by
 have hI:=(hx.at h.fn).insI hi;have hfr:=(hx.at h.fn).fr;have hb3:=h.b3;have hb2:=h.b2;have htop:s.top x=s.fp+frN x s.fn:=rfl;have hn:=hI.n
 have hsafe:hmB i.op=true→SafeAt x s.fn ((s.pc:Int) - 1):=fun hm=>⟨q,i,by omega,hi,hm⟩
 unfold Vm.ins at e;split at e
 all_goals first
  | (cases e;done)
  | (cases e;exact h.set _ _)
  | (cases e;exact h.alike rfl)
  | (split at e <;> first|(cases e;done)|(cases e;exact h.set _ _)|(cases e;exact h)|(cases e;exact h.alike rfl))
  | skip
 ·rename_i hop
  have:=hI.at 3 hop;rw[this]at hn;simp[bnd]at hn
  cases e
  exact h.slot hx _ (by omega) (by omega)
 ·rename_i hop
  have ho:=hI.at 10 hop;rw[ho]at hn;simp[bnd]at hn;have:=good_str hx (n:=i.n) hn.1 (by omega);exact h.take hx (hsafe (by rw[ho];decide)) this.1 this.2 e
 ·rename_i hop
  have ho:=hI.at 11 hop;rw[ho]at hn;simp[bnd]at hn;split at e
  ·rename_i hk
   have:=good_lst (x:=x) hk.1 hk.2 hn.1 hn.2;exact h.take hx (hsafe (by rw[ho];decide)) this.1 this.2 e
  ·cases e
 ·split at e
  ·cases e
  ·split at e
   ·cases e;exact h
   ·cases e
 ·rename_i hop
  have ho:=hI.at 17 hop;rw[ho]at hn;simp[bnd]at hn;split at e
  ·cases e
  ·rename_i a ha
   cases e
   obtain⟨h1,rfl,h3⟩:=Vm.fld_ok hn.1 ha;exact (h.obj hx h1).2.2.2 _ h3 _
 ·split at e
  ·cases e
  ·rename_i a ha
   cases e
   obtain⟨h1,rfl,h3⟩:=Vm.elm_ok (x:=x) ha;exact (h.obj hx h1).2.2.2 _ h3 _
 ·rename_i hop
  have ho:=hI.at 22 hop;rw[ho]at hn;simp[bnd]at hn
  cases e
  exact h.slot hx _ (by omega) (by omega)
 ·rename_i hop
  have ho:=hI.at 23 hop;rw[ho]at hn;simp[bnd]at hn;unfold Vm.call at e;split at e
  ·cases e
  rename_i hc
  split at e
  ·cases hcp:s.next.copied x s.size with
   | none =>
    rw[hcp]at e;exact h.next.enter hx (by omega) (by show s.calls<60;omega) hq hi ho e
   | some u =>
    rw[hcp]at e;have hz:=h.z1;obtain⟨hu1,hu2,hu3,hu4⟩:=h.next.copied hx hz hb3 hcp
    have c1:u.calls=s.calls:=by rw[hu4];rfl
    have c2:u.pc=s.pc:=by rw[hu4];rfl
    have c3:u.fn=s.fn:=by rw[hu4];rfl
    exact hu1.enter hx (by omega) (by omega) (by rw[c2];exact hq) (by rw[c3];exact hi) ho e
  ·exact h.next.enter hx (by omega) (by show s.calls<60;omega) hq hi ho e
 ·exact h.ret hx e
end Go.Proofs.YtjnpncefkigcbaaGreat
