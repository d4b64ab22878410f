import Derived.Test.YtgholpilmdebmaaGreatDoorZ05
import Derived.Test.YtgholpilmdebmaaGreatDoorZ07
import Derived.Test.YtgholpilmdebmaaGreatDoorZ16
import Derived.Deep.RegionHeld3
set_option maxHeartbeats 100000000
set_option maxRecDepth 100000
namespace Go.Proofs.YtgholpilmdebmaaGreatDoor
open Go.RowKit
def tyB (k n s:Int) (no:Bool):Bool:=if k=0 then no&&(n==0) else if k=1∨k=2∨k=4∨k=5 then n==0 else if k=3∨k=6 then decide (0≤n)&&decide (n<s) else false
theorem neb {a b:Int}(h:a≠b):(a==b)=false:=by rw[beq_eq_false_iff_ne];exact h
theorem decN (k:Int):(k=0∨k=1∨k=2∨k=3∨k=4∨k=5∨k=6)∨(k≠0∧k≠1∧k≠2∧k≠3∧k≠4∧k≠5∧k≠6):=by omega
theorem ty_any (tk tn s:Int) (no:Bool) (w:World):Calls Tryz.prog 99 #[.agg #[.int .i64 tk,.int .i64 tn],.int .i64 s,.bool no] w fun e w'=>e=.returned (.bool (tyB tk tn s no))∧Later w w':=by
 rcases decN tk with (rfl|rfl|rfl|rfl|rfl|rfl|rfl)|⟨n0,n1,n2,n3,n4,n5,n6⟩
 ·show Calls _ _ _ _ fun e w'=>e=.returned (.bool (no&&(tn==0)))∧_
  cases no
  all_goals
   go_enter Tryz.func99,Tryz.ntmps99;go_wp2_with fail
   go_ret;exact⟨by first|rfl|simp,later1 _ _⟩
 ·show Calls _ _ _ _ fun e w'=>e=.returned (.bool (tn==0))∧_;go_enter Tryz.func99,Tryz.ntmps99;go_wp2_with fail
  go_ret;exact⟨by first|rfl|simp,later1 _ _⟩
 ·show Calls _ _ _ _ fun e w'=>e=.returned (.bool (tn==0))∧_;go_enter Tryz.func99,Tryz.ntmps99;go_wp2_with fail
  go_ret;exact⟨by first|rfl|simp,later1 _ _⟩
 ·by_cases q:0≤tn
  ·have e:tyB 3 tn s no=decide (tn<s):=by show (decide (0≤tn)&&decide (tn<s))=_;rw[decide_eq_true q];rfl
   rw[e];go_enter Tryz.func99,Tryz.ntmps99;go_wp2_with fail
   go_ret;exact⟨by first|rfl|simp,later1 _ _⟩
  ·have e:tyB 3 tn s no=false:=by show (decide (0≤tn)&&decide (tn<s))=_;rw[decide_eq_false q];rfl
   rw[e];go_enter Tryz.func99,Tryz.ntmps99;go_wp2_with fail
   go_ret;exact⟨by first|rfl|simp,later1 _ _⟩
 ·show Calls _ _ _ _ fun e w'=>e=.returned (.bool (tn==0))∧_;go_enter Tryz.func99,Tryz.ntmps99;go_wp2_with fail
  go_ret;exact⟨by first|rfl|simp,later1 _ _⟩
 ·show Calls _ _ _ _ fun e w'=>e=.returned (.bool (tn==0))∧_;go_enter Tryz.func99,Tryz.ntmps99;go_wp2_with fail
  go_ret;exact⟨by first|rfl|simp,later1 _ _⟩
 ·by_cases q:0≤tn
  ·have e:tyB 6 tn s no=decide (tn<s):=by show (decide (0≤tn)&&decide (tn<s))=_;rw[decide_eq_true q];rfl
   rw[e];go_enter Tryz.func99,Tryz.ntmps99;go_wp2_with fail
   go_ret;exact⟨by first|rfl|simp,later1 _ _⟩
  ·have e:tyB 6 tn s no=false:=by show (decide (0≤tn)&&decide (tn<s))=_;rw[decide_eq_false q];rfl
   rw[e];go_enter Tryz.func99,Tryz.ntmps99;go_wp2_with fail
   go_ret;exact⟨by first|rfl|simp,later1 _ _⟩
 ·have e:tyB tk tn s no=false:=by unfold tyB;rw[if_neg n0,if_neg (by omega),if_neg (by omega)]
  rw[e];have e0:=neb n0;have e1:=neb n1;have e2:=neb n2;have e3:=neb n3;have e4:=neb n4;have e5:=neb n5;have e6:=neb n6;clear e n0 n1 n2 n3 n4 n5 n6;go_enter Tryz.func99,Tryz.ntmps99;go_wp2_with fail
  go_ret;exact⟨by first|rfl|simp,later1 _ _⟩
def tylB (k n s:Int):Bool:=decide (4≤k)&&tyB k n s false
theorem cb_fb' {n:Int}(hn:InR n) (h:nanB (fb n)=false):cb (fb n)=n:=by
 rw[cb_num h];unfold InR at hn;have:=fb_wrap n;rw[IntKind.wrap_u64]at this;unfold wrap64;omega
def canon (n:Int):Bool:=if nanB (fb n) then n==9221120237041090561 else true
theorem canon_eq {n:Int}(hn:InR n):(cb (fb n)==n)=canon n:=by
 unfold canon;by_cases h:nanB (fb n)=true
 ·rw[cb_nan h,if_pos h,Bool.eq_iff_iff,beq_iff_eq,beq_iff_eq];exact eq_comm
 ·rw[cb_fb' hn (by simpa using h),if_neg h];simp
abbrev Form:=Int × Int × Int × Int × Bool × Bool × Bool
def formE (k:Int):Option Form:=if k=0 then some (0,0,1,0,false,false,false) else if k=1 then some (0,0,2,0,false,false,false) else if k=2 then some (0,0,3,0,false,false,false) else if k=3 then some (0,0,0,0,true,false,false) else if k=4 then some (0,0,3,0,false,false,false) else if k=5 then some (1,1,0,2,false,false,false) else if k=6 then some (0,4,0,0,true,false,false) else if k=7 then some (1,1,0,0,true,false,false) else if k=8 then some (2,2,0,0,false,false,false) else if k=9 then some (1,1,0,0,false,false,false) else if k=10 then some (2,2,4,0,false,false,false) else if k=11 then some (0,0,0,0,false,false,false) else if k=12 then some (1,1,0,0,false,false,false) else if k=13 then some (1,1,0,0,false,false,false) else none
theorem formE_cases (k:Int):(k=0∨k=1∨k=2∨k=3∨k=4∨k=5∨k=6∨k=7∨k=8∨k=9∨k=10∨k=11∨k=12∨k=13)∨(k≠0∧k≠1∧k≠2∧k≠3∧k≠4∧k≠5∧k≠6∧k≠7∧k≠8∧k≠9∧k≠10∧k≠11∧k≠12∧k≠13):=by omega
def formS (k:Int):Option Form:=if k=0 then some (0,0,0,1,true,false,false) else if k=1 then some (2,2,0,0,false,false,false) else if k=2 then some (1,1,0,0,false,true,true) else if k=3 then some (1,1,0,0,false,true,false) else if k=4 then some (0,1,0,0,false,false,false) else if k=5 then some (1,1,0,0,false,false,false) else if k=6 then some (1,1,0,0,false,false,false) else if k=7 then some (1,1,0,0,false,false,false) else none
theorem formS_cases (k:Int):(k=0∨k=1∨k=2∨k=3∨k=4∨k=5∨k=6∨k=7)∨(k≠0∧k≠1∧k≠2∧k≠3∧k≠4∧k≠5∧k≠6∧k≠7):=by omega
def numB (want n s:Int):Bool:=if want=1 then true else if want=2 then canon n else if want=3 then decide (0≤n)&&decide (n<s) else if want=4 then decide (0≤n)&&decide (n<7) else n==0
def typB (want tk tn s:Int):Bool:=if want=1 then tyB tk tn s false else if want=2 then tylB tk tn s else (tk==0)&&(tn==0)
theorem buildTy (w:World):(Instr.build 67 #[]).run Tryz.prog w=.ok (.agg #[.int .i64 0,.int .i64 0]) w:=run_build w 67 _ _ (by kernel_rfl)
def fitsB (f:Form) (n tk tn:Int) (name:List Int) (kids:Nat) (s:Int):Bool:=decide (f.1≤(kids:Int))&&decide ((kids:Int)≤f.2.1)&&(if f.2.2.2.2.1 then nameL name else decide (name.length=0))&&numB f.2.2.1 n s&&typB f.2.2.2.1 tk tn s
theorem OnlyK.of_later {K:Nat}{w w':World}(h:Later w w'):OnlyK K w w':=OnlyK.later h (Nat.le_refl _)
mutual
def Ex.good:Ex→Prop
 | .mk _ n _ _ _ ks=>InR n∧Ex.goods ks
def Ex.goods:List Ex→Prop
 | []=>True
 | x::r=>x.good∧Ex.goods r
end
theorem Ex.goods_at:∀ (l:List Ex) (j:Nat) (h:j<l.length),Ex.goods l→l[j].good
 | x::r,0,_,h=>by rw[Ex.goods]at h;exact h.1
 | x::r,j+1,hj,h=>by rw[Ex.goods]at h;exact Ex.goods_at r j (by simpa using hj) h.2
theorem Ex.good_n {x:Ex}(h:x.good):InR x.n:=by obtain⟨k,n,tk,tn,nm,ks⟩:=x;rw[Ex.good]at h;exact h.1
theorem Ex.good_kids {x:Ex}(h:x.good):Ex.goods x.kids:=by obtain⟨k,n,tk,tn,nm,ks⟩:=x;rw[Ex.good]at h;exact h.2
def hereE (s k n tk tn:Int) (name:List Int) (kids:Nat):Bool:=match formE k with|some f=>fitsB f n tk tn name kids s|none=>false
mutual
def Ex.run (s:Int):Int→Int→Ex→Option Int
 | d,l,.mk k n tk tn nm ks=>if l - 1<0∨30<d∨hereE s k n tk tn nm ks.length=false then none else Ex.runs s (d+1) (l - 1) ks
def Ex.runs (s:Int):Int→Int→List Ex→Option Int
 | _,l,[]=>some l
 | d,l,x::r=>match Ex.run s d l x with|none=>none|some l'=>Ex.runs s d l' r
end
theorem Ex.run_eq (s d l:Int) (x:Ex):Ex.run s d l x=if l - 1<0∨30<d∨hereE s x.kind x.n x.tk x.tn x.name x.kids.length=false then none else Ex.runs s (d+1) (l - 1) x.kids:=by
 obtain⟨k,n,tk,tn,nm,ks⟩:=x;rw[Ex.run];rfl
def Ex.soFar (s d l:Int) (xs:List Ex) (j:Nat) (l':Int):Prop:=Ex.runs s d l xs=Ex.runs s d l' (xs.drop j)
theorem Ex.soFar_start (s d l:Int) (xs:List Ex):Ex.soFar s d l xs 0 l:=rfl
theorem Ex.soFar_done {s d l l':Int}{xs:List Ex}(h:Ex.soFar s d l xs xs.length l'):Ex.runs s d l xs=some l':=by
 unfold Ex.soFar at h;rw[h,List.drop_length,Ex.runs]
theorem Ex.soFar_next {s d l l' l'':Int}{xs:List Ex}{j:Nat}(h:Ex.soFar s d l xs j l') (hj:j<xs.length) (hr:Ex.run s d l' xs[j]=some l''):Ex.soFar s d l xs (j+1) l'':=by
 unfold Ex.soFar at *;rw[h,List.drop_eq_getElem_cons hj,Ex.runs,hr]
theorem Ex.soFar_bad {s d l l':Int}{xs:List Ex}{j:Nat}(h:Ex.soFar s d l xs j l') (hj:j<xs.length) (hr:Ex.run s d l' xs[j]=none):Ex.runs s d l xs=none:=by
 unfold Ex.soFar at h;rw[h,List.drop_eq_getElem_cons hj,Ex.runs,hr]
mutual
theorem Ex.run_le (s:Int):∀ (x:Ex) (d l l':Int),Ex.run s d l x=some l'→0≤l'∧l'<l
 | .mk k n tk tn nm ks,d,l,l',h=>by
  rw[Ex.run]at h;split at h
  ·cases h
  ·rename_i hc
   rcases Ex.runs_le s ks _ _ _ h with ⟨h1,h2⟩
   exact⟨h2 (by omega),by omega⟩
theorem Ex.runs_le (s:Int):∀ (xs:List Ex) (d l l':Int),Ex.runs s d l xs=some l'→l'≤l∧(0≤l→0≤l')
 | [],d,l,l',h=>by rw[Ex.runs]at h;cases h;exact⟨Int.le_refl _,fun h=>h⟩
 | x::r,d,l,l',h=>by
  rw[Ex.runs]at h;split at h
  ·cases h
  ·rename_i l1 h1
   have a:=Ex.run_le s x d l l1 h1;have b:=Ex.runs_le s r d l1 l' h;exact⟨by omega,fun _=>b.2 a.1⟩
end
theorem zbf {K:Nat}{w0 w w':World}(h:Later w0 w) (ho:OnlyK K w w') (hK:w0.heap.size≤K):Later w0 w':=Below.trans h (ho.below hK h.size)
theorem only_cell {K:Nat}{w w':World}(ho:OnlyK K w w'):(∀ b o,b<w.heap.size→b≠K→w'.cell? ⟨b,o,none⟩=w.cell? ⟨b,o,none⟩):=fun b _ hb hn=>World.cell?_of_block (ho.block b hb hn)
end Go.Proofs.YtgholpilmdebmaaGreatDoor
namespace Go.Proofs.YtgholpilmdebmaaGreatDoor
open Go.RowKit Go.Maps
theorem Pa.datsMap (l:List Pa):Pa.dats l=l.map Pa.dat:=by induction l with|nil=>rfl|cons x r ih=>rw[Pa.dats,ih];rfl
theorem Sc.datsMap (l:List Sc):Sc.dats l=l.map Sc.dat:=by induction l with|nil=>rfl|cons x r ih=>rw[Sc.dats,ih];rfl
theorem Ex.datsMap (l:List Ex):Ex.dats l=l.map Ex.dat:=by induction l with|nil=>rw[Ex.dats];rfl|cons x r ih=>rw[Ex.dats,ih];rfl
theorem St.datsMap (l:List St):St.dats l=l.map St.dat:=by induction l with|nil=>rw[St.dats];rfl|cons x r ih=>rw[St.dats,ih];rfl
theorem Fu.datsMap (l:List Fu):Fu.dats l=l.map Fu.dat:=by induction l with|nil=>rfl|cons x r ih=>rw[Fu.dats,ih];rfl
theorem takeSnoc {α β:Type}{l:List α}{j:Nat}(h:j<l.length) (f:α→β):(l.take (j+1)).map f=(l.take j).map f++[f l[j]]:=by rw[List.take_succ_eq_append_getElem h,List.map_append];rfl
structure Bxx (w:World) (B:Nat) (xs:List Value):Prop where
 lt:B<w.heap.size
 cell:∀ i u,xs[i]?=some u→w.cell? ⟨B,i,none⟩=some u∧w.frozen? ⟨B,i,none⟩=false
theorem Bxx.new (w:World) (cs:Array Value) (t:TypeId):Bxx (w.alloc (.cells cs t)) w.heap.size cs.toList:=by
 have e:(w.alloc (.cells cs t)).heap[w.heap.size]?=some (.cells cs t):=(MapKept.heap_alloc w _).1;refine⟨by simp,fun i u h=>⟨?_,?_⟩⟩
 ·have:=zao w cs t rfl i u h
  rwa [Addr.add_lit,Nat.zero_add]at this
 ·unfold World.frozen?;simp only[e];simp
theorem Bxx.later {w w':World}{B:Nat}{xs:List Value}(h:Bxx w B xs) (hl:Later w w'):Bxx w' B xs :=
 ⟨Nat.lt_of_lt_of_le h.lt hl.size,fun i u hi=>by rw[Below.cell hl (p:=⟨B,i,none⟩) h.lt,Below.frozen hl (p:=⟨B,i,none⟩) h.lt];exact h.cell i u hi⟩
theorem Bxx.kept {w w':World}{B:Nat}{xs:List Value}(h:Bxx w B xs) (hs:w.heap.size≤w'.heap.size) (hb:w'.heap[B]?=w.heap[B]?):Bxx w' B xs :=
 ⟨Nat.lt_of_lt_of_le h.lt hs,fun i u hi=>by rw[World.cell?_of_block (w:=w) (w':=w') (a:=⟨B,i,none⟩) hb,World.frozen?_of_block (w:=w) (w':=w') (a:=⟨B,i,none⟩) hb];exact h.cell i u hi⟩
theorem Bxx.only {K:Nat}{w w':World}{B:Nat}{xs:List Value}(h:Bxx w B xs) (ho:OnlyK K w w') (hK:B≠K):Bxx w' B xs:=h.kept ho.size (ho.block B h.lt hK)
theorem Bxx.set {w:World}{B:Nat}{xs:List Value}(h:Bxx w B xs) (i:Nat) (v:Value) (hi:i<xs.length):Bxx (w.setCell ⟨B,i,none⟩ v) B (xs.set i v):=by
 refine⟨by rw[World.size_setCell];exact h.lt,fun j u hj=>?_⟩;rw[World.frozen?_setCell];by_cases e:j=i
 ·subst e;rw[List.getElem?_set_self hi]at hj
  cases hj
  have:=h.cell j _ (List.getElem?_eq_getElem hi);exact⟨zdt this.1,this.2⟩
 ·rw[List.getElem?_set_ne (Ne.symm e)]at hj;rw[set_off _ _ _ (Ne.symm e)];exact h.cell j u hj
theorem Bxx.other {w:World}{B:Nat}{xs:List Value}(h:Bxx w B xs) {b o:Nat}(hb:B≠b) (v:Value):Bxx (w.setCell ⟨b,o,none⟩ v) B xs:=h.kept (by rw[World.size_setCell];exact Nat.le_refl _) (Below.heap_setCell _ _ _ _ hb)
end Go.Proofs.YtgholpilmdebmaaGreatDoor
namespace Go.Proofs.YtgholpilmdebmaaGreatDoor
open Go.RowKit
theorem Ex.kids_le (x:Ex):Ex.szs x.kids≤x.sz:=by obtain⟨k,n,tk,tn,nm,ks⟩:=x;show Ex.szs ks≤nm.length+Ex.szs ks;omega
def leftB (k:Int):Bool:=(k==3)||(k==7)||(k==8)
mutual
def St.good:St→Prop
 | .mk _ n _ _ _ ks bo el=>InR n∧Ex.goods ks∧St.goods bo∧St.goods el
def St.goods:List St→Prop
 | []=>True
 | x::r=>x.good∧St.goods r
end
theorem St.goods_at:∀ (l:List St) (j:Nat) (h:j<l.length),St.goods l→l[j].good
 | x::r,0,_,h=>by rw[St.goods]at h;exact h.1
 | x::r,j+1,hj,h=>by rw[St.goods]at h;exact St.goods_at r j (by simpa using hj) h.2
theorem St.good_all {x:St}(h:x.good):InR x.n∧Ex.goods x.kids∧St.goods x.body∧St.goods x.els:=by obtain⟨k,n,tk,tn,nm,ks,bo,el⟩:=x;rw[St.good]at h;exact h
def headB (k:Int) (ks:List Ex):Bool:=if k=1 then (match ks with|x::_=>leftB x.kind|[]=>false) else if k=7 then (match ks with|x::_=>x.kind==6|[]=>false) else true
def hereS (s k n tk tn:Int) (name:List Int) (ks:List Ex) (body els:Nat):Bool:=match formS k with|some f=>fitsB f n tk tn name ks.length s&&(f.2.2.2.2.2.1||decide (body=0))&&(f.2.2.2.2.2.2||decide (els=0))&&headB k ks|none=>false
mutual
def St.run (s:Int):Int→Int→St→Option Int
 | d,l,.mk k n tk tn nm ks bo el=>if l - 1<0∨30<d∨hereS s k n tk tn nm ks bo.length el.length=false then none else
  match Ex.runs s (d+1) (l - 1) ks with
  | none=>none
  | some l1=>match St.runs s (d+1) l1 bo with
   | none=>none
   | some l2=>St.runs s (d+1) l2 el
def St.runs (s:Int):Int→Int→List St→Option Int
 | _,l,[]=>some l
 | d,l,x::r=>match St.run s d l x with|none=>none|some l'=>St.runs s d l' r
end
theorem St.run_eq (s d l:Int) (x:St):St.run s d l x=if l - 1<0∨30<d∨hereS s x.kind x.n x.tk x.tn x.name x.kids x.body.length x.els.length=false then none else (match Ex.runs s (d+1) (l - 1) x.kids with|none=>none|some l1=>match St.runs s (d+1) l1 x.body with|none=>none|some l2=>St.runs s (d+1) l2 x.els):=by
 obtain⟨k,n,tk,tn,nm,ks,bo,el⟩:=x;rw[St.run];rfl
def St.soFar (s d l:Int) (xs:List St) (j:Nat) (l':Int):Prop:=St.runs s d l xs=St.runs s d l' (xs.drop j)
theorem St.soFar_start (s d l:Int) (xs:List St):St.soFar s d l xs 0 l:=rfl
theorem St.soFar_done {s d l l':Int}{xs:List St}(h:St.soFar s d l xs xs.length l'):St.runs s d l xs=some l':=by
 unfold St.soFar at h;rw[h,List.drop_length,St.runs]
theorem St.soFar_next {s d l l' l'':Int}{xs:List St}{j:Nat}(h:St.soFar s d l xs j l') (hj:j<xs.length) (hr:St.run s d l' xs[j]=some l''):St.soFar s d l xs (j+1) l'':=by
 unfold St.soFar at *;rw[h,List.drop_eq_getElem_cons hj,St.runs,hr]
theorem St.soFar_bad {s d l l':Int}{xs:List St}{j:Nat}(h:St.soFar s d l xs j l') (hj:j<xs.length) (hr:St.run s d l' xs[j]=none):St.runs s d l xs=none:=by
 unfold St.soFar at h;rw[h,List.drop_eq_getElem_cons hj,St.runs,hr]
mutual
theorem St.run_le (s:Int):∀ (x:St) (d l l':Int),St.run s d l x=some l'→0≤l'∧l'<l
 | .mk k n tk tn nm ks bo el,d,l,l',h=>by
  rw[St.run]at h;split at h
  ·cases h
  ·rename_i hc
   split at h
   ·cases h
   ·rename_i l1 h1
    split at h
    ·cases h
    ·rename_i l2 h2
     have a1:=Ex.runs_le s ks _ _ _ h1;have a2:=St.runs_le s bo _ _ _ h2;have a3:=St.runs_le s el _ _ _ h;have b1:=a1.2 (by omega);have b2:=a2.2 b1;exact⟨a3.2 b2,by omega⟩
theorem St.runs_le (s:Int):∀ (xs:List St) (d l l':Int),St.runs s d l xs=some l'→l'≤l∧(0≤l→0≤l')
 | [],d,l,l',h=>by rw[St.runs]at h;cases h;exact⟨Int.le_refl _,fun h=>h⟩
 | x::r,d,l,l',h=>by
  rw[St.runs]at h;split at h
  ·cases h
  ·rename_i l1 h1
   have a:=St.run_le s x d l l1 h1;have b:=St.runs_le s r d l1 l' h;exact⟨by omega,fun _=>b.2 a.1⟩
end
end Go.Proofs.YtgholpilmdebmaaGreatDoor
