import Derived.Test.YtgholpilmdebmaaGreatDoorZ17
set_option maxHeartbeats 100000000
set_option maxRecDepth 100000
namespace Go.Proofs.YtgholpilmdebmaaGreatDoor
open Go.RowKit
theorem St.kids_le (x:St):Ex.szs x.kids≤x.sz∧St.szs x.body≤x.sz∧St.szs x.els≤x.sz:=by
 obtain⟨k,n,tk,tn,nm,ks,bo,el⟩:=x;show Ex.szs ks≤nm.length+Ex.szs ks+St.szs bo+St.szs el∧St.szs bo≤nm.length+Ex.szs ks+St.szs bo+St.szs el∧St.szs el≤nm.length+Ex.szs ks+St.szs bo+St.szs el;omega
theorem headB_1 {ks:List Ex}(h:0<ks.length):headB 1 ks=leftB ks[0].kind:=by
 match ks,h with
 | e::r,_=>rfl
theorem headB_7 {ks:List Ex}(h:0<ks.length):headB 7 ks=(ks[0].kind==6):=by
 match ks,h with
 | e::r,_=>rfl
theorem headB_o {k:Int}(ks:List Ex) (h1:k≠1) (h7:k≠7):headB k ks=true:=by unfold headB;rw[if_neg h1,if_neg h7]
def St.tail (s d:Int) (x:St) (R1:Option Int):Option Int:=match R1 with|none=>none|some l1=>match St.runs s (d+1) l1 x.body with|none=>none|some l2=>St.runs s (d+1) l2 x.els
theorem St.run_eq' (s d l:Int) (x:St):St.run s d l x=if l - 1<0∨30<d∨hereS s x.kind x.n x.tk x.tn x.name x.kids x.body.length x.els.length=false then none else St.tail s d x (Ex.runs s (d+1) (l - 1) x.kids):=by
 rw[St.run_eq];rfl
structure Tail (s d l:Int) (x:St) (R1 R:Option Int):Prop where
 r0:R1=none→R=none
 b1:∀ l1,R1=some l1→0≤l1∧l1≤400
 r1:∀ l1,R1=some l1→(St.runs s (d+1) l1 x.body=none→R=none)∧∀ l2,St.runs s (d+1) l1 x.body=some l2→0≤l2∧l2≤400∧R=St.runs s (d+1) l2 x.els
theorem Tail.of {s d l:Int}{x:St}(h0:0≤l) (h1:l≤400):Tail s d l x (Ex.runs s (d+1) l x.kids) (St.tail s d x (Ex.runs s (d+1) l x.kids)):=by
 unfold St.tail;refine⟨fun h=>by rw[h],fun l1 h=>?_,fun l1 h=>⟨fun h2=>by rw[h];dsimp only;rw[h2],fun l2 h2=>?_⟩⟩
 ·have:=Ex.runs_le s x.kids _ _ _ h;have:=this.2 h0;omega
 ·have a:=Ex.runs_le s x.kids _ _ _ h;have b:=St.runs_le s x.body _ _ _ h2;have a2:=a.2 h0;have b2:=b.2 a2;refine⟨b2,by omega,?_⟩;rw[h];dsimp only;rw[h2]
end Go.Proofs.YtgholpilmdebmaaGreatDoor
