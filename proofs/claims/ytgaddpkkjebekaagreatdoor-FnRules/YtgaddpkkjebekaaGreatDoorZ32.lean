import Derived.Test.YtgaddpkkjebekaaGreatDoorZ24
import Derived.Test.YtgaddpkkjebekaaGreatDoorZ31
set_option maxHeartbeats 100000000
set_option maxRecDepth 100000
namespace Go.Proofs.YtgaddpkkjebekaaGreatDoor
open Go.RowKit Go.Lib
def So.run (x:So):Option Int:=if eu x.structs&&decide (x.funcs.length<=8) then Fu.runs (x.structs.length:Int) 400 x.funcs else none
def So.parts (x:So):Int:=match So.run x with|some l=>400 - l|none=>0
theorem Fu.dw (s:Int):∀ (xs:List Fu) (l l':Int),Fu.runs s l xs=some l'->l'<=l/\(0<=l->0<=l')
 | [],l,l',h=>by rw[Fu.runs]at h;cases h;exact⟨Int.le_refl _,fun h=>h⟩
 | x::r,l,l',h=>by
  rw[Fu.runs]at h;split at h
  ·cases h
  ·rename_i l1 h1
   have a:=Fu.kR h1;have b:=Fu.dw s r l1 l' h;exact⟨by omega,fun h0=>b.2 (a.2 h0)⟩
theorem TC (n:Int) (w:World):(Instr.build 96 #[(0,.int .i64 n)]).run Tryz.prog w=.ok (.agg #[.int .i64 n,.int .i64 0]) w:=run_build w 96 _ _ (by kernel_rfl)
def yY (x:So) (w:World) (e:Ending) (w':World):Prop:=e=.returned (.tuple #[.int .i64 x.parts,.bool x.run.isSome])/\Later w w'
theorem yY.no {x:So}{w w':World}{e:Ending}(h:x.run=none) (he:e=.returned (.tuple #[.int .i64 0,.bool false])) (hl:Later w w'):yY x w e w':=by
 unfold yY So.parts;rw[h];exact⟨he,hl⟩
theorem yY.yes {x:So}{w w':World}{e:Ending}{l q:Int}(h:x.run=some l) (hq:q=400 - l) (he:e=.returned (.tuple #[.int .i64 q,.bool true])) (hl:Later w w'):yY x w e w':=by
 subst hq;unfold yY So.parts;rw[h];exact⟨he,hl⟩
theorem I7 (x:So) (v0 v1:Value) (w:World) (hg:Fu.aZ x.funcs) (h0:RdL w 2 v0 (Sc.ah x.structs)) (h1:RdL w 5 v1 (Fu.ah x.funcs)) :
  Calls Tryz.prog 48 #[.agg #[v0,v1]] w fun e w'=>yY x w e w':=by
 have hSt:=fun w' (l:Later w w')=>wX v0 x.structs w' (RdL.later l h0);have HR:Hid (So.run x=if eu x.structs&&decide (x.funcs.length<=8) then Fu.runs (x.structs.length:Int) 400 x.funcs else none):=rfl;obtain⟨a0,p0,rfl,hl0⟩:=Sc.slice h0;obtain⟨a1,p1,rfl,hl1⟩:=Fu.slice h1;have hb:=TC;clear h0
 generalize eu x.structs=sb at *
 cases sb
 ·have hr:So.run x=none:=HR.out;go_enter Tryz.func48,Tryz.ntmps48;go_wp2_with (go_at_call 51;refine (hSt _ (ae _ _)).mono ?_;rintro e w1 ⟨rfl,l1⟩)
  go_ret2;exact yY.no hr rfl ((ae _ _).trans l1)
 ·by_cases h8:x.funcs.length<=8
  ·have h8':¬ 8<(x.funcs.length:Int):=by omega
   have hr:So.run x=Fu.runs (x.structs.length:Int) 400 x.funcs:=by rw[HR.out,decide_eq_true h8];rfl
   have HR':Hid (So.run x=Fu.runs (x.structs.length:Int) 400 x.funcs):=hr;clear hr HR
   generalize (x.structs.length:Nat)=n at *
   go_enter Tryz.func48,Tryz.ntmps48;go_wp2_with (go_at_call 51;refine (hSt _ (ae _ _)).mono ?_;rintro e w1 ⟨rfl,l1⟩;obtain⟨hc1,_⟩:=dG l1;have hz1:w.heap.size<w1.heap.size:=(by have:=l1.size;simp at this;omega))
   have L1:Later w w1:=(ae _ _).trans l1
   have hS0:Sv w1.heap.size (w1.alloc (.cells #[.int .i64 (n:Int),.int .i64 0] 96)) (n:Int) 0:=⟨by simp,by simp,by simp,by simp⟩
   have hK:w.heap.size<=w1.heap.size:=L1.size;go_loopw [24] (fun i wr=>∃ (j:Nat) (q:Int),i=.int .i64 (j:Int)/\j<=x.funcs.length/\af w1.heap.size (w1.alloc (.cells #[.int .i64 (n:Int),.int .i64 0] 96)) wr/\Sv w1.heap.size wr (n:Int) q/\0<=q/\q<=400/\Hid (Fu.dL (n:Int) 400 x.funcs j (400 - q))) (fun i _=>x.funcs.length - (intOf i).toNat)
   case atStart=>exact⟨0,0,rfl,Nat.zero_le _,af.refl _ _,hS0,by decide,by decide,Fu.jM _ _ _⟩
   case round =>
    obtain⟨j,q,rfl,hj,oR,hSr,hq0,hq1,HS⟩:=hrel;have hLr:Later w wr:=aB (L1.alloc _) oR hK;by_cases hlt:j<x.funcs.length
    ·obtain⟨g,off,v0,v1,v2,rfl,hgs,c0,c1,c2,c3,c4,r0,r1,r2⟩:=Fu.elem h1 j hlt;have i1:(j:Int)<(x.funcs.length:Int):=by omega
     have c0:wr.cell? ⟨g,off+j*5,none⟩=some v0:=by rw[Below.cell hLr (p:=⟨g,off+j*5,none⟩) hgs];exact c0
     have c1:wr.cell? ⟨g,off+j*5+1,none⟩=some v1:=by rw[Below.cell hLr (p:=⟨g,off+j*5+1,none⟩) hgs];exact c1
     have c2:wr.cell? ⟨g,off+j*5+2,none⟩=some (.int .i64 x.funcs[j].rk):=by rw[Below.cell hLr (p:=⟨g,off+j*5+2,none⟩) hgs];exact c2
     have c3:wr.cell? ⟨g,off+j*5+3,none⟩=some (.int .i64 x.funcs[j].rn):=by rw[Below.cell hLr (p:=⟨g,off+j*5+3,none⟩) hgs];exact c3
     have c4:wr.cell? ⟨g,off+j*5+4,none⟩=some v2:=by rw[Below.cell hLr (p:=⟨g,off+j*5+4,none⟩) hgs];exact c4
     obtain⟨y0,t0,rfl,_⟩:=r0.slice;obtain⟨y1,t1,rfl,_⟩:=Pa.slice r1;obtain⟨y2,t2,rfl,_⟩:=St.slice r2;have hE:=fun w' (lw:Later wr w')=>MZ x.funcs[j] _ _ _ w1.heap.size (n:Int) q w w' (hg j hlt) r0 r1 r2 (hLr.trans lw) hK (hSr.later lw) hq0 hq1
     have HN:Hid (∀ l',Fu.run (n:Int) (400 - q) x.funcs[j]=some l'->Fu.dL (n:Int) 400 x.funcs (j+1) l'/\l'<=400 - q/\0<=l'):=fun l' hr=>⟨Fu.kN HS.out hlt hr,(Fu.kR hr).1,(Fu.kR hr).2 (by omega)⟩
     have HB:Hid (Fu.run (n:Int) (400 - q) x.funcs[j]=none->So.run x=none):=fun hr=>HR'.out.trans (Fu.mZ HS.out hlt hr);clear r0 r1 r2 h1 HS
     generalize Fu.run (n:Int) (400 - q) x.funcs[j]=R at *
     generalize x.funcs[j].rk=z_rk at *
     generalize x.funcs[j].rn=z_rn at *
     go_wp2_with fail
     refine (hE _ (ae _ _)).mono ?_;rintro e w2 ⟨o2,hm⟩;have o:=oR.trans ((af.of_later (ae _ _)).trans o2)
     cases R with
     | none =>
      obtain⟨rfl,p',hS2⟩:=hm;have hb:=HB.out rfl;have HB':Hid _:=hb;clear hb;go_wp2_with fail
      go_ret2;exact yY.no HB'.out rfl (aB (L1.alloc _) o hK)
     | some l' =>
      obtain⟨rfl,hS2⟩:=hm;obtain⟨n1,n2,n3⟩:=HN.out l' rfl;have HN1:Hid (Fu.dL (n:Int) 400 x.funcs (j+1) (400 - (400 - l'))):=by rw[show (400:Int) - (400 - l')=l' by omega];exact n1
      clear n1 HN HB hE;go_wp2_with fail
      go_roundw
      case rel=>exact⟨j+1,400 - l',by go_num,by omega,o,hS2,by omega,by omega,HN1⟩
      case measure=>simp[intOf];omega
    ·have i1:¬ (j:Int)<(x.funcs.length:Int):=by omega
     have i2:decide ((j:Int)<(x.funcs.length:Int))=false:=decide_eq_false i1;have hjj:j=x.funcs.length:=by omega
     subst hjj;have HD:Hid (So.run x=some (400 - q)):=HR'.out.trans (Fu.kP HS.out);have cK:=hSr.c1;clear h1 HS HR' hSt;go_wp2_with fail
     go_ret2;exact yY.yes HD.out (by omega) rfl hLr
  ·have h8':8<(x.funcs.length:Int):=by omega
   have hr:So.run x=none:=by rw[HR.out,decide_eq_false h8];rfl
   go_enter Tryz.func48,Tryz.ntmps48;go_wp2_with (go_at_call 51;refine (hSt _ (ae _ _)).mono ?_;rintro e w1 ⟨rfl,l1⟩;obtain⟨hc1,_⟩:=dG l1;have hz1:w.heap.size<w1.heap.size:=(by have:=l1.size;simp at this;omega))
   go_ret2;exact yY.no hr rfl ((ae _ _).trans l1)
theorem EF {zs:List Int}{great:Bool}(h:aY zs great=true):1<=zs.length/\zs.length<=8/\aV zs=true:=by
 unfold aY at h;rw[Bool.and_eq_true,Bool.and_eq_true,Bool.and_eq_true,decide_eq_true_eq,decide_eq_true_eq]at h;obtain⟨⟨⟨h1,h8⟩,hf⟩,ht⟩:=h;refine⟨h1,h8,?_⟩
 have hall:∀ z∈zs,z≠10:=by
  cases zs with
  | nil=>simp at h1
  | cons a r =>
   intro z hz;rcases List.mem_cons.1 hz with rfl|hz
   ·cases great
    ·simp[low]at hf;omega
    ·simp[up]at hf;omega
   ·rw[List.all_eq_true]at ht;have:=ht z hz;simp[low,dig]at this;omega
 unfold aV
 cases hl:zs.getLast? with
 | none=>rw[List.getLast?_eq_none_iff]at hl;rw[hl]at h1;simp at h1
 | some z=>simpa using hall z (List.mem_of_getLast? hl)
theorem nH {zs:List Int}(h:aQ zs=true):1<=zs.length/\zs.length<=8/\aV zs=true:=by
 unfold aQ at h;rw[Bool.and_eq_true]at h;exact EF h.1
def gz (l:List Sc):Prop:=∀ x∈l,1<=x.name.length/\x.name.length<=8/\aV x.name=true
theorem gz.tok {l:List Sc}(h:gz l):dm l:=fun x hx=>⟨⟨(h x hx).1,by have:=(h x hx).2.1;omega⟩,(h x hx).2.2⟩
theorem gz.len {l:List Sc}(h:gz l) (n:Int):(iC l n).length<=8:=by
 unfold iC
 cases e:l[n.toNat]? with
 | none=>simp
 | some x=>exact (h x (List.mem_of_getElem? e)).2.1
theorem vU {l:List Sc}{k n s:Int}{no:Bool}(hs:s<=l.length) (h:tyB k n s no=true):jv l k n:=by
 unfold tyB at h;refine⟨?_,?_,?_⟩
 ·split at h
  ·omega
  split at h
  ·omega
  split at h
  ·omega
  cases h
 ·split at h
  ·omega
  split at h
  ·omega
  split at h
  ·omega
  cases h
 ·intro hk;rw[if_neg (by omega),if_neg (by omega),if_pos hk,Bool.and_eq_true,decide_eq_true_eq,decide_eq_true_eq]at h;omega
theorem sJ {l:List Sc}(hn:gz l) (k n:Int):(aN l k n).length<=15:=by
 have:=hn.len n;unfold aN
 repeat' split
 all_goals simp
 all_goals omega
theorem PV {l:List Sc}{k n tk tn:Int}{nm:List Int}{m:Nat}(hg:InR n) (h:lF (l.length:Int) k n tk tn nm m=true):Jv l k n tk tn nm m/\QE l k n tk tn nm m/\nm.length<=8/\m<=4:=by
 unfold lF at h
 have hk:0<=k/\k<=13:=by
  rcases Int.lt_or_le k 0 with q|q
  ·have:fF k=none:=by unfold fF;repeat (rw[if_neg (by omega)])
   rw[this]at h;cases h
  ·rcases Int.lt_or_le 13 k with q2|q2
   ·have:fF k=none:=by unfold fF;repeat (rw[if_neg (by omega)])
    rw[this]at h;cases h
   ·exact⟨q,q2⟩
 have h8:nm.length=0\/(1<=nm.length/\nm.length<=8/\aV nm=true)->nm.length<=8:=fun q=>by rcases q with q|q <;> omega
 obtain rfl|rfl|rfl|rfl|rfl|rfl|rfl|rfl|rfl|rfl|rfl|rfl|rfl|rfl:=fourteen hk.1 hk.2
 ·have hf:fF 0=some (0,0,1,0,false,false,false):=rfl;rw[hf]at h;simp only[dE,Bool.and_eq_true,decide_eq_true_eq]at h;obtain⟨⟨⟨⟨q1,q2⟩,q3⟩,q4⟩,q5⟩:=h;have q3':nm.length=0:=by simpa using q3
  exact⟨⟨by decide,by decide,hg,by omega,by omega,fun q=>absurd q (by decide),fun q=>absurd q (by decide),fun q=>absurd q (by decide),fun q=>absurd q (by decide),fun q=>absurd q (by decide),fun q=>absurd q (by decide)⟩,⟨fun q=>absurd q (by decide),fun q=>absurd q (by decide),fun q=>absurd q (by decide)⟩,by omega,by omega⟩
 ·have hf:fF 1=some (0,0,2,0,false,false,false):=rfl;rw[hf]at h;simp only[dE,Bool.and_eq_true,decide_eq_true_eq]at h;obtain⟨⟨⟨⟨q1,q2⟩,q3⟩,q4⟩,q5⟩:=h;have q3':nm.length=0:=by simpa using q3
  exact⟨⟨by decide,by decide,hg,by omega,by omega,fun q=>absurd q (by decide),fun q=>absurd q (by decide),fun q=>absurd q (by decide),fun q=>absurd q (by decide),fun q=>absurd q (by decide),fun q=>absurd q (by decide)⟩,⟨fun q=>absurd q (by decide),fun q=>absurd q (by decide),fun q=>absurd q (by decide)⟩,by omega,by omega⟩
 ·have hf:fF 2=some (0,0,3,0,false,false,false):=rfl;rw[hf]at h;simp only[dE,Bool.and_eq_true,decide_eq_true_eq]at h;obtain⟨⟨⟨⟨q1,q2⟩,q3⟩,q4⟩,q5⟩:=h;have q3':nm.length=0:=by simpa using q3
  have q4':0<=n/\n<(l.length:Int):=by simpa[D7] using q4
  exact⟨⟨by decide,by decide,hg,by omega,by omega,fun _=>q4',fun q=>absurd q (by decide),fun q=>absurd q (by decide),fun q=>absurd q (by decide),fun q=>absurd q (by decide),fun q=>absurd q (by decide)⟩,⟨fun q=>absurd q (by decide),fun q=>absurd q (by decide),fun q=>absurd q (by decide)⟩,by omega,by omega⟩
 ·have hf:fF 3=some (0,0,0,0,true,false,false):=rfl;rw[hf]at h;simp only[dE,Bool.and_eq_true,decide_eq_true_eq]at h;obtain⟨⟨⟨⟨q1,q2⟩,q3⟩,q4⟩,q5⟩:=h;have q3':=nH (show aQ nm=true from q3);exact⟨⟨by decide,by decide,hg,by omega,by omega,fun q=>absurd q (by decide),fun q=>absurd q (by decide),fun _=>q3'.1,fun q=>absurd q (by decide),fun q=>absurd q (by decide),fun q=>absurd q (by decide)⟩,⟨fun _=>q3'.2.2,fun q=>absurd q (by decide),fun q=>absurd q (by decide)⟩,by omega,by omega⟩
 ·have hf:fF 4=some (0,0,3,0,false,false,false):=rfl;rw[hf]at h;simp only[dE,Bool.and_eq_true,decide_eq_true_eq]at h;obtain⟨⟨⟨⟨q1,q2⟩,q3⟩,q4⟩,q5⟩:=h;have q3':nm.length=0:=by simpa using q3
  have q4':0<=n/\n<(l.length:Int):=by simpa[D7] using q4
  exact⟨⟨by decide,by decide,hg,by omega,by omega,fun _=>q4',fun q=>absurd q (by decide),fun q=>absurd q (by decide),fun q=>absurd q (by decide),fun q=>absurd q (by decide),fun q=>absurd q (by decide)⟩,⟨fun q=>absurd q (by decide),fun q=>absurd q (by decide),fun q=>absurd q (by decide)⟩,by omega,by omega⟩
 ·have hf:fF 5=some (1,1,0,2,false,false,false):=rfl;rw[hf]at h;simp only[dE,Bool.and_eq_true,decide_eq_true_eq]at h;obtain⟨⟨⟨⟨q1,q2⟩,q3⟩,q4⟩,q5⟩:=h;have q3':nm.length=0:=by simpa using q3
  have q5':jv l tk tn:=by
   have:KO tk tn (l.length:Int)=true:=q5;unfold KO at this;rw[Bool.and_eq_true]at this;exact vU (Int.le_refl _) this.2
  exact⟨⟨by decide,by decide,hg,by omega,by omega,fun q=>absurd q (by decide),fun q=>absurd q (by decide),fun q=>absurd q (by decide),fun q=>absurd q (by decide),fun q=>absurd q (by decide),fun _=>q5'.2.2⟩,⟨fun q=>absurd q (by decide),fun q=>absurd q (by decide),fun _=>q5'⟩,by omega,by omega⟩
 ·have hf:fF 6=some (0,4,0,0,true,false,false):=rfl;rw[hf]at h;simp only[dE,Bool.and_eq_true,decide_eq_true_eq]at h;obtain⟨⟨⟨⟨q1,q2⟩,q3⟩,q4⟩,q5⟩:=h;have q3':=nH (show aQ nm=true from q3);exact⟨⟨by decide,by decide,hg,by omega,by omega,fun q=>absurd q (by decide),fun q=>absurd q (by decide),fun _=>q3'.1,fun q=>absurd q (by decide),fun q=>absurd q (by decide),fun q=>absurd q (by decide)⟩,⟨fun _=>q3'.2.2,fun q=>absurd q (by decide),fun q=>absurd q (by decide)⟩,by omega,by omega⟩
 ·have hf:fF 7=some (1,1,0,0,true,false,false):=rfl;rw[hf]at h;simp only[dE,Bool.and_eq_true,decide_eq_true_eq]at h;obtain⟨⟨⟨⟨q1,q2⟩,q3⟩,q4⟩,q5⟩:=h;have q3':=nH (show aQ nm=true from q3);exact⟨⟨by decide,by decide,hg,by omega,by omega,fun q=>absurd q (by decide),fun q=>absurd q (by decide),fun _=>q3'.1,fun _=>by omega,fun q=>absurd q (by decide),fun q=>absurd q (by decide)⟩,⟨fun _=>q3'.2.2,fun q=>absurd q (by decide),fun q=>absurd q (by decide)⟩,by omega,by omega⟩
 ·have hf:fF 8=some (2,2,0,0,false,false,false):=rfl;rw[hf]at h;simp only[dE,Bool.and_eq_true,decide_eq_true_eq]at h;obtain⟨⟨⟨⟨q1,q2⟩,q3⟩,q4⟩,q5⟩:=h;have q3':nm.length=0:=by simpa using q3
  exact⟨⟨by decide,by decide,hg,by omega,by omega,fun q=>absurd q (by decide),fun q=>absurd q (by decide),fun q=>absurd q (by decide),fun _=>by omega,fun _=>by omega,fun q=>absurd q (by decide)⟩,⟨fun q=>absurd q (by decide),fun _=>by omega,fun q=>absurd q (by decide)⟩,by omega,by omega⟩
 ·have hf:fF 9=some (1,1,0,0,false,false,false):=rfl;rw[hf]at h;simp only[dE,Bool.and_eq_true,decide_eq_true_eq]at h;obtain⟨⟨⟨⟨q1,q2⟩,q3⟩,q4⟩,q5⟩:=h;have q3':nm.length=0:=by simpa using q3
  exact⟨⟨by decide,by decide,hg,by omega,by omega,fun q=>absurd q (by decide),fun q=>absurd q (by decide),fun q=>absurd q (by decide),fun q=>absurd q (by decide),fun q=>absurd q (by decide),fun q=>absurd q (by decide)⟩,⟨fun q=>absurd q (by decide),fun q=>absurd q (by decide),fun q=>absurd q (by decide)⟩,by omega,by omega⟩
 ·have hf:fF 10=some (2,2,4,0,false,false,false):=rfl;rw[hf]at h;simp only[dE,Bool.and_eq_true,decide_eq_true_eq]at h;obtain⟨⟨⟨⟨q1,q2⟩,q3⟩,q4⟩,q5⟩:=h;have q3':nm.length=0:=by simpa using q3
  have q4':0<=n/\n<7:=by simpa[D7] using q4
  exact⟨⟨by decide,by decide,hg,by omega,by omega,fun q=>absurd q (by decide),fun _=>q4',fun q=>absurd q (by decide),fun _=>by omega,fun _=>by omega,fun q=>absurd q (by decide)⟩,⟨fun q=>absurd q (by decide),fun _=>by omega,fun q=>absurd q (by decide)⟩,by omega,by omega⟩
 ·have hf:fF 11=some (0,0,0,0,false,false,false):=rfl;rw[hf]at h;simp only[dE,Bool.and_eq_true,decide_eq_true_eq]at h;obtain⟨⟨⟨⟨q1,q2⟩,q3⟩,q4⟩,q5⟩:=h;have q3':nm.length=0:=by simpa using q3
  exact⟨⟨by decide,by decide,hg,by omega,by omega,fun q=>absurd q (by decide),fun q=>absurd q (by decide),fun q=>absurd q (by decide),fun q=>absurd q (by decide),fun q=>absurd q (by decide),fun q=>absurd q (by decide)⟩,⟨fun q=>absurd q (by decide),fun q=>absurd q (by decide),fun q=>absurd q (by decide)⟩,by omega,by omega⟩
 ·have hf:fF 12=some (1,1,0,0,false,false,false):=rfl;rw[hf]at h;simp only[dE,Bool.and_eq_true,decide_eq_true_eq]at h;obtain⟨⟨⟨⟨q1,q2⟩,q3⟩,q4⟩,q5⟩:=h;have q3':nm.length=0:=by simpa using q3
  exact⟨⟨by decide,by decide,hg,by omega,by omega,fun q=>absurd q (by decide),fun q=>absurd q (by decide),fun q=>absurd q (by decide),fun q=>absurd q (by decide),fun q=>absurd q (by decide),fun q=>absurd q (by decide)⟩,⟨fun q=>absurd q (by decide),fun q=>absurd q (by decide),fun q=>absurd q (by decide)⟩,by omega,by omega⟩
 ·have hf:fF 13=some (1,1,0,0,false,false,false):=rfl;rw[hf]at h;simp only[dE,Bool.and_eq_true,decide_eq_true_eq]at h;obtain⟨⟨⟨⟨q1,q2⟩,q3⟩,q4⟩,q5⟩:=h;have q3':nm.length=0:=by simpa using q3
  exact⟨⟨by decide,by decide,hg,by omega,by omega,fun q=>absurd q (by decide),fun q=>absurd q (by decide),fun q=>absurd q (by decide),fun q=>absurd q (by decide),fun q=>absurd q (by decide),fun q=>absurd q (by decide)⟩,⟨fun q=>absurd q (by decide),fun q=>absurd q (by decide),fun q=>absurd q (by decide)⟩,by omega,by omega⟩
def qw:List (List Int)->Nat
 | []=>0
 | t::r=>t.length+2+qw r
theorem CU (ts:List (List Int)):(joinL ts).length<=qw ts:=by
 have h:∀ r:List (List Int),(kM r).length=qw r:=by
  intro r
  induction r with
  | nil=>rfl
  | cons x r ih=>rw[kM,qw,List.length_append,List.length_append,ih];simp;omega
 cases ts with
 | nil=>simp[joinL]
 | cons x r=>rw[joinL,qw,List.length_append,h];omega
theorem FP (ts:List (List Int)):(dU ts 0).length<=qw ts:=by
 cases ts with
 | nil=>simp[dU]
 | cons x r=>rw[qw];simp[dU];omega
theorem FO (ts:List (List Int)):(dU ts 0).length+(dU ts 1).length<=qw ts:=by
 match ts with
 | []=>simp[dU]
 | [x]=>simp[dU,qw]
 | x::y::r=>simp[dU,qw];omega
theorem Tq {l:List Sc}(hn:gz l) (k n tk tn:Int) (nm:List Int) (h8:nm.length<=8) (ts:List (List Int)):(exL l k n tk tn nm ts).length<=60+qw ts:=by
 have h1:=CU ts;have h2:=FP ts;have h3:=FO ts;have h4:=sJ hn tk tn;have h5:=hn.len n;have h6:=GH n;have h7:=Ba n
 have h9:(opL n).length<=2:=by
  unfold opL
  repeat' split
  all_goals simp
 have h10:(nV l k tk tn nm).length<=25:=by
  unfold nV
  repeat' split
  all_goals simp
  all_goals omega
 unfold exL
 repeat' split
 all_goals simp only[List.length_append,List.length_cons,List.length_nil]
 all_goals omega
mutual
theorem Ex.kS {l:List Sc}(hn:gz l):∀ (x:Ex) (d l0 l1:Int),x.good->Ex.run (l.length:Int) d l0 x=some l1->Ex.jh l x/\((Ex.say l x).length:Int)+2<=100*(l0 - l1)
 | .mk k n tk tn nm ks,d,l0,l1,hg,h=>by
  rw[Ex.run]at h;rw[Ex.good]at hg;split at h
  ·cases h
  ·rename_i hc
   have hh:lF (l.length:Int) k n tk tn nm ks.length=true:=by
    cases q:lF (l.length:Int) k n tk tn nm ks.length
    ·exact absurd (.inr (.inr q)) hc
    ·rfl
   obtain⟨a1,a2,a3,a4⟩:=PV hg.1 hh;obtain⟨b1,b2⟩:=Ex.fB hn ks _ _ _ hg.2 h;refine⟨.mk a1 a2 b1,?_⟩;rw[Ex.say];have:=Tq hn k n tk tn nm a3 (Ex.says l ks);omega
theorem Ex.fB {l:List Sc}(hn:gz l):∀ (xs:List Ex) (d l0 l1:Int),Ex.aZ xs->Ex.runs (l.length:Int) d l0 xs=some l1->(∀ x∈xs,Ex.jh l x)/\(qw (Ex.says l xs):Int)<=100*(l0 - l1)
 | [],d,l0,l1,hg,h=>by rw[Ex.runs]at h;cases h;exact⟨fun x hx=>(List.not_mem_nil hx).elim,by rw[Ex.says,qw];omega⟩
 | x::r,d,l0,l1,hg,h=>by
  rw[Ex.runs]at h;rw[Ex.aZ]at hg;split at h
  ·cases h
  ·rename_i l2 h2
   obtain⟨a1,a2⟩:=Ex.kS hn x d l0 l2 hg.1 h2;obtain⟨b1,b2⟩:=Ex.fB hn r d l2 l1 hg.2 h;refine⟨fun y hy=>?_,?_⟩
   ·rcases List.mem_cons.1 hy with rfl|hy
    ·exact a1
    ·exact b1 y hy
   ·rw[Ex.says,qw];omega
end
theorem PU {l:List Sc}{k n tk tn:Int}{nm:List Int}{ks:List Ex}{b e:Nat}(h:lD (l.length:Int) k n tk tn nm ks b e=true):KD l k tk tn nm ks.length/\nm.length<=8:=by
 unfold lD at h
 have hk:0<=k/\k<=7:=by
  rcases Int.lt_or_le k 0 with q|q
  ·have:iD k=none:=by unfold iD;repeat (rw[if_neg (by omega)])
   rw[this]at h;cases h
  ·rcases Int.lt_or_le 7 k with q2|q2
   ·have:iD k=none:=by unfold iD;repeat (rw[if_neg (by omega)])
    rw[this]at h;cases h
   ·exact⟨q,q2⟩
 obtain rfl|rfl|rfl|rfl|rfl|rfl|rfl|rfl:=eight hk.1 hk.2
 ·have hf:iD 0=some (0,0,0,1,true,false,false):=rfl;rw[hf]at h;simp only[dE,Bool.and_eq_true,decide_eq_true_eq]at h;obtain⟨⟨⟨⟨⟨⟨⟨q1,q2⟩,q3⟩,q4⟩,q5⟩,_⟩,_⟩,_⟩:=h;have q3':=nH (show aQ nm=true from q3);have q5':jv l tk tn:=vU (Int.le_refl _) (show tyB tk tn (l.length:Int) false=true from q5);exact⟨⟨⟨by decide,by decide,fun _=>q3'.1,fun _=>q5'.2.2,fun q=>absurd q (by decide),fun q=>absurd q (by decide)⟩,fun _=>q3'.2.2,fun _=>q5',fun q=>absurd q (by decide),fun q=>absurd q (by decide),fun q=>absurd q (by decide)⟩,by omega⟩
 ·have hf:iD 1=some (2,2,0,0,false,false,false):=rfl;rw[hf]at h;simp only[dE,Bool.and_eq_true,decide_eq_true_eq]at h;obtain⟨⟨⟨⟨⟨⟨⟨q1,q2⟩,q3⟩,q4⟩,q5⟩,_⟩,_⟩,_⟩:=h;have q3':nm.length=0:=by simpa using q3
  exact⟨⟨⟨by decide,by decide,fun q=>absurd q (by decide),fun q=>absurd q (by decide),fun _=>by omega,fun q=>absurd q (by decide)⟩,fun q=>absurd q (by decide),fun q=>absurd q (by decide),fun _=>by omega,fun q=>absurd q (by decide),fun q=>absurd q (by decide)⟩,by omega⟩
 ·have hf:iD 2=some (1,1,0,0,false,true,true):=rfl;rw[hf]at h;simp only[dE,Bool.and_eq_true,decide_eq_true_eq]at h;obtain⟨⟨⟨⟨⟨⟨⟨q1,q2⟩,q3⟩,q4⟩,q5⟩,_⟩,_⟩,_⟩:=h;have q3':nm.length=0:=by simpa using q3
  exact⟨⟨⟨by decide,by decide,fun q=>absurd q (by decide),fun q=>absurd q (by decide),fun q=>absurd q (by decide),fun _=>by omega⟩,fun q=>absurd q (by decide),fun q=>absurd q (by decide),fun q=>absurd q (by decide),fun q=>absurd q (by decide),fun q=>absurd q (by decide)⟩,by omega⟩
 ·have hf:iD 3=some (1,1,0,0,false,true,false):=rfl;rw[hf]at h;simp only[dE,Bool.and_eq_true,decide_eq_true_eq]at h;obtain⟨⟨⟨⟨⟨⟨⟨q1,q2⟩,q3⟩,q4⟩,q5⟩,_⟩,_⟩,_⟩:=h;have q3':nm.length=0:=by simpa using q3
  exact⟨⟨⟨by decide,by decide,fun q=>absurd q (by decide),fun q=>absurd q (by decide),fun q=>absurd q (by decide),fun _=>by omega⟩,fun q=>absurd q (by decide),fun q=>absurd q (by decide),fun q=>absurd q (by decide),fun q=>absurd q (by decide),fun q=>absurd q (by decide)⟩,by omega⟩
 ·have hf:iD 4=some (0,1,0,0,false,false,false):=rfl;rw[hf]at h;simp only[dE,Bool.and_eq_true,decide_eq_true_eq]at h;obtain⟨⟨⟨⟨⟨⟨⟨q1,q2⟩,q3⟩,q4⟩,q5⟩,_⟩,_⟩,_⟩:=h;have q3':nm.length=0:=by simpa using q3
  exact⟨⟨⟨by decide,by decide,fun q=>absurd q (by decide),fun q=>absurd q (by decide),fun q=>absurd q (by decide),fun q=>absurd q (by decide)⟩,fun q=>absurd q (by decide),fun q=>absurd q (by decide),fun q=>absurd q (by decide),fun _=>by omega,fun q=>absurd q (by decide)⟩,by omega⟩
 ·have hf:iD 5=some (1,1,0,0,false,false,false):=rfl;rw[hf]at h;simp only[dE,Bool.and_eq_true,decide_eq_true_eq]at h;obtain⟨⟨⟨⟨⟨⟨⟨q1,q2⟩,q3⟩,q4⟩,q5⟩,_⟩,_⟩,_⟩:=h;have q3':nm.length=0:=by simpa using q3
  exact⟨⟨⟨by decide,by decide,fun q=>absurd q (by decide),fun q=>absurd q (by decide),fun q=>absurd q (by decide),fun _=>by omega⟩,fun q=>absurd q (by decide),fun q=>absurd q (by decide),fun q=>absurd q (by decide),fun q=>absurd q (by decide),fun _=>by omega⟩,by omega⟩
 ·have hf:iD 6=some (1,1,0,0,false,false,false):=rfl;rw[hf]at h;simp only[dE,Bool.and_eq_true,decide_eq_true_eq]at h;obtain⟨⟨⟨⟨⟨⟨⟨q1,q2⟩,q3⟩,q4⟩,q5⟩,_⟩,_⟩,_⟩:=h;have q3':nm.length=0:=by simpa using q3
  exact⟨⟨⟨by decide,by decide,fun q=>absurd q (by decide),fun q=>absurd q (by decide),fun q=>absurd q (by decide),fun _=>by omega⟩,fun q=>absurd q (by decide),fun q=>absurd q (by decide),fun q=>absurd q (by decide),fun q=>absurd q (by decide),fun _=>by omega⟩,by omega⟩
 ·have hf:iD 7=some (1,1,0,0,false,false,false):=rfl;rw[hf]at h;simp only[dE,Bool.and_eq_true,decide_eq_true_eq]at h;obtain⟨⟨⟨⟨⟨⟨⟨q1,q2⟩,q3⟩,q4⟩,q5⟩,_⟩,_⟩,_⟩:=h;have q3':nm.length=0:=by simpa using q3
  exact⟨⟨⟨by decide,by decide,fun q=>absurd q (by decide),fun q=>absurd q (by decide),fun q=>absurd q (by decide),fun _=>by omega⟩,fun q=>absurd q (by decide),fun q=>absurd q (by decide),fun q=>absurd q (by decide),fun q=>absurd q (by decide),fun _=>by omega⟩,by omega⟩
theorem Rk {l:List Sc}(hn:gz l) (k tk tn:Int) (nm:List Int) (h8:nm.length<=8) (ts:List (List Int)) (b e:List Int):(stL l k tk tn nm ts b e).length<=60+qw ts+b.length+e.length:=by
 have h2:=FP ts;have h3:=FO ts;have h4:=sJ hn tk tn;have hb:∀ t,(bu t).length=t.length+4:=fun t=>by unfold bu;simp
 have b1:=hb b;have e1:=hb e;unfold stL
 repeat' split
 all_goals simp only[List.length_append,List.length_cons,List.length_nil,List.length_drop]
 all_goals omega
mutual
theorem St.kS {l:List Sc}(hn:gz l):∀ (x:St) (d l0 l1:Int),x.good->l0<=400->St.run (l.length:Int) d l0 x=some l1->St.jh l x/\((St.say l x).length:Int)<=100*(l0 - l1)
 | .mk k n tk tn nm ks bo el,d,l0,l1,hg,h400,h=>by
  have hle:=St.kR _ _ _ _ _ h;rw[St.run]at h;rw[St.good]at hg;split at h
  ·cases h
  ·rename_i hc
   split at h
   ·cases h
   ·rename_i m1 h1
    split at h
    ·cases h
    ·rename_i m2 h2
     have hh:lD (l.length:Int) k n tk tn nm ks bo.length el.length=true:=by
      cases q:lD (l.length:Int) k n tk tn nm ks bo.length el.length
      ·exact absurd (.inr (.inr q)) hc
      ·rfl
     obtain⟨a1,a2⟩:=PU hh;have c1:=Ex.dw _ _ _ _ _ h1;have c2:=St.dw _ _ _ _ _ h2;have c3:=St.dw _ _ _ _ _ h;have d1:=c1.2 (by omega);have d2:=c2.2 d1;have d3:=c3.2 d2;obtain⟨b1,b2⟩:=Ex.fB hn ks _ _ _ hg.2.1 h1;obtain⟨b3,b4,b5⟩:=St.fB hn bo _ _ _ hg.2.2.1 (by omega) h2;obtain⟨b6,b7,b8⟩:=St.fB hn el _ _ _ hg.2.2.2 (by omega) h;refine⟨.mk a1 ⟨by omega,by omega⟩ b1 b3 b6,?_⟩;rw[St.say];have:=Rk hn k tk tn nm a2 (Ex.says l ks) (St.says l bo) (St.says l el);omega
theorem St.fB {l:List Sc}(hn:gz l):∀ (xs:List St) (d l0 l1:Int),St.aZ xs->l0<=400->St.runs (l.length:Int) d l0 xs=some l1->(∀ x∈xs,St.jh l x)/\((St.says l xs).length:Int)<=100*(l0 - l1)/\(xs.length:Int)<=l0 - l1
 | [],d,l0,l1,hg,_,h=>by rw[St.runs]at h;cases h;exact⟨fun x hx=>(List.not_mem_nil hx).elim,by rw[St.says];simp,by simp⟩
 | x::r,d,l0,l1,hg,h400,h=>by
  rw[St.runs]at h;rw[St.aZ]at hg;split at h
  ·cases h
  ·rename_i l2 h2
   have hle:=St.kR _ _ _ _ _ h2;obtain⟨a1,a2⟩:=St.kS hn x d l0 l2 hg.1 h400 h2;obtain⟨b1,b2,b3⟩:=St.fB hn r d l2 l1 hg.2 (by omega) h;refine⟨fun y hy=>?_,?_,?_⟩
   ·rcases List.mem_cons.1 hy with rfl|hy
    ·exact a1
    ·exact b1 y hy
   ·rw[St.says,List.length_append];omega
   ·rw[List.length_cons];omega
end
theorem yB {l:List Sc}{most s:Int}{xs:List Pa}(hs:s<=l.length) (h:gV most s xs=true):(xs.length:Int)<=most/\∀ p∈xs,kG l p/\p.name.length<=8:=by
 unfold gV at h;rw[Bool.and_eq_true,decide_eq_true_eq,List.all_eq_true]at h;refine⟨h.1,fun p hp=>?_⟩;have:=h.2 p hp;unfold yS at this;rw[Bool.and_eq_true]at this;have hn:=nH this.1;exact⟨⟨hn.1,hn.2.2,vU hs this.2⟩,hn.2.1⟩
theorem JG {l:List Sc}(hn:gz l) (p:Pa) (h:p.name.length<=8):(paL l p).length<=23:=by
 have:=sJ hn p.tk p.tn;unfold paL;rw[List.length_append];omega
structure KE (x:So):Prop where
 names:dm x.structs
 fs:∀ s∈x.structs,∀ p∈s.fields,kG x.structs p
 few:∀ s∈x.structs,s.fields.length<=1000
 fu:∀ f∈x.funcs,xE x.structs f
 few1:x.structs.length<=1000
 Ve:x.funcs.length<=1000
 len:x.text.length<=900000
theorem yL {l:List Sc}(hn:gz l):∀ (xs:List Pa),(∀ p∈xs,p.name.length<=8)->(bi l xs).length<=26*xs.length
 | [],_=>by simp[bi]
 | p::r,h=>by
  have a:=JG hn p (h p (List.mem_cons_self ..));have b:=yL hn r (fun q hq=>h q (List.mem_cons_of_mem _ hq));rw[bi];simp only[List.length_append,List.length_cons,List.length_nil];omega
theorem EO {l:List Sc}(hn:gz l):∀ (xs:List Sc),(∀ x∈xs,x.name.length<=8/\x.fields.length<=5/\∀ p∈x.fields,p.name.length<=8)->(ji l xs).length<=200*xs.length
 | [],_=>by simp[ji]
 | x::r,h=>by
  obtain⟨h1,h2,h3⟩:=h x (List.mem_cons_self ..);have a:=yL hn x.fields h3;have b:=EO hn r (fun q hq=>h q (List.mem_cons_of_mem _ hq));rw[ji];unfold scL;simp only[List.length_append,List.length_cons,List.length_nil];omega
theorem zY {l:List Sc}(hn:gz l):∀ (xs:List Pa),(∀ p∈xs,p.name.length<=8)->qw (xs.map fun p=>32::paL l p)<=26*xs.length
 | [],_=>by simp[qw]
 | p::r,h=>by
  have a:=JG hn p (h p (List.mem_cons_self ..));have b:=zY hn r (fun q hq=>h q (List.mem_cons_of_mem _ hq));rw[List.map_cons,qw];simp only[List.length_cons];omega
theorem Fu.kS {l:List Sc}(hn:gz l) (x:Fu) (l0 l1:Int) (hg:x.good) (h0:0<=l0) (h400:l0<=400) (h:Fu.run (l.length:Int) l0 x=some l1):xE l x/\((fuL l x).length:Int)<=200+100*(l0 - l1):=by
 unfold Fu.run Dq at h;split at h
 ·rename_i hc
  rw[Bool.and_eq_true,Bool.and_eq_true]at hc;obtain⟨⟨c1,c2⟩,c3⟩:=hc;have n1:=nH c1;obtain⟨p1,p2⟩:=yB (Int.le_refl _) c2;have t1:=vU (Int.le_refl _) c3;obtain⟨b1,b2,b3⟩:=St.fB hn x.body _ _ _ hg h400 h;have hle:=(St.dw _ _ _ _ _ h).2 h0;refine⟨⟨n1.1,n1.2.2,fun p hp=>(p2 p hp).1,by omega,t1,by omega,b1⟩,?_⟩;have a1:=CU (x.params.map fun p=>32::paL l p);have a2:=zY hn x.params (fun p hp=>(p2 p hp).2);have a3:=sJ hn x.rk x.rn;unfold fuL bu;simp only[List.length_append,List.length_cons,List.length_nil];omega
 ·cases h
theorem Fu.fB {l:List Sc}(hn:gz l):∀ (xs:List Fu) (l0 l1:Int),(∀ x∈xs,x.good)->0<=l0->l0<=400->Fu.runs (l.length:Int) l0 xs=some l1->(∀ x∈xs,xE l x)/\((jI l xs).length:Int)<=200*xs.length+100*(l0 - l1)
 | [],l0,l1,hg,_,_,h=>by rw[Fu.runs]at h;cases h;exact⟨fun x hx=>(List.not_mem_nil hx).elim,by simp[jI]⟩
 | x::r,l0,l1,hg,h0,h400,h=>by
  rw[Fu.runs]at h;split at h
  ·cases h
  ·rename_i l2 h2
   obtain⟨a1,a2⟩:=Fu.kS hn x l0 l2 (hg x (List.mem_cons_self ..)) h0 h400 h2
   have hle:l2<=l0/\(0<=l0->0<=l2):=by
    have:=Fu.dw (l.length:Int) [x] l0 l2 (by rw[Fu.runs,h2];rfl);exact this
   obtain⟨b1,b2⟩:=Fu.fB hn r l2 l1 (fun y hy=>hg y (List.mem_cons_of_mem _ hy)) (hle.2 h0) (by omega) h;refine⟨fun y hy=>?_,?_⟩
   ·rcases List.mem_cons.1 hy with rfl|hy
    ·exact a1
    ·exact b1 y hy
   ·rw[jI,List.length_append,List.length_cons];omega
theorem So.kS {x:So}{q:Int}(hg:Fu.aZ x.funcs) (h:So.run x=some q):KE x:=by
 unfold So.run at h;split at h
 ·rename_i hc
  rw[Bool.and_eq_true,decide_eq_true_eq,jL]at hc;obtain⟨⟨h6,hone⟩,h8⟩:=hc
  have hone':∀ s∈x.structs,(1<=s.name.length/\s.name.length<=8/\aV s.name=true)/\s.fields.length<=5/\∀ p∈s.fields,kG x.structs p/\p.name.length<=8:=fun s hs=>by
   obtain⟨i,hi,rfl⟩:=List.mem_iff_getElem.1 hs;have:=hone i hi;unfold yU at this;rw[Bool.and_eq_true,Bool.and_eq_true]at this;obtain⟨p1,p2⟩:=yB (l:=x.structs) (by omega) this.2;exact⟨EF this.1.1,by omega,p2⟩
  have hn:gz x.structs:=fun s hs=>(hone' s hs).1
  have hgm:∀ f∈x.funcs,f.good:=fun f hf=>by
   obtain⟨i,hi,rfl⟩:=List.mem_iff_getElem.1 hf;exact hg i hi
  obtain⟨a1,a2⟩:=Fu.fB hn x.funcs 400 q hgm (by omega) (Int.le_refl _) h;have hq:=(Fu.dw _ _ _ _ h).2 (by omega);have a3:=EO hn x.structs (fun s hs=>⟨(hone' s hs).1.2.1,(hone' s hs).2.1,fun p hp=>((hone' s hs).2.2 p hp).2⟩);refine⟨hn.tok,fun s hs p hp=>((hone' s hs).2.2 p hp).1,fun s hs=>by have:=(hone' s hs).2.1;omega,a1,by omega,by omega,?_⟩;unfold So.text;rw[List.length_append];omega
 ·cases h
theorem Ob (l:List Sc) (x:Sc) (b:List Int):aV (b++scL l x)=false:=by
 unfold scL;rw[show ([125,10]:List Int)=[125]++[10] from rfl,<- List.append_assoc,<- List.append_assoc];exact nJ _
theorem P7 (l:List Sc) (x:Fu) (b:List Int):aV (b++fuL l x)=false:=by
 unfold fuL;rw[<-List.append_assoc];exact nJ _
theorem TD (a:Option Addr) (n c:Nat) (w:World):(Instr.build 90 #[(0,.slice a n c)]).run Tryz.prog w=.ok (.agg #[.slice a n c,.slice none 0 0]) w:=run_build w 90 _ _ (by kernel_rfl)
def xC (x:So) (w:World) (e:Ending) (w':World):Prop:=Later w w'/\((x.run.isSome=true/\x.text.length<=6000/\∃ v,e=.returned (.tuple #[v,.bool true])/\w'.ownsRow w.heap.size 5 1 v x.text.length (x.text.map (Value.int .u8)))\/(¬ (x.run.isSome=true/\x.text.length<=6000)/\e=.returned (.tuple #[.slice none 0 0,.bool false])))
theorem II (x:So) (v0 v1:Value) (w:World) (hE:Env w) (hg:Fu.aZ x.funcs) (h0:RdL w 2 v0 (Sc.ah x.structs)) (h1:RdL w 5 v1 (Fu.ah x.funcs)) :
  Calls Tryz.prog 20 #[.agg #[v0,v1]] w (xC x w):=by
 obtain⟨sa,scap,rfl,hsl⟩:=Sc.slice h0;obtain⟨fa,fcap,rfl,hfl⟩:=Fu.slice h1;obtain⟨w1,hw1⟩:=dJ (w.alloc (.cells #[.slice sa x.structs.length scap,.slice fa x.funcs.length fcap] 28));have hbx:BxT w.heap.size w1 [.slice sa x.structs.length scap,.slice fa x.funcs.length fcap] 28:=by rw[hw1.out];exact BxT.new w _ _
 have hL1:Later w w1:=by rw[hw1.out];exact ae _ _
 have hC:=I7 x _ _ w1 hg (h0.later hL1) (h1.later hL1);have hsz:w.heap.size<w1.heap.size:=by rw[hw1.out];simp
 have hfine:=fun q (h:So.run x=some q)=>So.kS hg h;obtain⟨l,fu⟩:=x
 have hfine':So.run (.mk l fu)≠none->KE (.mk l fu):=fun h=>by
  cases e:So.run (.mk l fu) with
  | none=>exact absurd e h
  | some q=>exact hfine q e
 replace h0:RdL w 2 (.slice sa l.length scap) (Sc.ah l):=h0
 replace h1:RdL w 5 (.slice fa fu.length fcap) (Fu.ah fu):=h1
 replace hbx:BxT w.heap.size w1 [.slice sa l.length scap,.slice fa fu.length fcap] 28:=hbx
 replace hC:Calls Tryz.prog 48 #[.agg #[.slice sa l.length scap,.slice fa fu.length fcap]] w1 (yY (.mk l fu) w1):=hC
 replace hw1:Hid (w1=w.alloc (.cells #[.slice sa l.length scap,.slice fa fu.length fcap] 28)):=hw1
 show Calls Tryz.prog 20 #[.agg #[.slice sa l.length scap,.slice fa fu.length fcap]] w (xC (.mk l fu) w);obtain⟨x,hx⟩:=dJ (So.mk l fu);rw[<-hx.out]at hC hfine' ⊢;have htx:Hid (x.text=ji l l++jI l fu):=by rw[hx.out];rfl
 have hHC:=hC;clear hC hfine hg;go_enter Tryz.func20,Tryz.ntmps20;go_wp2_with fail
 rw[<-hw1.out];refine hHC.mono ?_;rintro e w2 ⟨rfl,hL2⟩
 have HN:Hid (∀ w',Later w w'->¬ (x.run.isSome=true/\x.text.length<=6000)->xC x w (.returned (.tuple #[.slice none 0 0,.bool false])) w'):=fun w' hw hn=>⟨hw,.inr ⟨hn,rfl⟩⟩
 have HY:Hid (∀ w' v,Later w w'->x.run.isSome=true->x.text.length<=6000->w'.ownsRow w.heap.size 5 1 v x.text.length (x.text.map (Value.int .u8))->xC x w (.returned (.tuple #[v,.bool true])) w'):=fun w' v hw hr hl ho=>⟨hw,.inl ⟨hr,hl,v,rfl,ho⟩⟩
 generalize hQ:xC x w=Q at *
 clear hQ;have hL12:=hL1.trans hL2;have hsz2:w.heap.size<w2.heap.size:=Nat.lt_of_lt_of_le hsz hL2.size;have hbx2:BxT w.heap.size w2 [.slice sa l.length scap,.slice fa fu.length fcap] 28:=by unfold BxT at hbx ⊢;rw[hL2.block _ hsz];exact hbx
 generalize hpt:So.parts x=pt
 clear hpt
 cases hr:x.run.isSome with
 | false =>
  have HN':=HN.out _ hL12 (by rw[hr];rintro ⟨h,_⟩;cases h);clear HN HY;go_wp2_with fail
  exact HN'
 | true =>
  have hF:=hfine' (by intro e;rw[e]at hr;cases hr);have hnm:dm l:=by have:=hF.names;rw[hx.out]at this;exact this
  have hfs:∀ s∈l,∀ p∈s.fields,kG l p:=by have:=hF.fs;rw[hx.out]at this;exact this
  have hfw:∀ s∈l,s.fields.length<=1000:=by have:=hF.few;rw[hx.out]at this;exact this
  have hfu:∀ f∈fu,xE l f:=by have:=hF.fu;rw[hx.out]at this;exact this
  have hln:(ji l l).length+(jI l fu).length<=900000:=by have:=hF.len;rw[htx.out,List.length_append]at this;exact this
  have hl1:l.length<=1000:=by have:=hF.few1;rw[hx.out]at this;exact this
  have hl2:fu.length<=1000:=by have:=hF.Ve;rw[hx.out]at this;exact this
  have hHr:Hid _:=hr;clear hr hF hfine';have q0:=hbx2.cell 0 _ rfl;have q1:=hbx2.cell 1 _ rfl;obtain⟨w3,hw3⟩:=dJ (w2.alloc (.cells #[.slice sa l.length scap,.slice none 0 0] 90))
  have hp3:Pr w2.heap.size w3 w w3 (.slice sa l.length scap) (.slice none 0 0) []:=by
   refine⟨?_,World.ownsRow_nil _ _ _ _,?_,Nat.le_of_lt hsz2,KP.refl _ _⟩
   ·rw[hw3.out];show (w2.heap.push _)[w2.heap.size]?=_;simp
   ·rw[hw3.out];exact hL12.trans (ae _ _)
  have hbx3:BxT w.heap.size w3 [.slice sa l.length scap,.slice fa fu.length fcap] 28:=by unfold BxT at hbx2 ⊢;rw[hw3.out,(ae w2 _).block _ hsz2];exact hbx2
  have HC:Hid (∀ w',KP w2.heap.size w3 w'->w'.cell? ⟨w.heap.size,1,none⟩=some (.slice fa fu.length fcap)):=hbx3.kp (by decide) (by omega) 1 _ rfl;have hbp:=TD sa l.length scap w2
  have HE0:Hid (∀ (j:Nat) (hj:j<l.length),∃ g off x0 y0 z0 x1 y1 z1,sa=some ⟨g,off,none⟩/\RdN w (.slice x0 y0 z0) l[j].name/\RdL w 3 (.slice x1 y1 z1) (Pa.ah l[j].fields)/\∀ w',Later w w'->w'.cell? ⟨g,off+j*2,none⟩=some (.slice x0 y0 z0)/\w'.cell? ⟨g,off+j*2+1,none⟩=some (.slice x1 y1 z1)):=fun j hj=>by
   obtain⟨g,off,u0,u1,e,hgs,c0,c1,r0,r1⟩:=Sc.elem h0 j hj;obtain⟨b0,p0,rfl,_⟩:=r0.slice;obtain⟨b1,p1,rfl,_⟩:=Pa.slice r1;exact⟨g,off,b0,_,p0,b1,_,p1,e,r0,r1,fun w' hw=>⟨by rw[hw.cell (p:=⟨g,off+j*2,none⟩) hgs];exact c0,by rw[hw.cell (p:=⟨g,off+j*2+1,none⟩) hgs];exact c1⟩⟩
  have HE1:Hid (∀ (j:Nat) (hj:j<fu.length),∃ g off x0 y0 z0 x1 y1 z1 x2 y2 z2,fa=some ⟨g,off,none⟩/\RdN w (.slice x0 y0 z0) fu[j].name/\RdL w 3 (.slice x1 y1 z1) (Pa.ah fu[j].params)/\RdL w 8 (.slice x2 y2 z2) (St.ah fu[j].body)/\∀ w',Later w w'->w'.cell? ⟨g,off+j*5,none⟩=some (.slice x0 y0 z0)/\w'.cell? ⟨g,off+j*5+1,none⟩=some (.slice x1 y1 z1)/\w'.cell? ⟨g,off+j*5+2,none⟩=some (.int .i64 fu[j].rk)/\w'.cell? ⟨g,off+j*5+3,none⟩=some (.int .i64 fu[j].rn)/\w'.cell? ⟨g,off+j*5+4,none⟩=some (.slice x2 y2 z2)):=fun j hj=>by
   obtain⟨g,off,u0,u1,u2,e,hgs,c0,c1,c2,c3,c4,r0,r1,r2⟩:=Fu.elem h1 j hj;obtain⟨b0,p0,rfl,_⟩:=r0.slice;obtain⟨b1,p1,rfl,_⟩:=Pa.slice r1;obtain⟨b2,p2,rfl,_⟩:=St.slice r2;exact⟨g,off,b0,_,p0,b1,_,p1,b2,_,p2,e,r0,r1,r2,fun w' hw=>⟨by rw[hw.cell (p:=⟨g,off+j*5,none⟩) hgs];exact c0,by rw[hw.cell (p:=⟨g,off+j*5+1,none⟩) hgs];exact c1,by rw[hw.cell (p:=⟨g,off+j*5+2,none⟩) hgs];exact c2,by rw[hw.cell (p:=⟨g,off+j*5+3,none⟩) hgs];exact c3,by rw[hw.cell (p:=⟨g,off+j*5+4,none⟩) hgs];exact c4⟩⟩
  have HP3:Hid _:=hp3;clear hbx hbx2 hbx3 hp3;go_wp2_with fail
  go_loopw [24] (fun i wr=>∃ (j:Nat) (tv':Value),i=.int .i64 (j:Int)/\j<=l.length/\aV (ji l (l.take j))=false/\Pr w2.heap.size w3 w wr (.slice sa l.length scap) tv' (ji l (l.take j))) (fun i _=>l.length - (intOf i).toNat)
  case atStart=>exact⟨0,_,rfl,Nat.zero_le _,by rw[List.take_zero,ji];rfl,by rw[List.take_zero,ji,<- hw3.out];exact HP3.out⟩
  case round =>
   obtain⟨j,tv',rfl,hj,hmj,hp⟩:=hrel;by_cases hlt:j<l.length
   ·obtain⟨g,off,x0,y0,z0,x1,y1,z1,e1,r0,r1,hcl⟩:=HE0.out j hlt;subst e1;obtain⟨d0,d1⟩:=hcl _ hp.lat;have hst:=Ll l l j hlt;have hpr:=Oa l l (j+1);rw[hst,List.length_append]at hpr;have hmem:=List.getElem_mem hlt;have hN:=hnm _ hmem;have i1:(j:Int)<(l.length:Int):=by omega
    have hpb:=hp.alloc (.cells #[.slice x0 y0 z0,.slice x1 y1 z1] 82);have hmn:aV (ji l (l.take (j+1)))=false:=by rw[hst];exact Ob l _ _
    have hst':Hid _:=hst;clear hcl hst;go_wp2_with fail
    refine (BJ w2.heap.size w3 w _ _ tv' _ _ _ l l[j] hpb h0 hnm hN.1.1 hN.2 (hfw _ hmem) (hfs _ hmem) r0 r1 hmj (by omega)).mono ?_;rintro e w4 ⟨rfl,t4,hp4⟩;rw[<-hst'.out]at hp4;go_wp2_with fail
    go_roundw
    case rel=>exact⟨j+1,_,by go_num,by omega,hmn,hp4⟩
    case measure=>simp[intOf];omega
   ·have hje:j=l.length:=by omega
    have i1:¬ (j:Int)<(l.length:Int):=by omega
    rw[hje,List.take_length]at hp hmj;have q1:=HC.out _ hp.kp;go_wp2_with fail
    go_loopw [34] (fun i wf=>∃ (m:Nat) (tf:Value),i=.int .i64 (m:Int)/\m<=fu.length/\aV (ji l l++jI l (fu.take m))=false/\Pr w2.heap.size w3 w wf (.slice sa l.length scap) tf (ji l l++jI l (fu.take m))) (fun i _=>fu.length - (intOf i).toNat)
    case atStart=>exact⟨0,_,rfl,Nat.zero_le _,by rw[List.take_zero,jI,List.append_nil];exact hmj,by rw[List.take_zero,jI,List.append_nil];exact hp⟩
    case round =>
     obtain⟨m,tf,rfl,hm,hmm,hpf⟩:=hrel;by_cases hlt2:m<fu.length
     ·obtain⟨g,off,x0,y0,z0,x1,y1,z1,x2,y2,z2,e1,r0,r1,r2,hcl⟩:=HE1.out m hlt2;subst e1;obtain⟨d0,d1,d2,d3,d4⟩:=hcl _ hpf.lat;have hst:=Nk l fu m hlt2;have hpr:=PZ l fu (m+1);rw[hst,List.length_append]at hpr;have hmem:=List.getElem_mem hlt2;have i2:(m:Int)<(fu.length:Int):=by omega
      have hpb:=hpf.alloc (.cells #[.slice x0 y0 z0,.slice x1 y1 z1,.int .i64 fu[m].rk,.int .i64 fu[m].rn,.slice x2 y2 z2] 55);have hst':Hid (ji l l++jI l (fu.take m)++fuL l fu[m]=ji l l++jI l (fu.take (m+1))):=by show _=_;rw[hst,List.append_assoc]
      have hmn:aV (ji l l++jI l (fu.take (m+1)))=false:=by rw[<-hst'.out];exact P7 l _ _
      have hll:(ji l l++jI l (fu.take m)).length=(ji l l).length+(jI l (fu.take m)).length:=List.length_append;clear hcl hst;go_wp2_with fail
      refine (Eg w2.heap.size w3 w _ _ tf _ _ _ _ l fu[m] hpb hE h0 hnm (hfu _ hmem) r0 r1 r2 hmm (by omega)).mono ?_;rintro e w4 ⟨rfl,t4,hp4⟩;rw[hst'.out]at hp4;go_wp2_with fail
      go_roundw
      case rel=>exact⟨m+1,_,by go_num,by omega,hmn,hp4⟩
      case measure=>simp[intOf];omega
     ·have hme:m=fu.length:=by omega
      have i2:¬ (m:Int)<(fu.length:Int):=by omega
      rw[hme,List.take_length,<- htx.out]at hpf;have hlt:x.text.length<=900000:=by rw[htx.out,List.length_append];exact hln
      obtain⟨ta,M,tc,rfl,hM⟩:=hpf.shape;have qt:=hpf.text;have hMl:M<=900000:=by rw[hM.out];exact hlt
      by_cases h6:x.text.length<=6000
      ·have HA:=HY.out _ _ hpf.lat hHr.out h6 hpf.own;have i3:¬ (6000:Int)<(M:Int):=by rw[hM.out];omega
       clear HN HY;go_wp2_with fail
       exact HA
      ·have HA:=HN.out _ hpf.lat (fun h=>h6 h.2);have i3:(6000:Int)<(M:Int):=by rw[hM.out];omega
       clear HN HY;go_wp2_with fail
       exact HA
end Go.Proofs.YtgaddpkkjebekaaGreatDoor
