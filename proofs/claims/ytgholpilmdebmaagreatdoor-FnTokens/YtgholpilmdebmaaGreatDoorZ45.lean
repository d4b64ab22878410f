import Derived.Test.YtgholpilmdebmaaGreatDoorZ43
import Derived.Test.YtgholpilmdebmaaGreatDoorZ44
import Derived.Test.YtgholpilmdebmaaGreatDoorZ17
import Derived.Test.YtgholpilmdebmaaGreatDoorZ18
import Derived.Deep.CutRange
import Derived.Deep.CutBlock
import Derived.Deep.RegionHeld3
set_option maxHeartbeats 100000000
set_option maxRecDepth 100000
namespace Go.Proofs.YtgholpilmdebmaaGreatDoor
open Go.RowKit Go.Lib
theorem word_tok {zs:List Int}{great:Bool}(h:wordL zs great=true):1≤zs.length∧zs.length≤8∧midB zs=true:=by
 unfold wordL at h;rw[Bool.and_eq_true,Bool.and_eq_true,Bool.and_eq_true,decide_eq_true_eq,decide_eq_true_eq]at h;obtain⟨⟨⟨h1,h8⟩,hf⟩,ht⟩:=h;refine⟨h1,h8,?_⟩
 have hall:∀ z∈zs,z≠10:=by
  cases zs with
  | nil=>simp at h1
  | cons a r =>
   intro z hz;rcases List.mem_cons.1 hz with rfl|hz
   ·cases great
    ·simp[low]at hf;omega
    ·simp[up]at hf;omega
   ·rw[List.all_eq_true]at ht;have:=ht z hz;simp[low,dig]at this;omega
 unfold midB
 cases hl:zs.getLast? with
 | none=>rw[List.getLast?_eq_none_iff]at hl;rw[hl]at h1;simp at h1
 | some z=>simpa using hall z (List.mem_of_getLast? hl)
theorem zcj {zs:List Int}(h:nameL zs=true):1≤zs.length∧zs.length≤8∧midB zs=true:=by
 unfold nameL at h;rw[Bool.and_eq_true]at h;exact word_tok h.1
def NamesS (l:List Sc):Prop:=∀ x∈l,1≤x.name.length∧x.name.length≤8∧midB x.name=true
theorem NamesS.tok {l:List Sc}(h:NamesS l):NamesTok l:=fun x hx=>⟨⟨(h x hx).1,by have:=(h x hx).2.1;omega⟩,(h x hx).2.2⟩
theorem NamesS.len {l:List Sc}(h:NamesS l) (n:Int):(nmAt l n).length≤8:=by
 unfold nmAt
 cases e:l[n.toNat]? with
 | none=>simp
 | some x=>exact (h x (List.mem_of_getElem? e)).2.1
theorem zds {l:List Sc}{k n s:Int}{no:Bool}(hs:s≤l.length) (h:tyB k n s no=true):TyFine l k n:=by
 unfold tyB at h;refine⟨?_,?_,?_⟩
 ·split at h
  ·omega
  split at h
  ·omega
  split at h
  ·omega
  cases h
 ·split at h
  ·omega
  split at h
  ·omega
  split at h
  ·omega
  cases h
 ·intro hk;rw[if_neg (by omega),if_neg (by omega),if_pos hk,Bool.and_eq_true,decide_eq_true_eq,decide_eq_true_eq]at h;omega
theorem zcs {l:List Sc}(hn:NamesS l) (k n:Int):(sayTy l k n).length≤15:=by
 have:=hn.len n;unfold sayTy
 repeat' split
 all_goals simp
 all_goals omega
theorem hereE_ok {l:List Sc}{k n tk tn:Int}{nm:List Int}{m:Nat}(hg:InR n) (h:hereE (l.length:Int) k n tk tn nm m=true):NodeOk l k n tk tn nm m∧NodeTk l k n tk tn nm m∧nm.length≤8∧m≤4:=by
 unfold hereE at h
 have hk:0≤k∧k≤13:=by
  rcases Int.lt_or_le k 0 with q|q
  ·have:formE k=none:=by unfold formE;repeat (rw[if_neg (by omega)])
   rw[this]at h;cases h
  ·rcases Int.lt_or_le 13 k with q2|q2
   ·have:formE k=none:=by unfold formE;repeat (rw[if_neg (by omega)])
    rw[this]at h;cases h
   ·exact⟨q,q2⟩
 have h8:nm.length=0∨(1≤nm.length∧nm.length≤8∧midB nm=true)→nm.length≤8:=fun q=>by rcases q with q|q <;> omega
 obtain rfl|rfl|rfl|rfl|rfl|rfl|rfl|rfl|rfl|rfl|rfl|rfl|rfl|rfl:=fourteen hk.1 hk.2
 ·have hf:formE 0=some (0,0,1,0,false,false,false):=rfl;rw[hf]at h;simp only[fitsB,Bool.and_eq_true,decide_eq_true_eq]at h;obtain⟨⟨⟨⟨q1,q2⟩,q3⟩,q4⟩,q5⟩:=h;have q3':nm.length=0:=by simpa using q3
  exact⟨⟨by decide,by decide,hg,by omega,by omega,fun q=>absurd q (by decide),fun q=>absurd q (by decide),fun q=>absurd q (by decide),fun q=>absurd q (by decide),fun q=>absurd q (by decide),fun q=>absurd q (by decide)⟩,⟨fun q=>absurd q (by decide),fun q=>absurd q (by decide),fun q=>absurd q (by decide)⟩,by omega,by omega⟩
 ·have hf:formE 1=some (0,0,2,0,false,false,false):=rfl;rw[hf]at h;simp only[fitsB,Bool.and_eq_true,decide_eq_true_eq]at h;obtain⟨⟨⟨⟨q1,q2⟩,q3⟩,q4⟩,q5⟩:=h;have q3':nm.length=0:=by simpa using q3
  exact⟨⟨by decide,by decide,hg,by omega,by omega,fun q=>absurd q (by decide),fun q=>absurd q (by decide),fun q=>absurd q (by decide),fun q=>absurd q (by decide),fun q=>absurd q (by decide),fun q=>absurd q (by decide)⟩,⟨fun q=>absurd q (by decide),fun q=>absurd q (by decide),fun q=>absurd q (by decide)⟩,by omega,by omega⟩
 ·have hf:formE 2=some (0,0,3,0,false,false,false):=rfl;rw[hf]at h;simp only[fitsB,Bool.and_eq_true,decide_eq_true_eq]at h;obtain⟨⟨⟨⟨q1,q2⟩,q3⟩,q4⟩,q5⟩:=h;have q3':nm.length=0:=by simpa using q3
  have q4':0≤n∧n<(l.length:Int):=by simpa[numB] using q4
  exact⟨⟨by decide,by decide,hg,by omega,by omega,fun _=>q4',fun q=>absurd q (by decide),fun q=>absurd q (by decide),fun q=>absurd q (by decide),fun q=>absurd q (by decide),fun q=>absurd q (by decide)⟩,⟨fun q=>absurd q (by decide),fun q=>absurd q (by decide),fun q=>absurd q (by decide)⟩,by omega,by omega⟩
 ·have hf:formE 3=some (0,0,0,0,true,false,false):=rfl;rw[hf]at h;simp only[fitsB,Bool.and_eq_true,decide_eq_true_eq]at h;obtain⟨⟨⟨⟨q1,q2⟩,q3⟩,q4⟩,q5⟩:=h;have q3':=zcj (show nameL nm=true from q3);exact⟨⟨by decide,by decide,hg,by omega,by omega,fun q=>absurd q (by decide),fun q=>absurd q (by decide),fun _=>q3'.1,fun q=>absurd q (by decide),fun q=>absurd q (by decide),fun q=>absurd q (by decide)⟩,⟨fun _=>q3'.2.2,fun q=>absurd q (by decide),fun q=>absurd q (by decide)⟩,by omega,by omega⟩
 ·have hf:formE 4=some (0,0,3,0,false,false,false):=rfl;rw[hf]at h;simp only[fitsB,Bool.and_eq_true,decide_eq_true_eq]at h;obtain⟨⟨⟨⟨q1,q2⟩,q3⟩,q4⟩,q5⟩:=h;have q3':nm.length=0:=by simpa using q3
  have q4':0≤n∧n<(l.length:Int):=by simpa[numB] using q4
  exact⟨⟨by decide,by decide,hg,by omega,by omega,fun _=>q4',fun q=>absurd q (by decide),fun q=>absurd q (by decide),fun q=>absurd q (by decide),fun q=>absurd q (by decide),fun q=>absurd q (by decide)⟩,⟨fun q=>absurd q (by decide),fun q=>absurd q (by decide),fun q=>absurd q (by decide)⟩,by omega,by omega⟩
 ·have hf:formE 5=some (1,1,0,2,false,false,false):=rfl;rw[hf]at h;simp only[fitsB,Bool.and_eq_true,decide_eq_true_eq]at h;obtain⟨⟨⟨⟨q1,q2⟩,q3⟩,q4⟩,q5⟩:=h;have q3':nm.length=0:=by simpa using q3
  have q5':TyFine l tk tn:=by
   have:tylB tk tn (l.length:Int)=true:=q5;unfold tylB at this;rw[Bool.and_eq_true]at this;exact zds (Int.le_refl _) this.2
  exact⟨⟨by decide,by decide,hg,by omega,by omega,fun q=>absurd q (by decide),fun q=>absurd q (by decide),fun q=>absurd q (by decide),fun q=>absurd q (by decide),fun q=>absurd q (by decide),fun _=>q5'.2.2⟩,⟨fun q=>absurd q (by decide),fun q=>absurd q (by decide),fun _=>q5'⟩,by omega,by omega⟩
 ·have hf:formE 6=some (0,4,0,0,true,false,false):=rfl;rw[hf]at h;simp only[fitsB,Bool.and_eq_true,decide_eq_true_eq]at h;obtain⟨⟨⟨⟨q1,q2⟩,q3⟩,q4⟩,q5⟩:=h;have q3':=zcj (show nameL nm=true from q3);exact⟨⟨by decide,by decide,hg,by omega,by omega,fun q=>absurd q (by decide),fun q=>absurd q (by decide),fun _=>q3'.1,fun q=>absurd q (by decide),fun q=>absurd q (by decide),fun q=>absurd q (by decide)⟩,⟨fun _=>q3'.2.2,fun q=>absurd q (by decide),fun q=>absurd q (by decide)⟩,by omega,by omega⟩
 ·have hf:formE 7=some (1,1,0,0,true,false,false):=rfl;rw[hf]at h;simp only[fitsB,Bool.and_eq_true,decide_eq_true_eq]at h;obtain⟨⟨⟨⟨q1,q2⟩,q3⟩,q4⟩,q5⟩:=h;have q3':=zcj (show nameL nm=true from q3);exact⟨⟨by decide,by decide,hg,by omega,by omega,fun q=>absurd q (by decide),fun q=>absurd q (by decide),fun _=>q3'.1,fun _=>by omega,fun q=>absurd q (by decide),fun q=>absurd q (by decide)⟩,⟨fun _=>q3'.2.2,fun q=>absurd q (by decide),fun q=>absurd q (by decide)⟩,by omega,by omega⟩
 ·have hf:formE 8=some (2,2,0,0,false,false,false):=rfl;rw[hf]at h;simp only[fitsB,Bool.and_eq_true,decide_eq_true_eq]at h;obtain⟨⟨⟨⟨q1,q2⟩,q3⟩,q4⟩,q5⟩:=h;have q3':nm.length=0:=by simpa using q3
  exact⟨⟨by decide,by decide,hg,by omega,by omega,fun q=>absurd q (by decide),fun q=>absurd q (by decide),fun q=>absurd q (by decide),fun _=>by omega,fun _=>by omega,fun q=>absurd q (by decide)⟩,⟨fun q=>absurd q (by decide),fun _=>by omega,fun q=>absurd q (by decide)⟩,by omega,by omega⟩
 ·have hf:formE 9=some (1,1,0,0,false,false,false):=rfl;rw[hf]at h;simp only[fitsB,Bool.and_eq_true,decide_eq_true_eq]at h;obtain⟨⟨⟨⟨q1,q2⟩,q3⟩,q4⟩,q5⟩:=h;have q3':nm.length=0:=by simpa using q3
  exact⟨⟨by decide,by decide,hg,by omega,by omega,fun q=>absurd q (by decide),fun q=>absurd q (by decide),fun q=>absurd q (by decide),fun q=>absurd q (by decide),fun q=>absurd q (by decide),fun q=>absurd q (by decide)⟩,⟨fun q=>absurd q (by decide),fun q=>absurd q (by decide),fun q=>absurd q (by decide)⟩,by omega,by omega⟩
 ·have hf:formE 10=some (2,2,4,0,false,false,false):=rfl;rw[hf]at h;simp only[fitsB,Bool.and_eq_true,decide_eq_true_eq]at h;obtain⟨⟨⟨⟨q1,q2⟩,q3⟩,q4⟩,q5⟩:=h;have q3':nm.length=0:=by simpa using q3
  have q4':0≤n∧n<7:=by simpa[numB] using q4
  exact⟨⟨by decide,by decide,hg,by omega,by omega,fun q=>absurd q (by decide),fun _=>q4',fun q=>absurd q (by decide),fun _=>by omega,fun _=>by omega,fun q=>absurd q (by decide)⟩,⟨fun q=>absurd q (by decide),fun _=>by omega,fun q=>absurd q (by decide)⟩,by omega,by omega⟩
 ·have hf:formE 11=some (0,0,0,0,false,false,false):=rfl;rw[hf]at h;simp only[fitsB,Bool.and_eq_true,decide_eq_true_eq]at h;obtain⟨⟨⟨⟨q1,q2⟩,q3⟩,q4⟩,q5⟩:=h;have q3':nm.length=0:=by simpa using q3
  exact⟨⟨by decide,by decide,hg,by omega,by omega,fun q=>absurd q (by decide),fun q=>absurd q (by decide),fun q=>absurd q (by decide),fun q=>absurd q (by decide),fun q=>absurd q (by decide),fun q=>absurd q (by decide)⟩,⟨fun q=>absurd q (by decide),fun q=>absurd q (by decide),fun q=>absurd q (by decide)⟩,by omega,by omega⟩
 ·have hf:formE 12=some (1,1,0,0,false,false,false):=rfl;rw[hf]at h;simp only[fitsB,Bool.and_eq_true,decide_eq_true_eq]at h;obtain⟨⟨⟨⟨q1,q2⟩,q3⟩,q4⟩,q5⟩:=h;have q3':nm.length=0:=by simpa using q3
  exact⟨⟨by decide,by decide,hg,by omega,by omega,fun q=>absurd q (by decide),fun q=>absurd q (by decide),fun q=>absurd q (by decide),fun q=>absurd q (by decide),fun q=>absurd q (by decide),fun q=>absurd q (by decide)⟩,⟨fun q=>absurd q (by decide),fun q=>absurd q (by decide),fun q=>absurd q (by decide)⟩,by omega,by omega⟩
 ·have hf:formE 13=some (1,1,0,0,false,false,false):=rfl;rw[hf]at h;simp only[fitsB,Bool.and_eq_true,decide_eq_true_eq]at h;obtain⟨⟨⟨⟨q1,q2⟩,q3⟩,q4⟩,q5⟩:=h;have q3':nm.length=0:=by simpa using q3
  exact⟨⟨by decide,by decide,hg,by omega,by omega,fun q=>absurd q (by decide),fun q=>absurd q (by decide),fun q=>absurd q (by decide),fun q=>absurd q (by decide),fun q=>absurd q (by decide),fun q=>absurd q (by decide)⟩,⟨fun q=>absurd q (by decide),fun q=>absurd q (by decide),fun q=>absurd q (by decide)⟩,by omega,by omega⟩
def sumL:List (List Int)→Nat
 | []=>0
 | t::r=>t.length+2+sumL r
theorem joinL_sum (ts:List (List Int)):(joinL ts).length≤sumL ts:=by
 have h:∀ r:List (List Int),(tailL r).length=sumL r:=by
  intro r
  induction r with
  | nil=>rfl
  | cons x r ih=>rw[tailL,sumL,List.length_append,List.length_append,ih];simp;omega
 cases ts with
 | nil=>simp[joinL]
 | cons x r=>rw[joinL,sumL,List.length_append,h];omega
theorem kid0_sum (ts:List (List Int)):(kidL ts 0).length≤sumL ts:=by
 cases ts with
 | nil=>simp[kidL]
 | cons x r=>rw[sumL];simp[kidL];omega
theorem kid1_sum (ts:List (List Int)):(kidL ts 0).length+(kidL ts 1).length≤sumL ts:=by
 match ts with
 | []=>simp[kidL]
 | [x]=>simp[kidL,sumL]
 | x::y::r=>simp[kidL,sumL];omega
theorem exL_len {l:List Sc}(hn:NamesS l) (k n tk tn:Int) (nm:List Int) (h8:nm.length≤8) (ts:List (List Int)):(exL l k n tk tn nm ts).length≤60+sumL ts:=by
 have h1:=joinL_sum ts;have h2:=kid0_sum ts;have h3:=kid1_sum ts;have h4:=zcs hn tk tn;have h5:=hn.len n;have h6:=zcz n;have h7:=zdx n
 have h9:(opL n).length≤2:=by
  unfold opL
  repeat' split
  all_goals simp
 have h10:(headL l k tk tn nm).length≤25:=by
  unfold headL
  repeat' split
  all_goals simp
  all_goals omega
 unfold exL
 repeat' split
 all_goals simp only[List.length_append,List.length_cons,List.length_nil]
 all_goals omega
mutual
theorem Ex.run_fine {l:List Sc}(hn:NamesS l):∀ (x:Ex) (d l0 l1:Int),x.good→Ex.run (l.length:Int) d l0 x=some l1→Ex.FineI l x∧((Ex.say l x).length:Int)+2≤100*(l0 - l1)
 | .mk k n tk tn nm ks,d,l0,l1,hg,h=>by
  rw[Ex.run]at h;rw[Ex.good]at hg;split at h
  ·cases h
  ·rename_i hc
   have hh:hereE (l.length:Int) k n tk tn nm ks.length=true:=by
    cases q:hereE (l.length:Int) k n tk tn nm ks.length
    ·exact absurd (.inr (.inr q)) hc
    ·rfl
   obtain⟨a1,a2,a3,a4⟩:=hereE_ok hg.1 hh;obtain⟨b1,b2⟩:=Ex.runs_fine hn ks _ _ _ hg.2 h;refine⟨.mk a1 a2 b1,?_⟩;rw[Ex.say];have:=exL_len hn k n tk tn nm a3 (Ex.says l ks);omega
theorem Ex.runs_fine {l:List Sc}(hn:NamesS l):∀ (xs:List Ex) (d l0 l1:Int),Ex.goods xs→Ex.runs (l.length:Int) d l0 xs=some l1→(∀ x∈xs,Ex.FineI l x)∧(sumL (Ex.says l xs):Int)≤100*(l0 - l1)
 | [],d,l0,l1,hg,h=>by rw[Ex.runs]at h;cases h;exact⟨fun x hx=>(List.not_mem_nil hx).elim,by rw[Ex.says,sumL];omega⟩
 | x::r,d,l0,l1,hg,h=>by
  rw[Ex.runs]at h;rw[Ex.goods]at hg;split at h
  ·cases h
  ·rename_i l2 h2
   obtain⟨a1,a2⟩:=Ex.run_fine hn x d l0 l2 hg.1 h2;obtain⟨b1,b2⟩:=Ex.runs_fine hn r d l2 l1 hg.2 h;refine⟨fun y hy=>?_,?_⟩
   ·rcases List.mem_cons.1 hy with rfl|hy
    ·exact a1
    ·exact b1 y hy
   ·rw[Ex.says,sumL];omega
end
theorem hereS_ok {l:List Sc}{k n tk tn:Int}{nm:List Int}{ks:List Ex}{b e:Nat}(h:hereS (l.length:Int) k n tk tn nm ks b e=true):StNodeI l k tk tn nm ks.length∧nm.length≤8:=by
 unfold hereS at h
 have hk:0≤k∧k≤7:=by
  rcases Int.lt_or_le k 0 with q|q
  ·have:formS k=none:=by unfold formS;repeat (rw[if_neg (by omega)])
   rw[this]at h;cases h
  ·rcases Int.lt_or_le 7 k with q2|q2
   ·have:formS k=none:=by unfold formS;repeat (rw[if_neg (by omega)])
    rw[this]at h;cases h
   ·exact⟨q,q2⟩
 obtain rfl|rfl|rfl|rfl|rfl|rfl|rfl|rfl:=eight hk.1 hk.2
 ·have hf:formS 0=some (0,0,0,1,true,false,false):=rfl;rw[hf]at h;simp only[fitsB,Bool.and_eq_true,decide_eq_true_eq]at h;obtain⟨⟨⟨⟨⟨⟨⟨q1,q2⟩,q3⟩,q4⟩,q5⟩,_⟩,_⟩,_⟩:=h;have q3':=zcj (show nameL nm=true from q3);have q5':TyFine l tk tn:=zds (Int.le_refl _) (show tyB tk tn (l.length:Int) false=true from q5);exact⟨⟨⟨by decide,by decide,fun _=>q3'.1,fun _=>q5'.2.2,fun q=>absurd q (by decide),fun q=>absurd q (by decide)⟩,fun _=>q3'.2.2,fun _=>q5',fun q=>absurd q (by decide),fun q=>absurd q (by decide),fun q=>absurd q (by decide)⟩,by omega⟩
 ·have hf:formS 1=some (2,2,0,0,false,false,false):=rfl;rw[hf]at h;simp only[fitsB,Bool.and_eq_true,decide_eq_true_eq]at h;obtain⟨⟨⟨⟨⟨⟨⟨q1,q2⟩,q3⟩,q4⟩,q5⟩,_⟩,_⟩,_⟩:=h;have q3':nm.length=0:=by simpa using q3
  exact⟨⟨⟨by decide,by decide,fun q=>absurd q (by decide),fun q=>absurd q (by decide),fun _=>by omega,fun q=>absurd q (by decide)⟩,fun q=>absurd q (by decide),fun q=>absurd q (by decide),fun _=>by omega,fun q=>absurd q (by decide),fun q=>absurd q (by decide)⟩,by omega⟩
 ·have hf:formS 2=some (1,1,0,0,false,true,true):=rfl;rw[hf]at h;simp only[fitsB,Bool.and_eq_true,decide_eq_true_eq]at h;obtain⟨⟨⟨⟨⟨⟨⟨q1,q2⟩,q3⟩,q4⟩,q5⟩,_⟩,_⟩,_⟩:=h;have q3':nm.length=0:=by simpa using q3
  exact⟨⟨⟨by decide,by decide,fun q=>absurd q (by decide),fun q=>absurd q (by decide),fun q=>absurd q (by decide),fun _=>by omega⟩,fun q=>absurd q (by decide),fun q=>absurd q (by decide),fun q=>absurd q (by decide),fun q=>absurd q (by decide),fun q=>absurd q (by decide)⟩,by omega⟩
 ·have hf:formS 3=some (1,1,0,0,false,true,false):=rfl;rw[hf]at h;simp only[fitsB,Bool.and_eq_true,decide_eq_true_eq]at h;obtain⟨⟨⟨⟨⟨⟨⟨q1,q2⟩,q3⟩,q4⟩,q5⟩,_⟩,_⟩,_⟩:=h;have q3':nm.length=0:=by simpa using q3
  exact⟨⟨⟨by decide,by decide,fun q=>absurd q (by decide),fun q=>absurd q (by decide),fun q=>absurd q (by decide),fun _=>by omega⟩,fun q=>absurd q (by decide),fun q=>absurd q (by decide),fun q=>absurd q (by decide),fun q=>absurd q (by decide),fun q=>absurd q (by decide)⟩,by omega⟩
 ·have hf:formS 4=some (0,1,0,0,false,false,false):=rfl;rw[hf]at h;simp only[fitsB,Bool.and_eq_true,decide_eq_true_eq]at h;obtain⟨⟨⟨⟨⟨⟨⟨q1,q2⟩,q3⟩,q4⟩,q5⟩,_⟩,_⟩,_⟩:=h;have q3':nm.length=0:=by simpa using q3
  exact⟨⟨⟨by decide,by decide,fun q=>absurd q (by decide),fun q=>absurd q (by decide),fun q=>absurd q (by decide),fun q=>absurd q (by decide)⟩,fun q=>absurd q (by decide),fun q=>absurd q (by decide),fun q=>absurd q (by decide),fun _=>by omega,fun q=>absurd q (by decide)⟩,by omega⟩
 ·have hf:formS 5=some (1,1,0,0,false,false,false):=rfl;rw[hf]at h;simp only[fitsB,Bool.and_eq_true,decide_eq_true_eq]at h;obtain⟨⟨⟨⟨⟨⟨⟨q1,q2⟩,q3⟩,q4⟩,q5⟩,_⟩,_⟩,_⟩:=h;have q3':nm.length=0:=by simpa using q3
  exact⟨⟨⟨by decide,by decide,fun q=>absurd q (by decide),fun q=>absurd q (by decide),fun q=>absurd q (by decide),fun _=>by omega⟩,fun q=>absurd q (by decide),fun q=>absurd q (by decide),fun q=>absurd q (by decide),fun q=>absurd q (by decide),fun _=>by omega⟩,by omega⟩
 ·have hf:formS 6=some (1,1,0,0,false,false,false):=rfl;rw[hf]at h;simp only[fitsB,Bool.and_eq_true,decide_eq_true_eq]at h;obtain⟨⟨⟨⟨⟨⟨⟨q1,q2⟩,q3⟩,q4⟩,q5⟩,_⟩,_⟩,_⟩:=h;have q3':nm.length=0:=by simpa using q3
  exact⟨⟨⟨by decide,by decide,fun q=>absurd q (by decide),fun q=>absurd q (by decide),fun q=>absurd q (by decide),fun _=>by omega⟩,fun q=>absurd q (by decide),fun q=>absurd q (by decide),fun q=>absurd q (by decide),fun q=>absurd q (by decide),fun _=>by omega⟩,by omega⟩
 ·have hf:formS 7=some (1,1,0,0,false,false,false):=rfl;rw[hf]at h;simp only[fitsB,Bool.and_eq_true,decide_eq_true_eq]at h;obtain⟨⟨⟨⟨⟨⟨⟨q1,q2⟩,q3⟩,q4⟩,q5⟩,_⟩,_⟩,_⟩:=h;have q3':nm.length=0:=by simpa using q3
  exact⟨⟨⟨by decide,by decide,fun q=>absurd q (by decide),fun q=>absurd q (by decide),fun q=>absurd q (by decide),fun _=>by omega⟩,fun q=>absurd q (by decide),fun q=>absurd q (by decide),fun q=>absurd q (by decide),fun q=>absurd q (by decide),fun _=>by omega⟩,by omega⟩
theorem stL_len {l:List Sc}(hn:NamesS l) (k tk tn:Int) (nm:List Int) (h8:nm.length≤8) (ts:List (List Int)) (b e:List Int):(stL l k tk tn nm ts b e).length≤60+sumL ts+b.length+e.length:=by
 have h2:=kid0_sum ts;have h3:=kid1_sum ts;have h4:=zcs hn tk tn;have hb:∀ t,(blockL t).length=t.length+4:=fun t=>by unfold blockL;simp
 have b1:=hb b;have e1:=hb e;unfold stL
 repeat' split
 all_goals simp only[List.length_append,List.length_cons,List.length_nil,List.length_drop]
 all_goals omega
mutual
theorem St.run_fine {l:List Sc}(hn:NamesS l):∀ (x:St) (d l0 l1:Int),x.good→l0≤400→St.run (l.length:Int) d l0 x=some l1→St.FineI l x∧((St.say l x).length:Int)≤100*(l0 - l1)
 | .mk k n tk tn nm ks bo el,d,l0,l1,hg,h400,h=>by
  have hle:=St.run_le _ _ _ _ _ h;rw[St.run]at h;rw[St.good]at hg;split at h
  ·cases h
  ·rename_i hc
   split at h
   ·cases h
   ·rename_i m1 h1
    split at h
    ·cases h
    ·rename_i m2 h2
     have hh:hereS (l.length:Int) k n tk tn nm ks bo.length el.length=true:=by
      cases q:hereS (l.length:Int) k n tk tn nm ks bo.length el.length
      ·exact absurd (.inr (.inr q)) hc
      ·rfl
     obtain⟨a1,a2⟩:=hereS_ok hh;have c1:=Ex.runs_le _ _ _ _ _ h1;have c2:=St.runs_le _ _ _ _ _ h2;have c3:=St.runs_le _ _ _ _ _ h;have d1:=c1.2 (by omega);have d2:=c2.2 d1;have d3:=c3.2 d2;obtain⟨b1,b2⟩:=Ex.runs_fine hn ks _ _ _ hg.2.1 h1;obtain⟨b3,b4,b5⟩:=St.runs_fine hn bo _ _ _ hg.2.2.1 (by omega) h2;obtain⟨b6,b7,b8⟩:=St.runs_fine hn el _ _ _ hg.2.2.2 (by omega) h;refine⟨.mk a1 ⟨by omega,by omega⟩ b1 b3 b6,?_⟩;rw[St.say];have:=stL_len hn k tk tn nm a2 (Ex.says l ks) (St.says l bo) (St.says l el);omega
theorem St.runs_fine {l:List Sc}(hn:NamesS l):∀ (xs:List St) (d l0 l1:Int),St.goods xs→l0≤400→St.runs (l.length:Int) d l0 xs=some l1→(∀ x∈xs,St.FineI l x)∧((St.says l xs).length:Int)≤100*(l0 - l1)∧(xs.length:Int)≤l0 - l1
 | [],d,l0,l1,hg,_,h=>by rw[St.runs]at h;cases h;exact⟨fun x hx=>(List.not_mem_nil hx).elim,by rw[St.says];simp,by simp⟩
 | x::r,d,l0,l1,hg,h400,h=>by
  rw[St.runs]at h;rw[St.goods]at hg;split at h
  ·cases h
  ·rename_i l2 h2
   have hle:=St.run_le _ _ _ _ _ h2;obtain⟨a1,a2⟩:=St.run_fine hn x d l0 l2 hg.1 h400 h2;obtain⟨b1,b2,b3⟩:=St.runs_fine hn r d l2 l1 hg.2 (by omega) h;refine⟨fun y hy=>?_,?_,?_⟩
   ·rcases List.mem_cons.1 hy with rfl|hy
    ·exact a1
    ·exact b1 y hy
   ·rw[St.says,List.length_append];omega
   ·rw[List.length_cons];omega
end
theorem paramB_fine {l:List Sc}{most s:Int}{xs:List Pa}(hs:s≤l.length) (h:paramB most s xs=true):(xs.length:Int)≤most∧∀ p∈xs,PaFineI l p∧p.name.length≤8:=by
 unfold paramB at h;rw[Bool.and_eq_true,decide_eq_true_eq,List.all_eq_true]at h;refine⟨h.1,fun p hp=>?_⟩;have:=h.2 p hp;unfold paOk at this;rw[Bool.and_eq_true]at this;have hn:=zcj this.1;exact⟨⟨hn.1,hn.2.2,zds hs this.2⟩,hn.2.1⟩
theorem paL_len {l:List Sc}(hn:NamesS l) (p:Pa) (h:p.name.length≤8):(paL l p).length≤23:=by
 have:=zcs hn p.tk p.tn;unfold paL;rw[List.length_append];omega
structure SoFineI (x:So):Prop where
 names:NamesTok x.structs
 fs:∀ s∈x.structs,∀ p∈s.fields,PaFineI x.structs p
 few:∀ s∈x.structs,s.fields.length≤1000
 fu:∀ f∈x.funcs,FuFineI x.structs f
 few1:x.structs.length≤1000
 few2:x.funcs.length≤1000
 len:x.text.length≤900000
theorem SoFineI.fine {x:So}(h:SoFineI x):SoFine x:=⟨h.names.fit,fun s hs p hp=>(h.fs s hs p hp).fine,h.few,fun f hf=>(h.fu f hf).fine,h.few1,h.few2,by have:=h.len;omega⟩
theorem fieldsL_len {l:List Sc}(hn:NamesS l):∀ (xs:List Pa),(∀ p∈xs,p.name.length≤8)→(fieldsL l xs).length≤26*xs.length
 | [],_=>by simp[fieldsL]
 | p::r,h=>by
  have a:=paL_len hn p (h p (List.mem_cons_self ..));have b:=fieldsL_len hn r (fun q hq=>h q (List.mem_cons_of_mem _ hq));rw[fieldsL];simp only[List.length_append,List.length_cons,List.length_nil];omega
theorem scsL_len {l:List Sc}(hn:NamesS l):∀ (xs:List Sc),(∀ x∈xs,x.name.length≤8∧x.fields.length≤5∧∀ p∈x.fields,p.name.length≤8)→(scsL l xs).length≤200*xs.length
 | [],_=>by simp[scsL]
 | x::r,h=>by
  obtain⟨h1,h2,h3⟩:=h x (List.mem_cons_self ..);have a:=fieldsL_len hn x.fields h3;have b:=scsL_len hn r (fun q hq=>h q (List.mem_cons_of_mem _ hq));rw[scsL];unfold scL;simp only[List.length_append,List.length_cons,List.length_nil];omega
theorem params_len {l:List Sc}(hn:NamesS l):∀ (xs:List Pa),(∀ p∈xs,p.name.length≤8)→sumL (xs.map fun p=>32::paL l p)≤26*xs.length
 | [],_=>by simp[sumL]
 | p::r,h=>by
  have a:=paL_len hn p (h p (List.mem_cons_self ..));have b:=params_len hn r (fun q hq=>h q (List.mem_cons_of_mem _ hq));rw[List.map_cons,sumL];simp only[List.length_cons];omega
theorem Fu.run_fine {l:List Sc}(hn:NamesS l) (x:Fu) (l0 l1:Int) (hg:x.good) (h0:0≤l0) (h400:l0≤400) (h:Fu.run (l.length:Int) l0 x=some l1):FuFineI l x∧((fuL l x).length:Int)≤200+100*(l0 - l1):=by
 unfold Fu.run headF at h;split at h
 ·rename_i hc
  rw[Bool.and_eq_true,Bool.and_eq_true]at hc;obtain⟨⟨c1,c2⟩,c3⟩:=hc;have n1:=zcj c1;obtain⟨p1,p2⟩:=paramB_fine (Int.le_refl _) c2;have t1:=zds (Int.le_refl _) c3;obtain⟨b1,b2,b3⟩:=St.runs_fine hn x.body _ _ _ hg h400 h;have hle:=(St.runs_le _ _ _ _ _ h).2 h0;refine⟨⟨n1.1,n1.2.2,fun p hp=>(p2 p hp).1,by omega,t1,by omega,b1⟩,?_⟩;have a1:=joinL_sum (x.params.map fun p=>32::paL l p);have a2:=params_len hn x.params (fun p hp=>(p2 p hp).2);have a3:=zcs hn x.rk x.rn;unfold fuL blockL;simp only[List.length_append,List.length_cons,List.length_nil];omega
 ·cases h
theorem Fu.runs_fine {l:List Sc}(hn:NamesS l):∀ (xs:List Fu) (l0 l1:Int),(∀ x∈xs,x.good)→0≤l0→l0≤400→Fu.runs (l.length:Int) l0 xs=some l1→(∀ x∈xs,FuFineI l x)∧((fusL l xs).length:Int)≤200*xs.length+100*(l0 - l1)
 | [],l0,l1,hg,_,_,h=>by rw[Fu.runs]at h;cases h;exact⟨fun x hx=>(List.not_mem_nil hx).elim,by simp[fusL]⟩
 | x::r,l0,l1,hg,h0,h400,h=>by
  rw[Fu.runs]at h;split at h
  ·cases h
  ·rename_i l2 h2
   obtain⟨a1,a2⟩:=Fu.run_fine hn x l0 l2 (hg x (List.mem_cons_self ..)) h0 h400 h2
   have hle:l2≤l0∧(0≤l0→0≤l2):=by
    have:=Fu.runs_le (l.length:Int) [x] l0 l2 (by rw[Fu.runs,h2];rfl);exact this
   obtain⟨b1,b2⟩:=Fu.runs_fine hn r l2 l1 (fun y hy=>hg y (List.mem_cons_of_mem _ hy)) (hle.2 h0) (by omega) h;refine⟨fun y hy=>?_,?_⟩
   ·rcases List.mem_cons.1 hy with rfl|hy
    ·exact a1
    ·exact b1 y hy
   ·rw[fusL,List.length_append,List.length_cons];omega
theorem So.run_fine {x:So}{q:Int}(hg:Fu.goods x.funcs) (h:So.run x=some q):SoFineI x:=by
 unfold So.run at h;split at h
 ·rename_i hc
  rw[Bool.and_eq_true,decide_eq_true_eq,zcc]at hc;obtain⟨⟨h6,hone⟩,h8⟩:=hc
  have hone':∀ s∈x.structs,(1≤s.name.length∧s.name.length≤8∧midB s.name=true)∧s.fields.length≤5∧∀ p∈s.fields,PaFineI x.structs p∧p.name.length≤8:=fun s hs=>by
   obtain⟨i,hi,rfl⟩:=List.mem_iff_getElem.1 hs;have:=hone i hi;unfold oneB at this;rw[Bool.and_eq_true,Bool.and_eq_true]at this;obtain⟨p1,p2⟩:=paramB_fine (l:=x.structs) (by omega) this.2;exact⟨word_tok this.1.1,by omega,p2⟩
  have hn:NamesS x.structs:=fun s hs=>(hone' s hs).1
  have hgm:∀ f∈x.funcs,f.good:=fun f hf=>by
   obtain⟨i,hi,rfl⟩:=List.mem_iff_getElem.1 hf;exact hg i hi
  obtain⟨a1,a2⟩:=Fu.runs_fine hn x.funcs 400 q hgm (by omega) (Int.le_refl _) h;have hq:=(Fu.runs_le _ _ _ _ h).2 (by omega);have a3:=scsL_len hn x.structs (fun s hs=>⟨(hone' s hs).1.2.1,(hone' s hs).2.1,fun p hp=>((hone' s hs).2.2 p hp).2⟩);refine⟨hn.tok,fun s hs p hp=>((hone' s hs).2.2 p hp).1,fun s hs=>by have:=(hone' s hs).2.1;omega,a1,by omega,by omega,?_⟩;unfold So.text;rw[List.length_append];omega
 ·cases h
end Go.Proofs.YtgholpilmdebmaaGreatDoor
namespace Go.Proofs.YtgholpilmdebmaaGreatDoor
open Go.RowKit
def kidsN (k:Int) (len:Nat):Int:=if k=0∨k=1∨k=2∨k=3∨k=4∨k=11 then 0 else if k=5∨k=7∨k=9∨k=12∨k=13 then 1 else if k=8∨k=10 then 2 else if k=6 then (if (len:Int)≤4 then (len:Int) else -1) else -1
def namedB (k:Int):Bool:=(k==3)||(k==6)||(k==7)
def bad5 (k:Int) (name:List Int):Bool:=(namedB k != decide (0<name.length))||(namedB k&&!(nameL name))
def bad7 (k tk tn:Int):Bool:=(k != 5)&&!((tk==0)&&(tn==0))
def nB (s k n tk tn:Int):Bool:=if k=0 then true else if k=1 then canon n else if k=2∨k=4 then decide (0≤n)&&decide (n<s) else if k=10 then decide (0≤n)&&decide (n≤6) else if k=5 then (n==0)&&decide (4≤tk)&&tyB tk tn s false else n==0
theorem nameL_pos {name:List Int}(h:nameL name=true):0<name.length:=by
 unfold nameL wordL at h;simp only[Bool.and_eq_true,decide_eq_true_eq]at h;omega
theorem le6 (n:Int):decide (n≤6)=decide (n<7):=by
 by_cases h:n≤6
 ·rw[decide_eq_true h,decide_eq_true (by omega)]
 ·rw[decide_eq_false h,decide_eq_false (by omega)]
theorem zaz (A B C:Bool):(A&&B&&C)=(A&&C&&B):=by cases A <;> cases B <;> cases C <;> rfl
theorem zau (a:Int) (len:Nat):(a==(len:Int))=(decide (a≤(len:Int))&&decide ((len:Int)≤a)):=by
 rw[Bool.eq_iff_iff,beq_iff_eq,Bool.and_eq_true,decide_eq_true_eq,decide_eq_true_eq];omega
theorem kids_no (len:Nat):((-1:Int)==(len:Int))=false:=by rw[beq_eq_false_iff_ne];omega
theorem zbh {name:List Int}:(!((false != decide (0<name.length))||(false&&!(nameL name))))=decide (name.length=0):=by
 by_cases h:name.length=0
 ·rw[decide_eq_true h,decide_eq_false (by omega)];rfl
 ·rw[decide_eq_false h,decide_eq_true (by omega)];rfl
theorem kname_yes {name:List Int}:(!((true != decide (0<name.length))||(true&&!(nameL name))))=nameL name:=by
 cases h:nameL name
 ·simp
 ·rw[decide_eq_true (nameL_pos h)];rfl
theorem hereE_eq (s k n tk tn:Int) (name:List Int) (len:Nat):hereE s k n tk tn name len=((kidsN k len==(len:Int))&&!(bad5 k name)&&!(bad7 k tk tn)&&nB s k n tk tn):=by
 unfold hereE;rcases formE_cases k with (rfl|rfl|rfl|rfl|rfl|rfl|rfl|rfl|rfl|rfl|rfl|rfl|rfl|rfl)|⟨n0,n1,n2,n3,n4,n5,n6,n7,n8,n9,n10,n11,n12,n13⟩
 ·have e5:(!(bad5 0 name))=decide (name.length=0):=zbh;rw[e5];have ek:(kidsN 0 len==(len:Int))=(decide ((0:Int)≤(len:Int))&&decide ((len:Int)≤0)):=zau 0 len;rw[ek];show (decide ((0:Int)≤(len:Int))&&decide ((len:Int)≤0)&&decide (name.length=0)&&true&&((tk==0)&&(tn==0)))=(decide ((0:Int)≤(len:Int))&&decide ((len:Int)≤0)&&decide (name.length=0)&&!(true&&!((tk==0)&&(tn==0)))&&true)
  rw[Bool.true_and,Bool.not_not];exact zaz _ _ _
 ·have e5:(!(bad5 1 name))=decide (name.length=0):=zbh;rw[e5];have ek:(kidsN 1 len==(len:Int))=(decide ((0:Int)≤(len:Int))&&decide ((len:Int)≤0)):=zau 0 len;rw[ek];show (decide ((0:Int)≤(len:Int))&&decide ((len:Int)≤0)&&decide (name.length=0)&&canon n&&((tk==0)&&(tn==0)))=(decide ((0:Int)≤(len:Int))&&decide ((len:Int)≤0)&&decide (name.length=0)&&!(true&&!((tk==0)&&(tn==0)))&&canon n)
  rw[Bool.true_and,Bool.not_not];exact zaz _ _ _
 ·have e5:(!(bad5 2 name))=decide (name.length=0):=zbh;rw[e5];have ek:(kidsN 2 len==(len:Int))=(decide ((0:Int)≤(len:Int))&&decide ((len:Int)≤0)):=zau 0 len;rw[ek];show (decide ((0:Int)≤(len:Int))&&decide ((len:Int)≤0)&&decide (name.length=0)&&(decide (0≤n)&&decide (n<s))&&((tk==0)&&(tn==0)))=(decide ((0:Int)≤(len:Int))&&decide ((len:Int)≤0)&&decide (name.length=0)&&!(true&&!((tk==0)&&(tn==0)))&&(decide (0≤n)&&decide (n<s)))
  rw[Bool.true_and,Bool.not_not];exact zaz _ _ _
 ·have e5:(!(bad5 3 name))=nameL name:=kname_yes;rw[e5];have ek:(kidsN 3 len==(len:Int))=(decide ((0:Int)≤(len:Int))&&decide ((len:Int)≤0)):=zau 0 len;rw[ek];show (decide ((0:Int)≤(len:Int))&&decide ((len:Int)≤0)&&nameL name&&(n==0)&&((tk==0)&&(tn==0)))=(decide ((0:Int)≤(len:Int))&&decide ((len:Int)≤0)&&nameL name&&!(true&&!((tk==0)&&(tn==0)))&&(n==0))
  rw[Bool.true_and,Bool.not_not];exact zaz _ _ _
 ·have e5:(!(bad5 4 name))=decide (name.length=0):=zbh;rw[e5];have ek:(kidsN 4 len==(len:Int))=(decide ((0:Int)≤(len:Int))&&decide ((len:Int)≤0)):=zau 0 len;rw[ek];show (decide ((0:Int)≤(len:Int))&&decide ((len:Int)≤0)&&decide (name.length=0)&&(decide (0≤n)&&decide (n<s))&&((tk==0)&&(tn==0)))=(decide ((0:Int)≤(len:Int))&&decide ((len:Int)≤0)&&decide (name.length=0)&&!(true&&!((tk==0)&&(tn==0)))&&(decide (0≤n)&&decide (n<s)))
  rw[Bool.true_and,Bool.not_not];exact zaz _ _ _
 ·have e5:(!(bad5 5 name))=decide (name.length=0):=zbh;rw[e5];have ek:(kidsN 5 len==(len:Int))=(decide ((1:Int)≤(len:Int))&&decide ((len:Int)≤1)):=zau 1 len;rw[ek];show (decide ((1:Int)≤(len:Int))&&decide ((len:Int)≤1)&&decide (name.length=0)&&(n==0)&&tylB tk tn s)=(decide ((1:Int)≤(len:Int))&&decide ((len:Int)≤1)&&decide (name.length=0)&&true&&((n==0)&&decide (4≤tk)&&tyB tk tn s false))
  unfold tylB;simp only[Bool.and_true,Bool.and_assoc]
 ·have e5:(!(bad5 6 name))=nameL name:=kname_yes;rw[e5]
  have ek:(kidsN 6 len==(len:Int))=(decide ((0:Int)≤(len:Int))&&decide ((len:Int)≤4)):=by
   show ((if (len:Int)≤4 then (len:Int) else -1)==(len:Int))=_;by_cases h:(len:Int)≤4
   ·rw[if_pos h,decide_eq_true h,decide_eq_true (show (0:Int)≤(len:Int) by omega)];simp
   ·rw[if_neg h,decide_eq_false h,kids_no];simp
  rw[ek];show (decide ((0:Int)≤(len:Int))&&decide ((len:Int)≤4)&&nameL name&&(n==0)&&((tk==0)&&(tn==0)))=(decide ((0:Int)≤(len:Int))&&decide ((len:Int)≤4)&&nameL name&&!(true&&!((tk==0)&&(tn==0)))&&(n==0))
  rw[Bool.true_and,Bool.not_not];exact zaz _ _ _
 ·have e5:(!(bad5 7 name))=nameL name:=kname_yes;rw[e5];have ek:(kidsN 7 len==(len:Int))=(decide ((1:Int)≤(len:Int))&&decide ((len:Int)≤1)):=zau 1 len;rw[ek];show (decide ((1:Int)≤(len:Int))&&decide ((len:Int)≤1)&&nameL name&&(n==0)&&((tk==0)&&(tn==0)))=(decide ((1:Int)≤(len:Int))&&decide ((len:Int)≤1)&&nameL name&&!(true&&!((tk==0)&&(tn==0)))&&(n==0))
  rw[Bool.true_and,Bool.not_not];exact zaz _ _ _
 ·have e5:(!(bad5 8 name))=decide (name.length=0):=zbh;rw[e5];have ek:(kidsN 8 len==(len:Int))=(decide ((2:Int)≤(len:Int))&&decide ((len:Int)≤2)):=zau 2 len;rw[ek];show (decide ((2:Int)≤(len:Int))&&decide ((len:Int)≤2)&&decide (name.length=0)&&(n==0)&&((tk==0)&&(tn==0)))=(decide ((2:Int)≤(len:Int))&&decide ((len:Int)≤2)&&decide (name.length=0)&&!(true&&!((tk==0)&&(tn==0)))&&(n==0))
  rw[Bool.true_and,Bool.not_not];exact zaz _ _ _
 ·have e5:(!(bad5 9 name))=decide (name.length=0):=zbh;rw[e5];have ek:(kidsN 9 len==(len:Int))=(decide ((1:Int)≤(len:Int))&&decide ((len:Int)≤1)):=zau 1 len;rw[ek];show (decide ((1:Int)≤(len:Int))&&decide ((len:Int)≤1)&&decide (name.length=0)&&(n==0)&&((tk==0)&&(tn==0)))=(decide ((1:Int)≤(len:Int))&&decide ((len:Int)≤1)&&decide (name.length=0)&&!(true&&!((tk==0)&&(tn==0)))&&(n==0))
  rw[Bool.true_and,Bool.not_not];exact zaz _ _ _
 ·have e5:(!(bad5 10 name))=decide (name.length=0):=zbh;rw[e5];have ek:(kidsN 10 len==(len:Int))=(decide ((2:Int)≤(len:Int))&&decide ((len:Int)≤2)):=zau 2 len;rw[ek];show (decide ((2:Int)≤(len:Int))&&decide ((len:Int)≤2)&&decide (name.length=0)&&(decide (0≤n)&&decide (n<7))&&((tk==0)&&(tn==0)))=(decide ((2:Int)≤(len:Int))&&decide ((len:Int)≤2)&&decide (name.length=0)&&!(true&&!((tk==0)&&(tn==0)))&&(decide (0≤n)&&decide (n≤6)))
  rw[le6];rw[Bool.true_and,Bool.not_not];exact zaz _ _ _
 ·have e5:(!(bad5 11 name))=decide (name.length=0):=zbh;rw[e5];have ek:(kidsN 11 len==(len:Int))=(decide ((0:Int)≤(len:Int))&&decide ((len:Int)≤0)):=zau 0 len;rw[ek];show (decide ((0:Int)≤(len:Int))&&decide ((len:Int)≤0)&&decide (name.length=0)&&(n==0)&&((tk==0)&&(tn==0)))=(decide ((0:Int)≤(len:Int))&&decide ((len:Int)≤0)&&decide (name.length=0)&&!(true&&!((tk==0)&&(tn==0)))&&(n==0))
  rw[Bool.true_and,Bool.not_not];exact zaz _ _ _
 ·have e5:(!(bad5 12 name))=decide (name.length=0):=zbh;rw[e5];have ek:(kidsN 12 len==(len:Int))=(decide ((1:Int)≤(len:Int))&&decide ((len:Int)≤1)):=zau 1 len;rw[ek];show (decide ((1:Int)≤(len:Int))&&decide ((len:Int)≤1)&&decide (name.length=0)&&(n==0)&&((tk==0)&&(tn==0)))=(decide ((1:Int)≤(len:Int))&&decide ((len:Int)≤1)&&decide (name.length=0)&&!(true&&!((tk==0)&&(tn==0)))&&(n==0))
  rw[Bool.true_and,Bool.not_not];exact zaz _ _ _
 ·have e5:(!(bad5 13 name))=decide (name.length=0):=zbh;rw[e5];have ek:(kidsN 13 len==(len:Int))=(decide ((1:Int)≤(len:Int))&&decide ((len:Int)≤1)):=zau 1 len;rw[ek];show (decide ((1:Int)≤(len:Int))&&decide ((len:Int)≤1)&&decide (name.length=0)&&(n==0)&&((tk==0)&&(tn==0)))=(decide ((1:Int)≤(len:Int))&&decide ((len:Int)≤1)&&decide (name.length=0)&&!(true&&!((tk==0)&&(tn==0)))&&(n==0))
  rw[Bool.true_and,Bool.not_not];exact zaz _ _ _
 ·have e:formE k=none:=by unfold formE;rw[if_neg n0,if_neg n1,if_neg n2,if_neg n3,if_neg n4,if_neg n5,if_neg n6,if_neg n7,if_neg n8,if_neg n9,if_neg n10,if_neg n11,if_neg n12,if_neg n13]
  have ek:kidsN k len=-1:=by unfold kidsN;rw[if_neg (by omega),if_neg (by omega),if_neg (by omega),if_neg (by omega)]
  rw[e,ek,kids_no];rfl
theorem kids_any (x:Ex) (v0 v1:Value) (a1:Option Addr) (p1:Nat) (w:World) (hv:v1=.slice a1 x.kids.length p1):Calls Tryz.prog 135 #[.agg #[.int .i64 x.kind,.int .i64 x.n,.int .i64 x.tk,.int .i64 x.tn,v0,v1]] w fun e w'=>e=.returned (.int .i64 (kidsN x.kind x.kids.length))∧Later w w':=by
 subst hv
 generalize x.kind=k
 generalize x.n=n
 generalize x.tk=tk
 generalize x.tn=tn
 generalize x.kids.length=len
 rcases formE_cases k with (rfl|rfl|rfl|rfl|rfl|rfl|rfl|rfl|rfl|rfl|rfl|rfl|rfl|rfl)|⟨n0,n1,n2,n3,n4,n5,n6,n7,n8,n9,n10,n11,n12,n13⟩
 ·go_enter Tryz.func135,Tryz.ntmps135;go_wp2_with fail
  go_ret;exact⟨rfl,later1 _ _⟩
 ·go_enter Tryz.func135,Tryz.ntmps135;go_wp2_with fail
  go_ret;exact⟨rfl,later1 _ _⟩
 ·go_enter Tryz.func135,Tryz.ntmps135;go_wp2_with fail
  go_ret;exact⟨rfl,later1 _ _⟩
 ·go_enter Tryz.func135,Tryz.ntmps135;go_wp2_with fail
  go_ret;exact⟨rfl,later1 _ _⟩
 ·go_enter Tryz.func135,Tryz.ntmps135;go_wp2_with fail
  go_ret;exact⟨rfl,later1 _ _⟩
 ·go_enter Tryz.func135,Tryz.ntmps135;go_wp2_with fail
  go_ret;exact⟨rfl,later1 _ _⟩
 ·by_cases h:(len:Int)≤4
  ·have e:kidsN 6 len=(len:Int):=by show (if (len:Int)≤4 then (len:Int) else -1)=_;rw[if_pos h]
   rw[e];go_enter Tryz.func135,Tryz.ntmps135;go_wp2_with fail
   go_ret;exact⟨rfl,later1 _ _⟩
  ·have e:kidsN 6 len=-1:=by show (if (len:Int)≤4 then (len:Int) else -1)=_;rw[if_neg h]
   rw[e];go_enter Tryz.func135,Tryz.ntmps135;go_wp2_with fail
   go_ret;exact⟨rfl,later1 _ _⟩
 ·go_enter Tryz.func135,Tryz.ntmps135;go_wp2_with fail
  go_ret;exact⟨rfl,later1 _ _⟩
 ·go_enter Tryz.func135,Tryz.ntmps135;go_wp2_with fail
  go_ret;exact⟨rfl,later1 _ _⟩
 ·go_enter Tryz.func135,Tryz.ntmps135;go_wp2_with fail
  go_ret;exact⟨rfl,later1 _ _⟩
 ·go_enter Tryz.func135,Tryz.ntmps135;go_wp2_with fail
  go_ret;exact⟨rfl,later1 _ _⟩
 ·go_enter Tryz.func135,Tryz.ntmps135;go_wp2_with fail
  go_ret;exact⟨rfl,later1 _ _⟩
 ·go_enter Tryz.func135,Tryz.ntmps135;go_wp2_with fail
  go_ret;exact⟨rfl,later1 _ _⟩
 ·go_enter Tryz.func135,Tryz.ntmps135;go_wp2_with fail
  go_ret;exact⟨rfl,later1 _ _⟩
 ·have ek:kidsN k len=-1:=by unfold kidsN;rw[if_neg (by omega),if_neg (by omega),if_neg (by omega),if_neg (by omega)]
  rw[ek];have e0:=neb n0;have e1:=neb n1;have e2:=neb n2;have e3:=neb n3;have e4:=neb n4;have e5:=neb n5;have e6:=neb n6;have e7:=neb n7;have e8:=neb n8;have e9:=neb n9;have e10:=neb n10;have e11:=neb n11;have e12:=neb n12;have e13:=neb n13;clear ek n0 n1 n2 n3 n4 n5 n6 n7 n8 n9 n10 n11 n12 n13;go_enter Tryz.func135,Tryz.ntmps135;go_wp2_with fail
  go_ret;exact⟨rfl,later1 _ _⟩
structure Cn (K:Nat) (w:World) (z:Int):Prop where
 c0:w.cell? ⟨K,0,none⟩=some (.int .i64 z)
 f0:w.frozen? ⟨K,0,none⟩=false
 lt:K<w.heap.size
theorem Cn.later {K:Nat}{w w':World}{z:Int}(h:Cn K w z) (hb:Later w w'):Cn K w' z :=
 ⟨by rw[Below.cell hb (p:=⟨K,0,none⟩) h.lt];exact h.c0,by rw[Below.frozen hb (p:=⟨K,0,none⟩) h.lt];exact h.f0,Nat.lt_of_lt_of_le h.lt hb.size⟩
def CnP (K:Nat) (w:World) (r:Option Int) (e:Ending) (w':World):Prop:=OnlyK K w w'∧match r with|some l=>e=.returned (.bool true)∧Cn K w' l|none=>e=.returned (.bool false)∧∃ z,Cn K w' z
theorem CnP.no {K:Nat}{z:Int}{w w':World}{r:Option Int}{e:Ending}(ho:OnlyK K w w') (hr:r=none) (he:e=.returned (.bool false)) (hS:Cn K w' z):CnP K w r e w':=by
 subst hr;exact⟨ho,he,z,hS⟩
theorem CnP.yes {K:Nat}{l:Int}{w w':World}{r:Option Int}{e:Ending}(ho:OnlyK K w w') (hr:r=some l) (he:e=.returned (.bool true)) (hS:Cn K w' l):CnP K w r e w':=by
 subst hr;exact⟨ho,he,hS⟩
theorem step_down {K:Nat}{w:World}{z:Int}(h:Cn K w z) (o:Obj):Cn K ((w.setCell ⟨K,0,none⟩ (.int .i64 (z - 1))).alloc o) (z - 1)∧OnlyK K w ((w.setCell ⟨K,0,none⟩ (.int .i64 (z - 1))).alloc o):=by
 have h1:Cn K (w.setCell ⟨K,0,none⟩ (.int .i64 (z - 1))) (z - 1):=⟨zdt h.c0,by rw[World.frozen?_setCell];exact h.f0,by rw[World.size_setCell];exact h.lt⟩
 exact⟨h1.later (later1 _ _),((OnlyK.refl _ _).set _ _).alloc _⟩
structure Bx (b:Nat) (w:World) (cs:List Value):Prop where
 cell:∀ i u,cs[i]?=some u→w.cell? ⟨b,i,none⟩=some u
 lt:b<w.heap.size
theorem Bx.later {b:Nat}{w w':World}{cs:List Value}(h:Bx b w cs) (hb:Later w w'):Bx b w' cs :=
 ⟨fun i u hu=>by rw[Below.cell hb (p:=⟨b,i,none⟩) h.lt];exact h.cell i u hu,Nat.lt_of_lt_of_le h.lt hb.size⟩
theorem Bx.only {b K:Nat}{w w':World}{cs:List Value}(h:Bx b w cs) (ho:OnlyK K w w') (hn:b≠K):Bx b w' cs :=
 ⟨fun i u hu=>by rw[only_cell ho b i h.lt hn];exact h.cell i u hu,Nat.lt_of_lt_of_le h.lt ho.size⟩
theorem Bx.new (w:World) (cs:List Value) (t:TypeId):Bx w.heap.size (w.alloc (.cells cs.toArray t)) cs :=
 ⟨fun i u hu=>by
  have:(w.alloc (.cells cs.toArray t)).cell? ⟨w.heap.size,i,none⟩=cs.toArray[i]?:=by simp
  rw[this,List.getElem?_toArray]
  exact hu,by simp⟩
theorem sflo_any (n:Int) (hn:InR n) (w:World):Calls Tryz.prog 114 #[.int .i64 n] w fun e w'=>∃ x,e=.returned (.float .f64 x)∧(x<18446744073709551616∧(cb x != n)=!(canon n))∧Later w w':=by
 by_cases h:nanB (fb n)=true
 ·refine (sfloat_nan n h w).mono ?_;rintro e w' ⟨rfl,rfl⟩;refine⟨_,rfl,⟨nanOf_lt 0 0 w,?_⟩,Later.drew _⟩;rw[bne,cb_nan (nanOf_nan 0 0 w)];unfold canon;rw[if_pos h]
  congr 1
  rw[Bool.eq_iff_iff,beq_iff_eq,beq_iff_eq];exact eq_comm
 ·have h':nanB (fb n)=false:=by simpa using h
  refine (sfloat_num n h' w).mono ?_;rintro e w' ⟨rfl,rfl⟩;exact⟨_,rfl,⟨fb_lt n,by rw[bne,canon_eq hn]⟩,Later.refl _⟩
theorem sexpr_one (x:Ex) (v0 v1:Value) (K:Nat) (s l d:Int) (w0 w:World) (hg:x.good) (h0:RdN w0 v0 x.name) (h1:RdL w0 6 v1 (Ex.dats x.kids)) (hL:Later w0 w) (hK:w0.heap.size≤K) (hC:Cn K w l) (hl0:0≤l) (hl1:l≤400) (hd0:0≤d) (hd1:d≤31)
  (ih:∀ (j:Nat) (hj:j<x.kids.length) (v0 v1:Value) (l d:Int) (w:World),RdN w0 v0 x.kids[j].name→RdL w0 6 v1 (Ex.dats x.kids[j].kids)→Later w0 w→Cn K w l→0≤l→l≤400→0≤d→d≤31→Calls Tryz.prog 132 #[.agg #[.int .i64 x.kids[j].kind,.int .i64 x.kids[j].n,.int .i64 x.kids[j].tk,.int .i64 x.kids[j].tn,v0,v1],.int .i64 s,.int .i64 d,.pointer (some ⟨K,0,none⟩)] w fun e w'=>CnP K w (Ex.run s d l x.kids[j]) e w') :
  Calls Tryz.prog 132 #[.agg #[.int .i64 x.kind,.int .i64 x.n,.int .i64 x.tk,.int .i64 x.tn,v0,v1],.int .i64 s,.int .i64 d,.pointer (some ⟨K,0,none⟩)] w fun e w'=>CnP K w (Ex.run s d l x) e w':=by
 have hne:w.heap.size≠K:=by have:=hC.lt;omega
 have hne':¬ K=w.heap.size:=by omega
 have hKw:=hC.lt;have hn:=Ex.good_n hg
 have HR:Hid (Ex.run s d l x=if l - 1<0∨30<d∨((kidsN x.kind x.kids.length==(x.kids.length:Int))&&!(bad5 x.kind x.name)&&!(bad7 x.kind x.tk x.tn)&&nB s x.kind x.n x.tk x.tn)=false then none else Ex.runs s (d+1) (l - 1) x.kids):=by
  show _=_;rw[Ex.run_eq,hereE_eq]
 have hkl:=fun w' a1 p1=>kids_any x v0 (.slice a1 x.kids.length p1) a1 p1 w' rfl;have hNm:=fun w' (ll:Later w0 w')=>zdw v0 x.name w' (h0.later ll).rd;obtain⟨a0,p0,rfl,hnl⟩:=h0.slice;obtain⟨a1,p1,rfl,hkn⟩:=Ex.slice h1;have hgd:=hg;clear hg hgd;obtain⟨hC1,o1⟩:=step_down hC (.cells #[.int .i64 x.kind,.int .i64 x.n,.int .i64 x.tk,.int .i64 x.tn,.slice a0 x.name.length p0,.slice a1 x.kids.length p1] 89)
 have hB1:Bx w.heap.size ((w.setCell ⟨K,0,none⟩ (.int .i64 (l - 1))).alloc (.cells #[.int .i64 x.kind,.int .i64 x.n,.int .i64 x.tk,.int .i64 x.tn,.slice a0 x.name.length p0,.slice a1 x.kids.length p1] 89)) [.int .i64 x.kind,.int .i64 x.n,.int .i64 x.tk,.int .i64 x.tn,.slice a0 x.name.length p0,.slice a1 x.kids.length p1]:=by
  have:=Bx.new (w.setCell ⟨K,0,none⟩ (.int .i64 (l - 1))) [.int .i64 x.kind,.int .i64 x.n,.int .i64 x.tk,.int .i64 x.tn,.slice a0 x.name.length p0,.slice a1 x.kids.length p1] 89
  rwa [World.size_setCell]at this
 have c0:=hC.c0;have f0:=hC.f0;have hL1:=zbf hL o1 hK;have r1:-9223372036854775808≤l - 1:=by omega
 have r2:l - 1≤9223372036854775807:=by omega
 clear hC h0
 generalize Ex.run s d l x=R at *
 generalize kidsN x.kind x.kids.length=kn at *
 have HB5:Hid (bad5 x.kind x.name=((namedB x.kind != decide (0<x.name.length))||(namedB x.kind&&!(nameL x.name)))):=rfl;have HB7:Hid (bad7 x.kind x.tk x.tn=((x.kind != 5)&&!((x.tk==0)&&(x.tn==0)))):=rfl;have HNB:Hid (∀ k,k=x.kind→nB s k x.n x.tk x.tn=nB s x.kind x.n x.tk x.tn):=fun k e=>by rw[e]
 generalize bad5 x.kind x.name=b5 at *
 generalize bad7 x.kind x.tk x.tn=b7 at *
 generalize hnb:nB s x.kind x.n x.tk x.tn=nb at *
 generalize nameL x.name=nm at *
 generalize x.kids=ks at *
 generalize x.name.length=nlen at *
 generalize x.n=n at *
 generalize x.tk=tk at *
 generalize x.tn=tn at *
 generalize x.kind=k at *
 go_enter Tryz.func132,Tryz.ntmps132;go_upto_region 2 with fail
 generalize (w.setCell ⟨K,0,none⟩ (.int .i64 (l - 1))).alloc (.cells #[.int .i64 k,.int .i64 n,.int .i64 tk,.int .i64 tn,.slice a0 nlen p0,.slice a1 ks.length p1] 89)=W1 at *
 clear c0 f0;go_cut [32] from 11 (fun s32 wc=>s32=.bool (decide (l - 1<0)||decide (30<d)||(kn != (ks.length:Int)))∧Later W1 wc)
 case first =>
  have HS:Hid (∀ w',Later W1 w'→(Later W1 w'∧w'.cell? ⟨K,0,none⟩=some (.int .i64 (l - 1))∧w'.cell? ⟨w.heap.size,0,none⟩=some (.int .i64 k)∧w'.cell? ⟨w.heap.size,1,none⟩=some (.int .i64 n)∧w'.cell? ⟨w.heap.size,2,none⟩=some (.int .i64 tk)∧w'.cell? ⟨w.heap.size,3,none⟩=some (.int .i64 tn)∧w'.cell? ⟨w.heap.size,4,none⟩=some (.slice a0 nlen p0)∧w'.cell? ⟨w.heap.size,5,none⟩=some (.slice a1 ks.length p1))):=fun w' ll=>⟨ll,(hC1.later ll).c0,(hB1.later ll).cell 0 _ rfl,(hB1.later ll).cell 1 _ rfl,(hB1.later ll).cell 2 _ rfl,(hB1.later ll).cell 3 _ rfl,(hB1.later ll).cell 4 _ rfl,(hB1.later ll).cell 5 _ rfl⟩
  have g0:=(HS.out W1 (Later.refl _)).2.1;clear ih HR h1 hC1 o1 hB1;by_cases q1:l - 1<0
  ·have q1':=decide_eq_true q1
   as_aux_lemma =>
    go_quiet (fail)
    all_goals
     go_wp2_with fail
     go_meet
     case rel=>exact⟨by rw[q1'];rfl,zar (Later.refl _) _⟩
  ·have q1':=decide_eq_false q1;by_cases q2:30<d
   ·have q2':=decide_eq_true q2
    as_aux_lemma =>
     go_quiet (fail)
     all_goals
      go_wp2_with fail
      go_meet
      case rel=>exact⟨by rw[q1',q2'];rfl,zar (Later.refl _) _⟩
   ·have q2':=decide_eq_false q2
    as_aux_lemma =>
     go_region_held3 (fun w'=>Later W1 w'∧w'.cell? ⟨K,0,none⟩=some (.int .i64 (l - 1))∧w'.cell? ⟨w.heap.size,0,none⟩=some (.int .i64 k)∧w'.cell? ⟨w.heap.size,1,none⟩=some (.int .i64 n)∧w'.cell? ⟨w.heap.size,2,none⟩=some (.int .i64 tk)∧w'.cell? ⟨w.heap.size,3,none⟩=some (.int .i64 tn)∧w'.cell? ⟨w.heap.size,4,none⟩=some (.slice a0 nlen p0)∧w'.cell? ⟨w.heap.size,5,none⟩=some (.slice a1 ks.length p1)) (first|exact HS.out _ (Later.drew _)|exact HS.out _ ((Later.drew _).trans l1)) ((go_at_call 135;refine (hkl _ _ _).mono ?_;rintro e w1 ⟨rfl,l1⟩))
     all_goals
      go_wp2_with fail
      go_meet
      case rel=>exact⟨by rw[q1',q2'];rfl,(Later.drew _).trans l1⟩
 case rest =>
  obtain⟨rfl,lc⟩:=hcut;have hCc:=hC1.later lc;have hBc:=hB1.later lc;have hLc:=hL1.trans lc;have oc:=o1.trans (OnlyK.of_later lc);clear hC1 hB1 hL1 o1 lc;by_cases hbad:(decide (l - 1<0)||decide (30<d)||(kn != (ks.length:Int)))=true
  ·have hr:R=none:=by
    rw[HR.out,if_pos];simp only[Bool.or_eq_true,decide_eq_true_eq]at hbad;rcases hbad with (h|h)|h
    ·exact .inl h
    ·exact .inr (.inl h)
    ·right;right
     have:(kn==(ks.length:Int))=false:=by rw[bne]at h;simpa using h
     rw[this];rfl
   rw[hbad];subst hr;go_wp2_with fail
   go_ret;exact CnP.no oc rfl rfl hCc
  ·have hb':(decide (l - 1<0)||decide (30<d)||(kn != (ks.length:Int)))=false:=by simpa using hbad
   rw[hb'];simp only[Bool.or_eq_false_iff,decide_eq_false_iff_not]at hb';obtain⟨⟨q1,q2⟩,q3⟩:=hb';have q3':(kn==(ks.length:Int))=true:=by rw[bne]at q3;simpa using q3
   have HR':Hid (R=if ((!b5)&&(!b7)&&nb)=false then none else Ex.runs s (d+1) (l - 1) ks):=by
    show _=_;rw[HR.out,q3',Bool.true_and];by_cases hh:((!b5)&&(!b7)&&nb)=false
    ·rw[if_pos hh,if_pos (.inr (.inr hh))]
    ·rw[if_neg hh,if_neg (by rintro (h|h|h);exact q1 h;exact q2 h;exact hh h)]
   clear hbad q3 q3' HR hkl;go_upto_region 4 with fail
   go_cut [9] from 33 (fun s9 wd=>s9=.bool (namedB k)∧wd=wc)
   case first =>
    have x0:=hBc.cell 0 _ rfl;have x1:=hBc.cell 1 _ rfl;have x2:=hBc.cell 2 _ rfl;have x3:=hBc.cell 3 _ rfl;have x4:=hBc.cell 4 _ rfl;have x5:=hBc.cell 5 _ rfl;clear ih HR' h1 hCc oc hBc hLc hNm;by_cases k3:k=3
    ·subst k3;go_wp2_with fail
     go_meet
     case rel=>exact⟨rfl,rfl⟩
    ·have k3':=neb k3;by_cases k6:k=6
     ·subst k6;go_wp2_with fail
      go_meet
      case rel=>exact⟨rfl,rfl⟩
     ·have k6':=neb k6;have HN:Hid (namedB k=(k==7)):=by show _=_;unfold namedB;rw[k3',k6'];rfl
      clear k3 k6;go_wp2_with fail
      go_meet
      case rel=>exact⟨by rw[HN.out],rfl⟩
   case rest =>
    obtain⟨rfl,hwd⟩:=hcut;obtain rfl:=hwd.symm;go_upto_region 5 with fail
    generalize namedB k=nk at *
    go_cut [60] from 46 (fun s60 wd=>s60=.bool b5∧Later wc wd)
    case first =>
     have x0:=hBc.cell 0 _ rfl;have x1:=hBc.cell 1 _ rfl;have x2:=hBc.cell 2 _ rfl;have x3:=hBc.cell 3 _ rfl;have x4:=hBc.cell 4 _ rfl;have x5:=hBc.cell 5 _ rfl;have hN1:=hNm wc hLc;clear ih HR' h1 hCc oc hBc hLc hNm;by_cases z:0<nlen
     ·have z':(0:Int)<(nlen:Int):=by omega
      have zd:=decide_eq_true z
      cases nk
      ·as_aux_lemma =>
        go_wp2_with fail
        go_meet
        case rel=>exact⟨by rw[HB5.out,zd];rfl,Later.refl _⟩
      ·as_aux_lemma =>
        go_wp2_with (go_at_call 98;refine hN1.mono ?_;rintro e w1 ⟨rfl,l1⟩)
        go_meet
        case rel=>exact⟨by rw[HB5.out,zd];rfl,l1⟩
     ·have z':¬ (0:Int)<(nlen:Int):=by omega
      have zd:=decide_eq_false z;obtain rfl:nlen=0:=by omega
      cases nk
      ·as_aux_lemma =>
        go_wp2_with fail
        go_meet
        case rel=>exact⟨by rw[HB5.out,zd];rfl,Later.refl _⟩
      ·as_aux_lemma =>
        go_wp2_with fail
        go_meet
        case rel=>exact⟨by rw[HB5.out,zd];rfl,Later.refl _⟩
    case rest =>
     obtain⟨rfl,ld⟩:=hcut;have hCd:=hCc.later ld;have hBd:=hBc.later ld;have hLd:=hLc.trans ld;have od:=oc.trans (OnlyK.of_later ld);clear hCc hBc hLc oc ld HB5 hNm
     cases b5
     ·go_upto_region 7 with fail
      go_cut [69] from 61 (fun s69 we=>s69=.bool b7∧we=wc)
      case first =>
       have x0:=hBd.cell 0 _ rfl;have x1:=hBd.cell 1 _ rfl;have x2:=hBd.cell 2 _ rfl;have x3:=hBd.cell 3 _ rfl;have x4:=hBd.cell 4 _ rfl;have x5:=hBd.cell 5 _ rfl;have hbt:=buildTy;clear ih HR' h1 hCd od hBd hLd;by_cases k5:k=5
       ·subst k5
        as_aux_lemma =>
         go_wp2_with fail
         go_meet
         case rel=>exact⟨by rw[HB7.out];rfl,rfl⟩
       ·have k5':(k != 5)=true:=by rw[bne,neb k5];rfl
        by_cases t0:tk=0
        ·subst t0;by_cases t1:tn=0
         ·subst t1
          as_aux_lemma =>
           go_wp2_with fail
           go_meet
           case rel=>exact⟨by rw[HB7.out,k5'];rfl,rfl⟩
         ·have t1':=neb t1
          as_aux_lemma =>
           go_wp2_with fail
           go_meet
           case rel=>exact⟨by rw[HB7.out,k5',t1'];rfl,rfl⟩
        ·have t0':=neb t0
         as_aux_lemma =>
          go_wp2_with fail
          go_meet
          case rel=>exact⟨by rw[HB7.out,k5',t0'];rfl,rfl⟩
      case rest =>
       obtain⟨rfl,hwd⟩:=hcut;obtain rfl:=hwd.symm
       cases b7
       ·have x0':=hBd.cell 0 _ rfl;go_upto_block 0 with fail
        go_cut [8] from 70 (fun s8 we=>s8=.bool false∧nb=true∧Later wc we)
        case first =>
         have x0:=hBd.cell 0 _ rfl;have x1:=hBd.cell 1 _ rfl;have x2:=hBd.cell 2 _ rfl;have x3:=hBd.cell 3 _ rfl;clear ih h1 HB7 hKw;by_cases k0:k=0
         ·subst k0;obtain rfl:nb=true:=hnb.symm
          as_aux_lemma =>
           go_wp2_with fail
           go_meet
           case rel=>exact⟨rfl,trivial,Later.refl _⟩
         by_cases k1:k=1
         ·subst k1;have hnb':canon n=nb:=hnb;have hF:=fun w=>sflo_any n hn w;rw[hnb']at hF
          have HS:Hid (∀ w',Later wc w'→(Later wc w'∧w'.cell? ⟨w.heap.size,1,none⟩=some (.int .i64 n))):=fun w' ll=>⟨ll,(hBd.later ll).cell 1 _ rfl⟩
          have HCo:Hid (∀ w',Later wc w'→Cn K w' (l - 1)∧OnlyK K w w'):=fun w' ll=>⟨hCd.later ll,od.trans (OnlyK.of_later ll)⟩
          clear hnb hnb' hBd hCd od hLd
          cases nb
          ·have hr:R=none:=HR'.out;subst hr
           as_aux_lemma =>
            go_wp2_with fail
            go_region_held3 (fun w'=>Later wc w'∧w'.cell? ⟨w.heap.size,1,none⟩=some (.int .i64 n)) (first|exact HS.out _ (Later.drew _)|exact HS.out _ ((Later.drew _).trans l1)) (first|(go_at_call 114;refine (hF _).mono ?_;rintro e w1 ⟨xf,rfl,⟨hx1,hx2⟩,l1⟩)|(go_at_call 113;refine (zch _ hx1 _).mono ?_;rintro e w2 ⟨rfl,hww⟩;obtain rfl:=hww.symm))
            all_goals
             go_wp2_with fail
             go_ret;exact CnP.no (HCo.out _ ((Later.drew _).trans l1)).2 rfl rfl (HCo.out _ ((Later.drew _).trans l1)).1
          ·as_aux_lemma =>
            go_wp2_with fail
            go_region_held3 (fun w'=>Later wc w'∧w'.cell? ⟨w.heap.size,1,none⟩=some (.int .i64 n)) (first|exact HS.out _ (Later.drew _)|exact HS.out _ ((Later.drew _).trans l1)) (first|(go_at_call 114;refine (hF _).mono ?_;rintro e w1 ⟨xf,rfl,⟨hx1,hx2⟩,l1⟩)|(go_at_call 113;refine (zch _ hx1 _).mono ?_;rintro e w2 ⟨rfl,hww⟩;obtain rfl:=hww.symm))
            all_goals
             go_wp2_with fail
             go_meet
             case rel=>exact⟨rfl,trivial,(Later.drew _).trans l1⟩
         have k0':=neb k0;have k1':=neb k1;by_cases k24:k=2∨k=4
         ·have hnb':(decide (0≤n)&&decide (n<s))=nb:=by rw[←hnb];unfold nB;rw[if_neg k0,if_neg k1,if_pos k24]
          clear hnb k0 k1;by_cases n0:0≤n
          ·by_cases ns:n<s
           ·rw[decide_eq_true n0,decide_eq_true ns]at hnb';obtain rfl:nb=true:=hnb'.symm;have n0':¬ n<0:=by omega
            have ns':¬ s≤n:=by omega
            rcases k24 with rfl|rfl
            all_goals
             as_aux_lemma =>
              go_wp2_with fail
              go_meet
              case rel=>exact⟨rfl,trivial,Later.refl _⟩
           ·rw[decide_eq_true n0,decide_eq_false ns]at hnb';obtain rfl:nb=false:=hnb'.symm;have n0':¬ n<0:=by omega
            have ns':s≤n:=by omega
            rcases k24 with rfl|rfl
            all_goals
             as_aux_lemma =>
              have hr:R=none:=HR'.out;subst hr;go_wp2_with fail
              go_ret;exact CnP.no od rfl rfl hCd
          ·rw[decide_eq_false n0]at hnb';obtain rfl:nb=false:=hnb'.symm;have n0':n<0:=by omega
           rcases k24 with rfl|rfl
           all_goals
            as_aux_lemma =>
             have hr:R=none:=HR'.out;subst hr;go_wp2_with fail
             go_ret;exact CnP.no od rfl rfl hCd
         have k2':(k==2)=false:=neb (fun e=>k24 (.inl e));have k4':(k==4)=false:=neb (fun e=>k24 (.inr e));by_cases k10:k=10
         ·subst k10;have hnb':(decide (0≤n)&&decide (n≤6))=nb:=hnb;clear hnb k0 k1 k24;by_cases n0:0≤n
          ·by_cases ns:n≤6
           ·rw[decide_eq_true n0,decide_eq_true ns]at hnb';obtain rfl:nb=true:=hnb'.symm;have n0':¬ n<0:=by omega
            have ns':¬ 6<n:=by omega
            as_aux_lemma =>
             go_wp2_with fail
             go_meet
             case rel=>exact⟨rfl,trivial,Later.refl _⟩
           ·rw[decide_eq_true n0,decide_eq_false ns]at hnb';obtain rfl:nb=false:=hnb'.symm;have n0':¬ n<0:=by omega
            have ns':6<n:=by omega
            as_aux_lemma =>
             have hr:R=none:=HR'.out;subst hr;go_wp2_with fail
             go_ret;exact CnP.no od rfl rfl hCd
          ·rw[decide_eq_false n0]at hnb';obtain rfl:nb=false:=hnb'.symm;have n0':n<0:=by omega
           as_aux_lemma =>
            have hr:R=none:=HR'.out;subst hr;go_wp2_with fail
            go_ret;exact CnP.no od rfl rfl hCd
         have k10':=neb k10;by_cases k5:k=5
         ·subst k5;have hnb':((n==0)&&decide (4≤tk)&&tyB tk tn s false)=nb:=hnb;have hT:=fun w=>ty_any tk tn s false w
          have HCo:Hid (∀ w',Later wc w'→Cn K w' (l - 1)∧OnlyK K w w'):=fun w' ll=>⟨hCd.later ll,od.trans (OnlyK.of_later ll)⟩
          clear hnb k0 k1 k24 k10;by_cases n0:n=0
          ·subst n0;by_cases t4:4≤tk
           ·have t4':¬ tk<4:=by omega
            have hnb2:tyB tk tn s false=nb:=by rw[←hnb',decide_eq_true t4];rfl
            rw[hnb2]at hT;clear hnb' hnb2
            cases nb
            ·have hr:R=none:=HR'.out;subst hr
             as_aux_lemma =>
              go_wp2_with (go_at_call 99;refine (hT _).mono ?_;rintro e w1 ⟨rfl,l1⟩)
              go_ret;exact CnP.no (HCo.out _ l1).2 rfl rfl (HCo.out _ l1).1
            ·as_aux_lemma =>
              go_wp2_with (go_at_call 99;refine (hT _).mono ?_;rintro e w1 ⟨rfl,l1⟩)
              go_meet
              case rel=>exact⟨rfl,trivial,l1⟩
           ·have t4':tk<4:=by omega
            rw[decide_eq_false t4]at hnb';obtain rfl:nb=false:=hnb'.symm
            as_aux_lemma =>
             have hr:R=none:=HR'.out;subst hr;go_wp2_with fail
             go_ret;exact CnP.no od rfl rfl hCd
          ·have n0':(n != 0)=true:=by rw[bne,neb n0];rfl
           rw[neb n0]at hnb';obtain rfl:nb=false:=hnb'.symm
           as_aux_lemma =>
            have hr:R=none:=HR'.out;subst hr;go_wp2_with fail
            go_ret;exact CnP.no od rfl rfl hCd
         have k5':=neb k5;have hnb':(n==0)=nb:=by rw[←hnb];unfold nB;rw[if_neg k0,if_neg k1,if_neg k24,if_neg k10,if_neg k5]
         clear hnb k0 k1 k24 k10 k5;by_cases n0:n=0
         ·subst n0;obtain rfl:nb=true:=hnb'.symm
          as_aux_lemma =>
           go_wp2_with fail
           go_meet
           case rel=>exact⟨rfl,trivial,Later.refl _⟩
         ·have n0':(n != 0)=true:=by rw[bne,neb n0];rfl
          rw[neb n0]at hnb';obtain rfl:nb=false:=hnb'.symm
          as_aux_lemma =>
           have hr:R=none:=HR'.out;subst hr;go_wp2_with fail
           go_ret;exact CnP.no od rfl rfl hCd
        case rest =>
         obtain⟨rfl,rfl,le⟩:=hcut;have hCe:=hCd.later le;have hBe:=hBd.later le;have oe:=od.trans (OnlyK.of_later le);have HR2:Hid (R=Ex.runs s (d+1) (l - 1) ks):=HR'.out;clear hCd hBd od le HB7 HR' hnb HNB;go_wp2_with fail
         go_loopw [10] (fun i wr=>∃ (j:Nat) (q:Int),i=.int .i64 (j:Int)∧j≤ks.length∧OnlyK K w wr∧Cn K wr q∧0≤q∧q≤400∧Hid (Ex.soFar s (d+1) (l - 1) ks j q)∧Bx w.heap.size wr [.int .i64 k,.int .i64 n,.int .i64 tk,.int .i64 tn,.slice a0 nlen p0,.slice a1 ks.length p1]) (fun i _=>ks.length - (intOf i).toNat)
         case atStart=>exact⟨0,l - 1,rfl,Nat.zero_le _,oe,hCe,by omega,by omega,Ex.soFar_start _ _ _ _,hBe⟩
         case round =>
          obtain⟨j,q,rfl,hj,oR,hCr,hq0,hq1,HS,hBr⟩:=hrel;have y5:=hBr.cell 5 _ rfl;have hLr:=zbf hL oR hK;by_cases hlt:j<ks.length
          ·obtain⟨g,off,u0,u1,rfl,hgs,c0,c1,c2,c3,c4,c5,r0,r1⟩:=Ex.elem h1 j hlt;have i1:(j:Int)<(ks.length:Int):=by omega
           have c0:wr.cell? ⟨g,off+j*6,none⟩=some (.int .i64 ks[j].kind):=by rw[Below.cell hLr (p:=⟨g,off+j*6,none⟩) hgs];exact c0
           have c1:wr.cell? ⟨g,off+j*6+1,none⟩=some (.int .i64 ks[j].n):=by rw[Below.cell hLr (p:=⟨g,off+j*6+1,none⟩) hgs];exact c1
           have c2:wr.cell? ⟨g,off+j*6+2,none⟩=some (.int .i64 ks[j].tk):=by rw[Below.cell hLr (p:=⟨g,off+j*6+2,none⟩) hgs];exact c2
           have c3:wr.cell? ⟨g,off+j*6+3,none⟩=some (.int .i64 ks[j].tn):=by rw[Below.cell hLr (p:=⟨g,off+j*6+3,none⟩) hgs];exact c3
           have c4:wr.cell? ⟨g,off+j*6+4,none⟩=some u0:=by rw[Below.cell hLr (p:=⟨g,off+j*6+4,none⟩) hgs];exact c4
           have c5:wr.cell? ⟨g,off+j*6+5,none⟩=some u1:=by rw[Below.cell hLr (p:=⟨g,off+j*6+5,none⟩) hgs];exact c5
           have hE:=ih j hlt u0 u1 q (d+1) wr r0 r1 hLr hCr hq0 hq1 (by omega) (by omega)
           have HN:Hid (∀ l',Ex.run s (d+1) q ks[j]=some l'→Ex.soFar s (d+1) (l - 1) ks (j+1) l'∧0≤l'∧l'<q):=fun l' hr=>⟨Ex.soFar_next HS.out hlt hr,Ex.run_le s _ _ _ _ hr⟩
           have HB:Hid (Ex.run s (d+1) q ks[j]=none→R=none):=fun hr=>HR2.out.trans (Ex.soFar_bad HS.out hlt hr);clear r0 r1 h1 HS ih
           generalize Ex.run s (d+1) q ks[j]=RR at *
           generalize ks[j].kind=z_kind at *
           generalize ks[j].n=z_n at *
           generalize ks[j].tk=z_tk at *
           generalize ks[j].tn=z_tn at *
           go_wp2_with fail
           refine hE.mono ?_;rintro e w1 ⟨o1,hm⟩;have o:=oR.trans o1;have hB1:=hBr.only o1 hne
           cases RR with
           | none =>
            obtain⟨rfl,z',hC1⟩:=hm;have hb:=HB.out rfl;subst hb;go_wp2_with fail
            go_ret;exact CnP.no o rfl rfl hC1
           | some l' =>
            obtain⟨rfl,hC1⟩:=hm;obtain⟨n1,n2,n3⟩:=HN.out l' rfl;have HN1:Hid _:=n1;clear n1 HN HB hE;go_wp2_with fail
            go_roundw
            case rel=>exact⟨j+1,l',by go_num,by omega,o,hC1,by omega,by omega,HN1,hB1⟩
            case measure=>simp[intOf];omega
          ·have i1:¬ (j:Int)<(ks.length:Int):=by omega
           have i2:decide ((j:Int)<(ks.length:Int))=false:=decide_eq_false i1;have hjj:j=ks.length:=by omega
           subst hjj;have HD:Hid (R=some q):=HR2.out.trans (Ex.soFar_done HS.out);clear h1 HS ih;go_wp2_with fail
           go_ret;exact CnP.yes oR HD.out rfl hCr
       ·have hr:R=none:=HR'.out;subst hr;go_wp2_with fail
        go_ret;exact CnP.no od rfl rfl hCd
     ·have hr:R=none:=HR'.out;subst hr;go_wp2_with fail
      go_ret;exact CnP.no od rfl rfl hCd
theorem sexpr_all (N:Nat):∀ (x:Ex) (v0 v1:Value) (K:Nat) (s l d:Int) (w0 w:World),x.sz≤N→x.good→RdN w0 v0 x.name→RdL w0 6 v1 (Ex.dats x.kids)→Later w0 w→w0.heap.size≤K→Cn K w l→0≤l→l≤400→0≤d→d≤31 →
  Calls Tryz.prog 132 #[.agg #[.int .i64 x.kind,.int .i64 x.n,.int .i64 x.tk,.int .i64 x.tn,v0,v1],.int .i64 s,.int .i64 d,.pointer (some ⟨K,0,none⟩)] w fun e w'=>CnP K w (Ex.run s d l x) e w':=by
 induction N using Nat.strongRecOn with
 | _ N IH =>
 intro x v0 v1 K s l d w0 w hN hg h0 h1 hL hK hC hl0 hl1 hd0 hd1;exact sexpr_one x v0 v1 K s l d w0 w hg h0 h1 hL hK hC hl0 hl1 hd0 hd1 (fun j hj v0 v1 l d w r0 r1 a b c e f g=>IH x.kids[j].sz (by have:=Ex.sz_at x.kids j hj;have:=Ex.kids_le x;omega) x.kids[j] v0 v1 K s l d w0 w (Nat.le_refl _) (Ex.goods_at x.kids j hj (Ex.good_kids hg)) r0 r1 a hK b c e f g)
theorem sexprK_any (x:Ex) (v0 v1:Value) (K:Nat) (s l d:Int) (w0 w:World) (hg:x.good) (h0:RdN w0 v0 x.name) (h1:RdL w0 6 v1 (Ex.dats x.kids)) (hL:Later w0 w) (hK:w0.heap.size≤K) (hC:Cn K w l) (hl0:0≤l) (hl1:l≤400) (hd0:0≤d) (hd1:d≤31) :
  Calls Tryz.prog 132 #[.agg #[.int .i64 x.kind,.int .i64 x.n,.int .i64 x.tk,.int .i64 x.tn,v0,v1],.int .i64 s,.int .i64 d,.pointer (some ⟨K,0,none⟩)] w fun e w'=>CnP K w (Ex.run s d l x) e w' :=
 sexpr_all _ x v0 v1 K s l d w0 w (Nat.le_refl _) hg h0 h1 hL hK hC hl0 hl1 hd0 hd1
def kidsS (k:Int) (len:Nat):Int:=if k=0 then 0 else if k=1 then 2 else if k=4 then (if (len:Int)≤1 then (len:Int) else -1) else if k=2∨k=3∨k=5∨k=6∨k=7 then 1 else -1
def bodyS (k:Int):Bool:=(k==2)||(k==3)
def otherS (k:Int):Bool:=k==2
def nameS (s k tk tn:Int) (name:List Int):Bool:=if k=0 then nameL name&&tyB tk tn s false else decide (name.length=0)&&((tk==0)&&(tn==0))
theorem shuffle (A N Z T B O H:Bool):((A&&N&&Z&&T)&&B&&O&&H)=(Z&&A&&B&&O&&(N&&T)&&H):=by cases A <;> cases N <;> cases Z <;> cases T <;> cases B <;> cases O <;> cases H <;> rfl
theorem hereS_eq (s k n tk tn:Int) (name:List Int) (ks:List Ex) (bl el:Nat):hereS s k n tk tn name ks bl el=((n==0)&&(kidsS k ks.length==(ks.length:Int))&&(bodyS k||decide (bl=0))&&(otherS k||decide (el=0))&&nameS s k tk tn name&&headB k ks):=by
 unfold hereS;rcases formS_cases k with (rfl|rfl|rfl|rfl|rfl|rfl|rfl|rfl)|⟨n0,n1,n2,n3,n4,n5,n6,n7⟩
 ·have ek:(kidsS 0 ks.length==(ks.length:Int))=(decide ((0:Int)≤(ks.length:Int))&&decide ((ks.length:Int)≤0)):=zau 0 ks.length;rw[ek];show ((decide ((0:Int)≤(ks.length:Int))&&decide ((ks.length:Int)≤0)&&nameL name&&(n==0)&&tyB tk tn s false)&&(false||decide (bl=0))&&(false||decide (el=0))&&headB 0 ks)=((n==0)&&(decide ((0:Int)≤(ks.length:Int))&&decide ((ks.length:Int)≤0))&&(false||decide (bl=0))&&(false||decide (el=0))&&(nameL name&&tyB tk tn s false)&&headB 0 ks)
  exact shuffle _ _ _ _ _ _ _
 ·have ek:(kidsS 1 ks.length==(ks.length:Int))=(decide ((2:Int)≤(ks.length:Int))&&decide ((ks.length:Int)≤2)):=zau 2 ks.length;rw[ek];show ((decide ((2:Int)≤(ks.length:Int))&&decide ((ks.length:Int)≤2)&&decide (name.length=0)&&(n==0)&&((tk==0)&&(tn==0)))&&(false||decide (bl=0))&&(false||decide (el=0))&&headB 1 ks)=((n==0)&&(decide ((2:Int)≤(ks.length:Int))&&decide ((ks.length:Int)≤2))&&(false||decide (bl=0))&&(false||decide (el=0))&&(decide (name.length=0)&&((tk==0)&&(tn==0)))&&headB 1 ks)
  exact shuffle _ _ _ _ _ _ _
 ·have ek:(kidsS 2 ks.length==(ks.length:Int))=(decide ((1:Int)≤(ks.length:Int))&&decide ((ks.length:Int)≤1)):=zau 1 ks.length;rw[ek];show ((decide ((1:Int)≤(ks.length:Int))&&decide ((ks.length:Int)≤1)&&decide (name.length=0)&&(n==0)&&((tk==0)&&(tn==0)))&&(true||decide (bl=0))&&(true||decide (el=0))&&headB 2 ks)=((n==0)&&(decide ((1:Int)≤(ks.length:Int))&&decide ((ks.length:Int)≤1))&&(true||decide (bl=0))&&(true||decide (el=0))&&(decide (name.length=0)&&((tk==0)&&(tn==0)))&&headB 2 ks)
  exact shuffle _ _ _ _ _ _ _
 ·have ek:(kidsS 3 ks.length==(ks.length:Int))=(decide ((1:Int)≤(ks.length:Int))&&decide ((ks.length:Int)≤1)):=zau 1 ks.length;rw[ek];show ((decide ((1:Int)≤(ks.length:Int))&&decide ((ks.length:Int)≤1)&&decide (name.length=0)&&(n==0)&&((tk==0)&&(tn==0)))&&(true||decide (bl=0))&&(false||decide (el=0))&&headB 3 ks)=((n==0)&&(decide ((1:Int)≤(ks.length:Int))&&decide ((ks.length:Int)≤1))&&(true||decide (bl=0))&&(false||decide (el=0))&&(decide (name.length=0)&&((tk==0)&&(tn==0)))&&headB 3 ks)
  exact shuffle _ _ _ _ _ _ _
 ·have ek:(kidsS 4 ks.length==(ks.length:Int))=(decide ((0:Int)≤(ks.length:Int))&&decide ((ks.length:Int)≤1)):=by
   show ((if (ks.length:Int)≤1 then (ks.length:Int) else -1)==(ks.length:Int))=_;by_cases h:(ks.length:Int)≤1
   ·rw[if_pos h,decide_eq_true h,decide_eq_true (show (0:Int)≤(ks.length:Int) by omega)];simp
   ·rw[if_neg h,decide_eq_false h,kids_no];simp
  rw[ek];show ((decide ((0:Int)≤(ks.length:Int))&&decide ((ks.length:Int)≤1)&&decide (name.length=0)&&(n==0)&&((tk==0)&&(tn==0)))&&(false||decide (bl=0))&&(false||decide (el=0))&&headB 4 ks)=((n==0)&&(decide ((0:Int)≤(ks.length:Int))&&decide ((ks.length:Int)≤1))&&(false||decide (bl=0))&&(false||decide (el=0))&&(decide (name.length=0)&&((tk==0)&&(tn==0)))&&headB 4 ks)
  exact shuffle _ _ _ _ _ _ _
 ·have ek:(kidsS 5 ks.length==(ks.length:Int))=(decide ((1:Int)≤(ks.length:Int))&&decide ((ks.length:Int)≤1)):=zau 1 ks.length;rw[ek];show ((decide ((1:Int)≤(ks.length:Int))&&decide ((ks.length:Int)≤1)&&decide (name.length=0)&&(n==0)&&((tk==0)&&(tn==0)))&&(false||decide (bl=0))&&(false||decide (el=0))&&headB 5 ks)=((n==0)&&(decide ((1:Int)≤(ks.length:Int))&&decide ((ks.length:Int)≤1))&&(false||decide (bl=0))&&(false||decide (el=0))&&(decide (name.length=0)&&((tk==0)&&(tn==0)))&&headB 5 ks)
  exact shuffle _ _ _ _ _ _ _
 ·have ek:(kidsS 6 ks.length==(ks.length:Int))=(decide ((1:Int)≤(ks.length:Int))&&decide ((ks.length:Int)≤1)):=zau 1 ks.length;rw[ek];show ((decide ((1:Int)≤(ks.length:Int))&&decide ((ks.length:Int)≤1)&&decide (name.length=0)&&(n==0)&&((tk==0)&&(tn==0)))&&(false||decide (bl=0))&&(false||decide (el=0))&&headB 6 ks)=((n==0)&&(decide ((1:Int)≤(ks.length:Int))&&decide ((ks.length:Int)≤1))&&(false||decide (bl=0))&&(false||decide (el=0))&&(decide (name.length=0)&&((tk==0)&&(tn==0)))&&headB 6 ks)
  exact shuffle _ _ _ _ _ _ _
 ·have ek:(kidsS 7 ks.length==(ks.length:Int))=(decide ((1:Int)≤(ks.length:Int))&&decide ((ks.length:Int)≤1)):=zau 1 ks.length;rw[ek];show ((decide ((1:Int)≤(ks.length:Int))&&decide ((ks.length:Int)≤1)&&decide (name.length=0)&&(n==0)&&((tk==0)&&(tn==0)))&&(false||decide (bl=0))&&(false||decide (el=0))&&headB 7 ks)=((n==0)&&(decide ((1:Int)≤(ks.length:Int))&&decide ((ks.length:Int)≤1))&&(false||decide (bl=0))&&(false||decide (el=0))&&(decide (name.length=0)&&((tk==0)&&(tn==0)))&&headB 7 ks)
  exact shuffle _ _ _ _ _ _ _
 ·have e:formS k=none:=by unfold formS;rw[if_neg n0,if_neg n1,if_neg n2,if_neg n3,if_neg n4,if_neg n5,if_neg n6,if_neg n7]
  have ek:kidsS k ks.length=-1:=by unfold kidsS;rw[if_neg n0,if_neg n1,if_neg n4,if_neg (by omega)]
  rw[e,ek,kids_no];simp
theorem sleft_any (k n tk tn:Int) (v0 v1:Value) (w:World):Calls Tryz.prog 131 #[.agg #[.int .i64 k,.int .i64 n,.int .i64 tk,.int .i64 tn,v0,v1]] w fun e w'=>e=.returned (.bool (leftB k))∧Later w w':=by
 unfold leftB
 cases h3:k==3
 ·cases h7:k==7
  all_goals
   go_enter Tryz.func131,Tryz.ntmps131;go_wp2_with fail
   go_ret;exact⟨by first|rfl|(simp;done),later1 _ _⟩
 ·go_enter Tryz.func131,Tryz.ntmps131;go_wp2_with fail
  go_ret;exact⟨rfl,later1 _ _⟩
end Go.Proofs.YtgholpilmdebmaaGreatDoor
