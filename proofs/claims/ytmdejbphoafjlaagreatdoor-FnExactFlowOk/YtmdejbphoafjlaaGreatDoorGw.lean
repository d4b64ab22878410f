/- My texts T60, T59 in one. -/
import Derived.Test.YtmdejbphoafjlaaGreatDoorGv
import Derived.Test.YtmdejbphoafjlaaGreatDoorGk
set_option maxHeartbeats 100000000
set_option maxRecDepth 100000
namespace Go.Proofs.YtmdejbphoafjlaaGreatDoor
open Go.RowKit Go.Lib
theorem word_tok {zs:List Int}{great:Bool}(h:wordL zs great=true):1≤zs.length∧zs.length≤8∧midB zs=true:=by
 unfold wordL at h
 rw[Bool.and_eq_true,Bool.and_eq_true,Bool.and_eq_true,decide_eq_true_eq,decide_eq_true_eq]at h
 obtain⟨⟨⟨h1,h8⟩,hf⟩,ht⟩:=h
 refine⟨h1,h8,?_⟩
 have hall:∀ z∈zs,z≠10:=by
  cases zs with
  | nil=>simp at h1
  | cons a r =>
   intro z hz
   rcases List.mem_cons.1 hz with rfl|hz
   ·cases great
    ·simp[low]at hf;omega
    ·simp[up]at hf;omega
   ·rw[List.all_eq_true]at ht
    have:=ht z hz
    simp[low,dig]at this
    omega
 unfold midB
 cases hl:zs.getLast? with
 | none=>rw[List.getLast?_eq_none_iff]at hl;rw[hl]at h1;simp at h1
 | some z=>simpa using hall z (List.mem_of_getLast? hl)
theorem name_tok {zs:List Int}(h:nameL zs=true):1≤zs.length∧zs.length≤8∧midB zs=true:=by
 unfold nameL at h
 rw[Bool.and_eq_true]at h
 exact word_tok h.1
def NamesS (l:List Sc):Prop:=∀ x∈l,1≤x.name.length∧x.name.length≤8∧midB x.name=true
theorem NamesS.tok {l:List Sc}(h:NamesS l):NamesTok l:=fun x hx=>⟨⟨(h x hx).1,by have:=(h x hx).2.1;omega⟩,(h x hx).2.2⟩
theorem NamesS.len {l:List Sc}(h:NamesS l) (n:Int):(nmAt l n).length≤8:=by
 unfold nmAt
 cases e:l[n.toNat]? with
 | none=>simp
 | some x=>exact (h x (List.mem_of_getElem? e)).2.1
theorem tyB_fine {l:List Sc}{k n s:Int}{no:Bool}(hs:s≤l.length) (h:tyB k n s no=true):TyFine l k n:=by
 unfold tyB at h
 refine⟨?_,?_,?_⟩
 ·split at h
  ·omega
  split at h
  ·omega
  split at h
  ·omega
  cases h
 ·split at h
  ·omega
  split at h
  ·omega
  split at h
  ·omega
  cases h
 ·intro hk
  rw[if_neg (by omega),if_neg (by omega),if_pos hk,Bool.and_eq_true,decide_eq_true_eq,decide_eq_true_eq]at h
  omega
theorem sayTy_len {l:List Sc}(hn:NamesS l) (k n:Int):(sayTy l k n).length≤15:=by
 have:=hn.len n
 unfold sayTy
 repeat' split
 all_goals simp
 all_goals omega
theorem hereE_ok {l:List Sc}{k n tk tn:Int}{nm:List Int}{m:Nat}(hg:InR n) (h:hereE (l.length:Int) k n tk tn nm m=true):NodeOk l k n tk tn nm m∧NodeTk l k n tk tn nm m∧nm.length≤8∧m≤4:=by
 unfold hereE at h
 have hk:0≤k∧k≤13:=by
  rcases Int.lt_or_le k 0 with q|q
  ·have:formE k=none:=by unfold formE;repeat (rw[if_neg (by omega)])
   rw[this]at h;cases h
  ·rcases Int.lt_or_le 13 k with q2|q2
   ·have:formE k=none:=by unfold formE;repeat (rw[if_neg (by omega)])
    rw[this]at h;cases h
   ·exact⟨q,q2⟩
 have h8:nm.length=0∨(1≤nm.length∧nm.length≤8∧midB nm=true)→nm.length≤8:=fun q=>by rcases q with q|q <;> omega
 obtain rfl|rfl|rfl|rfl|rfl|rfl|rfl|rfl|rfl|rfl|rfl|rfl|rfl|rfl:=fourteen hk.1 hk.2
 ·have hf:formE 0=some (0,0,1,0,false,false,false):=rfl
  rw[hf]at h
  simp only[fitsB,Bool.and_eq_true,decide_eq_true_eq]at h
  obtain⟨⟨⟨⟨q1,q2⟩,q3⟩,q4⟩,q5⟩:=h
  have q3':nm.length=0:=by simpa using q3
  exact⟨⟨by decide,by decide,hg,by omega,by omega,fun q=>absurd q (by decide),fun q=>absurd q (by decide),fun q=>absurd q (by decide),fun q=>absurd q (by decide),fun q=>absurd q (by decide),fun q=>absurd q (by decide)⟩,⟨fun q=>absurd q (by decide),fun q=>absurd q (by decide),fun q=>absurd q (by decide)⟩,by omega,by omega⟩
 ·have hf:formE 1=some (0,0,2,0,false,false,false):=rfl
  rw[hf]at h
  simp only[fitsB,Bool.and_eq_true,decide_eq_true_eq]at h
  obtain⟨⟨⟨⟨q1,q2⟩,q3⟩,q4⟩,q5⟩:=h
  have q3':nm.length=0:=by simpa using q3
  exact⟨⟨by decide,by decide,hg,by omega,by omega,fun q=>absurd q (by decide),fun q=>absurd q (by decide),fun q=>absurd q (by decide),fun q=>absurd q (by decide),fun q=>absurd q (by decide),fun q=>absurd q (by decide)⟩,⟨fun q=>absurd q (by decide),fun q=>absurd q (by decide),fun q=>absurd q (by decide)⟩,by omega,by omega⟩
 ·have hf:formE 2=some (0,0,3,0,false,false,false):=rfl
  rw[hf]at h
  simp only[fitsB,Bool.and_eq_true,decide_eq_true_eq]at h
  obtain⟨⟨⟨⟨q1,q2⟩,q3⟩,q4⟩,q5⟩:=h
  have q3':nm.length=0:=by simpa using q3
  have q4':0≤n∧n<(l.length:Int):=by simpa[numB] using q4
  exact⟨⟨by decide,by decide,hg,by omega,by omega,fun _=>q4',fun q=>absurd q (by decide),fun q=>absurd q (by decide),fun q=>absurd q (by decide),fun q=>absurd q (by decide),fun q=>absurd q (by decide)⟩,⟨fun q=>absurd q (by decide),fun q=>absurd q (by decide),fun q=>absurd q (by decide)⟩,by omega,by omega⟩
 ·have hf:formE 3=some (0,0,0,0,true,false,false):=rfl
  rw[hf]at h
  simp only[fitsB,Bool.and_eq_true,decide_eq_true_eq]at h
  obtain⟨⟨⟨⟨q1,q2⟩,q3⟩,q4⟩,q5⟩:=h
  have q3':=name_tok (show nameL nm=true from q3)
  exact⟨⟨by decide,by decide,hg,by omega,by omega,fun q=>absurd q (by decide),fun q=>absurd q (by decide),fun _=>q3'.1,fun q=>absurd q (by decide),fun q=>absurd q (by decide),fun q=>absurd q (by decide)⟩,⟨fun _=>q3'.2.2,fun q=>absurd q (by decide),fun q=>absurd q (by decide)⟩,by omega,by omega⟩
 ·have hf:formE 4=some (0,0,3,0,false,false,false):=rfl
  rw[hf]at h
  simp only[fitsB,Bool.and_eq_true,decide_eq_true_eq]at h
  obtain⟨⟨⟨⟨q1,q2⟩,q3⟩,q4⟩,q5⟩:=h
  have q3':nm.length=0:=by simpa using q3
  have q4':0≤n∧n<(l.length:Int):=by simpa[numB] using q4
  exact⟨⟨by decide,by decide,hg,by omega,by omega,fun _=>q4',fun q=>absurd q (by decide),fun q=>absurd q (by decide),fun q=>absurd q (by decide),fun q=>absurd q (by decide),fun q=>absurd q (by decide)⟩,⟨fun q=>absurd q (by decide),fun q=>absurd q (by decide),fun q=>absurd q (by decide)⟩,by omega,by omega⟩
 ·have hf:formE 5=some (1,1,0,2,false,false,false):=rfl
  rw[hf]at h
  simp only[fitsB,Bool.and_eq_true,decide_eq_true_eq]at h
  obtain⟨⟨⟨⟨q1,q2⟩,q3⟩,q4⟩,q5⟩:=h
  have q3':nm.length=0:=by simpa using q3
  have q5':TyFine l tk tn:=by
   have:tylB tk tn (l.length:Int)=true:=q5
   unfold tylB at this
   rw[Bool.and_eq_true]at this
   exact tyB_fine (Int.le_refl _) this.2
  exact⟨⟨by decide,by decide,hg,by omega,by omega,fun q=>absurd q (by decide),fun q=>absurd q (by decide),fun q=>absurd q (by decide),fun q=>absurd q (by decide),fun q=>absurd q (by decide),fun _=>q5'.2.2⟩,⟨fun q=>absurd q (by decide),fun q=>absurd q (by decide),fun _=>q5'⟩,by omega,by omega⟩
 ·have hf:formE 6=some (0,4,0,0,true,false,false):=rfl
  rw[hf]at h
  simp only[fitsB,Bool.and_eq_true,decide_eq_true_eq]at h
  obtain⟨⟨⟨⟨q1,q2⟩,q3⟩,q4⟩,q5⟩:=h
  have q3':=name_tok (show nameL nm=true from q3)
  exact⟨⟨by decide,by decide,hg,by omega,by omega,fun q=>absurd q (by decide),fun q=>absurd q (by decide),fun _=>q3'.1,fun q=>absurd q (by decide),fun q=>absurd q (by decide),fun q=>absurd q (by decide)⟩,⟨fun _=>q3'.2.2,fun q=>absurd q (by decide),fun q=>absurd q (by decide)⟩,by omega,by omega⟩
 ·have hf:formE 7=some (1,1,0,0,true,false,false):=rfl
  rw[hf]at h
  simp only[fitsB,Bool.and_eq_true,decide_eq_true_eq]at h
  obtain⟨⟨⟨⟨q1,q2⟩,q3⟩,q4⟩,q5⟩:=h
  have q3':=name_tok (show nameL nm=true from q3)
  exact⟨⟨by decide,by decide,hg,by omega,by omega,fun q=>absurd q (by decide),fun q=>absurd q (by decide),fun _=>q3'.1,fun _=>by omega,fun q=>absurd q (by decide),fun q=>absurd q (by decide)⟩,⟨fun _=>q3'.2.2,fun q=>absurd q (by decide),fun q=>absurd q (by decide)⟩,by omega,by omega⟩
 ·have hf:formE 8=some (2,2,0,0,false,false,false):=rfl
  rw[hf]at h
  simp only[fitsB,Bool.and_eq_true,decide_eq_true_eq]at h
  obtain⟨⟨⟨⟨q1,q2⟩,q3⟩,q4⟩,q5⟩:=h
  have q3':nm.length=0:=by simpa using q3
  exact⟨⟨by decide,by decide,hg,by omega,by omega,fun q=>absurd q (by decide),fun q=>absurd q (by decide),fun q=>absurd q (by decide),fun _=>by omega,fun _=>by omega,fun q=>absurd q (by decide)⟩,⟨fun q=>absurd q (by decide),fun _=>by omega,fun q=>absurd q (by decide)⟩,by omega,by omega⟩
 ·have hf:formE 9=some (1,1,0,0,false,false,false):=rfl
  rw[hf]at h
  simp only[fitsB,Bool.and_eq_true,decide_eq_true_eq]at h
  obtain⟨⟨⟨⟨q1,q2⟩,q3⟩,q4⟩,q5⟩:=h
  have q3':nm.length=0:=by simpa using q3
  exact⟨⟨by decide,by decide,hg,by omega,by omega,fun q=>absurd q (by decide),fun q=>absurd q (by decide),fun q=>absurd q (by decide),fun q=>absurd q (by decide),fun q=>absurd q (by decide),fun q=>absurd q (by decide)⟩,⟨fun q=>absurd q (by decide),fun q=>absurd q (by decide),fun q=>absurd q (by decide)⟩,by omega,by omega⟩
 ·have hf:formE 10=some (2,2,4,0,false,false,false):=rfl
  rw[hf]at h
  simp only[fitsB,Bool.and_eq_true,decide_eq_true_eq]at h
  obtain⟨⟨⟨⟨q1,q2⟩,q3⟩,q4⟩,q5⟩:=h
  have q3':nm.length=0:=by simpa using q3
  have q4':0≤n∧n<7:=by simpa[numB] using q4
  exact⟨⟨by decide,by decide,hg,by omega,by omega,fun q=>absurd q (by decide),fun _=>q4',fun q=>absurd q (by decide),fun _=>by omega,fun _=>by omega,fun q=>absurd q (by decide)⟩,⟨fun q=>absurd q (by decide),fun _=>by omega,fun q=>absurd q (by decide)⟩,by omega,by omega⟩
 ·have hf:formE 11=some (0,0,0,0,false,false,false):=rfl
  rw[hf]at h
  simp only[fitsB,Bool.and_eq_true,decide_eq_true_eq]at h
  obtain⟨⟨⟨⟨q1,q2⟩,q3⟩,q4⟩,q5⟩:=h
  have q3':nm.length=0:=by simpa using q3
  exact⟨⟨by decide,by decide,hg,by omega,by omega,fun q=>absurd q (by decide),fun q=>absurd q (by decide),fun q=>absurd q (by decide),fun q=>absurd q (by decide),fun q=>absurd q (by decide),fun q=>absurd q (by decide)⟩,⟨fun q=>absurd q (by decide),fun q=>absurd q (by decide),fun q=>absurd q (by decide)⟩,by omega,by omega⟩
 ·have hf:formE 12=some (1,1,0,0,false,false,false):=rfl
  rw[hf]at h
  simp only[fitsB,Bool.and_eq_true,decide_eq_true_eq]at h
  obtain⟨⟨⟨⟨q1,q2⟩,q3⟩,q4⟩,q5⟩:=h
  have q3':nm.length=0:=by simpa using q3
  exact⟨⟨by decide,by decide,hg,by omega,by omega,fun q=>absurd q (by decide),fun q=>absurd q (by decide),fun q=>absurd q (by decide),fun q=>absurd q (by decide),fun q=>absurd q (by decide),fun q=>absurd q (by decide)⟩,⟨fun q=>absurd q (by decide),fun q=>absurd q (by decide),fun q=>absurd q (by decide)⟩,by omega,by omega⟩
 ·have hf:formE 13=some (1,1,0,0,false,false,false):=rfl
  rw[hf]at h
  simp only[fitsB,Bool.and_eq_true,decide_eq_true_eq]at h
  obtain⟨⟨⟨⟨q1,q2⟩,q3⟩,q4⟩,q5⟩:=h
  have q3':nm.length=0:=by simpa using q3
  exact⟨⟨by decide,by decide,hg,by omega,by omega,fun q=>absurd q (by decide),fun q=>absurd q (by decide),fun q=>absurd q (by decide),fun q=>absurd q (by decide),fun q=>absurd q (by decide),fun q=>absurd q (by decide)⟩,⟨fun q=>absurd q (by decide),fun q=>absurd q (by decide),fun q=>absurd q (by decide)⟩,by omega,by omega⟩
def sumL:List (List Int)→Nat
 | []=>0
 | t::r=>t.length+2+sumL r
theorem joinL_sum (ts:List (List Int)):(joinL ts).length≤sumL ts:=by
 have h:∀ r:List (List Int),(tailL r).length=sumL r:=by
  intro r
  induction r with
  | nil=>rfl
  | cons x r ih=>rw[tailL,sumL,List.length_append,List.length_append,ih];simp;omega
 cases ts with
 | nil=>simp[joinL]
 | cons x r=>rw[joinL,sumL,List.length_append,h];omega
theorem kid0_sum (ts:List (List Int)):(kidL ts 0).length≤sumL ts:=by
 cases ts with
 | nil=>simp[kidL]
 | cons x r=>rw[sumL];simp[kidL];omega
theorem kid1_sum (ts:List (List Int)):(kidL ts 0).length+(kidL ts 1).length≤sumL ts:=by
 match ts with
 | []=>simp[kidL]
 | [x]=>simp[kidL,sumL]
 | x::y::r=>simp[kidL,sumL];omega
theorem exL_len {l:List Sc}(hn:NamesS l) (k n tk tn:Int) (nm:List Int) (h8:nm.length≤8) (ts:List (List Int)):(exL l k n tk tn nm ts).length≤60+sumL ts:=by
 have h1:=joinL_sum ts
 have h2:=kid0_sum ts
 have h3:=kid1_sum ts
 have h4:=sayTy_len hn tk tn
 have h5:=hn.len n
 have h6:=decL_len n
 have h7:=hexL_len n
 have h9:(opL n).length≤2:=by
  unfold opL
  repeat' split
  all_goals simp
 have h10:(headL l k tk tn nm).length≤25:=by
  unfold headL
  repeat' split
  all_goals simp
  all_goals omega
 unfold exL
 repeat' split
 all_goals simp only[List.length_append,List.length_cons,List.length_nil]
 all_goals omega
mutual
theorem Ex.run_fine {l:List Sc}(hn:NamesS l):∀ (x:Ex) (d l0 l1:Int),x.good→Ex.run (l.length:Int) d l0 x=some l1→Ex.FineI l x∧((Ex.say l x).length:Int)+2≤100*(l0 - l1)
 | .mk k n tk tn nm ks,d,l0,l1,hg,h=>by
  rw[Ex.run]at h
  rw[Ex.good]at hg
  split at h
  ·cases h
  ·rename_i hc
   have hh:hereE (l.length:Int) k n tk tn nm ks.length=true:=by
    cases q:hereE (l.length:Int) k n tk tn nm ks.length
    ·exact absurd (.inr (.inr q)) hc
    ·rfl
   obtain⟨a1,a2,a3,a4⟩:=hereE_ok hg.1 hh
   obtain⟨b1,b2⟩:=Ex.runs_fine hn ks _ _ _ hg.2 h
   refine⟨.mk a1 a2 b1,?_⟩
   rw[Ex.say]
   have:=exL_len hn k n tk tn nm a3 (Ex.says l ks)
   omega
theorem Ex.runs_fine {l:List Sc}(hn:NamesS l):∀ (xs:List Ex) (d l0 l1:Int),Ex.goods xs→Ex.runs (l.length:Int) d l0 xs=some l1→(∀ x∈xs,Ex.FineI l x)∧(sumL (Ex.says l xs):Int)≤100*(l0 - l1)
 | [],d,l0,l1,hg,h=>by rw[Ex.runs]at h;cases h;exact⟨fun x hx=>(List.not_mem_nil hx).elim,by rw[Ex.says,sumL];omega⟩
 | x::r,d,l0,l1,hg,h=>by
  rw[Ex.runs]at h
  rw[Ex.goods]at hg
  split at h
  ·cases h
  ·rename_i l2 h2
   obtain⟨a1,a2⟩:=Ex.run_fine hn x d l0 l2 hg.1 h2
   obtain⟨b1,b2⟩:=Ex.runs_fine hn r d l2 l1 hg.2 h
   refine⟨fun y hy=>?_,?_⟩
   ·rcases List.mem_cons.1 hy with rfl|hy
    ·exact a1
    ·exact b1 y hy
   ·rw[Ex.says,sumL];omega
end
theorem hereS_ok {l:List Sc}{k n tk tn:Int}{nm:List Int}{ks:List Ex}{b e:Nat}(h:hereS (l.length:Int) k n tk tn nm ks b e=true):StNodeI l k tk tn nm ks.length∧nm.length≤8:=by
 unfold hereS at h
 have hk:0≤k∧k≤7:=by
  rcases Int.lt_or_le k 0 with q|q
  ·have:formS k=none:=by unfold formS;repeat (rw[if_neg (by omega)])
   rw[this]at h;cases h
  ·rcases Int.lt_or_le 7 k with q2|q2
   ·have:formS k=none:=by unfold formS;repeat (rw[if_neg (by omega)])
    rw[this]at h;cases h
   ·exact⟨q,q2⟩
 obtain rfl|rfl|rfl|rfl|rfl|rfl|rfl|rfl:=eight hk.1 hk.2
 ·have hf:formS 0=some (0,0,0,1,true,false,false):=rfl
  rw[hf]at h
  simp only[fitsB,Bool.and_eq_true,decide_eq_true_eq]at h
  obtain⟨⟨⟨⟨⟨⟨⟨q1,q2⟩,q3⟩,q4⟩,q5⟩,_⟩,_⟩,_⟩:=h
  have q3':=name_tok (show nameL nm=true from q3)
  have q5':TyFine l tk tn:=tyB_fine (Int.le_refl _) (show tyB tk tn (l.length:Int) false=true from q5)
  exact⟨⟨⟨by decide,by decide,fun _=>q3'.1,fun _=>q5'.2.2,fun q=>absurd q (by decide),fun q=>absurd q (by decide)⟩,fun _=>q3'.2.2,fun _=>q5',fun q=>absurd q (by decide),fun q=>absurd q (by decide),fun q=>absurd q (by decide)⟩,by omega⟩
 ·have hf:formS 1=some (2,2,0,0,false,false,false):=rfl
  rw[hf]at h
  simp only[fitsB,Bool.and_eq_true,decide_eq_true_eq]at h
  obtain⟨⟨⟨⟨⟨⟨⟨q1,q2⟩,q3⟩,q4⟩,q5⟩,_⟩,_⟩,_⟩:=h
  have q3':nm.length=0:=by simpa using q3
  exact⟨⟨⟨by decide,by decide,fun q=>absurd q (by decide),fun q=>absurd q (by decide),fun _=>by omega,fun q=>absurd q (by decide)⟩,fun q=>absurd q (by decide),fun q=>absurd q (by decide),fun _=>by omega,fun q=>absurd q (by decide),fun q=>absurd q (by decide)⟩,by omega⟩
 ·have hf:formS 2=some (1,1,0,0,false,true,true):=rfl
  rw[hf]at h
  simp only[fitsB,Bool.and_eq_true,decide_eq_true_eq]at h
  obtain⟨⟨⟨⟨⟨⟨⟨q1,q2⟩,q3⟩,q4⟩,q5⟩,_⟩,_⟩,_⟩:=h
  have q3':nm.length=0:=by simpa using q3
  exact⟨⟨⟨by decide,by decide,fun q=>absurd q (by decide),fun q=>absurd q (by decide),fun q=>absurd q (by decide),fun _=>by omega⟩,fun q=>absurd q (by decide),fun q=>absurd q (by decide),fun q=>absurd q (by decide),fun q=>absurd q (by decide),fun q=>absurd q (by decide)⟩,by omega⟩
 ·have hf:formS 3=some (1,1,0,0,false,true,false):=rfl
  rw[hf]at h
  simp only[fitsB,Bool.and_eq_true,decide_eq_true_eq]at h
  obtain⟨⟨⟨⟨⟨⟨⟨q1,q2⟩,q3⟩,q4⟩,q5⟩,_⟩,_⟩,_⟩:=h
  have q3':nm.length=0:=by simpa using q3
  exact⟨⟨⟨by decide,by decide,fun q=>absurd q (by decide),fun q=>absurd q (by decide),fun q=>absurd q (by decide),fun _=>by omega⟩,fun q=>absurd q (by decide),fun q=>absurd q (by decide),fun q=>absurd q (by decide),fun q=>absurd q (by decide),fun q=>absurd q (by decide)⟩,by omega⟩
 ·have hf:formS 4=some (0,1,0,0,false,false,false):=rfl
  rw[hf]at h
  simp only[fitsB,Bool.and_eq_true,decide_eq_true_eq]at h
  obtain⟨⟨⟨⟨⟨⟨⟨q1,q2⟩,q3⟩,q4⟩,q5⟩,_⟩,_⟩,_⟩:=h
  have q3':nm.length=0:=by simpa using q3
  exact⟨⟨⟨by decide,by decide,fun q=>absurd q (by decide),fun q=>absurd q (by decide),fun q=>absurd q (by decide),fun q=>absurd q (by decide)⟩,fun q=>absurd q (by decide),fun q=>absurd q (by decide),fun q=>absurd q (by decide),fun _=>by omega,fun q=>absurd q (by decide)⟩,by omega⟩
 ·have hf:formS 5=some (1,1,0,0,false,false,false):=rfl
  rw[hf]at h
  simp only[fitsB,Bool.and_eq_true,decide_eq_true_eq]at h
  obtain⟨⟨⟨⟨⟨⟨⟨q1,q2⟩,q3⟩,q4⟩,q5⟩,_⟩,_⟩,_⟩:=h
  have q3':nm.length=0:=by simpa using q3
  exact⟨⟨⟨by decide,by decide,fun q=>absurd q (by decide),fun q=>absurd q (by decide),fun q=>absurd q (by decide),fun _=>by omega⟩,fun q=>absurd q (by decide),fun q=>absurd q (by decide),fun q=>absurd q (by decide),fun q=>absurd q (by decide),fun _=>by omega⟩,by omega⟩
 ·have hf:formS 6=some (1,1,0,0,false,false,false):=rfl
  rw[hf]at h
  simp only[fitsB,Bool.and_eq_true,decide_eq_true_eq]at h
  obtain⟨⟨⟨⟨⟨⟨⟨q1,q2⟩,q3⟩,q4⟩,q5⟩,_⟩,_⟩,_⟩:=h
  have q3':nm.length=0:=by simpa using q3
  exact⟨⟨⟨by decide,by decide,fun q=>absurd q (by decide),fun q=>absurd q (by decide),fun q=>absurd q (by decide),fun _=>by omega⟩,fun q=>absurd q (by decide),fun q=>absurd q (by decide),fun q=>absurd q (by decide),fun q=>absurd q (by decide),fun _=>by omega⟩,by omega⟩
 ·have hf:formS 7=some (1,1,0,0,false,false,false):=rfl
  rw[hf]at h
  simp only[fitsB,Bool.and_eq_true,decide_eq_true_eq]at h
  obtain⟨⟨⟨⟨⟨⟨⟨q1,q2⟩,q3⟩,q4⟩,q5⟩,_⟩,_⟩,_⟩:=h
  have q3':nm.length=0:=by simpa using q3
  exact⟨⟨⟨by decide,by decide,fun q=>absurd q (by decide),fun q=>absurd q (by decide),fun q=>absurd q (by decide),fun _=>by omega⟩,fun q=>absurd q (by decide),fun q=>absurd q (by decide),fun q=>absurd q (by decide),fun q=>absurd q (by decide),fun _=>by omega⟩,by omega⟩
theorem stL_len {l:List Sc}(hn:NamesS l) (k tk tn:Int) (nm:List Int) (h8:nm.length≤8) (ts:List (List Int)) (b e:List Int):(stL l k tk tn nm ts b e).length≤60+sumL ts+b.length+e.length:=by
 have h2:=kid0_sum ts
 have h3:=kid1_sum ts
 have h4:=sayTy_len hn tk tn
 have hb:∀ t,(blockL t).length=t.length+4:=fun t=>by unfold blockL;simp
 have b1:=hb b
 have e1:=hb e
 unfold stL
 repeat' split
 all_goals simp only[List.length_append,List.length_cons,List.length_nil,List.length_drop]
 all_goals omega
mutual
theorem St.run_fine {l:List Sc}(hn:NamesS l):∀ (x:St) (d l0 l1:Int),x.good→l0≤400→St.run (l.length:Int) d l0 x=some l1→St.FineI l x∧((St.say l x).length:Int)≤100*(l0 - l1)
 | .mk k n tk tn nm ks bo el,d,l0,l1,hg,h400,h=>by
  have hle:=St.run_le _ _ _ _ _ h
  rw[St.run]at h
  rw[St.good]at hg
  split at h
  ·cases h
  ·rename_i hc
   split at h
   ·cases h
   ·rename_i m1 h1
    split at h
    ·cases h
    ·rename_i m2 h2
     have hh:hereS (l.length:Int) k n tk tn nm ks bo.length el.length=true:=by
      cases q:hereS (l.length:Int) k n tk tn nm ks bo.length el.length
      ·exact absurd (.inr (.inr q)) hc
      ·rfl
     obtain⟨a1,a2⟩:=hereS_ok hh
     have c1:=Ex.runs_le _ _ _ _ _ h1
     have c2:=St.runs_le _ _ _ _ _ h2
     have c3:=St.runs_le _ _ _ _ _ h
     have d1:=c1.2 (by omega)
     have d2:=c2.2 d1
     have d3:=c3.2 d2
     obtain⟨b1,b2⟩:=Ex.runs_fine hn ks _ _ _ hg.2.1 h1
     obtain⟨b3,b4,b5⟩:=St.runs_fine hn bo _ _ _ hg.2.2.1 (by omega) h2
     obtain⟨b6,b7,b8⟩:=St.runs_fine hn el _ _ _ hg.2.2.2 (by omega) h
     refine⟨.mk a1 ⟨by omega,by omega⟩ b1 b3 b6,?_⟩
     rw[St.say]
     have:=stL_len hn k tk tn nm a2 (Ex.says l ks) (St.says l bo) (St.says l el)
     omega
theorem St.runs_fine {l:List Sc}(hn:NamesS l):∀ (xs:List St) (d l0 l1:Int),St.goods xs→l0≤400→St.runs (l.length:Int) d l0 xs=some l1→(∀ x∈xs,St.FineI l x)∧((St.says l xs).length:Int)≤100*(l0 - l1)∧(xs.length:Int)≤l0 - l1
 | [],d,l0,l1,hg,_,h=>by rw[St.runs]at h;cases h;exact⟨fun x hx=>(List.not_mem_nil hx).elim,by rw[St.says];simp,by simp⟩
 | x::r,d,l0,l1,hg,h400,h=>by
  rw[St.runs]at h
  rw[St.goods]at hg
  split at h
  ·cases h
  ·rename_i l2 h2
   have hle:=St.run_le _ _ _ _ _ h2
   obtain⟨a1,a2⟩:=St.run_fine hn x d l0 l2 hg.1 h400 h2
   obtain⟨b1,b2,b3⟩:=St.runs_fine hn r d l2 l1 hg.2 (by omega) h
   refine⟨fun y hy=>?_,?_,?_⟩
   ·rcases List.mem_cons.1 hy with rfl|hy
    ·exact a1
    ·exact b1 y hy
   ·rw[St.says,List.length_append];omega
   ·rw[List.length_cons];omega
end
theorem paramB_fine {l:List Sc}{most s:Int}{xs:List Pa}(hs:s≤l.length) (h:paramB most s xs=true):(xs.length:Int)≤most∧∀ p∈xs,PaFineI l p∧p.name.length≤8:=by
 unfold paramB at h
 rw[Bool.and_eq_true,decide_eq_true_eq,List.all_eq_true]at h
 refine⟨h.1,fun p hp=>?_⟩
 have:=h.2 p hp
 unfold paOk at this
 rw[Bool.and_eq_true]at this
 have hn:=name_tok this.1
 exact⟨⟨hn.1,hn.2.2,tyB_fine hs this.2⟩,hn.2.1⟩
theorem paL_len {l:List Sc}(hn:NamesS l) (p:Pa) (h:p.name.length≤8):(paL l p).length≤23:=by
 have:=sayTy_len hn p.tk p.tn
 unfold paL
 rw[List.length_append]
 omega
structure SoFineI (x:So):Prop where
 names:NamesTok x.structs
 fs:∀ s∈x.structs,∀ p∈s.fields,PaFineI x.structs p
 few:∀ s∈x.structs,s.fields.length≤1000
 fu:∀ f∈x.funcs,FuFineI x.structs f
 few1:x.structs.length≤1000
 few2:x.funcs.length≤1000
 len:x.text.length≤900000
theorem SoFineI.fine {x:So}(h:SoFineI x):SoFine x:=⟨h.names.fit,fun s hs p hp=>(h.fs s hs p hp).fine,h.few,fun f hf=>(h.fu f hf).fine,h.few1,h.few2,by have:=h.len;omega⟩
theorem fieldsL_len {l:List Sc}(hn:NamesS l):∀ (xs:List Pa),(∀ p∈xs,p.name.length≤8)→(fieldsL l xs).length≤26*xs.length
 | [],_=>by simp[fieldsL]
 | p::r,h=>by
  have a:=paL_len hn p (h p (List.mem_cons_self ..))
  have b:=fieldsL_len hn r (fun q hq=>h q (List.mem_cons_of_mem _ hq))
  rw[fieldsL]
  simp only[List.length_append,List.length_cons,List.length_nil]
  omega
theorem scsL_len {l:List Sc}(hn:NamesS l):∀ (xs:List Sc),(∀ x∈xs,x.name.length≤8∧x.fields.length≤5∧∀ p∈x.fields,p.name.length≤8)→(scsL l xs).length≤200*xs.length
 | [],_=>by simp[scsL]
 | x::r,h=>by
  obtain⟨h1,h2,h3⟩:=h x (List.mem_cons_self ..)
  have a:=fieldsL_len hn x.fields h3
  have b:=scsL_len hn r (fun q hq=>h q (List.mem_cons_of_mem _ hq))
  rw[scsL]
  unfold scL
  simp only[List.length_append,List.length_cons,List.length_nil]
  omega
theorem params_len {l:List Sc}(hn:NamesS l):∀ (xs:List Pa),(∀ p∈xs,p.name.length≤8)→sumL (xs.map fun p=>32::paL l p)≤26*xs.length
 | [],_=>by simp[sumL]
 | p::r,h=>by
  have a:=paL_len hn p (h p (List.mem_cons_self ..))
  have b:=params_len hn r (fun q hq=>h q (List.mem_cons_of_mem _ hq))
  rw[List.map_cons,sumL]
  simp only[List.length_cons]
  omega
theorem Fu.run_fine {l:List Sc}(hn:NamesS l) (x:Fu) (l0 l1:Int) (hg:x.good) (h0:0≤l0) (h400:l0≤400) (h:Fu.run (l.length:Int) l0 x=some l1):FuFineI l x∧((fuL l x).length:Int)≤200+100*(l0 - l1):=by
 unfold Fu.run headF at h
 split at h
 ·rename_i hc
  rw[Bool.and_eq_true,Bool.and_eq_true]at hc
  obtain⟨⟨c1,c2⟩,c3⟩:=hc
  have n1:=name_tok c1
  obtain⟨p1,p2⟩:=paramB_fine (Int.le_refl _) c2
  have t1:=tyB_fine (Int.le_refl _) c3
  obtain⟨b1,b2,b3⟩:=St.runs_fine hn x.body _ _ _ hg h400 h
  have hle:=(St.runs_le _ _ _ _ _ h).2 h0
  refine⟨⟨n1.1,n1.2.2,fun p hp=>(p2 p hp).1,by omega,t1,by omega,b1⟩,?_⟩
  have a1:=joinL_sum (x.params.map fun p=>32::paL l p)
  have a2:=params_len hn x.params (fun p hp=>(p2 p hp).2)
  have a3:=sayTy_len hn x.rk x.rn
  unfold fuL blockL
  simp only[List.length_append,List.length_cons,List.length_nil]
  omega
 ·cases h
theorem Fu.runs_fine {l:List Sc}(hn:NamesS l):∀ (xs:List Fu) (l0 l1:Int),(∀ x∈xs,x.good)→0≤l0→l0≤400→Fu.runs (l.length:Int) l0 xs=some l1→(∀ x∈xs,FuFineI l x)∧((fusL l xs).length:Int)≤200*xs.length+100*(l0 - l1)
 | [],l0,l1,hg,_,_,h=>by rw[Fu.runs]at h;cases h;exact⟨fun x hx=>(List.not_mem_nil hx).elim,by simp[fusL]⟩
 | x::r,l0,l1,hg,h0,h400,h=>by
  rw[Fu.runs]at h
  split at h
  ·cases h
  ·rename_i l2 h2
   obtain⟨a1,a2⟩:=Fu.run_fine hn x l0 l2 (hg x (List.mem_cons_self ..)) h0 h400 h2
   have hle:l2≤l0∧(0≤l0→0≤l2):=by
    have:=Fu.runs_le (l.length:Int) [x] l0 l2 (by rw[Fu.runs,h2];rfl)
    exact this
   obtain⟨b1,b2⟩:=Fu.runs_fine hn r l2 l1 (fun y hy=>hg y (List.mem_cons_of_mem _ hy)) (hle.2 h0) (by omega) h
   refine⟨fun y hy=>?_,?_⟩
   ·rcases List.mem_cons.1 hy with rfl|hy
    ·exact a1
    ·exact b1 y hy
   ·rw[fusL,List.length_append,List.length_cons];omega
theorem So.run_fine {x:So}{q:Int}(hg:Fu.goods x.funcs) (h:So.run x=some q):SoFineI x:=by
 unfold So.run at h
 split at h
 ·rename_i hc
  rw[Bool.and_eq_true,decide_eq_true_eq,structB_iff]at hc
  obtain⟨⟨h6,hone⟩,h8⟩:=hc
  have hone':∀ s∈x.structs,(1≤s.name.length∧s.name.length≤8∧midB s.name=true)∧s.fields.length≤5∧∀ p∈s.fields,PaFineI x.structs p∧p.name.length≤8:=fun s hs=>by
   obtain⟨i,hi,rfl⟩:=List.mem_iff_getElem.1 hs
   have:=hone i hi
   unfold oneB at this
   rw[Bool.and_eq_true,Bool.and_eq_true]at this
   obtain⟨p1,p2⟩:=paramB_fine (l:=x.structs) (by omega) this.2
   exact⟨word_tok this.1.1,by omega,p2⟩
  have hn:NamesS x.structs:=fun s hs=>(hone' s hs).1
  have hgm:∀ f∈x.funcs,f.good:=fun f hf=>by
   obtain⟨i,hi,rfl⟩:=List.mem_iff_getElem.1 hf
   exact hg i hi
  obtain⟨a1,a2⟩:=Fu.runs_fine hn x.funcs 400 q hgm (by omega) (Int.le_refl _) h
  have hq:=(Fu.runs_le _ _ _ _ h).2 (by omega)
  have a3:=scsL_len hn x.structs (fun s hs=>⟨(hone' s hs).1.2.1,(hone' s hs).2.1,fun p hp=>((hone' s hs).2.2 p hp).2⟩)
  refine⟨hn.tok,fun s hs p hp=>((hone' s hs).2.2 p hp).1,fun s hs=>by have:=(hone' s hs).2.1;omega,a1,by omega,by omega,?_⟩
  unfold So.text
  rw[List.length_append]
  omega
 ·cases h
theorem scL_line (l:List Sc) (x:Sc) (b:List Int):midB (b++scL l x)=false:=by
 unfold scL
 rw[show ([125,10]:List Int)=[125]++[10] from rfl,← List.append_assoc,← List.append_assoc]
 exact midB_line _
theorem fuL_line (l:List Sc) (x:Fu) (b:List Int):midB (b++fuL l x)=false:=by
 unfold fuL
 rw[←List.append_assoc]
 exact midB_line _
theorem buildPr (a:Option Addr) (n c:Nat) (w:World):(Instr.build 145 #[(0,.slice a n c)]).run Tryz.prog w=.ok (.agg #[.slice a n c,.slice none 0 0]) w:=run_build w 145 _ _ (by kernel_rfl)
def IPrintP (x:So) (w:World) (e:Ending) (w':World):Prop:=Later w w'∧((x.run.isSome=true∧x.text.length≤6000∧∃ v,e=.returned (.tuple #[v,.bool true])∧w'.ownsRow w.heap.size 5 1 v x.text.length (x.text.map (Value.int .u8)))∨(¬ (x.run.isSome=true∧x.text.length≤6000)∧e=.returned (.tuple #[.slice none 0 0,.bool false])))
theorem iprint_any (x:So) (v0 v1:Value) (w:World) (hE:Env w) (hg:Fu.goods x.funcs) (h0:RdL w 2 v0 (Sc.dats x.structs)) (h1:RdL w 5 v1 (Fu.dats x.funcs)) :
  Calls Tryz.prog 57 #[.agg #[v0,v1]] w (IPrintP x w):=by
 obtain⟨sa,scap,rfl,hsl⟩:=Sc.slice h0
 obtain⟨fa,fcap,rfl,hfl⟩:=Fu.slice h1
 obtain⟨w1,hw1⟩:=hid_ex (w.alloc (.cells #[.slice sa x.structs.length scap,.slice fa x.funcs.length fcap] 31))
 have hbx:BxT w.heap.size w1 [.slice sa x.structs.length scap,.slice fa x.funcs.length fcap] 31:=by rw[hw1.out];exact BxT.new w _ _
 have hL1:Later w w1:=by rw[hw1.out];exact later1 _ _
 have hC:=icount_any x _ _ w1 hg (h0.later hL1) (h1.later hL1)
 have hsz:w.heap.size<w1.heap.size:=by rw[hw1.out];simp
 have hfine:=fun q (h:So.run x=some q)=>So.run_fine hg h
 obtain⟨l,fu⟩:=x
 have hfine':So.run (.mk l fu)≠none→SoFineI (.mk l fu):=fun h=>by
  cases e:So.run (.mk l fu) with
  | none=>exact absurd e h
  | some q=>exact hfine q e
 replace h0:RdL w 2 (.slice sa l.length scap) (Sc.dats l):=h0
 replace h1:RdL w 5 (.slice fa fu.length fcap) (Fu.dats fu):=h1
 replace hbx:BxT w.heap.size w1 [.slice sa l.length scap,.slice fa fu.length fcap] 31:=hbx
 replace hC:Calls Tryz.prog 104 #[.agg #[.slice sa l.length scap,.slice fa fu.length fcap]] w1 (CntP (.mk l fu) w1):=hC
 replace hw1:Hid (w1=w.alloc (.cells #[.slice sa l.length scap,.slice fa fu.length fcap] 31)):=hw1
 show Calls Tryz.prog 57 #[.agg #[.slice sa l.length scap,.slice fa fu.length fcap]] w (IPrintP (.mk l fu) w)
 obtain⟨x,hx⟩:=hid_ex (So.mk l fu)
 rw[←hx.out]at hC hfine' ⊢
 have htx:Hid (x.text=scsL l l++fusL l fu):=by rw[hx.out];rfl
 have hHC:=hC
 clear hC hfine hg
 go_enter Tryz.func57,Tryz.ntmps57
 go_wp2_with fail
 rw[←hw1.out]
 refine hHC.mono ?_
 rintro e w2 ⟨rfl,hL2⟩
 have HN:Hid (∀ w',Later w w'→¬ (x.run.isSome=true∧x.text.length≤6000)→IPrintP x w (.returned (.tuple #[.slice none 0 0,.bool false])) w'):=fun w' hw hn=>⟨hw,.inr ⟨hn,rfl⟩⟩
 have HY:Hid (∀ w' v,Later w w'→x.run.isSome=true→x.text.length≤6000→w'.ownsRow w.heap.size 5 1 v x.text.length (x.text.map (Value.int .u8))→IPrintP x w (.returned (.tuple #[v,.bool true])) w'):=fun w' v hw hr hl ho=>⟨hw,.inl ⟨hr,hl,v,rfl,ho⟩⟩
 generalize hQ:IPrintP x w=Q at *
 clear hQ
 have hL12:=hL1.trans hL2
 have hsz2:w.heap.size<w2.heap.size:=Nat.lt_of_lt_of_le hsz hL2.size
 have hbx2:BxT w.heap.size w2 [.slice sa l.length scap,.slice fa fu.length fcap] 31:=by unfold BxT at hbx ⊢;rw[hL2.block _ hsz];exact hbx
 generalize hpt:So.parts x=pt
 clear hpt
 cases hr:x.run.isSome with
 | false =>
  have HN':=HN.out _ hL12 (by rw[hr];rintro ⟨h,_⟩;cases h)
  clear HN HY
  go_wp2_with fail
  exact HN'
 | true =>
  have hF:=hfine' (by intro e;rw[e]at hr;cases hr)
  have hnm:NamesTok l:=by have:=hF.names;rw[hx.out]at this;exact this
  have hfs:∀ s∈l,∀ p∈s.fields,PaFineI l p:=by have:=hF.fs;rw[hx.out]at this;exact this
  have hfw:∀ s∈l,s.fields.length≤1000:=by have:=hF.few;rw[hx.out]at this;exact this
  have hfu:∀ f∈fu,FuFineI l f:=by have:=hF.fu;rw[hx.out]at this;exact this
  have hln:(scsL l l).length+(fusL l fu).length≤900000:=by have:=hF.len;rw[htx.out,List.length_append]at this;exact this
  have hl1:l.length≤1000:=by have:=hF.few1;rw[hx.out]at this;exact this
  have hl2:fu.length≤1000:=by have:=hF.few2;rw[hx.out]at this;exact this
  have hHr:Hid (x.run.isSome=true):=hr
  clear hr hF hfine'
  have q0:=hbx2.cell 0 _ rfl
  have q1:=hbx2.cell 1 _ rfl
  obtain⟨w3,hw3⟩:=hid_ex (w2.alloc (.cells #[.slice sa l.length scap,.slice none 0 0] 145))
  have hp3:Pr w2.heap.size w3 w w3 (.slice sa l.length scap) (.slice none 0 0) []:=by
   refine⟨?_,World.ownsRow_nil _ _ _ _,?_,Nat.le_of_lt hsz2,KP.refl _ _⟩
   ·rw[hw3.out];show (w2.heap.push _)[w2.heap.size]?=_;simp
   ·rw[hw3.out];exact hL12.trans (later1 _ _)
  have hbx3:BxT w.heap.size w3 [.slice sa l.length scap,.slice fa fu.length fcap] 31:=by unfold BxT at hbx2 ⊢;rw[hw3.out,(later1 w2 _).block _ hsz2];exact hbx2
  have HC:Hid (∀ w',KP w2.heap.size w3 w'→w'.cell? ⟨w.heap.size,1,none⟩=some (.slice fa fu.length fcap)):=hbx3.kp (by decide) (by omega) 1 _ rfl
  have hbp:=buildPr sa l.length scap w2
  have HE0:Hid (∀ (j:Nat) (hj:j<l.length),∃ g off x0 y0 z0 x1 y1 z1,sa=some ⟨g,off,none⟩∧RdN w (.slice x0 y0 z0) l[j].name∧RdL w 3 (.slice x1 y1 z1) (Pa.dats l[j].fields)∧∀ w',Later w w'→w'.cell? ⟨g,off+j*2,none⟩=some (.slice x0 y0 z0)∧w'.cell? ⟨g,off+j*2+1,none⟩=some (.slice x1 y1 z1)):=fun j hj=>by
   obtain⟨g,off,u0,u1,e,hgs,c0,c1,r0,r1⟩:=Sc.elem h0 j hj
   obtain⟨b0,p0,rfl,_⟩:=r0.slice
   obtain⟨b1,p1,rfl,_⟩:=Pa.slice r1
   exact⟨g,off,b0,_,p0,b1,_,p1,e,r0,r1,fun w' hw=>⟨by rw[hw.cell (p:=⟨g,off+j*2,none⟩) hgs];exact c0,by rw[hw.cell (p:=⟨g,off+j*2+1,none⟩) hgs];exact c1⟩⟩
  have HE1:Hid (∀ (j:Nat) (hj:j<fu.length),∃ g off x0 y0 z0 x1 y1 z1 x2 y2 z2,fa=some ⟨g,off,none⟩∧RdN w (.slice x0 y0 z0) fu[j].name∧RdL w 3 (.slice x1 y1 z1) (Pa.dats fu[j].params)∧RdL w 8 (.slice x2 y2 z2) (St.dats fu[j].body)∧∀ w',Later w w'→w'.cell? ⟨g,off+j*5,none⟩=some (.slice x0 y0 z0)∧w'.cell? ⟨g,off+j*5+1,none⟩=some (.slice x1 y1 z1)∧w'.cell? ⟨g,off+j*5+2,none⟩=some (.int .i64 fu[j].rk)∧w'.cell? ⟨g,off+j*5+3,none⟩=some (.int .i64 fu[j].rn)∧w'.cell? ⟨g,off+j*5+4,none⟩=some (.slice x2 y2 z2)):=fun j hj=>by
   obtain⟨g,off,u0,u1,u2,e,hgs,c0,c1,c2,c3,c4,r0,r1,r2⟩:=Fu.elem h1 j hj
   obtain⟨b0,p0,rfl,_⟩:=r0.slice
   obtain⟨b1,p1,rfl,_⟩:=Pa.slice r1
   obtain⟨b2,p2,rfl,_⟩:=St.slice r2
   exact⟨g,off,b0,_,p0,b1,_,p1,b2,_,p2,e,r0,r1,r2,fun w' hw=>⟨by rw[hw.cell (p:=⟨g,off+j*5,none⟩) hgs];exact c0,by rw[hw.cell (p:=⟨g,off+j*5+1,none⟩) hgs];exact c1,by rw[hw.cell (p:=⟨g,off+j*5+2,none⟩) hgs];exact c2,by rw[hw.cell (p:=⟨g,off+j*5+3,none⟩) hgs];exact c3,by rw[hw.cell (p:=⟨g,off+j*5+4,none⟩) hgs];exact c4⟩⟩
  have HP3:Hid (Pr w2.heap.size w3 w w3 (.slice sa l.length scap) (.slice none 0 0) []):=hp3
  clear hbx hbx2 hbx3 hp3
  go_wp2_with fail
  go_loopw [24] (fun i wr=>∃ (j:Nat) (tv':Value),i=.int .i64 (j:Int)∧j≤l.length∧midB (scsL l (l.take j))=false∧Pr w2.heap.size w3 w wr (.slice sa l.length scap) tv' (scsL l (l.take j))) (fun i _=>l.length - (intOf i).toNat)
  case atStart=>exact⟨0,_,rfl,Nat.zero_le _,by rw[List.take_zero,scsL];rfl,by rw[List.take_zero,scsL,← hw3.out];exact HP3.out⟩
  case round =>
   obtain⟨j,tv',rfl,hj,hmj,hp⟩:=hrel
   by_cases hlt:j<l.length
   ·obtain⟨g,off,x0,y0,z0,x1,y1,z1,e1,r0,r1,hcl⟩:=HE0.out j hlt
    subst e1
    obtain⟨d0,d1⟩:=hcl _ hp.lat
    have hst:=scsL_step l l j hlt
    have hpr:=scsL_pre l l (j+1)
    rw[hst,List.length_append]at hpr
    have hmem:=List.getElem_mem hlt
    have hN:=hnm _ hmem
    have i1:(j:Int)<(l.length:Int):=by omega
    have hpb:=hp.alloc (.cells #[.slice x0 y0 z0,.slice x1 y1 z1] 44)
    have hmn:midB (scsL l (l.take (j+1)))=false:=by rw[hst];exact scL_line l _ _
    have hst':Hid (scsL l (l.take (j+1))=scsL l (l.take j)++scL l l[j]):=hst
    clear hcl hst
    go_wp2_with fail
    refine (structure_any w2.heap.size w3 w _ _ tv' _ _ _ l l[j] hpb h0 hnm hN.1.1 hN.2 (hfw _ hmem) (hfs _ hmem) r0 r1 hmj (by omega)).mono ?_
    rintro e w4 ⟨rfl,t4,hp4⟩
    rw[←hst'.out]at hp4
    go_wp2_with fail
    go_roundw
    case rel=>exact⟨j+1,_,by go_num,by omega,hmn,hp4⟩
    case measure=>simp[intOf];omega
   ·have hje:j=l.length:=by omega
    have i1:¬ (j:Int)<(l.length:Int):=by omega
    rw[hje,List.take_length]at hp hmj
    have q1:=HC.out _ hp.kp
    go_wp2_with fail
    go_loopw [34] (fun i wf=>∃ (m:Nat) (tf:Value),i=.int .i64 (m:Int)∧m≤fu.length∧midB (scsL l l++fusL l (fu.take m))=false∧Pr w2.heap.size w3 w wf (.slice sa l.length scap) tf (scsL l l++fusL l (fu.take m))) (fun i _=>fu.length - (intOf i).toNat)
    case atStart=>exact⟨0,_,rfl,Nat.zero_le _,by rw[List.take_zero,fusL,List.append_nil];exact hmj,by rw[List.take_zero,fusL,List.append_nil];exact hp⟩
    case round =>
     obtain⟨m,tf,rfl,hm,hmm,hpf⟩:=hrel
     by_cases hlt2:m<fu.length
     ·obtain⟨g,off,x0,y0,z0,x1,y1,z1,x2,y2,z2,e1,r0,r1,r2,hcl⟩:=HE1.out m hlt2
      subst e1
      obtain⟨d0,d1,d2,d3,d4⟩:=hcl _ hpf.lat
      have hst:=fusL_step l fu m hlt2
      have hpr:=fusL_pre l fu (m+1)
      rw[hst,List.length_append]at hpr
      have hmem:=List.getElem_mem hlt2
      have i2:(m:Int)<(fu.length:Int):=by omega
      have hpb:=hpf.alloc (.cells #[.slice x0 y0 z0,.slice x1 y1 z1,.int .i64 fu[m].rk,.int .i64 fu[m].rn,.slice x2 y2 z2] 50)
      have hst':Hid (scsL l l++fusL l (fu.take m)++fuL l fu[m]=scsL l l++fusL l (fu.take (m+1))):=by show _=_;rw[hst,List.append_assoc]
      have hmn:midB (scsL l l++fusL l (fu.take (m+1)))=false:=by rw[←hst'.out];exact fuL_line l _ _
      have hll:(scsL l l++fusL l (fu.take m)).length=(scsL l l).length+(fusL l (fu.take m)).length:=List.length_append
      clear hcl hst
      go_wp2_with fail
      refine (function_any w2.heap.size w3 w _ _ tf _ _ _ _ l fu[m] hpb hE h0 hnm (hfu _ hmem) r0 r1 r2 hmm (by omega)).mono ?_
      rintro e w4 ⟨rfl,t4,hp4⟩
      rw[hst'.out]at hp4
      go_wp2_with fail
      go_roundw
      case rel=>exact⟨m+1,_,by go_num,by omega,hmn,hp4⟩
      case measure=>simp[intOf];omega
     ·have hme:m=fu.length:=by omega
      have i2:¬ (m:Int)<(fu.length:Int):=by omega
      rw[hme,List.take_length,← htx.out]at hpf
      have hlt:x.text.length≤900000:=by rw[htx.out,List.length_append];exact hln
      obtain⟨ta,M,tc,rfl,hM⟩:=hpf.shape
      have qt:=hpf.text
      have hMl:M≤900000:=by rw[hM.out];exact hlt
      by_cases h6:x.text.length≤6000
      ·have HA:=HY.out _ _ hpf.lat hHr.out h6 hpf.own
       have i3:¬ (6000:Int)<(M:Int):=by rw[hM.out];omega
       clear HN HY
       go_wp2_with fail
       exact HA
      ·have HA:=HN.out _ hpf.lat (fun h=>h6 h.2)
       have i3:(6000:Int)<(M:Int):=by rw[hM.out];omega
       clear HN HY
       go_wp2_with fail
       exact HA
end Go.Proofs.YtmdejbphoafjlaaGreatDoor
