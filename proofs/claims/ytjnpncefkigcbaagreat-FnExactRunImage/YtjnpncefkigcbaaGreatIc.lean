import Derived.Test.YtjnpncefkigcbaaGreatIa
import Derived.Test.YtjnpncefkigcbaaGreatIb
import Derived.Test.YtjnpncefkigcbaaGreatHd
import Derived.Test.YtjnpncefkigcbaaGreatHc
import Derived.Deep.RegionHeld3
set_option maxHeartbeats 100000000
set_option maxRecDepth 100000
namespace Go.Proofs.YtjnpncefkigcbaaGreat
open Go.RowKit
def flatI (out:List (Int × Int)):List Int:=out.flatMap fun p=>[p.1,p.2]
theorem flatI_len (out:List (Int × Int)):(flatI out).length=2*out.length:=by
 unfold flatI
 induction out with
 | nil=>rfl
 | cons p r ih=>rw[List.flatMap_cons,List.length_append,ih];simp;omega
theorem itemsL_flat (out:List (Int × Int)):itemsL out=(flatI out).map (Value.int .i64):=by
 unfold itemsL flatI
 induction out with
 | nil=>rfl
 | cons p r ih=>rw[List.flatMap_cons,List.flatMap_cons,List.map_append,ih];rfl
def RdI (w:World) (v:Value) (n:Nat) (zs:List Int):Prop:=∃ a cap,v=.slice a n cap∧n≤1048576∧∀ j,j<n→∃ g off,a=some ⟨g,off,none⟩∧g<w.heap.size∧w.cell? ⟨g,off+j*2,none⟩=some (.int .i64 (zs.getD (2*j) 0))∧w.cell? ⟨g,off+j*2+1,none⟩=some (.int .i64 (zs.getD (2*j+1) 0))
theorem RdI.later {w w':World}{v:Value}{n:Nat}{zs:List Int}(h:RdI w v n zs) (hl:Later w w'):RdI w' v n zs:=by
 obtain⟨a,cap,rfl,hn,hc⟩:=h;refine⟨a,cap,rfl,hn,fun j hj=>?_⟩;obtain⟨g,off,rfl,hg,h0,h1⟩:=hc j hj;exact⟨g,off,rfl,Nat.lt_of_lt_of_le hg hl.size,by rw[Below.cell hl (p:=⟨g,off+j*2,none⟩) hg];exact h0,by rw[Below.cell hl (p:=⟨g,off+j*2+1,none⟩) hg];exact h1⟩
def AnsI (base:Nat) (w:World) (v:Value) (n:Nat) (zs:List Int):Prop:=∃ a cap,v=.slice a n cap∧n≤1048576∧(0<n→∃ g,a=some ⟨g,0,none⟩∧base≤g∧g<w.heap.size∧∀ j,j<2*n→w.cell? ⟨g,j,none⟩=some (.int .i64 (zs.getD j 0))∧w.frozen? ⟨g,j,none⟩=false)
theorem AnsI.rd {base:Nat}{w:World}{v:Value}{n:Nat}{zs:List Int}(h:AnsI base w v n zs):RdI w v n zs:=by
 obtain⟨a,cap,rfl,hn,hc⟩:=h;refine⟨a,cap,rfl,hn,fun j hj=>?_⟩;obtain⟨g,rfl,_,hg,hh⟩:=hc (by omega);exact⟨g,0,rfl,hg,by rw[show 0+j*2=2*j by omega];exact (hh (2*j) (by omega)).1,by rw[show 0+j*2+1=2*j+1 by omega];exact (hh (2*j+1) (by omega)).1⟩
theorem AnsI.keep {base:Nat}{w w':World}{v:Value}{n:Nat}{zs:List Int}(h:AnsI base w v n zs) (hs:w.heap.size≤w'.heap.size) (hb:∀ b,base≤b→b<w.heap.size→w'.heap[b]?=w.heap[b]?):AnsI base w' v n zs:=by
 obtain⟨a,cap,rfl,hl,hc⟩:=h;refine⟨a,cap,rfl,hl,fun h0=>?_⟩;obtain⟨g,rfl,hg0,hg,hh⟩:=hc h0;refine⟨g,rfl,hg0,by omega,fun j hj=>?_⟩;obtain⟨e1,e2⟩:=cell_block (hb g hg0 hg) j;rw[e1,e2];exact hh j hj
theorem AnsI.later {base:Nat}{w w':World}{v:Value}{n:Nat}{zs:List Int}(h:AnsI base w v n zs) (hl:Later w w'):AnsI base w' v n zs:=h.keep hl.size (fun b _ hb=>hl.block b hb)
theorem AnsI.of_row {base:Nat}{w:World}{v:Value}{out:List (Int × Int)}(o:w.ownsRow base 125 2 v out.length (itemsL out)) (hl:out.length≤1048576):AnsI base w v out.length (flatI out):=by
 rcases o.2 with ⟨rfl,h0⟩|⟨g,cap,cur,rfl,hb,hg,_⟩
 ·exact⟨none,0,by rw[h0],hl,fun h=>by omega⟩
 ·refine⟨_,cap,rfl,hl,fun _=>⟨g,rfl,hb,(Array.getElem?_eq_some_iff.1 hg).1,fun j hj=>⟨?_,o.frozenAt j⟩⟩⟩;have hf:=flatI_len out;rw[o.cellAt j (by omega),itemsL_flat,List.getElem?_map,List.getElem?_eq_getElem (by omega),List.getD_eq_getElem?_getD,List.getElem?_eq_getElem (by omega)];rfl
theorem AnsI.nil (base:Nat) (w:World):AnsI base w (.slice none 0 0) 0 []:=⟨none,0,rfl,by decide,fun h=>absurd h (by decide)⟩
def MkdI (base:Nat) (w:World) (v:Value) (n:Nat):Prop:=∃ a cap,v=.slice a n cap∧n≤1048576∧(0<n→∃ g,a=some ⟨g,0,none⟩∧base≤g∧g<w.heap.size∧∀ j,j<2*n→w.cell? ⟨g,j,none⟩=some (.int .i64 (1+(j:Int))))
theorem MkdI.later {base n:Nat}{w w':World}{v:Value}(h:MkdI base w v n) (hl:Later w w'):MkdI base w' v n:=by
 obtain⟨a,cap,rfl,hn,hc⟩:=h;refine⟨a,cap,rfl,hn,fun h0=>?_⟩;obtain⟨g,rfl,hg0,hg,hh⟩:=hc h0;exact⟨g,rfl,hg0,Nat.lt_of_lt_of_le hg hl.size,fun j hj=>by rw[Below.cell hl (p:=⟨g,j,none⟩) hg];exact hh j hj⟩
theorem grow_refl (w:World) (r:Option Nat):w.grownBy w r:=⟨rfl,rfl,rfl,Nat.le_refl _,fun _ _ _=>rfl⟩
theorem grow_set {w w':World}{g:Nat}(h:w.grownBy w' (some g)) (o:Nat) (v:Value):w.grownBy (w'.setCell ⟨g,o,none⟩ v) (some g):=⟨h.os,h.tape,h.output,by rw[World.size_setCell];exact h.size,fun b hb hn=>by rw[Below.heap_setCell _ _ _ _ (fun q=>hn (by rw[q]))];exact h.block b hb hn⟩
theorem grow_later {a b c:World}{r:Option Nat}(h:Later a b) (k:b.grownBy c r):a.grownBy c r:=⟨k.os.trans h.os,k.tape.trans h.tape,k.output.trans h.output,Nat.le_trans h.size k.size,fun i hi hn=>by rw[k.block i (Nat.lt_of_lt_of_le hi h.size) hn];exact h.block i hi⟩
theorem markit_ans {base n:Nat}{zs:List Int}{v:Value}{w:World}(h:AnsI base w v n zs):Calls Tryz.prog 40 #[v,.int .i64 1] w fun e w'=>e=.returned (.int .i64 (1+2*(n:Int)))∧w.grownBy w' v.ownBlock∧MkdI base w' v n:=by
 obtain⟨a,cap,rfl,hl,hc⟩:=h
 have HC:Hid (0<n→∃ g,a=some ⟨g,0,none⟩∧base≤g∧g<w.heap.size∧∀ j,j<2*n→(∃ u,w.cell? ⟨g,j,none⟩=some u)∧w.frozen? ⟨g,j,none⟩=false):=fun h0=>by
  obtain⟨g,rfl,h1,h2,h3⟩:=hc h0;exact⟨g,rfl,h1,h2,fun j hj=>⟨⟨_,(h3 j hj).1⟩,(h3 j hj).2⟩⟩
 clear hc;go_enter Tryz.func40,Tryz.ntmps40;go_wp2_with fail
 go_loopw [1,5] (fun kk i wr=>∃ j:Nat,kk=.int .i64 (1+2*(j:Int))∧i=.int .i64 (j:Int)∧j≤n∧w.grownBy wr (Value.slice a n cap).ownBlock∧Hid (0<n→∀ g,a=some ⟨g,0,none⟩→(∀ m,m<2*j→wr.cell? ⟨g,m,none⟩=some (.int .i64 (1+(m:Int))))∧(∀ m,2*j≤m→wr.cell? ⟨g,m,none⟩=w.cell? ⟨g,m,none⟩)∧(∀ m,wr.frozen? ⟨g,m,none⟩=w.frozen? ⟨g,m,none⟩)))
  (fun _ i _=>n - (intOf i).toNat)
 case atStart=>exact⟨0,by simp,rfl,Nat.zero_le _,grow_refl _ _,fun _ g _=>⟨fun m hm=>absurd hm (Nat.not_lt_zero _),fun _ _=>rfl,fun _=>rfl⟩⟩
 case round =>
  obtain⟨j,rfl,rfl,hj,hB,hI⟩:=hrel;by_cases hlt:j<n
  ·obtain⟨g,rfl,hb,hg,hh⟩:=HC.out (by omega);obtain⟨⟨u,hu⟩,hf⟩:=hh (2*j) (by omega);obtain⟨⟨u',hu'⟩,hf'⟩:=hh (2*j+1) (by omega);obtain⟨h1,h2,h3⟩:=hI.out (by omega) g rfl
   obtain⟨m0,hm0⟩:∃ m0,m0=2*j:=⟨_,rfl⟩
   obtain⟨k1,hk1⟩:∃ k1:Nat,k1=1+2*j:=⟨_,rfl⟩
   obtain⟨k2,hk2⟩:∃ k2:Nat,k2=2+2*j:=⟨_,rfl⟩
   have hz:wr.cell? ⟨g,j*2,none⟩=some u:=by rw[show j*2=2*j by omega,h2 _ (Nat.le_refl _)];exact hu
   have hfz:wr.frozen? ⟨g,j*2,none⟩=false:=by rw[show j*2=2*j by omega,h3];exact hf
   have hz':wr.cell? ⟨g,j*2+1,none⟩=some u':=by rw[show j*2+1=2*j+1 by omega,h2 _ (by omega)];exact hu'
   have hfz':wr.frozen? ⟨g,j*2+1,none⟩=false:=by rw[show j*2+1=2*j+1 by omega,h3];exact hf'
   have hi:(j:Int)<(n:Int):=by omega
   have hB2:Hid (w.grownBy ((wr.setCell ⟨g,j*2,none⟩ (.int .i64 (k1:Int))).setCell ⟨g,j*2+1,none⟩ (.int .i64 (k2:Int))) (some g)):=grow_set (grow_set hB _ _) _ _
   have hI2:Hid (0<n→∀ g',(some ⟨g,0,none⟩:Option Addr)=some ⟨g',0,none⟩→(∀ m,m<2*(j+1)→((wr.setCell ⟨g,j*2,none⟩ (.int .i64 (k1:Int))).setCell ⟨g,j*2+1,none⟩ (.int .i64 (k2:Int))).cell? ⟨g',m,none⟩=some (.int .i64 (1+(m:Int))))∧(∀ m,2*(j+1)≤m→((wr.setCell ⟨g,j*2,none⟩ (.int .i64 (k1:Int))).setCell ⟨g,j*2+1,none⟩ (.int .i64 (k2:Int))).cell? ⟨g',m,none⟩=w.cell? ⟨g',m,none⟩)∧(∀ m,((wr.setCell ⟨g,j*2,none⟩ (.int .i64 (k1:Int))).setCell ⟨g,j*2+1,none⟩ (.int .i64 (k2:Int))).frozen? ⟨g',m,none⟩=w.frozen? ⟨g',m,none⟩)):=fun _ g' e=>by
    cases e
    refine⟨fun m hm=>?_,fun m hm=>?_,fun m=>by rw[World.frozen?_setCell,World.frozen?_setCell];exact h3 m⟩
    ·by_cases q1:m=j*2+1
     ·subst q1;rw[set_same (u:=u') (by rw[set_off _ _ _ (by omega)];exact hz')]
      congr 2
      omega
     ·rw[set_off _ _ _ (by omega)];by_cases q0:m=j*2
      ·subst q0;rw[set_same hz]
       congr 2
       omega
      ·rw[set_off _ _ _ (by omega)];exact h1 m (by omega)
    ·rw[set_off _ _ _ (by omega),set_off _ _ _ (by omega)];exact h2 m (by omega)
   have e1:1+2*(j:Int)=(k1:Int):=by omega
   have e2:(k1:Int)+1=(k2:Int):=by omega
   have e3:(k1:Int)≤3000000:=by omega
   have e4:(k2:Int)≤3000000:=by omega
   have HE:Hid ((k2:Int)+1=1+2*((j+1:Nat):Int)):=by show _=_;omega
   clear hI h1 h2 h3 hh HC hB hk1 hk2 hm0 hu hu' hf hf';rw[e1];go_wp2_with fail
   go_roundw
   case rel=>exact⟨j+1,by first|(go_num;done)|(simp only[go_sem];rw[←HE.out];done)|(rw[←HE.out];go_num),by go_num,by omega,hB2.out,hI2⟩
   case measure=>simp[intOf];omega
  ·have hlt':decide ((j:Int)<(n:Int))=false:=by simp;omega
   have hjn:j=n:=by omega
   subst hjn
   have HF:Hid (MkdI base wr (.slice a j cap) j):=⟨a,cap,rfl,hl,fun h0=>by
    obtain⟨g,rfl,hb,hg,_⟩:=HC.out h0
    exact⟨g,rfl,hb,Nat.lt_of_lt_of_le hg hB.size,(hI.out h0 g rfl).1⟩⟩
   clear hI HC;go_wp2_with fail
   go_ret;exact⟨rfl,hB,HF.out⟩
theorem heldit_ans {base n:Nat}{v:Value}{w:World}(h:MkdI base w v n):Calls Tryz.prog 41 #[v,.int .i64 1] w fun e w'=>e=.returned (.int .i64 (1+2*(n:Int)))∧w'=w:=by
 obtain⟨a,cap,rfl,hl,hc⟩:=h
 have HC:Hid (0<n→∃ g,a=some ⟨g,0,none⟩∧∀ j,j<2*n→w.cell? ⟨g,j,none⟩=some (.int .i64 (1+(j:Int)))):=fun h0=>by
  obtain⟨g,rfl,_,_,h3⟩:=hc h0;exact⟨g,rfl,h3⟩
 clear hc;go_enter Tryz.func41,Tryz.ntmps41;go_wp2_with fail
 go_loop [1,5] (fun kk i=>∃ j:Nat,kk=.int .i64 (1+2*(j:Int))∧i=.int .i64 (j:Int)∧j≤n) (fun _ i=>n - (intOf i).toNat)
 case atStart=>exact⟨0,by simp,rfl,Nat.zero_le _⟩
 case round =>
  obtain⟨j,rfl,rfl,hj⟩:=hrel;by_cases hlt:j<n
  ·have hi:(j:Int)<(n:Int):=by omega
   obtain⟨g,rfl,hh⟩:=HC.out (by omega)
   obtain⟨k1,hk1⟩:∃ k1:Nat,k1=1+2*j:=⟨_,rfl⟩
   obtain⟨k2,hk2⟩:∃ k2:Nat,k2=2+2*j:=⟨_,rfl⟩
   have hcell:w.cell? ⟨g,j*2,none⟩=some (.int .i64 (k1:Int)):=by
    rw[hh (j*2) (by omega)]
    congr 2
    omega
   have hcell':w.cell? ⟨g,j*2+1,none⟩=some (.int .i64 (k2:Int)):=by
    rw[hh (j*2+1) (by omega)]
    congr 2
    omega
   have e1:1+2*(j:Int)=(k1:Int):=by omega
   have e2:(k1:Int)+1=(k2:Int):=by omega
   have e3:(k1:Int)≤3000000:=by omega
   have e4:(k2:Int)≤3000000:=by omega
   have q1:((k1:Int) != (k1:Int))=false:=by simp
   have q2:((k2:Int) != (k2:Int))=false:=by simp
   have HE:Hid ((k2:Int)+1=1+2*((j+1:Nat):Int)):=by show _=_;omega
   clear hh HC hk1 hk2;rw[e1];go_wp2_with fail
   go_round
   case rel=>exact⟨j+1,by first|(go_num;done)|(rw[←HE.out];go_num),by go_num,by omega⟩
   case measure=>simp[intOf];omega
  ·have hlt':decide ((j:Int)<(n:Int))=false:=by simp;omega
   have hjn:j=n:=by omega
   subst hjn;go_wp2_with fail
   go_ret;exact⟨rfl,rfl⟩
theorem eqit_any (k n:Int) (w:World):Calls Tryz.prog 67 #[.agg #[.int .i64 k,.int .i64 n],.agg #[.int .i64 k,.int .i64 n]] w fun e w'=>e=.returned (.bool true)∧Later w w':=by
 have h1:(k != k)=false:=by simp
 have h2:(n != n)=false:=by simp
 go_enter Tryz.func67,Tryz.ntmps67;go_wp2_with fail
 go_ret;exact⟨rfl,(later_a _ _).trans (later_a _ _)⟩
theorem en_eqItem:Enters Tryz.prog 67:=enters_of Tryz.func67 (by kernel_rfl) (by kernel_rfl)
theorem eqits_same {v1 v2:Value}{n:Nat}{zs:List Int}{w:World}(h1:RdI w v1 n zs) (h2:RdI w v2 n zs) :
  Calls Tryz.prog 33 #[v1,v2] w fun e w'=>e=.returned (.bool true)∧Later w w':=by
 obtain⟨a,cap,rfl,hl,hc⟩:=h1;obtain⟨a',cap',rfl,_,hc'⟩:=h2
 have HC:Hid (∀ j,j<n→∀ w',Later w w'→∃ g off g' off',a=some ⟨g,off,none⟩∧a'=some ⟨g',off',none⟩∧(w'.cell? ⟨g,off+j*2,none⟩=some (.int .i64 (zs.getD (2*j) 0))∧w'.cell? ⟨g,off+j*2+1,none⟩=some (.int .i64 (zs.getD (2*j+1) 0)))∧w'.cell? ⟨g',off'+j*2,none⟩=some (.int .i64 (zs.getD (2*j) 0))∧w'.cell? ⟨g',off'+j*2+1,none⟩=some (.int .i64 (zs.getD (2*j+1) 0))):=fun j hj w' l=>by
  obtain⟨g,off,rfl,hg,x0,x1⟩:=hc j hj;obtain⟨g',off',rfl,hg',y0,y1⟩:=hc' j hj;exact⟨g,off,g',off',rfl,rfl,⟨by rw[Below.cell l (p:=⟨g,off+j*2,none⟩) hg];exact x0,by rw[Below.cell l (p:=⟨g,off+j*2+1,none⟩) hg];exact x1⟩,by rw[Below.cell l (p:=⟨g',off'+j*2,none⟩) hg'];exact y0,by rw[Below.cell l (p:=⟨g',off'+j*2+1,none⟩) hg'];exact y1⟩
 clear hc hc';have hle:((n:Int) != (n:Int))=false:=by simp
 go_enter Tryz.func33,Tryz.ntmps33;go_wp2_with fail
 go_loopw [5] (fun i wr=>∃ (k:Nat),i=.int .i64 (k:Int)∧k≤n∧Later w wr) (fun i _=>n - (intOf i).toNat)
 case atStart=>exact⟨0,rfl,Nat.zero_le _,Later.refl _⟩
 case round =>
  obtain⟨k,rfl,hk,lw⟩:=hrel;by_cases hlt:k<n
  ·have i1:(k:Int)<(n:Int):=by omega
   obtain⟨g,off,g',off',rfl,rfl,⟨x0,x1⟩,y0,y1⟩:=HC.out k hlt wr lw
   have HX:Hid (∀ w',Later w w'→(w'.cell? ⟨g,off+k*2,none⟩=some (.int .i64 (zs.getD (2*k) 0))∧w'.cell? ⟨g,off+k*2+1,none⟩=some (.int .i64 (zs.getD (2*k+1) 0)))∧w'.cell? ⟨g',off'+k*2,none⟩=some (.int .i64 (zs.getD (2*k) 0))∧w'.cell? ⟨g',off'+k*2+1,none⟩=some (.int .i64 (zs.getD (2*k+1) 0))):=fun w' l=>by
    obtain⟨_,_,_,_,e1,e2,r⟩:=HC.out k hlt w' l
    cases e1
    cases e2
    exact r
   clear HC
   generalize zs.getD (2*k) 0=za at *
   generalize zs.getD (2*k+1) 0=zb at *
   have HE:Hid (∀ w',Calls Tryz.prog 67 #[.agg #[.int .i64 za,.int .i64 zb],.agg #[.int .i64 za,.int .i64 zb]] w' fun e w''=>e=.returned (.bool true)∧Later w' w''):=fun w'=>eqit_any za zb w';go_wp2_with fail
   go_region_held3 (fun w'=>(w'.cell? ⟨g,off+k*2,none⟩=some (.int .i64 za)∧w'.cell? ⟨g,off+k*2+1,none⟩=some (.int .i64 zb))∧w'.cell? ⟨g',off'+k*2,none⟩=some (.int .i64 za)∧w'.cell? ⟨g',off'+k*2+1,none⟩=some (.int .i64 zb)) (first|exact HX.out _ (lw.trans (Later.drew _))|exact HX.out _ ((lw.trans (Later.drew _)).trans l9)) (first|(go_at_call 67;refine (HE.out _).mono ?_;rintro e w9 ⟨rfl,l9⟩))
   have L9:=(lw.trans (Later.drew _)).trans l9;clear HE HX x0 x1 y0 y1;go_wp2_with fail
   go_roundw
   case rel=>exact⟨k+1,by go_num,by omega,L9⟩
   case measure=>simp[intOf];omega
  ·have hlt':decide ((k:Int)<(n:Int))=false:=by simp;omega
   clear HC;go_wp2_with fail
   go_ret;exact⟨rfl,lw⟩
def rsV (e c st mv cp:Int) (o:Value):Value:=.agg #[.int .i64 e,.int .i64 c,o,.int .i64 st,.int .i64 mv,.int .i64 cp]
theorem eqres_same {e c st mv cp:Int}{v1 v2:Value}{n:Nat}{zs:List Int}{w:World}(h1:RdI w v1 n zs) (h2:RdI w v2 n zs) :
  Calls Tryz.prog 10 #[rsV e c st mv cp v1,rsV e c st mv cp v2] w fun x w'=>x=.returned (.bool true)∧Later w w':=by
 have HQ:Hid (∀ w',Later w w'→Calls Tryz.prog 33 #[v1,v2] w' fun e w''=>e=.returned (.bool true)∧Later w' w''):=fun w' l=>eqits_same (h1.later l) (h2.later l);obtain⟨a,cap,rfl,hl,hc⟩:=h1;obtain⟨a',cap',rfl,_,hc'⟩:=h2;clear hc hc';unfold rsV;have q1:(e != e)=false:=by simp
 have q2:(c != c)=false:=by simp
 have q3:(st != st)=false:=by simp
 have q4:(mv != mv)=false:=by simp
 have q5:(cp != cp)=false:=by simp
 obtain⟨wB,hwB⟩:=hidx ((w.alloc (Obj.cells #[.int .i64 e,.int .i64 c,.slice a n cap,.int .i64 st,.int .i64 mv,.int .i64 cp] 33)).alloc (Obj.cells #[.int .i64 e,.int .i64 c,.slice a' n cap',.int .i64 st,.int .i64 mv,.int .i64 cp] 33));have lB:Later w wB:=by rw[hwB.out];exact (later_a _ _).trans (later_a _ _)
 have HA:Hid (∀ w',Later wB w'→(∀ k v,(#[.int .i64 e,.int .i64 c,.slice a n cap,.int .i64 st,.int .i64 mv,.int .i64 cp]:Array Value)[k]?=some v→w'.cell? ⟨w.heap.size,k,none⟩=some v)∧(∀ k v,(#[.int .i64 e,.int .i64 c,.slice a' n cap',.int .i64 st,.int .i64 mv,.int .i64 cp]:Array Value)[k]?=some v→w'.cell? ⟨w.heap.size+1,k,none⟩=some v)):=fun w' l=>by
  have s1:w.heap.size<(w.alloc (Obj.cells #[.int .i64 e,.int .i64 c,.slice a n cap,.int .i64 st,.int .i64 mv,.int .i64 cp] 33)).heap.size:=box_lt' w _;have s2:wB.heap.size=w.heap.size+2:=by rw[hwB.out];simp
  refine⟨fun k v hv=>?_,fun k v hv=>?_⟩
  ·rw[Below.cell l (p:=⟨w.heap.size,k,none⟩) (show w.heap.size<wB.heap.size by omega),hwB.out,Below.cell (later_a _ _) (p:=⟨w.heap.size,k,none⟩) s1];exact box_at' w _ hv
  ·rw[Below.cell l (p:=⟨w.heap.size+1,k,none⟩) (show w.heap.size+1<wB.heap.size by omega),hwB.out];have:=box_at' (w.alloc (Obj.cells #[.int .i64 e,.int .i64 c,.slice a n cap,.int .i64 st,.int .i64 mv,.int .i64 cp] 33)) 33 hv;simpa using this
 obtain⟨x,y⟩:=HA.out wB (Later.refl _);have x0:=x 0 _ rfl;have x1:=x 1 _ rfl;have x2:=x 2 _ rfl;have y0:=y 0 _ rfl;have y1:=y 1 _ rfl;have y2:=y 2 _ rfl;clear x y;go_enter Tryz.func10,Tryz.ntmps10;go_wp2_with fail
 rw[←hwB.out];refine (HQ.out wB lB).mono ?_;rintro n5 w5 ⟨rfl,l5⟩;obtain⟨x,y⟩:=HA.out w5 l5;have z3:=x 3 _ rfl;have z4:=x 4 _ rfl;have z5:=x 5 _ rfl;have v3:=y 3 _ rfl;have v4:=y 4 _ rfl;have v5:=y 5 _ rfl;clear x y x0 x1 x2 y0 y1 y2 hwB HA HQ;go_wp2_with fail
 go_ret;exact⟨rfl,lB.trans l5⟩
theorem markres_ans {e c st mv cp:Int}{base n:Nat}{zs:List Int}{v:Value}{w:World}(h:AnsI base w v n zs):Calls Tryz.prog 15 #[rsV e c st mv cp v,.int .i64 1] w fun x w'=>x=.returned (.int .i64 (1+2*(n:Int)))∧w.grownBy w' v.ownBlock∧MkdI base w' v n:=by
 have HQ:Hid (∀ w',Later w w'→Calls Tryz.prog 40 #[v,.int .i64 1] w' fun e w''=>e=.returned (.int .i64 (1+2*(n:Int)))∧w'.grownBy w'' v.ownBlock∧MkdI base w'' v n):=fun w' l=>markit_ans (h.later l);obtain⟨a,cap,rfl,hl,hc⟩:=h;clear hc;unfold rsV;go_enter Tryz.func15,Tryz.ntmps15;go_wp2_with fail
 refine (HQ.out _ (later_a _ _)).mono ?_;rintro n5 w5 ⟨rfl,b5,m5⟩;have hB:=grow_later (later_a _ _) b5;clear HQ b5;go_wp2_with fail
 go_ret;exact⟨rfl,hB,m5⟩
theorem heldres_ans {e c st mv cp:Int}{base n:Nat}{v:Value}{w:World}(h:MkdI base w v n):Calls Tryz.prog 16 #[rsV e c st mv cp v,.int .i64 1] w fun x w'=>x=.returned (.int .i64 (1+2*(n:Int)))∧Later w w':=by
 have HQ:Hid (∀ w',Later w w'→Calls Tryz.prog 41 #[v,.int .i64 1] w' fun e w''=>e=.returned (.int .i64 (1+2*(n:Int)))∧w''=w'):=fun w' l=>heldit_ans (h.later l);obtain⟨a,cap,rfl,hl,hc⟩:=h;clear hc;unfold rsV;have h0:¬ 1+2*(n:Int)<0:=by omega
 have h1:decide (1+2*(n:Int)<0)=false:=decide_eq_false h0;go_enter Tryz.func16,Tryz.ntmps16;go_wp2_with fail
 refine (HQ.out _ (later_a _ _)).mono ?_;rintro n5 w5 ⟨rfl,hw⟩;have l5:Later w w5:=by rw[hw];exact later_a _ _
 clear HQ hw;go_wp2_with fail
 go_ret;exact⟨rfl,l5⟩
theorem markSe_sk {P:Nat→Prop}(x:Se) (v0 v1:Value) (k:Int) (w:World) (h0:Sk P w (.list 1 (In.dats x.input)) [v0]) (h1:Sk P w (.list 1 (In.dats x.oracle)) [v1]) (k0:0≤k) (k1:k+16*(In.szs x.input+In.szs x.oracle)≤4611686018427387904) :
  Calls Tryz.prog 14 #[.agg #[.int .i64 x.half,.int .i64 x.stack,v0,.int .i64 x.fuel,v1],.int .i64 k] w (MkQ P w k (16*(In.szs x.input+In.szs x.oracle))):=by
 obtain⟨a0,p0,rfl,_⟩:=h0.lslice;obtain⟨a1,p1,rfl,_⟩:=h1.lslice;simp only[In.dats_len]at h0 h1 ⊢;have HM0:Hid (∀ w' (k:Int),Inks P w w'→0≤k→k+16*In.szs x.input≤4611686018427387904→Calls Tryz.prog 39 #[.slice a0 x.input.length p0,.int .i64 k] w' (MkQ P w' k (16*In.szs x.input))):=fun w' k i q0 q1=>markIns_sk _ x.input k w' (h0.slice_inks i) q0 q1;have HM1:Hid (∀ w' (k:Int),Inks P w w'→0≤k→k+16*In.szs x.oracle≤4611686018427387904→Calls Tryz.prog 39 #[.slice a1 x.oracle.length p1,.int .i64 k] w' (MkQ P w' k (16*In.szs x.oracle))):=fun w' k i q0 q1=>markIns_sk _ x.oracle k w' (h1.slice_inks i) q0 q1;clear h0 h1
 generalize In.szs x.input=n0 at *
 generalize In.szs x.oracle=n1 at *
 generalize x.half=zh at *
 generalize x.stack=zs at *
 generalize x.fuel=zf at *
 generalize x.input.length=l0 at *
 generalize x.oracle.length=l1 at *
 obtain⟨wB,hwB⟩:=hidx (w.alloc (Obj.cells #[.int .i64 zh,.int .i64 zs,.slice a0 l0 p0,.int .i64 zf,.slice a1 l1 p1] 39));have iB:Inks P w wB:=Inks.later (by rw[hwB.out];exact later_a _ _);have y4:wB.cell? ⟨w.heap.size,4,none⟩=some (.slice a1 l1 p1):=by rw[hwB.out];exact box_at' w _ rfl
 have y2:wB.cell? ⟨w.heap.size,2,none⟩=some (.slice a0 l0 p0):=by rw[hwB.out];exact box_at' w _ rfl
 have s1:w.heap.size<wB.heap.size:=by rw[hwB.out];exact box_lt' w _
 go_enter Tryz.func14,Tryz.ntmps14;go_wp2_with fail
 rw[←hwB.out];refine (HM0.out wB k iB k0 (by omega)).mono ?_;rintro e5 w5 ⟨k5,rfl,q1,q2,i5⟩;have x4:=i5.slice s1 y4;have i6:=iB.trans i5;clear y4 y2 hwB;go_wp2_with fail
 refine (HM1.out w5 k5 i6 (by omega) (by omega)).mono ?_;rintro e6 w6 ⟨k6,rfl,q3,q4,i7⟩
 have HF:Hid (MkQ P w k (16*(n0+n1)) (.returned (.int .i64 k6)) w6):=⟨k6,rfl,by omega,by omega,i6.trans i7⟩
 clear HM0 HM1 i5 i6 i7 iB x4;go_wp2_with fail
 go_ret;exact HF.out
def ResQ (E c st mv cp:Int) (n:Nat) (zs:List Int) (w:World) (v:Value) (w':World):Prop:=∃ oa oc,v=rsV E c st mv cp (.slice oa n oc)∧AnsI w.heap.size w' (.slice oa n oc) n zs∧(∀ b,(Value.slice oa n oc).ownBlock=some b→w.heap.size≤b∧b<w'.heap.size)∧Later w w'
theorem AnsI.far {base:Nat}{w w':World}{v:Value}{n:Nat}{zs:List Int}(h:AnsI base w v n zs) (hs:w.heap.size≤w'.heap.size) (hb:∀ b,v.ownBlock=some b→w'.heap[b]?=w.heap[b]?):AnsI base w' v n zs:=by
 obtain⟨a,cap,rfl,hl,hc⟩:=h;refine⟨a,cap,rfl,hl,fun h0=>?_⟩;obtain⟨g,rfl,hg0,hg,hh⟩:=hc h0;refine⟨g,rfl,hg0,by omega,fun j hj=>?_⟩;obtain⟨e1,e2⟩:=cell_block (hb g rfl) j;rw[e1,e2];exact hh j hj
theorem AnsI.less {base b:Nat}{w:World}{v:Value}{n:Nat}{zs:List Int}(h:AnsI base w v n zs) (hb:b≤base):AnsI b w v n zs:=by
 obtain⟨a,cap,rfl,hl,hc⟩:=h;refine⟨a,cap,rfl,hl,fun h0=>?_⟩;obtain⟨g,rfl,hg0,hg⟩:=hc h0;exact⟨g,rfl,Nat.le_trans hb hg0,hg⟩
structure Lg (x:Im) (e:Se) (w0 w:World) (oi os:Option (Value × Value)) (ob:Option Nat) (n:Nat) (zs:List Int) (orr:Option (Option Addr × Nat)):Prop where
 lat:Later w0 w
 ri:∀ p,oi=some p→RdL w 1 p.1 (Bs.dats x.structs)∧RdL w 4 p.2 (Cd.dats x.codes)
 rs:∀ p,os=some p→RdL w 1 p.1 (In.dats e.input)∧RdL w 1 p.2 (In.dats e.oracle)
 rb:∀ b,ob=some b→w0.heap.size≤b∧b<w.heap.size∧∀ k,k<6→(∃ u,w.cell? ⟨b,k,none⟩=some u)∧w.frozen? ⟨b,k,none⟩=false
 ra:∀ p,orr=some p→AnsI w0.heap.size w (.slice p.1 n p.2) n zs∧(∀ b,(Value.slice p.1 n p.2).ownBlock=some b→w0.heap.size≤b∧b<w.heap.size)
 nb:∀ b p,ob=some b→orr=some p→∀ g,(Value.slice p.1 n p.2).ownBlock=some g→g≠b
section
variable {x:Im}{e:Se}{w0 w w':World}{oi os:Option (Value × Value)}{ob:Option Nat}{n:Nat}{zs:List Int}{orr:Option (Option Addr × Nat)}
theorem Lg.start (x:Im) (e:Se) (w:World) (n:Nat) (zs:List Int):Lg x e w w.drew none none none n zs none:=⟨Later.drew w,fun _ h=>(by cases h),fun _ h=>(by cases h),fun _ h=>(by cases h),fun _ h=>(by cases h),fun _ _ h=>(by cases h)⟩
theorem Lg.kept (h:Lg x e w0 w oi os ob n zs orr) (l:Later w w'):Lg x e w0 w' oi os ob n zs orr :=
 ⟨h.lat.trans l,fun p q=>⟨RdL.later l (h.ri p q).1,RdL.later l (h.ri p q).2⟩,fun p q=>⟨RdL.later l (h.rs p q).1,RdL.later l (h.rs p q).2⟩,fun b q=>⟨(h.rb b q).1,Nat.lt_of_lt_of_le (h.rb b q).2.1 l.size,fun k hk=>by rw[Below.cell l (p:=⟨b,k,none⟩) (h.rb b q).2.1,Below.frozen l (p:=⟨b,k,none⟩) (h.rb b q).2.1];exact (h.rb b q).2.2 k hk⟩,fun p q=>⟨(h.ra p q).1.later l,fun b hb=>⟨((h.ra p q).2 b hb).1,Nat.lt_of_lt_of_le ((h.ra p q).2 b hb).2 l.size⟩⟩,h.nb⟩
theorem Lg.toI {v0 v1:Value}(r0:RdL w0 1 v0 (Bs.dats x.structs)) (r1:RdL w0 4 v1 (Cd.dats x.codes)) (hs:x.sz≤1048576) (h:Lg x e w0 w none os ob n zs orr) :
  Calls Tryz.prog 7 #[.agg #[v0,v1,.int .i64 x.main]] w fun e1 w'=>∃ v,e1=.returned v∧∃ b0 q0 b1 q1,v=.agg #[.slice b0 x.structs.length q0,.slice b1 x.codes.length q1,.int .i64 x.main]∧Lg x e w0 w' (some (.slice b0 x.structs.length q0,.slice b1 x.codes.length q1)) os ob n zs orr:=by
 refine (toIm_any x v0 v1 w (RdL.later h.lat r0) (RdL.later h.lat r1) hs).mono (fun e1 w' hq=>?_);obtain⟨b0,q0,b1,q1,F,rfl,O,l⟩:=hq;obtain⟨_,_,e2,k0,k1⟩:=Im.view O.rd
 cases e2
 have k:=h.kept l;exact⟨_,rfl,b0,q0,b1,q1,rfl,k.lat,fun p q=>by cases q;exact⟨k0,k1⟩,k.rs,k.rb,k.ra,k.nb⟩
theorem Lg.toS {v0 v1:Value}(r0:RdL w0 1 v0 (In.dats e.input)) (r1:RdL w0 1 v1 (In.dats e.oracle)) (hs:e.sz≤1048576) (h:Lg x e w0 w oi none ob n zs orr) :
  Calls Tryz.prog 8 #[.agg #[.int .i64 e.half,.int .i64 e.stack,v0,.int .i64 e.fuel,v1]] w fun e1 w'=>∃ v,e1=.returned v∧∃ b0 q0 b1 q1,v=.agg #[.int .i64 e.half,.int .i64 e.stack,.slice b0 e.input.length q0,.int .i64 e.fuel,.slice b1 e.oracle.length q1]∧Lg x e w0 w' oi (some (.slice b0 e.input.length q0,.slice b1 e.oracle.length q1)) ob n zs orr:=by
 refine (toSe_any e v0 v1 w (RdL.later h.lat r0) (RdL.later h.lat r1) hs).mono (fun e1 w' hq=>?_);obtain⟨b0,q0,b1,q1,F,rfl,O,l⟩:=hq;obtain⟨_,_,e2,k0,k1⟩:=Se.view O.rd
 cases e2
 have k:=h.kept l;exact⟨_,rfl,b0,q0,b1,q1,rfl,k.lat,k.ri,fun p q=>by cases q;exact⟨k0,k1⟩,k.rb,k.ra,k.nb⟩
theorem Lg.run {E c st mv cp:Int}{f:FuncId}{s0 s1 i0 i1:Value}(hF:∀ w' sv cv iv rv,Later w0 w'→RdL w' 1 sv (Bs.dats x.structs)→RdL w' 4 cv (Cd.dats x.codes)→RdL w' 1 iv (In.dats e.input)→RdL w' 1 rv (In.dats e.oracle)→Calls Tryz.prog f #[.agg #[sv,cv,.int .i64 x.main],.agg #[.int .i64 e.half,.int .i64 e.stack,iv,.int .i64 e.fuel,rv]] w' fun e1 w''=>∃ v,e1=.returned v∧ResQ E c st mv cp n zs w' v w'') (h:Lg x e w0 w (some (s0,s1)) (some (i0,i1)) ob n zs none) :
  Calls Tryz.prog f #[.agg #[s0,s1,.int .i64 x.main],.agg #[.int .i64 e.half,.int .i64 e.stack,i0,.int .i64 e.fuel,i1]] w fun e1 w'=>∃ v,e1=.returned v∧∃ oa oc,v=rsV E c st mv cp (.slice oa n oc)∧Lg x e w0 w' (some (s0,s1)) (some (i0,i1)) ob n zs (some (oa,oc)):=by
 refine (hF w s0 s1 i0 i1 h.lat (h.ri _ rfl).1 (h.ri _ rfl).2 (h.rs _ rfl).1 (h.rs _ rfl).2).mono (fun e1 w' hq=>?_);obtain⟨v,rfl,oa,oc,rfl,A,hb,l⟩:=hq;have k:=h.kept l;refine⟨_,rfl,oa,oc,rfl,k.lat,k.ri,k.rs,k.rb,fun p q=>?_,fun b p q1 q2 g hg=>?_⟩
 ·cases q
  exact⟨A.less h.lat.size,fun b q=>⟨Nat.le_trans h.lat.size (hb b q).1,(hb b q).2⟩⟩
 ·cases q2
  have h1:=(hb g hg).1;have h2:=(h.rb b q1).2.1;omega
theorem Lg.box (h:Lg x e w0 w oi os none n zs orr):Lg x e w0 (w.alloc (Obj.cells #[.int .i64 0,.int .i64 0,.slice none 0 0,.int .i64 0,.int .i64 0,.int .i64 0] 33)) oi os (some w.heap.size) n zs orr:=by
 have k:=h.kept (later_a w (Obj.cells #[.int .i64 0,.int .i64 0,.slice none 0 0,.int .i64 0,.int .i64 0,.int .i64 0] 33))
 have bk:Blk (w.alloc (Obj.cells #[.int .i64 0,.int .i64 0,.slice none 0 0,.int .i64 0,.int .i64 0,.int .i64 0] 33)) w.heap.size 6 (fun a=>(#[.int .i64 0,.int .i64 0,.slice none 0 0,.int .i64 0,.int .i64 0,.int .i64 0]:Array Value).getD a undef):=⟨box_lt' w _,fun a ha=>⟨box_at' w _ (by rw[Array.getD_eq_getD_getElem?,Array.getElem?_eq_getElem (by exact ha)];rfl),by simp⟩⟩
 refine⟨k.lat,k.ri,k.rs,fun b q=>?_,k.ra,fun b p q1 q2 g hg=>?_⟩
 ·cases q
  exact⟨h.lat.size,bk.lt,fun j hj=>⟨⟨_,(bk.cell j hj).1⟩,(bk.cell j hj).2⟩⟩
 ·cases q1
  have:=((h.ra p q2).2 g hg).2;omega
end
structure Lf (w0 w:World) (B:Nat) (E c st mv cp:Int) (oa:Option Addr) (oc n:Nat) (zs:List Int):Prop where
 lat:Later w0 w
 lo:w0.heap.size≤B
 lt:B<w.heap.size
 c:∀ k v,(#[.int .i64 E,.int .i64 c,.slice oa n oc,.int .i64 st,.int .i64 mv,.int .i64 cp]:Array Value)[k]?=some v→w.cell? ⟨B,k,none⟩=some v
 ra:AnsI w0.heap.size w (.slice oa n oc) n zs
 rb:∀ b,(Value.slice oa n oc).ownBlock=some b→w0.heap.size≤b∧b<w.heap.size∧b≠B
theorem Lg.store {x:Im}{e:Se}{w0 w:World}{oi os:Option (Value × Value)}{B n:Nat}{zs:List Int}{oa:Option Addr}{oc:Nat}(E c st mv cp:Int) (h:Lg x e w0 w oi os (some B) n zs (some (oa,oc))):Lf w0 (put6 w B (.int .i64 E) (.int .i64 c) (.slice oa n oc) (.int .i64 st) (.int .i64 mv) (.int .i64 cp)) B E c st mv cp oa oc n zs:=by
 obtain⟨b1,b2,b3⟩:=h.rb B rfl;obtain⟨a1,a2⟩:=h.ra _ rfl;have nb:=h.nb B _ rfl rfl;obtain⟨m0,m1,m2,m3,m4,m5⟩:=put6_cells (w:=w) (b:=B) (.int .i64 E) (.int .i64 c) (.slice oa n oc) (.int .i64 st) (.int .i64 mv) (.int .i64 cp) (fun k hk=>(b3 k hk).1);have hsz:=put6_size (w:=w) (b:=B) (.int .i64 E) (.int .i64 c) (.slice oa n oc) (.int .i64 st) (.int .i64 mv) (.int .i64 cp);refine⟨put6_later _ _ _ _ _ _ h.lat b1,b1,by rw[hsz];exact b2,fun k v hv=>?_,a1.far (by rw[hsz];exact Nat.le_refl _) (fun b hb=>put6_far _ _ _ _ _ _ (nb b hb)),fun b hb=>⟨(a2 b hb).1,by rw[hsz];exact (a2 b hb).2,nb b hb⟩⟩
 match k with
 | 0=>cases hv;exact m0
 | 1=>cases hv;exact m1
 | 2=>cases hv;exact m2
 | 3=>cases hv;exact m3
 | 4=>cases hv;exact m4
 | 5=>cases hv;exact m5
 | k+6=>simp at hv
theorem Lg.fresh {x:Im}{e:Se}{w0 w:World}{oi os:Option (Value × Value)}{n:Nat}{zs:List Int}{oa:Option Addr}{oc:Nat}(E c st mv cp:Int) (h:Lg x e w0 w oi os none n zs (some (oa,oc))):Lf w0 (w.alloc (Obj.cells #[.int .i64 E,.int .i64 c,.slice oa n oc,.int .i64 st,.int .i64 mv,.int .i64 cp] 33)) w.heap.size E c st mv cp oa oc n zs:=by
 have l:=later_a w (Obj.cells #[.int .i64 E,.int .i64 c,.slice oa n oc,.int .i64 st,.int .i64 mv,.int .i64 cp] 33);obtain⟨a1,a2⟩:=h.ra _ rfl;exact⟨h.lat.trans l,h.lat.size,box_lt' w _,fun k v hv=>box_at' w _ hv,a1.later l,fun b hb=>⟨(a2 b hb).1,Nat.lt_of_lt_of_le (a2 b hb).2 l.size,by have:=(a2 b hb).2;omega⟩⟩
theorem Lf.kept {w0 w w':World}{B:Nat}{E c st mv cp:Int}{oa:Option Addr}{oc n:Nat}{zs:List Int}(h:Lf w0 w B E c st mv cp oa oc n zs) (l:Later w w'):Lf w0 w' B E c st mv cp oa oc n zs :=
 ⟨h.lat.trans l,h.lo,Nat.lt_of_lt_of_le h.lt l.size,fun k v hv=>by rw[Below.cell l (p:=⟨B,k,none⟩) h.lt];exact h.c k v hv,h.ra.later l,fun b hb=>⟨(h.rb b hb).1,Nat.lt_of_lt_of_le (h.rb b hb).2.1 l.size,(h.rb b hb).2.2⟩⟩
theorem later_grow2 {a b c:World}{r:Option Nat}(h:Later a b) (k:b.grownBy c r) (hg:∀ g,r=some g→a.heap.size≤g):Later a c:=⟨k.os.trans h.os,k.tape.trans h.tape,k.output.trans h.output,Nat.le_trans h.size k.size,fun i hi=>by rw[k.block i (Nat.lt_of_lt_of_le hi h.size) (fun q=>by have:=hg i q.symm;omega)];exact h.block i hi⟩
theorem seSz (e:Se):In.szs e.input+In.szs e.oracle≤e.sz:=by
 obtain⟨a,b,i,f,o⟩:=e;show In.szs i+In.szs o≤Se.sz (.mk a b i f o);rw[Se.sz];first|exact Nat.le_refl _|omega
theorem Se.skView {P:Nat→Prop}{w:World}{x:Se}{cs:List Value}(h:Sk P w x.dat cs):∃ y0 y1 a0 p0 y3 a1 p1,cs=[.int .i64 y0,.int .i64 y1,.slice a0 x.input.length p0,.int .i64 y3,.slice a1 x.oracle.length p1]∧Sk P w (.list 1 (In.dats x.input)) [.slice a0 x.input.length p0]∧Sk P w (.list 1 (In.dats x.oracle)) [.slice a1 x.oracle.length p1]:=by
 obtain⟨half,stack,input,fuel,oracle⟩:=x;rw[Se.dat,Sk]at h;rw[SkAgg]at h;obtain⟨c0,d0,rfl,h0,h⟩:=h;rw[Sk]at h0;obtain⟨y0,rfl⟩:=h0;rw[SkAgg]at h;obtain⟨c1,d1,rfl,h1,h⟩:=h;rw[Sk]at h1;obtain⟨y1,rfl⟩:=h1;rw[SkAgg]at h;obtain⟨c2,d2,rfl,h2,h⟩:=h;have e2:=h2;rw[Sk]at e2;obtain⟨a0,p0,rfl,_⟩:=e2;rw[In.dats_len]at h2;rw[SkAgg]at h;obtain⟨c3,d3,rfl,h3,h⟩:=h;rw[Sk]at h3;obtain⟨y3,rfl⟩:=h3;rw[SkAgg]at h;obtain⟨c4,d4,rfl,h4,h⟩:=h;have e4:=h4;rw[Sk]at e4;obtain⟨a1,p1,rfl,_⟩:=e4;rw[In.dats_len]at h4;rw[SkAgg]at h;subst h;exact⟨_,_,_,_,_,_,_,by simp only[In.dats_len];rfl,h2,h4⟩
theorem en_toI:Enters Tryz.prog 7:=enters_of Tryz.func7 (by kernel_rfl) (by kernel_rfl)
theorem en_toS:Enters Tryz.prog 8:=enters_of Tryz.func8 (by kernel_rfl) (by kernel_rfl)
theorem en_spR:Enters Tryz.prog 6:=enters_of Tryz.func6 (by kernel_rfl) (by kernel_rfl)
theorem en_imR:Enters Tryz.prog 9:=enters_of Tryz.func9 (by kernel_rfl) (by kernel_rfl)
end Go.Proofs.YtjnpncefkigcbaaGreat
