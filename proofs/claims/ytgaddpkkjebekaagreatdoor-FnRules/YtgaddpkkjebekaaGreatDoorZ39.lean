import Derived.Test.YtgaddpkkjebekaaGreatDoorZ37
import Derived.Test.YtgaddpkkjebekaaGreatDoorZ09
import Derived.Test.YtgaddpkkjebekaaGreatDoorZ14
set_option maxHeartbeats 100000000
set_option maxRecDepth 100000
namespace Go.Proofs.YtgaddpkkjebekaaGreatDoor
open Go.RowKit Go.Maps
structure Tks (E:ak) (TX:Nat->Value) (TB:Nat->List Nat) (tv:Value) (w:World):Prop where
 row:∃ a cap,tv=.slice a E.l.length cap/\∀ j (hj:j<E.l.length),∃ g off,a=some ⟨g,off,none⟩/\g<w.heap.size/\w.cell? ⟨g,off+j*4,none⟩=some (.int .i64 E.l[j].1)/\w.cell? ⟨g,off+j*4+1,none⟩=some (.int .i64 E.l[j].2.1)/\w.cell? ⟨g,off+j*4+2,none⟩=some (.int .i64 E.l[j].2.2.1)/\w.cell? ⟨g,off+j*4+3,none⟩=some (TX j)
 few:E.l.length<=6000
 txt:∀ j (hj:j<E.l.length),ai w (.bytes E.l[j].2.2.2) [TX j] (TB j)
structure Ps (E:ak) (TX:Nat->Value) (TB:Nat->List Nat) (en:Int) (S:List Sc) (K:Nat) (tv sv fv:Value) (w:World) (i:Nat):Prop where
 box:Bxx w K [tv,.int .i64 (i:Int),.int .i64 en,sv,fv]
 le:i<=E.l.length
 tks:∀ w',af K w w'->Tks E TX TB tv w'
 scs:∀ w',af K w w'->RdL w' 2 sv (Sc.ah S)
 ns:S.map Sc.name=E.ns
theorem Ps.later {E:ak}{TX:Nat->Value}{TB:Nat->List Nat}{en:Int}{S:List Sc}{K:Nat}{tv sv fv:Value}{w w':World}{i:Nat}(h:Ps E TX TB en S K tv sv fv w i) (l:Later w w'):Ps E TX TB en S K tv sv fv w' i :=
 ⟨h.box.later l,h.le,fun w2 o=>h.tks w2 ((af.of_later l).trans o),fun w2 o=>h.scs w2 ((af.of_later l).trans o),h.ns⟩
theorem Ps.step {E:ak}{TX:Nat->Value}{TB:Nat->List Nat}{en:Int}{S:List Sc}{K:Nat}{tv sv fv:Value}{w:World}{i:Nat}(h:Ps E TX TB en S K tv sv fv w i) (hi:i<E.l.length):Ps E TX TB en S K tv sv fv (w.setCell ⟨K,1,none⟩ (.int .i64 ((i+1:Nat):Int))) (i+1) :=
 ⟨h.box.set 1 _ (by simp),hi,fun w2 o=>h.tks w2 (((af.refl K w).set 1 _).trans o),fun w2 o=>h.scs w2 (((af.refl K w).set 1 _).trans o),h.ns⟩
def txV (E:ak) (TX:Nat->Value) (i:Nat):Value:=match E.l[i]? with
 | some _=>TX i
 | none=>.slice none 0 0
def ak.pos (E:ak) (en:Int) (i:Nat):Int:=match E.l[i]? with
 | some t=>t.2.1
 | none=>en
def tkV (E:ak) (TX:Nat->Value) (en:Int) (i:Nat):Value:=.agg #[.int .i64 (E.kind i),.int .i64 (E.pos en i),.int .i64 (E.num i),txV E TX i]
theorem Ps.text {E:ak}{TX:Nat->Value}{TB:Nat->List Nat}{en:Int}{S:List Sc}{K:Nat}{tv sv fv:Value}{w:World}{i:Nat}(h:Ps E TX TB en S K tv sv fv w i) (k:Nat):RdN w (txV E TX k) (E.txt k):=by
 rcases Nat.lt_or_ge k E.l.length with q|q
 ·have e1:txV E TX k=TX k:=by unfold txV;rw[List.getElem?_eq_getElem q]
  have e2:E.txt k=E.l[k].2.2.2:=by unfold ak.txt;rw[List.getElem?_eq_getElem q]
  rw[e1,e2];obtain⟨v,e,r⟩:=RdN.iff.1 (ai.rd _ ((h.tks w (af.refl _ _)).txt k q))
  cases e
  exact r
 ·have e1:txV E TX k=.slice none 0 0:=by unfold txV;rw[List.getElem?_eq_none_iff.2 q]
  have e2:E.txt k=[]:=by unfold ak.txt;rw[List.getElem?_eq_none_iff.2 q]
  rw[e1,e2];exact⟨RdB.nil w,none,0,rfl,Nat.le_refl _,Nat.zero_le _⟩
theorem jb {w:World}{zs:List Int}{v:Value}{F:List Nat}(h:ai w (.bytes zs) [v] F):∃ a cap,v=.slice a zs.length cap:=by
 rw[ai]at h;obtain⟨a,cap,hc,_⟩:=h;exact⟨a,cap,by simpa using hc⟩
theorem gm (E:ak) (TX:Nat->Value) (TB:Nat->List Nat) (en:Int) (S:List Sc) (K:Nat) (tv sv fv:Value) (w:World) (i:Nat) (h:Ps E TX TB en S K tv sv fv w i):Calls Tryz.prog 19 #[.pointer (some ⟨K,0,none⟩)] w fun e w'=>e=.returned (tkV E TX en i)/\Later w w':=by
 obtain⟨⟨a,cap,rfl,hr⟩,hfew,htx⟩:=h.tks w (af.refl _ _);have b0:=(h.box.cell 0 _ rfl).1;have b1:=(h.box.cell 1 _ rfl).1;have b2:=(h.box.cell 2 _ rfl).1;have bl:=h.box.lt;rcases Nat.lt_or_ge i E.l.length with q|q
 ·obtain⟨g,off,rfl,hg,c0,c1,c2,c3⟩:=hr i q;have i1:(i:Int)<(E.l.length:Int):=by omega
  have e1:tkV E TX en i=.agg #[.int .i64 E.l[i].1,.int .i64 E.l[i].2.1,.int .i64 E.l[i].2.2.1,TX i]:=by unfold tkV txV ak.kind ak.pos ak.num;rw[List.getElem?_eq_getElem q]
  obtain⟨xa,xc,hx⟩:=jb (htx i q);rw[e1];rw[hx]at c3 ⊢;clear h hr e1 htx hx
  generalize E.l[i].2.2.2.length=xn at *
  go_enter Tryz.func19,Tryz.ntmps19;go_wp2_with fail
  go_region
  all_goals
   go_wp2_with fail
   go_region
  all_goals
   go_wp2_with fail
   exact bodyPost_ret (v:=.agg #[.int .i64 E.l[i].1,.int .i64 E.l[i].2.1,.int .i64 E.l[i].2.2.1,.slice xa xn xc]) (by simp[results,Tryz.results19,go_sem]) rfl ⟨rfl,(by repeat (first|with_reducible exact Later.refl _|refine Later.setAt ?_ (Nat.le_refl _) _ _|refine Later.alloc ?_ _|refine Later.trans ?_ (Later.drew _)))⟩
 ·have i1:¬ (i:Int)<(E.l.length:Int):=by omega
  have e1:tkV E TX en i=.agg #[.int .i64 0,.int .i64 en,.int .i64 0,.slice none 0 0]:=by unfold tkV txV ak.kind ak.pos ak.num;rw[List.getElem?_eq_none_iff.2 q]
  rw[e1];clear h hr e1 htx;go_enter Tryz.func19,Tryz.ntmps19;go_wp2_with fail
  go_region
  all_goals
   go_wp2_with fail
   exact bodyPost_ret (v:=.agg #[.int .i64 0,.int .i64 en,.int .i64 0,.slice none 0 0]) (by simp[results,Tryz.results19,go_sem]) rfl ⟨rfl,(by repeat (first|with_reducible exact Later.refl _|refine Later.setAt ?_ (Nat.le_refl _) _ _|refine Later.alloc ?_ _|refine Later.trans ?_ (Later.drew _)))⟩
def Lit (s:ByteArray) (ys:List Int):Prop:=ys.map (fun n=>UInt8.ofNat n.toNat)=s.toList/\ys.all (fun z=>decide (0<=z)&&decide (z<=255))=true
theorem Lit.same {s:ByteArray}{ys zs:List Int}(h:Lit s ys) (hz:∀ j,isB (zs.getD j 0)):((strOfNums zs).toList==s.toList)=decide (zs=ys):=dO hz (eY h.2) h.1
theorem NP (k q n:Int) (x:Value) (w:World):(Instr.field 45 (.agg #[.int .i64 k,.int .i64 q,.int .i64 n,x]) 3).run Tryz.prog w=.ok x w:=by kernel_rfl
theorem Hr (k q n:Int) (x:Value) (w:World):(Instr.field 45 (.agg #[.int .i64 k,.int .i64 q,.int .i64 n,x]) 1).run Tryz.prog w=.ok (.int .i64 q) w:=by kernel_rfl
theorem nT (E:ak) (TX:Nat->Value) (TB:Nat->List Nat) (en:Int) (S:List Sc) (K:Nat) (tv sv fv:Value) (w:World) (i:Nat) (h:Ps E TX TB en S K tv sv fv w i) (s:ByteArray) (ys:List Int) (hs:Lit s ys):Calls Tryz.prog 40 #[.pointer (some ⟨K,0,none⟩),.string s] w fun e w'=>e=.returned (.bool (decide (E.txt i=ys)))/\Later w w':=by
 have hp:=gm E TX TB en S K tv sv fv w i h;have hl:=hs.same (h.text i).rd.isB;have hc:=fun w' (l:Later w w')=>eH ((h.later l).text i).rd;obtain⟨a,cap,hv,_⟩:=(h.text i).slice;unfold tkV at hp;rw[hv]at hp hc;clear h hs hv
 generalize decide (E.txt i=ys)=b at *
 generalize E.txt i=zs at *
 generalize E.kind i=k at *
 generalize E.num i=n at *
 generalize E.pos en i=q at *
 go_enter Tryz.func40,Tryz.ntmps40;go_wp2_with fail
 refine hp.mono ?_;rintro e w1 ⟨rfl,l1⟩;have hc1:=hc w1 l1;have hfd:=NP;clear hp hc;go_wp2_with fail
 go_ret;exact⟨rfl,l1⟩
def GX (E:ak) (TX:Nat->Value) (TB:Nat->List Nat) (en:Int) (S:List Sc) (K:Nat) (tv sv fv:Value) (w:World) (i:Nat) (ys:List Int) (e:Ending) (w':World):Prop:=e=.returned (.bool (decide (E.txt i=ys)))/\af K w w'/\(E.txt i=ys->Ps E TX TB en S K tv sv fv w' (i+1))/\(E.txt i≠ys->Ps E TX TB en S K tv sv fv w' i)
theorem sV (E:ak) (TX:Nat->Value) (TB:Nat->List Nat) (en:Int) (S:List Sc) (K:Nat) (tv sv fv:Value) (w:World) (i:Nat) (h:Ps E TX TB en S K tv sv fv w i) (s:ByteArray) (ys:List Int) (hs:Lit s ys) (hy:ys≠[]):Calls Tryz.prog 16 #[.pointer (some ⟨K,0,none⟩),.string s] w (GX E TX TB en S K tv sv fv w i ys):=by
 have hp:=nT E TX TB en S K tv sv fv w i h s ys hs;have hfew:=(h.tks w (af.refl _ _)).few;have hle:=h.le;by_cases q:E.txt i=ys
 ·have hi:=ak.aX (E:=E) (i:=i) (by rw[q];exact hy)
  have HF:Hid (∀ w1,Later w w1->GX E TX TB en S K tv sv fv w i ys (.returned (.bool true)) (w1.setCell ⟨K,1,none⟩ (.int .i64 ((i:Int)+1)))):=fun w1 l=>⟨by rw[decide_eq_true q],(af.of_later l).set 1 _,fun _=>(h.later l).step hi,fun n=>absurd q n⟩
  have HC:Hid (∀ w1,Later w w1->w1.cell? ⟨K,1,none⟩=some (.int .i64 (i:Int))/\w1.frozen? ⟨K,1,none⟩=false/\K<w1.heap.size):=fun w1 l=>⟨((h.box.later l).cell 1 _ rfl).1,((h.box.later l).cell 1 _ rfl).2,(h.box.later l).lt⟩
  rw[decide_eq_true q]at hp
  generalize GX E TX TB en S K tv sv fv w i ys=Q at *
  clear h hs q;go_enter Tryz.func16,Tryz.ntmps16;go_wp2_with fail
  refine hp.mono ?_;rintro e w1 ⟨rfl,l1⟩;obtain⟨c1,c2,c3⟩:=HC.out w1 l1;have HZ:=HF.out w1 l1;clear hp HC HF;go_wp2_with fail
  exact HZ
 ·have HF:Hid (∀ w1,Later w w1->GX E TX TB en S K tv sv fv w i ys (.returned (.bool false)) w1):=fun w1 l=>⟨by rw[decide_eq_false q],af.of_later l,fun n=>absurd n q,fun _=>h.later l⟩
  rw[decide_eq_false q]at hp
  generalize GX E TX TB en S K tv sv fv w i ys=Q at *
  clear h hs q;go_enter Tryz.func16,Tryz.ntmps16;go_wp2_with fail
  refine hp.mono ?_;rintro e w1 ⟨rfl,l1⟩;have HZ:=HF.out w1 l1;clear hp HF;go_wp2_with fail
  exact HZ
def D8 (E:ak) (en:Int) (i:Nat):Ending:=.panicked [{ v:=.iface 36 (.int .i64 (E.pos en i)),recovered:=false }]
def GV (E:ak) (TX:Nat->Value) (TB:Nat->List Nat) (en:Int) (S:List Sc) (K:Nat) (tv sv fv:Value) (w:World) (i:Nat) (ys:List Int) (e:Ending) (w':World):Prop:=af K w w'/\(E.txt i=ys->e=.returned (.tuple #[])/\Ps E TX TB en S K tv sv fv w' (i+1))/\(E.txt i≠ys->e=D8 E en i)
theorem CV (E:ak) (TX:Nat->Value) (TB:Nat->List Nat) (en:Int) (S:List Sc) (K:Nat) (tv sv fv:Value) (w:World) (i:Nat) (h:Ps E TX TB en S K tv sv fv w i) (s:ByteArray) (ys:List Int) (hs:Lit s ys) (hy:ys≠[]):Calls Tryz.prog 42 #[.pointer (some ⟨K,0,none⟩),.string s] w (GV E TX TB en S K tv sv fv w i ys):=by
 have hp:=sV E TX TB en S K tv sv fv w i h s ys hs hy;have hpk:=fun w' h=>gm E TX TB en S K tv sv fv w' i h;have hfd:=Hr;unfold tkV at hpk;by_cases q:E.txt i=ys
 ·have HF:Hid (∀ w1,af K w w1->Ps E TX TB en S K tv sv fv w1 (i+1)->GV E TX TB en S K tv sv fv w i ys (.returned (.tuple #[])) w1):=fun w1 o p=>⟨o,fun _=>⟨rfl,p⟩,fun n=>absurd q n⟩
  generalize GV E TX TB en S K tv sv fv w i ys=Q at *
  clear hs h hpk;go_enter Tryz.func42,Tryz.ntmps42;go_wp2_with fail
  refine hp.mono ?_;rintro e w1 ⟨rfl,o1,hy1,_⟩;have HZ:=HF.out w1 o1 (hy1 q);rw[decide_eq_true q];clear hp HF hy1;go_wp2_with fail
  go_end0;exact HZ
 ·have HF:Hid (∀ w1,af K w w1->GV E TX TB en S K tv sv fv w i ys (D8 E en i) w1):=fun w1 o=>⟨o,fun n=>absurd n q,fun _=>rfl⟩
  unfold D8 at HF
  generalize GV E TX TB en S K tv sv fv w i ys=Q at *
  clear hs h;go_enter Tryz.func42,Tryz.ntmps42;go_wp2_with fail
  refine hp.mono ?_;rintro e w1 ⟨rfl,o1,_,hn1⟩;have hk:=hpk w1 (hn1 q);rw[decide_eq_false q];clear hp hn1 hpk;go_wp2_with fail
  refine hk.mono ?_;rintro e w2 ⟨rfl,l2⟩;have HZ:=HF.out w2 (o1.trans (af.of_later l2));clear hk HF;go_wp2_with fail
  exact⟨rfl,HZ⟩
def placeOf (ns:List (List Int)) (nm:List Int):Int:=match ns.findIdx? (fun x=>x==nm) with
 | some n=>(n:Int)
 | none=>-1
theorem Ol {ns:List (List Int)}{nm:List Int}{j:Nat}(h:j<ns.length) (e:ns[j]=nm) (hn:∀ i (hi:i<ns.length),i<j->ns[i]≠nm):placeOf ns nm=(j:Int):=by
 unfold placeOf;rw[List.findIdx?_eq_some_iff_getElem.2 ⟨h,by rw[e];exact beq_self_eq_true _,fun i hi=>by simpa using hn i (by omega) hi⟩]
theorem H9 {ns:List (List Int)}{nm:List Int}(hn:∀ i (hi:i<ns.length),ns[i]≠nm):placeOf ns nm=-1:=by
 unfold placeOf
 rw[List.findIdx?_eq_none_iff.2 (fun x hx=>by
  obtain⟨i,hi,rfl⟩:=List.mem_iff_getElem.1 hx
  simpa using hn i hi)]
theorem RJ (E:ak) (i:Nat):kV E i=if 0<=placeOf E.ns (E.txt i) then .ok (placeOf E.ns (E.txt i),i+1) else .error i:=by
 unfold kV placeOf
 cases E.ns.findIdx? (fun x=>x==E.txt i) with
 | none=>exact (if_neg (by decide)).symm
 | some n=>exact (if_pos (Int.natCast_nonneg n)).symm
theorem yJ (v u:Value) (l:List Sc) (nm:List Int) (w:World) (h:RdL w 2 v (Sc.ah l)) (k:RdB w u nm):Calls Tryz.prog 73 #[v,u] w fun e w'=>e=.returned (.int .i64 (placeOf (l.map Sc.name) nm))/\Later w w':=by
 obtain⟨a,cap,rfl,hl⟩:=Sc.slice h;obtain⟨b,cap',rfl,_⟩:=k.slice;refine Calls.mono (R:=fun e w'=>Hid (e=.returned (.int .i64 (placeOf (l.map Sc.name) nm))/\Later w w')) ?_ (fun _ _ h=>h.out);go_enter Tryz.func73,Tryz.ntmps73;go_wp2_with fail
 go_loopw [9] (fun i wr=>∃ (j:Nat),i=.int .i64 (j:Int)/\j<=l.length/\Later w wr/\Hid (∀ i (hi:i<l.length),i<j->l[i].name≠nm)) (fun i _=>l.length - (intOf i).toNat)
 case atStart=>exact⟨0,rfl,Nat.zero_le _,Later.refl _,fun i _ hj=>absurd hj (Nat.not_lt_zero _)⟩
 case round =>
  obtain⟨j,rfl,hj,lr,HA⟩:=hrel;by_cases hlt:j<l.length
  ·obtain⟨g,off,v0,v1,rfl,hgs,c0,c1,r0,r1⟩:=Sc.elem (RdL.later lr h) j hlt;have i1:(j:Int)<(l.length:Int):=by omega
   have hE:=fun w' (ll:Later wr w')=>yj v0 _ l[j].name nm w' (r0.later ll).rd (k.later (lr.trans ll));obtain⟨y0,q0,rfl,_⟩:=r0.slice;obtain⟨y1,q1,rfl,_⟩:=Pa.slice r1;by_cases q:l[j].name=nm
   ·have HY:Hid (placeOf (l.map Sc.name) nm=(j:Int)):=Ol (by rw[List.length_map];exact hlt) (by rw[List.getElem_map];exact q) (fun i hi hij=>by rw[List.getElem_map];exact HA.out i (by rw[List.length_map]at hi;exact hi) hij);rw[decide_eq_true q]at hE;clear r0 r1 HA h k q;go_wp2_with (go_at_call 62;refine (hE _ (ae _ _)).mono ?_;rintro e w1 ⟨rfl,hww⟩;obtain rfl:=hww.symm)
    go_ret;exact⟨by rw[HY.out];rfl,lr.alloc _⟩
   ·have HN:Hid (∀ i (hi:i<l.length),i<j+1->l[i].name≠nm):=fun i hi hij=>by
     rcases Nat.lt_or_ge i j with a|a
     ·exact HA.out i hi a
     ·have:i=j:=by omega
      subst this;exact q
    rw[decide_eq_false q]at hE;clear r0 r1 HA h k q;go_wp2_with (go_at_call 62;refine (hE _ (ae _ _)).mono ?_;rintro e w1 ⟨rfl,hww⟩;obtain rfl:=hww.symm)
    go_roundw
    case rel=>exact⟨j+1,by go_num,by omega,lr.alloc _,HN⟩
    case measure=>simp[intOf];omega
  ·have i1:¬ (j:Int)<(l.length:Int):=by omega
   have i2:decide ((j:Int)<(l.length:Int))=false:=decide_eq_false i1;have HN:Hid (placeOf (l.map Sc.name) nm=-1):=H9 (fun i hi=>by rw[List.getElem_map];exact HA.out i (by rw[List.length_map]at hi;exact hi) (by rw[List.length_map]at hi;omega));clear HA h k;go_wp2_with fail
   go_ret;exact⟨by rw[HN.out];rfl,lr⟩
structure PcP {α:Type}(E:ak) (TX:Nat->Value) (TB:Nat->List Nat) (en:Int) (S:List Sc) (K:Nat) (tv sv fv:Value) (w:World) (r:PR α) (V:α->Nat->Value->World->Prop) (e:Ending) (w':World):Prop where
 only:af K w w'
 well:∀ x j,r=.ok (x,j)->∃ v,e=.returned v/\Ps E TX TB en S K tv sv fv w' j/\V x j v w'
 bad:∀ k,r=.error k->e=D8 E en k
theorem PcP.no {α:Type}{E:ak}{TX:Nat->Value}{TB:Nat->List Nat}{en:Int}{S:List Sc}{K:Nat}{tv sv fv:Value}{w:World}{r:PR α}{V:α->Nat->Value->World->Prop}{w':World}{k:Nat}(h:r=.error k) (o:af K w w'):PcP E TX TB en S K tv sv fv w r V (D8 E en k) w' :=
 ⟨o,fun x j q=>(by rw[h]at q;cases q),fun k' q=>(by rw[h]at q;cases q;rfl)⟩
theorem PcP.yes {α:Type}{E:ak}{TX:Nat->Value}{TB:Nat->List Nat}{en:Int}{S:List Sc}{K:Nat}{tv sv fv:Value}{w:World}{r:PR α}{V:α->Nat->Value->World->Prop}{w':World}{x:α}{j:Nat}{v:Value}(h:r=.ok (x,j)) (o:af K w w') (p:Ps E TX TB en S K tv sv fv w' j) (hv:V x j v w'):PcP E TX TB en S K tv sv fv w r V (.returned v) w' :=
 ⟨o,fun x' j' q=>(by rw[h]at q;cases q;exact⟨v,rfl,p,hv⟩),fun k' q=>(by rw[h]at q;cases q)⟩
theorem Ps.cells {E:ak}{TX:Nat->Value}{TB:Nat->List Nat}{en:Int}{S:List Sc}{K:Nat}{tv sv fv:Value}{w:World}{i:Nat}(h:Ps E TX TB en S K tv sv fv w i):w.cell? ⟨K,1,none⟩=some (.int .i64 (i:Int))/\w.frozen? ⟨K,1,none⟩=false/\K<w.heap.size:=⟨(h.box.cell 1 _ rfl).1,(h.box.cell 1 _ rfl).2,h.box.lt⟩
theorem oU (E:ak) (TX:Nat->Value) (TB:Nat->List Nat) (en:Int) (S:List Sc) (K:Nat) (tv sv fv:Value) (w:World) (i:Nat) (h:Ps E TX TB en S K tv sv fv w i) (hn:E.nm=aQ):Calls Tryz.prog 44 #[.pointer (some ⟨K,0,none⟩)] w (PcP E TX TB en S K tv sv fv w (eX E i) (fun _ _ v _=>v=TX i)):=by
 have hp:=gm E TX TB en S K tv sv fv w i h;have hN:=fun w' (l:Later w w')=>nU (txV E TX i) (E.txt i) w' ((h.later l).text i);have hle:=h.le;have hfew:=(h.tks w (af.refl _ _)).few;obtain⟨xa,xc,hx,_⟩:=(h.text i).slice;unfold tkV at hp;rw[hx]at hp hN;by_cases q:aQ (E.txt i)=true
 ·have hi:=ak.aX (E:=E) (i:=i) (fun e=>by rw[e]at q;revert q;decide);have e1:txV E TX i=TX i:=by unfold txV;rw[List.getElem?_eq_getElem hi]
  have HF:Hid (∀ w1,Later w w1->PcP E TX TB en S K tv sv fv w (eX E i) (fun _ _ v _=>v=TX i) (.returned (.slice xa (E.txt i).length xc)) (w1.setCell ⟨K,1,none⟩ (.int .i64 ((i:Int)+1)))):=fun w1 l=>PcP.yes (j:=i+1) (x:=E.txt i) (by unfold eX;rw[hn,if_pos q]) ((af.of_later l).set 1 _) ((h.later l).step hi) (by rw[<-hx,e1]);have HC:Hid (∀ w1,Later w w1->w1.cell? ⟨K,1,none⟩=some (.int .i64 (i:Int))/\w1.frozen? ⟨K,1,none⟩=false/\K<w1.heap.size):=fun w1 l=>(h.later l).cells;rw[q]at hN
  generalize PcP E TX TB en S K tv sv fv w (eX E i) (fun _ _ v _=>v=TX i)=Q at *
  clear h q hx e1 hn
  generalize (E.txt i).length=xn at *
  generalize E.kind i=tk at *
  generalize E.num i=tn at *
  generalize E.pos en i=tp at *
  go_enter Tryz.func44,Tryz.ntmps44;go_wp2_with fail
  refine hp.mono ?_;rintro e w1 ⟨rfl,l1⟩;obtain⟨wb,hwb⟩:=hidx (w1.alloc (.cells #[.int .i64 tk,.int .i64 tp,.int .i64 tn,.slice xa xn xc] 45));have lb:Later w wb:=by rw[hwb.out];exact l1.trans (ae _ _)
  have hN2:=hN wb lb;obtain⟨c1,c2,c3⟩:=HC.out wb lb;have HZ:=HF.out wb lb;have hbx:Bxx wb w1.heap.size [.int .i64 tk,.int .i64 tp,.int .i64 tn,.slice xa xn xc]:=by rw[hwb.out];exact Bxx.new _ _ _
  have b3:=(hbx.cell 3 _ rfl).1;have bl:=hbx.lt;have hKn:w1.heap.size≠K:=by have:=(HC.out w1 l1).2.2;omega
  clear hp hN HC HF hbx;go_wp2_with fail
  rw[<-hwb.out];refine hN2.mono ?_;rintro e w2 ⟨rfl,hw2⟩;obtain rfl:=hw2.symm;clear hN2;go_wp2_with fail
  exact HZ
 ·have HF:Hid (∀ w1,Later w w1->PcP E TX TB en S K tv sv fv w (eX E i) (fun _ _ v _=>v=TX i) (D8 E en i) w1):=fun w1 l=>PcP.no (by unfold eX;rw[hn,if_neg q]) (af.of_later l);unfold D8 at HF;rw[Bool.not_eq_true]at q;rw[q]at hN
  generalize PcP E TX TB en S K tv sv fv w (eX E i) (fun _ _ v _=>v=TX i)=Q at *
  clear h q hx hn
  generalize (E.txt i).length=xn at *
  generalize E.kind i=tk at *
  generalize E.num i=tn at *
  generalize E.pos en i=tp at *
  go_enter Tryz.func44,Tryz.ntmps44;go_wp2_with fail
  refine hp.mono ?_;rintro e w1 ⟨rfl,l1⟩;obtain⟨wb,hwb⟩:=hidx (w1.alloc (.cells #[.int .i64 tk,.int .i64 tp,.int .i64 tn,.slice xa xn xc] 45));have lb:Later w wb:=by rw[hwb.out];exact l1.trans (ae _ _)
  have hN2:=hN wb lb;have HZ:=HF.out wb lb;have hbx:Bxx wb w1.heap.size [.int .i64 tk,.int .i64 tp,.int .i64 tn,.slice xa xn xc]:=by rw[hwb.out];exact Bxx.new _ _ _
  have b1:=(hbx.cell 1 _ rfl).1;have bl:=hbx.lt;clear hp hN HF hbx;go_wp2_with fail
  rw[<-hwb.out];refine hN2.mono ?_;rintro e w2 ⟨rfl,hw2⟩;obtain rfl:=hw2.symm;clear hN2;go_wp2_with fail
  exact⟨rfl,HZ⟩
theorem C9 (E:ak) (TX:Nat->Value) (TB:Nat->List Nat) (en:Int) (S:List Sc) (K:Nat) (tv sv fv:Value) (w:World) (i:Nat) (h:Ps E TX TB en S K tv sv fv w i) (F:E.Fit):Calls Tryz.prog 75 #[.pointer (some ⟨K,0,none⟩)] w (PcP E TX TB en S K tv sv fv w (kV E i) (fun n _ v _=>v=.int .i64 n)):=by
 have hp:=gm E TX TB en S K tv sv fv w i h;have hN:=fun w' (l:Later w w')=>yJ sv (txV E TX i) S (E.txt i) w' ((h.later l).scs w' (af.refl _ _)) ((h.later l).text i).rd;rw[h.ns]at hN;have hle:=h.le;have hfew:=(h.tks w (af.refl _ _)).few;obtain⟨sa,sc,rfl,_⟩:=Sc.slice (h.scs w (af.refl _ _));obtain⟨xa,xc,hx,_⟩:=(h.text i).slice;have hnum:=RJ E i;unfold tkV at hp;rw[hx]at hp hN
 have HC:Hid (∀ w1,Later w w1->(w1.cell? ⟨K,1,none⟩=some (.int .i64 (i:Int))/\w1.frozen? ⟨K,1,none⟩=false/\K<w1.heap.size)/\w1.cell? ⟨K,3,none⟩=some (.slice sa S.length sc)):=fun w1 l=>⟨(h.later l).cells,((h.later l).box.cell 3 _ rfl).1⟩
 by_cases q:0<=placeOf E.ns (E.txt i)
 ·rw[if_pos q]at hnum;have hi:=(wL F hnum).2;have HF:Hid (∀ w1,Later w w1->PcP E TX TB en S K tv (.slice sa S.length sc) fv w (kV E i) (fun n _ v _=>v=.int .i64 n) (.returned (.int .i64 (placeOf E.ns (E.txt i)))) (w1.setCell ⟨K,1,none⟩ (.int .i64 ((i:Int)+1)))):=fun w1 l=>PcP.yes hnum ((af.of_later l).set 1 _) ((h.later l).step hi) rfl
  generalize PcP E TX TB en S K tv (.slice sa S.length sc) fv w (kV E i) (fun n _ v _=>v=.int .i64 n)=Q at *
  clear h hx hnum F
  generalize placeOf E.ns (E.txt i)=pl at *
  have q':¬ pl<0:=by omega
  generalize (E.txt i).length=xn at *
  generalize E.kind i=tk at *
  generalize E.num i=tn at *
  generalize E.pos en i=tp at *
  generalize S.length=sn at *
  go_enter Tryz.func75,Tryz.ntmps75;go_wp2_with fail
  refine hp.mono ?_;rintro e w1 ⟨rfl,l1⟩;obtain⟨wb,hwb⟩:=hidx (w1.alloc (.cells #[.int .i64 tk,.int .i64 tp,.int .i64 tn,.slice xa xn xc] 45));have lb:Later w wb:=by rw[hwb.out];exact l1.trans (ae _ _)
  have hbx:Bxx wb w1.heap.size [.int .i64 tk,.int .i64 tp,.int .i64 tn,.slice xa xn xc]:=by rw[hwb.out];exact Bxx.new _ _ _
  have HS:Hid (∀ w',Later wb w'->(w'.cell? ⟨K,3,none⟩=some (.slice sa sn sc)/\w'.cell? ⟨w1.heap.size,3,none⟩=some (.slice xa xn xc))):=fun w' l=>⟨(HC.out w' (lb.trans l)).2,((hbx.later l).cell 3 _ rfl).1⟩
  have HB:Hid (∀ w',Later wb w'->w'.cell? ⟨w1.heap.size,1,none⟩=some (.int .i64 tp)/\w1.heap.size<w'.heap.size):=fun w' l=>⟨((hbx.later l).cell 1 _ rfl).1,(hbx.later l).lt⟩
  have hKn:w1.heap.size≠K:=by have:=(HC.out w1 l1).1.2.2;omega
  clear hp hbx;go_wp2_with fail
  rw[<-hwb.out];go_region_held3 (fun w'=>w'.cell? ⟨K,3,none⟩=some (.slice sa sn sc)/\w'.cell? ⟨w1.heap.size,3,none⟩=some (.slice xa xn xc)) (first|exact HS.out _ (Later.drew _)|exact HS.out _ ((Later.drew _).trans l2)) ((go_at_call 73;refine (hN _ (lb.trans (Later.drew _))).mono ?_;rintro e w2 ⟨rfl,l2⟩))
  all_goals
   have L2:=(Later.drew wb).trans l2;obtain⟨⟨c1,c2,c3⟩,c4⟩:=HC.out w2 (lb.trans L2);obtain⟨b1,bl⟩:=HB.out w2 L2;have HZ:=HF.out w2 (lb.trans L2);clear HC HB HF HS hN;go_wp2_with fail
   exact HZ
 ·rw[if_neg q]at hnum;have HF:Hid (∀ w1,Later w w1->PcP E TX TB en S K tv (.slice sa S.length sc) fv w (kV E i) (fun n _ v _=>v=.int .i64 n) (D8 E en i) w1):=fun w1 l=>PcP.no hnum (af.of_later l);unfold D8 at HF
  generalize PcP E TX TB en S K tv (.slice sa S.length sc) fv w (kV E i) (fun n _ v _=>v=.int .i64 n)=Q at *
  clear h hx hnum F
  generalize placeOf E.ns (E.txt i)=pl at *
  have q':pl<0:=by omega
  generalize (E.txt i).length=xn at *
  generalize E.kind i=tk at *
  generalize E.num i=tn at *
  generalize E.pos en i=tp at *
  generalize S.length=sn at *
  go_enter Tryz.func75,Tryz.ntmps75;go_wp2_with fail
  refine hp.mono ?_;rintro e w1 ⟨rfl,l1⟩;obtain⟨wb,hwb⟩:=hidx (w1.alloc (.cells #[.int .i64 tk,.int .i64 tp,.int .i64 tn,.slice xa xn xc] 45));have lb:Later w wb:=by rw[hwb.out];exact l1.trans (ae _ _)
  have hbx:Bxx wb w1.heap.size [.int .i64 tk,.int .i64 tp,.int .i64 tn,.slice xa xn xc]:=by rw[hwb.out];exact Bxx.new _ _ _
  have HS:Hid (∀ w',Later wb w'->(w'.cell? ⟨K,3,none⟩=some (.slice sa sn sc)/\w'.cell? ⟨w1.heap.size,3,none⟩=some (.slice xa xn xc))):=fun w' l=>⟨(HC.out w' (lb.trans l)).2,((hbx.later l).cell 3 _ rfl).1⟩
  have HB:Hid (∀ w',Later wb w'->w'.cell? ⟨w1.heap.size,1,none⟩=some (.int .i64 tp)/\w1.heap.size<w'.heap.size):=fun w' l=>⟨((hbx.later l).cell 1 _ rfl).1,(hbx.later l).lt⟩
  have hKn:w1.heap.size≠K:=by have:=(HC.out w1 l1).1.2.2;omega
  clear hp hbx;go_wp2_with fail
  rw[<-hwb.out];go_region_held3 (fun w'=>w'.cell? ⟨K,3,none⟩=some (.slice sa sn sc)/\w'.cell? ⟨w1.heap.size,3,none⟩=some (.slice xa xn xc)) (first|exact HS.out _ (Later.drew _)|exact HS.out _ ((Later.drew _).trans l2)) ((go_at_call 73;refine (hN _ (lb.trans (Later.drew _))).mono ?_;rintro e w2 ⟨rfl,l2⟩))
  all_goals
   have L2:=(Later.drew wb).trans l2;obtain⟨⟨c1,c2,c3⟩,c4⟩:=HC.out w2 (lb.trans L2);obtain⟨b1,bl⟩:=HB.out w2 L2;have HZ:=HF.out w2 (lb.trans L2);clear HC HB HF HS hN;go_wp2_with fail
   exact⟨rfl,HZ⟩
theorem Lit.of {s:ByteArray}{ys:List Int}(h:ys.map (fun n=>UInt8.ofNat n.toNat)=s.data.toList) (hb:ys.all (fun z=>decide (0<=z)&&decide (z<=255))=true):Lit s ys:=⟨by rw[ByteArray.toList_eq];exact h,hb⟩
theorem Fz:Lit ⟨#[116,121,112,101]⟩ [116,121,112,101]:=Lit.of rfl rfl
theorem FD:Lit ⟨#[102,117,110,99]⟩ [102,117,110,99]:=Lit.of rfl rfl
theorem Ah:Lit ⟨#[115,116,114,117,99,116]⟩ [115,116,114,117,99,116]:=Lit.of rfl rfl
theorem Ak:Lit ⟨#[123]⟩ [123]:=Lit.of rfl rfl
theorem Ea:Lit ⟨#[125]⟩ [125]:=Lit.of rfl rfl
theorem lh:Lit ⟨#[59]⟩ [59]:=Lit.of rfl rfl
theorem oO:Lit ⟨#[40]⟩ [40]:=Lit.of rfl rfl
theorem ku:Lit ⟨#[41]⟩ [41]:=Lit.of rfl rfl
theorem sQ:Lit ⟨#[44]⟩ [44]:=Lit.of rfl rfl
theorem Am:Lit ⟨#[91]⟩ [91]:=Lit.of rfl rfl
theorem Eb:Lit ⟨#[93]⟩ [93]:=Lit.of rfl rfl
theorem wR:Lit ⟨#[42]⟩ [42]:=Lit.of rfl rfl
theorem sO:Lit ⟨#[105,110,116]⟩ [105,110,116]:=Lit.of rfl rfl
theorem kL:Lit ⟨#[102,108,111,97,116]⟩ [102,108,111,97,116]:=Lit.of rfl rfl
theorem JR:Lit ⟨#[118,97,114]⟩ [118,97,114]:=Lit.of rfl rfl
theorem O0:Lit ⟨#[105,102]⟩ [105,102]:=Lit.of rfl rfl
theorem FH:Lit ⟨#[101,108,115,101]⟩ [101,108,115,101]:=Lit.of rfl rfl
theorem JW:Lit ⟨#[102,111,114]⟩ [102,111,114]:=Lit.of rfl rfl
theorem Ai:Lit ⟨#[114,101,116,117,114,110]⟩ [114,101,116,117,114,110]:=Lit.of rfl rfl
theorem CO:Lit ⟨#[112,114,105,110,116]⟩ [112,114,105,110,116]:=Lit.of rfl rfl
theorem CP:Lit ⟨#[112,97,110,105,99]⟩ [112,97,110,105,99]:=Lit.of rfl rfl
theorem O4:Lit ⟨#[100,111]⟩ [100,111]:=Lit.of rfl rfl
theorem O1:Lit ⟨#[61]⟩ [61]:=Lit.of rfl rfl
theorem JX:Lit ⟨#[46]⟩ [46]:=Lit.of rfl rfl
theorem JS:Lit ⟨#[110,105,108]⟩ [110,105,108]:=Lit.of rfl rfl
theorem JU:Lit ⟨#[110,101,119]⟩ [110,101,119]:=Lit.of rfl rfl
theorem FB:Lit ⟨#[114,101,97,100]⟩ [114,101,97,100]:=Lit.of rfl rfl
theorem FC:Lit ⟨#[109,97,107,101]⟩ [109,97,107,101]:=Lit.of rfl rfl
theorem JV:Lit ⟨#[108,101,110]⟩ [108,101,110]:=Lit.of rfl rfl
theorem df {E:ak}{TX:Nat->Value}{TB:Nat->List Nat}{en:Int}{S:List Sc}{K:Nat}{tv sv fv:Value}{w:World}{i:Nat}(h:Ps E TX TB en S K tv sv fv w i) (s:ByteArray) (ys:List Int) (hs:Lit s ys) (hy:ys≠[]) (q:E.txt i=ys):Calls Tryz.prog 42 #[.pointer (some ⟨K,0,none⟩),.string s] w fun e w'=>e=.returned (.tuple #[])/\af K w w'/\Ps E TX TB en S K tv sv fv w' (i+1) :=
 (CV E TX TB en S K tv sv fv w i h s ys hs hy).mono fun _ _ r=>⟨(r.2.1 q).1,r.1,(r.2.1 q).2⟩
theorem dN {E:ak}{TX:Nat->Value}{TB:Nat->List Nat}{en:Int}{S:List Sc}{K:Nat}{tv sv fv:Value}{w:World}{i:Nat}(h:Ps E TX TB en S K tv sv fv w i) (s:ByteArray) (ys:List Int) (hs:Lit s ys) (hy:ys≠[]) (q:E.txt i≠ys):Calls Tryz.prog 42 #[.pointer (some ⟨K,0,none⟩),.string s] w fun e w'=>e=.panicked [{ v:=.iface 36 (.int .i64 (E.pos en i)),recovered:=false }]/\af K w w' :=
 (CV E TX TB en S K tv sv fv w i h s ys hs hy).mono fun _ _ r=>⟨r.2.2 q,r.1⟩
theorem bG {E:ak}{TX:Nat->Value}{TB:Nat->List Nat}{en:Int}{S:List Sc}{K:Nat}{tv sv fv:Value}{w:World}{i:Nat}(h:Ps E TX TB en S K tv sv fv w i) (s:ByteArray) (ys:List Int) (hs:Lit s ys) (hy:ys≠[]) (q:E.txt i=ys):Calls Tryz.prog 16 #[.pointer (some ⟨K,0,none⟩),.string s] w fun e w'=>e=.returned (.bool true)/\af K w w'/\Ps E TX TB en S K tv sv fv w' (i+1) :=
 (sV E TX TB en S K tv sv fv w i h s ys hs hy).mono fun _ _ r=>⟨by rw[r.1,decide_eq_true q],r.2.1,r.2.2.1 q⟩
theorem bT {E:ak}{TX:Nat->Value}{TB:Nat->List Nat}{en:Int}{S:List Sc}{K:Nat}{tv sv fv:Value}{w:World}{i:Nat}(h:Ps E TX TB en S K tv sv fv w i) (s:ByteArray) (ys:List Int) (hs:Lit s ys) (hy:ys≠[]) (q:E.txt i≠ys):Calls Tryz.prog 16 #[.pointer (some ⟨K,0,none⟩),.string s] w fun e w'=>e=.returned (.bool false)/\af K w w'/\Ps E TX TB en S K tv sv fv w' i :=
 (sV E TX TB en S K tv sv fv w i h s ys hs hy).mono fun _ _ r=>⟨by rw[r.1,decide_eq_false q],r.2.1,r.2.2.2 q⟩
theorem zu {E:ak}{TX:Nat->Value}{TB:Nat->List Nat}{en:Int}{S:List Sc}{K:Nat}{tv sv fv:Value}{w:World}{i:Nat}(h:Ps E TX TB en S K tv sv fv w i) (F:E.Fit) {n:Int}{j:Nat}(q:kV E i=.ok (n,j)):Calls Tryz.prog 75 #[.pointer (some ⟨K,0,none⟩)] w fun e w'=>e=.returned (.int .i64 n)/\af K w w'/\Ps E TX TB en S K tv sv fv w' j :=
 (C9 E TX TB en S K tv sv fv w i h F).mono fun _ _ r=>by
  obtain⟨v,e1,p,e2⟩:=r.well n j q;exact⟨by rw[e1,e2],r.only,p⟩
theorem D5 {E:ak}{TX:Nat->Value}{TB:Nat->List Nat}{en:Int}{S:List Sc}{K:Nat}{tv sv fv:Value}{w:World}{i:Nat}(h:Ps E TX TB en S K tv sv fv w i) (F:E.Fit) {k:Nat}(q:kV E i=.error k):Calls Tryz.prog 75 #[.pointer (some ⟨K,0,none⟩)] w fun e w'=>e=.panicked [{ v:=.iface 36 (.int .i64 (E.pos en k)),recovered:=false }]/\af K w w' :=
 (C9 E TX TB en S K tv sv fv w i h F).mono fun _ _ r=>⟨r.bad k q,r.only⟩
def EG (t:Int × Int) (_:Nat) (v:Value) (_:World):Prop:=v=.agg #[.int .i64 t.1,.int .i64 t.2]
theorem EY {E:ak}{k:Int}{i:Nat}(q:E.txt i=[105,110,116]):wH E k i=.ok ((k,0),i+1):=by unfold wH;rw[if_pos q]
theorem zZ {E:ak}{k:Int}{i:Nat}(q:E.txt i=[102,108,111,97,116]):wH E k i=.ok ((k+1,0),i+1):=by unfold wH;rw[if_neg (by rw[q];decide),if_pos q]
theorem Cj {E:ak}{k:Int}{i:Nat}(q:E.txt i=[42]):wH E k i=PR.andThen (kV E (i+1)) fun n i=>.ok ((k+2,n),i):=by unfold wH aG;rw[if_neg (by rw[q];decide),if_neg (by rw[q];decide),if_pos q];rfl
theorem JH {E:ak}{k:Int}{i:Nat}(q1:E.txt i≠[105,110,116]) (q2:E.txt i≠[102,108,111,97,116]) (q3:E.txt i≠[42]):wH E k i=.error i:=by unfold wH aG;rw[if_neg q1,if_neg q2,if_neg q3];rfl
theorem RN {E:ak}{i:Nat}(q1:E.txt i=[91]) (q2:E.txt (i+1)=[93]):lJ E i=wH E 4 (i+2):=by unfold lJ aG;rw[if_pos q1];show PR.andThen (if E.txt (i+1)=[93] then _ else _) _=_;rw[if_pos q2];rfl
theorem OI {E:ak}{i:Nat}(q1:E.txt i≠[91]):lJ E i=.error i:=by unfold lJ aG;rw[if_neg q1];rfl
theorem OH {E:ak}{i:Nat}(q1:E.txt i=[91]) (q2:E.txt (i+1)≠[93]):lJ E i=.error (i+1):=by unfold lJ aG;rw[if_pos q1];show PR.andThen (if E.txt (i+1)=[93] then _ else _) _=_;rw[if_neg q2];rfl
theorem Ps.move {E:ak}{TX:Nat->Value}{TB:Nat->List Nat}{en:Int}{S:List Sc}{K:Nat}{tv sv fv:Value}{w w':World}{i j:Nat}(h:Ps E TX TB en S K tv sv fv w i) (o:af K w w') (hb:Bxx w' K [tv,.int .i64 (j:Int),.int .i64 en,sv,fv]) (hj:j<=E.l.length):Ps E TX TB en S K tv sv fv w' j :=
 ⟨hb,hj,fun w2 o2=>h.tks w2 (o.trans o2),fun w2 o2=>h.scs w2 (o.trans o2),h.ns⟩
theorem af.iG {K:Nat}{a w:World}(h:af K a w) {b:Nat}(hb:a.heap.size<=b) (o:Nat) (u:Value):af K a (w.setCell ⟨b,o,none⟩ u) :=
 ⟨h.os,h.tape,h.output,by simpa[World.setCell] using h.size,fun k hk hn=>(Below.heap_setCell _ _ _ _ (show k≠b by omega)).trans (h.block k hk hn)⟩
theorem JA {E:ak}{TX:Nat->Value}{TB:Nat->List Nat}{en:Int}{S:List Sc}{K:Nat}{tv sv fv:Value}{w w':World}{i j:Nat}(h:Ps E TX TB en S K tv sv fv w i) (o:af K w w') (p:Ps E TX TB en S K tv sv fv w' j) (a b:Value):af K w ((w'.setCell ⟨w.heap.size,0,none⟩ a).setCell ⟨w.heap.size,1,none⟩ b)/\Ps E TX TB en S K tv sv fv ((w'.setCell ⟨w.heap.size,0,none⟩ a).setCell ⟨w.heap.size,1,none⟩ b) j:=by
 have o2:=(o.iG (Nat.le_refl _) 0 a).iG (Nat.le_refl _) 1 b;have hK:K≠w.heap.size:=by have:=h.box.lt;omega
 exact⟨o2,h.move o2 ((p.box.other hK _).other hK _) p.le⟩
theorem Dc (E:ak) (TX:Nat->Value) (TB:Nat->List Nat) (en:Int) (S:List Sc) (K:Nat) (tv sv fv:Value) (w:World) (i:Nat) (h:Ps E TX TB en S K tv sv fv w i) (F:E.Fit):Calls Tryz.prog 74 #[.pointer (some ⟨K,0,none⟩)] w (PcP E TX TB en S K tv sv fv w (lJ E i) EG):=by
 have HNo:Hid (∀ k w',lJ E i=.error k->af K w w'->PcP E TX TB en S K tv sv fv w (lJ E i) EG (.panicked [{ v:=.iface 36 (.int .i64 (E.pos en k)),recovered:=false }]) w'):=fun k w' e o=>PcP.no e o;have HY:Hid (∀ t j w',lJ E i=.ok (t,j)->af K w w'->Ps E TX TB en S K tv sv fv w' j->PcP E TX TB en S K tv sv fv w (lJ E i) EG (.returned (.agg #[.int .i64 t.1,.int .i64 t.2])) ((w'.setCell ⟨w.heap.size,0,none⟩ (.int .i64 t.1)).setCell ⟨w.heap.size,1,none⟩ (.int .i64 t.2))):=fun t j w' e o p=>PcP.yes e (JA h o p _ _).1 (JA h o p _ _).2 rfl
 generalize PcP E TX TB en S K tv sv fv w (lJ E i) EG=Q at *
 have hK:w.heap.size≠K:=by have:=h.box.lt;omega
 obtain⟨wa,hwa⟩:=hidx (w.alloc (.cells #[.int .i64 0,.int .i64 0] 52));have la:Later w wa:=by rw[hwa.out];exact ae _ _
 have ha:=h.later la;have hbx:Bxx wa w.heap.size [.int .i64 0,.int .i64 0]:=by rw[hwa.out];exact Bxx.new _ _ _
 have oa:af K w wa:=af.of_later la;clear h;go_enter Tryz.func74,Tryz.ntmps74;go_wp2_with fail
 rw[<-hwa.out];by_cases q1:E.txt i=[91]
 ·refine (df ha _ _ Am (by decide) q1).mono ?_;rintro e w1 ⟨rfl,o1,h1⟩;go_wp2_with fail
  by_cases q2:E.txt (i+1)=[93]
  ·refine (df h1 _ _ Eb (by decide) q2).mono ?_;rintro e w2 ⟨rfl,o2,h2⟩;have hin:=RN q1 q2;go_wp2_with fail
   by_cases q3:E.txt (i+1+1)=[105,110,116]
   ·refine (bG h2 _ _ sO (by decide) q3).mono ?_;rintro e w3 ⟨rfl,o3,h3⟩;have HZ:=HY.out _ _ w3 (hin.trans (EY q3)) (((oa.trans o1).trans o2).trans o3) h3;have hb3:=((hbx.only o1 hK).only o2 hK).only o3 hK;have b0:=(hb3.cell 0 _ rfl).1;have b1:=(hb3.cell 1 _ rfl).1;have f0:=(hb3.cell 0 _ rfl).2;have f1:=(hb3.cell 1 _ rfl).2;have bl:=hb3.lt;go_wp2_with fail
    exact bodyPost_ret (v:=.agg #[.int .i64 4,.int .i64 0]) (by simp[results,Tryz.results74,go_sem,b0,b1]) rfl HZ
   ·refine (bT h2 _ _ sO (by decide) q3).mono ?_;rintro e w3 ⟨rfl,o3,h3⟩;go_wp2_with fail
    by_cases q4:E.txt (i+1+1)=[102,108,111,97,116]
    ·refine (bG h3 _ _ kL (by decide) q4).mono ?_;rintro e w4 ⟨rfl,o4,h4⟩;have HZ:=HY.out _ _ w4 (hin.trans (zZ q4)) ((((oa.trans o1).trans o2).trans o3).trans o4) h4;have hb3:=(((hbx.only o1 hK).only o2 hK).only o3 hK).only o4 hK;have b0:=(hb3.cell 0 _ rfl).1;have b1:=(hb3.cell 1 _ rfl).1;have f0:=(hb3.cell 0 _ rfl).2;have f1:=(hb3.cell 1 _ rfl).2;have bl:=hb3.lt;go_wp2_with fail
     exact bodyPost_ret (v:=.agg #[.int .i64 5,.int .i64 0]) (by simp[results,Tryz.results74,go_sem,b0,b1]) rfl HZ
    ·refine (bT h3 _ _ kL (by decide) q4).mono ?_;rintro e w4 ⟨rfl,o4,h4⟩;go_wp2_with fail
     by_cases q5:E.txt (i+1+1)=[42]
     ·refine (df h4 _ _ wR (by decide) q5).mono ?_;rintro e w5 ⟨rfl,o5,h5⟩;have hst:=hin.trans (Cj q5)
      have oo:=(((((oa.trans o1).trans o2).trans o3).trans o4).trans o5)
      have hb5:=((((hbx.only o1 hK).only o2 hK).only o3 hK).only o4 hK).only o5 hK;go_wp2_with fail
      cases q6:kV E (i+1+1+1) with
      | error k =>
       refine (D5 h5 F q6).mono ?_;rintro e w6 ⟨rfl,o6⟩;have HZ:=HNo.out _ w6 (by rw[hst,q6];rfl) (oo.trans o6);go_wp2_with fail
       exact⟨rfl,HZ⟩
      | ok y =>
       obtain⟨n,j⟩:=y;refine (zu h5 F q6).mono ?_;rintro e w6 ⟨rfl,o6,h6⟩;have HZ:=HY.out (6,n) j w6 (by rw[hst,q6];rfl) (oo.trans o6) h6;have hb3:=hb5.only o6 hK;have b0:=(hb3.cell 0 _ rfl).1;have b1:=(hb3.cell 1 _ rfl).1;have f0:=(hb3.cell 0 _ rfl).2;have f1:=(hb3.cell 1 _ rfl).2;have bl:=hb3.lt;go_wp2_with fail
       exact bodyPost_ret (v:=.agg #[.int .i64 6,.int .i64 n]) (by simp[results,Tryz.results74,go_sem,b0,b1]) rfl HZ
     ·refine (dN h4 _ _ wR (by decide) q5).mono ?_;rintro e w5 ⟨rfl,o5⟩;have HZ:=HNo.out _ w5 (hin.trans (JH q3 q4 q5)) (((((oa.trans o1).trans o2).trans o3).trans o4).trans o5);go_wp2_with fail
      exact⟨rfl,HZ⟩
  ·refine (dN h1 _ _ Eb (by decide) q2).mono ?_;rintro e w2 ⟨rfl,o2⟩;have HZ:=HNo.out _ w2 (OH q1 q2) ((oa.trans o1).trans o2);go_wp2_with fail
   exact⟨rfl,HZ⟩
 ·refine (dN ha _ _ Am (by decide) q1).mono ?_;rintro e w1 ⟨rfl,o1⟩;have HZ:=HNo.out _ w1 (OI q1) (oa.trans o1);go_wp2_with fail
  exact⟨rfl,HZ⟩
end Go.Proofs.YtgaddpkkjebekaaGreatDoor
