import Derived.Test.YtgaddpkkjebekaaGreatDoorZ04
import Derived.Test.YtgaddpkkjebekaaGreatDoorZ02
import Derived.Maps.OwnSet
import Derived.WalkSpells
import Derived.Laws.OwnMore
import Derived.OwnWalk
set_option maxHeartbeats 100000000
set_option maxRecDepth 100000
namespace Go.Proofs.YtgaddpkkjebekaaGreatDoor
open Go.RowKit Go.Maps Go.WideMaps Go.ChangeMaps
theorem UZ:Keyed Tryz.prog 9:=string_keyed Tryz.underlying9
theorem QH (w:World):(zeroValue 3).run Tryz.prog w=.ok (.int .i64 0) w:=by kernel_rfl
def ve (zs:List Int):Lit:=.string (strOfNums zs).data.toList
theorem Ed {zs:List Int}(h:zs.length<=1048576):keyOf Tryz.prog 9 (.string (strOfNums zs))=some (ve zs):=by
 refine keyOf_string_mk Tryz.underlying9 ?_
 have:(strOfNums zs).size=zs.length:=by
  have:=congrArg List.length (strOfNums_data zs);simpa using this
 rw[this];unfold maxLen;omega
theorem Aq (zs:List Int):WideAt.IsKeyLit (ve zs):=trivial
theorem FQ {xs ys:List Int}(hx:∀ j,isB (xs.getD j 0)) (hy:∀ j,isB (ys.getD j 0)) (h:ve xs=ve ys):xs=ys:=by
 have h1:=lQ hx hy;unfold ve at h;have h2:(strOfNums xs).data.toList=(strOfNums ys).data.toList:=by simpa using h
 have h3:((strOfNums xs).toList==(strOfNums ys).toList)=true:=by rw[ByteArray.toList_eq,ByteArray.toList_eq,h2];simp
 rw[h3]at h1;exact of_decide_eq_true h1.symm
def Nm (zs:List Int):Prop:=(∀ j,isB (zs.getD j 0))/\zs.length<=1048576
def Mp (w:World) (b n:Nat) (f:List Int->Option Int):Prop :=
 ∃ D:DataW Unit,w.ownsMap Tryz.prog 9 (plainElem Tryz.prog 3) b n D/\Maps.size D=n/\Tidy D /\
  ∀ zs,Nm zs->Maps.has D (ve zs)=(f zs).isSome/\∀ v,f zs=some v->D.atKey (ve zs) (.lit (.int .i64 0))=.lit (.int .i64 v)
theorem Mp.lt {w:World}{b n:Nat}{f:List Int->Option Int}(h:Mp w b n f):b<w.heap.size:=by obtain⟨D,h,_⟩:=h;exact h.lt
theorem Mp.kept {w w':World}{b n:Nat}{f:List Int->Option Int}(h:Mp w b n f) (hb:w'.heap[b]?=w.heap[b]?):Mp w' b n f:=by
 obtain⟨D,⟨es,clock,h1,h2⟩,h3⟩:=h;exact⟨D,⟨es,clock,hb.trans h1,h2⟩,h3⟩
theorem Mp.later {w w':World}{b n:Nat}{f:List Int->Option Int}(h:Mp w b n f) (hl:Later w w'):Mp w' b n f:=h.kept (hl.block b h.lt)
theorem Mp.congr {w:World}{b n:Nat}{f g:List Int->Option Int}(h:Mp w b n f) (hf:∀ zs,Nm zs->f zs=g zs):Mp w b n g:=by
 obtain⟨D,h1,h2,h3,h4⟩:=h;exact⟨D,h1,h2,h3,fun zs hz=>by rw[<-hf zs hz];exact h4 zs hz⟩
theorem Mp.made (w:World):Mp (w.alloc (.map #[] 0)) w.heap.size 0 (fun _=>none) :=
 ⟨.map [],World.ownsMap_made w _ _ _,rfl,tidy_empty,fun zs _=>⟨rfl,fun v h=>by cases h⟩⟩
theorem CB {w:World}{P:Program}{k:TypeId}{R:Value->Option (DataW Unit × List MemPlace)}{b n:Nat}{D:DataW Unit}(h:w.ownsMap P k R b n D):w.ownsMap P k R b (Maps.size D) D:=by
 obtain⟨es,clock,hb,F,hs,rfl⟩:=h;exact⟨es,clock,hb,F,by rw[Maps.size_eq,length_read];exact Nat.le_refl _,rfl⟩
theorem Mp.look {w:World}{b n:Nat}{f:List Int->Option Int}(h:Mp w b n f) {zs:List Int}(hz:Nm zs) :
  (Instr.lookup 60 (.map (some b)) (.string (strOfNums zs)) true).run Tryz.prog w=.ok (.tuple #[.int .i64 ((f zs).getD 0),.bool (f zs).isSome]) w:=by
 obtain⟨D,ho,_,ht,hf⟩:=h;obtain⟨h1,h2⟩:=hf zs hz;obtain⟨v,ps,hr,hv⟩:=ho.look_ok UZ Tryz.underlying60 (QH w) (plainElem_int (H:=Unit) Tryz.underlying3 (q:=.i64) (a:=0) (by decide)) (Ed hz.2);obtain⟨c,rfl,hc,_⟩:=plainElem_int_inv Tryz.underlying3 hv;have hc1:=congrArg Prod.fst hc;simp only at hc1;rw[hr,h1]
 cases hfz:f zs with
 | none =>
  rw[hfz]at h1;rw[atKey_of_not_has h1]at hc1
  cases hc1
  rfl
 | some u =>
  rw[h2 u hfz]at hc1
  cases hc1
  rfl
theorem iP {w w':World}{b:Nat}(h:w.mapTurned w' b):(∀ k,k≠b->w'.heap[k]?=w.heap[k]?)/\w'.heap.size=w.heap.size/\w'.os=w.os/\w'.tape=w.tape/\w'.output=w.output:=by
 have hg:=h.grown;obtain⟨es,clock,es',clock',hb,rfl⟩:=h;refine⟨fun k hk=>?_,by simp[setBlock],hg.os,hg.tape,hg.output⟩;rcases Nat.lt_or_ge k w.heap.size with hl|hl
 ·exact hg.block k hl (by simp;exact hk)
 ·rw[Array.getElem?_eq_none (by simpa[setBlock] using hl),Array.getElem?_eq_none hl]
def upd (f:List Int->Option Int) (k:List Int) (v:Int):List Int->Option Int:=fun z=>if z=k then some v else f z
def cut (f:List Int->Option Int) (k:List Int):List Int->Option Int:=fun z=>if z=k then none else f z
theorem Mp.put {w:World}{b n:Nat}{f:List Int->Option Int}(h:Mp w b n f) (hn:n<=1000000) {zs:List Int}(hz:Nm zs) {v:Int}(hv:(Lit.int .i64 v).wf=true) :
  ∃ w',(Instr.mapUpdate 60 (.map (some b)) (.string (strOfNums zs)) (.int .i64 v)).run Tryz.prog w=.ok () w'/\Mp w' b (if (f zs).isSome then n else n+1) (upd f zs v)/\w.mapTurned w' b:=by
 obtain⟨D,ho,hs,ht,hf⟩:=h;obtain⟨w',hr,ho',htn⟩:=ho.store UZ Tryz.underlying60 (by unfold maxLen;omega) (Ed hz.2) (plainElem_int (H:=Unit) Tryz.underlying3 hv);refine⟨w',hr,⟨D.put (ve zs) (.lit (.int .i64 v)),?_,?_,ht.put (Aq _) _,fun ys hy=>?_⟩,htn⟩
 ·have:=CB ho';rw[size_put ht,hs,(hf zs hz).1]at this;exact this
 ·rw[size_put ht,hs,(hf zs hz).1]
 ·unfold upd;by_cases e:ys=zs
  ·subst e;rw[if_pos rfl,has_put_same ht.isMap (Aq _)];exact⟨rfl,fun u hu=>by cases hu;exact atKey_put_same ht.isMap (Aq _) _ _⟩
  ·have hne:ve ys≠ve zs:=fun q=>e (FQ hy.1 hz.1 q);rw[if_neg e,has_put_other hne];exact⟨(hf ys hy).1,fun u hu=>by rw[atKey_put_other hne];exact (hf ys hy).2 u hu⟩
theorem Mp.del {w:World}{b n:Nat}{f:List Int->Option Int}(h:Mp w b n f) {zs:List Int}(hz:Nm zs) (ty:TypeId) :
  ∃ w' n',(Builtin.delete_ #[60,9] ty #[.map (some b),.string (strOfNums zs)]).run Tryz.prog w=.ok (.tuple #[]) w'/\Mp w' b n' (cut f zs)/\n'<=n/\w.mapTurned w' b:=by
 obtain⟨D,ho,hs,ht,hf⟩:=h;obtain⟨w',hr,ho',htn⟩:=ho.drop UZ Tryz.underlying60 (Ed hz.2) ty;refine⟨w',Maps.size (D.del (ve zs)),hr,⟨D.del (ve zs),CB ho',rfl,ht.del _,fun ys hy=>?_⟩,?_,htn⟩
 ·unfold cut;by_cases e:ys=zs
  ·subst e;rw[if_pos rfl,has_del_same];exact⟨rfl,fun u hu=>by cases hu⟩
  ·have hne:ve ys≠ve zs:=fun q=>e (FQ hy.1 hz.1 q);rw[if_neg e,has_del_other hne];exact⟨(hf ys hy).1,fun u hu=>by rw[atKey_del_other hne];exact (hf ys hy).2 u hu⟩
 ·have:=size_del (k:=ve zs) ht;omega
theorem Mp.len {w:World}{b n:Nat}{f:List Int->Option Int}(h:Mp w b n f) (ty:TypeId):(Builtin.len_ #[60] ty #[.map (some b)]).run Tryz.prog w=.ok (.int .i64 n) w:=by
 obtain⟨D,ho,hs,_⟩:=h;rw[ho.len Tryz.underlying60 ty,hs]
def nmD (l:List (List Int)):List Dat:=l.map Dat.bytes
theorem lV (l:List (List Int)):(nmD l).length=l.length:=by unfold nmD;rw[List.length_map]
theorem Af {w:World}{v:Value}{l:List (List Int)}(h:RdL w 1 v (nmD l)):∃ a cap,v=.slice a l.length cap/\(l.length:Int)<=9223372036854775807:=by
 obtain⟨a,cap,e,hl⟩:=h.slice;rw[lV]at e hl;exact⟨a,cap,e,hl⟩
theorem Sj {w:World}{a:Option Addr}{n cap:Nat}{l:List (List Int)}(h:RdL w 1 (.slice a n cap) (nmD l)) (j:Nat) (hj:j<l.length):∃ g off v0,a=some ⟨g,off,none⟩/\g<w.heap.size/\w.cell? ⟨g,off+j,none⟩=some v0/\RdN w v0 l[j]:=by
 obtain⟨_,_,e,_,h⟩:=h
 cases e
 obtain⟨g,off,cs,rfl,hg,hk,hc,hd⟩:=h j (by rw[lV];exact hj);unfold nmD at hd;rw[List.getElem_map]at hd;obtain⟨v0,rfl,r0⟩:=RdN.iff.1 hd;have:=hc 0 _ rfl;rw[Nat.mul_one]at this;exact⟨g,off,v0,rfl,hg,this,r0⟩
def rf (l:List (List Int)):Nat->List Int->Option Int
 | 0=>fun _=>none
 | j+1=>upd (rf l j) (l.getD j []) j
def cnt (l:List (List Int)):Nat->Nat
 | 0=>0
 | j+1=>if (rf l j (l.getD j [])).isSome then cnt l j else cnt l j+1
theorem cnt_le (l:List (List Int)):∀ j,cnt l j<=j
 | 0=>Nat.le_refl _
 | j+1=>by
  rw[cnt];have:=cnt_le l j;split <;> omega
theorem kH (l:List (List Int)):∀ j z,j<=l.length->((rf l j z).isSome=true↔z∈l.take j)
 | 0,z,_=>by simp[rf]
 | j+1,z,h=>by
  have e:l.getD j []=l[j]:=by rw[List.getD_eq_getElem?_getD,List.getElem?_eq_getElem (by omega)];rfl
  rw[rf,upd,List.take_succ_eq_append_getElem (by omega),List.mem_append,List.mem_singleton,e];by_cases hz:z=l[j]
  ·rw[if_pos hz];simp[hz]
  ·rw[if_neg hz,kH l j z (by omega)];simp[hz]
theorem Kz (l:List (List Int)):∀ j,j<=l.length->(cnt l j=j↔(l.take j).Nodup)
 | 0,_=>by simp[cnt]
 | j+1,h=>by
  have e:l.getD j []=l[j]:=by rw[List.getD_eq_getElem?_getD,List.getElem?_eq_getElem (by omega)];rfl
  have ih:=Kz l j (by omega);have hle:=cnt_le l j;have hs:=kH l j l[j] (by omega);rw[cnt,e,List.take_succ_eq_append_getElem (by omega),List.nodup_append];by_cases hm:(rf l j l[j]).isSome=true
  ·rw[if_pos hm];constructor
   ·intro q;omega
   ·rintro ⟨_,_,q⟩;exact absurd rfl (q _ (hs.1 hm) _ (List.mem_singleton.2 rfl))
  ·rw[if_neg hm];constructor
   ·intro q;refine⟨ih.1 (by omega),by simp,fun a ha b hb=>?_⟩;rw[List.mem_singleton.1 hb];intro e';subst e';exact hm (hs.2 ha)
   ·rintro ⟨q,_⟩;rw[ih.2 q]
def uniq (l:List (List Int)):Bool:=decide (cnt l l.length=l.length)
theorem NG (l:List (List Int)):uniq l=true↔l.Nodup:=by
 unfold uniq;rw[decide_eq_true_eq,Kz l _ (Nat.le_refl _),List.take_length]
def plc (l:List (List Int)):List Int->Option Int:=rf l l.length
theorem zX {l:List (List Int)}{z:List Int}(h:z∉l):plc l z=none:=by
 have:=kH l l.length z (Nat.le_refl _);rw[List.take_length]at this
 cases e:plc l z with
 | none=>rfl
 | some v=>exact absurd (this.1 (by unfold plc at e;rw[e];rfl)) h
theorem Hg {j:Nat}(h:j<=1000000):(Lit.int .i64 (j:Int)).wf=true:=WalkArith.wf_i64 (by omega)
theorem places_any (v:Value) (l:List (List Int)) (w:World) (h:RdL w 1 v (nmD l)) (hN:∀ z∈l,Nm z) (hlen:l.length<=1000000) :
  Calls Tryz.prog 24 #[v] w fun e w'=>e=.returned (.tuple #[.map (some w.heap.size),.bool (uniq l)])/\Mp w' w.heap.size (cnt l l.length) (plc l)/\Later w w':=by
 obtain⟨a,cap,rfl,hl⟩:=Af h;have hmm:=@run_makeMap Tryz.prog;have hM0:=Mp.made w;have hL0:Later w (w.alloc (.map #[] 0)):=ae _ _;go_enter Tryz.func24,Tryz.ntmps24;go_wp2_with fail
 generalize w.alloc (.map #[] 0)=w1 at *
 go_loopw [10] (fun i wr=>∃ (j:Nat),i=.int .i64 (j:Int)/\j<=l.length/\Later w wr/\Mp wr w.heap.size (cnt l j) (rf l j)) (fun i _=>l.length - (intOf i).toNat)
 case atStart=>exact⟨0,rfl,Nat.zero_le _,hL0,hM0⟩
 case round =>
  obtain⟨j,rfl,hj,lr,hM⟩:=hrel;by_cases hlt:j<l.length
  ·obtain⟨g,off,v0,rfl,hgs,c0,r0⟩:=Sj (RdL.later lr h) j hlt;have i1:(j:Int)<(l.length:Int):=by omega
   have hcv:=eH r0.rd;have hcl:=cnt_le l j;have e:l.getD j []=l[j]:=by rw[List.getD_eq_getElem?_getD,List.getElem?_eq_getElem (by omega)];rfl
   obtain⟨w2,hup,hM2,htn⟩:=hM.put (by omega) (hN l[j] (List.getElem_mem hlt)) (Hg (j:=j) (by omega));obtain⟨hb1,hb2,hb3,hb4,hb5⟩:=iP htn;have HM:Hid (Mp w2 w.heap.size (cnt l (j+1)) (rf l (j+1))):=by rw[cnt,rf,e];exact hM2
   have L2:Later w w2:=⟨hb3.trans lr.os,hb4.trans lr.tape,hb5.trans lr.output,by rw[hb2];exact lr.size,fun k hk=>by rw[hb1 k (by omega)];exact lr.block k hk⟩
   obtain⟨y0,q0,rfl,_⟩:=r0.slice;clear h hM hM2 htn hb1 hb2 hb3 hb4 hb5 e;go_wp2_with fail
   go_roundw
   case rel=>exact⟨j+1,by go_num,by omega,L2,HM.out⟩
   case measure=>simp[intOf];omega
  ·have i1:¬ (j:Int)<(l.length:Int):=by omega
   have i2:decide ((j:Int)<(l.length:Int))=false:=decide_eq_false i1;have hjj:j=l.length:=by omega
   have HM:Hid (Mp wr w.heap.size (cnt l l.length) (plc l)):=by rw[hjj]at hM;exact hM
   have hln:=fun ty=>HM.out.len ty;have HU:Hid (((cnt l l.length:Int)==(l.length:Int))=uniq l):=by unfold Hid uniq;rw[Bool.eq_iff_iff,beq_iff_eq,decide_eq_true_eq];omega
   clear h hM
   obtain⟨C,hC⟩:∃ C,Hid (C=cnt l l.length):=⟨_,rfl⟩
   rw[<-hC.out]at HU hln;go_wp2_with fail
   go_ret2;exact⟨by rw[<-HU.out];rfl,HM.out,lr⟩
def kE:Nat->Nat->List Int
 | 0,_=>[]
 | f+1,u=>if u<10 then [48+(u:Int)] else kE f (u / 10)++[48+((u % 10:Nat):Int)]
theorem Iu {w w':World}{b:Nat}{v:Value}{n:Nat}{xs:List Value}(h:w.ownsRow b 5 1 v n xs) (hb:Later w w'):w'.ownsRow b 5 1 v n xs :=
 h.kept (row:=none) ⟨hb.os,hb.tape,hb.output,hb.size,fun k hk _=>hb.block k hk⟩ (by cases h:v.ownBlock <;> simp)
theorem OJ {w:World}{base n:Nat}{v:Value}{xs:List Value}(h:w.ownsRow base 5 1 v n xs):∀ g,v.ownBlock=some g->base<=g:=fun g hg=>(h.lt g hg).1
theorem Later.trans' {w w1 w2:World}{v:Value}(h:Later w w1) (g:w1.grownBy w2 v.ownBlock) (hb:∀ g,v.ownBlock=some g->w.heap.size<=g):Later w w2 :=
 Below.grown h g h.size hb
theorem Fg (w:World) (z:Int):∀ j u,[Value.int .u8 z][j]?=some u->(w.alloc (.cells #[.int .u8 z] 5)).cell? ((⟨w.heap.size,0,none⟩:Addr).add j)=some u:=by
 intro j u h
 match j with
 | 0 =>
  have:Value.int .u8 z=u:=by simpa using h
  rw[<-this,Addr.add_zero'];simp
 | j+1=>simp at h
theorem Gy (k u:Nat):(kE k u).length<=k:=by
 induction k generalizing u with
 | zero=>simp[kE]
 | succ k ih =>
  unfold kE;split
  ·simp
  ·have:=ih (u / 10);simp;omega
def iI (n:Int):List Int:=if n<0 then 45::kE 20 (-n).toNat else kE 20 n.toNat
theorem Bq (k u:Nat):0<(kE (k+1) u).length:=by
 unfold kE;split <;> simp
theorem Vz {α:Type}{l:List α}{f:α->Bool}{j:Nat}(h:j<l.length) (hf:f l[j]=false):l.all f=false:=by
 rw[<-Bool.not_eq_true,List.all_eq_true];intro ha;rw[ha _ (List.getElem_mem h)]at hf
 cases hf
theorem Vy {α:Type}{l:List α}{f:α->Bool}(h:∀ j (hj:j<l.length),f l[j]=true):l.all f=true:=by
 rw[List.all_eq_true];intro x hx;obtain⟨j,hj,rfl⟩:=List.mem_iff_getElem.1 hx;exact h j hj
theorem aP {w:World}{base k n:Nat}{t:TypeId}{v:Value}{xs:List Value}(h:w.ownsRow base t k v n xs):∃ a cap,v=.slice a n cap:=by
 rcases h.2 with ⟨rfl,rfl⟩|⟨g,cap,cur,rfl,_⟩
 ·exact⟨_,_,rfl⟩
 ·exact⟨_,_,rfl⟩
theorem fA (w:World) (cs:Array Value) (t:TypeId) {g:Nat}(hg:g=w.heap.size):∀ j x,cs.toList[j]?=some x->(w.alloc (.cells cs t)).cell? ((⟨g,0,none⟩:Addr).add j)=some x:=by
 intro j x h;subst hg;have h':cs[j]?=some x:=by simpa using h
 rw[Addr.add_lit,Nat.zero_add];have e:(w.alloc (.cells cs t)).heap[w.heap.size]?=some (.cells cs t):=(MapKept.heap_alloc w _).1;unfold World.cell?;simp only[e];exact h'
theorem Tryz.info22:(Tryz.prog.info? 22).map (fun i=>(i.zero,i.size,i.bytes))=some (some (.slice none 0 0),1,24):=by kernel_rfl
structure NmB (w0 w:World) (v:Value) (l:List (List Int)) (xs:List Value):Prop where
 lat:Later w0 w
 row:w.ownsRow w0.heap.size 22 1 v l.length xs
 txt:∀ j (hj:j<l.length),∃ u,xs[j]?=some u/\RdN w0 u l[j]
theorem NmB.nil (w:World):NmB w w (.slice none 0 0) [] []:=⟨Later.refl _,World.ownsRow_nil _ _ _ _,fun _ hj=>absurd hj (Nat.not_lt_zero _)⟩
theorem NmB.push {w0 w w1 w':World}{v v':Value}{l:List (List Int)}{xs:List Value}(h:NmB w0 w v l xs) {u:Value}{z:List Int}(hu:RdN w0 u z) (h1:Later w w1) (ho:w'.ownsRow w0.heap.size 22 1 v' (l.length+1) (xs++[u])) (hg:w1.grownBy w' v.ownBlock):NmB w0 w' v' (l++[z]) (xs++[u]):=by
 have hx:xs.length=l.length:=by rw[h.row.1,Nat.mul_one]
 refine⟨(h.lat.trans h1).grown hg (h.lat.trans h1).size (fun k hk=>(h.row.lt k hk).1),by rw[List.length_append];exact ho,fun j hj=>?_⟩;rw[List.length_append,List.length_singleton]at hj;rcases Nat.lt_or_ge j l.length with a|a
 ·obtain⟨u',e1,e2⟩:=h.txt j a;exact⟨u',by rw[List.getElem?_append_left (by omega)];exact e1,by rw[List.getElem_append_left a];exact e2⟩
 ·have:j=l.length:=by omega
  subst this;exact⟨u,by rw[List.getElem?_append_right (by omega),hx,Nat.sub_self];rfl,by rw[List.getElem_append_right (Nat.le_refl _)];simpa using hu⟩
theorem NmB.done {w0 w:World}{v:Value}{l:List (List Int)}{xs:List Value}(h:NmB w0 w v l xs):RdL w 1 v (nmD l):=by
 have hx:xs.length=l.length:=by rw[h.row.1,Nat.mul_one]
 rcases h.row.2 with ⟨rfl,e⟩|⟨g,cap,cur,rfl,h1,h2,h3,h4,h5,h6⟩
 ·refine⟨none,0,by rw[lV,e],⟨by rw[lV,e];exact Nat.le_refl _,by unfold maxLen;omega⟩,fun j hj=>?_⟩;rw[lV,e]at hj;exact absurd hj (Nat.not_lt_zero _)
 ·refine⟨_,cap,by rw[lV],⟨by rw[lV];exact h3,h4⟩,fun j hj=>?_⟩;have hj':j<l.length:=by rw[lV]at hj;exact hj
  obtain⟨u,e1,e2⟩:=h.txt j hj';refine⟨g,0,[u],rfl,(h.row.lt g rfl).2,rfl,fun m x hm=>?_,?_⟩
  ·match m with
   | 0 =>
    have:u=x:=by simpa using hm
    rw[Nat.mul_one,Nat.zero_add,Nat.add_zero,h.row.cellAt j (by omega),e1,this]
   | m+1=>simp at hm
  ·have e:(nmD l)[j]=.bytes l[j]:=by simp[nmD]
   rw[e];exact RdN.iff.2 ⟨u,rfl,e2.later h.lat⟩
def aO (l:List Pa):List (List Int):=l.map Pa.name
theorem zW (v:Value) (l:List Pa) (w:World) (h:RdL w 3 v (Pa.ah l)) (hlen:l.length<=1000000) :
  Calls Tryz.prog 25 #[v] w fun e w'=>∃ u,e=.returned u/\RdL w' 1 u (nmD (aO l))/\Later w w':=by
 obtain⟨a,cap,rfl,hl⟩:=Pa.slice h;obtain⟨i0,hi,hz0,hz1,hz2⟩:=info_parts Tryz.info22;go_enter Tryz.func25,Tryz.ntmps25;go_wp2_with fail
 go_loopw [3,8] (fun r i wr=>∃ (j:Nat) (xs:List Value) (rv:Value),rv=r/\i=.int .i64 (j:Int)/\j<=l.length/\NmB w wr rv (aO (l.take j)) xs) (fun _ i _=>l.length - (intOf i).toNat)
 case atStart=>exact⟨0,[],_,rfl,rfl,Nat.zero_le _,NmB.nil w⟩
 case round =>
  obtain⟨j,xs,rv,rfl,rfl,hj,hB⟩:=hrel;by_cases hlt:j<l.length
  ·obtain⟨g,off,v0,rfl,hgs,c0,c1,c2,r0⟩:=Pa.elem h j hlt;have i1:(j:Int)<(l.length:Int):=by omega
   have c0:wr.cell? ⟨g,off+j*3,none⟩=some v0:=by rw[Below.cell hB.lat (p:=⟨g,off+j*3,none⟩) hgs];exact c0
   have c1:wr.cell? ⟨g,off+j*3+1,none⟩=some (.int .i64 l[j].tk):=by rw[Below.cell hB.lat (p:=⟨g,off+j*3+1,none⟩) hgs];exact c1
   have c2:wr.cell? ⟨g,off+j*3+2,none⟩=some (.int .i64 l[j].tn):=by rw[Below.cell hB.lat (p:=⟨g,off+j*3+2,none⟩) hgs];exact c2
   have hlx:(aO (l.take j)).length=j:=by unfold aO;rw[List.length_map,List.length_take];omega
   have hrow:=hB.row;rw[hlx]at hrow;obtain⟨ra,rc,hra⟩:=aP hrow
   have HP:Hid (∀ w1 w' v',Later wr w1->w'.ownsRow w.heap.size 22 1 v' (j+1) (xs++[v0])->w1.grownBy w' rv.ownBlock->NmB w w' v' (aO (l.take (j+1))) (xs++[v0])):=fun w1 w' v' h1 ho hg=>by
    have:=hB.push r0 h1 (v':=v') (by rw[hlx];exact ho) hg;have e:aO (l.take (j+1))=aO (l.take j)++[l[j].name]:=by unfold aO;rw[List.take_succ_eq_append_getElem hlt,List.map_append];rfl
    rw[e];exact this
   have hsz:=hB.lat.size;obtain⟨y0,q0,rfl,_⟩:=r0.slice
   generalize l[j].tk=z_tk at *
   generalize l[j].tn=z_tn at *
   generalize l[j].name.length=z_len at *
   clear h hB r0 hlx;subst hra;go_wp2_with (at_builtin;refine wpList_append_own _ rfl _ _ 65 rfl w.heap.size 22 i0 (.slice none 0 0) 1 24 Tryz.underlying65 hi hz0 hz1 hz2 rfl (by decide) _ _ _ rfl ((hrow.alloc _).alloc _) _ 1 1 [.slice y0 z_len q0] rfl rfl (fA _ _ _ (by simp)) (by simp[Value.oneCell']) (by unfold maxLen;omega) (by omega) (by simp;omega) ?_;intro v3 w3 o3 g3 _;have HQ:=HP.out _ _ _ (bF _ _ _) o3 g3;obtain⟨a3,p3,hv3⟩:=aP o3;rw[hv3]at HQ ⊢)
   go_roundw
   case rel=>exact⟨j+1,_,_,rfl,by go_num,by omega,HQ⟩
   case measure=>simp[intOf];omega
  ·have i1:¬ (j:Int)<(l.length:Int):=by omega
   have i2:decide ((j:Int)<(l.length:Int))=false:=decide_eq_false i1;have hjj:j=l.length:=by omega
   have HR:Hid (RdL wr 1 rv (nmD (aO l))):=by have:=hB.done;rw[hjj,List.take_length]at this;exact this
   have lr:=hB.lat;clear h hB;go_wp2_with fail
   go_ret;exact⟨_,rfl,HR.out,lr⟩
theorem Hl (v:Value) (l:List Sc) (w:World) (h:RdL w 2 v (Sc.ah l)) (hlen:∀ s∈l,s.fields.length<=1000000) (hN:∀ s∈l,∀ p∈s.fields,Nm p.name) :
  Calls Tryz.prog 22 #[v] w fun e w'=>e=.returned (.bool (l.all fun s=>uniq (aO s.fields)))/\Later w w':=by
 obtain⟨a,cap,rfl,hl⟩:=Sc.slice h;go_enter Tryz.func22,Tryz.ntmps22;go_wp2_with fail
 go_loopw [9] (fun i wr=>∃ (j:Nat),i=.int .i64 (j:Int)/\j<=l.length/\Later w wr/\Hid (∀ i (hi:i<l.length),i<j->uniq (aO l[i].fields)=true)) (fun i _=>l.length - (intOf i).toNat)
 case atStart=>exact⟨0,rfl,Nat.zero_le _,Later.refl _,fun i _ hj=>absurd hj (Nat.not_lt_zero _)⟩
 case round =>
  obtain⟨j,rfl,hj,lr,HA⟩:=hrel;by_cases hlt:j<l.length
  ·obtain⟨g,off,v0,v1,rfl,hgs,c0,c1,r0,r1⟩:=Sc.elem (RdL.later lr h) j hlt;have i1:(j:Int)<(l.length:Int):=by omega
   have hmem:=List.getElem_mem hlt;have hP:=fun w' (ll:Later wr w')=>zW v1 l[j].fields w' (RdL.later ll r1) (hlen _ hmem);have hQ:=fun w' u (hu:RdL w' 1 u (nmD (aO l[j].fields)))=>places_any u (aO l[j].fields) w' hu (fun z hz=>by obtain⟨p,hp,rfl⟩:=List.mem_map.1 hz;exact hN _ hmem p hp) (by unfold aO;rw[List.length_map];exact hlen _ hmem);have HB:Hid (uniq (aO l[j].fields)=false->l.all (fun s=>uniq (aO s.fields))=false):=fun hf=>Vz hlt hf
   have HG:Hid (uniq (aO l[j].fields)=true->∀ i (hi:i<l.length),i<j+1->uniq (aO l[i].fields)=true):=fun hf i hi hij=>by
    rcases Nat.lt_or_ge i j with a|a
    ·exact HA.out i hi a
    ·have:i=j:=by omega
     subst this;exact hf
   obtain⟨y0,q0,rfl,_⟩:=r0.slice;obtain⟨y1,q1,rfl,_⟩:=Pa.slice r1;clear r0 r1 HA h hmem;go_wp2_with fail
   refine (hP _ (ae _ _)).mono ?_;rintro e w1 ⟨u,rfl,hu,l1⟩;have hQ1:=hQ w1 u hu;obtain⟨ua,uc,rfl,_⟩:=Af hu;clear hP hQ hu
   generalize uniq (aO l[j].fields)=ub at *
   go_wp2_with fail
   refine hQ1.mono ?_;rintro e w2 ⟨rfl,_,l2⟩;have L2:Later w w2:=lr.trans (((ae _ _).trans l1).trans l2)
   cases ub with
   | false =>
    have hb:=HB.out rfl;clear HB HG hQ1;go_wp2_with fail
    go_ret;exact⟨dh hb.symm,L2⟩
   | true =>
    have hg:Hid _:=HG.out rfl;clear HB HG hQ1;go_wp2_with fail
    go_roundw
    case rel=>exact⟨j+1,by go_num,by omega,L2,hg⟩
    case measure=>simp[intOf];omega
  ·have i1:¬ (j:Int)<(l.length:Int):=by omega
   have i2:decide ((j:Int)<(l.length:Int))=false:=decide_eq_false i1;have hjj:j=l.length:=by omega
   have HD:Hid (l.all (fun s=>uniq (aO s.fields))=true):=Vy fun i hi=>HA.out i hi (by omega);clear h HA;go_wp2_with fail
   go_ret;exact⟨dh HD.out.symm,lr⟩
structure ay (F:List Nat) (w w':World):Prop where
 os:w'.os=w.os
 tape:w'.tape=w.tape
 output:w'.output=w.output
 size:w.heap.size<=w'.heap.size
 block:∀ b,b<w.heap.size->b∉F->w'.heap[b]?=w.heap[b]?
theorem ay.refl (F:List Nat) (w:World):ay F w w:=⟨rfl,rfl,rfl,Nat.le_refl _,fun _ _ _=>rfl⟩
theorem ay.trans {F:List Nat}{a b c:World}(h:ay F a b) (k:ay F b c):ay F a c:=⟨k.os.trans h.os,k.tape.trans h.tape,k.output.trans h.output,Nat.le_trans h.size k.size,fun x hx hn=>by rw[k.block x (Nat.lt_of_lt_of_le hx h.size) hn,h.block x hx hn]⟩
theorem ay.mono {F G:List Nat}{a b:World}(h:ay F a b) (hs:∀ x∈F,x∈G):ay G a b:=⟨h.os,h.tape,h.output,h.size,fun x hx hn=>h.block x hx (fun q=>hn (hs x q))⟩
theorem ay.set {F:List Nat}{a b:World}(h:ay F a b) {g o:Nat}(v:Value) (hg:g∈F):ay F a (b.setCell ⟨g,o,none⟩ v):=⟨h.os,h.tape,h.output,by rw[World.size_setCell];exact h.size,fun x hx hn=>by
 rw[Below.heap_setCell _ _ _ _ (fun e=>hn (by rw[e];exact hg))]
 exact h.block x hx hn⟩
theorem BO {w:World}{zs:List Int}{cs:List Value}{F:List Nat}(h:ai w (.bytes zs) cs F):∀ b∈F,b<w.heap.size:=by
 rw[ai]at h;obtain⟨a,cap,_,_,_,h1,h0⟩:=h;rcases Nat.eq_zero_or_pos zs.length with q|q
 ·rw[h0 q];intro b hb;cases hb
 ·obtain⟨g,_,rfl,hg,_⟩:=h1 q;intro b hb;rw[List.mem_singleton.1 hb];exact hg
mutual
theorem ai.lt {w:World}:∀ (d:Dat) {cs:List Value}{F:List Nat},ai w d cs F->∀ b∈F,b<w.heap.size
 | .int n,cs,F,h=>by rw[ai]at h;rw[h.2];intro b hb;cases hb
 | .bytes zs,cs,F,h=>BO h
 | .agg fs,cs,F,h=>by rw[ai]at h;exact aA.lt fs h
 | .list k l,cs,F,h=>by
  rw[ai]at h;obtain⟨a,cap,_,_,h1,h0⟩:=h;rcases Nat.eq_zero_or_pos l.length with q|q
  ·rw[h0 q];intro b hb;cases hb
  ·obtain⟨g,F',_,rfl,hg,hh⟩:=h1 q;intro b hb;rcases List.mem_cons.1 hb with rfl|hb
   ·exact hg
   ·exact ax.lt l hh b hb
theorem aA.lt {w:World}:∀ (fs:List Dat) {cs:List Value}{F:List Nat},aA w fs cs F->∀ b∈F,b<w.heap.size
 | [],cs,F,h=>by rw[aA]at h;rw[h.2];intro b hb;cases hb
 | d::r,cs,F,h=>by
  rw[aA]at h;obtain⟨c1,c2,F1,F2,_,rfl,h1,h2⟩:=h;intro b hb;rcases List.mem_append.1 hb with hb|hb
  ·exact ai.lt d h1 b hb
  ·exact aA.lt r h2 b hb
theorem ax.lt {w:World}{k g:Nat}:∀ (l:List Dat) {i:Nat}{F:List Nat},ax w k g i l F->∀ b∈F,b<w.heap.size
 | [],i,F,h=>by rw[ax]at h;rw[h];intro b hb;cases hb
 | d::r,i,F,h=>by
  rw[ax]at h;obtain⟨cs,F1,F2,rfl,_,_,hd,hr⟩:=h;intro b hb;rcases List.mem_append.1 hb with hb|hb
  ·exact ai.lt d hd b hb
  ·exact ax.lt r hr b hb
end
theorem ai.only {w w':World}{d:Dat}{cs:List Value}{F G:List Nat}(h:ai w d cs F) (o:ay G w w') (hd:∀ b∈F,b∉G):ai w' d cs F:=ai.agree o.size d h (fun b hb=>o.block b (ai.lt d h b hb) (hd b hb))
theorem Ex.iO {w:World}{x:Ex}{cs:List Value}{F:List Nat}(h:ai w x.dat cs F):∃ v0 v1 G0 G1,cs=[.int .i64 x.kind,.int .i64 x.n,.int .i64 x.tk,.int .i64 x.tn,v0,v1]/\F=G0++G1/\ai w (.bytes x.name) [v0] G0/\ai w (.list 6 (Ex.ah x.kids)) [v1] G1:=by
 obtain⟨kind,n,tk,tn,name,kids⟩:=x;rw[Ex.dat,ai]at h;rw[aA]at h;obtain⟨c0,r0,F0,E0,rfl,rfl,h0,h⟩:=h;rw[aA]at h;obtain⟨c1,r1,F1,E1,rfl,rfl,h1,h⟩:=h;rw[aA]at h;obtain⟨c2,r2,F2,E2,rfl,rfl,h2,h⟩:=h;rw[aA]at h;obtain⟨c3,r3,F3,E3,rfl,rfl,h3,h⟩:=h;rw[aA]at h;obtain⟨c4,r4,F4,E4,rfl,rfl,h4,h⟩:=h;rw[aA]at h;obtain⟨c5,r5,F5,E5,rfl,rfl,h5,h⟩:=h;rw[aA]at h;obtain⟨rfl,rfl⟩:=h;rw[ai]at h0;obtain⟨rfl,rfl⟩:=h0;rw[ai]at h1;obtain⟨rfl,rfl⟩:=h1;rw[ai]at h2;obtain⟨rfl,rfl⟩:=h2;rw[ai]at h3;obtain⟨rfl,rfl⟩:=h3;have k4:=h4;rw[ai]at k4;obtain⟨a4,p4,rfl,_⟩:=k4;have k5:=h5;rw[ai]at k5;obtain⟨a5,p5,rfl,_⟩:=k5;exact⟨_,_,F4,F5,rfl,by simp,h4,h5⟩
theorem St.iO {w:World}{x:St}{cs:List Value}{F:List Nat}(h:ai w x.dat cs F):∃ v0 v1 v2 v3 G0 G1 G2 G3,cs=[.int .i64 x.kind,.int .i64 x.n,.int .i64 x.tk,.int .i64 x.tn,v0,v1,v2,v3]/\F=G0++G1++G2++G3/\ai w (.bytes x.name) [v0] G0/\ai w (.list 6 (Ex.ah x.kids)) [v1] G1/\ai w (.list 8 (St.ah x.body)) [v2] G2/\ai w (.list 8 (St.ah x.els)) [v3] G3:=by
 obtain⟨kind,n,tk,tn,name,kids,body,els⟩:=x;rw[St.dat,ai]at h;rw[aA]at h;obtain⟨c0,r0,F0,E0,rfl,rfl,h0,h⟩:=h;rw[aA]at h;obtain⟨c1,r1,F1,E1,rfl,rfl,h1,h⟩:=h;rw[aA]at h;obtain⟨c2,r2,F2,E2,rfl,rfl,h2,h⟩:=h;rw[aA]at h;obtain⟨c3,r3,F3,E3,rfl,rfl,h3,h⟩:=h;rw[aA]at h;obtain⟨c4,r4,F4,E4,rfl,rfl,h4,h⟩:=h;rw[aA]at h;obtain⟨c5,r5,F5,E5,rfl,rfl,h5,h⟩:=h;rw[aA]at h;obtain⟨c6,r6,F6,E6,rfl,rfl,h6,h⟩:=h;rw[aA]at h;obtain⟨c7,r7,F7,E7,rfl,rfl,h7,h⟩:=h;rw[aA]at h;obtain⟨rfl,rfl⟩:=h;rw[ai]at h0;obtain⟨rfl,rfl⟩:=h0;rw[ai]at h1;obtain⟨rfl,rfl⟩:=h1;rw[ai]at h2;obtain⟨rfl,rfl⟩:=h2;rw[ai]at h3;obtain⟨rfl,rfl⟩:=h3;have k4:=h4;rw[ai]at k4;obtain⟨a4,p4,rfl,_⟩:=k4;have k5:=h5;rw[ai]at k5;obtain⟨a5,p5,rfl,_⟩:=k5;have k6:=h6;rw[ai]at k6;obtain⟨a6,p6,rfl,_⟩:=k6;have k7:=h7;rw[ai]at k7;obtain⟨a7,p7,rfl,_⟩:=k7;exact⟨_,_,_,_,F4,F5,F6,F7,rfl,by simp,h4,h5,h6,h7⟩
theorem Fu.iO {w:World}{x:Fu}{cs:List Value}{F:List Nat}(h:ai w x.dat cs F):∃ v0 v1 v2 G0 G1 G2,cs=[v0,v1,.int .i64 x.rk,.int .i64 x.rn,v2]/\F=G0++G1++G2/\ai w (.bytes x.name) [v0] G0/\ai w (.list 3 (Pa.ah x.params)) [v1] G1/\ai w (.list 8 (St.ah x.body)) [v2] G2:=by
 obtain⟨name,params,rk,rn,body⟩:=x;rw[Fu.dat,ai]at h;rw[aA]at h;obtain⟨c0,r0,F0,E0,rfl,rfl,h0,h⟩:=h;rw[aA]at h;obtain⟨c1,r1,F1,E1,rfl,rfl,h1,h⟩:=h;rw[aA]at h;obtain⟨c2,r2,F2,E2,rfl,rfl,h2,h⟩:=h;rw[aA]at h;obtain⟨c3,r3,F3,E3,rfl,rfl,h3,h⟩:=h;rw[aA]at h;obtain⟨c4,r4,F4,E4,rfl,rfl,h4,h⟩:=h;rw[aA]at h;obtain⟨rfl,rfl⟩:=h;have k0:=h0;rw[ai]at k0;obtain⟨a0,p0,rfl,_⟩:=k0;have k1:=h1;rw[ai]at k1;obtain⟨a1,p1,rfl,_⟩:=k1;rw[ai]at h2;obtain⟨rfl,rfl⟩:=h2;rw[ai]at h3;obtain⟨rfl,rfl⟩:=h3;have k4:=h4;rw[ai]at k4;obtain⟨a4,p4,rfl,_⟩:=k4;exact⟨_,_,_,F0,F1,F4,rfl,by simp,h0,h1,h4⟩
end Go.Proofs.YtgaddpkkjebekaaGreatDoor
