/- My texts N1, N2 in one. -/
import Derived.Test.YtmdejbphoafjlaaGreatDoorGf
import Derived.Maps.OwnSet
import Derived.WalkSpells
import Derived.Laws.OwnMore
import Derived.OwnWalk
set_option maxHeartbeats 100000000
set_option maxRecDepth 100000
namespace Go.Proofs.YtmdejbphoafjlaaGreatDoor
open Go.RowKit Go.Maps Go.WideMaps Go.ChangeMaps
theorem klaw:Keyed Tryz.prog 9:=string_keyed Tryz.underlying9
theorem zeroInt (w:World):(zeroValue 3).run Tryz.prog w=.ok (.int .i64 0) w:=by kernel_rfl
def keyB (zs:List Int):Lit:=.string (strOfNums zs).data.toList
theorem keyB_of {zs:List Int}(h:zs.length≤1048576):keyOf Tryz.prog 9 (.string (strOfNums zs))=some (keyB zs):=by
 refine keyOf_string_mk Tryz.underlying9 ?_
 have:(strOfNums zs).size=zs.length:=by
  have:=congrArg List.length (strOfNums_data zs)
  simpa using this
 rw[this]
 unfold maxLen
 omega
theorem keyB_key (zs:List Int):WideAt.IsKeyLit (keyB zs):=trivial
theorem keyB_inj {xs ys:List Int}(hx:∀ j,isB (xs.getD j 0)) (hy:∀ j,isB (ys.getD j 0)) (h:keyB xs=keyB ys):xs=ys:=by
 have h1:=str_inj hx hy
 unfold keyB at h
 have h2:(strOfNums xs).data.toList=(strOfNums ys).data.toList:=by simpa using h
 have h3:((strOfNums xs).toList==(strOfNums ys).toList)=true:=by rw[ByteArray.toList_eq,ByteArray.toList_eq,h2];simp
 rw[h3]at h1
 exact of_decide_eq_true h1.symm
def Nm (zs:List Int):Prop:=(∀ j,isB (zs.getD j 0))∧zs.length≤1048576
def Mp (w:World) (b n:Nat) (f:List Int→Option Int):Prop :=
 ∃ D:DataW Unit,w.ownsMap Tryz.prog 9 (plainElem Tryz.prog 3) b n D∧Maps.size D=n∧Tidy D ∧
  ∀ zs,Nm zs→Maps.has D (keyB zs)=(f zs).isSome∧∀ v,f zs=some v→D.atKey (keyB zs) (.lit (.int .i64 0))=.lit (.int .i64 v)
theorem Mp.lt {w:World}{b n:Nat}{f:List Int→Option Int}(h:Mp w b n f):b<w.heap.size:=by obtain⟨D,h,_⟩:=h;exact h.lt
theorem Mp.kept {w w':World}{b n:Nat}{f:List Int→Option Int}(h:Mp w b n f) (hb:w'.heap[b]?=w.heap[b]?):Mp w' b n f:=by
 obtain⟨D,⟨es,clock,h1,h2⟩,h3⟩:=h
 exact⟨D,⟨es,clock,hb.trans h1,h2⟩,h3⟩
theorem Mp.later {w w':World}{b n:Nat}{f:List Int→Option Int}(h:Mp w b n f) (hl:Later w w'):Mp w' b n f:=h.kept (hl.block b h.lt)
theorem Mp.congr {w:World}{b n:Nat}{f g:List Int→Option Int}(h:Mp w b n f) (hf:∀ zs,Nm zs→f zs=g zs):Mp w b n g:=by
 obtain⟨D,h1,h2,h3,h4⟩:=h
 exact⟨D,h1,h2,h3,fun zs hz=>by rw[←hf zs hz];exact h4 zs hz⟩
theorem Mp.made (w:World):Mp (w.alloc (.map #[] 0)) w.heap.size 0 (fun _=>none) :=
 ⟨.map [],World.ownsMap_made w _ _ _,rfl,tidy_empty,fun zs _=>⟨rfl,fun v h=>by cases h⟩⟩
theorem own_tight {w:World}{P:Program}{k:TypeId}{R:Value→Option (DataW Unit × List MemPlace)}{b n:Nat}{D:DataW Unit}(h:w.ownsMap P k R b n D):w.ownsMap P k R b (Maps.size D) D:=by
 obtain⟨es,clock,hb,F,hs,rfl⟩:=h
 exact⟨es,clock,hb,F,by rw[Maps.size_eq,length_read];exact Nat.le_refl _,rfl⟩
theorem Mp.look {w:World}{b n:Nat}{f:List Int→Option Int}(h:Mp w b n f) {zs:List Int}(hz:Nm zs) :
  (Instr.lookup 101 (.map (some b)) (.string (strOfNums zs)) true).run Tryz.prog w=.ok (.tuple #[.int .i64 ((f zs).getD 0),.bool (f zs).isSome]) w:=by
 obtain⟨D,ho,_,ht,hf⟩:=h
 obtain⟨h1,h2⟩:=hf zs hz
 obtain⟨v,ps,hr,hv⟩:=ho.look_ok klaw Tryz.underlying101 (zeroInt w) (plainElem_int (H:=Unit) Tryz.underlying3 (q:=.i64) (a:=0) (by decide)) (keyB_of hz.2)
 obtain⟨c,rfl,hc,_⟩:=plainElem_int_inv Tryz.underlying3 hv
 have hc1:=congrArg Prod.fst hc
 simp only at hc1
 rw[hr,h1]
 cases hfz:f zs with
 | none =>
  rw[hfz]at h1
  rw[atKey_of_not_has h1]at hc1
  cases hc1
  rfl
 | some u =>
  rw[h2 u hfz]at hc1
  cases hc1
  rfl
theorem mapTurned_block {w w':World}{b:Nat}(h:w.mapTurned w' b):(∀ k,k≠b→w'.heap[k]?=w.heap[k]?)∧w'.heap.size=w.heap.size∧w'.os=w.os∧w'.tape=w.tape∧w'.output=w.output:=by
 have hg:=h.grown
 obtain⟨es,clock,es',clock',hb,rfl⟩:=h
 refine⟨fun k hk=>?_,by simp[setBlock],hg.os,hg.tape,hg.output⟩
 rcases Nat.lt_or_ge k w.heap.size with hl|hl
 ·exact hg.block k hl (by simp;exact hk)
 ·rw[Array.getElem?_eq_none (by simpa[setBlock] using hl),Array.getElem?_eq_none hl]
def upd (f:List Int→Option Int) (k:List Int) (v:Int):List Int→Option Int:=fun z=>if z=k then some v else f z
def cut (f:List Int→Option Int) (k:List Int):List Int→Option Int:=fun z=>if z=k then none else f z
theorem Mp.put {w:World}{b n:Nat}{f:List Int→Option Int}(h:Mp w b n f) (hn:n≤1000000) {zs:List Int}(hz:Nm zs) {v:Int}(hv:(Lit.int .i64 v).wf=true) :
  ∃ w',(Instr.mapUpdate 101 (.map (some b)) (.string (strOfNums zs)) (.int .i64 v)).run Tryz.prog w=.ok () w'∧Mp w' b (if (f zs).isSome then n else n+1) (upd f zs v)∧w.mapTurned w' b:=by
 obtain⟨D,ho,hs,ht,hf⟩:=h
 obtain⟨w',hr,ho',htn⟩:=ho.store klaw Tryz.underlying101 (by unfold maxLen;omega) (keyB_of hz.2) (plainElem_int (H:=Unit) Tryz.underlying3 hv)
 refine⟨w',hr,⟨D.put (keyB zs) (.lit (.int .i64 v)),?_,?_,ht.put (keyB_key _) _,fun ys hy=>?_⟩,htn⟩
 ·have:=own_tight ho'
  rw[size_put ht,hs,(hf zs hz).1]at this
  exact this
 ·rw[size_put ht,hs,(hf zs hz).1]
 ·unfold upd
  by_cases e:ys=zs
  ·subst e
   rw[if_pos rfl,has_put_same ht.isMap (keyB_key _)]
   exact⟨rfl,fun u hu=>by cases hu;exact atKey_put_same ht.isMap (keyB_key _) _ _⟩
  ·have hne:keyB ys≠keyB zs:=fun q=>e (keyB_inj hy.1 hz.1 q)
   rw[if_neg e,has_put_other hne]
   exact⟨(hf ys hy).1,fun u hu=>by rw[atKey_put_other hne];exact (hf ys hy).2 u hu⟩
theorem Mp.del {w:World}{b n:Nat}{f:List Int→Option Int}(h:Mp w b n f) {zs:List Int}(hz:Nm zs) (ty:TypeId) :
  ∃ w' n',(Builtin.delete_ #[101,9] ty #[.map (some b),.string (strOfNums zs)]).run Tryz.prog w=.ok (.tuple #[]) w'∧Mp w' b n' (cut f zs)∧n'≤n∧w.mapTurned w' b:=by
 obtain⟨D,ho,hs,ht,hf⟩:=h
 obtain⟨w',hr,ho',htn⟩:=ho.drop klaw Tryz.underlying101 (keyB_of hz.2) ty
 refine⟨w',Maps.size (D.del (keyB zs)),hr,⟨D.del (keyB zs),own_tight ho',rfl,ht.del _,fun ys hy=>?_⟩,?_,htn⟩
 ·unfold cut
  by_cases e:ys=zs
  ·subst e
   rw[if_pos rfl,has_del_same]
   exact⟨rfl,fun u hu=>by cases hu⟩
  ·have hne:keyB ys≠keyB zs:=fun q=>e (keyB_inj hy.1 hz.1 q)
   rw[if_neg e,has_del_other hne]
   exact⟨(hf ys hy).1,fun u hu=>by rw[atKey_del_other hne];exact (hf ys hy).2 u hu⟩
 ·have:=size_del (k:=keyB zs) ht
  omega
theorem Mp.len {w:World}{b n:Nat}{f:List Int→Option Int}(h:Mp w b n f) (ty:TypeId):(Builtin.len_ #[101] ty #[.map (some b)]).run Tryz.prog w=.ok (.int .i64 n) w:=by
 obtain⟨D,ho,hs,_⟩:=h
 rw[ho.len Tryz.underlying101 ty,hs]
end Go.Proofs.YtmdejbphoafjlaaGreatDoor
namespace Go.Proofs.YtmdejbphoafjlaaGreatDoor
open Go.RowKit Go.Maps
def nmD (l:List (List Int)):List Dat:=l.map Dat.bytes
theorem nmD_len (l:List (List Int)):(nmD l).length=l.length:=by unfold nmD;rw[List.length_map]
theorem nm_slice {w:World}{v:Value}{l:List (List Int)}(h:RdL w 1 v (nmD l)):∃ a cap,v=.slice a l.length cap∧(l.length:Int)≤9223372036854775807:=by
 obtain⟨a,cap,e,hl⟩:=h.slice
 rw[nmD_len]at e hl
 exact⟨a,cap,e,hl⟩
theorem nm_elem {w:World}{a:Option Addr}{n cap:Nat}{l:List (List Int)}(h:RdL w 1 (.slice a n cap) (nmD l)) (j:Nat) (hj:j<l.length):∃ g off v0,a=some ⟨g,off,none⟩∧g<w.heap.size∧w.cell? ⟨g,off+j,none⟩=some v0∧RdN w v0 l[j]:=by
 obtain⟨_,_,e,_,h⟩:=h
 cases e
 obtain⟨g,off,cs,rfl,hg,hk,hc,hd⟩:=h j (by rw[nmD_len];exact hj)
 unfold nmD at hd
 rw[List.getElem_map]at hd
 obtain⟨v0,rfl,r0⟩:=RdN.iff.1 hd
 have:=hc 0 _ rfl
 rw[Nat.mul_one]at this
 exact⟨g,off,v0,rfl,hg,this,r0⟩
def plcs (l:List (List Int)):Nat→List Int→Option Int
 | 0=>fun _=>none
 | j+1=>upd (plcs l j) (l.getD j []) j
def cnt (l:List (List Int)):Nat→Nat
 | 0=>0
 | j+1=>if (plcs l j (l.getD j [])).isSome then cnt l j else cnt l j+1
theorem cnt_le (l:List (List Int)):∀ j,cnt l j≤j
 | 0=>Nat.le_refl _
 | j+1=>by
  rw[cnt]
  have:=cnt_le l j
  split <;> omega
theorem plcs_some (l:List (List Int)):∀ j z,j≤l.length→((plcs l j z).isSome=true↔z∈l.take j)
 | 0,z,_=>by simp[plcs]
 | j+1,z,h=>by
  have e:l.getD j []=l[j]:=by rw[List.getD_eq_getElem?_getD,List.getElem?_eq_getElem (by omega)];rfl
  rw[plcs,upd,List.take_succ_eq_append_getElem (by omega),List.mem_append,List.mem_singleton,e]
  by_cases hz:z=l[j]
  ·rw[if_pos hz];simp[hz]
  ·rw[if_neg hz,plcs_some l j z (by omega)];simp[hz]
theorem cnt_all (l:List (List Int)):∀ j,j≤l.length→(cnt l j=j↔(l.take j).Nodup)
 | 0,_=>by simp[cnt]
 | j+1,h=>by
  have e:l.getD j []=l[j]:=by rw[List.getD_eq_getElem?_getD,List.getElem?_eq_getElem (by omega)];rfl
  have ih:=cnt_all l j (by omega)
  have hle:=cnt_le l j
  have hs:=plcs_some l j l[j] (by omega)
  rw[cnt,e,List.take_succ_eq_append_getElem (by omega),List.nodup_append]
  by_cases hm:(plcs l j l[j]).isSome=true
  ·rw[if_pos hm]
   constructor
   ·intro q;omega
   ·rintro ⟨_,_,q⟩
    exact absurd rfl (q _ (hs.1 hm) _ (List.mem_singleton.2 rfl))
  ·rw[if_neg hm]
   constructor
   ·intro q
    refine⟨ih.1 (by omega),by simp,fun a ha b hb=>?_⟩
    rw[List.mem_singleton.1 hb]
    intro e'
    subst e'
    exact hm (hs.2 ha)
   ·rintro ⟨q,_⟩
    rw[ih.2 q]
def uniq (l:List (List Int)):Bool:=decide (cnt l l.length=l.length)
theorem uniq_iff (l:List (List Int)):uniq l=true↔l.Nodup:=by
 unfold uniq
 rw[decide_eq_true_eq,cnt_all l _ (Nat.le_refl _),List.take_length]
def plc (l:List (List Int)):List Int→Option Int:=plcs l l.length
theorem plcs_at (l:List (List Int)) (hn:l.Nodup):∀ j i (hi:i<l.length),i<j→j≤l.length→plcs l j l[i]=some (i:Int)
 | j+1,i,hi,hij,hj=>by
  have e:l.getD j []=l[j]:=by rw[List.getD_eq_getElem?_getD,List.getElem?_eq_getElem (by omega)];rfl
  rw[plcs,upd,e]
  by_cases hz:l[i]=l[j]
  ·rw[if_pos hz]
   have:i=j:=(List.getElem_inj hn).1 hz
   rw[this]
  ·rw[if_neg hz]
   have:i≠j:=fun q=>hz (by subst q;rfl)
   exact plcs_at l hn j i hi (by omega) (by omega)
theorem plc_at {l:List (List Int)}(hn:l.Nodup) {i:Nat}(hi:i<l.length):plc l l[i]=some (i:Int):=plcs_at l hn _ i hi hi (Nat.le_refl _)
theorem plc_none {l:List (List Int)}{z:List Int}(h:z∉l):plc l z=none:=by
 have:=plcs_some l l.length z (Nat.le_refl _)
 rw[List.take_length]at this
 cases e:plc l z with
 | none=>rfl
 | some v=>exact absurd (this.1 (by unfold plc at e;rw[e];rfl)) h
theorem wf_nat {j:Nat}(h:j≤1000000):(Lit.int .i64 (j:Int)).wf=true:=WalkArith.wf_i64 (by omega)
theorem places_any (v:Value) (l:List (List Int)) (w:World) (h:RdL w 1 v (nmD l)) (hN:∀ z∈l,Nm z) (hlen:l.length≤1000000) :
  Calls Tryz.prog 60 #[v] w fun e w'=>e=.returned (.tuple #[.map (some w.heap.size),.bool (uniq l)])∧Mp w' w.heap.size (cnt l l.length) (plc l)∧Later w w':=by
 obtain⟨a,cap,rfl,hl⟩:=nm_slice h
 have hmm:=@run_makeMap Tryz.prog
 have hM0:=Mp.made w
 have hL0:Later w (w.alloc (.map #[] 0)):=later1 _ _
 go_enter Tryz.func60,Tryz.ntmps60
 go_wp2_with fail
 generalize w.alloc (.map #[] 0)=w1 at *
 go_loopw [10] (fun i wr=>∃ (j:Nat),i=.int .i64 (j:Int)∧j≤l.length∧Later w wr∧Mp wr w.heap.size (cnt l j) (plcs l j)) (fun i _=>l.length - (intOf i).toNat)
 case atStart=>exact⟨0,rfl,Nat.zero_le _,hL0,hM0⟩
 case round =>
  obtain⟨j,rfl,hj,lr,hM⟩:=hrel
  by_cases hlt:j<l.length
  ·obtain⟨g,off,v0,rfl,hgs,c0,r0⟩:=nm_elem (RdL.later lr h) j hlt
   have i1:(j:Int)<(l.length:Int):=by omega
   have hcv:=conv_here r0.rd
   have hcl:=cnt_le l j
   have e:l.getD j []=l[j]:=by rw[List.getD_eq_getElem?_getD,List.getElem?_eq_getElem (by omega)];rfl
   obtain⟨w2,hup,hM2,htn⟩:=hM.put (by omega) (hN l[j] (List.getElem_mem hlt)) (wf_nat (j:=j) (by omega))
   obtain⟨hb1,hb2,hb3,hb4,hb5⟩:=mapTurned_block htn
   have HM:Hid (Mp w2 w.heap.size (cnt l (j+1)) (plcs l (j+1))):=by rw[cnt,plcs,e];exact hM2
   have L2:Later w w2:=⟨hb3.trans lr.os,hb4.trans lr.tape,hb5.trans lr.output,by rw[hb2];exact lr.size,fun k hk=>by rw[hb1 k (by omega)];exact lr.block k hk⟩
   obtain⟨y0,q0,rfl,_⟩:=r0.slice
   clear h hM hM2 htn hb1 hb2 hb3 hb4 hb5 e
   go_wp2_with fail
   go_roundw
   case rel=>exact⟨j+1,by go_num,by omega,L2,HM.out⟩
   case measure=>simp[intOf];omega
  ·have i1:¬ (j:Int)<(l.length:Int):=by omega
   have i2:decide ((j:Int)<(l.length:Int))=false:=decide_eq_false i1
   have hjj:j=l.length:=by omega
   have HM:Hid (Mp wr w.heap.size (cnt l l.length) (plc l)):=by rw[hjj]at hM;exact hM
   have hln:=fun ty=>HM.out.len ty
   have HU:Hid (((cnt l l.length:Int)==(l.length:Int))=uniq l):=by unfold Hid uniq;rw[Bool.eq_iff_iff,beq_iff_eq,decide_eq_true_eq];omega
   clear h hM
   obtain⟨C,hC⟩:∃ C,Hid (C=cnt l l.length):=⟨_,rfl⟩
   rw[←hC.out]at HU hln
   go_wp2_with fail
   go_ret2
   exact⟨by rw[←HU.out];rfl,HM.out,lr⟩
end Go.Proofs.YtmdejbphoafjlaaGreatDoor
