import Derived.Test.YtgholpilmdebmaaGreatDoorZ18
import Derived.Deep.RegionHeld3
import Derived.Deep.CutRange
set_option maxHeartbeats 100000000
set_option maxRecDepth 100000
namespace Go.Proofs.YtgholpilmdebmaaGreatDoor
open Go.RowKit
def paOk (s:Int) (x:Pa):Bool:=nameL x.name&&tyB x.tk x.tn s false
def paramB (most s:Int) (l:List Pa):Bool:=decide ((l.length:Int)≤most)&&l.all (paOk s)
theorem all_no {α:Type}{l:List α}{f:α→Bool}{j:Nat}(h:j<l.length) (hf:f l[j]=false):l.all f=false:=by
 rw[←Bool.not_eq_true,List.all_eq_true];intro ha;rw[ha _ (List.getElem_mem h)]at hf
 cases hf
theorem all_yes {α:Type}{l:List α}{f:α→Bool}(h:∀ j (hj:j<l.length),f l[j]=true):l.all f=true:=by
 rw[List.all_eq_true];intro x hx;obtain⟨j,hj,rfl⟩:=List.mem_iff_getElem.1 hx;exact h j hj
theorem equal_any (v u:Value) (xs ys:List Int) (w:World) (h:RdB w v xs) (k:RdB w u ys):Calls Tryz.prog 25 #[v,u] w fun e w'=>e=.returned (.bool (decide (xs=ys)))∧w'=w:=by
 have hc:=zcb h;have kc:=zcb k;have hs:=str_inj h.isB k.isB;obtain⟨a,cap,rfl,_⟩:=h.slice;obtain⟨b,cap',rfl,_⟩:=k.slice;clear h k;go_enter Tryz.func25,Tryz.ntmps25;go_wp2_with fail
 go_ret;exact⟨rfl,rfl⟩
def anyB (l:List Sc) (nm:List Int):Bool:=l.any fun x=>x.name==nm
theorem any_yes {l:List Sc}{nm:List Int}{j:Nat}(h:j<l.length) (e:l[j].name=nm):anyB l nm=true:=by
 unfold anyB;rw[List.any_eq_true];exact⟨_,List.getElem_mem h,by rw[e];exact beq_self_eq_true _⟩
theorem any_no {l:List Sc}{nm:List Int}(h:∀ j (hj:j<l.length),l[j].name≠nm):anyB l nm=false:=by
 unfold anyB;rw[←Bool.not_eq_true,List.any_eq_true];rintro ⟨x,hx,e⟩;obtain⟨j,hj,rfl⟩:=List.mem_iff_getElem.1 hx;exact h j hj (by simpa using e)
def oneB (l:List Sc) (i:Nat) (x:Sc):Bool:=wordL x.name true&&!(anyB (l.take i) x.name)&&paramB 5 ((i:Int)+1) x.fields
def structB (l:List Sc):Bool:=decide (l.length≤6)&&(List.range l.length).all fun i=>match l[i]? with|some x=>oneB l i x|none=>true
theorem zcc (l:List Sc):structB l=true↔l.length≤6∧∀ i (h:i<l.length),oneB l i l[i]=true:=by
 unfold structB;rw[Bool.and_eq_true,decide_eq_true_eq,List.all_eq_true]
 refine and_congr_right fun _=>⟨fun h i hi=>?_,fun h i hi=>?_⟩
 ·have:=h i (List.mem_range.2 hi)
  rwa [List.getElem?_eq_getElem hi]at this
 ·have hi':=List.mem_range.1 hi;rw[List.getElem?_eq_getElem hi'];exact h i hi'
theorem structB_no {l:List Sc}{i:Nat}(h:i<l.length) (hf:oneB l i l[i]=false):structB l=false:=by
 rw[←Bool.not_eq_true,zcc];rintro ⟨_,ha⟩;rw[ha i h]at hf
 cases hf
theorem tyB_true (k n s:Int):tyB k n s true=(((k==0)&&(n==0))||tyB k n s false):=by
 unfold tyB;by_cases h:k=0
 ·subst h;simp
 ·rw[if_neg h,if_neg h,neb h];rfl
def headF (s:Int) (x:Fu):Bool:=nameL x.name&&paramB 4 s x.params
def Fu.run (s l:Int) (x:Fu):Option Int:=if headF s x&&tyB x.rk x.rn s true then St.runs s 1 l x.body else none
def Fu.runs (s:Int):Int→List Fu→Option Int
 | l,[]=>some l
 | l,x::r=>match Fu.run s l x with|none=>none|some l'=>Fu.runs s l' r
def Fu.good (x:Fu):Prop:=St.goods x.body
def Fu.goods (l:List Fu):Prop:=∀ j (h:j<l.length),l[j].good
def Fu.soFar (s l:Int) (xs:List Fu) (j:Nat) (l':Int):Prop:=Fu.runs s l xs=Fu.runs s l' (xs.drop j)
theorem Fu.soFar_start (s l:Int) (xs:List Fu):Fu.soFar s l xs 0 l:=rfl
theorem Fu.soFar_done {s l l':Int}{xs:List Fu}(h:Fu.soFar s l xs xs.length l'):Fu.runs s l xs=some l':=by
 unfold Fu.soFar at h;rw[h,List.drop_length,Fu.runs]
theorem Fu.soFar_next {s l l' l'':Int}{xs:List Fu}{j:Nat}(h:Fu.soFar s l xs j l') (hj:j<xs.length) (hr:Fu.run s l' xs[j]=some l''):Fu.soFar s l xs (j+1) l'':=by
 unfold Fu.soFar at *;rw[h,List.drop_eq_getElem_cons hj,Fu.runs,hr]
theorem Fu.soFar_bad {s l l':Int}{xs:List Fu}{j:Nat}(h:Fu.soFar s l xs j l') (hj:j<xs.length) (hr:Fu.run s l' xs[j]=none):Fu.runs s l xs=none:=by
 unfold Fu.soFar at h;rw[h,List.drop_eq_getElem_cons hj,Fu.runs,hr]
theorem Fu.run_le {s l l':Int}{x:Fu}(h:Fu.run s l x=some l'):l'≤l∧(0≤l→0≤l'):=by
 unfold Fu.run at h;split at h
 ·exact St.runs_le s _ _ _ _ h
 ·cases h
def So.run (x:So):Option Int:=if structB x.structs&&decide (x.funcs.length≤8) then Fu.runs (x.structs.length:Int) 400 x.funcs else none
theorem Fu.runs_le (s:Int):∀ (xs:List Fu) (l l':Int),Fu.runs s l xs=some l'→l'≤l∧(0≤l→0≤l')
 | [],l,l',h=>by rw[Fu.runs]at h;cases h;exact⟨Int.le_refl _,fun h=>h⟩
 | x::r,l,l',h=>by
  rw[Fu.runs]at h;split at h
  ·cases h
  ·rename_i l1 h1
   have a:=Fu.run_le h1;have b:=Fu.runs_le s r l1 l' h;exact⟨by omega,fun h0=>b.2 (a.2 h0)⟩
end Go.Proofs.YtgholpilmdebmaaGreatDoor
