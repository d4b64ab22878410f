import Derived.Test.YtgholpilmdebmaaGreatDoorZ01
import Derived.Test.YtgholpilmdebmaaGreatDoorZ05
import Derived.Deep.RegionWith
import Derived.Laws.BytesArg
set_option maxHeartbeats 100000000
set_option maxRecDepth 100000
namespace Go.Proofs.YtgholpilmdebmaaGreatDoor.KL
open Go.RowKit
abbrev Tok:=Int × Int × Int × List Int
abbrev Lay:=Nat × Nat × Nat
theorem zbl {w:World}{a:Addr}{v:Value}(h:w.cell? a=some v):a.block<w.heap.size:=by
 rcases Nat.lt_or_ge a.block w.heap.size with l|l
 ·exact l
 ·have:w.heap[a.block]?=none:=Array.getElem?_eq_none l;unfold World.cell? at h;rw[this]at h
  cases h
def evN (zs:List Int):Int:=zs.foldl (fun a z=>a*10+(z - 48)) 0
theorem evN_snoc (zs:List Int) (z:Int):evN (zs++[z])=evN zs*10+(z - 48):=by unfold evN;rw[List.foldl_append];rfl
theorem evN_digF (k u:Nat) (h:u<10 ^ k) (hk:0<k):evN (digF k u)=u:=by
 induction k generalizing u with
 | zero=>exact absurd hk (Nat.lt_irrefl _)
 | succ k ih =>
  unfold digF;split
  ·unfold evN;simp;omega
  ·rename_i hlt
   have hk0:0<k:=by
    rcases Nat.eq_zero_or_pos k with h'|h'
    ·subst h';simp at h;omega
    ·exact h'
   rw[evN_snoc,ih (u / 10) (by rw[Nat.pow_succ]at h;omega) hk0];omega
theorem digF_dig (k u:Nat):∀ z∈digF k u,48≤z∧z≤57:=by
 induction k generalizing u with
 | zero=>intro z hz;cases hz
 | succ k ih =>
  unfold digF;split
  ·intro z hz;rw[List.mem_singleton.1 hz];omega
  ·intro z hz;rcases List.mem_append.1 hz with hz|hz
   ·exact ih _ z hz
   ·rw[List.mem_singleton.1 hz];omega
def inB (n:Int):Bool:=decide (-9223372036854775808≤n)&&decide (n≤9223372036854775807)
theorem inB_iff (n:Int):inB n=true↔InR n:=by unfold inB InR;simp
def intVal (zs:List Int):Int:=if zs.head?=some 45 then -(evN zs.tail) else evN zs
def intOfL (zs:List Int):Option Int:=if inB (intVal zs)&&(decL (intVal zs)==zs) then some (intVal zs) else none
theorem decL_neg {n:Int}(h:n<0):decL n=45::digF 20 (-n).toNat:=if_pos h
theorem decL_nonneg {n:Int}(h:¬ n<0):decL n=digF 20 n.toNat:=if_neg h
theorem intOfL_dec {m:Int}(h:InR m):intOfL (decL m)=some m:=by
 unfold InR at h
 have e:intVal (decL m)=m:=by
  unfold intVal;by_cases hn:m<0
  ·rw[decL_neg hn,if_pos (show (45::digF 20 (-m).toNat).head?=some 45 from rfl),List.tail_cons,evN_digF 20 _ (by omega) (by decide)];omega
  ·rw[decL_nonneg hn];have hp:=zea 19 m.toNat;have hd:=digF_dig 20 m.toNat;rw[if_neg,evN_digF 20 _ (by omega) (by decide)]
   ·omega
   ·intro hh;have:=hd 45 (List.mem_of_mem_head? hh);omega
 unfold intOfL;simp only[e,(inB_iff m).2 h,beq_self_eq_true,Bool.and_self,if_true]
theorem intOfL_some {zs:List Int}{n:Int}(h:intOfL zs=some n):InR n∧zs=decL n:=by
 unfold intOfL at h;split at h
 ·rename_i hc
  rw[Bool.and_eq_true,beq_iff_eq]at hc
  cases h
  exact⟨(inB_iff _).1 hc.1,hc.2.symm⟩
 ·cases h
theorem intOfL_none {zs:List Int}(h:∀ m,InR m→zs≠decL m):intOfL zs=none:=by
 cases e:intOfL zs with
 | none=>rfl
 | some m=>exact absurd (intOfL_some e).2 (h m (intOfL_some e).1)
theorem str_inj {xs ys:List Int}(hx:∀ j,isB (xs.getD j 0)) (hy:∀ j,isB (ys.getD j 0)):((strOfNums xs).toList==(strOfNums ys).toList)=decide (xs=ys):=by
 have e:∀ zs:List Int,(strOfNums zs).toList=zs.map fun n=>UInt8.ofNat n.toNat:=fun zs=>by
  rw[ByteArray.toList_eq];exact strOfNums_data zs
 rw[e,e,Bool.eq_iff_iff,beq_iff_eq,decide_eq_true_eq];constructor
 ·intro h;have hl:xs.length=ys.length:=by simpa using congrArg List.length h
  refine eq_of_getD hl (fun j hj=>?_);have h1:=congrArg (fun l=>l[j]?) h;simp only[List.getElem?_map,List.getElem?_eq_getElem hj,List.getElem?_eq_getElem (show j<ys.length by omega),Option.map_some,Option.some.injEq]at h1;have a:=hx j;have b:=hy j;rw[List.getD_eq_getElem?_getD,List.getElem?_eq_getElem hj]at a ⊢;rw[List.getD_eq_getElem?_getD,List.getElem?_eq_getElem (show j<ys.length by omega)]at b ⊢;simp only[Option.getD_some]at a b ⊢;unfold isB at a b;have h2:=congrArg UInt8.toNat h1;rw[UInt8.toNat_ofNat',UInt8.toNat_ofNat']at h2;omega
 ·intro h;rw[h]
theorem conv_str {w:World}{v:Value}{zs:List Int}(h:RdB w v zs):∀ w',Later w w'→(convert 22 9 v).run Tryz.prog w'=.ok (.string (strOfNums zs)) w':=by
 intro w' hl;obtain⟨a,cap,rfl,_,_,hc⟩:=h.later hl;rcases Nat.eq_zero_or_pos zs.length with h0|h0
 ·have:zs=[]:=List.eq_nil_of_length_eq_zero h0;subst this
  cases a with
  | none=>exact run_convert_bytes_nil w' 22 5 Tryz.underlying22 Tryz.underlying5 0 cap 9 Tryz.underlying9
  | some x =>
   obtain⟨b,off,sp⟩:=x;rw[run_convert_bytes_string w' 22 9 5 _ _ cap Tryz.underlying22 Tryz.underlying5 Tryz.underlying9,run_bytesToString w' _ _ cap [] (by simpa using run_loadCells_list (P:=Tryz.prog) w' ⟨b,off,sp⟩ [] (fun j v h=>by simp at h))];rfl
 ·obtain⟨g,off,rfl,_,_⟩:=hc 0 h0;refine run_convert_bytes_arg w' 22 5 Tryz.underlying22 Tryz.underlying5 g off zs.length cap zs rfl (fun i hi=>?_) 9 Tryz.underlying9;obtain⟨_,_,he,_,hv⟩:=hc i hi
  cases he
  exact hv
theorem decL_isB (n:Int):∀ j,isB ((decL n).getD j 0):=by
 have h:∀ z∈decL n,isB z:=by
  unfold decL isB;split
  ·intro z hz;rcases List.mem_cons.1 hz with rfl|hz
   ·omega
   ·have:=digF_dig _ _ z hz;omega
  ·intro z hz;have:=digF_dig _ _ z hz;omega
 intro j;rw[List.getD_eq_getElem?_getD];rcases Nat.lt_or_ge j (decL n).length with hj|hj
 ·rw[List.getElem?_eq_getElem hj];exact h _ (List.getElem_mem _)
 ·rw[List.getElem?_eq_none hj];exact⟨by simp,by simp⟩
theorem take_drop_succ {zs:List Int}{k i:Nat}(hk:k≤i) (hi:i<zs.length):(zs.take (i+1)).drop k=(zs.take i).drop k++[zs.getD i 0]:=by
 rw[List.take_succ_eq_append_getElem hi,List.drop_append_of_le_length (by simp;omega),List.getD_eq_getElem?_getD,List.getElem?_eq_getElem hi];rfl
theorem w64 (n:Int):IntKind.i64.wrap n=wrap64 n:=by rw[IntKind.wrap_i64];unfold wrap64;rfl
theorem head_of {zs:List Int}(h:0<zs.length):zs.head?=some (zs.getD 0 0):=by
 cases zs with
 | nil=>cases h
 | cons z r=>rfl
theorem head_yes {zs:List Int}(h:0<zs.length) (e:zs.head?=some 45):(zs.getD 0 0==45)=true:=by
 rw[head_of h,Option.some.injEq]at e;rw[e];rfl
def IntP (zs:List Int) (w:World) (e:Ending) (w':World):Prop:=∃ n b,e=.returned (.tuple #[.int .i64 n,.bool b])∧intOfL zs=(if b then some n else none)∧Later w w'
end Go.Proofs.YtgholpilmdebmaaGreatDoor.KL
