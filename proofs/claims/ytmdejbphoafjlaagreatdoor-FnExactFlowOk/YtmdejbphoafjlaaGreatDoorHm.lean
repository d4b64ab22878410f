/- My texts N22, N23 in one. -/
import Derived.Test.YtmdejbphoafjlaaGreatDoorHi
import Derived.Test.YtmdejbphoafjlaaGreatDoorHh
import Derived.Test.YtmdejbphoafjlaaGreatDoorHl
set_option maxHeartbeats 100000000
set_option maxRecDepth 100000
namespace Go.Proofs.YtmdejbphoafjlaaGreatDoor
open Go.RowKit Go.Maps
theorem St.in_le (x:St):St.szs x.body≤x.sz∧St.szs x.els≤x.sz:=by
 obtain⟨k,n,tk,tn,nm,ks,bo,el⟩:=x
 simp only[St.sz,St.body,St.els]
 omega
theorem iblock_all (N:Nat):∀ (l:List St),St.szs l≤N→SBlock l:=by
 induction N using Nat.strongRecOn with
 | _ N IH =>
 intro l hN
 refine iblock_of l fun j hj=>?_
 have h1:=St.sz_at l j hj
 have h2:=St.in_le l[j]
 have hE:∀ i (hi:i<l[j].kids.length),EPart l[j].kids[i]:=fun i hi=>ipart_all _ _ (Nat.le_refl _)
 have hB:SBlock l[j].body:=IH (St.szs l[j].body) (by omega) _ (Nat.le_refl _)
 have hL:SBlock l[j].els:=IH (St.szs l[j].els) (by omega) _ (Nat.le_refl _)
 by_cases h0:l[j].kind=0
 ·exact sipart_decl l[j] hE hB hL h0
 ·exact sipart_plain l[j] hE hB hL h0
def Fu.nb (fs:List (List Int)) (x:Fu):Fu:=.mk x.name x.params x.rk x.rn (St.nbl fs (paNames x.params) (paNames x.params) x.body)
def fuSofar (fs:List (List Int)) (l:List Fu) (j:Nat):List Fu:=(l.take j).map (Fu.nb fs)++l.drop j
theorem fuSofar_len (fs:List (List Int)) (l:List Fu) (j:Nat):(fuSofar fs l j).length=l.length:=by unfold fuSofar;rw[List.length_append,List.length_map,List.length_take,List.length_drop];omega
theorem fuSofar_at (fs:List (List Int)) (l:List Fu) (j:Nat) (h:j<l.length):(fuSofar fs l j)[j]'(by rw[fuSofar_len];exact h)=l[j]:=by
 unfold fuSofar
 have e:((l.take j).map (Fu.nb fs)).length=j:=by rw[List.length_map,List.length_take];omega
 rw[List.getElem_append_right (by omega)]
 simp only[List.getElem_drop,e,Nat.sub_self,Nat.add_zero]
theorem fuSofar_set (fs:List (List Int)) (l:List Fu) (j:Nat) (h:j<l.length):(fuSofar fs l j).set j (Fu.nb fs l[j])=fuSofar fs l (j+1):=by
 unfold fuSofar
 have e:((l.take j).map (Fu.nb fs)).length=j:=by rw[List.length_map,List.length_take];omega
 rw[List.set_append_right _ _ (by omega),e,Nat.sub_self,List.drop_eq_getElem_cons h,List.set_cons_zero,List.take_succ_eq_append_getElem h,List.map_append,List.append_assoc]
 rfl
theorem fuSofar_zero (fs:List (List Int)) (l:List Fu):fuSofar fs l 0=l:=by unfold fuSofar;rw[List.take_zero];rfl
theorem fuSofar_all (fs:List (List Int)) (l:List Fu):fuSofar fs l l.length=l.map (Fu.nb fs):=by unfold fuSofar;rw[List.take_length,List.drop_length,List.append_nil]
theorem fu_step {wr:World}{fs:List (List Int)}{l:List Fu}{gk:Nat}{F:List Nat}{j:Nat}(hl:gk<wr.heap.size) (hA:OwnAll wr 5 gk 0 (Fu.dats (fuSofar fs l j)) F) (hnd:(gk::F).Nodup) (hj:j<l.length) :
  ∃ u0 u1 u2 H0 H1 H2,(∀ m u,[u0,u1,.int .i64 l[j].rk,.int .i64 l[j].rn,u2][m]?=some u→wr.cell? ⟨gk,j*5+m,none⟩=some u)∧OwnD wr (.bytes l[j].name) [u0] H0∧OwnD wr (.list 3 (Pa.dats l[j].params)) [u1] H1∧OwnD wr (.list 8 (St.dats l[j].body)) [u2] H2∧H2.Nodup∧gk∉H2∧(∀ b∈H2,b∈F) ∧
   ∀ w2 (S:List Nat),(∀ b∈S,b∉gk::F)→OnlyF (S++H2) wr w2→OwnD w2 (.list 8 (St.dats (St.nbl fs (paNames l[j].params) (paNames l[j].params) l[j].body))) [u2] H2→OwnAll w2 5 gk 0 (Fu.dats (fuSofar fs l (j+1))) F:=by
 have hjl:j<(Fu.dats (fuSofar fs l j)).length:=by rw[Fu.dats_len,fuSofar_len];exact hj
 obtain⟨cs,F1,Fj,F2,rfl,hk,hc,hd,HK⟩:=OwnAll.lens _ j hjl hA
 rw[Fu.dats_at _ j (by rw[fuSofar_len];exact hj),fuSofar_at _ _ _ hj]at hd
 obtain⟨u0,u1,u2,H0,H1,H2,rfl,rfl,hn,hp,hb⟩:=Fu.ownView hd
 rw[Nat.zero_add]at hc HK
 have hin:∀ b∈H0++H1++H2,b∈F1++((H0++H1++H2)++F2):=fun b q=>List.mem_append_right _ (List.mem_append_left _ q)
 have hnd':=List.nodup_cons.1 hnd
 have n1:=List.nodup_append.1 hnd'.2
 have n2:=List.nodup_append.1 n1.2.1
 have n3:=List.nodup_append.1 n2.1
 refine⟨u0,u1,u2,H0,H1,H2,fun m u hm=>(hc m u hm).1,hn,hp,hb,n3.2.1,fun q=>hnd'.1 (hin _ (List.mem_append_right _ q)),fun b q=>hin b (List.mem_append_right _ q),fun w2 S hS o2 hb2=>?_⟩
 have hfar:∀ b∈gk::(F1++((H0++H1++H2)++F2)),b∉H2→b<wr.heap.size→w2.heap[b]?=wr.heap[b]?:=fun b q hn' hb'=>o2.block b hb' (fun q'=>by
  rcases List.mem_append.1 q' with q'|q'
  ·exact hS b q' q
  ·exact hn' q')
 have hgb:=hfar gk (List.mem_cons_self ..) (fun q=>hnd'.1 (hin _ (List.mem_append_right _ q))) hl
 have hn2:OwnD w2 (.bytes l[j].name) [u0] H0:=OwnD.agree o2.size _ hn (fun b q=>hfar b (List.mem_cons_of_mem _ (hin b (by simp[q]))) (fun q'=>n3.2.2 b (List.mem_append_left _ q) b q' rfl) (OwnD.lt _ hn b q))
 have hp2:OwnD w2 (.list 3 (Pa.dats l[j].params)) [u1] H1:=OwnD.agree o2.size _ hp (fun b q=>hfar b (List.mem_cons_of_mem _ (hin b (by simp[q]))) (fun q'=>n3.2.2 b (List.mem_append_right _ q) b q' rfl) (OwnD.lt _ hp b q))
 have hd2:=Fu.own (x:=Fu.nb fs l[j]) hn2 hp2 hb2
 rw[show H0++(H1++H2)=H0++H1++H2 by simp[List.append_assoc]]at hd2
 have hgoal:=HK w2 (Fu.nb fs l[j]).dat _ rfl (fun m u hm=>?_) hd2 o2.size (fun y _=>cell_block hgb) (fun b q=>?_)
 ·rw[Fu.datsMap,← List.map_set,fuSofar_set _ _ _ hj,← Fu.datsMap]at hgoal
  exact hgoal
 ·rw[(cell_block hgb).1,(cell_block hgb).2]
  exact hc m u hm
 ·have hbm:b∈F1++((H0++H1++H2)++F2):=by rcases q with q|q;exact List.mem_append_left _ q;exact List.mem_append_right _ (List.mem_append_right _ q)
  refine hfar b (List.mem_cons_of_mem _ hbm) (fun q'=>?_) (OwnAll.lt _ hA b hbm)
  rcases q with q|q
  ·exact n1.2.2 b q b (List.mem_append_left _ (List.mem_append_right _ q')) rfl
  ·exact n2.2.2 b (List.mem_append_right _ q') b q rfl
end Go.Proofs.YtmdejbphoafjlaaGreatDoor
