/- My texts N3, N4 in one. -/
import Derived.Test.YtmdejbphoafjlaaGreatDoorHa
import Derived.Test.YtmdejbphoafjlaaGreatDoorGg
set_option maxHeartbeats 100000000
set_option maxRecDepth 100000
namespace Go.Proofs.YtmdejbphoafjlaaGreatDoor
open Go.RowKit Go.Maps
theorem allN {α:Type}{l:List α}{f:α→Bool}{j:Nat}(h:j<l.length) (hf:f l[j]=false):l.all f=false:=by
 rw[←Bool.not_eq_true,List.all_eq_true]
 intro ha
 rw[ha _ (List.getElem_mem h)]at hf
 cases hf
theorem allY {α:Type}{l:List α}{f:α→Bool}(h:∀ j (hj:j<l.length),f l[j]=true):l.all f=true:=by
 rw[List.all_eq_true]
 intro x hx
 obtain⟨j,hj,rfl⟩:=List.mem_iff_getElem.1 hx
 exact h j hj
theorem row_form {w:World}{base k n:Nat}{t:TypeId}{v:Value}{xs:List Value}(h:w.ownsRow base t k v n xs):∃ a cap,v=.slice a n cap:=by
 rcases h.2 with ⟨rfl,rfl⟩|⟨g,cap,cur,rfl,_⟩
 ·exact⟨_,_,rfl⟩
 ·exact⟨_,_,rfl⟩
theorem new_row (w:World) (cs:Array Value) (t:TypeId) {g:Nat}(hg:g=w.heap.size):∀ j x,cs.toList[j]?=some x→(w.alloc (.cells cs t)).cell? ((⟨g,0,none⟩:Addr).add j)=some x:=by
 intro j x h
 subst hg
 have h':cs[j]?=some x:=by simpa using h
 rw[Addr.add_lit,Nat.zero_add]
 have e:(w.alloc (.cells cs t)).heap[w.heap.size]?=some (.cells cs t):=(MapKept.heap_alloc w _).1
 unfold World.cell?
 simp only[e]
 exact h'
theorem Tryz.info41:(Tryz.prog.info? 41).map (fun i=>(i.zero,i.size,i.bytes))=some (some (.slice none 0 0),1,24):=by kernel_rfl
structure NmB (w0 w:World) (v:Value) (l:List (List Int)) (xs:List Value):Prop where
 lat:Later w0 w
 row:w.ownsRow w0.heap.size 41 1 v l.length xs
 txt:∀ j (hj:j<l.length),∃ u,xs[j]?=some u∧RdN w0 u l[j]
theorem NmB.nil (w:World):NmB w w (.slice none 0 0) [] []:=⟨Later.refl _,World.ownsRow_nil _ _ _ _,fun _ hj=>absurd hj (Nat.not_lt_zero _)⟩
theorem NmB.push {w0 w w1 w':World}{v v':Value}{l:List (List Int)}{xs:List Value}(h:NmB w0 w v l xs) {u:Value}{z:List Int}(hu:RdN w0 u z) (h1:Later w w1) (ho:w'.ownsRow w0.heap.size 41 1 v' (l.length+1) (xs++[u])) (hg:w1.grownBy w' v.ownBlock):NmB w0 w' v' (l++[z]) (xs++[u]):=by
 have hx:xs.length=l.length:=by rw[h.row.1,Nat.mul_one]
 refine⟨(h.lat.trans h1).grown hg (h.lat.trans h1).size (fun k hk=>(h.row.lt k hk).1),by rw[List.length_append];exact ho,fun j hj=>?_⟩
 rw[List.length_append,List.length_singleton]at hj
 rcases Nat.lt_or_ge j l.length with a|a
 ·obtain⟨u',e1,e2⟩:=h.txt j a
  exact⟨u',by rw[List.getElem?_append_left (by omega)];exact e1,by rw[List.getElem_append_left a];exact e2⟩
 ·have:j=l.length:=by omega
  subst this
  exact⟨u,by rw[List.getElem?_append_right (by omega),hx,Nat.sub_self];rfl,by rw[List.getElem_append_right (Nat.le_refl _)];simpa using hu⟩
theorem NmB.done {w0 w:World}{v:Value}{l:List (List Int)}{xs:List Value}(h:NmB w0 w v l xs):RdL w 1 v (nmD l):=by
 have hx:xs.length=l.length:=by rw[h.row.1,Nat.mul_one]
 rcases h.row.2 with ⟨rfl,e⟩|⟨g,cap,cur,rfl,h1,h2,h3,h4,h5,h6⟩
 ·refine⟨none,0,by rw[nmD_len,e],⟨by rw[nmD_len,e];exact Nat.le_refl _,by unfold maxLen;omega⟩,fun j hj=>?_⟩
  rw[nmD_len,e]at hj
  exact absurd hj (Nat.not_lt_zero _)
 ·refine⟨_,cap,by rw[nmD_len],⟨by rw[nmD_len];exact h3,h4⟩,fun j hj=>?_⟩
  have hj':j<l.length:=by rw[nmD_len]at hj;exact hj
  obtain⟨u,e1,e2⟩:=h.txt j hj'
  refine⟨g,0,[u],rfl,(h.row.lt g rfl).2,rfl,fun m x hm=>?_,?_⟩
  ·match m with
   | 0 =>
    have:u=x:=by simpa using hm
    rw[Nat.mul_one,Nat.zero_add,Nat.add_zero,h.row.cellAt j (by omega),e1,this]
   | m+1=>simp at hm
  ·have e:(nmD l)[j]=.bytes l[j]:=by simp[nmD]
   rw[e]
   exact RdN.iff.2 ⟨u,rfl,e2.later h.lat⟩
def paNames (l:List Pa):List (List Int):=l.map Pa.name
theorem pnames_any (v:Value) (l:List Pa) (w:World) (h:RdL w 3 v (Pa.dats l)) (hlen:l.length≤1000000) :
  Calls Tryz.prog 61 #[v] w fun e w'=>∃ u,e=.returned u∧RdL w' 1 u (nmD (paNames l))∧Later w w':=by
 obtain⟨a,cap,rfl,hl⟩:=Pa.slice h
 obtain⟨i0,hi,hz0,hz1,hz2⟩:=info_parts Tryz.info41
 go_enter Tryz.func61,Tryz.ntmps61
 go_wp2_with fail
 go_loopw [3,8] (fun r i wr=>∃ (j:Nat) (xs:List Value) (rv:Value),rv=r∧i=.int .i64 (j:Int)∧j≤l.length∧NmB w wr rv (paNames (l.take j)) xs) (fun _ i _=>l.length - (intOf i).toNat)
 case atStart=>exact⟨0,[],_,rfl,rfl,Nat.zero_le _,NmB.nil w⟩
 case round =>
  obtain⟨j,xs,rv,rfl,rfl,hj,hB⟩:=hrel
  by_cases hlt:j<l.length
  ·obtain⟨g,off,v0,rfl,hgs,c0,c1,c2,r0⟩:=Pa.elem h j hlt
   have i1:(j:Int)<(l.length:Int):=by omega
   have c0:wr.cell? ⟨g,off+j*3,none⟩=some v0:=by rw[Below.cell hB.lat (p:=⟨g,off+j*3,none⟩) hgs];exact c0
   have c1:wr.cell? ⟨g,off+j*3+1,none⟩=some (.int .i64 l[j].tk):=by rw[Below.cell hB.lat (p:=⟨g,off+j*3+1,none⟩) hgs];exact c1
   have c2:wr.cell? ⟨g,off+j*3+2,none⟩=some (.int .i64 l[j].tn):=by rw[Below.cell hB.lat (p:=⟨g,off+j*3+2,none⟩) hgs];exact c2
   have hlx:(paNames (l.take j)).length=j:=by unfold paNames;rw[List.length_map,List.length_take];omega
   have hrow:=hB.row
   rw[hlx]at hrow
   obtain⟨ra,rc,hra⟩:=row_form hrow
   have HP:Hid (∀ w1 w' v',Later wr w1→w'.ownsRow w.heap.size 41 1 v' (j+1) (xs++[v0])→w1.grownBy w' rv.ownBlock→NmB w w' v' (paNames (l.take (j+1))) (xs++[v0])):=fun w1 w' v' h1 ho hg=>by
    have:=hB.push r0 h1 (v':=v') (by rw[hlx];exact ho) hg
    have e:paNames (l.take (j+1))=paNames (l.take j)++[l[j].name]:=by unfold paNames;rw[List.take_succ_eq_append_getElem hlt,List.map_append];rfl
    rw[e]
    exact this
   have hsz:=hB.lat.size
   obtain⟨y0,q0,rfl,_⟩:=r0.slice
   generalize l[j].tk=z_tk at *
   generalize l[j].tn=z_tn at *
   generalize l[j].name.length=z_len at *
   clear h hB r0 hlx
   subst hra
   go_wp2_with (at_builtin;refine wpList_append_own _ rfl _ _ 52 rfl w.heap.size 41 i0 (.slice none 0 0) 1 24 Tryz.underlying52 hi hz0 hz1 hz2 rfl (by decide) _ _ _ rfl ((hrow.alloc _).alloc _) _ 1 1 [.slice y0 z_len q0] rfl rfl (new_row _ _ _ (by simp)) (by simp[Value.oneCell']) (by unfold maxLen;omega) (by omega) (by simp;omega) ?_;intro v3 w3 o3 g3 _;have HQ:=HP.out _ _ _ (later2 _ _ _) o3 g3;obtain⟨a3,p3,hv3⟩:=row_form o3;rw[hv3]at HQ ⊢)
   go_roundw
   case rel=>exact⟨j+1,_,_,rfl,by go_num,by omega,HQ⟩
   case measure=>simp[intOf];omega
  ·have i1:¬ (j:Int)<(l.length:Int):=by omega
   have i2:decide ((j:Int)<(l.length:Int))=false:=decide_eq_false i1
   have hjj:j=l.length:=by omega
   have HR:Hid (RdL wr 1 rv (nmD (paNames l))):=by have:=hB.done;rw[hjj,List.take_length]at this;exact this
   have lr:=hB.lat
   clear h hB
   go_wp2_with fail
   go_ret
   exact⟨_,rfl,HR.out,lr⟩
theorem unlike_any (v:Value) (l:List Sc) (w:World) (h:RdL w 2 v (Sc.dats l)) (hlen:∀ s∈l,s.fields.length≤1000000) (hN:∀ s∈l,∀ p∈s.fields,Nm p.name) :
  Calls Tryz.prog 59 #[v] w fun e w'=>e=.returned (.bool (l.all fun s=>uniq (paNames s.fields)))∧Later w w':=by
 obtain⟨a,cap,rfl,hl⟩:=Sc.slice h
 go_enter Tryz.func59,Tryz.ntmps59
 go_wp2_with fail
 go_loopw [9] (fun i wr=>∃ (j:Nat),i=.int .i64 (j:Int)∧j≤l.length∧Later w wr∧Hid (∀ i (hi:i<l.length),i<j→uniq (paNames l[i].fields)=true)) (fun i _=>l.length - (intOf i).toNat)
 case atStart=>exact⟨0,rfl,Nat.zero_le _,Later.refl _,fun i _ hj=>absurd hj (Nat.not_lt_zero _)⟩
 case round =>
  obtain⟨j,rfl,hj,lr,HA⟩:=hrel
  by_cases hlt:j<l.length
  ·obtain⟨g,off,v0,v1,rfl,hgs,c0,c1,r0,r1⟩:=Sc.elem (RdL.later lr h) j hlt
   have i1:(j:Int)<(l.length:Int):=by omega
   have hmem:=List.getElem_mem hlt
   have hP:=fun w' (ll:Later wr w')=>pnames_any v1 l[j].fields w' (RdL.later ll r1) (hlen _ hmem)
   have hQ:=fun w' u (hu:RdL w' 1 u (nmD (paNames l[j].fields)))=>places_any u (paNames l[j].fields) w' hu (fun z hz=>by obtain⟨p,hp,rfl⟩:=List.mem_map.1 hz;exact hN _ hmem p hp) (by unfold paNames;rw[List.length_map];exact hlen _ hmem)
   have HB:Hid (uniq (paNames l[j].fields)=false→l.all (fun s=>uniq (paNames s.fields))=false):=fun hf=>allN hlt hf
   have HG:Hid (uniq (paNames l[j].fields)=true→∀ i (hi:i<l.length),i<j+1→uniq (paNames l[i].fields)=true):=fun hf i hi hij=>by
    rcases Nat.lt_or_ge i j with a|a
    ·exact HA.out i hi a
    ·have:i=j:=by omega
     subst this
     exact hf
   obtain⟨y0,q0,rfl,_⟩:=r0.slice
   obtain⟨y1,q1,rfl,_⟩:=Pa.slice r1
   clear r0 r1 HA h hmem
   go_wp2_with fail
   refine (hP _ (later1 _ _)).mono ?_
   rintro e w1 ⟨u,rfl,hu,l1⟩
   have hQ1:=hQ w1 u hu
   obtain⟨ua,uc,rfl,_⟩:=nm_slice hu
   clear hP hQ hu
   generalize uniq (paNames l[j].fields)=ub at *
   go_wp2_with fail
   refine hQ1.mono ?_
   rintro e w2 ⟨rfl,_,l2⟩
   have L2:Later w w2:=lr.trans (((later1 _ _).trans l1).trans l2)
   cases ub with
   | false =>
    have hb:=HB.out rfl
    clear HB HG hQ1
    go_wp2_with fail
    go_ret
    exact⟨ret_bool hb.symm,L2⟩
   | true =>
    have hg:Hid _:=HG.out rfl
    clear HB HG hQ1
    go_wp2_with fail
    go_roundw
    case rel=>exact⟨j+1,by go_num,by omega,L2,hg⟩
    case measure=>simp[intOf];omega
  ·have i1:¬ (j:Int)<(l.length:Int):=by omega
   have i2:decide ((j:Int)<(l.length:Int))=false:=decide_eq_false i1
   have hjj:j=l.length:=by omega
   have HD:Hid (l.all (fun s=>uniq (paNames s.fields))=true):=allY fun i hi=>HA.out i hi (by omega)
   clear h HA
   go_wp2_with fail
   go_ret
   exact⟨ret_bool HD.out.symm,lr⟩
theorem plcs_val (l:List (List Int)):∀ j z v,plcs l j z=some v→∃ i,i<j∧v=(i:Int)∧l.getD i []=z
 | j+1,z,v,h=>by
  rw[plcs,upd]at h
  by_cases hz:z=l.getD j []
  ·rw[if_pos hz]at h
   cases h
   exact⟨j,by omega,rfl,hz.symm⟩
  ·rw[if_neg hz]at h
   obtain⟨i,h1,h2,h3⟩:=plcs_val l j z v h
   exact⟨i,by omega,h2,h3⟩
def mainL:List Int:=[109,97,105,110]
theorem main_nm:Nm mainL:=⟨isB_of (by decide),by decide⟩
def fuNames (l:List Fu):List (List Int):=l.map Fu.name
theorem fuNames_len (l:List Fu):(fuNames l).length=l.length:=by unfold fuNames;rw[List.length_map]
def beginB (l:List Fu) (m:Int):Bool:=match l[m.toNat]? with
 | some f=>decide (f.params.length=0)&&(f.rk==0)
 | none=>false
def fplB (l:List Fu):Bool:=uniq (fuNames l)&&match plc (fuNames l) mainL with
 | some m=>beginB l m
 | none=>false
def FplP (l:List Fu) (w:World) (e:Ending) (w':World):Prop:=Later w w' ∧
 ((∃ b,e=.returned (.tuple #[.map (some b),.bool (fplB l)])∧Mp w' b l.length (plc (fuNames l))∧w.heap.size≤b)∨(fplB l=false∧e=.returned (.tuple #[.map none,.bool false])))
theorem main_key:Value.string { data:=#[109,97,105,110] }=.string (strOfNums mainL):=by
 congr 1
theorem fplaces_any (l:List Fu) (v0 v1:Value) (w:World) (h0:∃ a n c,v0=.slice a n c) (h:RdL w 5 v1 (Fu.dats l)) (hN:∀ f∈l,Nm f.name) (hlen:l.length≤1000000) :
  Calls Tryz.prog 58 #[.agg #[v0,v1]] w (FplP l w):=by
 obtain⟨sa,sn,sc,rfl⟩:=h0
 obtain⟨a,cap,rfl,hl⟩:=Fu.slice h
 obtain⟨i0,hi,hz0,hz1,hz2⟩:=info_parts Tryz.info41
 obtain⟨w1,hw1⟩:∃ w1,Hid (w1=w.alloc (.cells #[.slice sa sn sc,.slice a l.length cap] 31)):=⟨_,rfl⟩
 have L1:Later w w1:=by rw[hw1.out];exact later1 _ _
 have s1:w.heap.size<w1.heap.size:=by rw[hw1.out];simp
 have b1:w1.cell? ⟨w.heap.size,1,none⟩=some (.slice a l.length cap):=by rw[hw1.out];simp
 have hR:=RdL.later L1 h
 have HF:Hid (∀ w' e,Later w w'→fplB l=false→e=.returned (.tuple #[.map none,.bool false])→FplP l w e w'):=fun w' e h1 h2 h3=>⟨h1,.inr ⟨h2,h3⟩⟩
 have HT:Hid (∀ w' e b,Later w w'→e=.returned (.tuple #[.map (some b),.bool (fplB l)])→Mp w' b l.length (plc (fuNames l))→w.heap.size≤b→FplP l w e w'):=fun w' e b h1 h2 h3 h4=>⟨h1,.inl ⟨b,h2,h3,h4⟩⟩
 generalize hQ:FplP l w=Q at *
 clear hQ
 go_enter Tryz.func58,Tryz.ntmps58
 go_wp2_with fail
 rw[←hw1.out]
 go_loopw [4,15] (fun r i wr=>∃ (j:Nat) (xs:List Value) (rv:Value),rv=r∧i=.int .i64 (j:Int)∧j≤l.length∧NmB w1 wr rv (fuNames (l.take j)) xs) (fun _ i _=>l.length - (intOf i).toNat)
 case atStart=>exact⟨0,[],_,rfl,rfl,Nat.zero_le _,NmB.nil w1⟩
 case round =>
  obtain⟨j,xs,rv,rfl,rfl,hj,hB⟩:=hrel
  by_cases hlt:j<l.length
  ·obtain⟨g,off,u0,u1,u2,rfl,hgs,c0,c1,c2,c3,c4,r0,r1,r2⟩:=Fu.elem hR j hlt
   have i1:(j:Int)<(l.length:Int):=by omega
   have lb:=hB.lat
   have c0:wr.cell? ⟨g,off+j*5,none⟩=some u0:=by rw[Below.cell lb (p:=⟨g,off+j*5,none⟩) hgs];exact c0
   have c1:wr.cell? ⟨g,off+j*5+1,none⟩=some u1:=by rw[Below.cell lb (p:=⟨g,off+j*5+1,none⟩) hgs];exact c1
   have c2:wr.cell? ⟨g,off+j*5+2,none⟩=some (.int .i64 l[j].rk):=by rw[Below.cell lb (p:=⟨g,off+j*5+2,none⟩) hgs];exact c2
   have c3:wr.cell? ⟨g,off+j*5+3,none⟩=some (.int .i64 l[j].rn):=by rw[Below.cell lb (p:=⟨g,off+j*5+3,none⟩) hgs];exact c3
   have c4:wr.cell? ⟨g,off+j*5+4,none⟩=some u2:=by rw[Below.cell lb (p:=⟨g,off+j*5+4,none⟩) hgs];exact c4
   have hlx:(fuNames (l.take j)).length=j:=by rw[fuNames_len,List.length_take];omega
   have hrow:=hB.row
   rw[hlx]at hrow
   obtain⟨ra,rc,hra⟩:=row_form hrow
   have HP:Hid (∀ w2 w' v',Later wr w2→w'.ownsRow w1.heap.size 41 1 v' (j+1) (xs++[u0])→w2.grownBy w' rv.ownBlock→NmB w1 w' v' (fuNames (l.take (j+1))) (xs++[u0])):=fun w2 w' v' h1 ho hg=>by
    have:=hB.push r0 h1 (v':=v') (by rw[hlx];exact ho) hg
    have e:fuNames (l.take (j+1))=fuNames (l.take j)++[l[j].name]:=by unfold fuNames;rw[List.take_succ_eq_append_getElem hlt,List.map_append];rfl
    rw[e]
    exact this
   have hsz:=hB.lat.size
   obtain⟨y0,q0,rfl,_⟩:=r0.slice
   obtain⟨y1,q1,rfl,_⟩:=Pa.slice r1
   obtain⟨y2,q2,rfl,_⟩:=St.slice r2
   generalize l[j].rk=z_rk at *
   generalize l[j].rn=z_rn at *
   generalize l[j].name.length=z_len at *
   generalize l[j].params.length=z_pl at *
   generalize l[j].body.length=z_bl at *
   clear h hB r0 r1 r2 hR hlx lb
   subst hra
   go_wp2_with (at_builtin;refine wpList_append_own _ rfl _ _ 52 rfl w1.heap.size 41 i0 (.slice none 0 0) 1 24 Tryz.underlying52 hi hz0 hz1 hz2 rfl (by decide) _ _ _ rfl ((hrow.alloc _).alloc _) _ 1 1 [.slice y0 z_len q0] rfl rfl (new_row _ _ _ (by simp)) (by simp[Value.oneCell']) (by unfold maxLen;omega) (by omega) (by simp;omega) ?_;intro v3 w3 o3 g3 _;have HQ:=HP.out _ _ _ (later2 _ _ _) o3 g3;obtain⟨a3,p3,hv3⟩:=row_form o3;rw[hv3]at HQ ⊢)
   go_roundw
   case rel=>exact⟨j+1,_,_,rfl,by go_num,by omega,HQ⟩
   case measure=>simp[intOf];omega
  ·have i1:¬ (j:Int)<(l.length:Int):=by omega
   have i2:decide ((j:Int)<(l.length:Int))=false:=decide_eq_false i1
   have hjj:j=l.length:=by omega
   have HR:RdL wr 1 rv (nmD (fuNames l)):=by have:=hB.done;rw[hjj,List.take_length]at this;exact this
   have lr:=hB.lat
   have hP:=places_any rv (fuNames l) wr HR (fun z hz=>by obtain⟨f,hf,rfl⟩:=List.mem_map.1 hz;exact hN f hf) (by rw[fuNames_len];exact hlen)
   obtain⟨ra,rc,hra,_⟩:=nm_slice HR
   have hR2:=RdL.later lr hR
   have b2:wr.cell? ⟨w.heap.size,1,none⟩=some (.slice a l.length cap):=by rw[Below.cell lr (p:=⟨w.heap.size,1,none⟩) s1];exact b1
   have s2:w.heap.size<wr.heap.size:=Nat.lt_of_lt_of_le s1 lr.size
   have LR:=L1.trans lr
   clear h hB hR HR hN hi hz0 hz1 hz2 b1
   subst hra
   go_wp2_with fail
   refine hP.mono ?_
   rintro e w2 ⟨rfl,hM,l2⟩
   have L2:=LR.trans l2
   have b3:w2.cell? ⟨w.heap.size,1,none⟩=some (.slice a l.length cap):=by rw[Below.cell l2 (p:=⟨w.heap.size,1,none⟩) s2];exact b2
   have hlk:=hM.look main_nm
   rw[←main_key]at hlk
   have hR3:=RdL.later l2 hR2
   cases hu:uniq (fuNames l) with
   | false =>
    have HA:=HF.out w2 _ L2 (by unfold fplB;rw[hu];rfl) rfl
    clear HF HT hM hR2 hR3 hP
    generalize (plc (fuNames l) mainL)=pm at *
    go_wp2_with fail
    exact HA
   | true =>
    have hcn:cnt (fuNames l) (fuNames l).length=l.length:=by have:=hu;unfold uniq at this;rw[decide_eq_true_eq,fuNames_len]at this;rw[fuNames_len];exact this
    rw[hcn]at hM
    cases hm:plc (fuNames l) mainL with
    | none =>
     have HA:=HF.out w2 _ L2 (by unfold fplB;rw[hu,hm];rfl) rfl
     rw[hm]at hlk
     clear HF HT hM hR2 hR3 hP
     go_wp2_with fail
     exact HA
    | some m =>
     rw[hm]at hlk
     obtain⟨i,hi1,rfl,_⟩:=plcs_val _ _ _ _ hm
     rw[fuNames_len]at hi1
     have i3:(i:Int)<(l.length:Int):=by omega
     obtain⟨g,off,u0,u1,u2,rfl,hgs,c0,c1,c2,c3,c4,r0,r1,r2⟩:=Fu.elem hR3 i hi1
     have hfb:fplB l=(decide (l[i].params.length=0)&&(l[i].rk==0)):=by
      unfold fplB beginB
      rw[hu,hm]
      simp[hi1]
     have HA:Hid (∀ b w',Later w2 w'→b=(decide (l[i].params.length=0)&&(l[i].rk==0))→Q (.returned (.tuple #[.map (some wr.heap.size),.bool b])) w'):=fun b w' ll hb=>HT.out w' _ wr.heap.size (L2.trans ll) (by rw[hfb,hb]) (hM.later ll) LR.size
     obtain⟨y0,q0,rfl,_⟩:=r0.slice
     obtain⟨y1,q1,rfl,_⟩:=Pa.slice r1
     obtain⟨y2,q2,rfl,_⟩:=St.slice r2
     clear HF HT hM hR2 hR3 hP r0 r1 r2 hfb hcn
     generalize l[i].rk=z_rk at *
     generalize l[i].rn=z_rn at *
     generalize l[i].name.length=z_len at *
     generalize l[i].params.length=z_pl at *
     generalize l[i].body.length=z_bl at *
     by_cases hp:z_pl=0
     ·subst hp
      have HB:Hid (∀ w',Later w2 w'→Q (.returned (.tuple #[.map (some wr.heap.size),.bool (z_rk==0)])) w'):=fun w' ll=>HA.out (z_rk==0) w' ll (by simp)
      clear HA
      go_wp2_with fail
      go_quiet (fail)
      go_wp2_with fail
      exact HB.out _ (by first|exact later1 _ _|exact (later1 _ _).trans (later_drewN (Later.refl _) _))
     ·have hp':((z_pl:Int)==0)=false:=by simp;omega
      have HB:Hid (∀ w',Later w2 w'→Q (.returned (.tuple #[.map (some wr.heap.size),.bool false])) w'):=fun w' ll=>HA.out false w' ll (by simp[hp])
      clear HA
      go_wp2_with fail
      go_quiet (fail)
      go_wp2_with fail
      exact HB.out _ (by first|exact later1 _ _|exact (later1 _ _).trans (later_drewN (Later.refl _) _))
end Go.Proofs.YtmdejbphoafjlaaGreatDoor
