/- My texts S1, S2, S3 in one. -/
import Derived.Test.YtmdejbphoafjlaaGreatDoorHc
import Derived.Test.YtmdejbphoafjlaaGreatDoorHd
import Derived.Test.YtmdejbphoafjlaaGreatDoorGh
import Derived.BigQuiet
set_option maxHeartbeats 100000000
set_option maxRecDepth 100000
namespace Go.Proofs.YtmdejbphoafjlaaGreatDoor
open Go.RowKit Go.Maps
def fnd (l:List (List Int)) (z:List Int):Int:=(plc l z).getD (-1)
theorem plcs_last (l:List (List Int)) (z:List Int) (i:Nat) (hi:i<l.length) (h0:l[i]=z):∀ j,i<j→j≤l.length→(∀ k (hk:k<l.length),i<k→k<j→l[k]≠z)→plcs l j z=some (i:Int)
 | j+1,hij,hj,hn=>by
  have e:l.getD j []=l[j]:=by rw[List.getD_eq_getElem?_getD,List.getElem?_eq_getElem (by omega)];rfl
  rw[plcs,upd,e]
  by_cases hz:z=l[j]
  ·rw[if_pos hz]
   have:i=j:=by
    rcases Nat.lt_or_ge i j with q|q
    ·exact absurd hz.symm (hn j (by omega) q (by omega))
    ·omega
   rw[this]
  ·rw[if_neg hz]
   have:i≠j:=fun q=>hz (by subst q;exact h0.symm)
   exact plcs_last l z i hi h0 j (by omega) (by omega) (fun k hk h1 h2=>hn k hk h1 (by omega))
theorem fnd_at {l:List (List Int)}{z:List Int}{i:Nat}(hi:i<l.length) (h0:l[i]=z) (hn:∀ k (hk:k<l.length),i<k→l[k]≠z):fnd l z=(i:Int):=by
 unfold fnd plc
 rw[plcs_last l z i hi h0 _ hi (Nat.le_refl _) (fun k hk h1 _=>hn k hk h1)]
 rfl
theorem fnd_none {l:List (List Int)}{z:List Int}(h:∀ k (hk:k<l.length),l[k]≠z):fnd l z=-1:=by
 unfold fnd
 rw[plc_none (fun hm=>by obtain⟨k,hk,e⟩:=List.mem_iff_getElem.1 hm;exact h k hk e)]
 rfl
theorem fnd_neg (l:List (List Int)) (z:List Int):fnd l z<0↔z∉l:=by
 constructor
 ·intro h hm
  have:=(plcs_some l l.length z (Nat.le_refl _)).2 (by rw[List.take_length];exact hm)
  unfold fnd plc at h
  cases e:plcs l l.length z with
  | none=>rw[e]at this;cases this
  | some v =>
   obtain⟨i,_,rfl,_⟩:=plcs_val _ _ _ _ e
   rw[e]at h
   simp at h
   omega
 ·intro h
  unfold fnd
  rw[plc_none h]
  decide
theorem sfind_any (v u:Value) (l:List (List Int)) (z:List Int) (w:World) (h:RdL w 1 v (nmD l)) (hz:RdN w u z) (hlen:l.length≤1000000) :
  Calls Tryz.prog 53 #[v,u] w fun e w'=>e=.returned (.int .i64 (fnd l z))∧∃ n,w'=w.drewN n:=by
 obtain⟨a,cap,rfl,hl⟩:=nm_slice h
 have hcu:=fun n=>conv_str hz.rd (w.drewN n) (later_drewN (Later.refl _) _)
 have hzb:=hz.rd.isB
 obtain⟨ua,uc,rfl,_⟩:=hz.slice
 go_enter Tryz.func53,Tryz.ntmps53
 go_wp2_with fail
 go_loopw [5] (fun i wr=>∃ (j n:Nat),i=.int .i64 ((j:Int) - 1)∧j≤l.length∧wr=w.drewN n∧Hid (∀ k (hk:k<l.length),j≤k→l[k]≠z)) (fun i _=>(intOf i+1).toNat)
 case atStart=>exact⟨l.length,0,by go_num,Nat.le_refl _,rfl,fun k hk hj=>absurd hk (by omega)⟩
 case round =>
  obtain⟨j,n,rfl,hj,rfl,HA⟩:=hrel
  rcases Nat.eq_zero_or_pos j with h0|h0
  ·subst h0
   have HD:Hid (fnd l z=-1):=fnd_none fun k hk=>HA.out k hk (Nat.zero_le _)
   rw[show ((0:Nat):Int) - 1=-1 from rfl]
   clear h hcu
   go_wp2_with fail
   go_ret
   exact⟨by rw[HD.out];rfl,n,rfl⟩
  ·obtain⟨i,rfl⟩:∃ i,j=i+1:=⟨j - 1,by omega⟩
   have hlt:i<l.length:=by omega
   obtain⟨g,off,v0,rfl,hgs,c0,r0⟩:=nm_elem h i hlt
   have i1:(0:Int)≤(i:Int):=by omega
   have i2:(i:Int)<(l.length:Int):=by omega
   have i3:((i+1:Nat):Int) - 1=(i:Int):=by omega
   rw[i3]
   have hcv:=fun m=>conv_str r0.rd (w.drewN m) (later_drewN (Later.refl _) _)
   have hcu1:=fun m=>conv_str hz.rd (w.drewN m) (later_drewN (Later.refl _) _)
   have hst:=str_inj r0.rd.isB hzb
   have HN:Hid (l[i]≠z→∀ k (hk:k<l.length),i≤k→l[k]≠z):=fun hne k hk hik=>by
    rcases Nat.lt_or_ge i k with q|q
    ·exact HA.out k hk (by omega)
    ·have:k=i:=by omega
     subst this
     exact hne
   have HF:Hid (l[i]=z→fnd l z=(i:Int)):=fun he=>fnd_at hlt he (fun k hk hik=>HA.out k hk (by omega))
   obtain⟨y0,q0,rfl,_⟩:=r0.slice
   clear h HA i3 hcu
   by_cases he:l[i]=z
   ·rw[decide_eq_true he]at hst
    have hf:Hid _:=HF.out he
    clear HN HF he
    go_wp2_with fail
    go_quiet (fail)
    go_wp2_with fail
    go_ret
    exact⟨by rw[hf.out];rfl,_,by first|rfl|exact World.drewN_drewN _ _ _⟩
   ·rw[decide_eq_false he]at hst
    have hn:Hid _:=HN.out he
    clear HN HF he
    go_wp2_with fail
    go_quiet (fail)
    go_wp2_with fail
    go_roundw
    case rel=>exact⟨i,_,by go_num,by omega,by first|rfl|exact World.drewN_drewN _ _ _,hn⟩
    case measure=>simp[intOf]
def fstI (l:List (List Int)) (z:List Int):Int:=match l.findIdx? (fun y=>decide (y=z)) with|some i=>(i:Int)|none=>-1
theorem fstI_at {l:List (List Int)}{z:List Int}{i:Nat}(hi:i<l.length) (h0:l[i]=z) (hn:∀ k (hk:k<l.length),k<i→l[k]≠z):fstI l z=(i:Int):=by
 unfold fstI
 have:l.findIdx? (fun y=>decide (y=z))=some i:=by
  rw[List.findIdx?_eq_some_iff_getElem]
  exact⟨hi,decide_eq_true h0,fun j hj=>by simpa using hn j (by omega) hj⟩
 rw[this]
theorem fstI_none {l:List (List Int)}{z:List Int}(h:∀ k (hk:k<l.length),l[k]≠z):fstI l z=-1:=by
 unfold fstI
 have:l.findIdx? (fun y=>decide (y=z))=none:=by
  rw[List.findIdx?_eq_none_iff]
  intro y hy
  obtain⟨k,hk,rfl⟩:=List.mem_iff_getElem.1 hy
  exact decide_eq_false (h k hk)
 rw[this]
theorem fuNames_at (l:List Fu) {i:Nat}(h:i<l.length) (h':i<(fuNames l).length):(fuNames l)[i]=l[i].name:=by simp[fuNames]
theorem sfunc_any (l:List Fu) (v0 v1 u:Value) (z:List Int) (w:World) (h0:∃ a n c,v0=.slice a n c) (h:RdL w 5 v1 (Fu.dats l)) (hz:RdN w u z) (hlen:l.length≤1000000) :
  Calls Tryz.prog 24 #[.agg #[v0,v1],u] w fun e w'=>e=.returned (.int .i64 (fstI (fuNames l) z))∧Later w w':=by
 obtain⟨sa,sn,sc,rfl⟩:=h0
 obtain⟨a,cap,rfl,hl⟩:=Fu.slice h
 have hzb:=hz.rd.isB
 have hcu:=fun w' (ll:Later w w')=>conv_str hz.rd w' ll
 obtain⟨ua,uc,rfl,_⟩:=hz.slice
 obtain⟨w1,hw1⟩:∃ w1,Hid (w1=w.alloc (.cells #[.slice sa sn sc,.slice a l.length cap] 31)):=⟨_,rfl⟩
 have L1:Later w w1:=by rw[hw1.out];exact later1 _ _
 have s1:w.heap.size<w1.heap.size:=by rw[hw1.out];simp
 have b1:w1.cell? ⟨w.heap.size,1,none⟩=some (.slice a l.length cap):=by rw[hw1.out];simp
 have hR:=RdL.later L1 h
 go_enter Tryz.func24,Tryz.ntmps24
 go_wp2_with fail
 rw[←hw1.out]
 go_loopw [5] (fun i wr=>∃ (j n:Nat),i=.int .i64 (j:Int)∧j≤l.length∧wr=w1.drewN n∧Hid (∀ k (hk:k<l.length),k<j→l[k].name≠z)) (fun i _=>l.length - (intOf i).toNat)
 case atStart=>exact⟨0,0,rfl,Nat.zero_le _,rfl,fun k hk hj=>absurd hj (by omega)⟩
 case round =>
  obtain⟨j,n,rfl,hj,rfl,HA⟩:=hrel
  have lr:Later w1 (w1.drewN n):=later_drewN (Later.refl _) _
  have b2:(w1.drewN n).cell? ⟨w.heap.size,1,none⟩=some (.slice a l.length cap):=b1
  by_cases hlt:j<l.length
  ·obtain⟨g,off,u0,u1,u2,rfl,hgs,c0,c1,c2,c3,c4,r0,r1,r2⟩:=Fu.elem hR j hlt
   have i1:(j:Int)<(l.length:Int):=by omega
   have hcv:=fun m=>conv_str r0.rd (w1.drewN m) (later_drewN (Later.refl _) _)
   have hcu1:=fun m=>hcu (w1.drewN m) (L1.trans (later_drewN (Later.refl _) _))
   have hst:=str_inj r0.rd.isB hzb
   have HN:Hid (l[j].name≠z→∀ k (hk:k<l.length),k<j+1→l[k].name≠z):=fun hne k hk hik=>by
    rcases Nat.lt_or_ge k j with q|q
    ·exact HA.out k hk q
    ·have:k=j:=by omega
     subst this
     exact hne
   have HF:Hid (l[j].name=z→fstI (fuNames l) z=(j:Int)):=fun he=>fstI_at (by rw[fuNames_len];exact hlt) (by rw[fuNames_at l hlt];exact he) (fun k hk hik=>by rw[fuNames_len]at hk;rw[fuNames_at l hk];exact HA.out k hk hik)
   obtain⟨y0,q0,rfl,_⟩:=r0.slice
   clear h HA hR r1 r2 c1 c2 c3 c4 hcu b2
   by_cases he:l[j].name=z
   ·rw[decide_eq_true he]at hst
    have hf:Hid _:=HF.out he
    clear HN HF he
    go_wp2_with fail
    go_quiet (fail)
    go_wp2_with fail
    go_ret
    exact⟨by rw[hf.out];rfl,L1.trans (later_drewN lr _)⟩
   ·rw[decide_eq_false he]at hst
    have hn:Hid _:=HN.out he
    clear HN HF he
    go_wp2_with fail
    go_quiet (fail)
    go_wp2_with fail
    go_roundw
    case rel=>exact⟨j+1,_,by go_num,by omega,by first|rfl|exact World.drewN_drewN _ _ _,hn⟩
    case measure=>simp[intOf];omega
  ·have i1:¬ (j:Int)<(l.length:Int):=by omega
   have i2:decide ((j:Int)<(l.length:Int))=false:=decide_eq_false i1
   have HD:Hid (fstI (fuNames l) z=-1):=fstI_none fun k hk=>by rw[fuNames_len]at hk;rw[fuNames_at l hk];exact HA.out k hk (by omega)
   clear h HA hR b1
   go_wp2_with fail
   go_ret
   exact⟨by rw[HD.out];rfl,L1.trans lr⟩
theorem paNames_at (l:List Pa) {i:Nat}(h:i<l.length) (h':i<(paNames l).length):(paNames l)[i]=l[i].name:=by simp[paNames]
theorem uniq_no {l:List (List Int)}{i k:Nat}(hi:i<l.length) (hk:k<i) (h:l[i]=l[k]'(by omega)):uniq l=false:=by
 rw[←Bool.not_eq_true,uniq_iff]
 intro hn
 have:=(List.getElem_inj hn).1 h
 omega
theorem uniq_yes {l:List (List Int)}(h:∀ i (hi:i<l.length) k (hk:k<i),l[i]≠l[k]'(by omega)):uniq l=true:=by
 rw[uniq_iff,List.nodup_iff_pairwise_ne,List.pairwise_iff_getElem]
 intro i j hi hj hij
 exact (h j hj i hij).symm
theorem pan_len (l:List Pa):(paNames l).length=l.length:=by unfold paNames;rw[List.length_map]
theorem upa_yes (l:List Pa) (h:∀ i (hi:i<l.length) k (hk:k<i),l[i].name≠(l[k]'(by omega)).name):uniq (paNames l)=true:=by
 have hpl:=pan_len l
 exact uniq_yes fun i hi k hk=>by rw[paNames_at l (by omega),paNames_at l (by omega)];exact h i (by omega) k hk
theorem upa_no (l:List Pa) (i:Nat) (hi:i<l.length) (k:Nat) (hk:k<i) (h:l[i].name=(l[k]'(by omega)).name):uniq (paNames l)=false:=by
 have hpl:=pan_len l
 exact uniq_no (i:=i) (k:=k) (by omega) hk (by rw[paNames_at l (by omega),paNames_at l (by omega)];exact h)
theorem sunlike_any (v:Value) (l:List Pa) (w:World) (h:RdL w 3 v (Pa.dats l)) (hlen:l.length≤1000000) :
  Calls Tryz.prog 23 #[v] w fun e w'=>e=.returned (.bool (uniq (paNames l)))∧Later w w':=by
 obtain⟨a,cap,rfl,hl⟩:=Pa.slice h
 have HY:Hid ((∀ i (hi:i<l.length) k (hk:k<i),l[i].name≠(l[k]'(by omega)).name)→uniq (paNames l)=true):=upa_yes l
 have HN:Hid (∀ i (hi:i<l.length) k (hk:k<i),l[i].name=(l[k]'(by omega)).name→uniq (paNames l)=false):=upa_no l
 go_enter Tryz.func23,Tryz.ntmps23
 go_wp2_with fail
 go_loopw [3] (fun i wr=>∃ (j n:Nat),i=.int .i64 (j:Int)∧j≤l.length∧wr=w.drewN n∧Hid (∀ i (hi:i<l.length) k (hk:k<i),i<j→l[i].name≠(l[k]'(by omega)).name)) (fun i _=>l.length - (intOf i).toNat)
 case atStart=>exact⟨0,0,rfl,Nat.zero_le _,rfl,fun i _ _ _ hj=>absurd hj (Nat.not_lt_zero _)⟩
 case round =>
  obtain⟨j,n,rfl,hj,rfl,HA⟩:=hrel
  by_cases hlt:j<l.length
  ·have i1:(j:Int)<(l.length:Int):=by omega
   go_wp2_with fail
   generalize hwo:w.drewN n=wo at *
   have HW:Hid (wo=w.drewN n):=hwo.symm
   clear hwo
   go_loopw [4] (fun i wr=>∃ (k m:Nat),i=.int .i64 (k:Int)∧k≤j∧wr=w.drewN m∧Hid (∀ i (hi:i<j),i<k→l[j].name≠(l[i]'(by omega)).name)) (fun i _=>j - (intOf i).toNat)
   case atStart=>exact⟨0,n,rfl,Nat.zero_le _,HW.out,fun i _ hk=>absurd hk (Nat.not_lt_zero _)⟩
   case round =>
    obtain⟨k,m,rfl,hk,rfl,HB⟩:=hrel
    by_cases hkj:k<j
    ·have i2:(k:Int)<(j:Int):=by omega
     have i3:(k:Int)<(l.length:Int):=by omega
     obtain⟨g,off,v0,e0,hgs,c0,c1,c2,r0⟩:=Pa.elem h j hlt
     obtain⟨g',off',v1,e1,hgs',d0,d1,d2,r1⟩:=Pa.elem h k (by omega)
     rw[e0]at e1
     cases e1
     subst e0
     have hcv:=fun m=>conv_str r0.rd (w.drewN m) (later_drewN (Later.refl _) _)
     have hcu:=fun m=>conv_str r1.rd (w.drewN m) (later_drewN (Later.refl _) _)
     have hst:=str_inj r0.rd.isB r1.rd.isB
     have HF:=HN.out j hlt k hkj
     have HF':Hid (l[j].name=l[k].name→uniq (paNames l)=false):=HF
     have HG:Hid (l[j].name≠l[k].name→∀ i (hi:i<j),i<k+1→l[j].name≠(l[i]'(by omega)).name):=fun hne i hi hik=>by
      rcases Nat.lt_or_ge i k with q|q
      ·exact HB.out i hi q
      ·have:i=k:=by omega
       subst this
       exact hne
     obtain⟨y0,q0,rfl,_⟩:=r0.slice
     obtain⟨y1,q1,rfl,_⟩:=r1.slice
     clear h HB HA c1 c2 d1 d2 HF
     by_cases he:l[j].name=l[k].name
     ·rw[decide_eq_true he]at hst
      have hf:Hid _:=HF'.out he
      clear HF' HG he HN HY
      go_wp2_with fail
      go_quiet (fail)
      go_wp2_with fail
      go_ret
      exact⟨by rw[hf.out];rfl,later_drewN (later_drewN (Later.refl _) _) _⟩
     ·rw[decide_eq_false he]at hst
      have hn:Hid _:=HG.out he
      clear HF' HG he HN HY
      go_wp2_with fail
      go_quiet (fail)
      go_wp2_with fail
      go_roundw
      case rel=>exact⟨k+1,_,by go_num,by omega,by first|rfl|exact World.drewN_drewN _ _ _,hn⟩
      case measure=>simp[intOf];omega
    ·have i2:¬ (k:Int)<(j:Int):=by omega
     have i3:decide ((k:Int)<(j:Int))=false:=decide_eq_false i2
     have hn:Hid (∀ i (hi:i<l.length) k (hk:k<i),i<j+1→l[i].name≠(l[k]'(by omega)).name):=fun i hi k' hk' hij=>by
      rcases Nat.lt_or_ge i j with q|q
      ·exact HA.out i hi k' hk' q
      ·have:i=j:=by omega
       subst this
       exact HB.out k' hk' (by omega)
     clear HA HB h
     go_wp2_with fail
     go_roundw
     case rel=>exact⟨j+1,m,by go_num,by omega,rfl,hn⟩
     case measure=>simp[intOf];omega
  ·have i1:¬ (j:Int)<(l.length:Int):=by omega
   have i2:decide ((j:Int)<(l.length:Int))=false:=decide_eq_false i1
   have HD:Hid (uniq (paNames l)=true):=HY.out fun i hi k hk=>HA.out i hi k hk (by omega)
   clear h HA HY HN
   go_wp2_with fail
   go_ret
   exact⟨by rw[HD.out];rfl,later_drewN (Later.refl _) _⟩
structure Nn (w0 w:World) (P:Nat) (v0 v1:Value) (all seen:List (List Int)) (bad:Bool):Prop where
 box:∃ va vs xa xs,Bxx w P [v0,v1,va,vs,.bool bad]∧w.ownsRow (P+1) 41 1 va all.length xa∧w.ownsRow (P+1) 41 1 vs seen.length xs ∧
  (∀ j (hj:j<all.length),∃ u,xa[j]?=some u∧RdN w0 u all[j])∧(∀ j (hj:j<seen.length),∃ u,xs[j]?=some u∧RdN w0 u seen[j])∧(∀ b,va.ownBlock=some b→vs.ownBlock≠some b)
 lat:Later w0 w
 big:w0.heap.size≤P
theorem row_nm {w0 w:World}{base:Nat}{v:Value}{l:List (List Int)}{xs:List Value}(lat:Later w0 w) (row:w.ownsRow base 41 1 v l.length xs) (txt:∀ j (hj:j<l.length),∃ u,xs[j]?=some u∧RdN w0 u l[j]):RdL w 1 v (nmD l):=by
 rcases row.2 with ⟨rfl,e⟩|⟨g,cap,cur,rfl,h1,h2,h3,h4,h5,h6⟩
 ·refine⟨none,0,by rw[nmD_len,e],⟨by rw[nmD_len,e];exact Nat.le_refl _,by unfold maxLen;omega⟩,fun j hj=>?_⟩
  rw[nmD_len,e]at hj
  exact absurd hj (Nat.not_lt_zero _)
 ·refine⟨_,cap,by rw[nmD_len],⟨by rw[nmD_len];exact h3,h4⟩,fun j hj=>?_⟩
  have hj':j<l.length:=by rw[nmD_len]at hj;exact hj
  obtain⟨u,e1,e2⟩:=txt j hj'
  refine⟨g,0,[u],rfl,(row.lt g rfl).2,rfl,fun m x hm=>?_,?_⟩
  ·match m with
   | 0 =>
    have:u=x:=by simpa using hm
    rw[Nat.mul_one,Nat.zero_add,Nat.add_zero,row.cellAt j (by omega),e1,this]
   | m+1=>simp at hm
  ·have e:(nmD l)[j]=.bytes l[j]:=by simp[nmD]
   rw[e]
   exact RdN.iff.2 ⟨u,rfl,e2.later lat⟩
theorem txt_push {w0:World}{l:List (List Int)}{xs:List Value}{z:List Int}{u:Value}(hx:xs.length=l.length) (txt:∀ j (hj:j<l.length),∃ u,xs[j]?=some u∧RdN w0 u l[j]) (hu:RdN w0 u z):∀ j (hj:j<(l++[z]).length),∃ u',(xs++[u])[j]?=some u'∧RdN w0 u' (l++[z])[j]:=fun j hj=>by
 rw[List.length_append,List.length_singleton]at hj
 rcases Nat.lt_or_ge j l.length with a|a
 ·obtain⟨u',e1,e2⟩:=txt j a
  exact⟨u',by rw[List.getElem?_append_left (by omega)];exact e1,by rw[List.getElem_append_left a];exact e2⟩
 ·have:j=l.length:=by omega
  subst this
  exact⟨u,by rw[List.getElem?_append_right (by omega),hx,Nat.sub_self];rfl,by rw[List.getElem_append_right (Nat.le_refl _)];simpa using hu⟩
theorem Nn.later {w0 w w':World}{P:Nat}{v0 v1:Value}{all seen:List (List Int)}{bad:Bool}(h:Nn w0 w P v0 v1 all seen bad) (hl:Later w w'):Nn w0 w' P v0 v1 all seen bad:=by
 obtain⟨⟨va,vs,xa,xs,h1,h2,h3,h4⟩,h5,h6⟩:=h
 exact⟨⟨va,vs,xa,xs,h1.later hl,row_kept h2 (hl.kept _),row_kept h3 (hl.kept _),h4⟩,h5.trans hl,h6⟩
theorem later_below {w0 w w':World}{P:Nat}(h:Later w0 w) (hb:Below P w w') (hP:w0.heap.size≤P):Later w0 w':=Below.trans h ⟨hb.os,hb.tape,hb.output,hb.size,fun k hk=>hb.block k (by omega)⟩
def NnP (w0 w:World) (P:Nat) (v0 v1:Value) (all seen:List (List Int)) (bad:Bool) (e:Ending) (w':World):Prop:=e=.returned (.tuple #[])∧Nn w0 w' P v0 v1 all seen bad∧Below P w w'
theorem sdecl_any (w0 w:World) (P:Nat) (v0 v1 u:Value) (all seen:List (List Int)) (bad:Bool) (z:List Int) (hN:Nn w0 w P v0 v1 all seen bad) (hz:RdN w0 u z) (ha:all.length≤900000) (hs:seen.length≤900000) :
  Calls Tryz.prog 25 #[.pointer (some ⟨P,0,none⟩),u] w (NnP w0 w P v0 v1 (all++[z]) (seen++[z]) (bad||decide (z∈all))):=by
 obtain⟨⟨va,vs,xa,xs,hb,ra,rs,ta,ts,hsep⟩,hlat,hbig⟩:=hN
 have hxa:xa.length=all.length:=by rw[ra.1,Nat.mul_one]
 have hxs:xs.length=seen.length:=by rw[rs.1,Nat.mul_one]
 have hF:=fun w' (ll:Later w w')=>sfind_any va u all z w' (row_nm (hlat.trans ll) (row_kept ra (ll.kept _)) ta) (hz.later (hlat.trans ll)) (by omega)
 obtain⟨i0,hi,hz0,hz1,hz2⟩:=info_parts Tryz.info41
 have HQ:Hid (∀ n b1 w1 v2 w2 v3 w3,w1=(if b1 then (w.drewN n).setCell ⟨P,4,none⟩ (.bool true) else w.drewN n)→b1=decide (z∈all)→w2.ownsRow (P+1) 41 1 v2 (all.length+1) (xa++[u])→(w1.alloc (.cells #[u] 41)).grownBy w2 va.ownBlock→(v2.ownBlock=va.ownBlock∨v2.ownBlock=some (w1.alloc (.cells #[u] 41)).heap.size) →
   Bxx w2 P [v0,v1,va,vs,.bool (bad||b1)]∧((w2.setCell ⟨P,2,none⟩ v2).alloc (.cells #[u] 41)).ownsRow (P+1) 41 1 vs seen.length xs∧P+1≤w2.heap.size∧Bxx (w2.setCell ⟨P,2,none⟩ v2) P [v0,v1,v2,vs,.bool (bad||b1)] ∧
   (w3.ownsRow (P+1) 41 1 v3 (seen.length+1) (xs++[u])→((w2.setCell ⟨P,2,none⟩ v2).alloc (.cells #[u] 41)).grownBy w3 vs.ownBlock→(v3.ownBlock=vs.ownBlock∨v3.ownBlock=some ((w2.setCell ⟨P,2,none⟩ v2).alloc (.cells #[u] 41)).heap.size)→Bxx w3 P [v0,v1,v2,vs,.bool (bad||b1)]∧NnP w0 w P v0 v1 (all++[z]) (seen++[z]) (bad||decide (z∈all)) (.returned (.tuple #[])) (w3.setCell ⟨P,3,none⟩ v3))):=by
  intro n b1 w1 v2 w2 v3 w3 hw1 hb1 ho2 hg2 hl2
  have hlr:=later_drewN (Later.refl w) n
  have hsz1:w1.heap.size=w.heap.size:=by rw[hw1];cases b1 <;> simp
  have hbx1:Bxx w1 P [v0,v1,va,vs,.bool (bad||b1)]:=by
   rw[hw1]
   cases b1
   ·rw[if_neg (by simp),Bool.or_false];exact hb.later hlr
   ·rw[if_pos rfl,Bool.or_true];exact (hb.later hlr).set 4 _ (Nat.lt_of_sub_eq_succ rfl)
  have hbl1:Below P w w1:=by
   rw[hw1]
   have:Below P w (w.drewN n):=⟨rfl,rfl,rfl,Nat.le_refl _,fun _ _=>rfl⟩
   cases b1
   ·rw[if_neg (by simp)];exact this
   ·rw[if_pos rfl];exact Below.setCell this (Nat.le_refl _) _
  have hP:=hb.lt
  have ka1:Kept (P+1) w w1:=⟨by omega,fun b hb' hbl=>by
   rw[hw1]
   cases b1
   ·rw[if_neg (by simp)];rfl
   ·rw[if_pos rfl,show ((w.drewN n).setCell ⟨P,4,none⟩ (.bool true)).heap[b]?=(w.drewN n).heap[b]? from Below.heap_setCell _ _ _ _ (by show b≠P;omega)];rfl⟩
  have nea:va.ownBlock≠some P:=fun e=>by have:=(ra.lt P e).1;omega
  have nes:vs.ownBlock≠some P:=fun e=>by have:=(rs.lt P e).1;omega
  have l1a:=later1 w1 (.cells #[u] 41)
  have hB2:Bxx w2 P [v0,v1,va,vs,.bool (bad||b1)]:=(hbx1.later l1a).kept hg2.size (hg2.block P (hbx1.later l1a).lt (fun e=>nea e.symm))
  have hs2:w1.heap.size+1≤w2.heap.size:=by have:=hg2.size;simp at this;omega
  have rs2:w2.ownsRow (P+1) 41 1 vs seen.length xs:=by
   refine World.ownsRow.kept (row_kept rs (ka1.trans (l1a.kept _))) hg2 ?_
   cases hvs:vs.ownBlock with
   | none=>exact .inl rfl
   | some b=>exact .inr fun e=>hsep b e.symm hvs
  have hX2:Bxx (w2.setCell ⟨P,2,none⟩ v2) P [v0,v1,v2,vs,.bool (bad||b1)]:=hB2.set 2 _ (Nat.lt_of_sub_eq_succ rfl)
  have k2:Kept (P+1) w2 (w2.setCell ⟨P,2,none⟩ v2):=Kept.setAt (Kept.refl _ _) (by omega) 2 _
  have l2a:=later1 (w2.setCell ⟨P,2,none⟩ v2) (.cells #[u] 41)
  refine⟨hB2,row_kept rs2 (k2.trans (l2a.kept _)),by omega,hX2,fun ho3 hg3 hl3=>?_⟩
  have hB3:Bxx w3 P [v0,v1,v2,vs,.bool (bad||b1)]:=(hX2.later l2a).kept hg3.size (hg3.block P (hX2.later l2a).lt (fun e=>nes e.symm))
  have bl3:Below P w w3:=by
   have b2:Below P w w2:=⟨hg2.os.trans (l1a.os.trans hbl1.os),hg2.tape.trans (l1a.tape.trans hbl1.tape),hg2.output.trans (l1a.output.trans hbl1.output),by omega,fun k hk=>by
    rw[hg2.block k (by simp;omega) (fun e=>by have:=(ra.lt k e.symm).1;omega),l1a.block k (by omega),hbl1.block k hk]⟩
   have b2':Below P w (w2.setCell ⟨P,2,none⟩ v2):=Below.setCell b2 (Nat.le_refl _) _
   have hs3:=hg3.size
   exact⟨hg3.os.trans (l2a.os.trans b2'.os),hg3.tape.trans (l2a.tape.trans b2'.tape),hg3.output.trans (l2a.output.trans b2'.output),by simp at hs3;omega,fun k hk=>by
    rw[hg3.block k (by simp;omega) (fun e=>by have:=(rs.lt k e.symm).1;omega),l2a.block k (by rw[World.size_setCell];omega),b2'.block k hk]⟩
  have hne23:∀ b,v2.ownBlock=some b→vs.ownBlock≠some b:=fun b hb'=>by
   rcases hl2 with e|e
   ·rw[e]at hb';exact hsep b hb'
   ·rw[e]at hb'
    cases hb'
    intro e'
    have:=(rs.lt _ e').2
    simp at this
    omega
  have r23:w3.ownsRow (P+1) 41 1 v2 (all.length+1) (xa++[u]):=by
   refine World.ownsRow.kept (row_kept ho2 (k2.trans (l2a.kept _))) hg3 ?_
   cases hv2:v2.ownBlock with
   | none=>exact .inl rfl
   | some b=>exact .inr fun e=>hne23 b hv2 e.symm
  have k3:Kept (P+1) w3 (w3.setCell ⟨P,3,none⟩ v3):=Kept.setAt (Kept.refl _ _) (by omega) 3 _
  refine⟨hB3,rfl,⟨⟨v2,v3,xa++[u],xs++[u],?_,?_,?_,txt_push hxa ta hz,txt_push hxs ts hz,fun b hb' hb''=>?_⟩,?_,hbig⟩,Below.setCell bl3 (Nat.le_refl _) _⟩
  ·rw[←hb1];exact hB3.set 3 _ (Nat.lt_of_sub_eq_succ rfl)
  ·rw[List.length_append];exact row_kept r23 k3
  ·rw[List.length_append];exact row_kept ho3 k3
  ·rcases hl3 with e|e
   ·rw[e]at hb'';exact hne23 b hb' hb''
   ·rw[e]at hb''
    cases hb''
    have h9:=(ho2.lt _ hb').2
    have h10:((w2.setCell ⟨P,2,none⟩ v2).alloc (.cells #[u] 41)).heap.size=w2.heap.size+1:=by simp
    omega
  ·exact later_below hlat (Below.setCell bl3 (Nat.le_refl _) _) hbig
 generalize hQ:NnP w0 w P v0 v1 (all++[z]) (seen++[z]) (bad||decide (z∈all))=Q at *
 clear hQ
 obtain⟨aa,ca,hva⟩:=row_form ra
 obtain⟨ax,cx,hvs⟩:=row_form rs
 have x2:=(hb.cell 2 _ rfl).1
 have f4:=(hb.cell 4 _ rfl).2
 have x4:=(hb.cell 4 _ rfl).1
 have hP:=hb.lt
 have hF1:=hF w (Later.refl _)
 have HR:Hid (∀ n b1 w1,w1=(if b1 then (w.drewN n).setCell ⟨P,4,none⟩ (.bool true) else w.drewN n)→(w1.alloc (.cells #[u] 41)).ownsRow (P+1) 41 1 va all.length xa∧Bxx w1 P [v0,v1,va,vs,.bool (bad||b1)]∧P+1≤w1.heap.size):=fun n b1 w1 hw1=>by
  have hlr:=later_drewN (Later.refl w) n
  have ka1:Kept (P+1) w w1:=⟨by rw[hw1];cases b1 <;> simp,fun b hb' hbl=>by
   rw[hw1]
   cases b1
   ·rw[if_neg (by simp)];rfl
   ·rw[if_pos rfl,show ((w.drewN n).setCell ⟨P,4,none⟩ (.bool true)).heap[b]?=(w.drewN n).heap[b]? from Below.heap_setCell _ _ _ _ (by show b≠P;omega)];rfl⟩
  refine⟨(row_kept ra ka1).alloc _,?_,by have:=ka1.size;omega⟩
  rw[hw1]
  cases b1
  ·rw[if_neg (by simp),Bool.or_false];exact hb.later hlr
  ·rw[if_pos rfl,Bool.or_true];exact (hb.later hlr).set 4 _ (Nat.lt_of_sub_eq_succ rfl)
 obtain⟨uu,un,uc,hu⟩:∃ a n c,u=.slice a n c:=by obtain⟨a,c,e,_⟩:=hz.slice;exact⟨a,_,c,e⟩
 clear ta ts hsep hF hlat ra rs hb
 subst hva hvs hu
 go_enter Tryz.func25,Tryz.ntmps25
 go_wp2_with fail
 refine hF1.mono ?_
 rintro e w1 ⟨rfl,n,rfl⟩
 by_cases hm:z∈all
 ·have hneg:(0:Int)≤fnd all z:=Int.not_lt.1 (fun q=>(fnd_neg all z).1 q hm)
  obtain⟨wA,hwA⟩:=hidx ((w.drewN n).setCell ⟨P,4,none⟩ (.bool true))
  obtain⟨rA,bA,sA⟩:=HR.out n true wA (by rw[hwA.out];rfl)
  have HQ1:Hid _:=HQ.out n true wA
  have y2:=(bA.cell 2 _ rfl).1
  have ya:=bA.lt
  have hm':Hid (true=decide (z∈all)):=(decide_eq_true hm).symm
  have HQ2:Hid (∀ v2 w2 v3 w3,_):=fun v2 w2 v3 w3=>HQ1.out v2 w2 v3 w3 (by rw[hwA.out];rfl) hm'.out
  clear HQ HQ1 HR
  generalize fnd all z=fz at *
  go_wp2_with (first
   | (have _g:=o2;at_builtin;refine wpList_append_own_at _ rfl _ _ 52 rfl (P+1) 41 i0 (.slice none 0 0) 1 24 Tryz.underlying52 hi hz0 hz1 hz2 rfl (by decide) _ _ _ rfl q2 _ 1 1 [.slice uu un uc] rfl rfl (new_row _ _ _ (by simp)) (by simp[Value.oneCell']) (by unfold maxLen;omega) (by omega) (by simp;omega) ?_;intro v3 w3 o3 g3 _ h3;obtain⟨B3,HZ⟩:=(HQ2.out _ _ v3 w3 o2 g2 h2).2.2.2.2 o3 g3 h3;have z3:=(B3.cell 3 _ rfl).1;have z3f:=(B3.cell 3 _ rfl).2;obtain⟨a3,p3,hv3⟩:=row_form o3;rw[hv3]at HZ ⊢)
   | (at_builtin;refine wpList_append_own_at _ rfl _ _ 52 rfl (P+1) 41 i0 (.slice none 0 0) 1 24 Tryz.underlying52 hi hz0 hz1 hz2 rfl (by decide) _ _ _ rfl (by rw[←hwA.out];exact rA) _ 1 1 [.slice uu un uc] rfl rfl (new_row _ _ _ (by simp)) (by simp[Value.oneCell']) (by unfold maxLen;omega) (by omega) (by rw[←hwA.out];simp;omega) ?_;intro v2 w2 o2 g2 _ h2;rw[←hwA.out]at g2 h2;obtain⟨B2,q2,s2,X2,_⟩:=HQ2.out _ _ (.slice none 0 0) w2 o2 g2 h2;obtain⟨a2,p2,hv2⟩:=row_form o2;rw[hv2]at q2 X2 o2 h2 ⊢;have k2:=(B2.cell 2 _ rfl).1;have k2f:=(B2.cell 2 _ rfl).2;have l3:=(X2.cell 3 _ rfl).1;have l3f:=(X2.cell 3 _ rfl).2))
  exact bodyPost_end (results_none rfl _ _ _) rfl HZ
 ·have hneg:¬ (0:Int)≤fnd all z:=fun q=>by have:=(fnd_neg all z).2 hm;omega
  obtain⟨wA,hwA⟩:=hidx (w.drewN n)
  obtain⟨rA,bA,sA⟩:=HR.out n false wA (by rw[hwA.out];rfl)
  have HQ1:Hid _:=HQ.out n false wA
  have y2:=(bA.cell 2 _ rfl).1
  have ya:=bA.lt
  have hm':Hid (false=decide (z∈all)):=(decide_eq_false hm).symm
  have HQ2:Hid (∀ v2 w2 v3 w3,_):=fun v2 w2 v3 w3=>HQ1.out v2 w2 v3 w3 (by rw[hwA.out];rfl) hm'.out
  clear HQ HQ1 HR
  generalize fnd all z=fz at *
  go_wp2_with (first
   | (have _g:=o2;at_builtin;refine wpList_append_own_at _ rfl _ _ 52 rfl (P+1) 41 i0 (.slice none 0 0) 1 24 Tryz.underlying52 hi hz0 hz1 hz2 rfl (by decide) _ _ _ rfl q2 _ 1 1 [.slice uu un uc] rfl rfl (new_row _ _ _ (by simp)) (by simp[Value.oneCell']) (by unfold maxLen;omega) (by omega) (by simp;omega) ?_;intro v3 w3 o3 g3 _ h3;obtain⟨B3,HZ⟩:=(HQ2.out _ _ v3 w3 o2 g2 h2).2.2.2.2 o3 g3 h3;have z3:=(B3.cell 3 _ rfl).1;have z3f:=(B3.cell 3 _ rfl).2;obtain⟨a3,p3,hv3⟩:=row_form o3;rw[hv3]at HZ ⊢)
   | (at_builtin;refine wpList_append_own_at _ rfl _ _ 52 rfl (P+1) 41 i0 (.slice none 0 0) 1 24 Tryz.underlying52 hi hz0 hz1 hz2 rfl (by decide) _ _ _ rfl (by rw[←hwA.out];exact rA) _ 1 1 [.slice uu un uc] rfl rfl (new_row _ _ _ (by simp)) (by simp[Value.oneCell']) (by unfold maxLen;omega) (by omega) (by rw[←hwA.out];simp;omega) ?_;intro v2 w2 o2 g2 _ h2;rw[←hwA.out]at g2 h2;obtain⟨B2,q2,s2,X2,_⟩:=HQ2.out _ _ (.slice none 0 0) w2 o2 g2 h2;obtain⟨a2,p2,hv2⟩:=row_form o2;rw[hv2]at q2 X2 o2 h2 ⊢;have k2:=(B2.cell 2 _ rfl).1;have k2f:=(B2.cell 2 _ rfl).2;have l3:=(X2.cell 3 _ rfl).1;have l3f:=(X2.cell 3 _ rfl).2))
  exact bodyPost_end (results_none rfl _ _ _) rfl HZ
mutual
def Ex.usesB (fs seen:List (List Int)):Ex→Bool
 | .mk k _ _ _ nm ks=>(!(k==3)||decide (nm∈seen))&&(!(k==6)||decide (nm∈fs))&&Ex.usesBs fs seen ks
def Ex.usesBs (fs seen:List (List Int)):List Ex→Bool
 | []=>true
 | x::r=>x.usesB fs seen&&Ex.usesBs fs seen r
end
theorem Ex.usesB_eq (fs seen:List (List Int)) (x:Ex):x.usesB fs seen=((!(x.kind==3)||decide (x.name∈seen))&&(!(x.kind==6)||decide (x.name∈fs))&&Ex.usesBs fs seen x.kids):=by obtain⟨k,n,tk,tn,nm,ks⟩:=x;rw[Ex.usesB];rfl
theorem Ex.usesBs_cons (fs seen:List (List Int)) (x:Ex) (r:List Ex):Ex.usesBs fs seen (x::r)=(x.usesB fs seen&&Ex.usesBs fs seen r):=by rw[Ex.usesBs]
theorem fst_neg (l:List (List Int)) (z:List Int):fstI l z<0↔z∉l:=by
 unfold fstI
 cases h:l.findIdx? (fun y=>decide (y=z)) with
 | none =>
  rw[List.findIdx?_eq_none_iff]at h
  constructor
  ·intro _ hm
   have:=h z hm
   simp at this
  ·intro _;decide
 | some i =>
  rw[List.findIdx?_eq_some_iff_getElem]at h
  obtain⟨hi,h1,_⟩:=h
  constructor
  ·intro q;simp at q;omega
  ·intro q;exact absurd (List.getElem_mem hi) (by rw[of_decide_eq_true h1];exact q)
theorem Nn.set {w0 w:World}{P:Nat}{v0 v1:Value}{all seen:List (List Int)}{bad:Bool}(h:Nn w0 w P v0 v1 all seen bad):Nn w0 (w.setCell ⟨P,4,none⟩ (.bool true)) P v0 v1 all seen true:=by
 obtain⟨⟨va,vs,xa,xs,h1,h2,h3,h4⟩,h5,h6⟩:=h
 have k:Kept (P+1) w (w.setCell ⟨P,4,none⟩ (.bool true)):=Kept.setAt (Kept.refl _ _) (by omega) 4 _
 exact⟨⟨va,vs,xa,xs,h1.set 4 _ (Nat.lt_of_sub_eq_succ rfl),row_kept h2 k,row_kept h3 k,h4⟩,later_below h5 (Below.setCell (Below.refl _ _) (Nat.le_refl P) _) h6,h6⟩
theorem Nn.lt {w0 w:World}{P:Nat}{v0 v1:Value}{all seen:List (List Int)}{bad:Bool}(h:Nn w0 w P v0 v1 all seen bad):P<w.heap.size:=by obtain⟨⟨va,vs,xa,xs,h1,_⟩,_⟩:=h;exact h1.lt
theorem en_find:Enters Tryz.prog 53:=enters_of Tryz.func53 (by kernel_rfl) (by kernel_rfl)
theorem en_func:Enters Tryz.prog 24:=enters_of Tryz.func24 (by kernel_rfl) (by kernel_rfl)
def UsP (w0 w:World) (P:Nat) (v0 v1:Value) (all seen:List (List Int)) (bad:Bool) (e:Ending) (w':World):Prop:=e=.returned (.tuple #[])∧Nn w0 w' P v0 v1 all seen bad∧OnlyK P w w'
theorem suses_all (N:Nat):∀ (x:Ex) (u0 u1:Value) (w0 w:World) (P:Nat) (v0 v1:Value) (fs:List Fu) (all seen:List (List Int)) (bad:Bool),x.sz≤N→RdN w0 u0 x.name→RdL w0 6 u1 (Ex.dats x.kids)→(∃ a n c,v0=.slice a n c)→RdL w0 5 v1 (Fu.dats fs)→fs.length≤1000→seen.length≤900000→Nn w0 w P v0 v1 all seen bad →
  Calls Tryz.prog 54 #[.pointer (some ⟨P,0,none⟩),.agg #[.int .i64 x.kind,.int .i64 x.n,.int .i64 x.tk,.int .i64 x.tn,u0,u1]] w (UsP w0 w P v0 v1 all seen (bad||!x.usesB (fuNames fs) seen)):=by
 induction N using Nat.strongRecOn with
 | _ N IH =>
 intro x u0 u1 w0 w P v0 v1 fs all seen bad hN h0 h1 hv0 hv1 hfl hsl hNn
 have hIH:=fun (j:Nat) (hj:j<x.kids.length) (k0 k1:Value) (w':World) (b:Bool) (r0:RdN w0 k0 x.kids[j].name) (r1:RdL w0 6 k1 (Ex.dats x.kids[j].kids)) (hn:Nn w0 w' P v0 v1 all seen b)=>IH x.kids[j].sz (by have:=Ex.sz_at x.kids j hj;have:=Ex.kids_le x;have:=Ex.szs_ge x.kids;omega) x.kids[j] k0 k1 w0 w' P v0 v1 fs all seen b (Nat.le_refl _) r0 r1 hv0 hv1 hfl hsl hn
 clear IH
 obtain⟨y0,q0,rfl,_⟩:=h0.slice
 obtain⟨y1,q1,rfl,hkl⟩:=Ex.slice h1
 obtain⟨wb,hwb⟩:=hidx (w.alloc (.cells #[.int .i64 x.kind,.int .i64 x.n,.int .i64 x.tk,.int .i64 x.tn,.slice y0 x.name.length q0,.slice y1 x.kids.length q1] 96))
 have hbx:Bxx wb w.heap.size [.int .i64 x.kind,.int .i64 x.n,.int .i64 x.tk,.int .i64 x.tn,.slice y0 x.name.length q0,.slice y1 x.kids.length q1]:=by rw[hwb.out];exact Bxx.new _ _ _
 have lb:Later w wb:=by rw[hwb.out];exact later1 _ _
 have hPw:=hNn.lt
 have hPB:w.heap.size≠P:=by omega
 have hNb:=hNn.later lb
 obtain⟨⟨va,vs,xa,xs,hPb,hra,hrs,hta,hts,hsep⟩,hlat,hbig⟩:=hNb
 have hF:=fun m=>sfind_any vs (.slice y0 x.name.length q0) seen x.name (wb.drewN m) (row_nm (hlat.trans (later_drewN (Later.refl _) _)) (row_kept hrs ((later_drewN (Later.refl wb) m).kept _)) hts) (h0.later (hlat.trans (later_drewN (Later.refl _) _))) (by omega)
 have hG:=fun w' (ll:Later wb w')=>sfunc_any fs v0 v1 (.slice y0 x.name.length q0) x.name w' hv0 (RdL.later (hlat.trans ll) hv1) (h0.later (hlat.trans ll)) (by omega)
 have hNb:Nn w0 wb P v0 v1 all seen bad:=⟨⟨va,vs,xa,xs,hPb,hra,hrs,hta,hts,hsep⟩,hlat,hbig⟩
 obtain⟨sa,sc,hvs⟩:=row_form hrs
 obtain⟨vsa,vsn,vsc,rfl⟩:=hv0
 obtain⟨vfa,vfc,rfl,_⟩:=Fu.slice hv1
 have HE:=Ex.usesB_eq (fuNames fs) seen x
 have HE':Hid (x.usesB (fuNames fs) seen=((!(x.kind==3)||decide (x.name∈seen))&&(!(x.kind==6)||decide (x.name∈fuNames fs))&&Ex.usesBs (fuNames fs) seen x.kids)):=HE
 clear HE hra hta hts hsep hrs
 have HQ:Hid (∀ w',Nn w0 w' P (.slice vsa vsn vsc) (.slice vfa fs.length vfc) all seen (bad||!x.usesB (fuNames fs) seen)→OnlyK P w w'→UsP w0 w P (.slice vsa vsn vsc) (.slice vfa fs.length vfc) all seen (bad||!x.usesB (fuNames fs) seen) (.returned (.tuple #[])) w'):=fun w' h o=>⟨rfl,h,o⟩
 generalize hQ:UsP w0 w P (.slice vsa vsn vsc) (.slice vfa fs.length vfc) all seen (bad||!x.usesB (fuNames fs) seen)=Q at *
 clear hQ
 have b0:=(hbx.cell 0 _ rfl).1
 have b4:=(hbx.cell 4 _ rfl).1
 have b5:=(hbx.cell 5 _ rfl).1
 have p0:=(hPb.cell 0 _ rfl).1
 have p1:=(hPb.cell 1 _ rfl).1
 have p3:=(hPb.cell 3 _ rfl).1
 have p4:=(hPb.cell 4 _ rfl).1
 have f4:=(hPb.cell 4 _ rfl).2
 have hPl:P<wb.heap.size:=hPb.lt
 have hBl:w.heap.size<wb.heap.size:=hbx.lt
 subst hvs
 clear hPb
 have lOb:OnlyK P w wb:=OnlyK.of_later lb
 rcases (by omega:x.kind=3∨x.kind=6∨(x.kind≠3∧x.kind≠6)) with kk|kk|⟨k3,k6⟩
 ·have HK:Hid (x.kind=3):=kk
  rw[kk]at hbx b0 hwb ⊢
  clear kk
  by_cases hm:x.name∈seen
  ·have hneg:decide (fnd seen x.name<0)=false:=decide_eq_false (fun q=>(fnd_neg seen x.name).1 q hm)
   have hneg1:¬ fnd seen x.name<0:=fun q=>(fnd_neg seen x.name).1 q hm
   have HM:Hid (x.name∈seen):=hm
   clear hm
   generalize fnd seen x.name=fz at *
   go_enter Tryz.func54,Tryz.ntmps54
   go_wp2_with fail
   rw[←hwb.out]
   go_quiet ((go_at_call 53;exact Calls.quiet_of (hF _)))
   go_wp2_with fail
   go_quiet (fail)
   have HS0:Hid ((bad||!Ex.usesBs (fuNames fs) seen x.kids)=(bad||!x.usesB (fuNames fs) seen)):=by unfold Hid;rw[HE'.out];simp[HK.out,HM.out]
   clear HE' b0 b4 b5 p0 p1 p3 p4 f4 hF hG hPl hBl
   go_wp2_with fail
   go_loopw [4] (fun i wr=>∃ (j:Nat) (b:Bool),i=.int .i64 (j:Int)∧j≤x.kids.length∧Nn w0 wr P (.slice vsa vsn vsc) (.slice vfa fs.length vfc) all seen b∧OnlyK P w wr∧Bxx wr w.heap.size [.int .i64 3,.int .i64 x.n,.int .i64 x.tk,.int .i64 x.tn,.slice y0 x.name.length q0,.slice y1 x.kids.length q1]∧Hid ((b||!Ex.usesBs (fuNames fs) seen (x.kids.drop j))=(bad||!x.usesB (fuNames fs) seen))) (fun i _=>x.kids.length - (intOf i).toNat)
   case atStart=>exact⟨0,bad,rfl,Nat.zero_le _,hNb.later (later_drewN (later_drewN (Later.refl _) _) _),lOb.trans (OnlyK.of_later (later_drewN (later_drewN (Later.refl _) _) _)),hbx.later (later_drewN (later_drewN (Later.refl _) _) _),HS0⟩
   case round =>
    obtain⟨j,b,rfl,hj,hNr,oR,hbr,HS⟩:=hrel
    have lr:=hNr.lat
    clear hNb hbx HS0 lOb
    have b5:=(hbr.cell 5 _ rfl).1
    by_cases hlt:j<x.kids.length
    ·obtain⟨g,off,k0,k1,rfl,hgs,c0,c1,c2,c3,c4,c5,r0,r1⟩:=Ex.elem h1 j hlt
     have i1:(j:Int)<(x.kids.length:Int):=by omega
     have c0:wr.cell? ⟨g,off+j*6,none⟩=some (.int .i64 x.kids[j].kind):=by rw[Below.cell lr (p:=⟨g,off+j*6,none⟩) hgs];exact c0
     have c1:wr.cell? ⟨g,off+j*6+1,none⟩=some (.int .i64 x.kids[j].n):=by rw[Below.cell lr (p:=⟨g,off+j*6+1,none⟩) hgs];exact c1
     have c2:wr.cell? ⟨g,off+j*6+2,none⟩=some (.int .i64 x.kids[j].tk):=by rw[Below.cell lr (p:=⟨g,off+j*6+2,none⟩) hgs];exact c2
     have c3:wr.cell? ⟨g,off+j*6+3,none⟩=some (.int .i64 x.kids[j].tn):=by rw[Below.cell lr (p:=⟨g,off+j*6+3,none⟩) hgs];exact c3
     have c4:wr.cell? ⟨g,off+j*6+4,none⟩=some k0:=by rw[Below.cell lr (p:=⟨g,off+j*6+4,none⟩) hgs];exact c4
     have c5:wr.cell? ⟨g,off+j*6+5,none⟩=some k1:=by rw[Below.cell lr (p:=⟨g,off+j*6+5,none⟩) hgs];exact c5
     have hR:=hIH j hlt k0 k1 wr b r0 r1 hNr
     have HSn:Hid (((b||!x.kids[j].usesB (fuNames fs) seen)||!Ex.usesBs (fuNames fs) seen (x.kids.drop (j+1)))=(bad||!x.usesB (fuNames fs) seen)):=by
      have h:=HS.out
      rw[List.drop_eq_getElem_cons hlt,Ex.usesBs_cons]at h
      unfold Hid
      rw[←h]
      cases b <;> cases x.kids[j].usesB (fuNames fs) seen <;> simp
     obtain⟨z0,d0,rfl,_⟩:=r0.slice
     obtain⟨z1,d1,rfl,_⟩:=Ex.slice r1
     clear r0 r1 HS h1 hNr
     generalize x.kids[j].usesB (fuNames fs) seen=ub at *
     generalize x.kids[j].kind=e_k at *
     generalize x.kids[j].n=e_n at *
     generalize x.kids[j].tk=e_tk at *
     generalize x.kids[j].tn=e_tn at *
     go_wp2_with fail
     refine hR.mono ?_
     rintro e w3 ⟨rfl,hN3,o3⟩
     have o4:=oR.trans o3
     have hb3:=hbr.only o3 hPB
     clear hR
     go_wp2_with fail
     go_roundw
     case rel=>exact⟨j+1,_,by go_num,by omega,hN3,o4,hb3,HSn⟩
     case measure=>simp[intOf];omega
    ·have i1:¬ (j:Int)<(x.kids.length:Int):=by omega
     have i2:decide ((j:Int)<(x.kids.length:Int))=false:=decide_eq_false i1
     have hjj:j=x.kids.length:=by omega
     have HZ:=HQ.out wr (by have h:=HS.out;rw[hjj,List.drop_length,Ex.usesBs,Bool.not_true,Bool.or_false]at h;rw[←h];exact hNr) oR
     clear h1 HS HQ hIH hNr hjj
     go_wp2_with fail
     exact bodyPost_end (results_none rfl _ _ _) rfl HZ
  ·have hneg:decide (fnd seen x.name<0)=true:=decide_eq_true ((fnd_neg seen x.name).2 hm)
   have hneg1:fnd seen x.name<0:=(fnd_neg seen x.name).2 hm
   have HM:Hid (x.name∉seen):=hm
   clear hm
   generalize fnd seen x.name=fz at *
   go_enter Tryz.func54,Tryz.ntmps54
   go_wp2_with fail
   rw[←hwb.out]
   go_quiet ((go_at_call 53;exact Calls.quiet_of (hF _)))
   go_wp2_with fail
   go_quiet (fail)
   have HS0:Hid ((true||!Ex.usesBs (fuNames fs) seen x.kids)=(bad||!x.usesB (fuNames fs) seen)):=by unfold Hid;rw[HE'.out];simp[HK.out,HM.out]
   clear HE' b0 b4 b5 p0 p1 p3 p4 f4 hF hG hPl hBl
   go_wp2_with fail
   go_loopw [4] (fun i wr=>∃ (j:Nat) (b:Bool),i=.int .i64 (j:Int)∧j≤x.kids.length∧Nn w0 wr P (.slice vsa vsn vsc) (.slice vfa fs.length vfc) all seen b∧OnlyK P w wr∧Bxx wr w.heap.size [.int .i64 3,.int .i64 x.n,.int .i64 x.tk,.int .i64 x.tn,.slice y0 x.name.length q0,.slice y1 x.kids.length q1]∧Hid ((b||!Ex.usesBs (fuNames fs) seen (x.kids.drop j))=(bad||!x.usesB (fuNames fs) seen))) (fun i _=>x.kids.length - (intOf i).toNat)
   case atStart=>exact⟨0,true,rfl,Nat.zero_le _,(hNb.later (later_drewN (Later.refl _) _)).set.later (later_drewN (Later.refl _) _),((lOb.trans (OnlyK.of_later (later_drewN (Later.refl _) _))).set 4 _).trans (OnlyK.of_later (later_drewN (Later.refl _) _)),((hbx.later (later_drewN (Later.refl _) _)).other hPB _).later (later_drewN (Later.refl _) _),HS0⟩
   case round =>
    obtain⟨j,b,rfl,hj,hNr,oR,hbr,HS⟩:=hrel
    have lr:=hNr.lat
    clear hNb hbx HS0 lOb
    have b5:=(hbr.cell 5 _ rfl).1
    by_cases hlt:j<x.kids.length
    ·obtain⟨g,off,k0,k1,rfl,hgs,c0,c1,c2,c3,c4,c5,r0,r1⟩:=Ex.elem h1 j hlt
     have i1:(j:Int)<(x.kids.length:Int):=by omega
     have c0:wr.cell? ⟨g,off+j*6,none⟩=some (.int .i64 x.kids[j].kind):=by rw[Below.cell lr (p:=⟨g,off+j*6,none⟩) hgs];exact c0
     have c1:wr.cell? ⟨g,off+j*6+1,none⟩=some (.int .i64 x.kids[j].n):=by rw[Below.cell lr (p:=⟨g,off+j*6+1,none⟩) hgs];exact c1
     have c2:wr.cell? ⟨g,off+j*6+2,none⟩=some (.int .i64 x.kids[j].tk):=by rw[Below.cell lr (p:=⟨g,off+j*6+2,none⟩) hgs];exact c2
     have c3:wr.cell? ⟨g,off+j*6+3,none⟩=some (.int .i64 x.kids[j].tn):=by rw[Below.cell lr (p:=⟨g,off+j*6+3,none⟩) hgs];exact c3
     have c4:wr.cell? ⟨g,off+j*6+4,none⟩=some k0:=by rw[Below.cell lr (p:=⟨g,off+j*6+4,none⟩) hgs];exact c4
     have c5:wr.cell? ⟨g,off+j*6+5,none⟩=some k1:=by rw[Below.cell lr (p:=⟨g,off+j*6+5,none⟩) hgs];exact c5
     have hR:=hIH j hlt k0 k1 wr b r0 r1 hNr
     have HSn:Hid (((b||!x.kids[j].usesB (fuNames fs) seen)||!Ex.usesBs (fuNames fs) seen (x.kids.drop (j+1)))=(bad||!x.usesB (fuNames fs) seen)):=by
      have h:=HS.out
      rw[List.drop_eq_getElem_cons hlt,Ex.usesBs_cons]at h
      unfold Hid
      rw[←h]
      cases b <;> cases x.kids[j].usesB (fuNames fs) seen <;> simp
     obtain⟨z0,d0,rfl,_⟩:=r0.slice
     obtain⟨z1,d1,rfl,_⟩:=Ex.slice r1
     clear r0 r1 HS h1 hNr
     generalize x.kids[j].usesB (fuNames fs) seen=ub at *
     generalize x.kids[j].kind=e_k at *
     generalize x.kids[j].n=e_n at *
     generalize x.kids[j].tk=e_tk at *
     generalize x.kids[j].tn=e_tn at *
     go_wp2_with fail
     refine hR.mono ?_
     rintro e w3 ⟨rfl,hN3,o3⟩
     have o4:=oR.trans o3
     have hb3:=hbr.only o3 hPB
     clear hR
     go_wp2_with fail
     go_roundw
     case rel=>exact⟨j+1,_,by go_num,by omega,hN3,o4,hb3,HSn⟩
     case measure=>simp[intOf];omega
    ·have i1:¬ (j:Int)<(x.kids.length:Int):=by omega
     have i2:decide ((j:Int)<(x.kids.length:Int))=false:=decide_eq_false i1
     have hjj:j=x.kids.length:=by omega
     have HZ:=HQ.out wr (by have h:=HS.out;rw[hjj,List.drop_length,Ex.usesBs,Bool.not_true,Bool.or_false]at h;rw[←h];exact hNr) oR
     clear h1 HS HQ hIH hNr hjj
     go_wp2_with fail
     exact bodyPost_end (results_none rfl _ _ _) rfl HZ
 ·have HK:Hid (x.kind=6):=kk
  rw[kk]at hbx b0 hwb ⊢
  clear kk
  by_cases hm:x.name∈fuNames fs
  ·have hneg:decide (fstI (fuNames fs) x.name<0)=false:=decide_eq_false (fun q=>(fst_neg _ x.name).1 q hm)
   have hneg1:¬ fstI (fuNames fs) x.name<0:=fun q=>(fst_neg _ x.name).1 q hm
   have HM:Hid (x.name∈fuNames fs):=hm
   clear hm
   generalize fstI (fuNames fs) x.name=fz at *
   have HSX:Hid (∀ w',Later wb w'→w'.cell? ⟨w.heap.size,0,none⟩=some (.int .i64 6)∧w'.cell? ⟨w.heap.size,4,none⟩=some (.slice y0 x.name.length q0)∧w'.cell? ⟨P,0,none⟩=some (.slice vsa vsn vsc)∧w'.cell? ⟨P,1,none⟩=some (.slice vfa fs.length vfc)):=fun w' ll=>⟨((hbx.later ll).cell 0 _ rfl).1,((hbx.later ll).cell 4 _ rfl).1,by rw[Below.cell ll (p:=⟨P,0,none⟩) hPl];exact p0,by rw[Below.cell ll (p:=⟨P,1,none⟩) hPl];exact p1⟩
   go_enter Tryz.func54,Tryz.ntmps54
   go_wp2_with fail
   rw[←hwb.out]
   go_quiet (fail)
   go_wp2_with fail
   go_region_held3 (fun w'=>w'.cell? ⟨w.heap.size,0,none⟩=some (.int .i64 6)∧w'.cell? ⟨w.heap.size,4,none⟩=some (.slice y0 x.name.length q0)∧w'.cell? ⟨P,0,none⟩=some (.slice vsa vsn vsc)∧w'.cell? ⟨P,1,none⟩=some (.slice vfa fs.length vfc)) (first|exact HSX.out _ ((later_drewN (Later.refl _) _).trans (Later.drew _))|exact HSX.out _ (((later_drewN (Later.refl _) _).trans (Later.drew _)).trans l8)) ((go_at_call 24;refine (hG _ ((later_drewN (Later.refl _) _).trans (Later.drew _))).mono ?_;rintro e w8 ⟨rfl,l8⟩;have L8:Later wb w8:=((later_drewN (Later.refl _) _).trans (Later.drew _)).trans l8;have hN8:=hNb.later L8;obtain⟨⟨_,_,_,_,hP8,_⟩,_⟩:=hN8;have pp4:=(hP8.cell 4 _ rfl).1;have ff4:=(hP8.cell 4 _ rfl).2))
   have HS0:Hid ((bad||!Ex.usesBs (fuNames fs) seen x.kids)=(bad||!x.usesB (fuNames fs) seen)):=by unfold Hid;rw[HE'.out];simp[HK.out,HM.out]
   clear HE' b0 b4 b5 p0 p1 p3 p4 f4 hF hG hPl hBl
   go_wp2_with fail
   go_loopw [4] (fun i wr=>∃ (j:Nat) (b:Bool),i=.int .i64 (j:Int)∧j≤x.kids.length∧Nn w0 wr P (.slice vsa vsn vsc) (.slice vfa fs.length vfc) all seen b∧OnlyK P w wr∧Bxx wr w.heap.size [.int .i64 6,.int .i64 x.n,.int .i64 x.tk,.int .i64 x.tn,.slice y0 x.name.length q0,.slice y1 x.kids.length q1]∧Hid ((b||!Ex.usesBs (fuNames fs) seen (x.kids.drop j))=(bad||!x.usesB (fuNames fs) seen))) (fun i _=>x.kids.length - (intOf i).toNat)
   case atStart=>exact⟨0,bad,rfl,Nat.zero_le _,hNb.later L8,lOb.trans (OnlyK.of_later L8),hbx.later L8,HS0⟩
   case round =>
    obtain⟨j,b,rfl,hj,hNr,oR,hbr,HS⟩:=hrel
    have lr:=hNr.lat
    clear hNb hbx HS0 lOb
    have b5:=(hbr.cell 5 _ rfl).1
    by_cases hlt:j<x.kids.length
    ·obtain⟨g,off,k0,k1,rfl,hgs,c0,c1,c2,c3,c4,c5,r0,r1⟩:=Ex.elem h1 j hlt
     have i1:(j:Int)<(x.kids.length:Int):=by omega
     have c0:wr.cell? ⟨g,off+j*6,none⟩=some (.int .i64 x.kids[j].kind):=by rw[Below.cell lr (p:=⟨g,off+j*6,none⟩) hgs];exact c0
     have c1:wr.cell? ⟨g,off+j*6+1,none⟩=some (.int .i64 x.kids[j].n):=by rw[Below.cell lr (p:=⟨g,off+j*6+1,none⟩) hgs];exact c1
     have c2:wr.cell? ⟨g,off+j*6+2,none⟩=some (.int .i64 x.kids[j].tk):=by rw[Below.cell lr (p:=⟨g,off+j*6+2,none⟩) hgs];exact c2
     have c3:wr.cell? ⟨g,off+j*6+3,none⟩=some (.int .i64 x.kids[j].tn):=by rw[Below.cell lr (p:=⟨g,off+j*6+3,none⟩) hgs];exact c3
     have c4:wr.cell? ⟨g,off+j*6+4,none⟩=some k0:=by rw[Below.cell lr (p:=⟨g,off+j*6+4,none⟩) hgs];exact c4
     have c5:wr.cell? ⟨g,off+j*6+5,none⟩=some k1:=by rw[Below.cell lr (p:=⟨g,off+j*6+5,none⟩) hgs];exact c5
     have hR:=hIH j hlt k0 k1 wr b r0 r1 hNr
     have HSn:Hid (((b||!x.kids[j].usesB (fuNames fs) seen)||!Ex.usesBs (fuNames fs) seen (x.kids.drop (j+1)))=(bad||!x.usesB (fuNames fs) seen)):=by
      have h:=HS.out
      rw[List.drop_eq_getElem_cons hlt,Ex.usesBs_cons]at h
      unfold Hid
      rw[←h]
      cases b <;> cases x.kids[j].usesB (fuNames fs) seen <;> simp
     obtain⟨z0,d0,rfl,_⟩:=r0.slice
     obtain⟨z1,d1,rfl,_⟩:=Ex.slice r1
     clear r0 r1 HS h1 hNr
     generalize x.kids[j].usesB (fuNames fs) seen=ub at *
     generalize x.kids[j].kind=e_k at *
     generalize x.kids[j].n=e_n at *
     generalize x.kids[j].tk=e_tk at *
     generalize x.kids[j].tn=e_tn at *
     go_wp2_with fail
     refine hR.mono ?_
     rintro e w3 ⟨rfl,hN3,o3⟩
     have o4:=oR.trans o3
     have hb3:=hbr.only o3 hPB
     clear hR
     go_wp2_with fail
     go_roundw
     case rel=>exact⟨j+1,_,by go_num,by omega,hN3,o4,hb3,HSn⟩
     case measure=>simp[intOf];omega
    ·have i1:¬ (j:Int)<(x.kids.length:Int):=by omega
     have i2:decide ((j:Int)<(x.kids.length:Int))=false:=decide_eq_false i1
     have hjj:j=x.kids.length:=by omega
     have HZ:=HQ.out wr (by have h:=HS.out;rw[hjj,List.drop_length,Ex.usesBs,Bool.not_true,Bool.or_false]at h;rw[←h];exact hNr) oR
     clear h1 HS HQ hIH hNr hjj
     go_wp2_with fail
     exact bodyPost_end (results_none rfl _ _ _) rfl HZ
  ·have hneg:decide (fstI (fuNames fs) x.name<0)=true:=decide_eq_true ((fst_neg _ x.name).2 hm)
   have hneg1:fstI (fuNames fs) x.name<0:=(fst_neg _ x.name).2 hm
   have HM:Hid (x.name∉fuNames fs):=hm
   clear hm
   generalize fstI (fuNames fs) x.name=fz at *
   have HSX:Hid (∀ w',Later wb w'→w'.cell? ⟨w.heap.size,0,none⟩=some (.int .i64 6)∧w'.cell? ⟨w.heap.size,4,none⟩=some (.slice y0 x.name.length q0)∧w'.cell? ⟨P,0,none⟩=some (.slice vsa vsn vsc)∧w'.cell? ⟨P,1,none⟩=some (.slice vfa fs.length vfc)):=fun w' ll=>⟨((hbx.later ll).cell 0 _ rfl).1,((hbx.later ll).cell 4 _ rfl).1,by rw[Below.cell ll (p:=⟨P,0,none⟩) hPl];exact p0,by rw[Below.cell ll (p:=⟨P,1,none⟩) hPl];exact p1⟩
   go_enter Tryz.func54,Tryz.ntmps54
   go_wp2_with fail
   rw[←hwb.out]
   go_quiet (fail)
   go_wp2_with fail
   go_region_held3 (fun w'=>w'.cell? ⟨w.heap.size,0,none⟩=some (.int .i64 6)∧w'.cell? ⟨w.heap.size,4,none⟩=some (.slice y0 x.name.length q0)∧w'.cell? ⟨P,0,none⟩=some (.slice vsa vsn vsc)∧w'.cell? ⟨P,1,none⟩=some (.slice vfa fs.length vfc)) (first|exact HSX.out _ ((later_drewN (Later.refl _) _).trans (Later.drew _))|exact HSX.out _ (((later_drewN (Later.refl _) _).trans (Later.drew _)).trans l8)) ((go_at_call 24;refine (hG _ ((later_drewN (Later.refl _) _).trans (Later.drew _))).mono ?_;rintro e w8 ⟨rfl,l8⟩;have L8:Later wb w8:=((later_drewN (Later.refl _) _).trans (Later.drew _)).trans l8;have hN8:=hNb.later L8;obtain⟨⟨_,_,_,_,hP8,_⟩,_⟩:=hN8;have pp4:=(hP8.cell 4 _ rfl).1;have ff4:=(hP8.cell 4 _ rfl).2))
   have HS0:Hid ((true||!Ex.usesBs (fuNames fs) seen x.kids)=(bad||!x.usesB (fuNames fs) seen)):=by unfold Hid;rw[HE'.out];simp[HK.out,HM.out]
   clear HE' b0 b4 b5 p0 p1 p3 p4 f4 hF hG hPl hBl
   go_wp2_with fail
   go_loopw [4] (fun i wr=>∃ (j:Nat) (b:Bool),i=.int .i64 (j:Int)∧j≤x.kids.length∧Nn w0 wr P (.slice vsa vsn vsc) (.slice vfa fs.length vfc) all seen b∧OnlyK P w wr∧Bxx wr w.heap.size [.int .i64 6,.int .i64 x.n,.int .i64 x.tk,.int .i64 x.tn,.slice y0 x.name.length q0,.slice y1 x.kids.length q1]∧Hid ((b||!Ex.usesBs (fuNames fs) seen (x.kids.drop j))=(bad||!x.usesB (fuNames fs) seen))) (fun i _=>x.kids.length - (intOf i).toNat)
   case atStart=>exact⟨0,true,rfl,Nat.zero_le _,(hNb.later L8).set,((lOb.trans (OnlyK.of_later L8)).set 4 _),((hbx.later L8).other hPB _),HS0⟩
   case round =>
    obtain⟨j,b,rfl,hj,hNr,oR,hbr,HS⟩:=hrel
    have lr:=hNr.lat
    clear hNb hbx HS0 lOb
    have b5:=(hbr.cell 5 _ rfl).1
    by_cases hlt:j<x.kids.length
    ·obtain⟨g,off,k0,k1,rfl,hgs,c0,c1,c2,c3,c4,c5,r0,r1⟩:=Ex.elem h1 j hlt
     have i1:(j:Int)<(x.kids.length:Int):=by omega
     have c0:wr.cell? ⟨g,off+j*6,none⟩=some (.int .i64 x.kids[j].kind):=by rw[Below.cell lr (p:=⟨g,off+j*6,none⟩) hgs];exact c0
     have c1:wr.cell? ⟨g,off+j*6+1,none⟩=some (.int .i64 x.kids[j].n):=by rw[Below.cell lr (p:=⟨g,off+j*6+1,none⟩) hgs];exact c1
     have c2:wr.cell? ⟨g,off+j*6+2,none⟩=some (.int .i64 x.kids[j].tk):=by rw[Below.cell lr (p:=⟨g,off+j*6+2,none⟩) hgs];exact c2
     have c3:wr.cell? ⟨g,off+j*6+3,none⟩=some (.int .i64 x.kids[j].tn):=by rw[Below.cell lr (p:=⟨g,off+j*6+3,none⟩) hgs];exact c3
     have c4:wr.cell? ⟨g,off+j*6+4,none⟩=some k0:=by rw[Below.cell lr (p:=⟨g,off+j*6+4,none⟩) hgs];exact c4
     have c5:wr.cell? ⟨g,off+j*6+5,none⟩=some k1:=by rw[Below.cell lr (p:=⟨g,off+j*6+5,none⟩) hgs];exact c5
     have hR:=hIH j hlt k0 k1 wr b r0 r1 hNr
     have HSn:Hid (((b||!x.kids[j].usesB (fuNames fs) seen)||!Ex.usesBs (fuNames fs) seen (x.kids.drop (j+1)))=(bad||!x.usesB (fuNames fs) seen)):=by
      have h:=HS.out
      rw[List.drop_eq_getElem_cons hlt,Ex.usesBs_cons]at h
      unfold Hid
      rw[←h]
      cases b <;> cases x.kids[j].usesB (fuNames fs) seen <;> simp
     obtain⟨z0,d0,rfl,_⟩:=r0.slice
     obtain⟨z1,d1,rfl,_⟩:=Ex.slice r1
     clear r0 r1 HS h1 hNr
     generalize x.kids[j].usesB (fuNames fs) seen=ub at *
     generalize x.kids[j].kind=e_k at *
     generalize x.kids[j].n=e_n at *
     generalize x.kids[j].tk=e_tk at *
     generalize x.kids[j].tn=e_tn at *
     go_wp2_with fail
     refine hR.mono ?_
     rintro e w3 ⟨rfl,hN3,o3⟩
     have o4:=oR.trans o3
     have hb3:=hbr.only o3 hPB
     clear hR
     go_wp2_with fail
     go_roundw
     case rel=>exact⟨j+1,_,by go_num,by omega,hN3,o4,hb3,HSn⟩
     case measure=>simp[intOf];omega
    ·have i1:¬ (j:Int)<(x.kids.length:Int):=by omega
     have i2:decide ((j:Int)<(x.kids.length:Int))=false:=decide_eq_false i1
     have hjj:j=x.kids.length:=by omega
     have HZ:=HQ.out wr (by have h:=HS.out;rw[hjj,List.drop_length,Ex.usesBs,Bool.not_true,Bool.or_false]at h;rw[←h];exact hNr) oR
     clear h1 HS HQ hIH hNr hjj
     go_wp2_with fail
     exact bodyPost_end (results_none rfl _ _ _) rfl HZ
 ·have n3:=neb k3
  have n6:=neb k6
  have HK:Hid (x.kind≠3∧x.kind≠6):=⟨k3,k6⟩
  clear k3 k6
  generalize hxk:x.kind=xk at hbx b0 hwb n3 n6 ⊢
  have HK2:Hid (x.kind=xk):=hxk
  clear hxk
  go_enter Tryz.func54,Tryz.ntmps54
  go_wp2_with fail
  rw[←hwb.out]
  go_quiet (fail)
  go_wp2_with fail
  go_quiet (fail)
  have HS0:Hid ((bad||!Ex.usesBs (fuNames fs) seen x.kids)=(bad||!x.usesB (fuNames fs) seen)):=by unfold Hid;rw[HE'.out];simp[neb HK.out.1,neb HK.out.2]
  clear HE' b0 b4 b5 p0 p1 p3 p4 f4 hF hG hPl hBl
  go_wp2_with fail
  go_loopw [4] (fun i wr=>∃ (j:Nat) (b:Bool),i=.int .i64 (j:Int)∧j≤x.kids.length∧Nn w0 wr P (.slice vsa vsn vsc) (.slice vfa fs.length vfc) all seen b∧OnlyK P w wr∧Bxx wr w.heap.size [.int .i64 xk,.int .i64 x.n,.int .i64 x.tk,.int .i64 x.tn,.slice y0 x.name.length q0,.slice y1 x.kids.length q1]∧Hid ((b||!Ex.usesBs (fuNames fs) seen (x.kids.drop j))=(bad||!x.usesB (fuNames fs) seen))) (fun i _=>x.kids.length - (intOf i).toNat)
  case atStart=>exact⟨0,bad,rfl,Nat.zero_le _,hNb.later (later_drewN (later_drewN (Later.refl _) _) _),lOb.trans (OnlyK.of_later (later_drewN (later_drewN (Later.refl _) _) _)),hbx.later (later_drewN (later_drewN (Later.refl _) _) _),HS0⟩
  case round =>
   obtain⟨j,b,rfl,hj,hNr,oR,hbr,HS⟩:=hrel
   have lr:=hNr.lat
   clear hNb hbx HS0 lOb
   have b5:=(hbr.cell 5 _ rfl).1
   by_cases hlt:j<x.kids.length
   ·obtain⟨g,off,k0,k1,rfl,hgs,c0,c1,c2,c3,c4,c5,r0,r1⟩:=Ex.elem h1 j hlt
    have i1:(j:Int)<(x.kids.length:Int):=by omega
    have c0:wr.cell? ⟨g,off+j*6,none⟩=some (.int .i64 x.kids[j].kind):=by rw[Below.cell lr (p:=⟨g,off+j*6,none⟩) hgs];exact c0
    have c1:wr.cell? ⟨g,off+j*6+1,none⟩=some (.int .i64 x.kids[j].n):=by rw[Below.cell lr (p:=⟨g,off+j*6+1,none⟩) hgs];exact c1
    have c2:wr.cell? ⟨g,off+j*6+2,none⟩=some (.int .i64 x.kids[j].tk):=by rw[Below.cell lr (p:=⟨g,off+j*6+2,none⟩) hgs];exact c2
    have c3:wr.cell? ⟨g,off+j*6+3,none⟩=some (.int .i64 x.kids[j].tn):=by rw[Below.cell lr (p:=⟨g,off+j*6+3,none⟩) hgs];exact c3
    have c4:wr.cell? ⟨g,off+j*6+4,none⟩=some k0:=by rw[Below.cell lr (p:=⟨g,off+j*6+4,none⟩) hgs];exact c4
    have c5:wr.cell? ⟨g,off+j*6+5,none⟩=some k1:=by rw[Below.cell lr (p:=⟨g,off+j*6+5,none⟩) hgs];exact c5
    have hR:=hIH j hlt k0 k1 wr b r0 r1 hNr
    have HSn:Hid (((b||!x.kids[j].usesB (fuNames fs) seen)||!Ex.usesBs (fuNames fs) seen (x.kids.drop (j+1)))=(bad||!x.usesB (fuNames fs) seen)):=by
     have h:=HS.out
     rw[List.drop_eq_getElem_cons hlt,Ex.usesBs_cons]at h
     unfold Hid
     rw[←h]
     cases b <;> cases x.kids[j].usesB (fuNames fs) seen <;> simp
    obtain⟨z0,d0,rfl,_⟩:=r0.slice
    obtain⟨z1,d1,rfl,_⟩:=Ex.slice r1
    clear r0 r1 HS h1 hNr
    generalize x.kids[j].usesB (fuNames fs) seen=ub at *
    generalize x.kids[j].kind=e_k at *
    generalize x.kids[j].n=e_n at *
    generalize x.kids[j].tk=e_tk at *
    generalize x.kids[j].tn=e_tn at *
    go_wp2_with fail
    refine hR.mono ?_
    rintro e w3 ⟨rfl,hN3,o3⟩
    have o4:=oR.trans o3
    have hb3:=hbr.only o3 hPB
    clear hR
    go_wp2_with fail
    go_roundw
    case rel=>exact⟨j+1,_,by go_num,by omega,hN3,o4,hb3,HSn⟩
    case measure=>simp[intOf];omega
   ·have i1:¬ (j:Int)<(x.kids.length:Int):=by omega
    have i2:decide ((j:Int)<(x.kids.length:Int))=false:=decide_eq_false i1
    have hjj:j=x.kids.length:=by omega
    have HZ:=HQ.out wr (by have h:=HS.out;rw[hjj,List.drop_length,Ex.usesBs,Bool.not_true,Bool.or_false]at h;rw[←h];exact hNr) oR
    clear h1 HS HQ hIH hNr hjj
    go_wp2_with fail
    exact bodyPost_end (results_none rfl _ _ _) rfl HZ
end Go.Proofs.YtmdejbphoafjlaaGreatDoor
