import Derived.Test.YtgaddpkkjebekaaGreatDoorZ07
import Derived.Test.YtgaddpkkjebekaaGreatDoorZ09
import Derived.Test.YtgaddpkkjebekaaGreatDoorZ08
import Derived.BigQuiet
import Derived.Shelf.SlMaps.Clone
set_option maxHeartbeats 100000000
set_option maxRecDepth 100000
namespace Go.Proofs.YtgaddpkkjebekaaGreatDoor
open Go.RowKit Go.Maps
mutual
def St.yu:St->Bool
 | .mk k _ _ _ _ _ bo el=>(k==4)||((k==6)||((k==2)&&St.ends bo&&St.ends el))
def St.ends:List St->Bool
 | []=>false
 | x::r=>if r.isEmpty then St.yu x else St.ends r
end
mutual
def St.pX:St->Bool
 | .mk _ _ _ _ _ _ bo el=>St.iL bo&&St.iL el
def St.iL:List St->Bool
 | []=>true
 | x::r=>St.pX x&&(r.isEmpty||!St.yu x)&&St.iL r
end
theorem St.Ky (x:St):x.yu=((x.kind==4)||((x.kind==6)||((x.kind==2)&&St.ends x.body&&St.ends x.els))):=by obtain⟨k,n,tk,tn,nm,ks,bo,el⟩:=x;rw[St.yu];rfl
theorem St.Qb (x:St):x.pX=(St.iL x.body&&St.iL x.els):=by obtain⟨k,n,tk,tn,nm,ks,bo,el⟩:=x;rw[St.pX];rfl
theorem St.Dv:∀ (l:List St) (j:Nat) (h:j<l.length),j+1=l.length->St.ends l=l[j].yu
 | [x],0,_,_=>by rw[St.ends];rfl
 | x::y::r,j+1,h,e=>by
  rw[St.ends];simp only[List.isEmpty_cons,List.getElem_cons_succ];exact St.Dv (y::r) j (Nat.lt_of_succ_lt_succ h) (by simpa using e)
theorem St.yf:∀ (l:List St),St.iL l=true↔∀ j (h:j<l.length),l[j].pX=true/\(j+1<l.length->l[j].yu=false)
 | []=>by rw[St.iL];exact⟨fun _ j h=>absurd h (Nat.not_lt_zero _),fun _=>rfl⟩
 | x::r=>by
  rw[St.iL,Bool.and_eq_true,Bool.and_eq_true,St.yf r];constructor
  ·rintro ⟨⟨h1,h2⟩,h3⟩ j h
   match j with
   | 0 =>
    refine⟨h1,fun q=>?_⟩
    cases r with
    | nil=>simp at q
    | cons y r=>simpa using h2
   | j+1 =>
    obtain⟨a,b⟩:=h3 j (Nat.lt_of_succ_lt_succ h);exact⟨a,fun q=>b (by simpa using q)⟩
  ·intro h;refine⟨⟨(h 0 (Nat.succ_pos _)).1,?_⟩,fun j hj=>?_⟩
   ·cases r with
    | nil=>rfl
    | cons y r =>
     have:=(h 0 (Nat.succ_pos _)).2 (by simp);simpa using this
   ·obtain⟨a,b⟩:=h (j+1) (Nat.succ_lt_succ hj);exact⟨a,fun q=>b (by simpa using q)⟩
theorem St.Qa {l:List St}{j:Nat}(h:j<l.length) (hb:l[j].pX=true->j+1<l.length/\l[j].yu=true):St.iL l=false:=by
 rw[<-Bool.not_eq_true,St.yf];intro q;obtain⟨a,b⟩:=q j h;obtain⟨c,d⟩:=hb a;rw[b c]at d
 cases d
def fO (b:Bool) (w:World) (e:Ending) (w':World):Prop:=e=.returned (.bool b)/\Later w w'
theorem St.oZ (l:List St):St.ah l=l.map St.dat:=by
 induction l with
 | nil=>rw[St.ah,List.map_nil]
 | cons x r ih=>rw[St.ah,ih,List.map_cons]
theorem ET (l:List (List Int)):∀ j z v,rf l j z=some v->∃ i,i<j/\v=(i:Int)/\l.getD i []=z
 | j+1,z,v,h=>by
  rw[rf,upd]at h;by_cases hz:z=l.getD j []
  ·rw[if_pos hz]at h
   cases h
   exact⟨j,by omega,rfl,hz.symm⟩
  ·rw[if_neg hz]at h;obtain⟨i,h1,h2,h3⟩:=ET l j z v h;exact⟨i,by omega,h2,h3⟩
def Fv:List Int:=[109,97,105,110]
theorem SA:Nm Fv:=⟨eY (by decide),by decide⟩
def bH (l:List Fu):List (List Int):=l.map Fu.name
theorem jS (l:List Fu):(bH l).length=l.length:=by unfold bH;rw[List.length_map]
def Qz (l:List Fu) (m:Int):Bool:=match l[m.toNat]? with
 | some f=>decide (f.params.length=0)&&(f.rk==0)
 | none=>false
def BL (l:List Fu):Bool:=uniq (bH l)&&match plc (bH l) Fv with
 | some m=>Qz l m
 | none=>false
def TN (l:List Fu) (w:World) (e:Ending) (w':World):Prop:=Later w w' /\
 ((∃ b,e=.returned (.tuple #[.map (some b),.bool (BL l)])/\Mp w' b l.length (plc (bH l))/\w.heap.size<=b)\/(BL l=false/\e=.returned (.tuple #[.map none,.bool false])))
theorem OY:Value.string { data:=#[109,97,105,110] }=.string (strOfNums Fv):=by
 congr 1
theorem Gm (l:List Fu) (v0 v1:Value) (w:World) (h0:∃ a n c,v0=.slice a n c) (h:RdL w 5 v1 (Fu.ah l)) (hN:∀ f∈l,Nm f.name) (hlen:l.length<=1000000) :
  Calls Tryz.prog 21 #[.agg #[v0,v1]] w (TN l w):=by
 obtain⟨sa,sn,sc,rfl⟩:=h0;obtain⟨a,cap,rfl,hl⟩:=Fu.slice h;obtain⟨i0,hi,hz0,hz1,hz2⟩:=info_parts Tryz.info22
 obtain⟨w1,hw1⟩:∃ w1,Hid (w1=w.alloc (.cells #[.slice sa sn sc,.slice a l.length cap] 28)):=⟨_,rfl⟩
 have L1:Later w w1:=by rw[hw1.out];exact ae _ _
 have s1:w.heap.size<w1.heap.size:=by rw[hw1.out];simp
 have b1:w1.cell? ⟨w.heap.size,1,none⟩=some (.slice a l.length cap):=by rw[hw1.out];simp
 have hR:=RdL.later L1 h
 have HF:Hid (∀ w' e,Later w w'->BL l=false->e=.returned (.tuple #[.map none,.bool false])->TN l w e w'):=fun w' e h1 h2 h3=>⟨h1,.inr ⟨h2,h3⟩⟩
 have HT:Hid (∀ w' e b,Later w w'->e=.returned (.tuple #[.map (some b),.bool (BL l)])->Mp w' b l.length (plc (bH l))->w.heap.size<=b->TN l w e w'):=fun w' e b h1 h2 h3 h4=>⟨h1,.inl ⟨b,h2,h3,h4⟩⟩
 generalize hQ:TN l w=Q at *
 clear hQ;go_enter Tryz.func21,Tryz.ntmps21;go_wp2_with fail
 rw[<-hw1.out];go_loopw [4,15] (fun r i wr=>∃ (j:Nat) (xs:List Value) (rv:Value),rv=r/\i=.int .i64 (j:Int)/\j<=l.length/\NmB w1 wr rv (bH (l.take j)) xs) (fun _ i _=>l.length - (intOf i).toNat)
 case atStart=>exact⟨0,[],_,rfl,rfl,Nat.zero_le _,NmB.nil w1⟩
 case round =>
  obtain⟨j,xs,rv,rfl,rfl,hj,hB⟩:=hrel;by_cases hlt:j<l.length
  ·obtain⟨g,off,u0,u1,u2,rfl,hgs,c0,c1,c2,c3,c4,r0,r1,r2⟩:=Fu.elem hR j hlt;have i1:(j:Int)<(l.length:Int):=by omega
   have lb:=hB.lat;have c0:wr.cell? ⟨g,off+j*5,none⟩=some u0:=by rw[Below.cell lb (p:=⟨g,off+j*5,none⟩) hgs];exact c0
   have c1:wr.cell? ⟨g,off+j*5+1,none⟩=some u1:=by rw[Below.cell lb (p:=⟨g,off+j*5+1,none⟩) hgs];exact c1
   have c2:wr.cell? ⟨g,off+j*5+2,none⟩=some (.int .i64 l[j].rk):=by rw[Below.cell lb (p:=⟨g,off+j*5+2,none⟩) hgs];exact c2
   have c3:wr.cell? ⟨g,off+j*5+3,none⟩=some (.int .i64 l[j].rn):=by rw[Below.cell lb (p:=⟨g,off+j*5+3,none⟩) hgs];exact c3
   have c4:wr.cell? ⟨g,off+j*5+4,none⟩=some u2:=by rw[Below.cell lb (p:=⟨g,off+j*5+4,none⟩) hgs];exact c4
   have hlx:(bH (l.take j)).length=j:=by rw[jS,List.length_take];omega
   have hrow:=hB.row;rw[hlx]at hrow;obtain⟨ra,rc,hra⟩:=aP hrow
   have HP:Hid (∀ w2 w' v',Later wr w2->w'.ownsRow w1.heap.size 22 1 v' (j+1) (xs++[u0])->w2.grownBy w' rv.ownBlock->NmB w1 w' v' (bH (l.take (j+1))) (xs++[u0])):=fun w2 w' v' h1 ho hg=>by
    have:=hB.push r0 h1 (v':=v') (by rw[hlx];exact ho) hg;have e:bH (l.take (j+1))=bH (l.take j)++[l[j].name]:=by unfold bH;rw[List.take_succ_eq_append_getElem hlt,List.map_append];rfl
    rw[e];exact this
   have hsz:=hB.lat.size;obtain⟨y0,q0,rfl,_⟩:=r0.slice;obtain⟨y1,q1,rfl,_⟩:=Pa.slice r1;obtain⟨y2,q2,rfl,_⟩:=St.slice r2
   generalize l[j].rk=z_rk at *
   generalize l[j].rn=z_rn at *
   generalize l[j].name.length=z_len at *
   generalize l[j].params.length=z_pl at *
   generalize l[j].body.length=z_bl at *
   clear h hB r0 r1 r2 hR hlx lb;subst hra;go_wp2_with (at_builtin;refine wpList_append_own _ rfl _ _ 65 rfl w1.heap.size 22 i0 (.slice none 0 0) 1 24 Tryz.underlying65 hi hz0 hz1 hz2 rfl (by decide) _ _ _ rfl ((hrow.alloc _).alloc _) _ 1 1 [.slice y0 z_len q0] rfl rfl (fA _ _ _ (by simp)) (by simp[Value.oneCell']) (by unfold maxLen;omega) (by omega) (by simp;omega) ?_;intro v3 w3 o3 g3 _;have HQ:=HP.out _ _ _ (bF _ _ _) o3 g3;obtain⟨a3,p3,hv3⟩:=aP o3;rw[hv3]at HQ ⊢)
   go_roundw
   case rel=>exact⟨j+1,_,_,rfl,by go_num,by omega,HQ⟩
   case measure=>simp[intOf];omega
  ·have i1:¬ (j:Int)<(l.length:Int):=by omega
   have i2:decide ((j:Int)<(l.length:Int))=false:=decide_eq_false i1;have hjj:j=l.length:=by omega
   have HR:RdL wr 1 rv (nmD (bH l)):=by have:=hB.done;rw[hjj,List.take_length]at this;exact this
   have lr:=hB.lat;have hP:=places_any rv (bH l) wr HR (fun z hz=>by obtain⟨f,hf,rfl⟩:=List.mem_map.1 hz;exact hN f hf) (by rw[jS];exact hlen);obtain⟨ra,rc,hra,_⟩:=Af HR;have hR2:=RdL.later lr hR;have b2:wr.cell? ⟨w.heap.size,1,none⟩=some (.slice a l.length cap):=by rw[Below.cell lr (p:=⟨w.heap.size,1,none⟩) s1];exact b1
   have s2:w.heap.size<wr.heap.size:=Nat.lt_of_lt_of_le s1 lr.size;have LR:=L1.trans lr;clear h hB hR HR hN hi hz0 hz1 hz2 b1;subst hra;go_wp2_with fail
   refine hP.mono ?_;rintro e w2 ⟨rfl,hM,l2⟩;have L2:=LR.trans l2;have b3:w2.cell? ⟨w.heap.size,1,none⟩=some (.slice a l.length cap):=by rw[Below.cell l2 (p:=⟨w.heap.size,1,none⟩) s2];exact b2
   have hlk:=hM.look SA;rw[<-OY]at hlk;have hR3:=RdL.later l2 hR2
   cases hu:uniq (bH l) with
   | false =>
    have HA:=HF.out w2 _ L2 (by unfold BL;rw[hu];rfl) rfl;clear HF HT hM hR2 hR3 hP
    generalize (plc (bH l) Fv)=pm at *
    go_wp2_with fail
    exact HA
   | true =>
    have hcn:cnt (bH l) (bH l).length=l.length:=by have:=hu;unfold uniq at this;rw[decide_eq_true_eq,jS]at this;rw[jS];exact this
    rw[hcn]at hM
    cases hm:plc (bH l) Fv with
    | none =>
     have HA:=HF.out w2 _ L2 (by unfold BL;rw[hu,hm];rfl) rfl;rw[hm]at hlk;clear HF HT hM hR2 hR3 hP;go_wp2_with fail
     exact HA
    | some m =>
     rw[hm]at hlk;obtain⟨i,hi1,rfl,_⟩:=ET _ _ _ _ hm;rw[jS]at hi1;have i3:(i:Int)<(l.length:Int):=by omega
     obtain⟨g,off,u0,u1,u2,rfl,hgs,c0,c1,c2,c3,c4,r0,r1,r2⟩:=Fu.elem hR3 i hi1
     have hfb:BL l=(decide (l[i].params.length=0)&&(l[i].rk==0)):=by
      unfold BL Qz;rw[hu,hm];simp[hi1]
     have HA:Hid (∀ b w',Later w2 w'->b=(decide (l[i].params.length=0)&&(l[i].rk==0))->Q (.returned (.tuple #[.map (some wr.heap.size),.bool b])) w'):=fun b w' ll hb=>HT.out w' _ wr.heap.size (L2.trans ll) (by rw[hfb,hb]) (hM.later ll) LR.size;obtain⟨y0,q0,rfl,_⟩:=r0.slice;obtain⟨y1,q1,rfl,_⟩:=Pa.slice r1;obtain⟨y2,q2,rfl,_⟩:=St.slice r2;clear HF HT hM hR2 hR3 hP r0 r1 r2 hfb hcn
     generalize l[i].rk=z_rk at *
     generalize l[i].rn=z_rn at *
     generalize l[i].name.length=z_len at *
     generalize l[i].params.length=z_pl at *
     generalize l[i].body.length=z_bl at *
     by_cases hp:z_pl=0
     ·subst hp;have HB:Hid (∀ w',Later w2 w'->Q (.returned (.tuple #[.map (some wr.heap.size),.bool (z_rk==0)])) w'):=fun w' ll=>HA.out (z_rk==0) w' ll (by simp);clear HA;go_wp2_with fail
      go_quiet (fail)
      go_wp2_with fail
      exact HB.out _ (by first|exact ae _ _|exact (ae _ _).trans (bg (Later.refl _) _))
     ·have hp':((z_pl:Int)==0)=false:=by simp;omega
      have HB:Hid (∀ w',Later w2 w'->Q (.returned (.tuple #[.map (some wr.heap.size),.bool false])) w'):=fun w' ll=>HA.out false w' ll (by simp[hp]);clear HA;go_wp2_with fail
      go_quiet (fail)
      go_wp2_with fail
      exact HB.out _ (by first|exact ae _ _|exact (ae _ _).trans (bg (Later.refl _) _))
theorem Io (b:Nat) (es:Array MapEntry) (clock:Nat) (w:World) (hb:w.heap[b]?=some (.map es clock)) :
  Calls Tryz.prog 26 #[.map (some b)] w fun e w'=>e=.returned (.map (some w.heap.size))/\w'=w.alloc (.map es clock):=by
 have hq:=fun (w:World)=>run_eql_map_nil_sl (P:=Tryz.prog) w 60 _ _ (some b) Tryz.underlying60;go_enter Tryz.func26,Tryz.ntmps26;go_wp2
 rw[run_callFunc_extern Tryz.func57 (by kernel_rfl) (by kernel_rfl) (by kernel_rfl) (e:=Extern.MapsClone.clone) (by kernel_rfl),run_maps_clone_sl w 60 hb];simp only[Result.andThen];rw[Oper.upon_value];go_wp2
 rw[run_typeAssert_map_sl _ 60 _ _ _ _ Tryz.underlying60];simp only[Result.andThen];rw[Oper.upon_value];go_wp2
 go_ret;exact⟨rfl,rfl⟩
theorem Ip (b n:Nat) (f:List Int->Option Int) (w:World) (h:Mp w b n f):Calls Tryz.prog 26 #[.map (some b)] w fun e w'=>e=.returned (.map (some w.heap.size))/\Mp w' w.heap.size n f/\Later w w':=by
 obtain⟨D,⟨es,clock,hb,F,hs,hD⟩,h2⟩:=h;refine (Io b es clock w hb).mono ?_;rintro e w' ⟨rfl,rfl⟩;exact⟨rfl,⟨D,⟨es,clock,(MapKept.heap_alloc w _).1,F,hs,hD⟩,h2⟩,ae _ _⟩
theorem EU (l r:List (List Int)):∀ j,j<=l.length->rf (l++r) j=rf l j
 | 0,_=>rfl
 | j+1,h=>by
  rw[rf,rf,EU l r j (by omega)]
  have:(l++r).getD j []=l.getD j []:=by
   rw[List.getD_eq_getElem?_getD,List.getD_eq_getElem?_getD,List.getElem?_append_left (by omega)]
  rw[this]
theorem EW (l:List (List Int)) (z:List Int):plc (l++[z])=upd (plc l) z l.length:=by
 unfold plc;rw[List.length_append,List.length_singleton,rf,EU l [z] _ (Nat.le_refl _)];have:(l++[z]).getD l.length []=z:=by rw[List.getD_eq_getElem?_getD,List.getElem?_append_right (Nat.le_refl _),Nat.sub_self];rfl
 rw[this]
def jO (all seen:List (List Int)):List Int->Option Int:=fun z=>if z∈seen then plc all z else none
structure Ng (w:World) (K bf bd bs:Nat) (fs all seen:List (List Int)):Prop where
 box:Bxx w K [.map (some bf),.map (some bd),.map (some bs)]
 mf:∃ n,Mp w bf n (plc fs)
 md:Mp w bd all.length (plc all)
 ms:∃ n,n<=all.length/\Mp w bs n (jO all seen)
 ne:bd≠bs/\bf≠bd/\bf≠bs
 nd:all.Nodup
 sub:∀ z∈seen,z∈all
theorem Ng.kept {w w':World}{K bf bd bs:Nat}{fs all seen:List (List Int)}(h:Ng w K bf bd bs fs all seen) (hs:w.heap.size<=w'.heap.size) (hb:∀ b,b=K\/b=bf\/b=bd\/b=bs->w'.heap[b]?=w.heap[b]?):Ng w' K bf bd bs fs all seen:=by
 obtain⟨h1,⟨n,h2⟩,h3,⟨m,hm,h4⟩,h5,h6,h7⟩:=h;exact⟨h1.kept hs (hb K (.inl rfl)),⟨n,h2.kept (hb bf (.inr (.inl rfl)))⟩,h3.kept (hb bd (.inr (.inr (.inl rfl)))),⟨m,hm,h4.kept (hb bs (.inr (.inr (.inr rfl))))⟩,h5,h6,h7⟩
theorem Iq {w:World}{K b n:Nat}{f:List Int->Option Int}{u:Value}{xs:List Value}(h1:Bxx w K (u::xs)) (h2:Mp w b n f):K≠b:=by
 intro e;subst e;obtain⟨D,⟨es,clock,hb,_⟩,_⟩:=h2;have:=(h1.cell 0 u rfl).1;unfold World.cell? at this;simp only[hb]at this
 cases this
def QF (w:World) (K bf bd bs:Nat) (fs all seen:List (List Int)) (z:List Int) (e:Ending) (w':World):Prop :=
 (z∈all/\e=.returned (.tuple #[.int .i64 0,.bool false])/\w'=w)\/(z∉all/\e=.returned (.tuple #[.int .i64 all.length,.bool true])/\Ng w' K bf bd bs fs (all++[z]) (seen++[z])/\ay [bd,bs] w w')
theorem Ef (w:World) (K bf bd bs:Nat) (fs all seen:List (List Int)) (z:List Int) (h:Ng w K bf bd bs fs all seen) (hz:Nm z) (hl:all.length<=800000) :
  Calls Tryz.prog 87 #[.pointer (some ⟨K,0,none⟩),.string (strOfNums z)] w (QF w K bf bd bs fs all seen z):=by
 have x1:=(h.box.cell 1 _ rfl).1;have x2:=(h.box.cell 2 _ rfl).1;have hlk:=h.md.look hz;have hKd:=Iq h.box h.md;obtain⟨m,hm,hms⟩:=h.ms;have hKs:=Iq h.box hms;by_cases hz1:z∈all
 ·have HA:Hid (QF w K bf bd bs fs all seen z (.returned (.tuple #[.int .i64 0,.bool false])) w):=.inl ⟨hz1,rfl,rfl⟩;have hs:(plc all z).isSome=true:=(kH all all.length z (Nat.le_refl _)).2 (by rw[List.take_length];exact hz1);rw[hs]at hlk
  generalize (plc all z).getD 0=pv at *
  generalize hQ:QF w K bf bd bs fs all seen z=Q at *
  clear hQ h hms hs;go_enter Tryz.func87,Tryz.ntmps87;go_wp2_with fail
  exact HA.out
 ·have hp:plc all z=none:=zX hz1;rw[hp]at hlk;have hlen:=fun ty=>h.md.len ty;obtain⟨w1,hu1,hM1,ht1⟩:=h.md.put (by omega) hz (Hg (j:=all.length) (by omega));obtain⟨hb1,hs1,ho1,hta1,hou1⟩:=iP ht1;rw[hp]at hM1;have hms1:=hms.kept (hb1 bs (Ne.symm h.ne.1));obtain⟨w2,hu2,hM2,ht2⟩:=hms1.put (by omega) hz (Hg (j:=all.length) (by omega));obtain⟨hb2,hs2,ho2,hta2,hou2⟩:=iP ht2;have hsn:jO all seen z=none:=by unfold jO;split;exact hp;rfl
  rw[hsn]at hM2;have x2':w1.cell? ⟨K,2,none⟩=some (.map (some bs)):=by rw[World.cell?_of_block (w:=w) (w':=w1) (a:=⟨K,2,none⟩) (hb1 K hKd)];exact x2
  have x1':w1.cell? ⟨K,1,none⟩=some (.map (some bd)):=by rw[World.cell?_of_block (w:=w) (w':=w1) (a:=⟨K,1,none⟩) (hb1 K hKd)];exact x1
  have HA:Hid (QF w K bf bd bs fs all seen z (.returned (.tuple #[.int .i64 all.length,.bool true])) w2):=by
   refine .inr ⟨hz1,rfl,⟨?_,?_,?_,⟨m+1,?_,?_⟩,h.ne,?_,fun y hy=>?_⟩,⟨ho2.trans ho1,hta2.trans hta1,hou2.trans hou1,by omega,fun b _ hn=>?_⟩⟩
   ·exact h.box.kept (by omega) (by rw[hb2 K hKs,hb1 K hKd])
   ·obtain⟨n,hf⟩:=h.mf;exact⟨n,hf.kept (by rw[hb2 bf h.ne.2.2,hb1 bf h.ne.2.1])⟩
   ·rw[List.length_append,EW];exact hM1.kept (hb2 bd h.ne.1)
   ·rw[List.length_append];exact Nat.succ_le_succ hm
   ·refine hM2.congr fun y hy=>?_;unfold upd jO;rw[EW];unfold upd;by_cases e:y=z
    ·subst e;simp
    ·simp[e]
   ·rw[List.nodup_append];exact⟨h.nd,by simp,fun a ha b hb e=>hz1 (by rw[List.mem_singleton.1 hb]at e;rw[<-e];exact ha)⟩
   ·rw[List.mem_append]at hy ⊢;exact hy.imp (h.sub y) id
   ·simp at hn;rw[hb2 b hn.2,hb1 b hn.1]
  generalize hQ:QF w K bf bd bs fs all seen z=Q at *
  generalize all.length=AL at *
  clear hQ h hms hms1 hM1 hM2 hb1 hb2;go_enter Tryz.func87,Tryz.ntmps87;go_wp2_with fail
  exact HA.out
theorem aK {w:World}{b o:Nat}{v:Value}(h:w.cell? ⟨b,o,none⟩=some v):b<w.heap.size:=by
 unfold World.cell? at h;rcases Nat.lt_or_ge b w.heap.size with q|q
 ·exact q
 ·rw[Array.getElem?_eq_none q]at h;cases h
structure TyE (w:World):Prop where
 i0:w.cell? ⟨0,0,none⟩=some (.int .i64 1)
 i1:w.cell? ⟨0,1,none⟩=some (.int .i64 0)
 f0:w.cell? ⟨1,0,none⟩=some (.int .i64 2)
 f1:w.cell? ⟨1,1,none⟩=some (.int .i64 0)
theorem TyE.later {w w':World}(h:TyE w) (hl:Later w w'):TyE w' :=
 ⟨by rw[Below.cell hl (p:=⟨0,0,none⟩) (aK h.i0)];exact h.i0,by rw[Below.cell hl (p:=⟨0,1,none⟩) (aK h.i1)];exact h.i1,by rw[Below.cell hl (p:=⟨1,0,none⟩) (aK h.f0)];exact h.f0,by rw[Below.cell hl (p:=⟨1,1,none⟩) (aK h.f1)];exact h.f1⟩
def stT (k:Int):TypeId:=if k=0 then 141 else if k=1 then 150 else if k=2 then 151 else if k=3 then 152 else if k=4 then 153 else if k=5 then 154 else if k=6 then 155 else if k=7 then 156 else 139
def stV (k:Int) (g o:Nat):Value:=.iface (stT k) (.agg #[.pointer (some ⟨g,o,none⟩)])
def exV (k n:Int) (g o:Nat):Value:=if k=0 then .iface 202 (.agg #[.pointer (some ⟨g,o,none⟩),.int .i64 1,.int .i64 0]) else if k=1 then .iface 202 (.agg #[.pointer (some ⟨g,o,none⟩),.int .i64 2,.int .i64 0]) else if k=2 then .iface 202 (.agg #[.pointer (some ⟨g,o,none⟩),.int .i64 3,.int .i64 n]) else if k=3 then .iface 146 (.agg #[.pointer (some ⟨g,o,none⟩)]) else if k=4 then .iface 202 (.agg #[.pointer (some ⟨g,o,none⟩),.int .i64 3,.int .i64 n]) else if k=5 then .iface 203 (.agg #[.pointer (some ⟨g,o,none⟩)]) else if k=6 then .iface 149 (.agg #[.pointer (some ⟨g,o,none⟩)]) else if k=7 then .iface 204 (.agg #[.pointer (some ⟨g,o,none⟩)]) else if k=8 then .iface 205 (.agg #[.pointer (some ⟨g,o,none⟩)]) else if k=9 then .iface 206 (.agg #[.pointer (some ⟨g,o,none⟩)]) else if k=10 then .iface 209 (.agg #[.pointer (some ⟨g,o,none⟩)]) else if k=11 then .iface 202 (.agg #[.pointer (some ⟨g,o,none⟩),.int .i64 1,.int .i64 0]) else if k=12 then .iface 208 (.agg #[.pointer (some ⟨g,o,none⟩),.int .i64 2,.int .i64 0,.int .i64 1,.int .i64 0]) else if k=13 then .iface 208 (.agg #[.pointer (some ⟨g,o,none⟩),.int .i64 1,.int .i64 0,.int .i64 2,.int .i64 0]) else .iface 144 (.agg #[.pointer (some ⟨g,o,none⟩)])
theorem wY (k:Int) (g o:Nat) (w:World) (h:w.cell? ⟨g,o,none⟩=some (.int .i64 k)):Calls Tryz.prog 59 #[.pointer (some ⟨g,o,none⟩)] w fun e w'=>e=.returned (stV k g o)/\Later w w':=by
 have hg:g<w.heap.size:=aK h;unfold stV stT;rcases jd k with (rfl|rfl|rfl|rfl|rfl|rfl|rfl|rfl)|⟨n0,n1,n2,n3,n4,n5,n6,n7⟩
 ·go_enter Tryz.func59,Tryz.ntmps59;go_wp2_with fail
  go_ret;exact⟨rfl,ae _ _⟩
 ·go_enter Tryz.func59,Tryz.ntmps59;go_wp2_with fail
  go_ret;exact⟨rfl,ae _ _⟩
 ·go_enter Tryz.func59,Tryz.ntmps59;go_wp2_with fail
  go_ret;exact⟨rfl,ae _ _⟩
 ·go_enter Tryz.func59,Tryz.ntmps59;go_wp2_with fail
  go_ret;exact⟨rfl,ae _ _⟩
 ·go_enter Tryz.func59,Tryz.ntmps59;go_wp2_with fail
  go_ret;exact⟨rfl,ae _ _⟩
 ·go_enter Tryz.func59,Tryz.ntmps59;go_wp2_with fail
  go_ret;exact⟨rfl,ae _ _⟩
 ·go_enter Tryz.func59,Tryz.ntmps59;go_wp2_with fail
  go_ret;exact⟨rfl,ae _ _⟩
 ·go_enter Tryz.func59,Tryz.ntmps59;go_wp2_with fail
  go_ret;exact⟨rfl,ae _ _⟩
 ·rw[if_neg n0,if_neg n1,if_neg n2,if_neg n3,if_neg n4,if_neg n5,if_neg n6,if_neg n7];have m0:=neb n0;have m1:=neb n1;have m2:=neb n2;have m3:=neb n3;have m4:=neb n4;have m5:=neb n5;have m6:=neb n6;have m7:=neb n7;clear n0 n1 n2 n3 n4 n5 n6 n7;go_enter Tryz.func59,Tryz.ntmps59;go_wp2_with fail
  go_ret;exact⟨rfl,ae _ _⟩
theorem AQ (k n:Int) (g o:Nat) (w:World) (hE:TyE w) (h:w.cell? ⟨g,o,none⟩=some (.int .i64 k)) (hn:w.cell? ⟨g,o+1,none⟩=some (.int .i64 n)):Calls Tryz.prog 113 #[.pointer (some ⟨g,o,none⟩)] w fun e w'=>e=.returned (exV k n g o)/\Later w w':=by
 have hg:g<w.heap.size:=aK h;have i0:=hE.i0;have i1:=hE.i1;have f0:=hE.f0;have f1:=hE.f1;have gi:=aK i0;have gf:=aK f0;clear hE;unfold exV;rcases mD k with (rfl|rfl|rfl|rfl|rfl|rfl|rfl|rfl|rfl|rfl|rfl|rfl|rfl|rfl)|⟨n0,n1,n2,n3,n4,n5,n6,n7,n8,n9,n10,n11,n12,n13⟩
 ·go_enter Tryz.func113,Tryz.ntmps113;go_wp2_with fail
  go_ret;exact⟨rfl,by first|exact ae _ _|exact bF _ _ _|exact (ae _ _).trans (ae _ _)⟩
 ·go_enter Tryz.func113,Tryz.ntmps113;go_wp2_with fail
  go_ret;exact⟨rfl,by first|exact ae _ _|exact bF _ _ _|exact (ae _ _).trans (ae _ _)⟩
 ·go_enter Tryz.func113,Tryz.ntmps113;go_wp2_with fail
  go_region_law fail
  all_goals
   go_wp2_with fail
   go_ret;exact⟨rfl,by first|exact ae _ _|exact bF _ _ _|exact (ae _ _).trans (ae _ _)|exact (ae _ _).trans (Later.drew _)|exact ((ae _ _).trans (Later.drew _)).trans (ae _ _)|exact (bF _ _ _).trans (Later.drew _)⟩
 ·go_enter Tryz.func113,Tryz.ntmps113;go_wp2_with fail
  go_ret;exact⟨rfl,by first|exact ae _ _|exact bF _ _ _|exact (ae _ _).trans (ae _ _)⟩
 ·go_enter Tryz.func113,Tryz.ntmps113;go_wp2_with fail
  go_region_law fail
  all_goals
   go_wp2_with fail
   go_ret;exact⟨rfl,by first|exact ae _ _|exact bF _ _ _|exact (ae _ _).trans (ae _ _)|exact (ae _ _).trans (Later.drew _)|exact ((ae _ _).trans (Later.drew _)).trans (ae _ _)|exact (bF _ _ _).trans (Later.drew _)⟩
 ·go_enter Tryz.func113,Tryz.ntmps113;go_wp2_with fail
  go_ret;exact⟨rfl,by first|exact ae _ _|exact bF _ _ _|exact (ae _ _).trans (ae _ _)⟩
 ·go_enter Tryz.func113,Tryz.ntmps113;go_wp2_with fail
  go_ret;exact⟨rfl,by first|exact ae _ _|exact bF _ _ _|exact (ae _ _).trans (ae _ _)⟩
 ·go_enter Tryz.func113,Tryz.ntmps113;go_wp2_with fail
  go_ret;exact⟨rfl,by first|exact ae _ _|exact bF _ _ _|exact (ae _ _).trans (ae _ _)⟩
 ·go_enter Tryz.func113,Tryz.ntmps113;go_wp2_with fail
  go_ret;exact⟨rfl,by first|exact ae _ _|exact bF _ _ _|exact (ae _ _).trans (ae _ _)⟩
 ·go_enter Tryz.func113,Tryz.ntmps113;go_wp2_with fail
  go_ret;exact⟨rfl,by first|exact ae _ _|exact bF _ _ _|exact (ae _ _).trans (ae _ _)⟩
 ·go_enter Tryz.func113,Tryz.ntmps113;go_wp2_with fail
  go_ret;exact⟨rfl,by first|exact ae _ _|exact bF _ _ _|exact (ae _ _).trans (ae _ _)⟩
 ·go_enter Tryz.func113,Tryz.ntmps113;go_wp2_with fail
  go_ret;exact⟨rfl,by first|exact ae _ _|exact bF _ _ _|exact (ae _ _).trans (ae _ _)⟩
 ·go_enter Tryz.func113,Tryz.ntmps113;go_wp2_with fail
  go_ret;exact⟨rfl,by first|exact ae _ _|exact bF _ _ _|exact (ae _ _).trans (ae _ _)⟩
 ·go_enter Tryz.func113,Tryz.ntmps113;go_wp2_with fail
  go_ret;exact⟨rfl,by first|exact ae _ _|exact bF _ _ _|exact (ae _ _).trans (ae _ _)⟩
 ·rw[if_neg n0,if_neg n1,if_neg n2,if_neg n3,if_neg n4,if_neg n5,if_neg n6,if_neg n7,if_neg n8,if_neg n9,if_neg n10,if_neg n11,if_neg n12,if_neg n13];have m0:=neb n0;have m1:=neb n1;have m2:=neb n2;have m3:=neb n3;have m4:=neb n4;have m5:=neb n5;have m6:=neb n6;have m7:=neb n7;have m8:=neb n8;have m9:=neb n9;have m10:=neb n10;have m11:=neb n11;have m12:=neb n12;have m13:=neb n13;clear n0 n1 n2 n3 n4 n5 n6 n7 n8 n9 n10 n11 n12 n13;go_enter Tryz.func113,Tryz.ntmps113;go_wp2_with fail
  go_ret;exact⟨rfl,ae _ _⟩
theorem TW (g o:Nat) (a:Option Addr) (n c:Nat) (w:World) (h:w.cell? ⟨g,o+5,none⟩=some (.slice a n c)):Calls Tryz.prog 197 #[.agg #[.pointer (some ⟨g,o,none⟩)]] w fun e w'=>e=.returned (.slice a n c)/\Later w w':=by
 have hg:g<w.heap.size:=aK h;go_enter Tryz.func197,Tryz.ntmps197;go_wp2_with fail
 go_ret;exact⟨rfl,ae _ _⟩
theorem PI (g o:Nat) (a:Option Addr) (n c:Nat) (w:World) (h:w.cell? ⟨g,o+5,none⟩=some (.slice a n c)):Calls Tryz.prog 195 #[.agg #[.pointer (some ⟨g,o,none⟩)]] w fun e w'=>e=.returned (.slice a n c)/\Later w w':=by
 have hg:g<w.heap.size:=aK h;go_enter Tryz.func195,Tryz.ntmps195;go_wp2_with fail
 go_ret;exact⟨rfl,ae _ _⟩
theorem iblkE (v:Value) (w:World) (hv:∃ p,v=.agg #[.pointer p]):Calls Tryz.prog 196 #[v] w fun e w'=>e=.returned (.slice none 0 0)/\Later w w':=by
 obtain⟨p,rfl⟩:=hv;go_enter Tryz.func196,Tryz.ntmps196;go_wp2_with fail
 go_ret;exact⟨rfl,by first|exact Later.refl _|exact ae _ _⟩
def Two (w0 w:World) (v u1 u2:Value):Prop:=∃ B,v=.slice (some ⟨B,0,none⟩) 2 2/\w0.heap.size<=B/\B<w.heap.size/\w.cell? ⟨B,0,none⟩=some u1/\w.cell? ⟨B,1,none⟩=some u2
theorem PS (g o:Nat) (a a':Option Addr) (n c n' c':Nat) (w:World) (h:w.cell? ⟨g,o+6,none⟩=some (.slice a n c)) (h':w.cell? ⟨g,o+7,none⟩=some (.slice a' n' c')):Calls Tryz.prog 194 #[.agg #[.pointer (some ⟨g,o,none⟩)]] w fun e w'=>∃ v,e=.returned v/\Two w w' v (.slice a n c) (.slice a' n' c')/\Later w w':=by
 have hg:g<w.heap.size:=aK h;go_enter Tryz.func194,Tryz.ntmps194;go_wp2_with fail
 go_region
 all_goals
  go_wp2_with fail
  go_ret;refine⟨_,rfl,⟨_,rfl,?_,?_,?_,?_⟩,?_⟩
 all_goals first|(simp;done)|(simp;omega)|exact (ae _ _).trans ((Later.drew _).trans (ae _ _))|exact ((ae _ _).trans (ae _ _)).trans (Later.drew _)|exact (bF _ _ _).trans (Later.drew _)|trace_state
end Go.Proofs.YtgaddpkkjebekaaGreatDoor
