import Derived.Test.YtgholpilmdebmaaGreatDoorZ47
import Derived.Test.YtgholpilmdebmaaGreatDoorZ40
import Derived.Test.YtgholpilmdebmaaGreatDoorZ17
import Derived.Test.YtgholpilmdebmaaGreatDoorZ28
import Derived.Deep.Cut
import Derived.Deep.CutRange
set_option maxHeartbeats 100000000
set_option maxRecDepth 100000
namespace Go.Proofs.YtgholpilmdebmaaGreatDoor
open Go.RowKit
theorem nameL_le9 {nm:List Int}(h:nameL nm=true):nm.length≤8:=by
 unfold nameL wordL at h;simp only[Bool.and_eq_true,decide_eq_true_eq]at h;omega
theorem fits_len9 {f:Form}{n tk tn:Int}{nm:List Int}{m:Nat}{s:Int}(h:fitsB f n tk tn nm m s=true):nm.length≤8:=by
 unfold fitsB at h;simp only[Bool.and_eq_true]at h;have h1:=h.1.1.2;split at h1
 ·exact nameL_le9 h1
 ·have:=of_decide_eq_true h1;omega
theorem hereE_len9 {s k n tk tn:Int}{nm:List Int}{m:Nat}(h:hereE s k n tk tn nm m=true):nm.length≤8:=by
 unfold hereE at h;split at h
 ·exact fits_len9 h
 ·cases h
theorem hereS_len9 {s k n tk tn:Int}{nm:List Int}{ks:List Ex}{b e:Nat}(h:hereS s k n tk tn nm ks b e=true):nm.length≤8:=by
 unfold hereS at h;split at h
 ·simp only[Bool.and_eq_true]at h;exact fits_len9 h.1.1.1
 ·cases h
mutual
theorem Ex.run_sz (s:Int):∀ (x:Ex) (d l l':Int),Ex.run s d l x=some l'→1+(x.sz:Int)≤9*(l - l')
 | .mk k n tk tn nm ks,d,l,l',h=>by
  rw[Ex.run]at h;split at h
  ·cases h
  ·rename_i hc
   have hh:hereE s k n tk tn nm ks.length=true:=by
    cases e:hereE s k n tk tn nm ks.length
    ·exact absurd (.inr (.inr e)) hc
    ·rfl
   have b:=Ex.runs_sz s ks (d+1) (l - 1) l' h;have e:=hereE_len9 hh;rw[Ex.sz];omega
theorem Ex.runs_sz (s:Int):∀ (xs:List Ex) (d l l':Int),Ex.runs s d l xs=some l'→(Ex.szs xs:Int)≤9*(l - l')
 | [],d,l,l',h=>by
  rw[Ex.runs]at h
  cases h
  rw[Ex.szs];omega
 | x::r,d,l,l',h=>by
  rw[Ex.runs]at h
  cases hx:Ex.run s d l x with
  | none=>rw[hx]at h;cases h
  | some q =>
   rw[hx]at h;have a:=Ex.run_sz s x d l q hx;have b:=Ex.runs_sz s r d q l' h;rw[Ex.szs];omega
end
mutual
theorem St.run_sz (s:Int):∀ (x:St) (d l l':Int),St.run s d l x=some l'→1+(x.sz:Int)≤9*(l - l')
 | .mk k n tk tn nm ks bo el,d,l,l',h=>by
  rw[St.run]at h;split at h
  ·cases h
  ·rename_i hc
   have hh:hereS s k n tk tn nm ks bo.length el.length=true:=by
    cases e:hereS s k n tk tn nm ks bo.length el.length
    ·exact absurd (.inr (.inr e)) hc
    ·rfl
   have e:=hereS_len9 hh
   cases hk:Ex.runs s (d+1) (l - 1) ks with
   | none=>rw[hk]at h;cases h
   | some l1 =>
    rw[hk]at h
    cases hb:St.runs s (d+1) l1 bo with
    | none=>simp only[hb]at h;cases h
    | some l2 =>
     simp only[hb]at h;have a:=Ex.runs_sz s ks (d+1) (l - 1) l1 hk;have b:=St.runs_sz s bo (d+1) l1 l2 hb;have c:=St.runs_sz s el (d+1) l2 l' h;rw[St.sz];omega
theorem St.runs_sz (s:Int):∀ (xs:List St) (d l l':Int),St.runs s d l xs=some l'→(St.szs xs:Int)≤9*(l - l')
 | [],d,l,l',h=>by
  rw[St.runs]at h
  cases h
  rw[St.szs];omega
 | x::r,d,l,l',h=>by
  rw[St.runs]at h
  cases hx:St.run s d l x with
  | none=>rw[hx]at h;cases h
  | some q =>
   rw[hx]at h;have a:=St.run_sz s x d l q hx;have b:=St.runs_sz s r d q l' h;rw[St.szs];omega
end
structure So.Sm (x:So):Prop where
 sl:x.structs.length≤1000
 sn:∀ s∈x.structs,s.name.length≤1048576∧s.fields.length≤1000000∧∀ p∈s.fields,p.name.length≤1048576
 fl:x.funcs.length≤1000
 fn:∀ f∈x.funcs,f.name.length≤1048576∧f.params.length≤1000000∧(∀ p∈f.params,p.name.length≤1048576)∧St.szs f.body≤1048576
theorem paOk_len {s:Int}{p:Pa}(h:paOk s p=true):p.name.length≤8:=by
 unfold paOk at h;simp only[Bool.and_eq_true]at h;exact nameL_le9 h.1
theorem paramB_sm {m s:Int}{l:List Pa}(hm:m≤1000) (h:paramB m s l=true):l.length≤1000000∧∀ p∈l,p.name.length≤1048576:=by
 unfold paramB at h;rw[Bool.and_eq_true,decide_eq_true_eq,List.all_eq_true]at h;exact⟨by omega,fun p hp=>by have:=paOk_len (h.2 p hp);omega⟩
theorem Fu.runs_sm (s:Int):∀ (xs:List Fu) (l l':Int),l≤400→Fu.runs s l xs=some l'→0≤l'→∀ f∈xs,f.name.length≤1048576∧f.params.length≤1000000∧(∀ p∈f.params,p.name.length≤1048576)∧St.szs f.body≤1048576
 | [],l,l',_,_,_,f,hf=>by cases hf
 | x::r,l,l',hl,h,h0,f,hf=>by
  rw[Fu.runs]at h
  cases hx:Fu.run s l x with
  | none=>rw[hx]at h;cases h
  | some q =>
   rw[hx]at h;unfold Fu.run at hx;split at hx
   ·rename_i hc
    rw[Bool.and_eq_true]at hc;have hd:=hc.1;unfold headF at hd;rw[Bool.and_eq_true]at hd;have a:=St.runs_sz s x.body 1 l q hx;have hq:=(St.runs_le s x.body 1 l q hx).1;have n8:=nameL_le9 hd.1;obtain⟨p1,p2⟩:=paramB_sm (by omega) hd.2
    have hq0:0≤q:=by
     rcases Int.lt_or_le q 0 with z|z
     ·exfalso
      have:∀ (ys:List Fu) (u v:Int),Fu.runs s u ys=some v→v≤u:=by
       intro ys
       induction ys with
       | nil=>intro u v h;rw[Fu.runs]at h;cases h;exact Int.le_refl _
       | cons y ys ih =>
        intro u v h;rw[Fu.runs]at h
        cases hy:Fu.run s u y with
        | none=>rw[hy]at h;cases h
        | some t =>
         rw[hy]at h;have:=ih t v h;unfold Fu.run at hy;split at hy
         ·have:=(St.runs_le s y.body 1 u t hy).1;omega
         ·cases hy
      have:=this r q l' h;omega
     ·exact z
    rcases List.mem_cons.1 hf with rfl|hf
    ·exact⟨by omega,p1,p2,by omega⟩
    ·exact Fu.runs_sm s r q l' (by omega) h h0 f hf
   ·cases hx
theorem Fu.runs_nn (s:Int):∀ (xs:List Fu) (l l':Int),0≤l→Fu.runs s l xs=some l'→0≤l'
 | [],l,l',hl,h=>by rw[Fu.runs]at h;cases h;exact hl
 | x::r,l,l',hl,h=>by
  rw[Fu.runs]at h
  cases hx:Fu.run s l x with
  | none=>rw[hx]at h;cases h
  | some q =>
   rw[hx]at h;unfold Fu.run at hx;split at hx
   ·exact Fu.runs_nn s r q l' ((St.runs_le s x.body 1 l q hx).2 hl) h
   ·cases hx
theorem So.sm_of {x:So}(h:So.ok x=true):x.Sm:=by
 unfold So.ok at h;rw[Bool.and_eq_true]at h;have h1:=h.1
 cases hr:x.run with
 | none=>rw[hr]at h1;cases h1
 | some l =>
  unfold So.run at hr;split at hr
  ·rename_i hc
   rw[Bool.and_eq_true,decide_eq_true_eq]at hc;obtain⟨hs,hf⟩:=hc;obtain⟨s1,s2⟩:=(zcc _).1 hs;refine⟨by omega,fun s hs=>?_,by omega,Fu.runs_sm _ _ _ _ (by omega) hr (Fu.runs_nn _ _ _ _ (by omega) hr)⟩;obtain⟨i,hi,rfl⟩:=List.mem_iff_getElem.1 hs;have q:=s2 i hi;unfold oneB at q;rw[Bool.and_eq_true,Bool.and_eq_true]at q;obtain⟨p1,p2⟩:=paramB_sm (by omega) q.2
   have n1:x.structs[i].name.length≤8:=by
    have:=q.1.1;unfold wordL at this;simp only[Bool.and_eq_true,decide_eq_true_eq]at this;omega
   exact⟨by omega,p1,p2⟩
  ·cases hr
end Go.Proofs.YtgholpilmdebmaaGreatDoor
namespace Go.Proofs.YtgholpilmdebmaaGreatDoor
open Go.RowKit Go.Maps
theorem sownP_0 (v:Value) (l:List Pa) (w:World) (h:RdL w 3 v (Pa.dats l)) (hlen:l.length≤1000000) (hN:∀ p∈l,p.name.length≤1048576) :
  Calls Tryz.prog 66 #[v] w fun e w'=>∃ a c F,e=.returned (.slice a l.length c)∧Own w.heap.size w' (.list 3 (Pa.dats l)) [.slice a l.length c] F∧Later w w':=by
 obtain⟨a,cap,rfl,hl⟩:=Pa.slice h;obtain⟨i0,hi,hz0,hz1,hz2⟩:=info_parts Tryz.info69;obtain⟨j0,hj,hy0,hy1,hy2⟩:=info_parts Tryz.info5;go_enter Tryz.func66,Tryz.ntmps66;go_wp2_with fail
 go_loopw [3,4] (fun r i wr=>∃ (j:Nat) (xs:List Value) (F:List Nat) (rv:Value),rv=r∧i=.int .i64 (j:Int)∧j≤l.length∧Later w wr∧Bd w.heap.size wr 69 3 rv (Pa.dats (l.take j)) xs F) (fun _ i _=>l.length - (intOf i).toNat)
 case atStart=>exact⟨0,[],[],_,rfl,rfl,Nat.zero_le _,Later.refl _,Bd.nil _ _ _ _⟩
 case round =>
  obtain⟨j,xs,F,rv,rfl,rfl,hj',lr,hB⟩:=hrel;by_cases hlt:j<l.length
  ·obtain⟨g,off,v0,rfl,hgs,c0,c1,c2,r0⟩:=Pa.elem h j hlt;have i1:(j:Int)<(l.length:Int):=by omega
   have hlx:(Pa.dats (l.take j)).length=j:=by rw[Pa.dats_len,List.length_take];omega
   have hrow:=hB.row;rw[hlx]at hrow;obtain⟨ra,rc,hra⟩:=zac hrow;have hsz:=lr.size;have hnm:=hN _ (List.getElem_mem hlt);have HR:Hid (∀ w',Later wr w'→w'.ownsRow w.heap.size 69 3 rv j xs):=fun w' ll=>zbs hrow (ll.kept _);have HN:Hid (∀ w',Later wr w'→RdN w' v0 l[j].name):=fun w' ll=>r0.later (lr.trans ll)
   have HS0:Hid (∀ w',Later w w'→w'.cell? ⟨g,off+j*3,none⟩=some v0∧w'.cell? ⟨g,off+j*3+1,none⟩=some (.int .i64 l[j].tk)∧w'.cell? ⟨g,off+j*3+2,none⟩=some (.int .i64 l[j].tn)):=fun w' ll=>⟨by rw[Below.cell ll (p:=⟨g,off+j*3,none⟩) hgs];exact c0,by rw[Below.cell ll (p:=⟨g,off+j*3+1,none⟩) hgs];exact c1,by rw[Below.cell ll (p:=⟨g,off+j*3+2,none⟩) hgs];exact c2⟩
   have HS:Hid (∀ w',Later wr w'→w'.cell? ⟨g,off+j*3,none⟩=some v0∧w'.cell? ⟨g,off+j*3+1,none⟩=some (.int .i64 l[j].tk)∧w'.cell? ⟨g,off+j*3+2,none⟩=some (.int .i64 l[j].tn)):=fun w' ll=>HS0.out w' (lr.trans ll)
   have HY:Hid (∀ X w3 v3,Later wr X→w3.ownsRow wr.heap.size 5 1 v3 (0+l[j].name.length) ([]++l[j].name.map (Value.int .u8))→X.grownBy w3 (Value.ownBlock (.slice (some ⟨wr.heap.size,0,none⟩) 0 0))→∃ a3 p3 G,v3=.slice a3 l[j].name.length p3∧Own wr.heap.size w3 (.bytes l[j].name) [.slice a3 l[j].name.length p3] G∧Later wr w3∧(w3.cell? ⟨g,off+j*3,none⟩=some v0∧w3.cell? ⟨g,off+j*3+1,none⟩=some (.int .i64 l[j].tk)∧w3.cell? ⟨g,off+j*3+2,none⟩=some (.int .i64 l[j].tn))):=fun X w3 v3 lX o3 g3=>by
    rw[Nat.zero_add,List.nil_append]at o3;have l3:=lX.trans' g3 (fun b e=>by cases e;exact Nat.le_refl _);obtain⟨G,hO⟩:=row_bytes o3 (by obtain⟨_,_,_,_,z,_⟩:=r0.rd;exact z) hnm;obtain⟨a3,p3,rfl⟩:=zac o3;exact⟨a3,p3,G,rfl,hO,l3,HS.out w3 l3⟩
   have HP:Hid (∀ w3 w4 w' v' a3 p3 G,Later wr w3→Own wr.heap.size w3 (.bytes l[j].name) [.slice a3 l[j].name.length p3] G→Later w3 w4→w'.ownsRow w.heap.size 69 3 v' (j+1) (xs++[.slice a3 l[j].name.length p3,.int .i64 l[j].tk,.int .i64 l[j].tn])→w4.grownBy w' rv.ownBlock→(v'.ownBlock=rv.ownBlock∨v'.ownBlock=some w4.heap.size)→Later w w'∧(w'.cell? ⟨g,off+j*3,none⟩=some v0∧w'.cell? ⟨g,off+j*3+1,none⟩=some (.int .i64 l[j].tk)∧w'.cell? ⟨g,off+j*3+2,none⟩=some (.int .i64 l[j].tn))∧∃ xs' F',Bd w.heap.size w' 69 3 v' (Pa.dats (l.take (j+1))) xs' F'):=fun w3 w4 w' v' a3 p3 G l3 hO l4 ho hg hloc=>by
    have lw:Later w w':=Later.trans' (lr.trans (l3.trans l4)) hg (fun g hg=>(hrow.lt g hg).1);refine⟨lw,HS0.out w' lw,xs++[.slice a3 l[j].name.length p3,.int .i64 l[j].tk,.int .i64 l[j].tn],F++G,?_⟩;rw[Pa.datsMap,takeSnoc hlt,← Pa.datsMap];exact hB.push (cs:=[.slice a3 l[j].name.length p3,.int .i64 l[j].tk,.int .i64 l[j].tn]) rfl (Own.mk' (Pa.own hO.own) hO.fr) (l3.kept _) (l4.kept _) hsz (by rw[hlx];exact ho) hg hloc
   obtain⟨y0,q0,rfl,_⟩:=r0.slice
   generalize l[j].tk=z_tk at *
   generalize l[j].tn=z_tn at *
   clear hB r0 hlx hrow HS0 c0 c1 c2;obtain⟨c0,c1,c2⟩:=HS.out wr (Later.refl _);have hgs:g<wr.heap.size:=Nat.lt_of_lt_of_le hgs hsz;subst hra;go_wp2_with fail
   go_region_held3 (fun w'=>w'.cell? ⟨g,off+j*3,none⟩=some (.slice y0 l[j].name.length q0)∧w'.cell? ⟨g,off+j*3+1,none⟩=some (.int .i64 z_tk)∧w'.cell? ⟨g,off+j*3+2,none⟩=some (.int .i64 z_tn)) (first|exact hS4|exact hS3|exact HS.out _ (Later.drew _)|exact HS.out _ ((Later.drew _).trans (later1 _ _))|exact HS.out _ ((later1 _ _).trans (Later.drew _))|exact HS.out _ (l3.trans (later1 _ _))|exact HS.out _ l3) (first
    | (refine zby rfl _ _ 22 rfl wr.heap.size 5 j0 (.int .u8 0) 1 Tryz.underlying22 hj hy0 hy1 hy2 rfl (.slice (some ⟨wr.heap.size,0,none⟩) 0 0) 0 [] rfl (by first|exact empty_row (w:=World.drew _) (Nat.le_refl _)|exact zbs (empty_row (Nat.le_refl _)) ((Later.drew _).kept _)) _ _ rfl (HN.out _ (by first|exact (Later.drew _).trans (later1 _ _)|exact (later1 _ _).trans (Later.drew _))) (by unfold maxLen;omega) (by omega) (by first|exact ((Later.drew _).trans (later1 _ _)).size|exact ((later1 _ _).trans (Later.drew _)).size) ?_;intro u3 w3 o3 g3 _;obtain⟨a3,p3,G3,hu3,hO3,l3,hS3⟩:=HY.out _ _ _ (by first|exact (Later.drew _).trans (later1 _ _)|exact (later1 _ _).trans (Later.drew _)) o3 g3;rw[hu3])
    | (refine zae rfl _ _ 63 rfl w.heap.size 69 i0 (.agg #[.slice none 0 0,.int .i64 0,.int .i64 0]) 3 40 Tryz.underlying63 hi hz0 hz1 hz2 rfl (by decide) _ _ _ rfl ((HR.out _ l3).alloc _) _ 1 1 [.slice a3 l[j].name.length p3,.int .i64 z_tk,.int .i64 z_tn] rfl rfl (zao _ _ _ rfl) (by simp[Value.oneCell']) (by unfold maxLen;omega) (by omega) (Nat.le_trans hsz (l3.trans (later1 _ _)).size) ?_;intro v4 w4 o4 g4 h4;obtain⟨L4,hS4,xs',F',hB4⟩:=HP.out _ _ _ _ _ _ _ l3 hO3 (later1 _ _) o4 g4 h4;obtain⟨a4,p4,hv4⟩:=zac o4;rw[hv4]at hB4 ⊢))
   all_goals
    go_wp2_with fail
    go_roundw
    case rel=>exact⟨j+1,_,_,_,rfl,by go_num,by omega,L4,hB4⟩
    case measure=>simp[intOf];omega
  ·have i1:¬ (j:Int)<(l.length:Int):=by omega
   have i2:decide ((j:Int)<(l.length:Int))=false:=decide_eq_false i1;have hjj:j=l.length:=by omega
   have HR:Hid (∃ a c F,rv=.slice a l.length c∧Own w.heap.size wr (.list 3 (Pa.dats l)) [.slice a l.length c] F):=by
    rw[hjj,List.take_length]at hB;obtain⟨G,hG⟩:=hB.done (by rw[Pa.dats_len];omega);obtain⟨a,c,e⟩:=zac hB.row;rw[Pa.dats_len]at e;exact⟨a,c,G,e,by rw[←e];exact hG⟩
   clear h hB;obtain⟨ra,rc,G,rfl,hG⟩:=HR.out;go_wp2_with fail
   go_ret;exact⟨_,_,rfl,⟨_,hG⟩,lr⟩
def OwL (k:Nat) (d:List Dat) (w:World) (v:Value) (w':World):Prop:=∃ a n c F,v=.slice a n c∧Own w.heap.size w' (.list k d) [.slice a n c] F∧Later w w'
theorem sownP_any (v:Value) (l:List Pa) (w:World) (h:RdL w 3 v (Pa.dats l)) (hlen:l.length≤1000000) (hN:∀ p∈l,p.name.length≤1048576):Calls Tryz.prog 66 #[v] w fun e w'=>∃ u,e=.returned u∧OwL 3 (Pa.dats l) w u w':=by
 refine (sownP_0 v l w h hlen hN).mono ?_;rintro e w' ⟨a,c,F,rfl,hO,hl⟩;exact⟨_,rfl,a,_,c,F,rfl,hO,hl⟩
theorem en_ownP:Enters Tryz.prog 66:=zai Tryz.func66 (by kernel_rfl) (by kernel_rfl)
theorem Ex.name_le (x:Ex):x.name.length≤x.sz:=by obtain⟨k,n,tk,tn,nm,ks⟩:=x;show nm.length≤nm.length+Ex.szs ks;omega
theorem Ex.kids_le2 (x:Ex):Ex.szs x.kids≤x.sz:=by obtain⟨k,n,tk,tn,nm,ks⟩:=x;show Ex.szs ks≤nm.length+Ex.szs ks;omega
theorem Bxx.six {w:World}{B:Nat}{a b c d e f:Value}(h:Bxx w B [a,b,c,d,e,f]):((w.cell? ⟨B,0,none⟩=some a∧w.frozen? ⟨B,0,none⟩=false)∧(w.cell? ⟨B,1,none⟩=some b∧w.frozen? ⟨B,1,none⟩=false)∧(w.cell? ⟨B,2,none⟩=some c∧w.frozen? ⟨B,2,none⟩=false)∧(w.cell? ⟨B,3,none⟩=some d∧w.frozen? ⟨B,3,none⟩=false)∧(w.cell? ⟨B,4,none⟩=some e∧w.frozen? ⟨B,4,none⟩=false)∧(w.cell? ⟨B,5,none⟩=some f∧w.frozen? ⟨B,5,none⟩=false))∧B<w.heap.size :=
 ⟨⟨h.cell 0 _ rfl,h.cell 1 _ rfl,h.cell 2 _ rfl,h.cell 3 _ rfl,h.cell 4 _ rfl,h.cell 5 _ rfl⟩,h.lt⟩
theorem Bxx.eight {w:World}{B:Nat}{a b c d e f g i:Value}(h:Bxx w B [a,b,c,d,e,f,g,i]):((w.cell? ⟨B,0,none⟩=some a∧w.frozen? ⟨B,0,none⟩=false)∧(w.cell? ⟨B,1,none⟩=some b∧w.frozen? ⟨B,1,none⟩=false)∧(w.cell? ⟨B,2,none⟩=some c∧w.frozen? ⟨B,2,none⟩=false)∧(w.cell? ⟨B,3,none⟩=some d∧w.frozen? ⟨B,3,none⟩=false)∧(w.cell? ⟨B,4,none⟩=some e∧w.frozen? ⟨B,4,none⟩=false)∧(w.cell? ⟨B,5,none⟩=some f∧w.frozen? ⟨B,5,none⟩=false)∧(w.cell? ⟨B,6,none⟩=some g∧w.frozen? ⟨B,6,none⟩=false)∧(w.cell? ⟨B,7,none⟩=some i∧w.frozen? ⟨B,7,none⟩=false))∧B<w.heap.size :=
 ⟨⟨h.cell 0 _ rfl,h.cell 1 _ rfl,h.cell 2 _ rfl,h.cell 3 _ rfl,h.cell 4 _ rfl,h.cell 5 _ rfl,h.cell 6 _ rfl,h.cell 7 _ rfl⟩,h.lt⟩
theorem St.name_le (x:St):x.name.length≤x.sz:=by obtain⟨k,n,tk,tn,nm,ks,bo,el⟩:=x;simp only[St.sz,St.name];omega
theorem St.kids_le2 (x:St):Ex.szs x.kids≤x.sz:=by obtain⟨k,n,tk,tn,nm,ks,bo,el⟩:=x;simp only[St.sz,St.kids];omega
theorem St.body_le2 (x:St):St.szs x.body≤x.sz:=by obtain⟨k,n,tk,tn,nm,ks,bo,el⟩:=x;simp only[St.sz,St.body];omega
theorem St.els_le2 (x:St):St.szs x.els≤x.sz:=by obtain⟨k,n,tk,tn,nm,ks,bo,el⟩:=x;simp only[St.sz,St.els];omega
theorem empty_at {X:World}{g base:Nat}(h:X.heap[g]?=some (.cells #[] 5)) (hb:base≤g):X.ownsRow base 5 1 (.slice (some ⟨g,0,none⟩) 0 0) 0 []:=⟨rfl,.inr ⟨g,0,#[],rfl,hb,h,Nat.le_refl _,by unfold maxLen;omega,rfl,by simp⟩⟩
structure NmW (wb W:World) (g:Nat) (u:Value) (zs:List Int):Prop where
 later:Later wb W
 row:W.heap[g]?=some (.cells #[] 5)
 new:wb.heap.size≤g
 rd:RdN wb u zs
 len:zs.length≤1048576
def NmA (wb W:World) (g:Nat) (zs:List Int) (v:Value) (w':World):Prop:=∃ a3 p3 G,v=.slice a3 zs.length p3∧Own wb.heap.size w' (.bytes zs) [.slice a3 zs.length p3] G∧Later wb w'∧(∀ b,b<W.heap.size→b≠g→w'.heap[b]?=W.heap[b]?)∧W.heap.size≤w'.heap.size∧(∀ b∈G,b=g∨W.heap.size≤b)
theorem zbn {ops:Array Oper}{o:Oper}{a:Act}{W wb:World}{K:Act→World→Prop}{Q:Exit→Act→World→Prop}{E:Prop}
  (hg:o.guard=none) (s x:Operand) (hop:o.op=Op.call { callee:=Callee.builtin Builtin.append,args:=#[s,x],argTypes:=#[22,22] }) {g:Nat}(hs:a.eval s=.slice (some ⟨g,0,none⟩) 0 0) {u:Value}{zs:List Int}(hx:a.eval x=u) (h:NmW wb W g u zs)
  (hk:∀ v' w',NmA wb W g zs v' w'→K (a.put o.dst v') w'):if Region.wanted o (yielded ops a.tmps)=true then Oper.wp Tryz.prog o a W K Q else E:=by
 obtain⟨j0,hj,hy0,hy1,hy2⟩:=info_parts Tryz.info5;have hl:=h.len;refine zby hg s x 22 hop wb.heap.size 5 j0 (.int .u8 0) 1 Tryz.underlying22 hj hy0 hy1 hy2 rfl _ 0 [] hs (empty_at h.row h.new) u zs hx (h.rd.later h.later) (by unfold maxLen;omega) (by omega) h.later.size ?_;intro v' w' o3 g3 hown;rw[Nat.zero_add,List.nil_append]at o3;have l3:=h.later.trans' g3 (fun b e=>by cases e;exact h.new);obtain⟨G,hO⟩:=row_bytes o3 (by obtain⟨_,_,_,_,z,_⟩:=h.rd.rd;exact z) hl
 have hG:∀ b∈G,b=g∨W.heap.size≤b:=fun b hb=>by
  have q:=hO.own;rw[OwnD]at q;obtain⟨a,cap,e,_,_,hc,h0⟩:=q;rcases Nat.eq_zero_or_pos zs.length with z|z
  ·rw[h0 z]at hb
   cases hb
  ·obtain⟨g',rfl,rfl,_⟩:=hc z
   cases e
   rw[List.mem_singleton.1 hb];rcases hown with e|e
   ·injection e with e
    exact Or.inl e
   ·injection e with e
    exact Or.inr (Nat.le_of_eq e.symm)
 obtain⟨a3,p3,rfl⟩:=zac o3;exact hk _ _ ⟨a3,p3,G,rfl,hO,l3,fun b hb hne=>g3.block b hb (fun e=>hne (by injection e)),g3.size,hG⟩
theorem Own.setAt {base:Nat}{w:World}{d:Dat}{cs:List Value}{F:List Nat}(h:Own base w d cs F) {O:Nat}(hO:O∉F) (i:Nat) (v:Value):Own base (w.setCell ⟨O,i,none⟩ v) d cs F :=
 ⟨OwnD.agree (by rw[World.size_setCell];exact Nat.le_refl _) d h.own (fun b hb=>Below.heap_setCell _ _ _ _ (fun e=>hO (by have e:b=O:=e;rw[←e];exact hb))),h.nodup,fun b hb=>by rw[World.size_setCell];exact h.fresh b hb⟩
theorem zdu {O i:Nat}{wx wr w6 w':World}{A:Obj}{t:TypeId}{k:Nat}{rv v':Value}{l:List Dat}{d:Dat}{xs cs zs:List Value}{F G6:List Nat}(oK:OnlyK O wx wr) (bO:Bxx wr O zs) (hi:i<zs.length) (hB:Bd wx.heap.size wr t k rv l xs F) (hOl:O<wx.heap.size) (hk:cs.length=k) (l6:Later wr w6) (hd:Own wr.heap.size w6 d cs G6)
  (ho:w'.ownsRow wx.heap.size t k v' (l.length+1) (xs++cs)) (hg:(w6.alloc A).grownBy w' rv.ownBlock) (hloc:v'.ownBlock=rv.ownBlock∨v'.ownBlock=some (w6.alloc A).heap.size) :
  OnlyK O wx (w'.setCell ⟨O,i,none⟩ v')∧Bxx (w'.setCell ⟨O,i,none⟩ v') O (zs.set i v')∧Bd wx.heap.size (w'.setCell ⟨O,i,none⟩ v') t k v' (l++[d]) (xs++cs) (F++G6)∧Bxx w' O zs:=by
 have l7:Later wr (w6.alloc A):=l6.trans (later1 _ _);have hv:∀ b,rv.ownBlock=some b→wx.heap.size≤b∧b<wr.heap.size:=hB.row.lt
 have hbk:∀ b,b<wr.heap.size→b<wx.heap.size→w'.heap[b]?=wr.heap[b]?:=fun b hb hx=>by
  rw[hg.block b (Nat.lt_of_lt_of_le hb l7.size) (fun e=>by have:=(hv b e.symm).1;omega)];exact l7.block b hb
 have hsz:wr.heap.size≤w'.heap.size:=Nat.le_trans l7.size hg.size
 have o1:OnlyK O wx w':=⟨hg.os.trans (l7.os.trans oK.os),hg.tape.trans (l7.tape.trans oK.tape),hg.output.trans (l7.output.trans oK.output),Nat.le_trans oK.size hsz,fun b hb hne=>by rw[hbk b (Nat.lt_of_lt_of_le hb oK.size) hb];exact oK.block b hb hne⟩
 have b1:Bxx w' O zs:=bO.kept hsz (hbk O bO.lt hOl);refine⟨o1.set i v',b1.set i v' hi,?_,b1⟩;exact (hB.push hk hd (l6.kept _) ((later1 _ _).kept _) oK.size ho hg hloc).kept ((Kept.refl _ _).setAt hOl i v')
theorem Own.only {O base:Nat}{w w':World}{d:Dat}{cs:List Value}{F:List Nat}(h:Own base w d cs F) (o:OnlyK O w w') (hO:O∉F):Own base w' d cs F :=
 ⟨OwnD.agree o.size d h.own (fun b hb=>o.block b (h.fresh b hb).2 (fun e=>hO (by rw[←e];exact hb))),h.nodup,fun b hb=>⟨(h.fresh b hb).1,Nat.lt_of_lt_of_le (h.fresh b hb).2 o.size⟩⟩
end Go.Proofs.YtgholpilmdebmaaGreatDoor
