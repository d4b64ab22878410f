/- My texts N5, N6 in one. -/
import Derived.Test.YtmdejbphoafjlaaGreatDoorHc
import Derived.Test.YtmdejbphoafjlaaGreatDoorHb
import Derived.Test.YtmdejbphoafjlaaGreatDoorGp
import Derived.Test.YtmdejbphoafjlaaGreatDoorGh
import Derived.Maps.AppendAt
import Derived.Lib.SliceRun
import Derived.Deep.RegionHeld3
set_option maxHeartbeats 100000000
set_option maxRecDepth 100000
namespace Go.Proofs.YtmdejbphoafjlaaGreatDoor
open Go.RowKit Go.Maps
theorem hidx {α:Type}(x:α):∃ T,Hid (T=x):=⟨x,rfl⟩
theorem step_append_at {P:Program}{ops:Array Oper}{o:Oper}{a:Act}{w:World}{K:Act→World→Prop}{Q:Exit→Act→World→Prop}{E:Prop}
  (hg:o.guard=none) (s x:Operand) (t:TypeId) (hop:o.op=Op.call { callee:=Callee.builtin Builtin.append,args:=#[s,x],argTypes:=#[t,t] })
  (base:Nat) (e:TypeId) (i:TypeInfo) (z:Value) (size bytes:Nat) (ht:P.underlying t=some (.slice e)) (hi:P.info? e=some i) (hz:i.zero=some z)
  (hsize:i.size=size) (hby:i.bytes=bytes) (hzs:z.cells.size=size) (hsz:0<size)
  (v:Value) (n:Nat) (xs:List Value) (hs:a.eval s=v) (hown:w.ownsRow base e size v n xs)
  (ad:Addr) (m c:Nat) (news:List Value) (hx:a.eval x=.slice (some ad) m c) (hl:news.length=m*size) (hnews:∀ j u,news[j]?=some u→w.cell? (ad.add j)=some u) (h1:∀ u∈news,u.oneCell'=true)
  (h63:n+m≤maxLen) (hbytes:(n+m)*bytes≤140737488355328) (hbase:base≤w.heap.size)
  (h:∀ v' w',w'.ownsRow base e size v' (n+m) (xs++news)→w.grownBy w' v.ownBlock→(v'.ownBlock=v.ownBlock∨v'.ownBlock=some w.heap.size)→K (a.put o.dst v') w') :
  if Region.wanted o (yielded ops a.tmps)=true then Oper.wp P o a w K Q else E:=by
 have hw:Region.wanted o (yielded ops a.tmps)=true:=by simp[Region.wanted,hg]
 rw[if_pos hw]
 obtain⟨v',w',hr,h2,h3,_,h5⟩:=run_append_own_at (P:=P) w base t o.type e i z size bytes ht hi hz hsize hby hzs hsz v n xs hown ad m c news hl hnews h1 h63 hbytes hbase
 unfold Oper.wp execOp
 simp only[hop,resolve,invoke,builtin,Sem.run_bind,Sem.run_pure,Result.andThen_ok,List.map_toArray,List.map_cons,List.map_nil,hs,hx,hr]
 exact h v' w' h2 h3 h5
theorem row_bytes {w:World}{base:Nat}{v:Value}{zs:List Int}(h:w.ownsRow base 5 1 v zs.length (zs.map (Value.int .u8))) (hb:∀ j,isB (zs.getD j 0)) (hs:zs.length≤1048576):∃ F,Own base w (.bytes zs) [v] F:=by
 rcases h.2 with ⟨rfl,e⟩|⟨g,cap,cur,rfl,h1,h2,h3,h4,h5,h6⟩
 ·refine⟨[],Own.mk' ?_ (Fr.nil _ _)⟩
  rw[OwnD]
  exact⟨none,0,by rw[e],⟨hs,by omega,by unfold maxLen;omega⟩,hb,fun hp=>by omega,fun _=>rfl⟩
 ·have hlt:=(h.lt g rfl).2
  rcases Nat.eq_zero_or_pos zs.length with h0|h0
  ·refine⟨[],Own.mk' ?_ (Fr.nil _ _)⟩
   rw[OwnD]
   exact⟨_,cap,rfl,⟨hs,h3,h4⟩,hb,fun hp=>by omega,fun _=>rfl⟩
  ·refine⟨[g],Own.mk' ?_ (Fr.one h1 hlt)⟩
   rw[OwnD]
   refine⟨_,cap,rfl,⟨hs,h3,h4⟩,hb,fun _=>⟨g,rfl,rfl,hlt,fun j hj=>⟨?_,h.frozenAt j⟩⟩,fun hp=>by omega⟩
   rw[h.cellAt j (by omega),List.getElem?_map,List.getElem?_eq_getElem hj,List.getD_eq_getElem?_getD,List.getElem?_eq_getElem hj]
   rfl
theorem rdn_cells {w:World}{v:Value}{zs:List Int}(h:RdN w v zs) (h1:0<zs.length):∃ g off q,v=.slice (some ⟨g,off,none⟩) zs.length q∧g<w.heap.size∧∀ j u,(zs.map (Value.int .u8))[j]?=some u→w.cell? ((⟨g,off,none⟩:Addr).add j)=some u:=by
 obtain⟨g,off,q,e,hg,hc⟩:=nm_cells h h1
 exact⟨g,off,q,e,hg,hc w (Later.refl _)⟩
theorem bytes_one (zs:List Int):∀ u∈zs.map (Value.int .u8),u.oneCell'=true:=by
 intro u hu
 obtain⟨z,_,rfl⟩:=List.mem_map.1 hu
 rfl
theorem eqnil (w:World) (a:Option Addr) (n c n' c':Nat):(binOp .eql 41 (.slice a n c) (.slice none n' c')).run Tryz.prog w=.ok (.bool a.isNone) w:=Lib.run_eql_slice_nil w _ _ a n c n' c' Tryz.underlying41
def CloP (zs:List Int) (w:World) (e:Ending) (w':World):Prop:=∃ a c F,e=.returned (.slice a zs.length c)∧Own w.heap.size w' (.bytes zs) [.slice a zs.length c] F∧Later w w'
theorem own_nil_bytes {w:World}{base:Nat}(a:Option Addr) (cap:Nat) (h:cap≤maxLen):Own base w (.bytes []) [.slice a 0 cap] []:=by
 refine Own.mk' ?_ (Fr.nil _ _)
 rw[OwnD]
 exact⟨a,cap,rfl,⟨by decide,Nat.zero_le _,h⟩,fun _=>⟨by simp,by simp⟩,fun hp=>absurd hp (Nat.lt_irrefl _),fun _=>rfl⟩
theorem clone_any (v:Value) (zs:List Int) (w:World) (h:RdN w v zs) (hs:zs.length≤1048576):Calls Tryz.prog 82 #[v] w (CloP zs w):=by
 have hb:=h.rd.isB
 have qT:=eqnil
 obtain⟨i0,hi,hz0,hz1,hz2⟩:=info_parts Tryz.info5
 have HP:Hid (∀ v' w',w'.ownsRow w.heap.size 5 1 v' zs.length (zs.map (Value.int .u8))→Later w w'→CloP zs w (.returned v') w'):=fun v' w' ho hl=>by
  obtain⟨F,hF⟩:=row_bytes ho hb hs
  obtain⟨a,c,rfl⟩:=row_form ho
  exact⟨a,c,F,rfl,hF,hl⟩
 have hE:(w.alloc (.cells #[] 5)).ownsRow w.heap.size 5 1 (.slice (some ⟨w.heap.size,0,none⟩) 0 0) 0 []:=World.ownsRow_lit w #[] 0 (Nat.le_refl _) (by unfold maxLen;omega) rfl
 rcases Nat.eq_zero_or_pos zs.length with h0|h0
 ·obtain rfl:zs=[]:=List.eq_nil_of_length_eq_zero h0
  obtain⟨a,cap,rfl,hc1,hc2⟩:=h.cap
  have HN:Hid (CloP [] w (.returned (.slice none 0 0)) w):=⟨none,0,[],rfl,own_nil_bytes _ _ (by unfold maxLen;omega),Later.refl _⟩
  generalize hQ:CloP [] w=Q at *
  clear hQ h hb
  cases a with
  | none =>
   go_enter Tryz.func82,Tryz.ntmps82
   go_wp2_with fail
   exact HN.out
  | some x =>
   go_enter Tryz.func82,Tryz.ntmps82
   go_wp2_with (at_builtin;refine wpList_append_own _ rfl _ _ 41 rfl w.heap.size 5 i0 (.int .u8 0) 1 1 Tryz.underlying41 hi hz0 hz1 hz2 rfl (by decide) _ _ _ rfl hE x 0 cap [] rfl rfl (fun j u hj=>by simp at hj) (by simp) (by unfold maxLen;omega) (by omega) (by simp) ?_;intro v3 w3 o3 g3 _;have HQ:=HP.out v3 w3 o3 (Later.trans' (v:=.slice (some ⟨w.heap.size,0,none⟩) 0 0) (later1 _ _) g3 (fun g hg=>by cases hg;exact Nat.le_refl _));obtain⟨a3,p3,hv3⟩:=row_form o3;rw[hv3]at HQ ⊢)
   exact HQ
 ·obtain⟨g,off,q,rfl,hg,hc⟩:=rdn_cells h h0
  have hc':∀ o j u,(zs.map (Value.int .u8))[j]?=some u→(w.alloc o).cell? ((⟨g,off,none⟩:Addr).add j)=some u:=fun o j u hj=>by
   rw[Addr.add_lit,(later1 w o).cell (p:=⟨g,off+j,none⟩) hg,← Addr.add_lit]
   exact hc j u hj
  have hll:(zs.map (Value.int .u8)).length=zs.length:=List.length_map ..
  have hone:=bytes_one zs
  generalize hQ:CloP zs w=Q at *
  generalize zs.map (Value.int .u8)=X at *
  clear hQ h hb hc
  generalize zs.length=N at *
  go_enter Tryz.func82,Tryz.ntmps82
  go_wp2_with (at_builtin;refine wpList_append_own _ rfl _ _ 41 rfl w.heap.size 5 i0 (.int .u8 0) 1 1 Tryz.underlying41 hi hz0 hz1 hz2 rfl (by decide) _ _ _ rfl hE ⟨g,off,none⟩ N q X rfl (by rw[hll,Nat.mul_one]) (hc' _) hone (by unfold maxLen;omega) (by omega) (by simp) ?_;intro v3 w3 o3 g3 _;rw[Nat.zero_add,List.nil_append]at o3;have HQ:=HP.out v3 w3 o3 (Later.trans' (v:=.slice (some ⟨w.heap.size,0,none⟩) 0 0) (later1 _ _) g3 (fun g hg=>by cases hg;exact Nat.le_refl _));obtain⟨a3,p3,hv3⟩:=row_form o3;rw[hv3]at HQ ⊢)
  exact HQ
def ElAll (w:World) (k:Nat):List Dat→List Value→List Nat→Prop
 | [],xs,F=>xs=[]∧F=[]
 | d::r,xs,F=>∃ cs ys F1 F2,xs=cs++ys∧F=F1++F2∧cs.length=k∧OwnD w d cs F1∧ElAll w k r ys F2
theorem ElAll.agree {w w':World}(hs:w.heap.size≤w'.heap.size) {k:Nat}:∀ (l:List Dat) {xs:List Value}{F:List Nat},ElAll w k l xs F→(∀ b∈F,w'.heap[b]?=w.heap[b]?)→ElAll w' k l xs F
 | [],_,_,h,_=>h
 | d::r,xs,F,h,ha=>by
  obtain⟨cs,ys,F1,F2,rfl,rfl,hk,hd,hr⟩:=h
  exact⟨cs,ys,F1,F2,rfl,rfl,hk,OwnD.agree hs d hd (fun b hb=>ha b (List.mem_append_left _ hb)),ElAll.agree hs r hr (fun b hb=>ha b (List.mem_append_right _ hb))⟩
theorem ElAll.snoc {w:World}{k:Nat}{d:Dat}{cs:List Value}{G:List Nat}(hk:cs.length=k) (hd:OwnD w d cs G):∀ (l:List Dat) {xs:List Value}{F:List Nat},ElAll w k l xs F→ElAll w k (l++[d]) (xs++cs) (F++G)
 | [],xs,F,h=>by
  obtain⟨rfl,rfl⟩:=h
  exact⟨cs,[],G,[],by simp,by simp,hk,hd,rfl,rfl⟩
 | x::r,xs,F,h=>by
  obtain⟨c1,ys,F1,F2,rfl,rfl,hk1,hd1,hr⟩:=h
  exact⟨c1,ys++cs,F1,F2++G,by simp,by simp,hk1,hd1,ElAll.snoc hk hd r hr⟩
theorem ElAll.own {w:World}{k g:Nat}:∀ (l:List Dat) {i:Nat}{xs:List Value}{F:List Nat},ElAll w k l xs F→(∀ m u,xs[m]?=some u→w.cell? ⟨g,i*k+m,none⟩=some u∧w.frozen? ⟨g,i*k+m,none⟩=false)→OwnAll w k g i l F
 | [],i,xs,F,h,_=>by
  obtain⟨rfl,rfl⟩:=h
  rw[OwnAll]
 | d::r,i,xs,F,h,hc=>by
  obtain⟨cs,ys,F1,F2,rfl,rfl,hk,hd,hr⟩:=h
  rw[OwnAll]
  refine⟨cs,F1,F2,rfl,hk,fun m u hm=>?_,hd,ElAll.own r hr (fun m u hm=>?_)⟩
  ·have hml:m<cs.length:=by
    rcases Nat.lt_or_ge m cs.length with h|h
    ·exact h
    ·rw[List.getElem?_eq_none h]at hm;cases hm
   exact hc m u (by rw[List.getElem?_append_left hml];exact hm)
  ·have:=hc (k+m) u (by rw[List.getElem?_append_right (by omega),hk,Nat.add_sub_cancel_left];exact hm)
   rw[show i*k+(k+m)=(i+1)*k+m by rw[Nat.succ_mul];omega]at this
   exact this
structure Bd (base:Nat) (w:World) (t:TypeId) (k:Nat) (v:Value) (l:List Dat) (xs:List Value) (F:List Nat):Prop where
 row:w.ownsRow base t k v l.length xs
 el:ElAll w k l xs F
 fr:Fr base w.heap.size F
 sep:∀ b,v.ownBlock=some b→b∉F
theorem Bd.nil (base:Nat) (w:World) (t:TypeId) (k:Nat):Bd base w t k (.slice none 0 0) [] [] []:=⟨World.ownsRow_nil _ _ _ _,⟨rfl,rfl⟩,Fr.nil _ _,fun b hb=>by cases hb⟩
theorem Later.kept {w w':World}(h:Later w w') (lo:Nat):Kept lo w w':=⟨h.size,fun b _ hb=>h.block b hb⟩
theorem Kept.trans {lo:Nat}{a b c:World}(h:Kept lo a b) (k:Kept lo b c):Kept lo a c:=⟨Nat.le_trans h.size k.size,fun x hx hl=>by rw[k.block x hx (Nat.lt_of_lt_of_le hl h.size),h.block x hx hl]⟩
theorem row_kept {base:Nat}{w w':World}{t:TypeId}{k n:Nat}{v:Value}{xs:List Value}(h:w.ownsRow base t k v n xs) (hk:Kept base w w'):w'.ownsRow base t k v n xs:=by
 refine⟨h.1,?_⟩
 rcases h.2 with e|⟨g,cap,cur,rfl,h1,h2,h3⟩
 ·exact .inl e
 ·exact .inr ⟨g,cap,cur,rfl,h1,by rw[hk.block g h1 (h.lt g rfl).2];exact h2,h3⟩
theorem Bd.kept {base:Nat}{w w':World}{t:TypeId}{k:Nat}{v:Value}{l:List Dat}{xs:List Value}{F:List Nat}(h:Bd base w t k v l xs F) (hl:Kept base w w'):Bd base w' t k v l xs F :=
 ⟨row_kept h.row hl,ElAll.agree hl.size l h.el (fun b hb=>hl.block b (h.fr.2 b hb).1 (h.fr.2 b hb).2),h.fr.mono (Nat.le_refl _) hl.size,h.sep⟩
theorem Bd.push {base:Nat}{wr w1 w2 w':World}{t:TypeId}{k:Nat}{v v':Value}{l:List Dat}{xs:List Value}{F:List Nat}(h:Bd base wr t k v l xs F) {d:Dat}{cs:List Value}{G:List Nat}(hk:cs.length=k) (hd:Own wr.heap.size w1 d cs G) (l1:Kept base wr w1) (l2:Kept base w1 w2) (hbase:base≤wr.heap.size)
  (ho:w'.ownsRow base t k v' (l.length+1) (xs++cs)) (hg:w2.grownBy w' v.ownBlock) (hloc:v'.ownBlock=v.ownBlock∨v'.ownBlock=some w2.heap.size):Bd base w' t k v' (l++[d]) (xs++cs) (F++G):=by
 have s1:=l1.size
 have s2:=l2.size
 have s3:=hg.size
 have hF:∀ b∈F,w'.heap[b]?=wr.heap[b]?:=fun b hb=>by
  have:=h.fr.2 b hb
  rw[hg.block b (by omega) (fun e=>h.sep b e.symm hb),l2.block b (by omega) (by omega),l1.block b (by omega) (by omega)]
 have hG:∀ b∈G,w'.heap[b]?=w1.heap[b]?:=fun b hb=>by
  have:=hd.fresh b hb
  rw[hg.block b (by omega) (fun e=>by have:=(h.row.lt b e.symm).2;omega),l2.block b (by omega) (by omega)]
 refine⟨by rw[List.length_append];exact ho,ElAll.snoc hk (OwnD.agree (by omega) _ hd.own hG) _ (ElAll.agree (by omega) _ h.el hF),(h.fr.app hd.fr hbase s1).mono (Nat.le_refl _) (by omega),fun b hb hm=>?_⟩
 rcases hloc with e|e
 ·rw[e]at hb
  rcases List.mem_append.1 hm with q|q
  ·exact h.sep b hb q
  ·have:=(h.row.lt b hb).2
   have:=hd.fresh b q
   omega
 ·rw[e]at hb
  cases hb
  rcases List.mem_append.1 hm with q|q
  ·have:=h.fr.2 _ q;omega
  ·have:=hd.fresh _ q;omega
theorem Bd.done {base:Nat}{w:World}{t:TypeId}{k:Nat}{v:Value}{l:List Dat}{xs:List Value}{F:List Nat}(h:Bd base w t k v l xs F) (hs:l.length≤1048576):∃ G,Own base w (.list k l) [v] G:=by
 rcases h.row.2 with ⟨rfl,e⟩|⟨g,cap,cur,rfl,h1,h2,h3,h4,h5,h6⟩
 ·refine⟨[],Own.mk' ?_ (Fr.nil _ _)⟩
  rw[OwnD]
  exact⟨none,0,by rw[e],⟨hs,by omega,by unfold maxLen;omega⟩,fun hp=>by omega,fun _=>rfl⟩
 ·have hlt:=(h.row.lt g rfl).2
  rcases Nat.eq_zero_or_pos l.length with h0|h0
  ·refine⟨[],Own.mk' ?_ (Fr.nil _ _)⟩
   rw[OwnD]
   exact⟨_,cap,rfl,⟨hs,h3,h4⟩,fun hp=>by omega,fun _=>rfl⟩
  ·refine⟨g::F,Own.mk' ?_ ⟨List.nodup_cons.2 ⟨h.sep g rfl,h.fr.1⟩,fun b hb=>?_⟩⟩
   ·rw[OwnD]
    refine⟨_,cap,rfl,⟨hs,h3,h4⟩,fun _=>⟨g,F,rfl,rfl,hlt,ElAll.own l h.el (fun m u hm=>?_)⟩,fun hp=>by omega⟩
    rw[Nat.zero_mul,Nat.zero_add]
    have hm':m<l.length*k:=by
     rw[←h.row.1]
     rcases Nat.lt_or_ge m xs.length with q|q
     ·exact q
     ·rw[List.getElem?_eq_none q]at hm;cases hm
    exact⟨by rw[h.row.cellAt m hm'];exact hm,h.row.frozenAt m⟩
   ·rcases List.mem_cons.1 hb with rfl|hb
    ·exact⟨h1,hlt⟩
    ·exact h.fr.2 b hb
theorem Pa.datsMap (l:List Pa):Pa.dats l=l.map Pa.dat:=by induction l with|nil=>rfl|cons x r ih=>rw[Pa.dats,ih];rfl
theorem Sc.datsMap (l:List Sc):Sc.dats l=l.map Sc.dat:=by induction l with|nil=>rfl|cons x r ih=>rw[Sc.dats,ih];rfl
theorem Ex.datsMap (l:List Ex):Ex.dats l=l.map Ex.dat:=by induction l with|nil=>rw[Ex.dats];rfl|cons x r ih=>rw[Ex.dats,ih];rfl
theorem St.datsMap (l:List St):St.dats l=l.map St.dat:=by induction l with|nil=>rw[St.dats];rfl|cons x r ih=>rw[St.dats,ih];rfl
theorem Fu.datsMap (l:List Fu):Fu.dats l=l.map Fu.dat:=by induction l with|nil=>rfl|cons x r ih=>rw[Fu.dats,ih];rfl
theorem takeSnoc {α β:Type}{l:List α}{j:Nat}(h:j<l.length) (f:α→β):(l.take (j+1)).map f=(l.take j).map f++[f l[j]]:=by rw[List.take_succ_eq_append_getElem h,List.map_append];rfl
structure Bxx (w:World) (B:Nat) (xs:List Value):Prop where
 lt:B<w.heap.size
 cell:∀ i u,xs[i]?=some u→w.cell? ⟨B,i,none⟩=some u∧w.frozen? ⟨B,i,none⟩=false
theorem Bxx.new (w:World) (cs:Array Value) (t:TypeId):Bxx (w.alloc (.cells cs t)) w.heap.size cs.toList:=by
 have e:(w.alloc (.cells cs t)).heap[w.heap.size]?=some (.cells cs t):=(MapKept.heap_alloc w _).1
 refine⟨by simp,fun i u h=>⟨?_,?_⟩⟩
 ·have:=new_row w cs t rfl i u h
  rwa [Addr.add_lit,Nat.zero_add]at this
 ·unfold World.frozen?
  simp only[e]
  simp
theorem Bxx.later {w w':World}{B:Nat}{xs:List Value}(h:Bxx w B xs) (hl:Later w w'):Bxx w' B xs :=
 ⟨Nat.lt_of_lt_of_le h.lt hl.size,fun i u hi=>by rw[Below.cell hl (p:=⟨B,i,none⟩) h.lt,Below.frozen hl (p:=⟨B,i,none⟩) h.lt];exact h.cell i u hi⟩
theorem Bxx.kept {w w':World}{B:Nat}{xs:List Value}(h:Bxx w B xs) (hs:w.heap.size≤w'.heap.size) (hb:w'.heap[B]?=w.heap[B]?):Bxx w' B xs :=
 ⟨Nat.lt_of_lt_of_le h.lt hs,fun i u hi=>by rw[World.cell?_of_block (w:=w) (w':=w') (a:=⟨B,i,none⟩) hb,World.frozen?_of_block (w:=w) (w':=w') (a:=⟨B,i,none⟩) hb];exact h.cell i u hi⟩
theorem Bxx.only {K:Nat}{w w':World}{B:Nat}{xs:List Value}(h:Bxx w B xs) (ho:OnlyK K w w') (hK:B≠K):Bxx w' B xs:=h.kept ho.size (ho.block B h.lt hK)
theorem Bxx.set {w:World}{B:Nat}{xs:List Value}(h:Bxx w B xs) (i:Nat) (v:Value) (hi:i<xs.length):Bxx (w.setCell ⟨B,i,none⟩ v) B (xs.set i v):=by
 refine⟨by rw[World.size_setCell];exact h.lt,fun j u hj=>?_⟩
 rw[World.frozen?_setCell]
 by_cases e:j=i
 ·subst e
  rw[List.getElem?_set_self hi]at hj
  cases hj
  have:=h.cell j _ (List.getElem?_eq_getElem hi)
  exact⟨set_same this.1,this.2⟩
 ·rw[List.getElem?_set_ne (Ne.symm e)]at hj
  rw[set_off _ _ _ (Ne.symm e)]
  exact h.cell j u hj
theorem Bxx.other {w:World}{B:Nat}{xs:List Value}(h:Bxx w B xs) {b o:Nat}(hb:B≠b) (v:Value):Bxx (w.setCell ⟨b,o,none⟩ v) B xs:=h.kept (by rw[World.size_setCell];exact Nat.le_refl _) (Below.heap_setCell _ _ _ _ hb)
theorem Bxx.alloc {w:World}{B:Nat}{xs:List Value}(h:Bxx w B xs) (o:Obj):Bxx (w.alloc o) B xs:=h.later (later1 _ _)
def CpS (K:Nat) (w:World) (p:Int) (t:Bool):Prop:=Bxx w K [.int .i64 0,.int .i64 p,.bool t]
theorem CpS.sv {K:Nat}{w:World}{p:Int}{t:Bool}(h:CpS K w p t):Sv K w 0 p:=⟨(h.cell 0 _ rfl).1,(h.cell 1 _ rfl).1,(h.cell 1 _ rfl).2,h.lt⟩
def GoP (K:Nat) (p:Int) (t b:Bool) (w:World) (e:Ending) (w':World):Prop:=e=.returned (.bool (!t&&b))∧OnlyK K w w'∧∃ p',CpS K w' p' (t||!b)∧(t=false→p'=p+1)
def EnP (K:Nat) (p d:Int) (t:Bool) (w:World) (e:Ending) (w':World):Prop:=∃ b p',e=.returned (.bool b)∧CpS K w' p' t∧OnlyK K w w'∧(0≤p→p≤400→p'=p+1∧b=(decide (p+1≤400)&&decide (d≤30)))
theorem ienter_all (K:Nat) (p d:Int) (t:Bool) (w:World) (hS:CpS K w p t):Calls Tryz.prog 156 #[.pointer (some ⟨K,0,none⟩),.int .i64 d] w (EnP K p d t w):=by
 have c1:=(hS.cell 1 _ rfl).1
 have f1:=(hS.cell 1 _ rfl).2
 have hK:=hS.lt
 have HS:Hid (∀ q b,(0≤p→p≤400→q=p+1∧b=(decide (p+1≤400)&&decide (d≤30)))→EnP K p d t w (.returned (.bool b)) (w.setCell ⟨K,1,none⟩ (.int .i64 q))):=fun q b h=>⟨b,q,rfl,hS.set 1 (.int .i64 q) (Nat.lt_of_sub_eq_succ rfl),(OnlyK.refl K w).set 1 _,h⟩
 generalize hQ:EnP K p d t w=Q at *
 clear hS hQ
 by_cases hr:0≤p∧p≤400
 ·obtain⟨h0,h4⟩:=hr
  by_cases h5:p+1≤400
  ·have HA:=HS.out (p+1) (decide (d≤30)) (fun _ _=>⟨rfl,by rw[decide_eq_true h5];rfl⟩)
   clear HS
   go_enter Tryz.func156,Tryz.ntmps156
   go_wp2_with fail
   exact HA
  ·have HA:=HS.out (p+1) false (fun _ _=>⟨rfl,by rw[decide_eq_false h5];rfl⟩)
   have h6:decide (p+1≤400)=false:=decide_eq_false h5
   clear HS
   go_enter Tryz.func156,Tryz.ntmps156
   go_wp2_with fail
   exact HA
 ·obtain⟨q,hq⟩:∃ q,wrap64 (p+1)=q:=⟨_,rfl⟩
  have HA:Hid (∀ b,Q (.returned (.bool b)) (w.setCell ⟨K,1,none⟩ (.int .i64 q))):=fun b=>HS.out q b (fun a b=>absurd ⟨a,b⟩ hr)
  clear HS
  by_cases h5:q≤400
  ·go_enter Tryz.func156,Tryz.ntmps156
   go_wp2_with fail
   exact HA.out _
  ·have h6:decide (q≤400)=false:=decide_eq_false h5
   go_enter Tryz.func156,Tryz.ntmps156
   go_wp2_with fail
   exact HA.out _
theorem goes_any (K:Nat) (p d:Int) (t:Bool) (a:Option Addr) (n c:Nat) (w:World) (hS:CpS K w p t) (hp:t=false→0≤p∧p≤400):Calls Tryz.prog 127 #[.pointer (some ⟨K,0,none⟩),.slice a n c,.int .i64 d] w (GoP K p t (decide (p+1≤400)&&decide (d≤30)&&decide (n≤8)) w):=by
 have hE:=ienter_all K p d t w hS
 have HP:Hid (∀ b p' w',CpS K w' p' (t||!b)→OnlyK K w w'→(t=false→p'=p+1∧b=(decide (p+1≤400)&&decide (d≤30)&&decide (n≤8)))→(∀ q,q=(!t&&b)→GoP K p t (decide (p+1≤400)&&decide (d≤30)&&decide (n≤8)) w (.returned (.bool q)) w')):=fun b p' w' hc ho hh q hq=>by
  cases t with
  | true =>
   refine⟨by rw[hq];rfl,ho,p',hc,fun h=>by cases h⟩
  | false =>
   obtain⟨e1,e2⟩:=hh rfl
   subst e2
   exact⟨by rw[hq],ho,p',hc,fun _=>e1⟩
 generalize hQ:GoP K p t (decide (p+1≤400)&&decide (d≤30)&&decide (n≤8)) w=Q at *
 clear hQ hS
 have hBn:(decide (n≤8))=!(decide ((8:Int)<(n:Int))):=by
  by_cases h:n≤8
  ·rw[decide_eq_true h,decide_eq_false (by omega)];rfl
  ·rw[decide_eq_false h,decide_eq_true (by omega)];rfl
 go_enter Tryz.func127,Tryz.ntmps127
 go_wp2_with fail
 refine hE.mono ?_
 rintro e w1 ⟨b,p',rfl,hc1,ho1,hv⟩
 have c2:=(hc1.cell 2 _ rfl).1
 have f2:=(hc1.cell 2 _ rfl).2
 have hT:CpS K (w1.setCell ⟨K,2,none⟩ (.bool true)) p' true:=hc1.set 2 (.bool true) (Nat.lt_of_sub_eq_succ rfl)
 have hTo:OnlyK K w (w1.setCell ⟨K,2,none⟩ (.bool true)):=ho1.set 2 _
 have HF:Hid (b=false∨8<(n:Int)→Q (.returned (.bool false)) (w1.setCell ⟨K,2,none⟩ (.bool true))):=fun h=>HP.out false p' _ (by rw[Bool.not_false,Bool.or_true];exact hT) hTo (fun ht=>by
  obtain⟨h0,h4⟩:=hp ht
  obtain⟨e1,e2⟩:=hv h0 h4
  refine⟨e1,?_⟩
  rcases h with h|h
  ·rw[←e2,h];rfl
  ·rw[decide_eq_false (show ¬ n≤8 by omega),Bool.and_false]) false (by rw[Bool.and_false])
 have HT:Hid (b=true→¬ 8<(n:Int)→Q (.returned (.bool (!t))) w1):=fun h h'=>HP.out true p' _ (by rw[Bool.not_true,Bool.or_false];exact hc1) ho1 (fun ht=>by
  obtain⟨h0,h4⟩:=hp ht
  obtain⟨e1,e2⟩:=hv h0 h4
  refine⟨e1,?_⟩
  rw[←e2,h,decide_eq_true (show n≤8 by omega)];rfl) (!t) (by rw[Bool.and_true])
 clear HP hv hE hT hTo hc1 ho1 hBn
 cases b with
 | false =>
  have HA:=HF.out (.inl rfl)
  clear HF HT
  go_wp2_with fail
  exact HA
 | true =>
  by_cases h8:8<(n:Int)
  ·have HA:=HF.out (.inr h8)
   clear HF HT
   go_wp2_with fail
   exact HA
  ·have HA:=HT.out rfl h8
   have h9:decide (8<(n:Int))=false:=decide_eq_false h8
   clear HF HT
   go_wp2_with fail
   exact HA
def CloV (zs:List Int) (w:World) (v:Value) (w':World):Prop:=∃ a c F,v=.slice a zs.length c∧Own w.heap.size w' (.bytes zs) [.slice a zs.length c] F∧Later w w'
theorem clone_v (v:Value) (zs:List Int) (w:World) (h:RdN w v zs) (hs:zs.length≤1048576):Calls Tryz.prog 82 #[v] w fun e w'=>∃ u,e=.returned u∧CloV zs w u w':=by
 refine (clone_any v zs w h hs).mono ?_
 rintro e w' ⟨a,c,F,rfl,hO,hl⟩
 exact⟨_,rfl,a,c,F,rfl,hO,hl⟩
theorem en_clone:Enters Tryz.prog 82:=enters_of Tryz.func82 (by kernel_rfl) (by kernel_rfl)
theorem cparams_any (v:Value) (l:List Pa) (w:World) (h:RdL w 3 v (Pa.dats l)) (hlen:l.length≤1000000) (hN:∀ p∈l,p.name.length≤1048576) :
  Calls Tryz.prog 83 #[v] w fun e w'=>∃ a c F,e=.returned (.slice a l.length c)∧Own w.heap.size w' (.list 3 (Pa.dats l)) [.slice a l.length c] F∧Later w w':=by
 obtain⟨a,cap,rfl,hl⟩:=Pa.slice h
 obtain⟨i0,hi,hz0,hz1,hz2⟩:=info_parts Tryz.info57
 go_enter Tryz.func83,Tryz.ntmps83
 go_wp2_with fail
 go_loopw [3,8] (fun r i wr=>∃ (j:Nat) (xs:List Value) (F:List Nat) (rv:Value),rv=r∧i=.int .i64 (j:Int)∧j≤l.length∧Later w wr∧Bd w.heap.size wr 57 3 rv (Pa.dats (l.take j)) xs F) (fun _ i _=>l.length - (intOf i).toNat)
 case atStart=>exact⟨0,[],[],_,rfl,rfl,Nat.zero_le _,Later.refl _,Bd.nil _ _ _ _⟩
 case round =>
  obtain⟨j,xs,F,rv,rfl,rfl,hj,lr,hB⟩:=hrel
  by_cases hlt:j<l.length
  ·obtain⟨g,off,v0,rfl,hgs,c0,c1,c2,r0⟩:=Pa.elem (RdL.later lr h) j hlt
   have i1:(j:Int)<(l.length:Int):=by omega
   have hlx:(Pa.dats (l.take j)).length=j:=by rw[Pa.dats_len,List.length_take];omega
   have hrow:=hB.row
   rw[hlx]at hrow
   obtain⟨ra,rc,hra⟩:=row_form hrow
   have hsz:=lr.size
   obtain⟨wb,hwb⟩:=hidx (wr.alloc (.cells #[v0,.int .i64 l[j].tk,.int .i64 l[j].tn] 57))
   have hbx:Bxx wb wr.heap.size [v0,.int .i64 l[j].tk,.int .i64 l[j].tn]:=by rw[hwb.out];exact Bxx.new _ _ _
   have lb:Later wr wb:=by rw[hwb.out];exact later1 _ _
   have HC:Hid (∀ w',Later wb w'→Calls Tryz.prog 82 #[v0] w' fun e w''=>∃ u,e=.returned u∧CloV l[j].name w' u w''):=fun w' ll=>clone_v v0 l[j].name w' (r0.later (lb.trans ll)) (hN _ (List.getElem_mem hlt))
   have HR:Hid (∀ w',Later wb w'→w'.ownsRow w.heap.size 57 3 rv j xs):=fun w' ll=>row_kept hrow ((lb.trans ll).kept _)
   have HS:Hid (∀ w',Later wb w'→w'.cell? ⟨wr.heap.size,0,none⟩=some v0∧w'.cell? ⟨wr.heap.size,1,none⟩=some (.int .i64 l[j].tk)∧w'.cell? ⟨wr.heap.size,2,none⟩=some (.int .i64 l[j].tn)):=fun w' ll=>⟨((hbx.later ll).cell 0 _ rfl).1,((hbx.later ll).cell 1 _ rfl).1,((hbx.later ll).cell 2 _ rfl).1⟩
   have HP:Hid (∀ w3 w4 w' v' a3 p3 G,Later wb w3→Own wb.heap.size w3 (.bytes l[j].name) [.slice a3 l[j].name.length p3] G→Later w3 w4→w'.ownsRow w.heap.size 57 3 v' (j+1) (xs++[.slice a3 l[j].name.length p3,.int .i64 l[j].tk,.int .i64 l[j].tn])→w4.grownBy w' rv.ownBlock→(v'.ownBlock=rv.ownBlock∨v'.ownBlock=some w4.heap.size)→Later w w'∧(w'.cell? ⟨wr.heap.size,0,none⟩=some v0∧w'.cell? ⟨wr.heap.size,1,none⟩=some (.int .i64 l[j].tk)∧w'.cell? ⟨wr.heap.size,2,none⟩=some (.int .i64 l[j].tn))∧∃ xs' F',Bd w.heap.size w' 57 3 v' (Pa.dats (l.take (j+1))) xs' F'):=fun w3 w4 w' v' a3 p3 G l3 hO l4 ho hg hloc=>by
    have hb4:=hbx.later (l3.trans l4)
    have hb5:Bxx w' wr.heap.size [v0,.int .i64 l[j].tk,.int .i64 l[j].tn]:=hb4.kept hg.size (hg.block _ hb4.lt (fun e=>by have:=(hrow.lt _ e.symm).2;omega))
    refine⟨Later.trans' ((lr.trans lb).trans (l3.trans l4)) hg (fun g hg=>(hrow.lt g hg).1),⟨(hb5.cell 0 _ rfl).1,(hb5.cell 1 _ rfl).1,(hb5.cell 2 _ rfl).1⟩,xs++[.slice a3 l[j].name.length p3,.int .i64 l[j].tk,.int .i64 l[j].tn],F++G,?_⟩
    rw[Pa.datsMap,takeSnoc hlt,← Pa.datsMap]
    exact hB.push (cs:=[.slice a3 l[j].name.length p3,.int .i64 l[j].tk,.int .i64 l[j].tn]) rfl (Own.mk' (Pa.own hO.own) (hO.fr.mono (by have:=lb.size;omega) (Nat.le_refl _))) ((lb.trans l3).kept _) (l4.kept _) hsz (by rw[hlx];exact ho) hg hloc
   have hs3:w.heap.size<wb.heap.size:=Nat.lt_of_le_of_lt hsz hbx.lt
   obtain⟨y0,q0,rfl,_⟩:=r0.slice
   generalize l[j].tk=z_tk at *
   generalize l[j].tn=z_tn at *
   clear h hB r0 hlx hrow hbx
   subst hra
   go_wp2_with fail
   rw[←hwb.out]
   go_region_held3 (fun w'=>w'.cell? ⟨wr.heap.size,0,none⟩=some (.slice y0 l[j].name.length q0)∧w'.cell? ⟨wr.heap.size,1,none⟩=some (.int .i64 z_tk)∧w'.cell? ⟨wr.heap.size,2,none⟩=some (.int .i64 z_tn)) (first|exact hS4|exact HS.out _ (Later.drew _)|exact HS.out _ ((Later.drew _).trans l3)|exact HS.out _ ((Later.drew _).trans (l3.trans (later1 _ _)))) (first
    | (refine step_call rfl 82 en_clone _ _ rfl [.slice y0 l[j].name.length q0] rfl (fun v w'=>CloV l[j].name _ v w') (HC.out _ (Later.drew _)) ?_;intro u3 w3 hc3;obtain⟨a3,p3,G3,rfl,hO3,l3⟩:=hc3)
    | (refine step_append_at rfl _ _ 42 rfl w.heap.size 57 i0 (.agg #[.slice none 0 0,.int .i64 0,.int .i64 0]) 3 40 Tryz.underlying42 hi hz0 hz1 hz2 rfl (by decide) _ _ _ rfl ((HR.out _ ((Later.drew _).trans l3)).alloc _) _ 1 1 [.slice a3 l[j].name.length p3,.int .i64 z_tk,.int .i64 z_tn] rfl rfl (new_row _ _ _ rfl) (by simp[Value.oneCell']) (by unfold maxLen;omega) (by omega) (Nat.le_trans (Nat.le_of_lt hs3) ((Later.drew _).trans (l3.trans (later1 _ _))).size) ?_;intro v4 w4 o4 g4 h4;obtain⟨L4,hS4,xs',F',hB4⟩:=HP.out _ _ _ _ _ _ _ ((Later.drew _).trans l3) hO3 (later1 _ _) o4 g4 h4;obtain⟨a4,p4,hv4⟩:=row_form o4;rw[hv4]at hB4 ⊢))
   all_goals
    go_wp2_with fail
    go_roundw
    case rel=>exact⟨j+1,_,_,_,rfl,by go_num,by omega,L4,hB4⟩
    case measure=>simp[intOf];omega
  ·have i1:¬ (j:Int)<(l.length:Int):=by omega
   have i2:decide ((j:Int)<(l.length:Int))=false:=decide_eq_false i1
   have hjj:j=l.length:=by omega
   have HR:Hid (∃ a c F,rv=.slice a l.length c∧Own w.heap.size wr (.list 3 (Pa.dats l)) [.slice a l.length c] F):=by
    rw[hjj,List.take_length]at hB
    obtain⟨G,hG⟩:=hB.done (by rw[Pa.dats_len];omega)
    obtain⟨a,c,e⟩:=row_form hB.row
    rw[Pa.dats_len]at e
    exact⟨a,c,G,e,by rw[←e];exact hG⟩
   clear h hB
   obtain⟨ra,rc,G,rfl,hG⟩:=HR.out
   go_wp2_with fail
   go_ret
   exact⟨_,_,rfl,⟨_,hG⟩,lr⟩
end Go.Proofs.YtmdejbphoafjlaaGreatDoor
