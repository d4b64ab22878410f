import Derived.Test.YtgholpilmdebmaaGreatDoorZ05
import Derived.Test.YtgholpilmdebmaaGreatDoorZ04
import Derived.Test.YtgholpilmdebmaaGreatDoorZ10
import Derived.Maps.OwnSet
import Derived.WalkSpells
import Derived.Laws.OwnMore
import Derived.OwnWalk
import Derived.Maps.AppendAt
import Derived.Lib.SliceRun
set_option maxHeartbeats 100000000
set_option maxRecDepth 100000
namespace Go.Proofs.YtgholpilmdebmaaGreatDoor
open Go.RowKit Go.Maps Go.WideMaps Go.ChangeMaps
theorem zeroInt (w:World):(zeroValue 3).run Tryz.prog w=.ok (.int .i64 0) w:=by kernel_rfl
theorem own_tight {w:World}{P:Program}{k:TypeId}{R:Value→Option (DataW Unit × List MemPlace)}{b n:Nat}{D:DataW Unit}(h:w.ownsMap P k R b n D):w.ownsMap P k R b (Maps.size D) D:=by
 obtain⟨es,clock,hb,F,hs,rfl⟩:=h;exact⟨es,clock,hb,F,by rw[Maps.size_eq,length_read];exact Nat.le_refl _,rfl⟩
end Go.Proofs.YtgholpilmdebmaaGreatDoor
namespace Go.Proofs.YtgholpilmdebmaaGreatDoor
open Go.RowKit Go.Maps
end Go.Proofs.YtgholpilmdebmaaGreatDoor
namespace Go.Proofs.YtgholpilmdebmaaGreatDoor
open Go.RowKit Go.Maps
theorem allY {α:Type}{l:List α}{f:α→Bool}(h:∀ j (hj:j<l.length),f l[j]=true):l.all f=true:=by
 rw[List.all_eq_true];intro x hx;obtain⟨j,hj,rfl⟩:=List.mem_iff_getElem.1 hx;exact h j hj
theorem zac {w:World}{base k n:Nat}{t:TypeId}{v:Value}{xs:List Value}(h:w.ownsRow base t k v n xs):∃ a cap,v=.slice a n cap:=by
 rcases h.2 with ⟨rfl,rfl⟩|⟨g,cap,cur,rfl,_⟩
 ·exact⟨_,_,rfl⟩
 ·exact⟨_,_,rfl⟩
theorem zao (w:World) (cs:Array Value) (t:TypeId) {g:Nat}(hg:g=w.heap.size):∀ j x,cs.toList[j]?=some x→(w.alloc (.cells cs t)).cell? ((⟨g,0,none⟩:Addr).add j)=some x:=by
 intro j x h;subst hg;have h':cs[j]?=some x:=by simpa using h
 rw[Addr.add_lit,Nat.zero_add];have e:(w.alloc (.cells cs t)).heap[w.heap.size]?=some (.cells cs t):=(MapKept.heap_alloc w _).1;unfold World.cell?;simp only[e];exact h'
theorem Tryz.info22:(Tryz.prog.info? 22).map (fun i=>(i.zero,i.size,i.bytes))=some (some (.slice none 0 0),1,24):=by kernel_rfl
end Go.Proofs.YtgholpilmdebmaaGreatDoor
namespace Go.Proofs.YtgholpilmdebmaaGreatDoor
open Go.RowKit
theorem OwnD_bytes_lt {w:World}{zs:List Int}{cs:List Value}{F:List Nat}(h:OwnD w (.bytes zs) cs F):∀ b∈F,b<w.heap.size:=by
 rw[OwnD]at h;obtain⟨a,cap,_,_,_,h1,h0⟩:=h;rcases Nat.eq_zero_or_pos zs.length with q|q
 ·rw[h0 q];intro b hb;cases hb
 ·obtain⟨g,_,rfl,hg,_⟩:=h1 q;intro b hb;rw[List.mem_singleton.1 hb];exact hg
end Go.Proofs.YtgholpilmdebmaaGreatDoor
namespace Go.Proofs.YtgholpilmdebmaaGreatDoor
open Go.RowKit Go.Maps
theorem hidx {α:Type}(x:α):∃ T,Hid (T=x):=⟨x,rfl⟩
theorem zae {P:Program}{ops:Array Oper}{o:Oper}{a:Act}{w:World}{K:Act→World→Prop}{Q:Exit→Act→World→Prop}{E:Prop}
  (hg:o.guard=none) (s x:Operand) (t:TypeId) (hop:o.op=Op.call { callee:=Callee.builtin Builtin.append,args:=#[s,x],argTypes:=#[t,t] })
  (base:Nat) (e:TypeId) (i:TypeInfo) (z:Value) (size bytes:Nat) (ht:P.underlying t=some (.slice e)) (hi:P.info? e=some i) (hz:i.zero=some z)
  (hsize:i.size=size) (hby:i.bytes=bytes) (hzs:z.cells.size=size) (hsz:0<size)
  (v:Value) (n:Nat) (xs:List Value) (hs:a.eval s=v) (hown:w.ownsRow base e size v n xs)
  (ad:Addr) (m c:Nat) (news:List Value) (hx:a.eval x=.slice (some ad) m c) (hl:news.length=m*size) (hnews:∀ j u,news[j]?=some u→w.cell? (ad.add j)=some u) (h1:∀ u∈news,u.oneCell'=true)
  (h63:n+m≤maxLen) (hbytes:(n+m)*bytes≤140737488355328) (hbase:base≤w.heap.size)
  (h:∀ v' w',w'.ownsRow base e size v' (n+m) (xs++news)→w.grownBy w' v.ownBlock→(v'.ownBlock=v.ownBlock∨v'.ownBlock=some w.heap.size)→K (a.put o.dst v') w') :
  if Region.wanted o (yielded ops a.tmps)=true then Oper.wp P o a w K Q else E:=by
 have hw:Region.wanted o (yielded ops a.tmps)=true:=by simp[Region.wanted,hg]
 rw[if_pos hw];obtain⟨v',w',hr,h2,h3,_,h5⟩:=run_append_own_at (P:=P) w base t o.type e i z size bytes ht hi hz hsize hby hzs hsz v n xs hown ad m c news hl hnews h1 h63 hbytes hbase;unfold Oper.wp execOp;simp only[hop,resolve,invoke,builtin,Sem.run_bind,Sem.run_pure,Result.andThen_ok,List.map_toArray,List.map_cons,List.map_nil,hs,hx,hr];exact h v' w' h2 h3 h5
theorem row_bytes {w:World}{base:Nat}{v:Value}{zs:List Int}(h:w.ownsRow base 5 1 v zs.length (zs.map (Value.int .u8))) (hb:∀ j,isB (zs.getD j 0)) (hs:zs.length≤1048576):∃ F,Own base w (.bytes zs) [v] F:=by
 rcases h.2 with ⟨rfl,e⟩|⟨g,cap,cur,rfl,h1,h2,h3,h4,h5,h6⟩
 ·refine⟨[],Own.mk' ?_ (Fr.nil _ _)⟩;rw[OwnD];exact⟨none,0,by rw[e],⟨hs,by omega,by unfold maxLen;omega⟩,hb,fun hp=>by omega,fun _=>rfl⟩
 ·have hlt:=(h.lt g rfl).2;rcases Nat.eq_zero_or_pos zs.length with h0|h0
  ·refine⟨[],Own.mk' ?_ (Fr.nil _ _)⟩;rw[OwnD];exact⟨_,cap,rfl,⟨hs,h3,h4⟩,hb,fun hp=>by omega,fun _=>rfl⟩
  ·refine⟨[g],Own.mk' ?_ (Fr.one h1 hlt)⟩;rw[OwnD];refine⟨_,cap,rfl,⟨hs,h3,h4⟩,hb,fun _=>⟨g,rfl,rfl,hlt,fun j hj=>⟨?_,h.frozenAt j⟩⟩,fun hp=>by omega⟩;rw[h.cellAt j (by omega),List.getElem?_map,List.getElem?_eq_getElem hj,List.getD_eq_getElem?_getD,List.getElem?_eq_getElem hj];rfl
theorem bytes_one (zs:List Int):∀ u∈zs.map (Value.int .u8),u.oneCell'=true:=by
 intro u hu;obtain⟨z,_,rfl⟩:=List.mem_map.1 hu;rfl
theorem own_nil_bytes {w:World}{base:Nat}(a:Option Addr) (cap:Nat) (h:cap≤maxLen):Own base w (.bytes []) [.slice a 0 cap] []:=by
 refine Own.mk' ?_ (Fr.nil _ _);rw[OwnD];exact⟨a,cap,rfl,⟨by decide,Nat.zero_le _,h⟩,fun _=>⟨by simp,by simp⟩,fun hp=>absurd hp (Nat.lt_irrefl _),fun _=>rfl⟩
def ElAll (w:World) (k:Nat):List Dat→List Value→List Nat→Prop
 | [],xs,F=>xs=[]∧F=[]
 | d::r,xs,F=>∃ cs ys F1 F2,xs=cs++ys∧F=F1++F2∧cs.length=k∧OwnD w d cs F1∧ElAll w k r ys F2
theorem ElAll.agree {w w':World}(hs:w.heap.size≤w'.heap.size) {k:Nat}:∀ (l:List Dat) {xs:List Value}{F:List Nat},ElAll w k l xs F→(∀ b∈F,w'.heap[b]?=w.heap[b]?)→ElAll w' k l xs F
 | [],_,_,h,_=>h
 | d::r,xs,F,h,ha=>by
  obtain⟨cs,ys,F1,F2,rfl,rfl,hk,hd,hr⟩:=h;exact⟨cs,ys,F1,F2,rfl,rfl,hk,OwnD.agree hs d hd (fun b hb=>ha b (List.mem_append_left _ hb)),ElAll.agree hs r hr (fun b hb=>ha b (List.mem_append_right _ hb))⟩
theorem ElAll.snoc {w:World}{k:Nat}{d:Dat}{cs:List Value}{G:List Nat}(hk:cs.length=k) (hd:OwnD w d cs G):∀ (l:List Dat) {xs:List Value}{F:List Nat},ElAll w k l xs F→ElAll w k (l++[d]) (xs++cs) (F++G)
 | [],xs,F,h=>by
  obtain⟨rfl,rfl⟩:=h;exact⟨cs,[],G,[],by simp,by simp,hk,hd,rfl,rfl⟩
 | x::r,xs,F,h=>by
  obtain⟨c1,ys,F1,F2,rfl,rfl,hk1,hd1,hr⟩:=h;exact⟨c1,ys++cs,F1,F2++G,by simp,by simp,hk1,hd1,ElAll.snoc hk hd r hr⟩
theorem ElAll.own {w:World}{k g:Nat}:∀ (l:List Dat) {i:Nat}{xs:List Value}{F:List Nat},ElAll w k l xs F→(∀ m u,xs[m]?=some u→w.cell? ⟨g,i*k+m,none⟩=some u∧w.frozen? ⟨g,i*k+m,none⟩=false)→OwnAll w k g i l F
 | [],i,xs,F,h,_=>by
  obtain⟨rfl,rfl⟩:=h;rw[OwnAll]
 | d::r,i,xs,F,h,hc=>by
  obtain⟨cs,ys,F1,F2,rfl,rfl,hk,hd,hr⟩:=h;rw[OwnAll];refine⟨cs,F1,F2,rfl,hk,fun m u hm=>?_,hd,ElAll.own r hr (fun m u hm=>?_)⟩
  ·have hml:m<cs.length:=by
    rcases Nat.lt_or_ge m cs.length with h|h
    ·exact h
    ·rw[List.getElem?_eq_none h]at hm;cases hm
   exact hc m u (by rw[List.getElem?_append_left hml];exact hm)
  ·have:=hc (k+m) u (by rw[List.getElem?_append_right (by omega),hk,Nat.add_sub_cancel_left];exact hm);rw[show i*k+(k+m)=(i+1)*k+m by rw[Nat.succ_mul];omega]at this;exact this
structure Bd (base:Nat) (w:World) (t:TypeId) (k:Nat) (v:Value) (l:List Dat) (xs:List Value) (F:List Nat):Prop where
 row:w.ownsRow base t k v l.length xs
 el:ElAll w k l xs F
 fr:Fr base w.heap.size F
 sep:∀ b,v.ownBlock=some b→b∉F
theorem Bd.nil (base:Nat) (w:World) (t:TypeId) (k:Nat):Bd base w t k (.slice none 0 0) [] [] []:=⟨World.ownsRow_nil _ _ _ _,⟨rfl,rfl⟩,Fr.nil _ _,fun b hb=>by cases hb⟩
theorem Later.kept {w w':World}(h:Later w w') (lo:Nat):Kept lo w w':=⟨h.size,fun b _ hb=>h.block b hb⟩
theorem zbs {base:Nat}{w w':World}{t:TypeId}{k n:Nat}{v:Value}{xs:List Value}(h:w.ownsRow base t k v n xs) (hk:Kept base w w'):w'.ownsRow base t k v n xs:=by
 refine⟨h.1,?_⟩;rcases h.2 with e|⟨g,cap,cur,rfl,h1,h2,h3⟩
 ·exact .inl e
 ·exact .inr ⟨g,cap,cur,rfl,h1,by rw[hk.block g h1 (h.lt g rfl).2];exact h2,h3⟩
theorem Bd.kept {base:Nat}{w w':World}{t:TypeId}{k:Nat}{v:Value}{l:List Dat}{xs:List Value}{F:List Nat}(h:Bd base w t k v l xs F) (hl:Kept base w w'):Bd base w' t k v l xs F :=
 ⟨zbs h.row hl,ElAll.agree hl.size l h.el (fun b hb=>hl.block b (h.fr.2 b hb).1 (h.fr.2 b hb).2),h.fr.mono (Nat.le_refl _) hl.size,h.sep⟩
theorem Bd.later {base:Nat}{w w':World}{t:TypeId}{k:Nat}{v:Value}{l:List Dat}{xs:List Value}{F:List Nat}(h:Bd base w t k v l xs F) (hl:Later w w'):Bd base w' t k v l xs F:=h.kept (hl.kept _)
theorem Bd.push {base:Nat}{wr w1 w2 w':World}{t:TypeId}{k:Nat}{v v':Value}{l:List Dat}{xs:List Value}{F:List Nat}(h:Bd base wr t k v l xs F) {d:Dat}{cs:List Value}{G:List Nat}(hk:cs.length=k) (hd:Own wr.heap.size w1 d cs G) (l1:Kept base wr w1) (l2:Kept base w1 w2) (hbase:base≤wr.heap.size)
  (ho:w'.ownsRow base t k v' (l.length+1) (xs++cs)) (hg:w2.grownBy w' v.ownBlock) (hloc:v'.ownBlock=v.ownBlock∨v'.ownBlock=some w2.heap.size):Bd base w' t k v' (l++[d]) (xs++cs) (F++G):=by
 have s1:=l1.size;have s2:=l2.size;have s3:=hg.size
 have hF:∀ b∈F,w'.heap[b]?=wr.heap[b]?:=fun b hb=>by
  have:=h.fr.2 b hb;rw[hg.block b (by omega) (fun e=>h.sep b e.symm hb),l2.block b (by omega) (by omega),l1.block b (by omega) (by omega)]
 have hG:∀ b∈G,w'.heap[b]?=w1.heap[b]?:=fun b hb=>by
  have:=hd.fresh b hb;rw[hg.block b (by omega) (fun e=>by have:=(h.row.lt b e.symm).2;omega),l2.block b (by omega) (by omega)]
 refine⟨by rw[List.length_append];exact ho,ElAll.snoc hk (OwnD.agree (by omega) _ hd.own hG) _ (ElAll.agree (by omega) _ h.el hF),(h.fr.app hd.fr hbase s1).mono (Nat.le_refl _) (by omega),fun b hb hm=>?_⟩;rcases hloc with e|e
 ·rw[e]at hb;rcases List.mem_append.1 hm with q|q
  ·exact h.sep b hb q
  ·have:=(h.row.lt b hb).2;have:=hd.fresh b q;omega
 ·rw[e]at hb
  cases hb
  rcases List.mem_append.1 hm with q|q
  ·have:=h.fr.2 _ q;omega
  ·have:=hd.fresh _ q;omega
theorem Bd.done {base:Nat}{w:World}{t:TypeId}{k:Nat}{v:Value}{l:List Dat}{xs:List Value}{F:List Nat}(h:Bd base w t k v l xs F) (hs:l.length≤1048576):∃ G,Own base w (.list k l) [v] G:=by
 rcases h.row.2 with ⟨rfl,e⟩|⟨g,cap,cur,rfl,h1,h2,h3,h4,h5,h6⟩
 ·refine⟨[],Own.mk' ?_ (Fr.nil _ _)⟩;rw[OwnD];exact⟨none,0,by rw[e],⟨hs,by omega,by unfold maxLen;omega⟩,fun hp=>by omega,fun _=>rfl⟩
 ·have hlt:=(h.row.lt g rfl).2;rcases Nat.eq_zero_or_pos l.length with h0|h0
  ·refine⟨[],Own.mk' ?_ (Fr.nil _ _)⟩;rw[OwnD];exact⟨_,cap,rfl,⟨hs,h3,h4⟩,fun hp=>by omega,fun _=>rfl⟩
  ·refine⟨g::F,Own.mk' ?_ ⟨List.nodup_cons.2 ⟨h.sep g rfl,h.fr.1⟩,fun b hb=>?_⟩⟩
   ·rw[OwnD];refine⟨_,cap,rfl,⟨hs,h3,h4⟩,fun _=>⟨g,F,rfl,rfl,hlt,ElAll.own l h.el (fun m u hm=>?_)⟩,fun hp=>by omega⟩;rw[Nat.zero_mul,Nat.zero_add]
    have hm':m<l.length*k:=by
     rw[←h.row.1];rcases Nat.lt_or_ge m xs.length with q|q
     ·exact q
     ·rw[List.getElem?_eq_none q]at hm;cases hm
    exact⟨by rw[h.row.cellAt m hm'];exact hm,h.row.frozenAt m⟩
   ·rcases List.mem_cons.1 hb with rfl|hb
    ·exact⟨h1,hlt⟩
    ·exact h.fr.2 b hb
end Go.Proofs.YtgholpilmdebmaaGreatDoor
