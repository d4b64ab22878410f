import Derived.Test.YtgholpilmdebmaaGreatDoorZ24
import Derived.Lib.AppendStr
import Derived.Lib.AppendZerosOnto
set_option maxHeartbeats 100000000
set_option maxRecDepth 100000
namespace Go.Proofs.YtgholpilmdebmaaGreatDoor
open Go.RowKit Go.Maps
theorem run_append_none {P:Program}{w:World}(base:Nat) (t ty e:TypeId) (i:TypeInfo) (size:Nat) (ht:P.underlying t=some (.slice e)) (hi:P.info? e=some i)
  (v:Value) (n:Nat) (xs:List Value) (hown:w.ownsRow base e size v n xs) (c:Nat) :
  (Builtin.append_ #[t,t] ty #[v,.slice none 0 c]).run P w=.ok v w:=by
 rcases hown.2 with ⟨rfl,rfl⟩|⟨g,cap,cur,rfl,_,_,hnc,_⟩
 ·simp[Builtin.append_,run_underlying ht,sizeOf,typeInfo,hi,Builtin.lenOf,Builtin.firstCells]
 ·simp[Builtin.append_,run_underlying ht,sizeOf,typeInfo,hi,Builtin.lenOf,Builtin.firstCells,hnc,storeCells]
theorem getD_at {l:List Int}{j:Nat}(h:j<l.length):l.getD j 0=l[j]:=by
 rw[List.getD_eq_getElem?_getD,List.getElem?_eq_getElem h];rfl
def SrcB (w:World) (u:Value) (l:List Int):Prop:=(∃ c,u=.slice none 0 c∧l=[])∨∃ ad c,u=.slice (some ad) l.length c∧∀ j y,(l.map (Value.int .u8))[j]?=some y→w.cell? (ad.add j)=some y
theorem srcB_rd {w:World}{v:Value}{zs:List Int}(h:RdB w v zs):SrcB w v zs:=by
 obtain⟨a,c,rfl,_,_,hc⟩:=h
 cases a with
 | none =>
  cases zs with
  | nil=>exact .inl ⟨c,rfl,rfl⟩
  | cons y r=>obtain⟨g,off,q,_⟩:=hc 0 (by simp);cases q
 | some ad =>
  refine .inr ⟨ad,c,rfl,fun j y hj=>?_⟩;have hl:j<zs.length:=by have:=(List.getElem?_eq_some_iff.1 hj).1;rwa [List.length_map]at this
  obtain⟨g,off,q,_,hk⟩:=hc j hl
  cases q
  rw[List.getElem?_map,List.getElem?_eq_getElem hl]at hj;simp only[Option.map_some,Option.some.injEq]at hj;rw[show (⟨g,off,none⟩:Addr).add j=⟨g,off+j,none⟩ from by simp[Addr.add],hk,← hj,getD_at hl]
structure Tx (B K:Nat) (a:Option Addr) (len cap:Nat) (w0:World) (base:Nat) (u:Value) (l:List Int) (w:World):Prop where
 cu:At B K a len cap w0 w
 row:w.ownsRow base 5 1 u l.length (l.map (Value.int .u8))
 b:∀ j,isB (l.getD j 0)
 kb:K<base
 b0:w0.heap.size≤base
 bs:base≤w.heap.size
theorem At.grown {B K:Nat}{a:Option Addr}{len cap:Nat}{w0 w w':World}{row:Option Nat}(h:At B K a len cap w0 w) (g:w.grownBy w' row) (hr:∀ b,row=some b→K<b∧w0.heap.size≤b):At B K a len cap w0 w':=by
 exact⟨h.cur.later ((Below.refl _ _).grown g (by have:=h.cur.hK;omega) fun b e=>(hr b e).1),⟨g.os.trans h.only.os,g.tape.trans h.only.tape,g.output.trans h.only.output,Nat.le_trans h.only.size g.size,fun k hk hn=>(g.block k (Nat.lt_of_lt_of_le hk h.only.size) fun e=>by have:=(hr k e.symm).2;omega).trans (h.only.block k hk hn)⟩⟩
theorem row_only {w w':World}{K B n k:Nat}{e:TypeId}{v:Value}{xs:List Value}(h:w.ownsRow B e k v n xs) (o:OnlyK K w w') (hK:K<B):w'.ownsRow B e k v n xs:=by
 refine⟨h.1,?_⟩;rcases h.2 with q|⟨g,cap,cur,e1,h1,h2,h3⟩
 ·exact .inl q
 ·exact .inr ⟨g,cap,cur,e1,h1,(o.block g (zck h2) (by omega)).trans h2,h3⟩
theorem Tx.call {B K:Nat}{a:Option Addr}{len cap:Nat}{w0 w w':World}{base:Nat}{u:Value}{l:List Int}(h:Tx B K a len cap w0 base u l w) (k:At B K a len cap w w'):Tx B K a len cap w0 base u l w':=⟨⟨k.cur,h.cu.only.trans k.only⟩,row_only h.row k.only h.kb,h.b,h.kb,h.b0,Nat.le_trans h.bs k.only.size⟩
theorem Tx.later {B K:Nat}{a:Option Addr}{len cap:Nat}{w0 w w':World}{base:Nat}{u:Value}{l:List Int}(h:Tx B K a len cap w0 base u l w) (k:Later w w'):Tx B K a len cap w0 base u l w':=h.call ((At.start h.cu.cur).later k)
theorem Tx.slice {B K:Nat}{a:Option Addr}{len cap:Nat}{w0 w:World}{base:Nat}{u:Value}{l:List Int}(h:Tx B K a len cap w0 base u l w):∃ x c,u=.slice x l.length c∧l.length≤c∧c≤maxLen:=by
 obtain⟨x,c,e⟩:=zac h.row;subst e;exact⟨x,c,rfl,zct h.row⟩
theorem isB_app {l m:List Int}(h:∀ j,isB (l.getD j 0)) (k:∀ j,isB (m.getD j 0)):∀ j,isB ((l++m).getD j 0):=fun j=>by
 rcases Nat.lt_or_ge j l.length with q|q
 ·rw[List.getD_eq_getElem?_getD,List.getElem?_append_left q,← List.getD_eq_getElem?_getD];exact h j
 ·rw[List.getD_eq_getElem?_getD,List.getElem?_append_right q,← List.getD_eq_getElem?_getD];exact k _
theorem Tx.rd {B K:Nat}{a:Option Addr}{len cap:Nat}{w0 w:World}{base:Nat}{u:Value}{l:List Int}(h:Tx B K a len cap w0 base u l w):RdB w u l:=by
 obtain⟨x,c,rfl,hc,hm⟩:=h.slice;refine⟨x,c,rfl,by unfold maxLen at hm;omega,h.b,fun j hj=>?_⟩;obtain⟨g,q,e,_,hg,hk⟩:=zat h.row (by omega)
 cases e
 refine⟨g,0,rfl,hg,?_⟩;have:=hk j (.int .u8 (l.getD j 0)) (by rw[List.getElem?_map,List.getElem?_eq_getElem hj,getD_at hj];rfl);rw[←this]
 congr 1
 simp[Addr.add]
theorem Tx.app {B K:Nat}{a:Option Addr}{len cap:Nat}{w0 w w':World}{base:Nat}{u u':Value}{l m:List Int}(h:Tx B K a len cap w0 base u l w) (hm:∀ j,isB (m.getD j 0)) (o:w'.ownsRow base 5 1 u' (l.length+m.length) (l.map (Value.int .u8)++m.map (Value.int .u8))) (g:w.grownBy w' u.ownBlock):Tx B K a len cap w0 base u' (l++m) w' :=
 ⟨h.cu.grown g fun b e=>by
  have:=(h.row.lt b e).1;have:=h.kb;have:=h.b0
  omega,by rw[List.map_append,List.length_append];exact o,isB_app h.b hm,h.kb,h.b0,Nat.le_trans h.bs g.size⟩
theorem Tx.beside {B K:Nat}{a:Option Addr}{len cap:Nat}{w0 w w':World}{base b2:Nat}{u u2:Value}{l:List Int}(h:Tx B K a len cap w0 base u l w) (hc:At B K a len cap w0 w') (g:w.grownBy w' u2.ownBlock) (hb:∀ b,u2.ownBlock=some b→b2≤b) (hu:∀ b,u.ownBlock=some b→b<b2):Tx B K a len cap w0 base u l w' :=
 ⟨hc,h.row.kept g (by
  by_cases hh:u.ownBlock=none
  ·exact .inl hh
  ·refine .inr fun ee=>?_;obtain⟨b,e⟩:=Option.ne_none_iff_exists'.1 hh;have:=hu b e;have:=hb b (by rw[←ee];exact e)
   omega),h.b,h.kb,h.b0,Nat.le_trans h.bs g.size⟩
theorem zcp {P:Program}{o:Oper}{a:Act}{w:World}{K:Act→World→Prop}{Q:Exit→Act→World→Prop}(s x:Operand) (t:TypeId) (hop:o.op=Op.call { callee:=Callee.builtin Builtin.append,args:=#[s,x],argTypes:=#[t,t] })
  (base:Nat) (e:TypeId) (i:TypeInfo) (ht:P.underlying t=some (.slice e)) (hi:P.info? e=some i) (hz:i.zero=some (.int .u8 0)) (hsize:i.size=1) (hby:i.bytes=1)
  (v:Value) (n:Nat) (xs:List Value) (hs:a.eval s=v) (hown:w.ownsRow base e 1 v n xs) (u:Value) (l:List Int) (hx:a.eval x=u) (hu:SrcB w u l) (h63:n+l.length≤1000000) (hbase:base≤w.heap.size)
  (h:∀ v' w',w'.ownsRow base e 1 v' (n+l.length) (xs++l.map (Value.int .u8))→w.grownBy w' v.ownBlock→K (a.put o.dst v') w'):o.wp P a w K Q:=by
 rcases hu with ⟨c,rfl,rfl⟩|⟨ad,c,rfl,hc⟩
 ·have hrun:=run_append_none (P:=P) (w:=w) base t o.type e i 1 ht hi v n xs hown c;unfold Oper.wp execOp;simp only[hop,resolve,invoke,builtin,Sem.run_bind,Sem.run_pure,Result.andThen_ok,List.map_toArray,List.map_cons,List.map_nil,hs,hx,hrun];exact h v w (by simpa using hown) ⟨rfl,rfl,rfl,Nat.le_refl _,fun _ _ _=>rfl⟩
 ·obtain⟨v',w',hr,h2,h3,h4,h5⟩:=run_append_own_at (P:=P) w base t o.type e i _ 1 1 ht hi hz hsize hby rfl (by decide) v n xs hown ad l.length c _ (by rw[List.length_map,Nat.mul_one]) hc (fun y q=>by obtain⟨z,_,rfl⟩:=List.mem_map.1 q;rfl) (by unfold maxLen;omega) (by omega) hbase;unfold Oper.wp execOp;simp only[hop,resolve,invoke,builtin,Sem.run_bind,Sem.run_pure,Result.andThen_ok,List.map_toArray,List.map_cons,List.map_nil,hs,hx,hr];exact h v' w' h2 h3
theorem zbj {P:Program}{ops:Array Oper}{rest:List Oper}{o:Oper}{a:Act}{w:World}{Q:Exit→Act→World→Prop}(hg:o.guard=none) (s x:Operand) (t:TypeId) (hop:o.op=Op.call { callee:=Callee.builtin Builtin.append,args:=#[s,x],argTypes:=#[t,t] })
  (base:Nat) (e:TypeId) (i:TypeInfo) (ht:P.underlying t=some (.slice e)) (hi:P.info? e=some i) (hz:i.zero=some (.int .u8 0)) (hsize:i.size=1) (hby:i.bytes=1)
  (v:Value) (n:Nat) (xs:List Value) (hs:a.eval s=v) (hown:w.ownsRow base e 1 v n xs) (u:Value) (l:List Int) (hx:a.eval x=u) (hu:SrcB w u l) (h63:n+l.length≤1000000) (hbase:base≤w.heap.size)
  (h:∀ v' w',w'.ownsRow base e 1 v' (n+l.length) (xs++l.map (Value.int .u8))→w.grownBy w' v.ownBlock→wpList P ops Q rest (a.put o.dst v') w'):wpList P ops Q (o::rest) a w :=
 wpList_plain hg fun _ hK=>zcp s x t hop base e i ht hi hz hsize hby v n xs hs hown u l hx hu h63 hbase fun v' w' o' g'=>hK _ _ (h v' w' o' g')
theorem zas {P:Program}{ops:Array Oper}{o:Oper}{a:Act}{w:World}{K:Act→World→Prop}{Q:Exit→Act→World→Prop}{E:Prop}(hg:o.guard=none) (s x:Operand) (t:TypeId) (hop:o.op=Op.call { callee:=Callee.builtin Builtin.append,args:=#[s,x],argTypes:=#[t,t] })
  (base:Nat) (e:TypeId) (i:TypeInfo) (ht:P.underlying t=some (.slice e)) (hi:P.info? e=some i) (hz:i.zero=some (.int .u8 0)) (hsize:i.size=1) (hby:i.bytes=1)
  (v:Value) (n:Nat) (xs:List Value) (hs:a.eval s=v) (hown:w.ownsRow base e 1 v n xs) (u:Value) (l:List Int) (hx:a.eval x=u) (hu:SrcB w u l) (h63:n+l.length≤1000000) (hbase:base≤w.heap.size)
  (h:∀ v' w',w'.ownsRow base e 1 v' (n+l.length) (xs++l.map (Value.int .u8))→w.grownBy w' v.ownBlock→K (a.put o.dst v') w') :
  if Region.wanted o (yielded ops a.tmps)=true then Oper.wp P o a w K Q else E:=by
 have hw:Region.wanted o (yielded ops a.tmps)=true:=by simp[Region.wanted,hg]
 rw[if_pos hw];exact zcp s x t hop base e i ht hi hz hsize hby v n xs hs hown u l hx hu h63 hbase h
theorem zdp {P:Program}{ops:Array Oper}{o:Oper}{a:Act}{w:World}{K:Act→World→Prop}{Q:Exit→Act→World→Prop}{E:Prop}(hg:o.guard=none) (sl x:Operand) (t u:TypeId) (hop:o.op=Op.call { callee:=Callee.builtin Builtin.append,args:=#[sl,x],argTypes:=#[t,u] })
  (base:Nat) (e:TypeId) (i:TypeInfo) (ht:P.underlying t=some (.slice e)) (hu:P.underlying u=some .string) (hi:P.info? e=some i) (hz:i.zero=some (.int .u8 0)) (hsize:i.size=1) (hby:i.bytes=1)
  (v:Value) (n:Nat) (xs:List Value) (hs:a.eval sl=v) (hown:w.ownsRow base e 1 v n xs) (s:ByteArray) (hx:a.eval x=.string s) (h63:n+s.size≤1000000) (hbase:base≤w.heap.size)
  (h:∀ v' w',w'.ownsRow base e 1 v' (n+s.size) (xs++Go.Lib.strCells s)→w.grownBy w' v.ownBlock→K (a.put o.dst v') w') :
  if Region.wanted o (yielded ops a.tmps)=true then Oper.wp P o a w K Q else E:=by
 have hw:Region.wanted o (yielded ops a.tmps)=true:=by simp[Region.wanted,hg]
 rw[if_pos hw];obtain⟨v',w',hr,h2,h3,_⟩:=Go.Lib.run_append_own_string (P:=P) w base t u o.type e i ht hu hi hz hsize hby v n xs hown s (by unfold maxLen;omega) (by omega) hbase;unfold Oper.wp execOp;simp only[hop,resolve,invoke,builtin,Sem.run_bind,Sem.run_pure,Result.andThen_ok,List.map_toArray,List.map_cons,List.map_nil,hs,hx,hr];exact h v' w' h2 h3
theorem Tx.cut {B K:Nat}{a:Option Addr}{len cap:Nat}{w0 w:World}{base:Nat}{x:Option Addr}{c n:Nat}{l:List Int}(h:Tx B K a len cap w0 base (.slice x l.length c) l w) (hn:n≤l.length):Tx B K a len cap w0 base (.slice x n c) (l.take n) w:=by
 have r:=row_cut h.row hn;have e:(l.take n).length=n:=by rw[List.length_take];omega
 refine⟨h.cu,?_,fun j=>?_,h.kb,h.b0,h.bs⟩
 ·rw[e,List.map_take,← Nat.mul_one n];rw[Nat.mul_one]at r ⊢;exact r
 ·rcases Nat.lt_or_ge j n with q|q
  ·rw[List.getD_eq_getElem?_getD,List.getElem?_take_of_lt q,← List.getD_eq_getElem?_getD];exact h.b j
  ·rw[List.getD_eq_getElem?_getD,List.getElem?_eq_none (by omega)];exact⟨by simp,by simp⟩
theorem Tx.put {B K:Nat}{a:Option Addr}{len cap:Nat}{w0 w:World}{base:Nat}{g c i:Nat}{l:List Int}{y:Int}(h:Tx B K a len cap w0 base (.slice (some ⟨g,0,none⟩) l.length c) l w) (hy:isB y):Tx B K a len cap w0 base (.slice (some ⟨g,0,none⟩) l.length c) (l.set i y) (w.setCell ⟨g,i,none⟩ (.int .u8 y)):=by
 obtain⟨o,gr⟩:=h.row.stored i (.int .u8 y);have hg:=h.row.lt g rfl;have:=h.kb;have:=h.b0;refine⟨h.cu.grown gr fun b e=>by cases e;omega,by rw[List.length_set,List.map_set];exact o,fun j=>?_,h.kb,h.b0,Nat.le_trans h.bs gr.size⟩;rw[List.getD_eq_getElem?_getD,List.getElem?_set];split
 ·split
  ·exact hy
  ·exact⟨by simp,by simp⟩
 ·rw[←List.getD_eq_getElem?_getD];exact h.b j
theorem Tx.from {B K:Nat}{a:Option Addr}{len cap:Nat}{w0 w:World}{base:Nat}{g c:Nat}{l:List Int}(h:Tx B K a len cap w0 base (.slice (some ⟨g,0,none⟩) l.length c) l w) (i c':Nat):SrcB w (.slice (some ⟨g,i,none⟩) (l.length - i) c') (l.drop i):=by
 refine .inr ⟨⟨g,i,none⟩,c',by rw[List.length_drop],fun j y hj=>?_⟩;rw[List.map_drop,List.getElem?_drop]at hj;have:=(List.getElem?_eq_some_iff.1 hj).1;rw[show (⟨g,i,none⟩:Addr).add j=⟨g,i+j,none⟩ from by simp[Addr.add],h.row.cellAt (i+j) (by rw[List.length_map]at this;omega),hj]
theorem Tx.new {B K:Nat}{a:Option Addr}{len cap:Nat}{w0 w:World}(h:At B K a len cap w0 w):Tx B K a len cap w0 w.heap.size (.slice (some ⟨w.heap.size,0,none⟩) 0 0) [] (w.alloc (.cells #[] 5)) :=
 ⟨h.later (later1 _ _),World.ownsRow_lit w #[] 0 (Nat.le_refl _) (by unfold maxLen;omega) rfl,fun j=>⟨by simp,by simp⟩,h.cur.hK,h.only.size,(later1 w _).size⟩
theorem Tx.upto {B K:Nat}{a:Option Addr}{len cap:Nat}{w0 w:World}{base:Nat}{g c:Nat}{l:List Int}(h:Tx B K a len cap w0 base (.slice (some ⟨g,0,none⟩) l.length c) l w) (i c':Nat) (hi:i≤l.length):SrcB w (.slice (some ⟨g,0,none⟩) i c') (l.take i):=by
 refine .inr ⟨⟨g,0,none⟩,c',by rw[List.length_take,Nat.min_eq_left hi],fun j y hj=>?_⟩;rw[List.map_take,List.getElem?_take]at hj;split at hj
 ·rw[show (⟨g,0,none⟩:Addr).add j=⟨g,j,none⟩ from (by simp[Addr.add];exact fun q=>q.symm),h.row.cellAt j (by omega),hj]
 ·cases hj
theorem isB_take {l:List Int}(h:∀ j,isB (l.getD j 0)) (n:Nat):∀ j,isB ((l.take n).getD j 0):=fun j=>by
 rw[List.getD_eq_getElem?_getD,List.getElem?_take];split
 ·rw[←List.getD_eq_getElem?_getD];exact h j
 ·exact⟨by simp,by simp⟩
theorem isB_drop {l:List Int}(h:∀ j,isB (l.getD j 0)) (n:Nat):∀ j,isB ((l.drop n).getD j 0):=fun j=>by
 rw[List.getD_eq_getElem?_getD,List.getElem?_drop,← List.getD_eq_getElem?_getD];exact h _
theorem isB_u8 (x:UInt8):isB (x.toNat:Int):=by
 have:=x.toNat_lt;unfold isB;omega
def SpP (B K:Nat) (a:Option Addr) (len cap:Nat) (w:World) (n:Nat) (e:Ending) (w':World):Prop:=∃ base u l,e=.returned u∧Tx B K a len cap w base u l w'∧l.length≤n+5
theorem cells5:Go.Lib.strCells ⟨#[32,45,32,53,32]⟩=([32,45,32,53,32]:List Int).map (Value.int .u8):=by rfl
theorem zdj {B K:Nat}{a:Option Addr}{len cap:Nat}{w:World}(h:Cur B K a len cap w) (n:Int) (h0:0<n) (h1:n≤2147483647):Calls Tryz.prog 39 #[.pointer (some ⟨K,0,none⟩),.int .i64 n] w fun e w'=>∃ v:Int,e=.returned (.int .i64 v)∧0≤v∧v<n∧At B K a len cap w w':=zcd (At.start h) n h0 h1
theorem spoil_more {B K:Nat}{a:Option Addr}{len cap:Nat}{w:World}(hc:Cur B K a len cap w) (v:Value) (zs:List Int) (hv:RdB w v zs) (hl:zs.length≤900000) (hp:0<zs.length):Calls Tryz.prog 24 #[.pointer (some ⟨K,0,none⟩),v] w (SpP B K a len cap w zs.length):=by
 obtain⟨i5,hi5,hz0,hz1,hz2⟩:=info_parts Tryz.info5;have hK:=hc.hK;have hp0:((zs.length:Int)==0)=false:=beq_eq_false_iff_ne.2 (by omega);have hb:=hv.isB;obtain⟨w1,hw1⟩:=hidx (w.alloc (.cells #[] 5));have l1:Later w w1:=by rw[hw1.out];exact later1 _ _
 have s1:Hid (SrcB w1 v zs):=srcB_rd (hv.later l1)
 have t1:Tx B K a len cap w w.heap.size (.slice (some ⟨w.heap.size,0,none⟩) 0 0) [] w1:=⟨(At.start hc).later l1,by rw[hw1.out];exact World.ownsRow_lit w #[] 0 (Nat.le_refl _) (by unfold maxLen;omega) rfl,fun j=>⟨by simp,by simp⟩,hK,Nat.le_refl _,l1.size⟩
 have hs1:=t1.bs;have r1:=t1.row
 have HF:Hid (∀ base u l w',Tx B K a len cap w base u l w'→l.length≤zs.length+5→(SpP B K a len cap w zs.length) (.returned u) w'):=fun base u l w' t h=>⟨base,u,l,rfl,t,h⟩
 generalize hQ:(SpP B K a len cap w zs.length)=Q at *
 clear hQ hv l1;go_enter Tryz.func24,Tryz.ntmps24;go_wp2_with (at_builtin;rw[←hw1.out];clear hw1;refine zbj rfl _ _ 22 rfl w.heap.size 5 i5 Tryz.underlying22 hi5 hz0 hz1 hz2 _ _ _ rfl r1 _ zs rfl s1.out (by simp;omega) hs1 ?_;intro v2 w2 o2 g2;have t2':=t1.app hb (by simpa using o2) g2;rw[List.nil_append]at t2';have T2:Hid (Tx B K a len cap w w.heap.size v2 zs w2):=t2';clear t2' t1 r1 s1 o2 g2 hs1;obtain⟨x2,c2,hv2,hc2,hm2⟩:=T2.out.slice;subst hv2)
 refine (zdj T2.out.cu.cur (zs.length:Int) (by omega) (by omega)).mono ?_;rintro e w3 ⟨i,rfl,i0,iN,h3⟩;obtain⟨k,rfl⟩:=Int.eq_ofNat_of_zero_le i0;have hk:k<zs.length:=by omega
 have T3:Hid (Tx B K a len cap w w.heap.size (.slice x2 zs.length c2) zs w3):=T2.out.call h3;clear T2 h3 iN;go_wp2_with fail
 refine (zdj T3.out.cu.cur 5 (by decide) (by decide)).mono ?_;rintro e w4 ⟨m,rfl,m0,m5,h4⟩;have T4:Hid (Tx B K a len cap w w.heap.size (.slice x2 zs.length c2) zs w4):=T3.out.call h4;clear T3 h4;obtain⟨g,_,hx2,hgb,hgs,_⟩:=zat T4.out.row (by omega);have hx3:x2=some ⟨g,0,none⟩:=by cases hx2;rfl
 subst hx3;clear hx2;have hK1:(k:Int)≤(zs.length:Int):=by omega
 have hK2:(k:Int)<(zs.length:Int):=by omega
 have hKc:k≤c2:=by omega
 rcases (show m=0∨m=1∨m=2∨m=3∨m=4 by omega) with rfl|rfl|rfl|rfl|rfl
 ·go_wp2_with fail
  refine HF.out _ _ _ _ (T4.out.cut (n:=k) (by omega)) ?_;rw[List.length_take];omega
 ·go_wp2_with fail
  refine (byte_at (At.start T4.out.cu.cur)).mono ?_;rintro e w5 ⟨y,rfl,y0,y1,h5⟩;have T5:Hid (Tx B K a len cap w w.heap.size (.slice (some ⟨g,0,none⟩) zs.length c2) zs w5):=T4.out.call h5;have hy:IntKind.u8.wrap y=y:=by rw[IntKind.wrap_u8];omega
  have q1:=T5.out.row.cellAt k (by omega);rw[List.getElem?_map,List.getElem?_eq_getElem hk]at q1;have q2:=T5.out.row.frozenAt k;clear T4 h5;go_wp2_with fail
  refine HF.out _ _ _ _ (T5.out.put (i:=k) ?_) ?_
  ·unfold isB;omega
  ·rw[List.length_set];omega
 ·go_wp2_with fail
  refine (zdj T4.out.cu.cur 19 (by decide) (by decide)).mono ?_;rintro e w5 ⟨j,rfl,j0,j1,h5⟩;have T5:Hid (Tx B K a len cap w w.heap.size (.slice (some ⟨g,0,none⟩) zs.length c2) zs w5):=T4.out.call h5;have q1:=T5.out.row.cellAt k (by omega);rw[List.getElem?_map,List.getElem?_eq_getElem hk]at q1;have q2:=T5.out.row.frozenAt k;clear T4 h5;rcases (show j=0∨j=1∨j=2∨j=3∨j=4∨j=5∨j=6∨j=7∨j=8∨j=9∨j=10∨j=11∨j=12∨j=13∨j=14∨j=15∨j=16∨j=17∨j=18 by omega) with rfl|rfl|rfl|rfl|rfl|rfl|rfl|rfl|rfl|rfl|rfl|rfl|rfl|rfl|rfl|rfl|rfl|rfl|rfl
  all_goals
   go_wp2_with fail
   refine HF.out _ _ _ _ (T5.out.put (i:=k) ?_) ?_
   ·exact isB_u8 _
   ·rw[List.length_set];omega
 ·have is5:∀ j,isB (([32,45,32,53,32]:List Int).getD j 0):=fun j=>by
   rcases (show j=0∨j=1∨j=2∨j=3∨j=4∨5≤j by omega) with rfl|rfl|rfl|rfl|rfl|q
   ·exact⟨by decide,by decide⟩
   ·exact⟨by decide,by decide⟩
   ·exact⟨by decide,by decide⟩
   ·exact⟨by decide,by decide⟩
   ·exact⟨by decide,by decide⟩
   ·rw[List.getD_eq_getElem?_getD,List.getElem?_eq_none (by simpa using q)];exact⟨by simp,by simp⟩
  have N5:Hid (Tx B K a len cap w w4.heap.size (.slice (some ⟨w4.heap.size,0,none⟩) 0 0) [] (w4.drew.alloc (.cells #[] 5))):=Tx.new (T4.out.later (Later.drew _)).cu;have T5:Hid (Tx B K a len cap w w.heap.size (.slice (some ⟨g,0,none⟩) zs.length c2) zs (w4.drew.alloc (.cells #[] 5))):=(T4.out.later (Later.drew _)).later (later1 _ _);have hne:¬ c2=k:=by omega
  go_upto_region 14 with fail
  go_region_law (first
   | ((fail_if_success (have _g:=N6));refine zas rfl _ _ 22 rfl w4.heap.size 5 i5 Tryz.underlying22 hi5 hz0 hz1 hz2 _ _ _ rfl N5.out.row _ (zs.take k) rfl (T5.out.upto k _ (by omega)) (by simp;omega) N5.out.bs ?_;intro v6 w6 o6 g6;have N6:Hid (Tx B K a len cap w w4.heap.size v6 ([]++zs.take k) w6):=N5.out.app (isB_take hb k) o6 g6;have T6:Hid (Tx B K a len cap w w.heap.size (.slice (some ⟨g,0,none⟩) zs.length c2) zs w6):=T5.out.beside N6.out.cu g6 (fun b e=>(N5.out.row.lt b e).1) (fun b e=>by cases e;exact hgs))
   | ((fail_if_success (have _g:=N7));have _g:=N6;refine zdp rfl _ _ 22 9 rfl w4.heap.size 5 i5 Tryz.underlying22 Tryz.underlying9 hi5 hz0 hz1 hz2 _ _ _ rfl N6.out.row _ rfl (by show _+5≤_;simp;omega) N6.out.bs ?_;intro v7 w7 o7 g7;rw[cells5]at o7;have N7:Hid (Tx B K a len cap w w4.heap.size v7 (([]++zs.take k)++[32,45,32,53,32]) w7):=N6.out.app is5 o7 g7;have T7:Hid (Tx B K a len cap w w.heap.size (.slice (some ⟨g,0,none⟩) zs.length c2) zs w7):=T6.out.beside N7.out.cu g7 (fun b e=>(N6.out.row.lt b e).1) (fun b e=>by cases e;exact hgs))
   | (have _g:=N7;refine zas rfl _ _ 22 rfl w4.heap.size 5 i5 Tryz.underlying22 hi5 hz0 hz1 hz2 _ _ _ rfl N7.out.row _ (zs.drop (k)) rfl (T7.out.from (k) _) (by simp;omega) N7.out.bs ?_;intro v8 w8 o8 g8;have N8:Hid (Tx B K a len cap w w4.heap.size v8 ((([]++zs.take k)++[32,45,32,53,32])++zs.drop (k)) w8):=N7.out.app (isB_drop hb (k)) o8 g8))
  all_goals
   go_wp2_with fail
   refine bodyPost_ret (v:=v8) (by simp[results,Tryz.results24,go_sem]) rfl (HF.out _ _ _ _ N8.out ?_);simp;omega
 ·have hk3:(k:Int)+1≤(zs.length:Int):=by omega
  have N5:Hid (Tx B K a len cap w w4.heap.size (.slice (some ⟨w4.heap.size,0,none⟩) 0 0) [] (w4.drew.alloc (.cells #[] 5))):=Tx.new (T4.out.later (Later.drew _)).cu;have T5:Hid (Tx B K a len cap w w.heap.size (.slice (some ⟨g,0,none⟩) zs.length c2) zs (w4.drew.alloc (.cells #[] 5))):=(T4.out.later (Later.drew _)).later (later1 _ _);have hwk:IntKind.i64.wrap ((k:Int)+1)=(k:Int)+1:=by rw[IntKind.wrap_i64];omega
  have htk:((k:Int)+1).toNat=k+1:=by omega
  have hk4:(0:Int)≤(k:Int)+1:=by omega
  have hk9:(k:Int)≤(k:Int)+1:=by omega
  by_cases hce:c2=k+1
  ·have hnil:∀ w' c',SrcB w' (.slice (some ⟨g,0,none⟩) (zs.length - (k+1)) c') (zs.drop (k+1)):=fun w' c'=>.inr ⟨_,c',by rw[List.length_drop],fun j y hj=>by
    rw[List.drop_eq_nil_of_le (by omega)]at hj
    cases hj⟩
   go_upto_region 6 with fail
   go_region_law (first
    | ((fail_if_success (have _g:=N6));refine zas rfl _ _ 22 rfl w4.heap.size 5 i5 Tryz.underlying22 hi5 hz0 hz1 hz2 _ _ _ rfl N5.out.row _ (zs.take k) rfl (T5.out.upto k _ (by omega)) (by simp;omega) N5.out.bs ?_;intro v6 w6 o6 g6;have N6:Hid (Tx B K a len cap w w4.heap.size v6 ([]++zs.take k) w6):=N5.out.app (isB_take hb k) o6 g6;have T6:Hid (Tx B K a len cap w w.heap.size (.slice (some ⟨g,0,none⟩) zs.length c2) zs w6):=T5.out.beside N6.out.cu g6 (fun b e=>(N5.out.row.lt b e).1) (fun b e=>by cases e;exact hgs))
    | (have _g:=N6;refine zas rfl _ _ 22 rfl w4.heap.size 5 i5 Tryz.underlying22 hi5 hz0 hz1 hz2 _ _ _ rfl N6.out.row _ (zs.drop (k+1)) rfl (hnil w6 _) (by simp;omega) N6.out.bs ?_;intro v8 w8 o8 g8;have N8:Hid (Tx B K a len cap w w4.heap.size v8 (([]++zs.take k)++zs.drop (k+1)) w8):=N6.out.app (isB_drop hb (k+1)) o8 g8))
   all_goals
    go_wp2_with fail
    refine bodyPost_ret (v:=v8) (by simp[results,Tryz.results24,go_sem]) rfl (HF.out _ _ _ _ N8.out ?_);simp;omega
  ·skip
   go_upto_region 6 with fail
   go_region_law (first
    | ((fail_if_success (have _g:=N6));refine zas rfl _ _ 22 rfl w4.heap.size 5 i5 Tryz.underlying22 hi5 hz0 hz1 hz2 _ _ _ rfl N5.out.row _ (zs.take k) rfl (T5.out.upto k _ (by omega)) (by simp;omega) N5.out.bs ?_;intro v6 w6 o6 g6;have N6:Hid (Tx B K a len cap w w4.heap.size v6 ([]++zs.take k) w6):=N5.out.app (isB_take hb k) o6 g6;have T6:Hid (Tx B K a len cap w w.heap.size (.slice (some ⟨g,0,none⟩) zs.length c2) zs w6):=T5.out.beside N6.out.cu g6 (fun b e=>(N5.out.row.lt b e).1) (fun b e=>by cases e;exact hgs))
    | (have _g:=N6;refine zas rfl _ _ 22 rfl w4.heap.size 5 i5 Tryz.underlying22 hi5 hz0 hz1 hz2 _ _ _ rfl N6.out.row _ (zs.drop (k+1)) rfl (T6.out.from (k+1) _) (by simp;omega) N6.out.bs ?_;intro v8 w8 o8 g8;have N8:Hid (Tx B K a len cap w w4.heap.size v8 (([]++zs.take k)++zs.drop (k+1)) w8):=N6.out.app (isB_drop hb (k+1)) o8 g8))
   all_goals
    go_wp2_with fail
    refine bodyPost_ret (v:=v8) (by simp[results,Tryz.results24,go_sem]) rfl (HF.out _ _ _ _ N8.out ?_);simp;omega
theorem spoil_none {B K:Nat}{a:Option Addr}{len cap:Nat}{w:World}(hc:Cur B K a len cap w) (v:Value) (hv:RdB w v []):Calls Tryz.prog 24 #[.pointer (some ⟨K,0,none⟩),v] w (SpP B K a len cap w 0):=by
 obtain⟨i5,hi5,hz0,hz1,hz2⟩:=info_parts Tryz.info5;have hb:=hv.isB;obtain⟨w1,hw1⟩:=hidx (w.alloc (.cells #[] 5));have l1:Later w w1:=by rw[hw1.out];exact later1 _ _
 have s1:Hid (SrcB w1 v []):=srcB_rd (hv.later l1);have t1:Tx B K a len cap w w.heap.size (.slice (some ⟨w.heap.size,0,none⟩) 0 0) [] w1:=by rw[hw1.out];exact Tx.new (At.start hc)
 have hs1:=t1.bs;have r1:=t1.row
 have HF:Hid (∀ base u l w',Tx B K a len cap w base u l w'→l.length≤0+5→SpP B K a len cap w 0 (.returned u) w'):=fun base u l w' t h=>⟨base,u,l,rfl,t,h⟩
 generalize hQ:SpP B K a len cap w 0=Q at *
 clear hQ hv l1;go_enter Tryz.func24,Tryz.ntmps24;go_wp2_with (at_builtin;rw[←hw1.out];clear hw1;refine zbj rfl _ _ 22 rfl w.heap.size 5 i5 Tryz.underlying22 hi5 hz0 hz1 hz2 _ _ _ rfl r1 _ [] rfl s1.out (by simp) hs1 ?_;intro v2 w2 o2 g2;have t2':=t1.app hb (by simpa using o2) g2;rw[List.nil_append]at t2';have T2:Hid (Tx B K a len cap w w.heap.size v2 [] w2):=t2';clear t2' t1 r1 s1 o2 g2 hs1;obtain⟨x2,c2,hv2,hc2,hm2⟩:=T2.out.slice;rw[List.length_nil]at hv2;subst hv2)
 refine (byte_at (At.start T2.out.cu.cur)).mono ?_;rintro e w5 ⟨y,rfl,y0,y1,h5⟩;have T5:Hid (Tx B K a len cap w w.heap.size (.slice x2 0 c2) [] w5):=T2.out.call h5;have hy:IntKind.u8.wrap y=y:=by rw[IntKind.wrap_u8];omega
 clear T2 h5;have T6:Hid (Tx B K a len cap w w.heap.size (.slice x2 0 c2) [] (w5.alloc (.cells #[.int .u8 y] 5))):=T5.out.later (later1 _ _);have hsr:Hid (SrcB (w5.alloc (.cells #[.int .u8 y] 5)) (.slice (some ⟨w5.heap.size,0,none⟩) 1 1) [y]):=.inr ⟨_,1,rfl,cell_one_new _ _ _⟩
 have hby:∀ j,isB (([y]:List Int).getD j 0):=fun j=>by
  cases j with
  | zero=>show isB y;unfold isB;omega
  | succ j=>exact⟨by simp,by simp⟩
 go_wp2_with (at_builtin;refine zbj rfl _ _ 22 rfl w.heap.size 5 i5 Tryz.underlying22 hi5 hz0 hz1 hz2 _ _ _ rfl T6.out.row _ [y] rfl hsr.out (by simp) T6.out.bs ?_;intro v7 w7 o7 g7;have T7:Hid (Tx B K a len cap w w.heap.size v7 ([]++[y]) w7):=T6.out.app hby o7 g7)
 exact HF.out _ _ _ _ T7.out (by simp)
theorem spoil_any {B K:Nat}{a:Option Addr}{len cap:Nat}{w:World}(hc:Cur B K a len cap w) (v:Value) (zs:List Int) (hv:RdB w v zs) (hl:zs.length≤900000):Calls Tryz.prog 24 #[.pointer (some ⟨K,0,none⟩),v] w (SpP B K a len cap w zs.length):=by
 cases zs with
 | nil=>exact spoil_none hc v hv
 | cons y r=>exact spoil_more hc v (y::r) hv hl (by simp)
theorem zdm (k:Nat):(Builtin.zeroCells (Value.int .u8 0).cells k).toList=List.replicate k (Value.int .u8 0):=by
 have hc:(Value.int .u8 0).cells=#[Value.int .u8 0]:=rfl;rw[List.eq_replicate_iff];refine⟨by simp[Builtin.zeroCells,hc],fun b hb=>?_⟩;simp[Builtin.zeroCells,hc,Nat.mod_one]at hb;exact hb.2.symm
theorem zci {P:Program}{w:World}(t tn ty e:TypeId) (i:TypeInfo) (kq kn:IntKind) (ht:P.underlying t=some (.slice e)) (htn:P.underlying tn=some (.int kn)) (hi:P.info? e=some i) (hz:i.zero=some (.int .u8 0)) (hs1:i.size=1) (hby:i.bytes=1)
  (g sLen sCap:Nat) (cur:Array Value) (hg:w.heap[g]?=some (.cells cur e (0,0))) (k:Nat) (h0:0<k) (hk9:k≤1000000) (hroom:sLen+k≤sCap) (hfit:sLen+k≤cur.size) :
  (Builtin.append_ #[t,tn] ty #[.slice (some ⟨g,0,none⟩) sLen sCap,.int kq k]).run P w =
   .ok (.slice (some ⟨g,0,none⟩) (sLen+k) sCap) (w.setRow g (cur.toList.take sLen++List.replicate k (Value.int .u8 0)++cur.toList.drop (sLen+k)).toArray):=by
 have hst:=run_storeCells_at P g sLen e (List.replicate k (Value.int .u8 0)) 0 cur w hg (by simpa using hfit) (fun v q=>by rw[List.eq_of_mem_replicate q];rfl);simp only[Nat.add_zero,List.length_replicate]at hst;have hk:k≠0:=by omega
 have hw:IntKind.i64.wrap (k:Int)=k:=by rw[IntKind.wrap_i64];omega
 have h48i:¬ (281474976710656<(k:Int)):=by omega
 have hneg:¬ ((k:Int)<0):=by omega
 simp[Builtin.append_,run_underlying ht,run_underlying htn,sizeOf,typeInfo,zeroValue,hi,hz,hs1,hby,asInt,asIntOf,hw,hneg,hroom,hk,h48i,Question.forced,Addr.add_lit,zdm,hst]
theorem zcn {P:Program}{w:World}(base:Nat) (t tn ty e:TypeId) (i:TypeInfo) (kq kn:IntKind) (ht:P.underlying t=some (.slice e)) (htn:P.underlying tn=some (.int kn)) (hi:P.info? e=some i) (hz:i.zero=some (.int .u8 0)) (hs1:i.size=1) (hby:i.bytes=1)
  (v:Value) (n:Nat) (l:List Value) (hown:w.ownsRow base e 1 v n l) (k:Nat) (h0:0<k) (hk9:n+k≤1000000) (hbase:base≤w.heap.size) :
  ∃ v' w',(Builtin.append_ #[t,tn] ty #[v,.int kq k]).run P w=.ok v' w'∧w'.ownsRow base e 1 v' (n+k) (l++List.replicate k (Value.int .u8 0))∧w.grownBy w' v.ownBlock:=by
 have hxl:l.length=n:=by simpa using hown.1
 have hlen:(l++List.replicate k (Value.int .u8 0)).length=(n+k)*1:=by rw[List.length_append,hxl,List.length_replicate,Nat.mul_one]
 have grow:∀ (b:Option Addr) (old:Nat),v=.slice b n old→old<n+k→(Builtin.firstCells i.size n (.slice b n old)).run P w.drew=.ok l.toArray w.drew→∃ v' w',(Builtin.append_ #[t,tn] ty #[v,.int kq k]).run P w=.ok v' w'∧w'.ownsRow base e 1 v' (n+k) (l++List.replicate k (Value.int .u8 0))∧w.grownBy w' v.ownBlock:=by
  intro b old hv ho hf;subst hv;have hr:=Go.Lib.run_append_grow_zeros (P:=P) w t tn ty e i _ kq kn ht htn hi hz b n old l hf k h0 (by omega) (by omega) (by omega) (by rw[hby];omega) (by rw[hby];exact growslice_fits (by omega) (by omega));have hge:=grownCap_ge w (n+k) old e;have hcm:grownCap w (n+k) old e≤maxLen:=grownCap_le_maxLen w (n+k) old e (by unfold maxLen;omega);refine⟨_,_,hr,⟨hlen,.inr ⟨w.heap.size,_,_,rfl,hbase,heap_alloc_new w.drew _,hge,hcm,?_,?_⟩⟩,⟨rfl,rfl,rfl,by simp,fun k hk _=>heap_alloc_old w.drew _ hk⟩⟩
  ·have hz1:(Value.int IntKind.u8 0).cells.size=1:=rfl;simp only[Array.size_append,List.size_toArray,size_zeroCells,hz1,hxl];omega
  ·simp only[Array.toList_append,List.append_assoc,zdm];rw[←List.append_assoc,← hlen];exact List.take_left
 rcases hown.2 with ⟨rfl,rfl⟩|⟨g,cap,cur,rfl,hbg,hg,hnc,hcm,hcs,htake⟩
 ·have hx:l=[]:=List.eq_nil_of_length_eq_zero hxl;subst hx;exact grow none 0 rfl (by omega) (by simp[Builtin.firstCells])
 ·by_cases hroom:n+k≤cap
  ·have hcs':cur.size=cap:=by simpa using hcs
   have hr:=zci (P:=P) (w:=w) t tn ty e i kq kn ht htn hi hz hs1 hby g n cap cur hg k h0 (by omega) hroom (by omega);refine⟨_,_,hr,⟨hlen,.inr ⟨g,cap,_,rfl,hbg,setRow_heap w g cur _ e _ hg,hroom,hcm,?_,?_⟩⟩,⟨rfl,rfl,rfl,by simp,fun k _ hk=>setRow_other w g k _ (fun e=>hk (by simp[Value.ownBlock,e]))⟩⟩
   ·simp only[List.size_toArray,List.length_append,List.length_take,List.length_drop,Array.length_toList,List.length_replicate];omega
   ·have ht':cur.toList.take n=l:=by simpa using htake
    rw[ht',← hlen];exact List.take_left
  ·exact grow (some ⟨g,0,none⟩) cap rfl (by omega) (run_firstCells_some w.drew i.size n ⟨g,0,none⟩ n cap l (by rw[hs1,hxl,Nat.mul_one]) (fun j v q=>(World.ownsRow.drew hown).cells (g:=g) rfl j v q))
theorem zbt {P:Program}{ops:Array Oper}{rest:List Oper}{o:Oper}{a:Act}{w:World}{Q:Exit→Act→World→Prop}(hg:o.guard=none) (s x:Operand) (t tn:TypeId) (hop:o.op=Op.call { callee:=Callee.builtin Builtin.append,args:=#[s,x],argTypes:=#[t,tn] })
  (base:Nat) (e:TypeId) (i:TypeInfo) (kq kn:IntKind) (ht:P.underlying t=some (.slice e)) (htn:P.underlying tn=some (.int kn)) (hi:P.info? e=some i) (hz:i.zero=some (.int .u8 0)) (hsize:i.size=1) (hby:i.bytes=1)
  (v:Value) (n:Nat) (xs:List Value) (hs:a.eval s=v) (hown:w.ownsRow base e 1 v n xs) (k:Nat) (hx:a.eval x=.int kq k) (h0:0<k) (h63:n+k≤1000000) (hbase:base≤w.heap.size)
  (h:∀ v' w',w'.ownsRow base e 1 v' (n+k) (xs++List.replicate k (Value.int .u8 0))→w.grownBy w' v.ownBlock→wpList P ops Q rest (a.put o.dst v') w'):wpList P ops Q (o::rest) a w:=by
 refine wpList_plain hg fun K hK=>?_;obtain⟨v',w',hr,h2,h3⟩:=zcn (P:=P) (w:=w) base t tn o.type e i kq kn ht htn hi hz hsize hby v n xs hown k h0 h63 hbase;unfold Oper.wp execOp;simp only[hop,resolve,invoke,builtin,Sem.run_bind,Sem.run_pure,Result.andThen_ok,List.map_toArray,List.map_cons,List.map_nil,hs,hx,hr];exact hK _ _ (h v' w' h2 h3)
end Go.Proofs.YtgholpilmdebmaaGreatDoor
