import Derived.Test.YtgholpilmdebmaaGreatDoorZ02
import Derived.Test.YtgholpilmdebmaaGreatDoorZ05
import Derived.Lib.AppendStr
import Derived.Deep.RegionLaw
import Derived.Lib.SlBytesConst
import Derived.ArgAppend
import Derived.Laws.Bits64b
set_option maxHeartbeats 100000000
set_option maxRecDepth 100000
namespace Go.Proofs.YtgholpilmdebmaaGreatDoor
open Go.RowKit
def nmAt (l:List Sc) (n:Int):List Int:=match l[n.toNat]? with|some x=>x.name|none=>[]
def sayTy (l:List Sc) (k n:Int):List Int:=if k=1 then [32,105,110,116] else if k=2 then [32,102,108,111,97,116] else if k=3 then [32,42,32]++nmAt l n else if k=4 then [32,91,32,93,32,105,110,116] else if k=5 then [32,91,32,93,32,102,108,111,97,116] else if k=6 then [32,91,32,93,32,42,32]++nmAt l n else []
def opL (n:Int):List Int:=if n=0 then [43] else if n=1 then [45] else if n=2 then [42] else if n=3 then [47] else if n=4 then [37] else if n=5 then [60] else [61,61]
def hexD (d:Nat):Int:=if d<10 then 48+(d:Int) else 87+(d:Int)
def hexF:Nat→Nat→List Int
 | 0,_=>[]
 | k+1,u=>hexF k (u / 16)++[hexD (u % 16)]
def hexL (n:Int):List Int:=[48,102]++hexF 16 (n % 18446744073709551616).toNat
def tailL:List (List Int)→List Int
 | []=>[]
 | x::r=>[32,44]++x++tailL r
def joinL:List (List Int)→List Int
 | []=>[]
 | x::r=>x++tailL r
def kidL (l:List (List Int)) (i:Nat):List Int:=l.getD i []
def headL (l:List Sc) (k tk tn:Int) (name:List Int):List Int:=if k=5 then [32,109,97,107,101]++sayTy l tk tn else if k=9 then [32,108,101,110] else if k=12 then [32,105,110,116] else if k=13 then [32,102,108,111,97,116] else 32::name
def exL (l:List Sc) (k n tk tn:Int) (name:List Int) (ts:List (List Int)):List Int :=
 if k=0 then 32::decL n else if k=1 then 32::hexL n else if k=2 then [32,110,105,108,32]++nmAt l n else if k=3 then 32::name else if k=4 then [32,110,101,119,32]++nmAt l n else if k=11 then [32,114,101,97,100]
 else if k=7 then kidL ts 0++[32,46,32]++name else if k=8 then kidL ts 0++[32,91]++kidL ts 1++[32,93] else if k=10 then [32,40]++kidL ts 0++(32::opL n)++kidL ts 1++[32,41]
 else headL l k tk tn name++[32,40]++joinL ts++[32,41]
mutual
def Ex.say (l:List Sc):Ex→List Int
 | .mk k n tk tn name kids=>exL l k n tk tn name (Ex.says l kids)
def Ex.says (l:List Sc):List Ex→List (List Int)
 | []=>[]
 | x::r=>Ex.say l x::Ex.says l r
end
theorem Ex.says_len (l:List Sc) (xs:List Ex):(Ex.says l xs).length=xs.length:=by
 induction xs with
 | nil=>rw[Ex.says];rfl
 | cons x r ih=>rw[Ex.says,List.length_cons,List.length_cons,ih]
theorem Ex.says_at (l:List Sc):∀ (xs:List Ex) (j:Nat) (h:j<xs.length),kidL (Ex.says l xs) j=Ex.say l xs[j]
 | x::r,0,_=>by rw[Ex.says];rfl
 | x::r,j+1,h=>by rw[Ex.says];exact Ex.says_at l r j (by simpa using h)
def blockL (t:List Int):List Int:=[32,123,10]++t++[125]
def stL (l:List Sc) (k tk tn:Int) (name:List Int) (ts:List (List Int)) (b e:List Int):List Int :=
 if k=0 then [118,97,114,32]++name++sayTy l tk tn++[32,59,10] else if k=1 then (kidL ts 0).drop 1++[32,61]++kidL ts 1++[32,59,10]
 else if k=2 then [105,102]++kidL ts 0++blockL b++[32,101,108,115,101]++blockL e++[10] else if k=3 then [102,111,114]++kidL ts 0++blockL b++[10]
 else if k=4 then [114,101,116,117,114,110]++kidL ts 0++[32,59,10] else if k=5 then [112,114,105,110,116]++kidL ts 0++[32,59,10] else if k=6 then [112,97,110,105,99]++kidL ts 0++[32,59,10] else [100,111]++kidL ts 0++[32,59,10]
mutual
def St.say (l:List Sc):St→List Int
 | .mk k _ tk tn name kids body els=>stL l k tk tn name (Ex.says l kids) (St.says l body) (St.says l els)
def St.says (l:List Sc):List St→List Int
 | []=>[]
 | x::r=>St.say l x++St.says l r
end
def paL (l:List Sc) (x:Pa):List Int:=x.name++sayTy l x.tk x.tn
def fieldsL (l:List Sc):List Pa→List Int
 | []=>[]
 | x::r=>paL l x++[32,59,10]++fieldsL l r
def scL (l:List Sc) (x:Sc):List Int:=[116,121,112,101,32]++x.name++[32,115,116,114,117,99,116,32,123,10]++fieldsL l x.fields++[125,10]
def scsL (l:List Sc):List Sc→List Int
 | []=>[]
 | x::r=>scL l x++scsL l r
def fuL (l:List Sc) (x:Fu):List Int:=[102,117,110,99,32]++x.name++[32,40]++joinL (x.params.map fun p=>32::paL l p)++[32,41]++sayTy l x.rk x.rn++blockL (St.says l x.body)++[10]
def fusL (l:List Sc):List Fu→List Int
 | []=>[]
 | x::r=>fuL l x++fusL l r
def So.text (x:So):List Int:=scsL x.structs x.structs++fusL x.structs x.funcs
def midB (b:List Int):Bool:=match b.getLast? with|some z=>!(z==10)|none=>false
theorem midB_nil:midB []=false:=rfl
theorem midB_line (b:List Int):midB (b++[10])=false:=by unfold midB;rw[List.getLast?_append];rfl
end Go.Proofs.YtgholpilmdebmaaGreatDoor
namespace Go.Proofs.YtgholpilmdebmaaGreatDoor
open Go.RowKit Go.Lib
def K8 (A w:World):Prop:=A.heap.size≤w.heap.size∧∀ (k:Nat) (C:Array Value) (t:TypeId) (fz:Nat × Nat),A.heap[k]?=some (.cells C t fz)→t≠5→w.heap[k]?=A.heap[k]?
theorem K8.refl (w:World):K8 w w:=⟨Nat.le_refl _,fun _ _ _ _ _ _=>rfl⟩
theorem K8.trans {a b c:World}(h:K8 a b) (g:K8 b c):K8 a c:=⟨Nat.le_trans h.1 g.1,fun k C t fz hk ht=>by
 have e:=h.2 k C t fz hk ht
 rw[g.2 k C t fz (by rw[e];exact hk) ht,e]⟩
theorem zck {w:World}{k:Nat}{o:Obj}(h:w.heap[k]?=some o):k<w.heap.size:=by
 rcases Nat.lt_or_ge k w.heap.size with h'|h'
 ·exact h'
 ·rw[Array.getElem?_eq_none h']at h;cases h
theorem Later.k8 {a b:World}(h:Later a b):K8 a b:=⟨h.size,fun k _ _ _ hk _=>h.block k (zck hk)⟩
theorem K8.grown {w w':World}{base n:Nat}{v:Value}{xs:List Value}(o:w.ownsRow base 5 1 v n xs) (g:w.grownBy w' v.ownBlock):K8 w w':=⟨g.size,fun k C t fz hk ht=>g.block k (zck hk) (fun e=>by
 rcases o.2 with ⟨rfl,_⟩|⟨b,cap,cur,rfl,_,hb,_⟩
 ·cases e
 ·cases e
  rw[hk]at hb
  cases hb
  exact ht rfl)⟩
structure Bf (A W w:World) (v:Value) (zs:List Int):Prop where
 own:w.ownsRow W.heap.size 5 1 v zs.length (zs.map (Value.int .u8))
 lat:Later W w
 k8:K8 A w
def SayP (A W:World) (zs:List Int) (e:Ending) (w':World):Prop:=∃ v,e=.returned v∧Bf A W w' v zs
theorem Bf.put {A W w w':World}{v v':Value}{zs ts:List Int}{n:Nat}{X:List Value}(h:Bf A W w v zs) (o:w'.ownsRow W.heap.size 5 1 v' (zs.length+n) (zs.map (Value.int .u8)++X)) (hn:n=ts.length) (hX:X=ts.map (Value.int .u8)) (g:w.grownBy w' v.ownBlock):Bf A W w' v' (zs++ts):=by
 subst hn hX;refine⟨by rw[List.length_append,List.map_append];exact o,h.2.trans' g (zdv h.1),h.3.trans (K8.grown h.1 g)⟩
theorem Bf.later {A W w w':World}{v:Value}{zs:List Int}(h:Bf A W w v zs) (hl:Later w w'):Bf A W w' v zs:=⟨zcl h.1 hl,h.2.trans hl,h.3.trans hl.k8⟩
theorem Bf.alloc {A W w:World}{v:Value}{zs:List Int}(h:Bf A W w v zs) (b:Obj):Bf A W (w.alloc b) v zs:=h.later (later1 _ _)
theorem Bf.from {A W w:World}{v:Value}{zs:List Int}(h:Bf A W w v zs):Bf w W w v zs:=⟨h.1,h.2,K8.refl _⟩
theorem Bf.back {A B W w:World}{v:Value}{zs:List Int}(h:Bf B W w v zs) (k:K8 A B):Bf A W w v zs:=⟨h.1,h.2,k.trans h.3⟩
theorem Bf.shape {A W w:World}{v:Value}{zs:List Int}(h:Bf A W w v zs):∃ a cap,v=.slice a zs.length cap:=by
 rcases h.1.2 with ⟨rfl,h0⟩|⟨g,cap,_,rfl,_⟩
 ·exact⟨_,_,by rw[h0]⟩
 ·exact⟨_,_,rfl⟩
theorem sayTy_1 (A W w:World) (v:Value) (zs:List Int) (l:List Sc) (n:Int) (sv:Value) (h:Bf A W w v zs) (hb:zs.length≤1000000) :
  Calls Tryz.prog 36 #[v,.agg #[.int .i64 1,.int .i64 n],sv] w (SayP A W (zs++sayTy l 1 n)):=by
 obtain⟨i0,hi,hz0,hz1,hz2⟩:=info_parts Tryz.info5;obtain⟨a,cap,rfl⟩:=h.shape;have hB:=h.alloc (.cells #[.int .i64 1,.int .i64 n] 67);have o1:=hB.1;have hs:=hB.2.size
 have HF:Hid (∀ v' w',Bf A W w' v' (zs++sayTy l 1 n)→SayP A W (zs++sayTy l 1 n) (.returned v') w'):=fun v' w' h=>⟨v',rfl,h⟩
 generalize hQ:SayP A W (zs++sayTy l 1 n)=Q
 rw[hQ]at HF;go_enter Tryz.func36,Tryz.ntmps36;go_wp2_with (at_builtin;refine Go.Lib.wpList_append_own_string _ rfl _ _ 22 9 rfl W.heap.size 5 i0 Tryz.underlying22 Tryz.underlying9 hi hz0 hz1 hz2 (.slice a zs.length cap) _ _ rfl o1 _ rfl (by show zs.length+4≤maxLen;unfold maxLen;omega) (by show zs.length+4≤_;omega) hs ?_;intro v3 w3 o3 g3 _)
 exact HF.out _ _ (hB.put o3 rfl rfl g3)
theorem sayTy_2 (A W w:World) (v:Value) (zs:List Int) (l:List Sc) (n:Int) (sv:Value) (h:Bf A W w v zs) (hb:zs.length≤1000000) :
  Calls Tryz.prog 36 #[v,.agg #[.int .i64 2,.int .i64 n],sv] w (SayP A W (zs++sayTy l 2 n)):=by
 obtain⟨i0,hi,hz0,hz1,hz2⟩:=info_parts Tryz.info5;obtain⟨a,cap,rfl⟩:=h.shape;have hB:=h.alloc (.cells #[.int .i64 2,.int .i64 n] 67);have o1:=hB.1;have hs:=hB.2.size
 have HF:Hid (∀ v' w',Bf A W w' v' (zs++sayTy l 2 n)→SayP A W (zs++sayTy l 2 n) (.returned v') w'):=fun v' w' h=>⟨v',rfl,h⟩
 generalize hQ:SayP A W (zs++sayTy l 2 n)=Q
 rw[hQ]at HF;go_enter Tryz.func36,Tryz.ntmps36;go_wp2_with (at_builtin;refine Go.Lib.wpList_append_own_string _ rfl _ _ 22 9 rfl W.heap.size 5 i0 Tryz.underlying22 Tryz.underlying9 hi hz0 hz1 hz2 (.slice a zs.length cap) _ _ rfl o1 _ rfl (by show zs.length+6≤maxLen;unfold maxLen;omega) (by show zs.length+6≤_;omega) hs ?_;intro v3 w3 o3 g3 _)
 exact HF.out _ _ (hB.put o3 rfl rfl g3)
theorem sayTy_4 (A W w:World) (v:Value) (zs:List Int) (l:List Sc) (n:Int) (sv:Value) (h:Bf A W w v zs) (hb:zs.length≤1000000) :
  Calls Tryz.prog 36 #[v,.agg #[.int .i64 4,.int .i64 n],sv] w (SayP A W (zs++sayTy l 4 n)):=by
 obtain⟨i0,hi,hz0,hz1,hz2⟩:=info_parts Tryz.info5;obtain⟨a,cap,rfl⟩:=h.shape;have hB:=h.alloc (.cells #[.int .i64 4,.int .i64 n] 67);have o1:=hB.1;have hs:=hB.2.size
 have HF:Hid (∀ v' w',Bf A W w' v' (zs++sayTy l 4 n)→SayP A W (zs++sayTy l 4 n) (.returned v') w'):=fun v' w' h=>⟨v',rfl,h⟩
 generalize hQ:SayP A W (zs++sayTy l 4 n)=Q
 rw[hQ]at HF;go_enter Tryz.func36,Tryz.ntmps36;go_wp2_with (at_builtin;refine Go.Lib.wpList_append_own_string _ rfl _ _ 22 9 rfl W.heap.size 5 i0 Tryz.underlying22 Tryz.underlying9 hi hz0 hz1 hz2 (.slice a zs.length cap) _ _ rfl o1 _ rfl (by show zs.length+8≤maxLen;unfold maxLen;omega) (by show zs.length+8≤_;omega) hs ?_;intro v3 w3 o3 g3 _)
 exact HF.out _ _ (hB.put o3 rfl rfl g3)
theorem sayTy_5 (A W w:World) (v:Value) (zs:List Int) (l:List Sc) (n:Int) (sv:Value) (h:Bf A W w v zs) (hb:zs.length≤1000000) :
  Calls Tryz.prog 36 #[v,.agg #[.int .i64 5,.int .i64 n],sv] w (SayP A W (zs++sayTy l 5 n)):=by
 obtain⟨i0,hi,hz0,hz1,hz2⟩:=info_parts Tryz.info5;obtain⟨a,cap,rfl⟩:=h.shape;have hB:=h.alloc (.cells #[.int .i64 5,.int .i64 n] 67);have o1:=hB.1;have hs:=hB.2.size
 have HF:Hid (∀ v' w',Bf A W w' v' (zs++sayTy l 5 n)→SayP A W (zs++sayTy l 5 n) (.returned v') w'):=fun v' w' h=>⟨v',rfl,h⟩
 generalize hQ:SayP A W (zs++sayTy l 5 n)=Q
 rw[hQ]at HF;go_enter Tryz.func36,Tryz.ntmps36;go_wp2_with (at_builtin;refine Go.Lib.wpList_append_own_string _ rfl _ _ 22 9 rfl W.heap.size 5 i0 Tryz.underlying22 Tryz.underlying9 hi hz0 hz1 hz2 (.slice a zs.length cap) _ _ rfl o1 _ rfl (by show zs.length+10≤maxLen;unfold maxLen;omega) (by show zs.length+10≤_;omega) hs ?_;intro v3 w3 o3 g3 _)
 exact HF.out _ _ (hB.put o3 rfl rfl g3)
theorem sayTy_no (A W w:World) (v:Value) (zs:List Int) (l:List Sc) (k n:Int) (sv:Value) (h:Bf A W w v zs) (hk:k≠1∧k≠2∧k≠3∧k≠4∧k≠5∧k≠6) :
  Calls Tryz.prog 36 #[v,.agg #[.int .i64 k,.int .i64 n],sv] w (SayP A W (zs++sayTy l k n)):=by
 obtain⟨n1,n2,n3,n4,n5,n6⟩:=hk;obtain⟨a,cap,rfl⟩:=h.shape;have e:sayTy l k n=[]:=by unfold sayTy;rw[if_neg n1,if_neg n2,if_neg n3,if_neg n4,if_neg n5,if_neg n6]
 have hB:=h.alloc (.cells #[.int .i64 k,.int .i64 n] 67);have m1:(k==1)=false:=beq_eq_false_iff_ne.2 n1;have m2:(k==2)=false:=beq_eq_false_iff_ne.2 n2;have m3:(k==3)=false:=beq_eq_false_iff_ne.2 n3;have m4:(k==4)=false:=beq_eq_false_iff_ne.2 n4;have m5:(k==5)=false:=beq_eq_false_iff_ne.2 n5;have m6:(k==6)=false:=beq_eq_false_iff_ne.2 n6;rw[e,List.append_nil]
 have HF:Hid (∀ v' w',Bf A W w' v' zs→SayP A W zs (.returned v') w'):=fun v' w' h=>⟨v',rfl,h⟩
 generalize hQ:SayP A W zs=Q
 rw[hQ]at HF;clear n1 n2 n3 n4 n5 n6;go_enter Tryz.func36,Tryz.ntmps36;go_wp2_with fail
 exact HF.out _ _ hB
theorem Bf.shape2 {A W w:World}{v:Value}{zs:List Int}(h:Bf A W w v zs):∃ a M cap,v=.slice a M cap∧Hid (M=zs.length):=by
 obtain⟨a,cap,rfl⟩:=h.shape;exact⟨a,_,cap,rfl,rfl⟩
theorem zab {P:Program}{ops:Array Oper}{o:Oper}{a:Act}{w:World}{K:Act→World→Prop}{Q:Exit→Act→World→Prop}{E:Prop}
  (hg:o.guard=none) (s x:Operand) (t:TypeId) (hop:o.op=Op.call { callee:=Callee.builtin Builtin.append,args:=#[s,x],argTypes:=#[t,t] })
  (base:Nat) (e:TypeId) (i:TypeInfo) (z:Value) (size bytes:Nat) (ht:P.underlying t=some (.slice e)) (hi:P.info? e=some i) (hz:i.zero=some z)
  (hsize:i.size=size) (hby:i.bytes=bytes) (hzs:z.cells.size=size) (hsz:0<size)
  (v:Value) (n:Nat) (xs:List Value) (hs:a.eval s=v) (hown:w.ownsRow base e size v n xs)
  (ad:Addr) (m c:Nat) (news:List Value) (hx:a.eval x=.slice (some ad) m c) (hl:news.length=m*size) (hnews:∀ j u,news[j]?=some u→w.cell? (ad.add j)=some u) (h1:∀ u∈news,u.oneCell'=true)
  (h63:n+m≤maxLen) (hbytes:(n+m)*bytes≤140737488355328) (hbase:base≤w.heap.size)
  (h:∀ v' w',w'.ownsRow base e size v' (n+m) (xs++news)→w.grownBy w' v.ownBlock→K (a.put o.dst v') w') :
  if Region.wanted o (yielded ops a.tmps)=true then Oper.wp P o a w K Q else E:=by
 have hw:Region.wanted o (yielded ops a.tmps)=true:=by simp[Region.wanted,hg]
 rw[if_pos hw];exact wp_append_own w s x t hop base e i z size bytes ht hi hz hsize hby hzs hsz v n xs hs hown ad m c news hx hl hnews h1 h63 hbytes hbase (fun v' w' h2 h3 _=>h v' w' h2 h3)
theorem zad {P:Program}{ops:Array Oper}{o:Oper}{a:Act}{w:World}{K:Act→World→Prop}{Q:Exit→Act→World→Prop}{E:Prop}
  (hg:o.guard=none) (sl x:Operand) (t u:TypeId) (hop:o.op=Op.call { callee:=Callee.builtin Builtin.append,args:=#[sl,x],argTypes:=#[t,u] })
  (base:Nat) (e:TypeId) (i:TypeInfo) (ht:P.underlying t=some (.slice e)) (hu:P.underlying u=some .string) (hi:P.info? e=some i) (hz:i.zero=some (.int .u8 0))
  (hsize:i.size=1) (hby:i.bytes=1)
  (v:Value) (n:Nat) (xs:List Value) (hs:a.eval sl=v) (hown:w.ownsRow base e 1 v n xs) (s:ByteArray) (hx:a.eval x=.string s)
  (h63:n+s.size≤maxLen) (hbytes:n+s.size≤140737488355328) (hbase:base≤w.heap.size)
  (h:∀ v' w',w'.ownsRow base e 1 v' (n+s.size) (xs++strCells s)→w.grownBy w' v.ownBlock→K (a.put o.dst v') w') :
  if Region.wanted o (yielded ops a.tmps)=true then Oper.wp P o a w K Q else E:=by
 have hw:Region.wanted o (yielded ops a.tmps)=true:=by simp[Region.wanted,hg]
 rw[if_pos hw];obtain⟨v',w',hr,h2,h3,h4⟩:=run_append_own_string (P:=P) w base t u o.type e i ht hu hi hz hsize hby v n xs hown s h63 hbytes hbase;unfold Oper.wp execOp;simp only[hop,resolve,invoke,builtin,Sem.run_bind,Sem.run_pure,Result.andThen_ok,List.map_toArray,List.map_cons,List.map_nil,hs,hx,hr];exact h v' w' h2 h3
theorem sayTy_3 (A W w:World) (v:Value) (zs:List Int) (l:List Sc) (n:Int) (sv:Value) (h:Bf A W w v zs) (hb:zs.length≤1000000) (hl:RdL W 2 sv (Sc.dats l)) (h0:0≤n) (h1:n<l.length) (hnm:∀ x∈l,1≤x.name.length∧x.name.length≤1000) :
  Calls Tryz.prog 36 #[v,.agg #[.int .i64 3,.int .i64 n],sv] w (SayP A W (zs++sayTy l 3 n)):=by
 obtain⟨i0,hi,hz0,hz1,hz2⟩:=info_parts Tryz.info5;obtain⟨a,cap,rfl⟩:=h.shape
 obtain⟨N,rfl⟩:∃ N:Nat,n=N:=⟨n.toNat,by omega⟩
 have hN:N<l.length:=by omega
 obtain⟨sa,scap,rfl,hsl⟩:=Sc.slice hl;obtain⟨g,off,v0,v1,rfl,hg,hc0,hc1,hr0,hr1⟩:=Sc.elem hl N hN;obtain⟨hn1,hn2⟩:=hnm l[N] (List.getElem_mem hN);have he:nmAt l (N:Int)=l[N].name:=by unfold nmAt;rw[Int.toNat_natCast,List.getElem?_eq_getElem hN]
 have he2:sayTy l 3 (N:Int)=[32,42,32]++l[N].name:=by rw[←he];rfl
 generalize l[N].name=nm at *
 obtain⟨y,q,rfl,hyl,hyb,hyc⟩:=hr0.rd;obtain⟨g0,off0,rfl,hg0,_⟩:=hyc 0 (by omega)
 have hcells:∀ w',Later W w'→∀ j u,(nm.map (Value.int .u8))[j]?=some u→w'.cell? ((⟨g0,off0,none⟩:Addr).add j)=some u:=fun w' hw j u hj=>by
  have hj':j<nm.length:=by
   rcases Nat.lt_or_ge j nm.length with h|h
   ·exact h
   ·rw[List.getElem?_eq_none (by simpa using h)]at hj;cases hj
  obtain⟨g',off',e,_,hv⟩:=hyc j hj'
  cases e
  rw[Addr.add_lit,hw.cell (p:=⟨g0,off0+j,none⟩) hg0,hv];rw[List.getElem?_map,List.getElem?_eq_getElem hj']at hj;rw[←hj,List.getD_eq_getElem?_getD,List.getElem?_eq_getElem hj'];rfl
 have hB:=h.alloc (.cells #[.int .i64 3,.int .i64 (N:Int)] 67);have hs0:=h.2.size;have o1:=zcl hB.1 (Later.drew _);have hs:=hB.2.size;have hBD:Bf A W (w.alloc (.cells #[.int .i64 3,.int .i64 (N:Int)] 67)).drew (.slice a zs.length cap) zs:=hB.later (Later.drew _);have q1:(w.alloc (.cells #[.int .i64 3,.int .i64 (N:Int)] 67)).drew.cell? ⟨w.heap.size,1,none⟩=some (.int .i64 (N:Int)):=by simp
 have q2:(w.alloc (.cells #[.int .i64 3,.int .i64 (N:Int)] 67)).drew.cell? ⟨g,off+N*2,none⟩=some (.slice (some ⟨g0,off0,none⟩) nm.length q):=by rw[hBD.2.cell (p:=⟨g,off+N*2,none⟩) hg];exact hc0
 have hcD:=hcells;have hne:∀ b,Value.ownBlock (.slice a zs.length cap)=some b→b≠w.heap.size:=fun b hb=>by have:=(h.1.lt b hb).2;omega
 have HC:Hid (∀ w',Later W w'→w'.cell? ⟨g,off+N*2,none⟩=some (.slice (some ⟨g0,off0,none⟩) nm.length q)):=fun w' hw=>by rw[hw.cell (p:=⟨g,off+N*2,none⟩) hg];exact hc0
 have HCC:Hid _:=hcells
 have HF:Hid (∀ v' w',Bf A W w' v' (zs++sayTy l 3 (N:Int))→SayP A W (zs++sayTy l 3 (N:Int)) (.returned v') w'):=fun v' w' h=>⟨v',rfl,h⟩
 rw[he2]at HF ⊢
 generalize hQ:SayP A W (zs++([32,42,32]++nm))=Q
 rw[hQ]at HF;clear hcells hcD hyc hyb hnm hr1 hc1 he he2 hc0
 obtain⟨X,hX⟩:∃ X,Hid (X=nm.map (Value.int .u8)):=⟨_,rfl⟩
 have hXl:X.length=nm.length:=by rw[hX.out];simp
 have hX1:∀ u∈X,u.oneCell'=true:=fun u hu=>by
  rw[hX.out]at hu;obtain⟨z,_,rfl⟩:=List.mem_map.1 hu;rfl
 rw[←hX.out]at HCC;go_enter Tryz.func36,Tryz.ntmps36;go_wp2_with fail
 go_region_law (first|(have _g:=hbf3;(refine zab rfl _ _ 22 rfl W.heap.size 5 i0 (.int .u8 0) 1 1 Tryz.underlying22 hi hz0 hz1 hz2 rfl (by decide) (.slice a3 M3 p3) _ _ rfl hbf3.1 ⟨g0,off0,none⟩ nm.length q X rfl (by rw[hXl,Nat.mul_one]) (HCC.out _ hbf3.2) hX1 (by rw[hl3];unfold maxLen;omega) (by rw[hl3];omega) hs3 ?_;intro v5 w5 o5 g5;have hbf5:=hbf3.put o5 rfl hX.out g5))|(refine zad rfl _ _ 22 9 rfl W.heap.size 5 i0 Tryz.underlying22 Tryz.underlying9 hi hz0 hz1 hz2 (.slice a zs.length cap) _ _ rfl o1 _ rfl (by show zs.length+3≤maxLen;unfold maxLen;omega) (by show zs.length+3≤_;omega) (by exact hs) ?_;intro v3 w3 o3 g3;have hbf3:Bf A W w3 v3 (zs++[32,42,32]):=hBD.put o3 rfl rfl g3;have hl3:(zs++[32,42,32]).length=zs.length+3:=(by simp);have hs3:=hbf3.2.size;have q3:=g3.cell q1 (fun e=>hne _ e.symm rfl);have q4:=HC.out _ hbf3.2;obtain⟨a3,M3,p3,rfl,hM3⟩:=hbf3.shape2))
 all_goals
  rw[List.append_assoc]at hbf5;go_wp2_with fail
  go_simp;go_ret;exact HF.out _ _ hbf5
theorem sayTy_6 (A W w:World) (v:Value) (zs:List Int) (l:List Sc) (n:Int) (sv:Value) (h:Bf A W w v zs) (hb:zs.length≤1000000) (hl:RdL W 2 sv (Sc.dats l)) (h0:0≤n) (h1:n<l.length) (hnm:∀ x∈l,1≤x.name.length∧x.name.length≤1000) :
  Calls Tryz.prog 36 #[v,.agg #[.int .i64 6,.int .i64 n],sv] w (SayP A W (zs++sayTy l 6 n)):=by
 obtain⟨i0,hi,hz0,hz1,hz2⟩:=info_parts Tryz.info5;obtain⟨a,cap,rfl⟩:=h.shape
 obtain⟨N,rfl⟩:∃ N:Nat,n=N:=⟨n.toNat,by omega⟩
 have hN:N<l.length:=by omega
 obtain⟨sa,scap,rfl,hsl⟩:=Sc.slice hl;obtain⟨g,off,v0,v1,rfl,hg,hc0,hc1,hr0,hr1⟩:=Sc.elem hl N hN;obtain⟨hn1,hn2⟩:=hnm l[N] (List.getElem_mem hN);have he:nmAt l (N:Int)=l[N].name:=by unfold nmAt;rw[Int.toNat_natCast,List.getElem?_eq_getElem hN]
 have he2:sayTy l 6 (N:Int)=[32,91,32,93,32,42,32]++l[N].name:=by rw[←he];rfl
 generalize l[N].name=nm at *
 obtain⟨y,q,rfl,hyl,hyb,hyc⟩:=hr0.rd;obtain⟨g0,off0,rfl,hg0,_⟩:=hyc 0 (by omega)
 have hcells:∀ w',Later W w'→∀ j u,(nm.map (Value.int .u8))[j]?=some u→w'.cell? ((⟨g0,off0,none⟩:Addr).add j)=some u:=fun w' hw j u hj=>by
  have hj':j<nm.length:=by
   rcases Nat.lt_or_ge j nm.length with h|h
   ·exact h
   ·rw[List.getElem?_eq_none (by simpa using h)]at hj;cases hj
  obtain⟨g',off',e,_,hv⟩:=hyc j hj'
  cases e
  rw[Addr.add_lit,hw.cell (p:=⟨g0,off0+j,none⟩) hg0,hv];rw[List.getElem?_map,List.getElem?_eq_getElem hj']at hj;rw[←hj,List.getD_eq_getElem?_getD,List.getElem?_eq_getElem hj'];rfl
 have hB:=h.alloc (.cells #[.int .i64 6,.int .i64 (N:Int)] 67);have hs0:=h.2.size;have o1:=zcl hB.1 (Later.drew _);have hs:=hB.2.size;have hBD:Bf A W (w.alloc (.cells #[.int .i64 6,.int .i64 (N:Int)] 67)).drew (.slice a zs.length cap) zs:=hB.later (Later.drew _);have q1:(w.alloc (.cells #[.int .i64 6,.int .i64 (N:Int)] 67)).drew.cell? ⟨w.heap.size,1,none⟩=some (.int .i64 (N:Int)):=by simp
 have q2:(w.alloc (.cells #[.int .i64 6,.int .i64 (N:Int)] 67)).drew.cell? ⟨g,off+N*2,none⟩=some (.slice (some ⟨g0,off0,none⟩) nm.length q):=by rw[hBD.2.cell (p:=⟨g,off+N*2,none⟩) hg];exact hc0
 have hcD:=hcells;have hne:∀ b,Value.ownBlock (.slice a zs.length cap)=some b→b≠w.heap.size:=fun b hb=>by have:=(h.1.lt b hb).2;omega
 have HC:Hid (∀ w',Later W w'→w'.cell? ⟨g,off+N*2,none⟩=some (.slice (some ⟨g0,off0,none⟩) nm.length q)):=fun w' hw=>by rw[hw.cell (p:=⟨g,off+N*2,none⟩) hg];exact hc0
 have HCC:Hid _:=hcells
 have HF:Hid (∀ v' w',Bf A W w' v' (zs++sayTy l 6 (N:Int))→SayP A W (zs++sayTy l 6 (N:Int)) (.returned v') w'):=fun v' w' h=>⟨v',rfl,h⟩
 rw[he2]at HF ⊢
 generalize hQ:SayP A W (zs++([32,91,32,93,32,42,32]++nm))=Q
 rw[hQ]at HF;clear hcells hcD hyc hyb hnm hr1 hc1 he he2 hc0
 obtain⟨X,hX⟩:∃ X,Hid (X=nm.map (Value.int .u8)):=⟨_,rfl⟩
 have hXl:X.length=nm.length:=by rw[hX.out];simp
 have hX1:∀ u∈X,u.oneCell'=true:=fun u hu=>by
  rw[hX.out]at hu;obtain⟨z,_,rfl⟩:=List.mem_map.1 hu;rfl
 rw[←hX.out]at HCC;go_enter Tryz.func36,Tryz.ntmps36;go_wp2_with fail
 go_region_law (first|(have _g:=hbf3;(refine zab rfl _ _ 22 rfl W.heap.size 5 i0 (.int .u8 0) 1 1 Tryz.underlying22 hi hz0 hz1 hz2 rfl (by decide) (.slice a3 M3 p3) _ _ rfl hbf3.1 ⟨g0,off0,none⟩ nm.length q X rfl (by rw[hXl,Nat.mul_one]) (HCC.out _ hbf3.2) hX1 (by rw[hl3];unfold maxLen;omega) (by rw[hl3];omega) hs3 ?_;intro v5 w5 o5 g5;have hbf5:=hbf3.put o5 rfl hX.out g5))|(refine zad rfl _ _ 22 9 rfl W.heap.size 5 i0 Tryz.underlying22 Tryz.underlying9 hi hz0 hz1 hz2 (.slice a zs.length cap) _ _ rfl o1 _ rfl (by show zs.length+7≤maxLen;unfold maxLen;omega) (by show zs.length+7≤_;omega) (by exact hs) ?_;intro v3 w3 o3 g3;have hbf3:Bf A W w3 v3 (zs++[32,91,32,93,32,42,32]):=hBD.put o3 rfl rfl g3;have hl3:(zs++[32,91,32,93,32,42,32]).length=zs.length+7:=(by simp);have hs3:=hbf3.2.size;have q3:=g3.cell q1 (fun e=>hne _ e.symm rfl);have q4:=HC.out _ hbf3.2;obtain⟨a3,M3,p3,rfl,hM3⟩:=hbf3.shape2))
 all_goals
  rw[List.append_assoc]at hbf5;go_wp2_with fail
  go_simp;go_ret;exact HF.out _ _ hbf5
theorem sayTy_any (A W w:World) (v:Value) (zs:List Int) (l:List Sc) (k n:Int) (sv:Value) (h:Bf A W w v zs) (hb:zs.length≤1000000) (hl:RdL W 2 sv (Sc.dats l)) (hk:k=3∨k=6→0≤n∧n<l.length) (hnm:∀ x∈l,1≤x.name.length∧x.name.length≤1000) :
  Calls Tryz.prog 36 #[v,.agg #[.int .i64 k,.int .i64 n],sv] w (SayP A W (zs++sayTy l k n)):=by
 by_cases k1:k=1
 ·subst k1;exact sayTy_1 A W w v zs l n sv h hb
 by_cases k2:k=2
 ·subst k2;exact sayTy_2 A W w v zs l n sv h hb
 by_cases k3:k=3
 ·subst k3;exact sayTy_3 A W w v zs l n sv h hb hl (hk (.inl rfl)).1 (hk (.inl rfl)).2 hnm
 by_cases k4:k=4
 ·subst k4;exact sayTy_4 A W w v zs l n sv h hb
 by_cases k5:k=5
 ·subst k5;exact sayTy_5 A W w v zs l n sv h hb
 by_cases k6:k=6
 ·subst k6;exact sayTy_6 A W w v zs l n sv h hb hl (hk (.inr rfl)).1 (hk (.inr rfl)).2 hnm
 exact sayTy_no A W w v zs l k n sv h ⟨k1,k2,k3,k4,k5,k6⟩
def opS (n:Int):ByteArray:=if n=0 then ⟨#[43]⟩ else if n=1 then ⟨#[45]⟩ else if n=2 then ⟨#[42]⟩ else if n=3 then ⟨#[47]⟩ else if n=4 then ⟨#[37]⟩ else if n=5 then ⟨#[60]⟩ else ⟨#[61,61]⟩
theorem seven {n:Int}(h0:0≤n) (h1:n<7):n=0∨n=1∨n=2∨n=3∨n=4∨n=5∨n=6:=by omega
theorem opS_cells {n:Int}(h0:0≤n) (h1:n<7):strCells (opS n)=(opL n).map (Value.int .u8)∧(opS n).size=(opL n).length∧(opL n).length≤2:=by
 rcases seven h0 h1 with rfl|rfl|rfl|rfl|rfl|rfl|rfl
 all_goals exact⟨rfl,rfl,by decide⟩
theorem op_any (n:Int) (w:World) (h0:0≤n) (h1:n<7):Calls Tryz.prog 88 #[.int .i64 n] w fun e w'=>e=.returned (.string (opS n))∧Later w w':=by
 rcases seven h0 h1 with rfl|rfl|rfl|rfl|rfl|rfl|rfl
 all_goals
  go_enter Tryz.func88,Tryz.ntmps88;go_wp2_with fail
  go_ret;exact⟨rfl,later1 _ _⟩
theorem hexF_step (k u j:Nat):hexF (k+1) (u / 16 ^ j)=hexF k (u / 16 ^ (j+1))++[hexD (u / 16 ^ j % 16)]:=by
 rw[hexF,Nat.div_div_eq_div_mul,← Nat.pow_succ]
theorem zbd (k u:Nat):(hexF k u).length=k:=by
 induction k generalizing u with
 | zero=>rfl
 | succ k ih=>rw[hexF,List.length_append,ih];rfl
theorem zdx (n:Int):(hexL n).length=18:=by unfold hexL;rw[List.length_append,zbd];rfl
theorem and15 (u k:Nat) (hu:u<18446744073709551616):bits .and .u64 ((u:Int) / 2 ^ (4*k)) 15=((u / 16 ^ k % 16:Nat):Int):=by
 have e:((u:Int) / 2 ^ (4*k))=((u / 16 ^ k:Nat):Int):=by rw[Int.natCast_ediv,Int.natCast_pow];rw[Int.pow_mul];rfl
 have h:u / 16 ^ k<18446744073709551616:=Nat.lt_of_le_of_lt (Nat.div_le_self _ _) hu;rw[e];have h2:=bits_and_u64_nat (u / 16 ^ k) 15 h (by decide);rw[show ((15:Nat):Int)=15 from rfl]at h2;rw[h2,show (15:Nat)=2 ^ 4 - 1 from rfl,Nat.and_two_pow_sub_one_eq_mod]
theorem hex_lit:∀ (D:Nat) (h:D<16),((((⟨#[48,49,50,51,52,53,54,55,56,57,97,98,99,100,101,102]⟩:ByteArray)[D]'h).toNat:Nat):Int)=hexD D:=by
 intro D h;obtain rfl|rfl|rfl|rfl|rfl|rfl|rfl|rfl|rfl|rfl|rfl|rfl|rfl|rfl|rfl|rfl:D=0∨D=1∨D=2∨D=3∨D=4∨D=5∨D=6∨D=7∨D=8∨D=9∨D=10∨D=11∨D=12∨D=13∨D=14∨D=15:=by omega
 all_goals rfl
theorem two_cells {wr:World}{g:Nat}(hc0:wr.cell? ⟨g,0,none⟩=some (.int .u8 48)) (hc1:wr.cell? ⟨g,1,none⟩=some (.int .u8 102)) (o:Obj):∀ b,some (⟨g,0,none⟩:Addr)=some b→∀ j u,[Value.int .u8 48,Value.int .u8 102][j]?=some u→(wr.alloc o).cell? (b.add j)=some u:=by
 intro b hb j u hj
 cases hb
 match j with
 | 0 =>
  have e:Value.int .u8 48=u:=by simpa using hj
  rw[Addr.add_lit,← e];exact cell?_alloc_marked o hc0
 | 1 =>
  have e:Value.int .u8 102=u:=by simpa using hj
  rw[Addr.add_lit,← e];exact cell?_alloc_marked o hc1
 | j+2=>simp at hj
theorem cell_new (w:World) (C:Array Value) (e:TypeId) (f:Nat × Nat) (j:Nat) (v:Value) (h:C[j]?=some v):(w.alloc (.cells C e f)).cell? ⟨w.heap.size,j,none⟩=some v:=by
 have:(w.alloc (.cells C e f)).heap[w.heap.size]?=some (.cells C e f):=by
  show (w.heap.push _)[w.heap.size]?=_;simp
 unfold World.cell?;show (match (w.alloc (.cells C e f)).heap[w.heap.size]? with|some (.cells c _ _)=>c[j]?|_=>none)=some v;rw[this];exact h
def HxR (W w:World) (v:Value) (zs:List Int):Prop:=Bf W W w v zs∨(zs=[48,102]∧Later W w∧v=.slice (some ⟨W.heap.size,0,none⟩) 2 2∧w.cell? ⟨W.heap.size,0,none⟩=some (.int .u8 48)∧w.cell? ⟨W.heap.size,1,none⟩=some (.int .u8 102))
theorem hex_any (n:Int) (w:World):Calls Tryz.prog 87 #[.int .i64 n] w (SayP w w (hexL n)):=by
 obtain⟨i0,hi,hz0,hz1,hz2⟩:=info_parts Tryz.info5;have kc:=fun (w:World) (C:Array Value) (n c:Nat)=>Lib.run_convert_bytes_const (P:=Tryz.prog) w 22 5 C n c Tryz.underlying22 Tryz.underlying5
 have HF:Hid (∀ v' w',Bf w w w' v' (hexL n)→SayP w w (hexL n) (.returned v') w'):=fun v' w' h=>⟨v',rfl,h⟩
 obtain⟨u,hu⟩:∃ u:Nat,(n % 18446744073709551616).toNat=u:=⟨_,rfl⟩
 have e1:IntKind.u64.wrap n=(u:Int):=by rw[IntKind.wrap_u64];omega
 have hu64:u<18446744073709551616:=by omega
 have eL:hexL n=[48,102]++hexF 16 u:=by unfold hexL;rw[hu]
 generalize hexL n=L at *
 generalize hQ:SayP w w L=Q
 rw[hQ]at HF;clear hu;go_enter Tryz.func87,Tryz.ntmps87;go_wp2_with fail
 go_loopw [3,4] (fun o i wr=>∃ j:Nat,i=.int .i64 ((j:Int) - 1)∧j≤16∧HxR w wr o ([48,102]++hexF (16 - j) (u / 16 ^ j))) (fun _ i _=>(intOf i+1).toNat)
 case atStart =>
  exact⟨16,rfl,Nat.le_refl _,.inr ⟨rfl,later1 _ _,rfl,cell_new _ _ _ _ _ _ rfl,cell_new _ _ _ _ _ _ rfl⟩⟩
 case round =>
  obtain⟨j,rfl,hj,hR⟩:=hrel
  cases j with
  | zero =>
   have hR':Bf w w wr u3 L:=by
    rcases hR with h|⟨h,_⟩
    ·rw[eL];simpa using h
    ·exfalso
     have h1:=congrArg List.length h;rw[List.length_append,zbd]at h1;simp at h1
   have hm:((0:Nat):Int) - 1=-1:=rfl;rw[hm];go_wp2_with fail
   exact HF.out _ _ hR'
  | succ k =>
   have hk:((k+1:Nat):Int) - 1=(k:Int):=by omega
   rw[hk]
   obtain⟨D,hD,hD16,hDe⟩:∃ D:Nat,bits .and .u64 ((u:Int) / 2 ^ (4*k)) 15=(D:Int)∧D<16∧Hid (D=u / 16 ^ k % 16):=⟨_,and15 u k hu64,Nat.mod_lt _ (by decide),rfl⟩
   have hst:[48,102]++hexF (16 - k) (u / 16 ^ k)=([48,102]++hexF (16 - (k+1)) (u / 16 ^ (k+1)))++[hexD D]:=by
    have:16 - k=(16 - (k+1))+1:=by omega
    rw[this,hexF_step,hDe.out,List.append_assoc]
   have hln:([48,102]++hexF (16 - (k+1)) (u / 16 ^ (k+1))).length≤18:=by rw[List.length_append,zbd];simp;omega
   have hst':Hid (∀ v' w',Bf w w w' v' (([48,102]++hexF (16 - (k+1)) (u / 16 ^ (k+1)))++[hexD D])→HxR w w' v' ([48,102]++hexF (16 - k) (u / 16 ^ k))):=fun v' w' h=>.inl (by rw[hst];exact h);have hlit:=hex_lit D hD16;clear hst
   generalize [48,102]++hexF (16 - (k+1)) (u / 16 ^ (k+1))=zs at *
   rcases hR with h|⟨h,hla,rfl,hc0,hc1⟩
   ·obtain⟨a,M,cap,rfl,hM⟩:=h.shape2;have hs:=h.2.size;go_wp2_with (at_builtin;refine wpList_append_own _ rfl _ _ 22 rfl w.heap.size 5 i0 (.int .u8 0) 1 1 Tryz.underlying22 hi hz0 hz1 hz2 rfl (by decide) _ _ _ rfl (h.alloc _).1 ⟨wr.heap.size,0,none⟩ 1 1 [.int .u8 _] rfl rfl (zaq _ _) (by simp[Value.oneCell']) (by unfold maxLen;omega) (by omega) (by simp;omega) ?_;intro v3 w3 o3 g3 _)
    go_roundw
    case rel=>exact⟨k,rfl,by omega,hst'.out _ _ ((h.alloc _).put o3 rfl rfl g3)⟩
    case measure=>simp[intOf]
   ·have hs:=hla.size;subst h;go_wp2_with (at_builtin;refine wpList_append_grows _ rfl _ _ 22 rfl 5 i0 (.int .u8 0) 1 1 Tryz.underlying22 hi hz0 hz1 hz2 rfl (by decide) _ 2 2 [.int .u8 48,.int .u8 102] rfl (fun h=>by cases h) rfl (two_cells hc0 hc1 _) ⟨wr.heap.size,0,none⟩ 1 1 [.int .u8 _] rfl rfl (zaq _ _) (by simp[Value.oneCell']) (by decide) (by decide) (by decide) ?_;intro v3 w3 o3 g3)
    have hb:Bf w w w3 v3 ([48,102]++[hexD D]):=⟨own_monob o3 (by simp;omega),(hla.trans (later1 _ _)).trans' (v:=.slice none 0 0) g3 (fun _ h=>by cases h),((hla.trans (later1 _ _)).trans' (v:=.slice none 0 0) g3 (fun _ h=>by cases h)).k8⟩
    go_roundw
    case rel=>exact⟨k,rfl,by omega,hst'.out _ _ hb⟩
    case measure=>simp[intOf]
def Enters (P:Program) (f:FuncId):Prop:=∀ (args:Array Value) (w:World),(callFunc f args).run P w=.ok (.enter f args) w
theorem zai {P:Program}{f:FuncId}{fn:Func}(hf:P.funcs[f]?=some fn) (hname:(fn.name== "runtime.NumGoroutine")=false) (hb:fn.body.isNone=false):Enters P f:=by
 intro args w
 have h1:¬ fn.name= "runtime.NumGoroutine":=by simpa using hname
 have h2:¬ fn.body=none:=by intro h;rw[h]at hb;cases hb
 simp[callFunc,hf,h1,h2]
theorem zaa {P:Program}{ops:Array Oper}{o:Oper}{a:Act}{w:World}{K:Act→World→Prop}{Q:Exit→Act→World→Prop}{E:Prop}
  (hg:o.guard=none) (f:FuncId) (he:Enters P f) (xs:List Operand) (ts:Array TypeId) (hop:o.op=Op.call { callee:=Callee.value (Operand.func f),args:=xs.toArray,argTypes:=ts })
  (vs:List Value) (hv:xs.map a.eval=vs) (R:Value→World→Prop) (hc:Calls P f vs.toArray w fun e w'=>∃ v,e=.returned v∧R v w')
  (h:∀ v w',R v w'→K (a.put o.dst v) w') :
  if Region.wanted o (yielded ops a.tmps)=true then Oper.wp P o a w K Q else E:=by
 have hw:Region.wanted o (yielded ops a.tmps)=true:=by simp[Region.wanted,hg]
 rw[if_pos hw];unfold Oper.wp
 have hr:(execOp a.eval o).run P w=.ok (.enter f vs.toArray) w:=by
  subst hv;have h1:=he (xs.map a.eval).toArray w;simpa[execOp,hop,resolve,invoke,Act.eval,Deferred.ofValue] using h1
 rw[hr,Oper.upon_enter];refine hc.mono ?_;rintro e w' ⟨v,rfl,hR⟩;exact h v w' hR
theorem en_dec:Enters Tryz.prog 41:=zai Tryz.func41 (by kernel_rfl) (by kernel_rfl)
theorem en_hex:Enters Tryz.prog 87:=zai Tryz.func87 (by kernel_rfl) (by kernel_rfl)
theorem en_op:Enters Tryz.prog 88:=zai Tryz.func88 (by kernel_rfl) (by kernel_rfl)
theorem en_ty:Enters Tryz.prog 36:=zai Tryz.func36 (by kernel_rfl) (by kernel_rfl)
theorem en_say:Enters Tryz.prog 55:=zai Tryz.func55 (by kernel_rfl) (by kernel_rfl)
theorem en_block:Enters Tryz.prog 37:=zai Tryz.func37 (by kernel_rfl) (by kernel_rfl)
def BxT (b:Nat) (w:World) (cs:List Value) (t:TypeId):Prop:=w.heap[b]?=some (.cells cs.toArray t)
theorem BxT.new (w:World) (cs:List Value) (t:TypeId):BxT w.heap.size (w.alloc (.cells cs.toArray t)) cs t:=by
 show (w.heap.push _)[w.heap.size]?=_;simp
theorem BxT.k8 {b:Nat}{A w:World}{cs:List Value}{t:TypeId}(h:BxT b A cs t) (k:K8 A w) (ht:t≠5):BxT b w cs t:=by
 unfold BxT at h ⊢;rw[k.2 b _ _ _ h ht];exact h
theorem BxT.cell {b:Nat}{w:World}{cs:List Value}{t:TypeId}(h:BxT b w cs t) (i:Nat) (u:Value) (hu:cs[i]?=some u):w.cell? ⟨b,i,none⟩=some u:=by
 show (match w.heap[b]? with|some (.cells c _ _)=>c[i]?|_=>none)=some u;rw[h];show cs.toArray[i]?=some u;rw[List.getElem?_toArray];exact hu
theorem zbm {W:World}{v:Value}{nm:List Int}(h:RdN W v nm) (h1:1≤nm.length):∃ g off q,v=.slice (some ⟨g,off,none⟩) nm.length q∧g<W.heap.size∧∀ w',Later W w'→∀ j u,(nm.map (Value.int .u8))[j]?=some u→w'.cell? ((⟨g,off,none⟩:Addr).add j)=some u:=by
 obtain⟨y,q,rfl,hyl,hyb,hyc⟩:=h.rd;obtain⟨g0,off0,rfl,hg0,_⟩:=hyc 0 (by omega);refine⟨g0,off0,q,rfl,hg0,fun w' hw j u hj=>?_⟩
 have hj':j<nm.length:=by
  rcases Nat.lt_or_ge j nm.length with h|h
  ·exact h
  ·rw[List.getElem?_eq_none (by simpa using h)]at hj;cases hj
 obtain⟨g',off',e,_,hv⟩:=hyc j hj'
 cases e
 rw[Addr.add_lit,hw.cell (p:=⟨g0,off0+j,none⟩) hg0,hv];rw[List.getElem?_map,List.getElem?_eq_getElem hj']at hj;rw[←hj,List.getD_eq_getElem?_getD,List.getElem?_eq_getElem hj'];rfl
theorem zat {w:World}{base:Nat}{v:Value}{zs:List Int}(o:w.ownsRow base 5 1 v zs.length (zs.map (Value.int .u8))) (h1:1≤zs.length):∃ g q,v=.slice (some ⟨g,0,none⟩) zs.length q∧base≤g∧g<w.heap.size∧∀ j u,(zs.map (Value.int .u8))[j]?=some u→w.cell? ((⟨g,0,none⟩:Addr).add j)=some u:=by
 rcases o.2 with ⟨_,h0⟩|⟨g,q,cur,rfl,hb,hg,_⟩
 ·omega
 refine⟨g,q,rfl,hb,zck hg,fun j u hj=>?_⟩
 have hj':j<zs.length:=by
  rcases Nat.lt_or_ge j zs.length with h|h
  ·exact h
  ·rw[List.getElem?_eq_none (by simpa using h)]at hj;cases hj
 rw[Addr.add_lit,Nat.zero_add,o.cellAt j (by omega)];exact hj
theorem zbe (zs:List Int):∀ u∈zs.map (Value.int .u8),u.oneCell'=true:=fun u hu=>by
 obtain⟨z,_,rfl⟩:=List.mem_map.1 hu;rfl
end Go.Proofs.YtgholpilmdebmaaGreatDoor
