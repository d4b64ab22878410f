import Derived.Test.YtgholpilmdebmaaGreatDoorZ34
import Derived.Test.YtgholpilmdebmaaGreatDoorZ37
import Derived.Test.YtgholpilmdebmaaGreatDoorZ20
import Derived.Test.YtgholpilmdebmaaGreatDoorZ10
import Derived.Deep.Cut
import Derived.Lib.SmallJoins
set_option maxHeartbeats 100000000
set_option maxRecDepth 100000
namespace Go.Proofs.YtgholpilmdebmaaGreatDoor
open Go.RowKit Go.Maps
theorem ex_all:∀ e:Int,-1≤e→e<4→ExD e:=fun e h0 h1=>expr_all' (fun d a b H=>expr_of d a b H) 5 e h0 (by omega) (by omega)
theorem stm_up:∀ (n:Nat) (d:Int),0≤d→d≤3→d+1≤n→StmD d
 | 0,_,h0,_,hn=>by omega
 | n+1,d,h0,h1,_=>stm_of d h0 h1 ex_all fun e e0 e1=>stm_up n e e0 (by omega) (by omega)
theorem more_any {c:Dx}{g:GS}{w:World}{v:Gv}(h:Gs c g w v) (n:Nat) (few:v.n+n+32≤999000):Calls Tryz.prog 62 #[.pointer (some ⟨c.G,0,none⟩),.int .i64 (n:Int)] w fun e w'=>∃ u,e=.returned u∧StsR c v g w v.n (v.n+n) (2*n) u w':=more_of 3 rfl (stm_up 4 3 (by decide) (by decide) (by decide)) h n few
def GS.sealR (g:GS) (a b:Nat):GS:=⟨fun x=>g.S x||decide (a≤x∧x<b),g.D⟩
theorem GS.sealedR (g:GS) (a b x:Nat):(g.sealR a b).S x=true↔g.S x=true∨(a≤x∧x<b):=by
 show (g.S x||decide (a≤x∧x<b))=true↔_;rw[Bool.or_eq_true,decide_eq_true_eq]
theorem Stp.sealR {g g1:GS}{w w1:World}(h:Stp g w g1 w1) {a:Nat}(b:Nat) (ha:w.heap.size≤a):Stp g w (g1.sealR a b) w1 :=
 ⟨h.os,h.tape,h.output,h.size,fun x q=>(g1.sealedR a b x).2 (.inl (h.s x q)),h.d,fun x hx q=>((g1.sealedR a b x).1 q).elim (h.s' x hx) (fun e=>by omega),h.d',h.block⟩
theorem GS.Ok.sealR {g:GS}{w:World}(h:g.Ok w) {a b:Nat}(hb:b≤w.heap.size) (hd:∀ x,a≤x→x<b→¬ g.D x):(g.sealR a b).Ok w :=
 ⟨fun x q=>((g.sealedR a b x).1 q).elim (h.s x) (fun e=>by omega),h.d,fun x q=>((g.sealedR a b x).1 q).elim (h.a x) (fun e=>hd x e.1 e.2)⟩
theorem Ov.sealR (g:GS) (w:World) (a b:Nat):Ov g w (g.sealR a b) w:=⟨Nat.le_refl _,fun x q=>(g.sealedR a b x).2 (.inl q),fun _ _=>rfl⟩
theorem Bxx.newF (w:World) (cs:List Value) (t:TypeId):Bxx (w.alloc (.cells cs.toArray t (cs.length,cs.length+1))) w.heap.size cs:=by
 have e:(w.alloc (.cells cs.toArray t (cs.length,cs.length+1))).heap[w.heap.size]?=some (.cells cs.toArray t (cs.length,cs.length+1)):=(MapKept.heap_alloc w _).1;refine⟨by simp,fun i u h=>⟨?_,?_⟩⟩
 ·unfold World.cell?;simp only[e];simpa using h
 ·have:=(List.getElem?_eq_some_iff.1 h).1;unfold World.frozen?;simp only[e];simp;omega
def alo (w:World) (p:List Value × TypeId × Bool):World:=bif p.2.2 then w.alloc (.cells p.1.toArray p.2.1 (p.1.length,p.1.length+1)) else w.alloc (.cells p.1.toArray p.2.1)
theorem alo_later (w:World) (p:List Value × TypeId × Bool):Later w (alo w p):=by
 obtain⟨a,b,c⟩:=p
 cases c
 ·exact later1 _ _
 ·exact later1 _ _
theorem alo_size (w:World) (p:List Value × TypeId × Bool):(alo w p).heap.size=w.heap.size+1:=by
 obtain⟨a,b,c⟩:=p
 cases c
 ·exact World.size_alloc _ _
 ·exact World.size_alloc _ _
theorem alo_box (w:World) (p:List Value × TypeId × Bool):Bxx (alo w p) w.heap.size p.1:=by
 obtain⟨a,b,c⟩:=p
 cases c
 ·have:=Bxx.new w a.toArray b;exact (show Bxx (w.alloc (.cells a.toArray b)) w.heap.size a by simpa using this)
 ·exact Bxx.newF w a b
def al (w:World):List (List Value × TypeId × Bool)→World
 | []=>w
 | p::r=>al (alo w p) r
theorem al_later:∀ (l:List (List Value × TypeId × Bool)) (w:World),Later w (al w l)
 | [],w=>Later.refl w
 | _::r,w=>(alo_later w _).trans (al_later r _)
theorem al_size:∀ (l:List (List Value × TypeId × Bool)) (w:World),(al w l).heap.size=w.heap.size+l.length
 | [],w=>rfl
 | _::r,w=>by rw[al,al_size r,alo_size,List.length_cons];omega
theorem al_box:∀ (l:List (List Value × TypeId × Bool)) (w:World) (i:Nat) (p:List Value × TypeId × Bool),l[i]?=some p→Bxx (al w l) (w.heap.size+i) p.1
 | q::r,w,0,p,h=>by
  cases h
  exact (alo_box w q).later (al_later r _)
 | q::r,w,i+1,p,h=>by
  have:=al_box r (alo w q) i p h;rw[alo_size]at this;rw[show w.heap.size+(i+1)=w.heap.size+1+i by omega];exact this
theorem RdN.lit {g:GS}{w:World}{b:Nat}{zs:List Int}(hb:Bxx w b (zs.map (Value.int .u8))) (hS:g.S b) (hz:∀ j,isB (zs.getD j 0)) (hl:zs.length≤1000):RdN (mask g w) (.slice (some ⟨b,0,none⟩) zs.length zs.length) zs:=by
 refine⟨⟨some ⟨b,0,none⟩,zs.length,rfl,by omega,hz,fun j hj=>⟨b,0,rfl,by rw[zbo];exact hb.lt,?_⟩⟩,_,zs.length,rfl,Nat.le_refl _,by unfold maxLen;omega⟩;have hc:=(hb.cell j (.int .u8 (zs.getD j 0)) (by rw[List.getElem?_map,List.getElem?_eq_getElem hj,List.getD_eq_getElem?_getD,List.getElem?_eq_getElem hj];rfl)).1;rw[Nat.zero_add];unfold World.cell? at hc ⊢;rw[zbk _ _ _ hS];exact hc
theorem zbv {zs:List Int}(h:zs.all (fun z=>decide (0≤z∧z≤255))=true):∀ j,isB (zs.getD j 0):=fun j=>by
 rw[List.getD_eq_getElem?_getD]
 cases q:zs[j]? with
 | none=>exact⟨by decide,by decide⟩
 | some z =>
  show 0≤z∧z≤255;exact of_decide_eq_true (List.all_eq_true.1 h z (List.mem_of_getElem? q))
theorem ElS.three {w:World}{d1 d2 d3:Dat}{a b c:List Value}(h1:a.length=3) (h2:b.length=3) (h3:c.length=3) (r1:RdD w d1 a) (r2:RdD w d2 b) (r3:RdD w d3 c):ElS w 3 [d1,d2,d3] (a++(b++c)):=ElS.app (ElS.two h2 h3 r2 r3) [d1] (ElS.one h1 r1)
theorem ElS.four {w:World}{d1 d2 d3 d4:Dat}{a b c e:List Value}(h1:a.length=3) (h2:b.length=3) (h3:c.length=3) (h4:e.length=3) (r1:RdD w d1 a) (r2:RdD w d2 b) (r3:RdD w d3 c) (r4:RdD w d4 e):ElS w 3 [d1,d2,d3,d4] (a++(b++(c++e))):=ElS.app (ElS.three h2 h3 h4 r2 r3 r4) [d1] (ElS.one h1 r1)
def nodeSc:Sc:=(.mk [78,111,100,101] [(.mk [118] 1 0),(.mk [110,101,120,116] 3 0),(.mk [102] 2 0)]:Sc)
def boxSc:Sc:=(.mk [66,111,120] [(.mk [108] 4 0),(.mk [110] 3 0),(.mk [107] 6 0),(.mk [111] 3 1)]:Sc)
theorem ssOk0:SsOk []:=⟨by simp,fun j h=>by simp at h⟩
theorem ssOk1:SsOk [nodeSc]:=⟨by simp,fun j h=>by
 obtain rfl:j=0:=by simpa using h
 exact⟨(by show 0<nodeSc.fields.length;decide),(by show nodeSc.fields.length≤1000;decide),fun i h2=>by
  have:i=0∨i=1∨i=2:=by have:i<3:=h2;omega
  rcases this with rfl|rfl|rfl <;> exact (show InR (0:Int) from ⟨by decide,by decide⟩)⟩⟩
theorem ssOk2:SsOk [nodeSc,boxSc]:=⟨by simp,fun j h=>by
 have:j=0∨j=1:=by have:j<2:=h;omega
 rcases this with rfl|rfl
 ·exact ssOk1.2 0 (by decide)
 ·exact⟨(by show 0<boxSc.fields.length;decide),(by show boxSc.fields.length≤1000;decide),fun i h2=>by
   have:i=0∨i=1∨i=2∨i=3:=by have:i<4:=h2;omega
   rcases this with rfl|rfl|rfl|rfl <;> first|exact (show InR (0:Int) from ⟨by decide,by decide⟩)|exact (show InR (1:Int) from ⟨by decide,by decide⟩)⟩⟩
theorem Sc.dats_of1 (x:Sc):Sc.dats [x]=[x.dat]:=by rw[Sc.dats,Sc.dats]
theorem Sc.dats_of2 (x y:Sc):Sc.dats [x,y]=[x.dat,y.dat]:=by rw[Sc.dats,Sc.dats,Sc.dats]
def StrR (B K:Nat) (a:Option Addr) (len cap:Nat) (g:GS) (w:World) (u:Value) (w':World):Prop:=∃ g' ss,Stp g w g' w'∧g'.Ok w'∧Cur B K a len cap w'∧RdL (mask g' w') 2 u (Sc.dats ss)∧SsOk ss
def strL (n:Nat):List (List Value × TypeId × Bool):=[([.int .i64 1,.int .i64 0],67,false),([.int .u8 78,.int .u8 111,.int .u8 100,.int .u8 101],5,true),([.int .u8 118],5,true),([.int .u8 110,.int .u8 101,.int .u8 120,.int .u8 116],5,true),([.int .u8 102],5,true),([.slice (some ⟨n+1+1,0,none⟩) 1 1,.int .i64 1,.int .i64 0,.slice (some ⟨n+1+1+1,0,none⟩) 4 4,.int .i64 3,.int .i64 0,.slice (some ⟨n+1+1+1+1,0,none⟩) 1 1,.int .i64 2,.int .i64 0],69,false),([.slice (some ⟨n+1,0,none⟩) 4 4,.slice (some ⟨n+1+1+1+1+1,0,none⟩) 3 3],65,false),([.int .u8 66,.int .u8 111,.int .u8 120],5,true),([.int .u8 108],5,true),([.int .u8 110],5,true),([.int .u8 107],5,true),([.int .u8 111],5,true),([.slice (some ⟨n+1+1+1+1+1+1+1+1,0,none⟩) 1 1,.int .i64 4,.int .i64 0,.slice (some ⟨n+1+1+1+1+1+1+1+1+1,0,none⟩) 1 1,.int .i64 3,.int .i64 0,.slice (some ⟨n+1+1+1+1+1+1+1+1+1+1,0,none⟩) 1 1,.int .i64 6,.int .i64 0,.slice (some ⟨n+1+1+1+1+1+1+1+1+1+1+1,0,none⟩) 1 1,.int .i64 3,.int .i64 1],69,false),([.slice (some ⟨n+1+1+1+1+1+1+1,0,none⟩) 3 3,.slice (some ⟨n+1+1+1+1+1+1+1+1+1+1+1+1,0,none⟩) 4 4],65,false)]
theorem structs_any {B K:Nat}{a:Option Addr}{len cap:Nat}{g:GS}{w:World}(ok:g.Ok w) (hc:Cur B K a len cap w) (dK:g.D K):Calls Tryz.prog 38 #[.pointer (some ⟨K,0,none⟩)] w fun e w'=>∃ u,e=.returned u∧StrR B K a len cap g w u w':=by
 obtain⟨W,hW⟩:=hidx ((((((((((((((w.alloc (.cells #[.int .i64 1,.int .i64 0] 67)).alloc (.cells #[.int .u8 78,.int .u8 111,.int .u8 100,.int .u8 101] 5 (4,5))).alloc (.cells #[.int .u8 118] 5 (1,2))).alloc (.cells #[.int .u8 110,.int .u8 101,.int .u8 120,.int .u8 116] 5 (4,5))).alloc (.cells #[.int .u8 102] 5 (1,2))).alloc (.cells #[.slice (some ⟨w.heap.size+1+1,0,none⟩) 1 1,.int .i64 1,.int .i64 0,.slice (some ⟨w.heap.size+1+1+1,0,none⟩) 4 4,.int .i64 3,.int .i64 0,.slice (some ⟨w.heap.size+1+1+1+1,0,none⟩) 1 1,.int .i64 2,.int .i64 0] 69)).alloc (.cells #[.slice (some ⟨w.heap.size+1,0,none⟩) 4 4,.slice (some ⟨w.heap.size+1+1+1+1+1,0,none⟩) 3 3] 65)).alloc (.cells #[.int .u8 66,.int .u8 111,.int .u8 120] 5 (3,4))).alloc (.cells #[.int .u8 108] 5 (1,2))).alloc (.cells #[.int .u8 110] 5 (1,2))).alloc (.cells #[.int .u8 107] 5 (1,2))).alloc (.cells #[.int .u8 111] 5 (1,2))).alloc (.cells #[.slice (some ⟨w.heap.size+1+1+1+1+1+1+1+1,0,none⟩) 1 1,.int .i64 4,.int .i64 0,.slice (some ⟨w.heap.size+1+1+1+1+1+1+1+1+1,0,none⟩) 1 1,.int .i64 3,.int .i64 0,.slice (some ⟨w.heap.size+1+1+1+1+1+1+1+1+1+1,0,none⟩) 1 1,.int .i64 6,.int .i64 0,.slice (some ⟨w.heap.size+1+1+1+1+1+1+1+1+1+1+1,0,none⟩) 1 1,.int .i64 3,.int .i64 1] 69)).alloc (.cells #[.slice (some ⟨w.heap.size+1+1+1+1+1+1+1,0,none⟩) 3 3,.slice (some ⟨w.heap.size+1+1+1+1+1+1+1+1+1+1+1+1,0,none⟩) 4 4] 65));have hal:W=al w (strL w.heap.size):=hW.out;have lW:Later w W:=by rw[hal];exact al_later _ _
 have sW:W.heap.size=w.heap.size+14:=by rw[hal,al_size];rfl
 have bx:∀ i p,(strL w.heap.size)[i]?=some p→Bxx W (w.heap.size+i) p.1:=fun i p h=>by rw[hal];exact al_box _ _ i p h
 obtain⟨G,hG⟩:∃ G,G=g.sealR w.heap.size (w.heap.size+14):=⟨_,rfl⟩
 have okW:G.Ok W:=by rw[hG];exact (ok.later lW.size).sealR (by omega) (fun x h1 h2 q=>by have:=ok.d x q;omega)
 have stW:Stp g w G W:=by rw[hG];exact ((Stp.refl g w).later lW).sealR _ (Nat.le_refl _)
 have hS:∀ i,i<14→G.S (w.heap.size+i):=fun i hi=>by rw[hG];exact (GS.sealedR _ _ _ _).2 (.inr ⟨by omega,by omega⟩)
 have n1:=RdN.lit (g:=G) (b:=w.heap.size+1) (zs:=[78,111,100,101]) (bx 1 _ rfl) (hS 1 (by decide)) (zbv (by decide)) (by decide);have n2:=RdN.lit (g:=G) (b:=w.heap.size+2) (zs:=[118]) (bx 2 _ rfl) (hS 2 (by decide)) (zbv (by decide)) (by decide);have n3:=RdN.lit (g:=G) (b:=w.heap.size+3) (zs:=[110,101,120,116]) (bx 3 _ rfl) (hS 3 (by decide)) (zbv (by decide)) (by decide);have n4:=RdN.lit (g:=G) (b:=w.heap.size+4) (zs:=[102]) (bx 4 _ rfl) (hS 4 (by decide)) (zbv (by decide)) (by decide);have n7:=RdN.lit (g:=G) (b:=w.heap.size+7) (zs:=[66,111,120]) (bx 7 _ rfl) (hS 7 (by decide)) (zbv (by decide)) (by decide);have n8:=RdN.lit (g:=G) (b:=w.heap.size+8) (zs:=[108]) (bx 8 _ rfl) (hS 8 (by decide)) (zbv (by decide)) (by decide);have n9:=RdN.lit (g:=G) (b:=w.heap.size+9) (zs:=[110]) (bx 9 _ rfl) (hS 9 (by decide)) (zbv (by decide)) (by decide);have n10:=RdN.lit (g:=G) (b:=w.heap.size+10) (zs:=[107]) (bx 10 _ rfl) (hS 10 (by decide)) (zbv (by decide)) (by decide);have n11:=RdN.lit (g:=G) (b:=w.heap.size+11) (zs:=[111]) (bx 11 _ rfl) (hS 11 (by decide)) (zbv (by decide)) (by decide);have f5:RdL (mask G W) 3 (.slice (some ⟨w.heap.size+5,0,none⟩) 3 3) (Pa.dats nodeSc.fields):=RdL.lit (l:=Pa.dats nodeSc.fields) (bx 5 _ rfl) (hS 5 (by decide)) (by unfold maxLen;decide) (ElS.three rfl rfl rfl (Pa.unview (x:=(.mk [118] 1 0)) n2) (Pa.unview (x:=(.mk [110,101,120,116] 3 0)) n3) (Pa.unview (x:=(.mk [102] 2 0)) n4));have f12:RdL (mask G W) 3 (.slice (some ⟨w.heap.size+12,0,none⟩) 4 4) (Pa.dats boxSc.fields):=RdL.lit (l:=Pa.dats boxSc.fields) (bx 12 _ rfl) (hS 12 (by decide)) (by unfold maxLen;decide) (ElS.four rfl rfl rfl rfl (Pa.unview (x:=(.mk [108] 4 0)) n8) (Pa.unview (x:=(.mk [110] 3 0)) n9) (Pa.unview (x:=(.mk [107] 6 0)) n10) (Pa.unview (x:=(.mk [111] 3 1)) n11));have d1:=Sc.unview (x:=nodeSc) n1 f5;have d2:=Sc.unview (x:=boxSc) n7 f12;have cW:=hc.later (Below.mono lW (by have:=hc.hK;omega));have GD:∀ b,G.D b→b<w.heap.size:=fun b q=>ok.d b (by rw[hG]at q;exact q);have HB:=zcd (At.start cW) 4 (by decide) (by decide);have dKW:G.D K:=stW.d K dK;have lw:=lW.size
 obtain⟨xa0,xa1⟩:W.cell? ⟨w.heap.size+1+1+1+1+1+1,0,none⟩=some (.slice (some ⟨w.heap.size+1,0,none⟩) 4 4)∧W.cell? ⟨w.heap.size+1+1+1+1+1+1,1,none⟩=some (.slice (some ⟨w.heap.size+1+1+1+1+1,0,none⟩) 3 3):=⟨((bx 6 _ rfl).cell 0 _ rfl).1,((bx 6 _ rfl).cell 1 _ rfl).1⟩
 obtain⟨xb0,xb1⟩:W.cell? ⟨w.heap.size+1+1+1+1+1+1+1+1+1+1+1+1+1,0,none⟩=some (.slice (some ⟨w.heap.size+1+1+1+1+1+1+1,0,none⟩) 3 3)∧W.cell? ⟨w.heap.size+1+1+1+1+1+1+1+1+1+1+1+1+1,1,none⟩=some (.slice (some ⟨w.heap.size+1+1+1+1+1+1+1+1+1+1+1+1,0,none⟩) 4 4):=⟨((bx 13 _ rfl).cell 0 _ rfl).1,((bx 13 _ rfl).cell 1 _ rfl).1⟩
 have HQ:Hid (∀ u w',StrR B K a len cap g w u w'→∃ u',Ending.returned u=.returned u'∧StrR B K a len cap g w u' w'):=fun u w' q=>⟨u,rfl,q⟩
 have H0:Hid (∀ w2,OnlyK K W w2→Cur B K a len cap w2→StrR B K a len cap g w (.slice none 0 0) w2):=fun w2 oo c2=>⟨G,[],stW.only oo (.inr dKW),okW.later oo.size,c2,by rw[Sc.dats];exact RdL.nil0 _ _,ssOk0⟩
 have HS:Hid (∀ w2,OnlyK K W w2→Stp g w G w2∧G.Ok w2∧Ov G W G w2):=fun w2 oo=>⟨stW.only oo (.inr dKW),okW.later oo.size,Ov.only okW oo (fun q=>okW.a K q dKW)⟩
 have hK2:K<w.heap.size:=hc.hK;have GDH:Hid _:=GD
 have HF:Hid (∀ w2,OnlyK K W w2→Cur B K a len cap w2→(∃ u',Ending.returned (.slice (some ⟨w2.heap.size,0,none⟩) 1 1)=.returned u'∧StrR B K a len cap g w u' (w2.alloc (.cells #[.slice (some ⟨w.heap.size+1,0,none⟩) 4 4,.slice (some ⟨w.heap.size+1+1+1+1+1,0,none⟩) 3 3] 65)))∧∃ u',Ending.returned (.slice (some ⟨w2.heap.size,0,none⟩) 2 2)=.returned u'∧StrR B K a len cap g w u' (w2.alloc (.cells #[.slice (some ⟨w.heap.size+1,0,none⟩) 4 4,.slice (some ⟨w.heap.size+1+1+1+1+1,0,none⟩) 3 3,.slice (some ⟨w.heap.size+1+1+1+1+1+1+1,0,none⟩) 3 3,.slice (some ⟨w.heap.size+1+1+1+1+1+1+1+1+1+1+1+1,0,none⟩) 4 4] 65))):=fun w2 oo c2=>by
  obtain⟨st2,ok2,ov2⟩:=HS.out w2 oo;refine⟨?_,?_⟩
  ·have HA:Hid (∃ u',Ending.returned (.slice (some ⟨w2.heap.size,0,none⟩) 1 1)=.returned u'∧StrR B K a len cap g w u' (w2.alloc (.cells #[.slice (some ⟨w.heap.size+1,0,none⟩) 4 4,.slice (some ⟨w.heap.size+1+1+1+1+1,0,none⟩) 3 3] 65))):=by
    have hb:=Bxx.new w2 #[.slice (some ⟨w.heap.size+1,0,none⟩) 4 4,.slice (some ⟨w.heap.size+1+1+1+1+1,0,none⟩) 3 3] 65;have l3:=later1 w2 (.cells #[.slice (some ⟨w.heap.size+1,0,none⟩) 4 4,.slice (some ⟨w.heap.size+1+1+1+1+1,0,none⟩) 3 3] 65);have nD:¬ G.D w2.heap.size:=fun q=>by have:=GD _ q;have:=lW.size;have:=oo.size;omega
    have ov:=(ov2.trans (Ov.later ok2 l3)).trans (Ov.seal G _ w2.heap.size);exact⟨_,rfl,G.seal w2.heap.size,[nodeSc],(st2.later l3).seal (by have:=lW.size;have:=oo.size;omega),(ok2.later l3.size).seal hb.lt nD,At.cur ((At.start c2).later l3),by rw[Sc.dats_of1];exact RdL.lit hb ((G.sealed _ _).2 (.inr rfl)) (by unfold maxLen;simp) (ElS.one rfl (RdD.sub ov.sub _ d1)),ssOk1⟩
   exact HA.out
  ·have HA:Hid (∃ u',Ending.returned (.slice (some ⟨w2.heap.size,0,none⟩) 2 2)=.returned u'∧StrR B K a len cap g w u' (w2.alloc (.cells #[.slice (some ⟨w.heap.size+1,0,none⟩) 4 4,.slice (some ⟨w.heap.size+1+1+1+1+1,0,none⟩) 3 3,.slice (some ⟨w.heap.size+1+1+1+1+1+1+1,0,none⟩) 3 3,.slice (some ⟨w.heap.size+1+1+1+1+1+1+1+1+1+1+1+1,0,none⟩) 4 4] 65))):=by
    have hb:=Bxx.new w2 #[.slice (some ⟨w.heap.size+1,0,none⟩) 4 4,.slice (some ⟨w.heap.size+1+1+1+1+1,0,none⟩) 3 3,.slice (some ⟨w.heap.size+1+1+1+1+1+1+1,0,none⟩) 3 3,.slice (some ⟨w.heap.size+1+1+1+1+1+1+1+1+1+1+1+1,0,none⟩) 4 4] 65;have l3:=later1 w2 (.cells #[.slice (some ⟨w.heap.size+1,0,none⟩) 4 4,.slice (some ⟨w.heap.size+1+1+1+1+1,0,none⟩) 3 3,.slice (some ⟨w.heap.size+1+1+1+1+1+1+1,0,none⟩) 3 3,.slice (some ⟨w.heap.size+1+1+1+1+1+1+1+1+1+1+1+1,0,none⟩) 4 4] 65);have nD:¬ G.D w2.heap.size:=fun q=>by have:=GD _ q;have:=lW.size;have:=oo.size;omega
    have ov:=(ov2.trans (Ov.later ok2 l3)).trans (Ov.seal G _ w2.heap.size);exact⟨_,rfl,G.seal w2.heap.size,[nodeSc,boxSc],(st2.later l3).seal (by have:=lW.size;have:=oo.size;omega),(ok2.later l3.size).seal hb.lt nD,At.cur ((At.start c2).later l3),by rw[Sc.dats_of2];exact RdL.lit hb ((G.sealed _ _).2 (.inr rfl)) (by unfold maxLen;simp) (ElS.two (k:=2) rfl rfl (RdD.sub ov.sub _ d1) (RdD.sub ov.sub _ d2)),ssOk2⟩
   exact HA.out
 have hsz:Hid (w.heap.size+1+1+1+1+1+1+1+1+1+1+1+1+1+1=W.heap.size):=by rw[sW];show _=_;omega
 generalize hQ:(fun (e:Ending) (w':World)=>∃ u,e=.returned u∧StrR B K a len cap g w u w')=Q
 have HZ:Hid (∀ e w',(∃ u',e=Ending.returned u'∧StrR B K a len cap g w u' w')→Q e w'):=fun e w' q=>by rw[←hQ];exact q
 clear hQ HQ HS GD GDH bx hS okW stW lW sW hal hG cW d1 d2 f5 f12 dKW ok hc dK n1 n2 n3 n4 n7 n8 n9 n10 n11;have kc:=fun (w:World) (C:Array Value) (n c g:Nat) (hg:g=w.heap.size)=>Joins.run_convert_bytes_const_at (P:=Tryz.prog) w 22 5 C n c g hg Tryz.underlying22 Tryz.underlying5;go_enter Tryz.func38,Tryz.ntmps38;go_wp2_with fail
 rw[←hW.out];clear hW;refine HB.mono ?_;rintro e w2 ⟨z,rfl,z0,z1,aa⟩;have oo:=aa.only;have h0:=HZ.out _ _ ⟨_,rfl,H0.out w2 oo aa.cur⟩;obtain⟨h1,h2⟩:=HF.out w2 oo aa.cur;have h1:=HZ.out _ _ h1;have h2:=HZ.out _ _ h2;have hK3:∀ b,w.heap.size≤b→b<W.heap.size→w2.heap[b]?=W.heap[b]?:=fun b hb hl=>oo.block b hl (by omega);have ya0:w2.cell? ⟨w.heap.size+1+1+1+1+1+1,0,none⟩=some (.slice (some ⟨w.heap.size+1,0,none⟩) 4 4):=(World.cell?_of_block (hK3 (w.heap.size+1+1+1+1+1+1) (by omega) (by have:=hsz.out;omega))).trans xa0;have ya1:w2.cell? ⟨w.heap.size+1+1+1+1+1+1,1,none⟩=some (.slice (some ⟨w.heap.size+1+1+1+1+1,0,none⟩) 3 3):=(World.cell?_of_block (hK3 (w.heap.size+1+1+1+1+1+1) (by omega) (by have:=hsz.out;omega))).trans xa1;have yb0:w2.cell? ⟨w.heap.size+1+1+1+1+1+1+1+1+1+1+1+1+1,0,none⟩=some (.slice (some ⟨w.heap.size+1+1+1+1+1+1+1,0,none⟩) 3 3):=(World.cell?_of_block (hK3 (w.heap.size+1+1+1+1+1+1+1+1+1+1+1+1+1) (by omega) (by have:=hsz.out;omega))).trans xb0;have yb1:w2.cell? ⟨w.heap.size+1+1+1+1+1+1+1+1+1+1+1+1+1,1,none⟩=some (.slice (some ⟨w.heap.size+1+1+1+1+1+1+1+1+1+1+1+1,0,none⟩) 4 4):=(World.cell?_of_block (hK3 (w.heap.size+1+1+1+1+1+1+1+1+1+1+1+1+1) (by omega) (by have:=hsz.out;omega))).trans xb1;clear HZ H0 HF hK3 aa xa0 xa1 xb0 xb1 HB oo hsz;by_cases hz0:z=0
 ·subst hz0;go_wp2_with fail
  exact h0
 ·have i1:(z==0)=false:=by simpa using hz0
  by_cases hz1:z=1
  ·subst hz1;go_wp2_with fail
   exact h1
  ·have i2:(z==1)=false:=by simpa using hz1
   go_wp2_with fail
   exact h2
end Go.Proofs.YtgholpilmdebmaaGreatDoor
