import Derived.Test.YtgholpilmdebmaaGreatDoorZ20
import Derived.Test.YtgholpilmdebmaaGreatDoorZ07
import Derived.Test.YtgholpilmdebmaaGreatDoorZ01
import Derived.Deep.RegionHeld3
import Derived.Deep.Cut
import Derived.Deep.CutRange
import Derived.Deep.CutBlock
set_option maxHeartbeats 100000000
set_option maxRecDepth 100000
namespace Go.Proofs.YtgholpilmdebmaaGreatDoor
open Go.RowKit Go.Maps
theorem eqTyD (w:World) (a b c d:Int):(binOp .eql 67 (.agg #[.int .i64 a,.int .i64 b]) (.agg #[.int .i64 c,.int .i64 d])).run Tryz.prog w=.ok (.bool ((a==c)&&(b==d))) w:=by
 go_simp;by_cases h1:a=c <;> by_cases h2:b=d <;> simp[h1,h2]
theorem Tryz.underlying134:Tryz.prog.underlying 134=some (.slice 3):=by kernel_rfl
theorem Tryz.info3:(Tryz.prog.info? 3).map (fun i=>(i.zero,i.size,i.bytes))=some (some (.int .i64 0),1,8):=by kernel_rfl
def nums (l:List Nat):List Value:=l.map fun i:Nat=>Value.int .i64 (i:Int)
theorem nums_snoc (l:List Nat) (i:Nat):nums (l++[i])=nums l++[.int .i64 (i:Int)]:=by unfold nums;rw[List.map_append];rfl
theorem laterN (w:World) (n:Nat):Later w (w.drewN n):=⟨rfl,rfl,rfl,Nat.le_refl _,fun _ _=>rfl⟩
def Vs (c:Dx) (g:GS) (w:World) (n:Nat) (u:Value) (m:Nat):Prop:=∃ l:List Nat,l.length=m∧(∀ i∈l,i<n)∧((u=.slice none 0 0∧m=0)∨∃ b p,u=.slice (some ⟨b,0,none⟩) m p∧Lb c g w b (nums l))
theorem Vs.stp {c:Dx}{g g':GS}{w w':World}{n m:Nat}{u:Value}(h:Vs c g w n u m) (t:Stp g w g' w'):Vs c g' w' n u m:=by
 obtain⟨l,hl,hn,h⟩:=h;exact⟨l,hl,hn,h.imp id fun ⟨b,p,e,hb⟩=>⟨b,p,e,hb.stp t⟩⟩
theorem Vs.slice {c:Dx}{g:GS}{w:World}{n m:Nat}{u:Value}(h:Vs c g w n u m):∃ a p,u=.slice a m p:=by
 obtain⟨l,hl,hn,⟨rfl,rfl⟩|⟨b,p,e,_⟩⟩:=h
 ·exact⟨none,0,rfl⟩
 ·exact⟨_,p,e⟩
theorem Vs.at {c:Dx}{g:GS}{w:World}{n m:Nat}{a:Option Addr}{p:Nat}(h:Vs c g w n (.slice a m p) m) (z:Nat) (hz:z<m):∃ b i,a=some ⟨b,0,none⟩∧b<w.heap.size∧w.cell? ⟨b,z,none⟩=some (.int .i64 ((i:Nat):Int))∧i<n:=by
 obtain⟨l,hl,hn,⟨_,e⟩|⟨b,p',e,hb⟩⟩:=h
 ·omega
 ·cases e
  exact⟨b,l[z],rfl,hb.bx.lt,(hb.bx.cell z _ (by unfold nums;rw[List.getElem?_map,List.getElem?_eq_getElem (by omega)];rfl)).1,hn _ (List.getElem_mem _)⟩
theorem Vs.of {c:Dx}{g:GS}{w w':World}{v:Gv}(h:Gs c g w v) {B:Nat}(hB:w.heap.size≤B) {n:Nat}{u:Value}{l:List Nat}(ho:w'.ownsRow B 3 1 u l.length (nums l)) (hn:∀ i∈l,i<n):Vs c g w' n u l.length:=by
 refine⟨l,rfl,hn,?_⟩;rcases ho.2 with ⟨e,e2⟩|⟨b,p,cur,e,hb,_⟩
 ·exact .inl ⟨e,e2⟩
 ·have hr:=ho;rw[e]at hr;have hlt:=(hr.lt b rfl).2;refine .inr ⟨b,p,e,⟨hlt,fun i u q=>?_⟩,fun q=>?_,fun q=>?_,?_⟩
  ·have hi:=(List.getElem?_eq_some_iff.1 q).1;rw[hr.cellAt i (by unfold nums at hi;simpa using hi)];exact⟨q,hr.frozenAt i⟩
  ·have:=h.ok.s b q;omega
  ·have:=h.ok.d b q;omega
  ·have:=h.new.2.2;omega
theorem zcq {c:Dx}{g:GS}{w:World}{v:Gv}(h:Gs c g w v) (tk tn:Int) (set:Bool):Calls Tryz.prog 89 #[.pointer (some ⟨c.G,0,none⟩),.agg #[.int .i64 tk,.int .i64 tn],.bool set] w fun e w'=>∃ u m,e=.returned u∧Later w w'∧m≤1000000∧Vs c g w' v.n u m:=by
 obtain⟨i0,hi,hz0,hz1,hz2⟩:=info_parts Tryz.info3;have qT:=eqTyD;obtain⟨⟨na,np,hnv⟩,⟨ta,tp,htv⟩,⟨xa,xp,hxv⟩,_⟩:=h.nvS;have hfew:=h.few;have hL0:=later1 w (.cells #[.int .i64 tk,.int .i64 tn] 67);obtain⟨w1,hw1⟩:=hidx (w.alloc (.cells #[.int .i64 tk,.int .i64 tn] 67));have l1:Later w w1:=by rw[hw1.out];exact hL0
 have HW:Hid (w1.heap.size=w.heap.size+1):=by rw[hw1.out];exact World.size_alloc _ _
 have hbT:Bxx w1 w.heap.size [.int .i64 tk,.int .i64 tn]:=by rw[hw1.out];exact Bxx.new _ _ _
 have HV:Hid (∀ w' (l:List Nat) u,Later w w'→w'.ownsRow (w.heap.size+1) 3 1 u l.length (nums l)→(∀ i∈l,i<v.n)→Vs c g w' v.n u l.length):=fun w' l u _ ho hn=>Vs.of h (Nat.le_succ _) ho hn
 have HA:Hid (∀ w' j,Later w w'→j<v.n→∃ b k n,ta=some ⟨b,0,none⟩∧w'.cell? ⟨b,j*2,none⟩=some (.int .i64 k)∧w'.cell? ⟨b,j*2+1,none⟩=some (.int .i64 n)):=fun w' j l hj=>by
  obtain⟨b,p,k,n,e,_,c0,c1,_⟩:=(h.later l).tyAt j hj;rw[htv]at e
  cases e
  exact⟨b,k,n,rfl,c0,c1⟩
 have HX:Hid (∀ w' j,Later w w'→j<v.n→∃ b t,xa=some ⟨b,0,none⟩∧w'.cell? ⟨b,j,none⟩=some (.bool t)):=fun w' j l hj=>by
  obtain⟨b,p,t,e,_,c0⟩:=(h.later l).fxAt j hj;rw[hxv]at e
  cases e
  exact⟨b,t,rfl,c0⟩
 have HT:Hid (∀ w',Later w w'→w'.cell? ⟨c.G,3,none⟩=some (.slice na v.n np)∧w'.cell? ⟨c.G,4,none⟩=some (.slice ta v.n tp)∧w'.cell? ⟨c.G,5,none⟩=some (.slice xa v.n xp)):=fun w' l=>by
  obtain⟨nx,lf,_,_,_,c3,c4,c5,_⟩:=(h.later l).ten;rw[hnv]at c3;rw[htv]at c4;rw[hxv]at c5;exact⟨c3,c4,c5⟩
 clear h hnv htv hxv
 generalize hQ:(fun (e:Ending) (w':World)=>∃ u m,e=.returned u∧Later w w'∧m≤1000000∧Vs c g w' v.n u m)=Q
 have HQ:Hid (∀ w' u m,Later w w'→m≤1000000→Vs c g w' v.n u m→Q (.returned u) w'):=fun w' u m l hm hv=>by rw[←hQ];exact⟨u,m,rfl,l,hm,hv⟩
 clear hQ
 generalize v.n=N at *
 generalize c.G=G at *
 go_enter Tryz.func89,Tryz.ntmps89;go_wp2_with fail
 rw[←hw1.out];clear hw1 hL0;go_loopw [7,8] (fun rv i wr=>∃ (j:Nat) (l:List Nat) (r:Value),r=rv∧i=.int .i64 (j:Int)∧j≤N∧l.length≤j∧(∀ i∈l,i<N)∧Later w1 wr∧wr.ownsRow (w.heap.size+1) 3 1 r l.length (nums l)) (fun _ i _=>N - (intOf i).toNat)
 case atStart=>exact⟨0,[],_,rfl,rfl,Nat.zero_le _,Nat.le_refl _,fun _ q=>(by cases q),Later.refl _,World.ownsRow_nil _ _ _ _⟩
 case round =>
  obtain⟨j,l,rv,rfl,rfl,hj,hlj,HL,lr,ho⟩:=hrel;have HL:Hid _:=HL;obtain⟨c3,c4,c5⟩:=HT.out wr (l1.trans lr);obtain⟨ra,rp,hra⟩:=zac ho;by_cases hlt:j<N
  ·have i1:(j:Int)<(N:Int):=by omega
   obtain⟨b,k,n,rfl,t0,t1⟩:=HA.out wr j (l1.trans lr) hlt;obtain⟨b2,t,rfl,x0⟩:=HX.out wr j (l1.trans lr) hlt;have hbr:=hbT.later lr;have b0:=(hbr.cell 0 _ rfl).1;have b1:=(hbr.cell 1 _ rfl).1;have hsz:=lr.size;have hwl:=hbT.lt;subst hra
   have HG:Hid (∀ wz (v':Value) w',Later wr wz→w'.ownsRow (w.heap.size+1) 3 1 v' (l.length+1) (nums l++[.int .i64 (j:Int)])→(wz.alloc (.cells #[.int .i64 (j:Int)] 3)).grownBy w' (Value.ownBlock (.slice ra l.length rp))→∃ (j':Nat) (l':List Nat) (r:Value),r=v'∧Value.int .i64 ((j:Int)+1)=.int .i64 (j':Int)∧j'≤N∧l'.length≤j'∧(∀ i∈l',i<N)∧Later w1 w'∧w'.ownsRow (w.heap.size+1) 3 1 r l'.length (nums l')):=fun wz v' w' lz o q=>⟨j+1,l++[j],v',rfl,by simp,by omega,by simp;omega,fun i q=>by rcases List.mem_append.1 q with z|z;(exact HL.out i z);(simp at z;omega),Later.trans' ((lr.trans lz).trans (later1 _ _)) q (fun b hb=>by have:=(ho.lt b hb).1;have:w1.heap.size=w.heap.size+1:=HW.out;omega),by rw[List.length_append,nums_snoc];exact o⟩
   have HO:Hid (∀ wz,Later wr wz→wz.ownsRow (w.heap.size+1) 3 1 (.slice ra l.length rp) l.length (nums l)):=fun wz lz=>zay ho fun b e=>lz.block b (ho.lt b e).2
   have HS:Hid (∀ wz,Later wr wz→∃ (j':Nat) (l':List Nat) (r:Value),r=(.slice ra l.length rp)∧Value.int .i64 ((j:Int)+1)=.int .i64 (j':Int)∧j'≤N∧l'.length≤j'∧(∀ i∈l',i<N)∧Later w1 wz∧wz.ownsRow (w.heap.size+1) 3 1 r l'.length (nums l')):=fun wz lz=>⟨j+1,l,_,rfl,by simp,by omega,by omega,HL.out,lr.trans lz,zay ho fun b e=>lz.block b (ho.lt b e).2⟩
   cases hc:((k==tk)&&(n==tn)) with
   | true =>
    cases set with
    | true =>
     cases t with
     | true =>
      go_wp2_with fail
      go_quiet (fail)
      go_wp2_with fail
      go_roundw
      case rel=>exact HS.out _ (laterN _ _)
      case measure=>simp[intOf];omega
     | false =>
      go_wp2_with fail
      go_quiet (fail)
      go_wp2_with (at_builtin;refine wpList_append_own _ rfl _ _ 134 rfl (w.heap.size+1) 3 i0 (.int .i64 0) 1 8 Tryz.underlying134 hi hz0 hz1 hz2 rfl (by decide) _ _ _ rfl ((HO.out _ (laterN _ _)).alloc _) _ 1 1 [.int .i64 (j:Int)] rfl rfl (zao _ _ _ (by simp)) (by simp[Value.oneCell']) (by unfold maxLen;omega) (by omega) (by simp;omega) ?_;intro v9 w9 o9 g9 _)
      go_roundw
      case rel=>exact HG.out _ _ _ (laterN _ _) o9 g9
      case measure=>simp[intOf];omega
    | false =>
     go_wp2_with fail
     go_quiet (fail)
     go_wp2_with (at_builtin;refine wpList_append_own _ rfl _ _ 134 rfl (w.heap.size+1) 3 i0 (.int .i64 0) 1 8 Tryz.underlying134 hi hz0 hz1 hz2 rfl (by decide) _ _ _ rfl ((HO.out _ (laterN _ _)).alloc _) _ 1 1 [.int .i64 (j:Int)] rfl rfl (zao _ _ _ (by simp)) (by simp[Value.oneCell']) (by unfold maxLen;omega) (by omega) (by simp;omega) ?_;intro v9 w9 o9 g9 _)
     go_roundw
     case rel=>exact HG.out _ _ _ (laterN _ _) o9 g9
     case measure=>simp[intOf];omega
   | false =>
    cases set with
    | true =>
     go_wp2_with fail
     go_quiet (fail)
     go_wp2_with fail
     go_roundw
     case rel=>exact HS.out _ (laterN _ _)
     case measure=>simp[intOf];omega
    | false =>
     go_wp2_with fail
     go_quiet (fail)
     go_wp2_with fail
     go_roundw
     case rel=>exact HS.out _ (laterN _ _)
     case measure=>simp[intOf];omega
  ·have i1:¬ (j:Int)<(N:Int):=by omega
   have i2:decide ((j:Int)<(N:Int))=false:=decide_eq_false i1;have HZ:=HQ.out wr rv l.length (l1.trans lr) (by omega) (HV.out wr l rv (l1.trans lr) ho HL.out);subst hra;clear HL ho HA HX;go_wp2_with fail
   exact HZ
end Go.Proofs.YtgholpilmdebmaaGreatDoor
namespace Go.Proofs.YtgholpilmdebmaaGreatDoor
open Go.RowKit
theorem sfl_any (n:Int) (w:World) :
  Calls Tryz.prog 114 #[.int .i64 n] w fun e w'=>∃ b,e=.returned (.float .f64 b)∧b<18446744073709551616∧Later w w':=by
 rcases h:nanB (fb n)
 ·refine (sfloat_num n h w).mono ?_;rintro e w' ⟨rfl,rfl⟩;exact⟨_,rfl,fb_lt n,Later.refl _⟩
 ·refine (sfloat_nan n h w).mono ?_;rintro e w' ⟨rfl,rfl⟩;exact⟨_,rfl,nanOf_lt _ _ _,Later.drew _⟩
theorem arW_later (op:BinOp) (x y:Nat) (w:World):Later w (arW op x y w):=by
 unfold arW;split
 ·exact Later.refl _
 ·exact Later.drew _
theorem arN_lt (op:BinOp) (x y:Nat) (w:World):arN op x y w<18446744073709551616:=by
 unfold arN;split
 ·rename_i r h
  have:=floatBits_wf h;simpa[Lit.wf] using this
 ·exact nanOf_lt _ _ _
theorem run_ar_quo (x y:Nat) (w:World):(binOp .quo 98 (.float .f64 x) (.float .f64 y)).run Tryz.prog w=.ok (.float .f64 (arN .quo x y w)) (arW .quo x y w):=run_ar .quo (.inr (.inr (.inr rfl))) 98 x y w
theorem floatOfInt_lt (n:Int):floatOfInt .f64 n<18446744073709551616:=by
 have:=floatOfInt_wf .f64 n;simpa[Lit.wf] using this
theorem sfromint_any (n:Int) (w:World):Calls Tryz.prog 127 #[.int .i64 n] w fun e w'=>e=.returned (.int .i64 (cb (floatOfInt .f64 n)))∧w'=w:=by
 go_enter Tryz.func127,Tryz.ntmps127;go_wp2_with (go_at_call 113;refine (zch _ (floatOfInt_lt _) _).mono ?_;rintro e w' ⟨rfl,rfl⟩)
 go_ret;exact⟨rfl,rfl⟩
theorem wrap64_inR (n:Int):InR (wrap64 n):=by unfold InR wrap64;omega
theorem cb_inR (b:Nat):InR (cb b):=by
 unfold cb;split
 ·unfold InR;omega
 ·exact wrap64_inR _
theorem pick15_at {B K:Nat}{a:Option Addr}{len cap:Nat}{w0 w:World}(h:At B K a len cap w0 w) :
  Calls Tryz.prog 112 #[.pointer (some ⟨K,0,none⟩),.slice (some ⟨w.heap.size,0,none⟩) 15 15] (w.alloc (.cells #[.int .i64 0,.int .i64 (-9223372036854775808),.int .i64 1,.int .i64 (-9223372036854775807),.int .i64 9218868437227405312,.int .i64 (-4503599627370496),.int .i64 9221120237041090561,.int .i64 9221120237041090560,.int .i64 (-1),.int .i64 9218868437227405311,.int .i64 4503599627370496,.int .i64 4890909195324358656,.int .i64 (-4332462841530417152),.int .i64 4602678819172646912,.int .i64 4890909195324358655] 3)) fun e w'=>∃ v:Int,e=.returned (.int .i64 v)∧InR v∧At B K a len cap w0 w' :=
 pick_at h _ 15 rfl (by decide) (by decide) (by decide +kernel)
theorem lbits_at {B K:Nat}{a:Option Addr}{len cap:Nat}{w0 w:World}(h:At B K a len cap w0 w) :
  Calls Tryz.prog 115 #[.pointer (some ⟨K,0,none⟩)] w fun e w'=>∃ v:Int,e=.returned (.int .i64 v)∧InR v∧At B K a len cap w0 w':=by
 have r4:=run_ar_quo;go_enter Tryz.func115,Tryz.ntmps115;go_wp2_with (first|(go_at_call 39;refine (zcd (by assumption) _ (by decide) (by decide)).mono ?_;rintro e w1 ⟨v,rfl,v0,v1,hc1⟩)|(go_at_call 112;refine (pick15_at (by assumption)).mono ?_;rintro e w2 ⟨v2,rfl,hv2,hc2⟩)|(go_at_call 128;refine (int_at (by assumption)).mono ?_;rintro e w2 ⟨v2,rfl,hv2,hc2⟩)|(go_at_call 127;refine (sfromint_any _ _).mono ?_;rintro e w3 ⟨rfl,rfl⟩)|(go_at_call 113;refine (zch _ (arN_lt _ _ _ _) _).mono ?_;rintro e w3 ⟨rfl,rfl⟩))
 ·go_ret;exact⟨_,rfl,hv2,hc2⟩
 ·go_ret;exact⟨_,rfl,cb_inR _,hc1⟩
 ·go_ret;exact⟨_,rfl,cb_inR _,At.later hc1 (arW_later _ _ _ _)⟩
 ·go_ret;exact⟨_,rfl,hv2,hc2⟩
 ·go_ret;exact⟨_,rfl,cb_inR _,At.later hc1 (arW_later _ _ _ _)⟩
end Go.Proofs.YtgholpilmdebmaaGreatDoor
namespace Go.Proofs.YtgholpilmdebmaaGreatDoor
open Go.RowKit Go.Maps
theorem zaw:Enters Tryz.prog 39:=zai Tryz.func39 (by kernel_rfl) (by kernel_rfl)
theorem en_once:Enters Tryz.prog 23:=zai Tryz.func23 (by kernel_rfl) (by kernel_rfl)
theorem zcy:Enters Tryz.prog 44:=zai Tryz.func44 (by kernel_rfl) (by kernel_rfl)
theorem zcf:Enters Tryz.prog 61:=zai Tryz.func61 (by kernel_rfl) (by kernel_rfl)
theorem en_var:Enters Tryz.prog 90:=zai Tryz.func90 (by kernel_rfl) (by kernel_rfl)
def CallR (c:Dx) (v:Gv) (g:GS) (w:World) (P:World→Value→Prop) (u:Value) (w':World):Prop:=∃ g',Stp g w g' w'∧Gs c g' w' v∧P (mask g' w') u
theorem AnsP.call {c:Dx}{v:Gv}{g:GS}{w w1:World}{P:World→Value→Prop}{f:FuncId}{xs:Array Value}(l:Later w w1) (h:Calls Tryz.prog f xs w1 (AnsP c v g w1 P)):Calls Tryz.prog f xs w1 fun e w'=>∃ u,e=.returned u∧CallR c v g w P u w':=by
 refine h.mono ?_;rintro e w' ⟨u,rfl,g',s,k,p⟩;exact⟨u,rfl,g',((Stp.refl g w).later l).trans s,k,p⟩
structure Fx (c:Dx) (v:Gv) (g:GS) (w:World) (T R:Nat) (tk tn:Int) (g1:GS) (w1:World):Prop where
 ec:Ec c v g w g1 w1
 bt:Lb c g1 w1 T [.int .i64 tk,.int .i64 tn]
 br:Lb c g1 w1 R [.int .i64 0,.int .i64 0,.int .i64 0,.int .i64 0,.slice none 0 0,.slice none 0 0]
 ne:T≠R
 ht:w.heap.size≤T
 hr:w.heap.size≤R
theorem Fx.later {c:Dx}{v:Gv}{g g1:GS}{w w1:World}{T R:Nat}{tk tn:Int}{w2:World}(h:Fx c v g w T R tk tn g1 w1) (l:Later w1 w2):Fx c v g w T R tk tn g1 w2:=⟨h.ec.later l,h.bt.later l,h.br.later l,h.ne,h.ht,h.hr⟩
theorem Fx.call {c:Dx}{v:Gv}{g g1:GS}{w w1:World}{T R:Nat}{tk tn:Int}{g2:GS}{w2:World}(h:Fx c v g w T R tk tn g1 w1) (s:Stp g1 w1 g2 w2) (k:Gs c g2 w2 v):Fx c v g w T R tk tn g2 w2:=⟨h.ec.call s k,h.bt.stp s,h.br.stp s,h.ne,h.ht,h.hr⟩
theorem Fx.S {c:Dx}{v:Gv}{g g1:GS}{w w1:World}{T R:Nat}{tk tn:Int}(h:Fx c v g w T R tk tn g1 w1):w1.cell? ⟨T,0,none⟩=some (.int .i64 tk)∧w1.cell? ⟨T,1,none⟩=some (.int .i64 tn)∧w1.cell? ⟨c.G,0,none⟩=some (.pointer (some ⟨c.K,0,none⟩)):=by
 obtain⟨nx,lf,c0,_⟩:=h.ec.gs.ten;exact⟨(h.bt.bx.cell 0 _ rfl).1,(h.bt.bx.cell 1 _ rfl).1,c0⟩
theorem Fx.S6 {c:Dx}{v:Gv}{g g1:GS}{w w1:World}{T R:Nat}{tk tn:Int}(h:Fx c v g w T R tk tn g1 w1) (v0 v1 v2 v3 v4 v5:Value):((((((w1.setCell ⟨R,0,none⟩ v0).setCell ⟨R,1,none⟩ v1).setCell ⟨R,2,none⟩ v2).setCell ⟨R,3,none⟩ v3).setCell ⟨R,4,none⟩ v4).setCell ⟨R,5,none⟩ v5).cell? ⟨T,0,none⟩=some (.int .i64 tk)∧((((((w1.setCell ⟨R,0,none⟩ v0).setCell ⟨R,1,none⟩ v1).setCell ⟨R,2,none⟩ v2).setCell ⟨R,3,none⟩ v3).setCell ⟨R,4,none⟩ v4).setCell ⟨R,5,none⟩ v5).cell? ⟨T,1,none⟩=some (.int .i64 tn)∧((((((w1.setCell ⟨R,0,none⟩ v0).setCell ⟨R,1,none⟩ v1).setCell ⟨R,2,none⟩ v2).setCell ⟨R,3,none⟩ v3).setCell ⟨R,4,none⟩ v4).setCell ⟨R,5,none⟩ v5).cell? ⟨c.G,0,none⟩=some (.pointer (some ⟨c.K,0,none⟩)):=by
 obtain⟨W,hW,oW,bW,_⟩:=pu6 h.br.bx v0 v1 v2 v3 v4 v5;rw[←hW.out];have t3:=(h.bt.only oW h.ne).bx;obtain⟨nx,lf,c0,_⟩:=(h.ec.gs.own oW h.br.s h.br.d h.br.hi).ten;exact⟨(t3.cell 0 _ rfl).1,(t3.cell 1 _ rfl).1,c0⟩
theorem Fx.S7 {c:Dx}{v:Gv}{g g1:GS}{w w1:World}{T R:Nat}{tk tn:Int}(h:Fx c v g w T R tk tn g1 w1) (o:Obj) (v0 v1 v2 v3 v4 v5:Value):(((((((w1.setCell ⟨R,0,none⟩ v0).setCell ⟨R,1,none⟩ v1).setCell ⟨R,2,none⟩ v2).setCell ⟨R,3,none⟩ v3).setCell ⟨R,4,none⟩ v4).setCell ⟨R,5,none⟩ v5).alloc o).cell? ⟨T,0,none⟩=some (.int .i64 tk)∧(((((((w1.setCell ⟨R,0,none⟩ v0).setCell ⟨R,1,none⟩ v1).setCell ⟨R,2,none⟩ v2).setCell ⟨R,3,none⟩ v3).setCell ⟨R,4,none⟩ v4).setCell ⟨R,5,none⟩ v5).alloc o).cell? ⟨T,1,none⟩=some (.int .i64 tn)∧(((((((w1.setCell ⟨R,0,none⟩ v0).setCell ⟨R,1,none⟩ v1).setCell ⟨R,2,none⟩ v2).setCell ⟨R,3,none⟩ v3).setCell ⟨R,4,none⟩ v4).setCell ⟨R,5,none⟩ v5).alloc o).cell? ⟨c.G,0,none⟩=some (.pointer (some ⟨c.K,0,none⟩)):=by
 obtain⟨W,hW,oW,bW,_⟩:=pu6 h.br.bx v0 v1 v2 v3 v4 v5;rw[←hW.out];have t3:=(h.bt.only oW h.ne).bx.later (later1 W o);obtain⟨nx,lf,c0,_⟩:=((h.ec.gs.own oW h.br.s h.br.d h.br.hi).later (later1 W o)).ten;exact⟨(t3.cell 0 _ rfl).1,(t3.cell 1 _ rfl).1,c0⟩
theorem Fx.below {c:Dx}{v:Gv}{g g1:GS}{w w1:World}{T R:Nat}{tk tn:Int}(h:Fx c v g w T R tk tn g1 w1) (n:Int) (h0:0<n) (h1:n≤2147483647):Hid (∀ w',Later w1 w'→Calls Tryz.prog 39 #[.pointer (some ⟨c.K,0,none⟩),.int .i64 n] w' fun e w2=>∃ u,e=.returned u∧CallR c v g1 w1 (IntV 0 n) u w2):=fun _ l=>AnsP.call l (zal (h.ec.gs.later l) n h0 h1)
theorem Fx.once {c:Dx}{v:Gv}{g g1:GS}{w w1:World}{T R:Nat}{tk tn:Int}(h:Fx c v g w T R tk tn g1 w1) (n:Int) (h0:0<n) (h1:n≤2147483647):Hid (∀ w',Later w1 w'→Calls Tryz.prog 23 #[.pointer (some ⟨c.K,0,none⟩),.int .i64 n] w' fun e w2=>∃ u,e=.returned u∧CallR c v g1 w1 (fun _ u=>∃ b:Bool,u=.bool b) u w2):=fun _ l=>AnsP.call l (zce (h.ec.gs.later l) n h0 h1)
theorem Gs.boxes {c:Dx}{g:GS}{w:World}{v:Gv}(h:Gs c g w v) (tk tn:Int):∃ w1,Hid (w1=(w.alloc (.cells #[.int .i64 tk,.int .i64 tn] 67)).alloc (.cells #[.int .i64 0,.int .i64 0,.int .i64 0,.int .i64 0,.slice none 0 0,.slice none 0 0] 89))∧Fx c v g w w.heap.size (w.heap.size+1) tk tn g w1∧Hid (w1.heap.size=w.heap.size+1+1):=by
 have a1:=Lb.new h [.int .i64 tk,.int .i64 tn] 67;have h1:=(Ec.start h).later (later1 w (.cells [.int .i64 tk,.int .i64 tn].toArray 67));have a2:=Lb.new h1.gs [.int .i64 0,.int .i64 0,.int .i64 0,.int .i64 0,.slice none 0 0,.slice none 0 0] 89;rw[World.size_alloc]at a2;exact⟨_,rfl,⟨h1.later (later1 _ _),a1.later (later1 _ _),a2,by omega,Nat.le_refl _,Nat.le_succ _⟩,by rw[World.size_alloc,World.size_alloc];exact rfl⟩
theorem pickP {B K:Nat}{a:Option Addr}{len cap:Nat}{w0 w:World}(h:At B K a len cap w0 w) :
  Calls Tryz.prog 112 #[.pointer (some ⟨K,0,none⟩),.slice (some ⟨w.heap.size,0,none⟩) 10 10] (w.alloc (.cells #[.int .i64 0,.int .i64 1,.int .i64 2,.int .i64 3,.int .i64 5,.int .i64 (-1),.int .i64 9223372036854775807,.int .i64 (-9223372036854775808),.int .i64 7,.int .i64 100] 3)) fun e w'=>∃ v:Int,e=.returned (.int .i64 v)∧InR v∧At B K a len cap w0 w' :=
 pick_at h _ 10 rfl (by decide) (by decide) (by decide +kernel)
theorem Gs.at {c:Dx}{g:GS}{w w':World}{v:Gv}(h:Gs c g w v) (a:At c.B c.K c.a c.len c.cap w w'):Stp g w g w'∧Gs c g w' v:=⟨(Stp.refl g w).only a.only (.inr h.dK),h.curs a.only a.cur⟩
theorem plain_int {c:Dx}{g:GS}{w:World}{v:Gv}(h:Gs c g w v) (tn:Int):Calls Tryz.prog 91 #[.pointer (some ⟨c.G,0,none⟩),.agg #[.int .i64 1,.int .i64 tn]] w (AnsP c v g w ExV):=by
 obtain⟨w1,hw1,x1,hs1⟩:=h.boxes 1 tn;obtain⟨nx,lf,c0,_,_,_,_,_,_,_,_,_,_,hG⟩:=h.ten;have HP:=pickP (At.start x1.ec.gs.cur);rw[hs1.out]at HP;have H1:Hid (Fx c v g w w.heap.size (w.heap.size+1) 1 tn g w1):=x1
 generalize hQ:AnsP c v g w ExV=Q
 clear x1 h;go_enter Tryz.func91,Tryz.ntmps91;go_wp2_with fail
 rw[←hw1.out];clear hw1 c0 hG;refine HP.mono ?_;rintro e w2 ⟨z,rfl,hz,a2⟩;obtain⟨s2,k2⟩:=H1.out.ec.gs.at a2;have x2:=H1.out.call s2 k2;go_wp2_with fail
 refine (zbu z w2).mono ?_;rintro e w3 ⟨rfl,l3⟩;have x3:=x2.later l3;obtain⟨⟨⟨qa0,f0⟩,⟨qa1,f1⟩,⟨qa2,f2⟩,⟨qa3,f3⟩,⟨qa4,f4⟩,⟨qa5,f5⟩⟩,qal⟩:=x3.br.bx.c6;obtain⟨W,hW,bW,HW⟩:=x3.ec.fin x3.br x3.hr (k:=0) (n:=z) (tk:=0) (tn:=0) ⟨NmS.nil _,KsS.nil _,hz⟩;rw[hQ]at HW;obtain⟨⟨⟨e0,_⟩,⟨e1,_⟩,⟨e2,_⟩,⟨e3,_⟩,⟨e4,_⟩,⟨e5,_⟩⟩,_⟩:=bW.c6;clear x3 x2 H1 HP hQ bW;go_wp2_with fail
 rw[←hW.out];exact bodyPost_ret (v:=.agg #[.int .i64 0,.int .i64 z,.int .i64 0,.int .i64 0,.slice none 0 0,.slice none 0 0]) (by simp[results,Tryz.results91,go_sem,e0,e1,e2,e3,e4,e5]) rfl HW.out
theorem plain_float {c:Dx}{g:GS}{w:World}{v:Gv}(h:Gs c g w v) (tn:Int):Calls Tryz.prog 91 #[.pointer (some ⟨c.G,0,none⟩),.agg #[.int .i64 2,.int .i64 tn]] w (AnsP c v g w ExV):=by
 obtain⟨w1,hw1,x1,hs1⟩:=h.boxes 2 tn;obtain⟨nx,lf,c0,_,_,_,_,_,_,_,_,_,_,hG⟩:=h.ten;have HP:=lbits_at (At.start x1.ec.gs.cur);have H1:Hid (Fx c v g w w.heap.size (w.heap.size+1) 2 tn g w1):=x1
 generalize hQ:AnsP c v g w ExV=Q
 clear x1 h;go_enter Tryz.func91,Tryz.ntmps91;go_wp2_with fail
 rw[←hw1.out];clear hw1 c0 hG;refine HP.mono ?_;rintro e w2 ⟨z0,rfl,_,a2⟩;obtain⟨s2,k2⟩:=H1.out.ec.gs.at a2;have x2:=H1.out.call s2 k2;go_wp2_with fail
 refine (sfl_any z0 w2).mono ?_;rintro e w3 ⟨b,rfl,hb,l3⟩;have x3:=x2.later l3;go_wp2_with fail
 refine (zch b hb w3).mono ?_;rintro e w4 ⟨rfl,hw⟩;subst hw;have hz:=cb_inR b
 generalize cb b=z at *
 obtain⟨⟨⟨qa0,f0⟩,⟨qa1,f1⟩,⟨qa2,f2⟩,⟨qa3,f3⟩,⟨qa4,f4⟩,⟨qa5,f5⟩⟩,qal⟩:=x3.br.bx.c6;obtain⟨W,hW,bW,HW⟩:=x3.ec.fin x3.br x3.hr (k:=1) (n:=z) (tk:=0) (tn:=0) ⟨NmS.nil _,KsS.nil _,hz⟩;rw[hQ]at HW;obtain⟨⟨⟨e0,_⟩,⟨e1,_⟩,⟨e2,_⟩,⟨e3,_⟩,⟨e4,_⟩,⟨e5,_⟩⟩,_⟩:=bW.c6;clear x3 x2 H1 HP hQ bW;go_wp2_with fail
 rw[←hW.out];exact bodyPost_ret (v:=.agg #[.int .i64 1,.int .i64 z,.int .i64 0,.int .i64 0,.slice none 0 0,.slice none 0 0]) (by simp[results,Tryz.results91,go_sem,e0,e1,e2,e3,e4,e5]) rfl HW.out
theorem plain_ptr {c:Dx}{g:GS}{w:World}{v:Gv}(h:Gs c g w v) (tn:Int) (hn:InR tn):Calls Tryz.prog 91 #[.pointer (some ⟨c.G,0,none⟩),.agg #[.int .i64 3,.int .i64 tn]] w (AnsP c v g w ExV):=by
 obtain⟨w1,hw1,x1,hs1⟩:=h.boxes 3 tn;obtain⟨nx,lf,c0,_,_,_,_,_,_,_,_,_,_,hG⟩:=h.ten;have HP:=zce x1.ec.gs 3 (by decide) (by decide);have H1:Hid (Fx c v g w w.heap.size (w.heap.size+1) 3 tn g w1):=x1
 generalize hQ:AnsP c v g w ExV=Q
 clear x1 h;go_enter Tryz.func91,Tryz.ntmps91;go_wp2_with fail
 rw[←hw1.out];clear hw1 c0 hG;refine HP.mono ?_;rintro e w2 ⟨_,rfl,g2,s2,k2,b,rfl⟩;have x3:=H1.out.call s2 k2;obtain⟨t0,t1,_⟩:=x3.S;obtain⟨⟨⟨qa0,f0⟩,⟨qa1,f1⟩,⟨qa2,f2⟩,⟨qa3,f3⟩,⟨qa4,f4⟩,⟨qa5,f5⟩⟩,qal⟩:=x3.br.bx.c6
 cases b with
 | true =>
  obtain⟨W,hW,bW,HW⟩:=x3.ec.fin x3.br x3.hr (k:=2) (n:=tn) (tk:=0) (tn:=0) ⟨NmS.nil _,KsS.nil _,hn⟩;rw[hQ]at HW;obtain⟨⟨⟨e0,_⟩,⟨e1,_⟩,⟨e2,_⟩,⟨e3,_⟩,⟨e4,_⟩,⟨e5,_⟩⟩,_⟩:=bW.c6;clear x3 H1 HP hQ bW;go_wp2_with fail
  rw[←hW.out];exact bodyPost_ret (v:=.agg #[.int .i64 2,.int .i64 tn,.int .i64 0,.int .i64 0,.slice none 0 0,.slice none 0 0]) (by simp[results,Tryz.results91,go_sem,e0,e1,e2,e3,e4,e5]) rfl HW.out
 | false =>
  obtain⟨W,hW,bW,HW⟩:=x3.ec.fin x3.br x3.hr (k:=4) (n:=tn) (tk:=0) (tn:=0) ⟨NmS.nil _,KsS.nil _,hn⟩;rw[hQ]at HW;obtain⟨⟨⟨e0,_⟩,⟨e1,_⟩,⟨e2,_⟩,⟨e3,_⟩,⟨e4,_⟩,⟨e5,_⟩⟩,_⟩:=bW.c6;clear x3 H1 HP hQ bW;go_wp2_with fail
  rw[←hW.out];exact bodyPost_ret (v:=.agg #[.int .i64 4,.int .i64 tn,.int .i64 0,.int .i64 0,.slice none 0 0,.slice none 0 0]) (by simp[results,Tryz.results91,go_sem,e0,e1,e2,e3,e4,e5]) rfl HW.out
theorem plain_make {c:Dx}{g:GS}{w:World}{v:Gv}(h:Gs c g w v) (tk tn:Int) (h1:tk≠1) (h2:tk≠2) (h3:tk≠3):Calls Tryz.prog 91 #[.pointer (some ⟨c.G,0,none⟩),.agg #[.int .i64 tk,.int .i64 tn]] w (AnsP c v g w ExV):=by
 obtain⟨w1,hw1,x1,hs1⟩:=h.boxes tk tn;have h1':(tk==1)=false:=by simpa using h1
 have h2':(tk==2)=false:=by simpa using h2
 have h3':(tk==3)=false:=by simpa using h3
 have HB:=x1.below 6 (by decide) (by decide);have H1:Hid (Fx c v g w w.heap.size (w.heap.size+1) tk tn g w1):=x1
 generalize hQ:AnsP c v g w ExV=Q
 clear x1 h;go_enter Tryz.func91,Tryz.ntmps91;go_upto_region 10 with fail
 rw[←hw1.out];clear hw1;obtain⟨t0,t1,d0⟩:=H1.out.S;clear hs1
 generalize w.heap.size+1=R at *
 generalize w.heap.size=T at *
 have K0:Hid (w1.drew.cell? ⟨T,0,none⟩=some (.int .i64 tk)∧w1.drew.cell? ⟨T,1,none⟩=some (.int .i64 tn)∧w1.drew.cell? ⟨c.G,0,none⟩=some (.pointer (some ⟨c.K,0,none⟩))):=(H1.out.later (Later.drew _)).S
 go_region_held3 (fun w'=>w'.cell? ⟨T,0,none⟩=some (.int .i64 tk)∧w'.cell? ⟨T,1,none⟩=some (.int .i64 tn)∧w'.cell? ⟨c.G,0,none⟩=some (.pointer (some ⟨c.K,0,none⟩))) (first|with_reducible exact K0.out|with_reducible exact K2.out|with_reducible exact K3.out|with_reducible exact K4.out _|with_reducible exact K5.out _ _ _ _ _ _ _) (first
  | (refine zaa rfl 39 zaw _ _ rfl [.pointer (some ⟨c.K,0,none⟩),.int .i64 6] rfl _ (HB.out _ (Later.drew _)) ?_;rintro u2 w2 ⟨g2,s2,k2,z,rfl,hz⟩;have x2:=H1.out.call s2 k2;have K2:Hid _:=x2.S)
  | (refine zaa rfl 44 zcy _ _ rfl [.int .i64 z] rfl (fun v w'=>v=.agg #[.int .i64 0,.int .i64 z,.int .i64 0,.int .i64 0,.slice none 0 0,.slice none 0 0]∧Later w2 w') ((zbu z w2).mono (fun e w' q=>⟨_,q.1,rfl,q.2⟩)) ?_;rintro u3 w3 ⟨rfl,l3⟩;have x3:=x2.later l3;obtain⟨⟨⟨qa0,f0⟩,⟨qa1,f1⟩,⟨qa2,f2⟩,⟨qa3,f3⟩,⟨qa4,f4⟩,⟨qa5,f5⟩⟩,qal⟩:=x3.br.bx.c6;have K3:Hid _:=x3.S;have K4:Hid (∀ o:Obj,(w3.alloc o).cell? ⟨T,0,none⟩=some (.int .i64 tk)∧(w3.alloc o).cell? ⟨T,1,none⟩=some (.int .i64 tn)∧(w3.alloc o).cell? ⟨c.G,0,none⟩=some (.pointer (some ⟨c.K,0,none⟩))):=fun o=>(x3.later (later1 _ o)).S;have K5:Hid _:=x3.S7))
 obtain⟨W,hW,bW,HW⟩:=x3.ec.fin1 x3.br x3.hr (k:=5) (n:=0) (tk:=tk) (tn:=tn) (by unfold InR;omega) (NmS.nil _) (k1:=0) (n1:=z) (tk1:=0) (tn1:=0) ⟨NmS.nil _,KsS.nil _,by unfold InR;omega⟩;rw[hQ]at HW;obtain⟨⟨⟨e0,_⟩,⟨e1,_⟩,⟨e2,_⟩,⟨e3,_⟩,⟨e4,_⟩,⟨e5,_⟩⟩,_⟩:=bW.c6;clear K0 K2 K3 K4 K5 x2 x3 H1 hQ bW HB;go_wp2_with fail
 rw[←hW.out];exact bodyPost_ret (v:=.agg #[.int .i64 5,.int .i64 0,.int .i64 tk,.int .i64 tn,.slice none 0 0,.slice (some ⟨w3.heap.size,0,none⟩) 1 1]) (by simp[results,Tryz.results91,go_sem,e0,e1,e2,e3,e4,e5]) rfl HW.out
theorem plain_any {c:Dx}{g:GS}{w:World}{v:Gv}(h:Gs c g w v) (tk tn:Int) (hn:InR tn):Calls Tryz.prog 91 #[.pointer (some ⟨c.G,0,none⟩),.agg #[.int .i64 tk,.int .i64 tn]] w (AnsP c v g w ExV):=by
 by_cases h1:tk=1
 ·subst h1;exact plain_int h tn
 ·by_cases h2:tk=2
  ·subst h2;exact plain_float h tn
  ·by_cases h3:tk=3
   ·subst h3;exact plain_ptr h tn hn
   ·exact plain_make h tk tn h1 h2 h3
theorem Gs.setN {c:Dx}{g:GS}{w:World}{v:Gv}(h:Gs c g w v) (x:Int):Gs c g (w.setCell ⟨c.G,7,none⟩ (.int .i64 x)) v∧Stp g w g (w.setCell ⟨c.G,7,none⟩ (.int .i64 x)):=by
 have hkg:=h.kg;obtain⟨nx,lf,hx⟩:=h.box;have o:=(OnlyK.refl c.G w).set 7 (.int .i64 x);have hk:=h.cur.hK;have hB:=h.cur.hB;refine⟨h.turn o.size (fun b hb q=>o.block b hb fun e=>by subst e;rcases q with q|q;(exact h.ok.a _ q h.dG);omega) ?_ ⟨nx,x,hx.set 7 _ (by simp)⟩,(Stp.refl g w).only o (.inr h.dG)⟩;have hn:c.K≠c.G:=by omega
 refine⟨?_,?_,?_,?_,?_,hB,Nat.lt_of_lt_of_le hk o.size,h.cur.hl,fun j hj=>?_⟩
 ·rw[World.cell?_of_block (o.block c.K hk hn)];exact h.cur.c0
 ·rw[World.cell?_of_block (o.block c.K hk hn)];exact h.cur.c1
 ·rw[World.cell?_of_block (o.block c.K hk hn)];exact h.cur.c2
 ·rw[World.frozen?_of_block (o.block c.K hk hn)];exact h.cur.f1
 ·rw[World.frozen?_of_block (o.block c.K hk hn)];exact h.cur.f2
 ·obtain⟨bx,off,u,e1,e2,e3,e4⟩:=h.cur.bs j hj;exact⟨bx,off,u,e1,e2,by rw[World.cell?_of_block (o.block bx (by omega) (show bx≠c.G by omega))];exact e3,e4⟩
theorem zax:Enters Tryz.prog 60:=zai Tryz.func60 (by kernel_rfl) (by kernel_rfl)
structure Fy (c:Dx) (v:Gv) (g:GS) (w:World) (T R:Nat) (tk tn:Int) (xs:List (Nat × Int × Int)) (g1:GS) (w1:World):Prop where
 fx:Fx c v g w T R tk tn g1 w1
 ex:∀ p∈xs,Lb c g1 w1 p.1 [.int .i64 p.2.1,.int .i64 p.2.2]∧p.1≠R
theorem Fy.later {c:Dx}{v:Gv}{g g1:GS}{w w1:World}{T R:Nat}{tk tn:Int}{xs:List (Nat × Int × Int)}{w2:World}(h:Fy c v g w T R tk tn xs g1 w1) (l:Later w1 w2):Fy c v g w T R tk tn xs g1 w2:=⟨h.fx.later l,fun p q=>⟨(h.ex p q).1.later l,(h.ex p q).2⟩⟩
theorem Fy.call {c:Dx}{v:Gv}{g g1:GS}{w w1:World}{T R:Nat}{tk tn:Int}{xs:List (Nat × Int × Int)}{g2:GS}{w2:World}(h:Fy c v g w T R tk tn xs g1 w1) (s:Stp g1 w1 g2 w2) (k:Gs c g2 w2 v):Fy c v g w T R tk tn xs g2 w2:=⟨h.fx.call s k,fun p q=>⟨(h.ex p q).1.stp s,(h.ex p q).2⟩⟩
theorem Fy.c {c:Dx}{v:Gv}{g g1:GS}{w w1:World}{T R:Nat}{tk tn:Int}{xs:List (Nat × Int × Int)}(h:Fy c v g w T R tk tn xs g1 w1) {b:Nat}{k n:Int}(hp:(b,k,n)∈xs):w1.cell? ⟨b,0,none⟩=some (.int .i64 k)∧w1.cell? ⟨b,1,none⟩=some (.int .i64 n):=by
 have z:=(h.ex _ hp).1.bx;exact⟨(z.cell 0 _ rfl).1,(z.cell 1 _ rfl).1⟩
theorem Fy.c6 {c:Dx}{v:Gv}{g g1:GS}{w w1:World}{T R:Nat}{tk tn:Int}{xs:List (Nat × Int × Int)}(h:Fy c v g w T R tk tn xs g1 w1) {b:Nat}{k n:Int}(hp:(b,k,n)∈xs) (v0 v1 v2 v3 v4 v5:Value):((((((w1.setCell ⟨R,0,none⟩ v0).setCell ⟨R,1,none⟩ v1).setCell ⟨R,2,none⟩ v2).setCell ⟨R,3,none⟩ v3).setCell ⟨R,4,none⟩ v4).setCell ⟨R,5,none⟩ v5).cell? ⟨b,0,none⟩=some (.int .i64 k)∧((((((w1.setCell ⟨R,0,none⟩ v0).setCell ⟨R,1,none⟩ v1).setCell ⟨R,2,none⟩ v2).setCell ⟨R,3,none⟩ v3).setCell ⟨R,4,none⟩ v4).setCell ⟨R,5,none⟩ v5).cell? ⟨b,1,none⟩=some (.int .i64 n):=by
 obtain⟨W,hW,oW,bW,_⟩:=pu6 h.fx.br.bx v0 v1 v2 v3 v4 v5;rw[←hW.out];have z:=((h.ex _ hp).1.only oW (h.ex _ hp).2).bx;exact⟨(z.cell 0 _ rfl).1,(z.cell 1 _ rfl).1⟩
theorem Fy.c7 {c:Dx}{v:Gv}{g g1:GS}{w w1:World}{T R:Nat}{tk tn:Int}{xs:List (Nat × Int × Int)}(h:Fy c v g w T R tk tn xs g1 w1) {b:Nat}{k n:Int}(hp:(b,k,n)∈xs) (o:Obj) (v0 v1 v2 v3 v4 v5:Value):(((((((w1.setCell ⟨R,0,none⟩ v0).setCell ⟨R,1,none⟩ v1).setCell ⟨R,2,none⟩ v2).setCell ⟨R,3,none⟩ v3).setCell ⟨R,4,none⟩ v4).setCell ⟨R,5,none⟩ v5).alloc o).cell? ⟨b,0,none⟩=some (.int .i64 k)∧(((((((w1.setCell ⟨R,0,none⟩ v0).setCell ⟨R,1,none⟩ v1).setCell ⟨R,2,none⟩ v2).setCell ⟨R,3,none⟩ v3).setCell ⟨R,4,none⟩ v4).setCell ⟨R,5,none⟩ v5).alloc o).cell? ⟨b,1,none⟩=some (.int .i64 n):=by
 obtain⟨W,hW,oW,bW,_⟩:=pu6 h.fx.br.bx v0 v1 v2 v3 v4 v5;rw[←hW.out];have z:=((h.ex _ hp).1.only oW (h.ex _ hp).2).bx.later (later1 W o);exact⟨(z.cell 0 _ rfl).1,(z.cell 1 _ rfl).1⟩
theorem Fy.new {c:Dx}{v:Gv}{g g1:GS}{w w1:World}{T R:Nat}{tk tn:Int}{xs:List (Nat × Int × Int)}(h:Fy c v g w T R tk tn xs g1 w1) (k n:Int) {b:Nat}(hb:w1.heap.size=b):Fy c v g w T R tk tn ((b,k,n)::xs) g1 (w1.alloc (.cells #[.int .i64 k,.int .i64 n] 67)):=by
 subst hb;have hl:=h.fx.br.bx.lt;refine⟨h.fx.later (later1 _ _),fun p q=>?_⟩;rcases List.mem_cons.1 q with rfl|q
 ·exact⟨Lb.new h.fx.ec.gs [.int .i64 k,.int .i64 n] 67,by show w1.heap.size≠R;omega⟩
 ·exact⟨(h.ex p q).1.later (later1 _ _),(h.ex p q).2⟩
theorem Fx.only {c:Dx}{v:Gv}{g g1:GS}{w w1 w2:World}{T R:Nat}{tk tn:Int}(h:Fx c v g w T R tk tn g1 w1) {b:Nat}{cs:List Value}(hb:Lb c g1 w1 b cs) (h0:w.heap.size≤b) (hT:T≠b) (hR:R≠b) (o:OnlyK b w1 w2):Fx c v g w T R tk tn g1 w2:=⟨h.ec.own hb h0 o,h.bt.only o hT,h.br.only o hR,h.ne,h.ht,h.hr⟩
theorem Fy.put {c:Dx}{v:Gv}{g g1:GS}{w w1:World}{T R:Nat}{tk tn:Int}{xs:List (Nat × Int × Int)}{b:Nat}{k n:Int}(h:Fy c v g w T R tk tn ((b,k,n)::xs) g1 w1) (k' n':Int) (h0:w.heap.size≤b) (hT:T≠b) (hx:∀ p∈xs,p.1≠b):Fy c v g w T R tk tn ((b,k',n')::xs) g1 ((w1.setCell ⟨b,0,none⟩ (.int .i64 k')).setCell ⟨b,1,none⟩ (.int .i64 n')):=by
 obtain⟨hb,hR⟩:=h.ex _ (List.mem_cons_self ..);have o:=((OnlyK.refl b w1).set 0 (.int .i64 k')).set 1 (.int .i64 n');refine⟨h.fx.only hb h0 hT (Ne.symm hR) o,fun p q=>?_⟩;rcases List.mem_cons.1 q with rfl|q
 ·exact⟨⟨((hb.bx.set 0 _ (by simp)).set 1 _ (by simp)),hb.s,hb.d,hb.hi⟩,hR⟩
 ·obtain⟨hp,hpR⟩:=h.ex p (List.mem_cons_of_mem _ q);exact⟨hp.only o (hx p q),hpR⟩
theorem lsOf_in {k n:Int}(h:InR n):InR (lsOf k n).2.1:=by
 unfold lsOf;split
 ·exact⟨by decide,by decide⟩
 ·split
  ·exact⟨by decide,by decide⟩
  ·split
   ·exact h
   ·exact⟨by decide,by decide⟩
theorem Fx.G1 {c:Dx}{v:Gv}{g g1:GS}{w w1:World}{T R:Nat}{tk tn:Int}(h:Fx c v g w T R tk tn g1 w1):w1.cell? ⟨c.G,1,none⟩=some v.sv:=by
 obtain⟨nx,lf,_,c1,_⟩:=h.ec.gs.ten;exact c1
theorem Fx.G2 {c:Dx}{v:Gv}{g g1:GS}{w w1:World}{T R:Nat}{tk tn:Int}(h:Fx c v g w T R tk tn g1 w1):w1.cell? ⟨c.G,2,none⟩=some v.fv:=by
 obtain⟨nx,lf,_,_,c2,_⟩:=h.ec.gs.ten;exact c2
theorem Fx.real6 {c:Dx}{v:Gv}{g g1:GS}{w w1:World}{T R:Nat}{tk tn:Int}(h:Fx c v g w T R tk tn g1 w1) {a:Addr}{u:Value}(q:(mask g1 w1).cell? a=some u) (v0 v1 v2 v3 v4 v5:Value):((((((w1.setCell ⟨R,0,none⟩ v0).setCell ⟨R,1,none⟩ v1).setCell ⟨R,2,none⟩ v2).setCell ⟨R,3,none⟩ v3).setCell ⟨R,4,none⟩ v4).setCell ⟨R,5,none⟩ v5).cell? a=some u∧((((((w1.setCell ⟨R,0,none⟩ v0).setCell ⟨R,1,none⟩ v1).setCell ⟨R,2,none⟩ v2).setCell ⟨R,3,none⟩ v3).setCell ⟨R,4,none⟩ v4).setCell ⟨R,5,none⟩ v5).cell? ⟨c.G,1,none⟩=some v.sv:=by
 obtain⟨W,hW,oW,bW,_⟩:=pu6 h.br.bx v0 v1 v2 v3 v4 v5;rw[←hW.out];obtain⟨nx,lf,_,c1,_⟩:=(h.ec.gs.own oW h.br.s h.br.d h.br.hi).ten;exact⟨(Ov.only h.ec.gs.ok oW h.br.s).real q,c1⟩
theorem Fx.real7 {c:Dx}{v:Gv}{g g1:GS}{w w1:World}{T R:Nat}{tk tn:Int}(h:Fx c v g w T R tk tn g1 w1) {a:Addr}{u:Value}(q:(mask g1 w1).cell? a=some u) (o:Obj) (v0 v1 v2 v3 v4 v5:Value):(((((((w1.setCell ⟨R,0,none⟩ v0).setCell ⟨R,1,none⟩ v1).setCell ⟨R,2,none⟩ v2).setCell ⟨R,3,none⟩ v3).setCell ⟨R,4,none⟩ v4).setCell ⟨R,5,none⟩ v5).alloc o).cell? a=some u∧(((((((w1.setCell ⟨R,0,none⟩ v0).setCell ⟨R,1,none⟩ v1).setCell ⟨R,2,none⟩ v2).setCell ⟨R,3,none⟩ v3).setCell ⟨R,4,none⟩ v4).setCell ⟨R,5,none⟩ v5).alloc o).cell? ⟨c.G,1,none⟩=some v.sv:=by
 obtain⟨W,hW,oW,bW,_⟩:=pu6 h.br.bx v0 v1 v2 v3 v4 v5;rw[←hW.out];have k:=h.ec.gs.own oW h.br.s h.br.d h.br.hi;obtain⟨nx,lf,_,c1,_⟩:=(k.later (later1 W o)).ten;exact⟨((Ov.only h.ec.gs.ok oW h.br.s).trans (Ov.later k.ok (later1 W o))).real q,c1⟩
def ExD (d:Int):Prop:=∀ (c:Dx) (g:GS) (w:World) (v:Gv) (tk tn:Int),Gs c g w v→InR tn→Calls Tryz.prog 60 #[.pointer (some ⟨c.G,0,none⟩),.agg #[.int .i64 tk,.int .i64 tn],.int .i64 d] w (AnsP c v g w ExV)
end Go.Proofs.YtgholpilmdebmaaGreatDoor
