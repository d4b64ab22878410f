import Derived.Test.YtmdejbphoafjlaaGreatDoorGb
set_option maxHeartbeats 100000000
set_option maxRecDepth 100000
namespace Go.Proofs.YtmdejbphoafjlaaGreatDoor
open Go.RowKit
theorem Pa.own {w:World}{x:Pa}{u0:Value}{F0:List Nat}(h0:OwnD w (.bytes x.name) [u0] F0):OwnD w x.dat [u0,.int .i64 x.tk,.int .i64 x.tn] (F0):=by
 obtain⟨name,tk,tn⟩:=x
 rw[Pa.dat,OwnD]
 rw[OwnAgg]
 refine⟨[_],_,F0,[],rfl,(List.append_nil _).symm,h0,?_⟩
 rw[OwnAgg]
 refine⟨[_],_,[],_,rfl,(List.nil_append _).symm,by rw[OwnD];exact⟨rfl,rfl⟩,?_⟩
 rw[OwnAgg]
 refine⟨[_],_,[],_,rfl,(List.nil_append _).symm,by rw[OwnD];exact⟨rfl,rfl⟩,?_⟩
 rw[OwnAgg]
 exact⟨rfl,rfl⟩
theorem toPa_any (x:Pa) (v0:Value) (w:World) (h0:RdN w v0 x.name) (hsz:x.sz≤1048576) :
  Calls Tryz.prog 136 #[.agg #[v0,.int .i64 x.tk,.int .i64 x.tn]] w fun e w'=>∃ b0 q0 F,e=.returned (.agg #[.slice b0 x.name.length q0,.int .i64 x.tk,.int .i64 x.tn])∧Own w.heap.size w' x.dat [.slice b0 x.name.length q0,.int .i64 x.tk,.int .i64 x.tn] F∧Later w w':=by
 have HO:Hid (∀ {w':World}{u0:Value}{F0:List Nat},OwnD w' (.bytes x.name) [u0] F0→OwnD w' x.dat [u0,.int .i64 x.tk,.int .i64 x.tn] (F0)):=fun h0=>Pa.own h0
 have hsum:x.sz=x.name.length:=by obtain⟨name,tk,tn⟩:=x;rfl
 obtain⟨a0,p0,rfl,_⟩:=h0.slice
 have hs0:x.name.length≤x.sz:=by rw[hsum];omega
 clear hsum
 generalize x.tk=z_tk at *
 generalize x.tn=z_tn at *
 go_enter Tryz.func136,Tryz.ntmps136
 go_wp2_with fail
 refine (tob_own _ _ _ (by omega) (h0.later (by repeat (first|with_reducible exact Later.refl _|refine Later.setAt ?_ (by omega) _ _|refine Later.alloc ?_ _))).rd).mono ?_
 rintro e w1 ⟨b0,q0,G0,rfl,O0,l1⟩
 have L1:Later w w1:=Later.trans (by repeat (first|with_reducible exact Later.refl _|refine Later.setAt ?_ (by omega) _ _|refine Later.alloc ?_ _)) l1
 have z1:w.heap.size+1+1<w1.heap.size:=by have:=l1.size;simp at this;omega
 have y1:w.heap.size+1<w1.heap.size:=by omega
 have x1:w.heap.size<w1.heap.size:=by omega
 obtain⟨hc1,hf1⟩:=bcell l1
 go_wp2_with fail
 refine (toTy_any _ _ _).mono ?_
 rintro e w2 ⟨rfl,l2⟩
 have L2:Later w w2:=Later.trans (by repeat (first|with_reducible exact L1|refine Later.setAt ?_ (by omega) _ _|refine Later.alloc ?_ _)) l2
 have z2:w.heap.size+1+1<w2.heap.size:=by have:=l2.size;simp at this;omega
 have y2:w.heap.size+1<w2.heap.size:=by omega
 have x2:w.heap.size<w2.heap.size:=by omega
 obtain⟨hc2,hf2⟩:=bcell l2
 have s2:w1.heap.size≤w2.heap.size:=by have:=l2.size;simp at this;omega
 go_wp2_with fail
 refine bodyPost_ret (v:=.agg #[.slice b0 x.name.length q0,.int .i64 z_tk,.int .i64 z_tn]) (by simp[results,Tryz.results136,go_sem,hc1,y1,hc2]) rfl ⟨b0,q0,_,rfl,Own.mk' (HO.out (O0.kept (by repeat (first|with_reducible exact Kept.refl _ _|refine Kept.setAt ?_ (by first|omega|(simp;done)|(simp;omega)) _ _|refine Kept.later ?_ l2)))) (O0.fr.mono (by first|omega|(simp;done)|(simp;omega)) (by first|omega|(simp;done)|(simp;omega))),(by repeat (first|with_reducible exact L2|refine Later.setAt ?_ (by omega) _ _|refine Later.alloc ?_ _))⟩
theorem Tryz.info57:(Tryz.prog.info? 57).map (fun i=>(i.zero,i.size,i.bytes))=some (some (.agg #[.slice none 0 0,.int .i64 0,.int .i64 0]),3,40):=by kernel_rfl
theorem toPas_any (v:Value) (l:List Pa) (w:World) (h:RdL w 3 v (Pa.dats l)) (hM:Pa.szs l≤1048576) :
  Calls Tryz.prog 101 #[v] w fun e w'=>∃ a c F,e=.returned (.slice a l.length c)∧Own w.heap.size w' (.list 3 (Pa.dats l)) [.slice a l.length c] F∧Later w w':=by
 obtain⟨a,cap,rfl,hl⟩:=Pa.slice h
 have hge:=Pa.szs_ge l
 have hln:l.length≤1048576:=by omega
 obtain⟨i0,hi,hz0,hz1,hz2⟩:=info_parts Tryz.info57
 go_enter Tryz.func101,Tryz.ntmps101
 go_wp2_with (at_make;refine wpList_make_full _ rfl _ _ 42 rfl w.heap.size 57 i0 (.agg #[.slice none 0 0,.int .i64 0,.int .i64 0]) 3 Tryz.underlying42 hi hz0 hz1 .i64 .i64 _ _ l.length rfl rfl rfl rfl (by rw[hz2];omega) (by unfold maxLen;omega) (Nat.le_refl _) ?_;intro w1 hown hgr)
 have hlat1:Later w w1:=(Below.refl _ _).grown hgr (Nat.le_refl _) (fun k h=>by cases h)
 have hrow:Row w w1 3 l.length 0 (Pa.dats l) []:=Row.start hown hown.1 hlat1 _
 clear hown hgr hi hz0 hz1 hz2
 go_loopw [4] (fun i wr=>∃ (j:Nat) (F:List Nat),i=.int .i64 (j:Int)∧j≤l.length∧Row w wr 3 l.length j (Pa.dats l) F) (fun i _=>l.length - (intOf i).toNat)
 case atStart=>exact⟨0,[],rfl,Nat.zero_le _,hrow⟩
 case round =>
  obtain⟨k,F,rfl,hk,hR⟩:=hrel
  by_cases hlt:k<l.length
  ·obtain⟨g,off,v0,rfl,hg,c0,c1,c2,r0⟩:=Pa.elem (RdL.later hR.later h) k hlt
   have i1:(k:Int)<(l.length:Int):=by omega
   have hE:=toPa_any l[k] v0 wr r0 (by have:=Pa.sz_at l k hlt;omega)
   have HD:Hid ((Pa.dats l)[k]'(by rw[Pa.dats_len];exact hlt)=l[k].dat):=Pa.dats_at l k hlt _
   clear r0 hrow hlat1
   go_wp2_with fail
   refine hE.mono ?_
   rintro e w2 ⟨b0,q0,G,rfl,hO,l2⟩
   obtain⟨F',hN'⟩:=Row.next hR (by rw[Pa.dats_len];exact hlt) (Pa.dats_len l) rfl (by rw[HD.out];exact hO) l2
   have hlt2:=hR.lt
   have e0:∃ u,w2.cell? ⟨w.heap.size,k*3,none⟩=some u:=by rw[Below.cell l2 (p:=⟨w.heap.size,k*3,none⟩) hlt2];exact (hR.at hlt 0 (by decide)).1
   obtain⟨y0,e0⟩:=e0
   have f0:w2.frozen? ⟨w.heap.size,k*3,none⟩=false:=by rw[Below.frozen l2 (p:=⟨w.heap.size,k*3,none⟩) hlt2];exact (hR.at hlt 0 (by decide)).2
   have e1:∃ u,w2.cell? ⟨w.heap.size,k*3+1,none⟩=some u:=by rw[Below.cell l2 (p:=⟨w.heap.size,k*3+1,none⟩) hlt2];exact (hR.at hlt 1 (by decide)).1
   obtain⟨y1,e1⟩:=e1
   have f1:w2.frozen? ⟨w.heap.size,k*3+1,none⟩=false:=by rw[Below.frozen l2 (p:=⟨w.heap.size,k*3+1,none⟩) hlt2];exact (hR.at hlt 1 (by decide)).2
   have e2:∃ u,w2.cell? ⟨w.heap.size,k*3+2,none⟩=some u:=by rw[Below.cell l2 (p:=⟨w.heap.size,k*3+2,none⟩) hlt2];exact (hR.at hlt 2 (by decide)).1
   obtain⟨y2,e2⟩:=e2
   have f2:w2.frozen? ⟨w.heap.size,k*3+2,none⟩=false:=by rw[Below.frozen l2 (p:=⟨w.heap.size,k*3+2,none⟩) hlt2];exact (hR.at hlt 2 (by decide)).2
   clear hR hO hE h
   go_wp2_with fail
   go_roundw
   case rel=>exact⟨k+1,F',by go_num,by omega,hN'⟩
   case measure=>simp[intOf];omega
  ·have i1:¬ (k:Int)<(l.length:Int):=by omega
   have i2:decide ((k:Int)<(l.length:Int))=false:=decide_eq_false i1
   have hkk:k=l.length:=by omega
   subst hkk
   obtain⟨G,hG⟩:=hR.done (cap:=l.length) (Pa.dats_len l) hln ⟨Nat.le_refl _,by unfold maxLen;omega⟩
   have lr:=hR.later
   clear hR h hrow
   go_wp2_with fail
   go_ret
   exact⟨_,_,rfl,⟨G,hG⟩,lr⟩
theorem Sc.own {w:World}{x:Sc}{u0 u1:Value}{F0 F1:List Nat}(h0:OwnD w (.bytes x.name) [u0] F0) (h1:OwnD w (.list 3 (Pa.dats x.fields)) [u1] F1):OwnD w x.dat [u0,u1] (F0++(F1)):=by
 obtain⟨name,fields⟩:=x
 rw[Sc.dat,OwnD]
 rw[OwnAgg]
 refine⟨[_],_,F0,_,rfl,rfl,h0,?_⟩
 rw[OwnAgg]
 refine⟨[_],_,F1,[],rfl,(List.append_nil _).symm,h1,?_⟩
 rw[OwnAgg]
 exact⟨rfl,rfl⟩
theorem toSc_any (x:Sc) (v0 v1:Value) (w:World) (h0:RdN w v0 x.name) (h1:RdL w 3 v1 (Pa.dats x.fields)) (hsz:x.sz≤1048576) :
  Calls Tryz.prog 55 #[.agg #[v0,v1]] w fun e w'=>∃ b0 q0 b1 q1 F,e=.returned (.agg #[.slice b0 x.name.length q0,.slice b1 x.fields.length q1])∧Own w.heap.size w' x.dat [.slice b0 x.name.length q0,.slice b1 x.fields.length q1] F∧Later w w':=by
 have HO:Hid (∀ {w':World}{u0 u1:Value}{F0 F1:List Nat},OwnD w' (.bytes x.name) [u0] F0→OwnD w' (.list 3 (Pa.dats x.fields)) [u1] F1→OwnD w' x.dat [u0,u1] (F0++(F1))):=fun h0 h1=>Sc.own h0 h1
 have hsum:x.sz=x.name.length+Pa.szs x.fields:=by obtain⟨name,fields⟩:=x;rfl
 obtain⟨a0,p0,rfl,_⟩:=h0.slice
 have hs0:x.name.length≤x.sz:=by rw[hsum];omega
 obtain⟨a1,p1,rfl,_⟩:=Pa.slice h1
 have hs1:Pa.szs x.fields≤x.sz:=by rw[hsum];omega
 clear hsum
 go_enter Tryz.func55,Tryz.ntmps55
 go_wp2_with fail
 refine (tob_own _ _ _ (by omega) (h0.later (by repeat (first|with_reducible exact Later.refl _|refine Later.setAt ?_ (by omega) _ _|refine Later.alloc ?_ _))).rd).mono ?_
 rintro e w1 ⟨b0,q0,G0,rfl,O0,l1⟩
 have L1:Later w w1:=Later.trans (by repeat (first|with_reducible exact Later.refl _|refine Later.setAt ?_ (by omega) _ _|refine Later.alloc ?_ _)) l1
 have z1:w.heap.size+1+1<w1.heap.size:=by have:=l1.size;simp at this;omega
 have y1:w.heap.size+1<w1.heap.size:=by omega
 have x1:w.heap.size<w1.heap.size:=by omega
 obtain⟨hc1,hf1⟩:=bcell l1
 go_wp2_with fail
 refine (toPas_any _ _ _ (RdL.later (by repeat (first|with_reducible exact L1|refine Later.setAt ?_ (by omega) _ _|refine Later.alloc ?_ _)) h1) (by omega)).mono ?_
 rintro e w2 ⟨b1,q1,G1,rfl,O1,l2⟩
 have L2:Later w w2:=Later.trans (by repeat (first|with_reducible exact L1|refine Later.setAt ?_ (by omega) _ _|refine Later.alloc ?_ _)) l2
 have z2:w.heap.size+1+1<w2.heap.size:=by have:=l2.size;simp at this;omega
 have y2:w.heap.size+1<w2.heap.size:=by omega
 have x2:w.heap.size<w2.heap.size:=by omega
 obtain⟨hc2,hf2⟩:=bcell l2
 have s2:w1.heap.size≤w2.heap.size:=by have:=l2.size;simp at this;omega
 go_wp2_with fail
 refine bodyPost_ret (v:=.agg #[.slice b0 x.name.length q0,.slice b1 x.fields.length q1]) (by simp[results,Tryz.results55,go_sem,hc1,y1,hc2]) rfl ⟨b0,q0,b1,q1,_,rfl,Own.mk' (HO.out (O0.kept (by repeat (first|with_reducible exact Kept.refl _ _|refine Kept.setAt ?_ (by first|omega|(simp;done)|(simp;omega)) _ _|refine Kept.later ?_ l2))) (O1.kept (by repeat (first|with_reducible exact Kept.refl _ _|refine Kept.setAt ?_ (by first|omega|(simp;done)|(simp;omega)) _ _)))) (Fr.app (mid:=w1.heap.size) (O0.fr.mono (by first|omega|(simp;done)|(simp;omega)) (by first|omega|(simp;done)|(simp;omega))) (O1.fr.mono (by first|omega|(simp;done)|(simp;omega)) (by first|omega|(simp;done)|(simp;omega))) (by first|omega|(simp;done)|(simp;omega)) (by first|omega|(simp;done)|(simp;omega))),(by repeat (first|with_reducible exact L2|refine Later.setAt ?_ (by omega) _ _|refine Later.alloc ?_ _))⟩
theorem Tryz.info44:(Tryz.prog.info? 44).map (fun i=>(i.zero,i.size,i.bytes))=some (some (.agg #[.slice none 0 0,.slice none 0 0]),2,48):=by kernel_rfl
theorem toScs_any (v:Value) (l:List Sc) (w:World) (h:RdL w 2 v (Sc.dats l)) (hM:Sc.szs l≤1048576) :
  Calls Tryz.prog 27 #[v] w fun e w'=>∃ a c F,e=.returned (.slice a l.length c)∧Own w.heap.size w' (.list 2 (Sc.dats l)) [.slice a l.length c] F∧Later w w':=by
 obtain⟨a,cap,rfl,hl⟩:=Sc.slice h
 have hge:=Sc.szs_ge l
 have hln:l.length≤1048576:=by omega
 obtain⟨i0,hi,hz0,hz1,hz2⟩:=info_parts Tryz.info44
 go_enter Tryz.func27,Tryz.ntmps27
 go_wp2_with (at_make;refine wpList_make_full _ rfl _ _ 28 rfl w.heap.size 44 i0 (.agg #[.slice none 0 0,.slice none 0 0]) 2 Tryz.underlying28 hi hz0 hz1 .i64 .i64 _ _ l.length rfl rfl rfl rfl (by rw[hz2];omega) (by unfold maxLen;omega) (Nat.le_refl _) ?_;intro w1 hown hgr)
 have hlat1:Later w w1:=(Below.refl _ _).grown hgr (Nat.le_refl _) (fun k h=>by cases h)
 have hrow:Row w w1 2 l.length 0 (Sc.dats l) []:=Row.start hown hown.1 hlat1 _
 clear hown hgr hi hz0 hz1 hz2
 go_loopw [4] (fun i wr=>∃ (j:Nat) (F:List Nat),i=.int .i64 (j:Int)∧j≤l.length∧Row w wr 2 l.length j (Sc.dats l) F) (fun i _=>l.length - (intOf i).toNat)
 case atStart=>exact⟨0,[],rfl,Nat.zero_le _,hrow⟩
 case round =>
  obtain⟨k,F,rfl,hk,hR⟩:=hrel
  by_cases hlt:k<l.length
  ·obtain⟨g,off,v0,v1,rfl,hg,c0,c1,r0,r1⟩:=Sc.elem (RdL.later hR.later h) k hlt
   have i1:(k:Int)<(l.length:Int):=by omega
   have hE:=toSc_any l[k] v0 v1 wr r0 r1 (by have:=Sc.sz_at l k hlt;omega)
   have HD:Hid ((Sc.dats l)[k]'(by rw[Sc.dats_len];exact hlt)=l[k].dat):=Sc.dats_at l k hlt _
   clear r0 r1 hrow hlat1
   go_wp2_with fail
   refine hE.mono ?_
   rintro e w2 ⟨b0,q0,b1,q1,G,rfl,hO,l2⟩
   obtain⟨F',hN'⟩:=Row.next hR (by rw[Sc.dats_len];exact hlt) (Sc.dats_len l) rfl (by rw[HD.out];exact hO) l2
   have hlt2:=hR.lt
   have e0:∃ u,w2.cell? ⟨w.heap.size,k*2,none⟩=some u:=by rw[Below.cell l2 (p:=⟨w.heap.size,k*2,none⟩) hlt2];exact (hR.at hlt 0 (by decide)).1
   obtain⟨y0,e0⟩:=e0
   have f0:w2.frozen? ⟨w.heap.size,k*2,none⟩=false:=by rw[Below.frozen l2 (p:=⟨w.heap.size,k*2,none⟩) hlt2];exact (hR.at hlt 0 (by decide)).2
   have e1:∃ u,w2.cell? ⟨w.heap.size,k*2+1,none⟩=some u:=by rw[Below.cell l2 (p:=⟨w.heap.size,k*2+1,none⟩) hlt2];exact (hR.at hlt 1 (by decide)).1
   obtain⟨y1,e1⟩:=e1
   have f1:w2.frozen? ⟨w.heap.size,k*2+1,none⟩=false:=by rw[Below.frozen l2 (p:=⟨w.heap.size,k*2+1,none⟩) hlt2];exact (hR.at hlt 1 (by decide)).2
   clear hR hO hE h
   go_wp2_with fail
   go_roundw
   case rel=>exact⟨k+1,F',by go_num,by omega,hN'⟩
   case measure=>simp[intOf];omega
  ·have i1:¬ (k:Int)<(l.length:Int):=by omega
   have i2:decide ((k:Int)<(l.length:Int))=false:=decide_eq_false i1
   have hkk:k=l.length:=by omega
   subst hkk
   obtain⟨G,hG⟩:=hR.done (cap:=l.length) (Sc.dats_len l) hln ⟨Nat.le_refl _,by unfold maxLen;omega⟩
   have lr:=hR.later
   clear hR h hrow
   go_wp2_with fail
   go_ret
   exact⟨_,_,rfl,⟨G,hG⟩,lr⟩
theorem Ex.own {w:World}{x:Ex}{u0 u1:Value}{F0 F1:List Nat}(h0:OwnD w (.bytes x.name) [u0] F0) (h1:OwnD w (.list 6 (Ex.dats x.kids)) [u1] F1):OwnD w x.dat [.int .i64 x.kind,.int .i64 x.n,.int .i64 x.tk,.int .i64 x.tn,u0,u1] (F0++(F1)):=by
 obtain⟨kind,n,tk,tn,name,kids⟩:=x
 rw[Ex.dat,OwnD]
 rw[OwnAgg]
 refine⟨[_],_,[],_,rfl,(List.nil_append _).symm,by rw[OwnD];exact⟨rfl,rfl⟩,?_⟩
 rw[OwnAgg]
 refine⟨[_],_,[],_,rfl,(List.nil_append _).symm,by rw[OwnD];exact⟨rfl,rfl⟩,?_⟩
 rw[OwnAgg]
 refine⟨[_],_,[],_,rfl,(List.nil_append _).symm,by rw[OwnD];exact⟨rfl,rfl⟩,?_⟩
 rw[OwnAgg]
 refine⟨[_],_,[],_,rfl,(List.nil_append _).symm,by rw[OwnD];exact⟨rfl,rfl⟩,?_⟩
 rw[OwnAgg]
 refine⟨[_],_,F0,_,rfl,rfl,h0,?_⟩
 rw[OwnAgg]
 refine⟨[_],_,F1,[],rfl,(List.append_nil _).symm,h1,?_⟩
 rw[OwnAgg]
 exact⟨rfl,rfl⟩
theorem toEx_any (x:Ex) (v0 v1:Value) (w:World) (h0:RdN w v0 x.name) (h1:RdL w 6 v1 (Ex.dats x.kids)) (hsz:x.sz≤1048576) (ih:∀ (v:Value) (l:List Ex) (w:World),RdL w 6 v (Ex.dats l)→Ex.szs l≤x.sz→Calls Tryz.prog 165 #[v] w fun e w'=>∃ a c F,e=.returned (.slice a l.length c)∧Own w.heap.size w' (.list 6 (Ex.dats l)) [.slice a l.length c] F∧Later w w') :
  Calls Tryz.prog 179 #[.agg #[.int .i64 x.kind,.int .i64 x.n,.int .i64 x.tk,.int .i64 x.tn,v0,v1]] w fun e w'=>∃ b0 q0 b1 q1 F,e=.returned (.agg #[.int .i64 x.kind,.int .i64 x.n,.int .i64 x.tk,.int .i64 x.tn,.slice b0 x.name.length q0,.slice b1 x.kids.length q1])∧Own w.heap.size w' x.dat [.int .i64 x.kind,.int .i64 x.n,.int .i64 x.tk,.int .i64 x.tn,.slice b0 x.name.length q0,.slice b1 x.kids.length q1] F∧Later w w':=by
 have HO:Hid (∀ {w':World}{u0 u1:Value}{F0 F1:List Nat},OwnD w' (.bytes x.name) [u0] F0→OwnD w' (.list 6 (Ex.dats x.kids)) [u1] F1→OwnD w' x.dat [.int .i64 x.kind,.int .i64 x.n,.int .i64 x.tk,.int .i64 x.tn,u0,u1] (F0++(F1))):=fun h0 h1=>Ex.own h0 h1
 have hsum:x.sz=x.name.length+Ex.szs x.kids:=by obtain⟨kind,n,tk,tn,name,kids⟩:=x;rfl
 obtain⟨a0,p0,rfl,_⟩:=h0.slice
 have hs0:x.name.length≤x.sz:=by rw[hsum];omega
 obtain⟨a1,p1,rfl,_⟩:=Ex.slice h1
 have hs1:Ex.szs x.kids≤x.sz:=by rw[hsum];omega
 clear hsum
 generalize x.kind=z_kind at *
 generalize x.n=z_n at *
 generalize x.tk=z_tk at *
 generalize x.tn=z_tn at *
 go_enter Tryz.func179,Tryz.ntmps179
 go_wp2_with fail
 refine (toTy_any _ _ _).mono ?_
 rintro e w1 ⟨rfl,l1⟩
 have L1:Later w w1:=Later.trans (by repeat (first|with_reducible exact Later.refl _|refine Later.setAt ?_ (by omega) _ _|refine Later.alloc ?_ _)) l1
 have z1:w.heap.size+1+1<w1.heap.size:=by have:=l1.size;simp at this;omega
 have y1:w.heap.size+1<w1.heap.size:=by omega
 have x1:w.heap.size<w1.heap.size:=by omega
 obtain⟨hc1,hf1⟩:=bcell l1
 go_wp2_with fail
 refine (tob_own _ _ _ (by omega) (h0.later (by repeat (first|with_reducible exact L1|refine Later.setAt ?_ (by omega) _ _|refine Later.alloc ?_ _))).rd).mono ?_
 rintro e w2 ⟨b0,q0,G0,rfl,O0,l2⟩
 have L2:Later w w2:=Later.trans (by repeat (first|with_reducible exact L1|refine Later.setAt ?_ (by omega) _ _|refine Later.alloc ?_ _)) l2
 have z2:w.heap.size+1+1<w2.heap.size:=by have:=l2.size;simp at this;omega
 have y2:w.heap.size+1<w2.heap.size:=by omega
 have x2:w.heap.size<w2.heap.size:=by omega
 obtain⟨hc2,hf2⟩:=bcell l2
 have s2:w1.heap.size≤w2.heap.size:=by have:=l2.size;simp at this;omega
 go_wp2_with fail
 refine (ih _ _ _ (RdL.later (by repeat (first|with_reducible exact L2|refine Later.setAt ?_ (by omega) _ _|refine Later.alloc ?_ _)) h1) hs1).mono ?_
 rintro e w3 ⟨b1,q1,G1,rfl,O1,l3⟩
 have L3:Later w w3:=Later.trans (by repeat (first|with_reducible exact L2|refine Later.setAt ?_ (by omega) _ _|refine Later.alloc ?_ _)) l3
 have z3:w.heap.size+1+1<w3.heap.size:=by have:=l3.size;simp at this;omega
 have y3:w.heap.size+1<w3.heap.size:=by omega
 have x3:w.heap.size<w3.heap.size:=by omega
 obtain⟨hc3,hf3⟩:=bcell l3
 have s3:w2.heap.size≤w3.heap.size:=by have:=l3.size;simp at this;omega
 go_wp2_with fail
 refine bodyPost_ret (v:=.agg #[.int .i64 z_kind,.int .i64 z_n,.int .i64 z_tk,.int .i64 z_tn,.slice b0 x.name.length q0,.slice b1 x.kids.length q1]) (by simp[results,Tryz.results179,go_sem,hc1,y1,hc2,y2,hc3]) rfl ⟨b0,q0,b1,q1,_,rfl,Own.mk' (HO.out (O0.kept (by repeat (first|with_reducible exact Kept.refl _ _|refine Kept.setAt ?_ (by first|omega|(simp;done)|(simp;omega)) _ _|refine Kept.later ?_ l3))) (O1.kept (by repeat (first|with_reducible exact Kept.refl _ _|refine Kept.setAt ?_ (by first|omega|(simp;done)|(simp;omega)) _ _)))) (Fr.app (mid:=w2.heap.size) (O0.fr.mono (by first|omega|(simp;done)|(simp;omega)) (by first|omega|(simp;done)|(simp;omega))) (O1.fr.mono (by first|omega|(simp;done)|(simp;omega)) (by first|omega|(simp;done)|(simp;omega))) (by first|omega|(simp;done)|(simp;omega)) (by first|omega|(simp;done)|(simp;omega))),(by repeat (first|with_reducible exact L3|refine Later.setAt ?_ (by omega) _ _|refine Later.alloc ?_ _))⟩
theorem Tryz.info96:(Tryz.prog.info? 96).map (fun i=>(i.zero,i.size,i.bytes))=some (some (.agg #[.int .i64 0,.int .i64 0,.int .i64 0,.int .i64 0,.slice none 0 0,.slice none 0 0]),6,80):=by kernel_rfl
theorem toExs_all (N:Nat):∀ (v:Value) (l:List Ex) (w:World),Ex.szs l≤N→Ex.szs l≤1048576→RdL w 6 v (Ex.dats l) →
  Calls Tryz.prog 165 #[v] w fun e w'=>∃ a c F,e=.returned (.slice a l.length c)∧Own w.heap.size w' (.list 6 (Ex.dats l)) [.slice a l.length c] F∧Later w w':=by
 induction N using Nat.strongRecOn with
 | _ N IH =>
 intro v l w hN hM h
 obtain⟨a,cap,rfl,hl⟩:=Ex.slice h
 have hge:=Ex.szs_ge l
 have hln:l.length≤1048576:=by omega
 obtain⟨i0,hi,hz0,hz1,hz2⟩:=info_parts Tryz.info96
 go_enter Tryz.func165,Tryz.ntmps165
 go_wp2_with (at_make;refine wpList_make_full _ rfl _ _ 91 rfl w.heap.size 96 i0 (.agg #[.int .i64 0,.int .i64 0,.int .i64 0,.int .i64 0,.slice none 0 0,.slice none 0 0]) 6 Tryz.underlying91 hi hz0 hz1 .i64 .i64 _ _ l.length rfl rfl rfl rfl (by rw[hz2];omega) (by unfold maxLen;omega) (Nat.le_refl _) ?_;intro w1 hown hgr)
 have hlat1:Later w w1:=(Below.refl _ _).grown hgr (Nat.le_refl _) (fun k h=>by cases h)
 have hrow:Row w w1 6 l.length 0 (Ex.dats l) []:=Row.start hown hown.1 hlat1 _
 clear hown hgr hi hz0 hz1 hz2
 go_loopw [4] (fun i wr=>∃ (j:Nat) (F:List Nat),i=.int .i64 (j:Int)∧j≤l.length∧Row w wr 6 l.length j (Ex.dats l) F) (fun i _=>l.length - (intOf i).toNat)
 case atStart=>exact⟨0,[],rfl,Nat.zero_le _,hrow⟩
 case round =>
  obtain⟨k,F,rfl,hk,hR⟩:=hrel
  by_cases hlt:k<l.length
  ·obtain⟨g,off,v0,v1,rfl,hg,c0,c1,c2,c3,c4,c5,r0,r1⟩:=Ex.elem (RdL.later hR.later h) k hlt
   have i1:(k:Int)<(l.length:Int):=by omega
   have hE:=toEx_any l[k] v0 v1 wr r0 r1 (by have:=Ex.sz_at l k hlt;omega) (fun v' l' w' h' hs'=>IH (Ex.szs l') (by have:=Ex.sz_at l k hlt;omega) v' l' w' (Nat.le_refl _) (by have:=Ex.sz_at l k hlt;omega) h')
   have HD:Hid ((Ex.dats l)[k]'(by rw[Ex.dats_len];exact hlt)=l[k].dat):=Ex.dats_at l k hlt _
   clear r0 r1 hrow hlat1
   go_wp2_with fail
   refine hE.mono ?_
   rintro e w2 ⟨b0,q0,b1,q1,G,rfl,hO,l2⟩
   obtain⟨F',hN'⟩:=Row.next hR (by rw[Ex.dats_len];exact hlt) (Ex.dats_len l) rfl (by rw[HD.out];exact hO) l2
   have hlt2:=hR.lt
   have e0:∃ u,w2.cell? ⟨w.heap.size,k*6,none⟩=some u:=by rw[Below.cell l2 (p:=⟨w.heap.size,k*6,none⟩) hlt2];exact (hR.at hlt 0 (by decide)).1
   obtain⟨y0,e0⟩:=e0
   have f0:w2.frozen? ⟨w.heap.size,k*6,none⟩=false:=by rw[Below.frozen l2 (p:=⟨w.heap.size,k*6,none⟩) hlt2];exact (hR.at hlt 0 (by decide)).2
   have e1:∃ u,w2.cell? ⟨w.heap.size,k*6+1,none⟩=some u:=by rw[Below.cell l2 (p:=⟨w.heap.size,k*6+1,none⟩) hlt2];exact (hR.at hlt 1 (by decide)).1
   obtain⟨y1,e1⟩:=e1
   have f1:w2.frozen? ⟨w.heap.size,k*6+1,none⟩=false:=by rw[Below.frozen l2 (p:=⟨w.heap.size,k*6+1,none⟩) hlt2];exact (hR.at hlt 1 (by decide)).2
   have e2:∃ u,w2.cell? ⟨w.heap.size,k*6+2,none⟩=some u:=by rw[Below.cell l2 (p:=⟨w.heap.size,k*6+2,none⟩) hlt2];exact (hR.at hlt 2 (by decide)).1
   obtain⟨y2,e2⟩:=e2
   have f2:w2.frozen? ⟨w.heap.size,k*6+2,none⟩=false:=by rw[Below.frozen l2 (p:=⟨w.heap.size,k*6+2,none⟩) hlt2];exact (hR.at hlt 2 (by decide)).2
   have e3:∃ u,w2.cell? ⟨w.heap.size,k*6+3,none⟩=some u:=by rw[Below.cell l2 (p:=⟨w.heap.size,k*6+3,none⟩) hlt2];exact (hR.at hlt 3 (by decide)).1
   obtain⟨y3,e3⟩:=e3
   have f3:w2.frozen? ⟨w.heap.size,k*6+3,none⟩=false:=by rw[Below.frozen l2 (p:=⟨w.heap.size,k*6+3,none⟩) hlt2];exact (hR.at hlt 3 (by decide)).2
   have e4:∃ u,w2.cell? ⟨w.heap.size,k*6+4,none⟩=some u:=by rw[Below.cell l2 (p:=⟨w.heap.size,k*6+4,none⟩) hlt2];exact (hR.at hlt 4 (by decide)).1
   obtain⟨y4,e4⟩:=e4
   have f4:w2.frozen? ⟨w.heap.size,k*6+4,none⟩=false:=by rw[Below.frozen l2 (p:=⟨w.heap.size,k*6+4,none⟩) hlt2];exact (hR.at hlt 4 (by decide)).2
   have e5:∃ u,w2.cell? ⟨w.heap.size,k*6+5,none⟩=some u:=by rw[Below.cell l2 (p:=⟨w.heap.size,k*6+5,none⟩) hlt2];exact (hR.at hlt 5 (by decide)).1
   obtain⟨y5,e5⟩:=e5
   have f5:w2.frozen? ⟨w.heap.size,k*6+5,none⟩=false:=by rw[Below.frozen l2 (p:=⟨w.heap.size,k*6+5,none⟩) hlt2];exact (hR.at hlt 5 (by decide)).2
   clear hR hO hE h
   go_wp2_with fail
   go_roundw
   case rel=>exact⟨k+1,F',by go_num,by omega,hN'⟩
   case measure=>simp[intOf];omega
  ·have i1:¬ (k:Int)<(l.length:Int):=by omega
   have i2:decide ((k:Int)<(l.length:Int))=false:=decide_eq_false i1
   have hkk:k=l.length:=by omega
   subst hkk
   obtain⟨G,hG⟩:=hR.done (cap:=l.length) (Ex.dats_len l) hln ⟨Nat.le_refl _,by unfold maxLen;omega⟩
   have lr:=hR.later
   clear hR h hrow
   go_wp2_with fail
   go_ret
   exact⟨_,_,rfl,⟨G,hG⟩,lr⟩
theorem toExs_any (v:Value) (l:List Ex) (w:World) (h:RdL w 6 v (Ex.dats l)) (hM:Ex.szs l≤1048576) :
  Calls Tryz.prog 165 #[v] w fun e w'=>∃ a c F,e=.returned (.slice a l.length c)∧Own w.heap.size w' (.list 6 (Ex.dats l)) [.slice a l.length c] F∧Later w w':=toExs_all _ v l w (Nat.le_refl _) hM h
theorem St.own {w:World}{x:St}{u0 u1 u2 u3:Value}{F0 F1 F2 F3:List Nat}(h0:OwnD w (.bytes x.name) [u0] F0) (h1:OwnD w (.list 6 (Ex.dats x.kids)) [u1] F1) (h2:OwnD w (.list 8 (St.dats x.body)) [u2] F2) (h3:OwnD w (.list 8 (St.dats x.els)) [u3] F3):OwnD w x.dat [.int .i64 x.kind,.int .i64 x.n,.int .i64 x.tk,.int .i64 x.tn,u0,u1,u2,u3] (F0++(F1++(F2++(F3)))):=by
 obtain⟨kind,n,tk,tn,name,kids,body,els⟩:=x
 rw[St.dat,OwnD]
 rw[OwnAgg]
 refine⟨[_],_,[],_,rfl,(List.nil_append _).symm,by rw[OwnD];exact⟨rfl,rfl⟩,?_⟩
 rw[OwnAgg]
 refine⟨[_],_,[],_,rfl,(List.nil_append _).symm,by rw[OwnD];exact⟨rfl,rfl⟩,?_⟩
 rw[OwnAgg]
 refine⟨[_],_,[],_,rfl,(List.nil_append _).symm,by rw[OwnD];exact⟨rfl,rfl⟩,?_⟩
 rw[OwnAgg]
 refine⟨[_],_,[],_,rfl,(List.nil_append _).symm,by rw[OwnD];exact⟨rfl,rfl⟩,?_⟩
 rw[OwnAgg]
 refine⟨[_],_,F0,_,rfl,rfl,h0,?_⟩
 rw[OwnAgg]
 refine⟨[_],_,F1,_,rfl,rfl,h1,?_⟩
 rw[OwnAgg]
 refine⟨[_],_,F2,_,rfl,rfl,h2,?_⟩
 rw[OwnAgg]
 refine⟨[_],_,F3,[],rfl,(List.append_nil _).symm,h3,?_⟩
 rw[OwnAgg]
 exact⟨rfl,rfl⟩
theorem toSt_any (x:St) (v0 v1 v2 v3:Value) (w:World) (h0:RdN w v0 x.name) (h1:RdL w 6 v1 (Ex.dats x.kids)) (h2:RdL w 8 v2 (St.dats x.body)) (h3:RdL w 8 v3 (St.dats x.els)) (hsz:x.sz≤1048576) (ih:∀ (v:Value) (l:List St) (w:World),RdL w 8 v (St.dats l)→St.szs l≤x.sz→Calls Tryz.prog 103 #[v] w fun e w'=>∃ a c F,e=.returned (.slice a l.length c)∧Own w.heap.size w' (.list 8 (St.dats l)) [.slice a l.length c] F∧Later w w') :
  Calls Tryz.prog 137 #[.agg #[.int .i64 x.kind,.int .i64 x.n,.int .i64 x.tk,.int .i64 x.tn,v0,v1,v2,v3]] w fun e w'=>∃ b0 q0 b1 q1 b2 q2 b3 q3 F,e=.returned (.agg #[.int .i64 x.kind,.int .i64 x.n,.int .i64 x.tk,.int .i64 x.tn,.slice b0 x.name.length q0,.slice b1 x.kids.length q1,.slice b2 x.body.length q2,.slice b3 x.els.length q3])∧Own w.heap.size w' x.dat [.int .i64 x.kind,.int .i64 x.n,.int .i64 x.tk,.int .i64 x.tn,.slice b0 x.name.length q0,.slice b1 x.kids.length q1,.slice b2 x.body.length q2,.slice b3 x.els.length q3] F∧Later w w':=by
 have HO:Hid (∀ {w':World}{u0 u1 u2 u3:Value}{F0 F1 F2 F3:List Nat},OwnD w' (.bytes x.name) [u0] F0→OwnD w' (.list 6 (Ex.dats x.kids)) [u1] F1→OwnD w' (.list 8 (St.dats x.body)) [u2] F2→OwnD w' (.list 8 (St.dats x.els)) [u3] F3→OwnD w' x.dat [.int .i64 x.kind,.int .i64 x.n,.int .i64 x.tk,.int .i64 x.tn,u0,u1,u2,u3] (F0++(F1++(F2++(F3))))):=fun h0 h1 h2 h3=>St.own h0 h1 h2 h3
 have hsum:x.sz=x.name.length+Ex.szs x.kids+St.szs x.body+St.szs x.els:=by obtain⟨kind,n,tk,tn,name,kids,body,els⟩:=x;rfl
 obtain⟨a0,p0,rfl,_⟩:=h0.slice
 have hs0:x.name.length≤x.sz:=by rw[hsum];omega
 obtain⟨a1,p1,rfl,_⟩:=Ex.slice h1
 have hs1:Ex.szs x.kids≤x.sz:=by rw[hsum];omega
 obtain⟨a2,p2,rfl,_⟩:=St.slice h2
 have hs2:St.szs x.body≤x.sz:=by rw[hsum];omega
 obtain⟨a3,p3,rfl,_⟩:=St.slice h3
 have hs3:St.szs x.els≤x.sz:=by rw[hsum];omega
 clear hsum
 generalize x.kind=z_kind at *
 generalize x.n=z_n at *
 generalize x.tk=z_tk at *
 generalize x.tn=z_tn at *
 go_enter Tryz.func137,Tryz.ntmps137
 go_wp2_with fail
 refine (toTy_any _ _ _).mono ?_
 rintro e w1 ⟨rfl,l1⟩
 have L1:Later w w1:=Later.trans (by repeat (first|with_reducible exact Later.refl _|refine Later.setAt ?_ (by omega) _ _|refine Later.alloc ?_ _)) l1
 have z1:w.heap.size+1+1<w1.heap.size:=by have:=l1.size;simp at this;omega
 have y1:w.heap.size+1<w1.heap.size:=by omega
 have x1:w.heap.size<w1.heap.size:=by omega
 obtain⟨hc1,hf1⟩:=bcell l1
 go_wp2_with fail
 refine (tob_own _ _ _ (by omega) (h0.later (by repeat (first|with_reducible exact L1|refine Later.setAt ?_ (by omega) _ _|refine Later.alloc ?_ _))).rd).mono ?_
 rintro e w2 ⟨b0,q0,G0,rfl,O0,l2⟩
 have L2:Later w w2:=Later.trans (by repeat (first|with_reducible exact L1|refine Later.setAt ?_ (by omega) _ _|refine Later.alloc ?_ _)) l2
 have z2:w.heap.size+1+1<w2.heap.size:=by have:=l2.size;simp at this;omega
 have y2:w.heap.size+1<w2.heap.size:=by omega
 have x2:w.heap.size<w2.heap.size:=by omega
 obtain⟨hc2,hf2⟩:=bcell l2
 have s2:w1.heap.size≤w2.heap.size:=by have:=l2.size;simp at this;omega
 go_wp2_with fail
 refine (toExs_any _ _ _ (RdL.later (by repeat (first|with_reducible exact L2|refine Later.setAt ?_ (by omega) _ _|refine Later.alloc ?_ _)) h1) (by omega)).mono ?_
 rintro e w3 ⟨b1,q1,G1,rfl,O1,l3⟩
 have L3:Later w w3:=Later.trans (by repeat (first|with_reducible exact L2|refine Later.setAt ?_ (by omega) _ _|refine Later.alloc ?_ _)) l3
 have z3:w.heap.size+1+1<w3.heap.size:=by have:=l3.size;simp at this;omega
 have y3:w.heap.size+1<w3.heap.size:=by omega
 have x3:w.heap.size<w3.heap.size:=by omega
 obtain⟨hc3,hf3⟩:=bcell l3
 have s3:w2.heap.size≤w3.heap.size:=by have:=l3.size;simp at this;omega
 go_wp2_with fail
 refine (ih _ _ _ (RdL.later (by repeat (first|with_reducible exact L3|refine Later.setAt ?_ (by omega) _ _|refine Later.alloc ?_ _)) h2) hs2).mono ?_
 rintro e w4 ⟨b2,q2,G2,rfl,O2,l4⟩
 have L4:Later w w4:=Later.trans (by repeat (first|with_reducible exact L3|refine Later.setAt ?_ (by omega) _ _|refine Later.alloc ?_ _)) l4
 have z4:w.heap.size+1+1<w4.heap.size:=by have:=l4.size;simp at this;omega
 have y4:w.heap.size+1<w4.heap.size:=by omega
 have x4:w.heap.size<w4.heap.size:=by omega
 obtain⟨hc4,hf4⟩:=bcell l4
 have s4:w3.heap.size≤w4.heap.size:=by have:=l4.size;simp at this;omega
 go_wp2_with fail
 refine (ih _ _ _ (RdL.later (by repeat (first|with_reducible exact L4|refine Later.setAt ?_ (by omega) _ _|refine Later.alloc ?_ _)) h3) hs3).mono ?_
 rintro e w5 ⟨b3,q3,G3,rfl,O3,l5⟩
 have L5:Later w w5:=Later.trans (by repeat (first|with_reducible exact L4|refine Later.setAt ?_ (by omega) _ _|refine Later.alloc ?_ _)) l5
 have z5:w.heap.size+1+1<w5.heap.size:=by have:=l5.size;simp at this;omega
 have y5:w.heap.size+1<w5.heap.size:=by omega
 have x5:w.heap.size<w5.heap.size:=by omega
 obtain⟨hc5,hf5⟩:=bcell l5
 have s5:w4.heap.size≤w5.heap.size:=by have:=l5.size;simp at this;omega
 go_wp2_with fail
 refine bodyPost_ret (v:=.agg #[.int .i64 z_kind,.int .i64 z_n,.int .i64 z_tk,.int .i64 z_tn,.slice b0 x.name.length q0,.slice b1 x.kids.length q1,.slice b2 x.body.length q2,.slice b3 x.els.length q3]) (by simp[results,Tryz.results137,go_sem,hc1,y1,hc2,y2,hc3,y3,hc4,y4,hc5]) rfl ⟨b0,q0,b1,q1,b2,q2,b3,q3,_,rfl,Own.mk' (HO.out (O0.kept (by repeat (first|with_reducible exact Kept.refl _ _|refine Kept.setAt ?_ (by first|omega|(simp;done)|(simp;omega)) _ _|refine Kept.later ?_ l3|refine Kept.later ?_ l4|refine Kept.later ?_ l5))) (O1.kept (by repeat (first|with_reducible exact Kept.refl _ _|refine Kept.setAt ?_ (by first|omega|(simp;done)|(simp;omega)) _ _|refine Kept.later ?_ l4|refine Kept.later ?_ l5))) (O2.kept (by repeat (first|with_reducible exact Kept.refl _ _|refine Kept.setAt ?_ (by first|omega|(simp;done)|(simp;omega)) _ _|refine Kept.later ?_ l5))) (O3.kept (by repeat (first|with_reducible exact Kept.refl _ _|refine Kept.setAt ?_ (by first|omega|(simp;done)|(simp;omega)) _ _)))) (Fr.app (mid:=w2.heap.size) (O0.fr.mono (by first|omega|(simp;done)|(simp;omega)) (by first|omega|(simp;done)|(simp;omega))) (Fr.app (mid:=w3.heap.size) (O1.fr.mono (by first|omega|(simp;done)|(simp;omega)) (by first|omega|(simp;done)|(simp;omega))) (Fr.app (mid:=w4.heap.size) (O2.fr.mono (by first|omega|(simp;done)|(simp;omega)) (by first|omega|(simp;done)|(simp;omega))) (O3.fr.mono (by first|omega|(simp;done)|(simp;omega)) (by first|omega|(simp;done)|(simp;omega))) (by first|omega|(simp;done)|(simp;omega)) (by first|omega|(simp;done)|(simp;omega))) (by first|omega|(simp;done)|(simp;omega)) (by first|omega|(simp;done)|(simp;omega))) (by first|omega|(simp;done)|(simp;omega)) (by first|omega|(simp;done)|(simp;omega))),(by repeat (first|with_reducible exact L5|refine Later.setAt ?_ (by omega) _ _|refine Later.alloc ?_ _))⟩
theorem Tryz.info93:(Tryz.prog.info? 93).map (fun i=>(i.zero,i.size,i.bytes))=some (some (.agg #[.int .i64 0,.int .i64 0,.int .i64 0,.int .i64 0,.slice none 0 0,.slice none 0 0,.slice none 0 0,.slice none 0 0]),8,128):=by kernel_rfl
theorem toSts_all (N:Nat):∀ (v:Value) (l:List St) (w:World),St.szs l≤N→St.szs l≤1048576→RdL w 8 v (St.dats l) →
  Calls Tryz.prog 103 #[v] w fun e w'=>∃ a c F,e=.returned (.slice a l.length c)∧Own w.heap.size w' (.list 8 (St.dats l)) [.slice a l.length c] F∧Later w w':=by
 induction N using Nat.strongRecOn with
 | _ N IH =>
 intro v l w hN hM h
 obtain⟨a,cap,rfl,hl⟩:=St.slice h
 have hge:=St.szs_ge l
 have hln:l.length≤1048576:=by omega
 obtain⟨i0,hi,hz0,hz1,hz2⟩:=info_parts Tryz.info93
 go_enter Tryz.func103,Tryz.ntmps103
 go_wp2_with (at_make;refine wpList_make_full _ rfl _ _ 48 rfl w.heap.size 93 i0 (.agg #[.int .i64 0,.int .i64 0,.int .i64 0,.int .i64 0,.slice none 0 0,.slice none 0 0,.slice none 0 0,.slice none 0 0]) 8 Tryz.underlying48 hi hz0 hz1 .i64 .i64 _ _ l.length rfl rfl rfl rfl (by rw[hz2];omega) (by unfold maxLen;omega) (Nat.le_refl _) ?_;intro w1 hown hgr)
 have hlat1:Later w w1:=(Below.refl _ _).grown hgr (Nat.le_refl _) (fun k h=>by cases h)
 have hrow:Row w w1 8 l.length 0 (St.dats l) []:=Row.start hown hown.1 hlat1 _
 clear hown hgr hi hz0 hz1 hz2
 go_loopw [4] (fun i wr=>∃ (j:Nat) (F:List Nat),i=.int .i64 (j:Int)∧j≤l.length∧Row w wr 8 l.length j (St.dats l) F) (fun i _=>l.length - (intOf i).toNat)
 case atStart=>exact⟨0,[],rfl,Nat.zero_le _,hrow⟩
 case round =>
  obtain⟨k,F,rfl,hk,hR⟩:=hrel
  by_cases hlt:k<l.length
  ·obtain⟨g,off,v0,v1,v2,v3,rfl,hg,c0,c1,c2,c3,c4,c5,c6,c7,r0,r1,r2,r3⟩:=St.elem (RdL.later hR.later h) k hlt
   have i1:(k:Int)<(l.length:Int):=by omega
   have hE:=toSt_any l[k] v0 v1 v2 v3 wr r0 r1 r2 r3 (by have:=St.sz_at l k hlt;omega) (fun v' l' w' h' hs'=>IH (St.szs l') (by have:=St.sz_at l k hlt;omega) v' l' w' (Nat.le_refl _) (by have:=St.sz_at l k hlt;omega) h')
   have HD:Hid ((St.dats l)[k]'(by rw[St.dats_len];exact hlt)=l[k].dat):=St.dats_at l k hlt _
   clear r0 r1 r2 r3 hrow hlat1
   go_wp2_with fail
   refine hE.mono ?_
   rintro e w2 ⟨b0,q0,b1,q1,b2,q2,b3,q3,G,rfl,hO,l2⟩
   obtain⟨F',hN'⟩:=Row.next hR (by rw[St.dats_len];exact hlt) (St.dats_len l) rfl (by rw[HD.out];exact hO) l2
   have hlt2:=hR.lt
   have e0:∃ u,w2.cell? ⟨w.heap.size,k*8,none⟩=some u:=by rw[Below.cell l2 (p:=⟨w.heap.size,k*8,none⟩) hlt2];exact (hR.at hlt 0 (by decide)).1
   obtain⟨y0,e0⟩:=e0
   have f0:w2.frozen? ⟨w.heap.size,k*8,none⟩=false:=by rw[Below.frozen l2 (p:=⟨w.heap.size,k*8,none⟩) hlt2];exact (hR.at hlt 0 (by decide)).2
   have e1:∃ u,w2.cell? ⟨w.heap.size,k*8+1,none⟩=some u:=by rw[Below.cell l2 (p:=⟨w.heap.size,k*8+1,none⟩) hlt2];exact (hR.at hlt 1 (by decide)).1
   obtain⟨y1,e1⟩:=e1
   have f1:w2.frozen? ⟨w.heap.size,k*8+1,none⟩=false:=by rw[Below.frozen l2 (p:=⟨w.heap.size,k*8+1,none⟩) hlt2];exact (hR.at hlt 1 (by decide)).2
   have e2:∃ u,w2.cell? ⟨w.heap.size,k*8+2,none⟩=some u:=by rw[Below.cell l2 (p:=⟨w.heap.size,k*8+2,none⟩) hlt2];exact (hR.at hlt 2 (by decide)).1
   obtain⟨y2,e2⟩:=e2
   have f2:w2.frozen? ⟨w.heap.size,k*8+2,none⟩=false:=by rw[Below.frozen l2 (p:=⟨w.heap.size,k*8+2,none⟩) hlt2];exact (hR.at hlt 2 (by decide)).2
   have e3:∃ u,w2.cell? ⟨w.heap.size,k*8+3,none⟩=some u:=by rw[Below.cell l2 (p:=⟨w.heap.size,k*8+3,none⟩) hlt2];exact (hR.at hlt 3 (by decide)).1
   obtain⟨y3,e3⟩:=e3
   have f3:w2.frozen? ⟨w.heap.size,k*8+3,none⟩=false:=by rw[Below.frozen l2 (p:=⟨w.heap.size,k*8+3,none⟩) hlt2];exact (hR.at hlt 3 (by decide)).2
   have e4:∃ u,w2.cell? ⟨w.heap.size,k*8+4,none⟩=some u:=by rw[Below.cell l2 (p:=⟨w.heap.size,k*8+4,none⟩) hlt2];exact (hR.at hlt 4 (by decide)).1
   obtain⟨y4,e4⟩:=e4
   have f4:w2.frozen? ⟨w.heap.size,k*8+4,none⟩=false:=by rw[Below.frozen l2 (p:=⟨w.heap.size,k*8+4,none⟩) hlt2];exact (hR.at hlt 4 (by decide)).2
   have e5:∃ u,w2.cell? ⟨w.heap.size,k*8+5,none⟩=some u:=by rw[Below.cell l2 (p:=⟨w.heap.size,k*8+5,none⟩) hlt2];exact (hR.at hlt 5 (by decide)).1
   obtain⟨y5,e5⟩:=e5
   have f5:w2.frozen? ⟨w.heap.size,k*8+5,none⟩=false:=by rw[Below.frozen l2 (p:=⟨w.heap.size,k*8+5,none⟩) hlt2];exact (hR.at hlt 5 (by decide)).2
   have e6:∃ u,w2.cell? ⟨w.heap.size,k*8+6,none⟩=some u:=by rw[Below.cell l2 (p:=⟨w.heap.size,k*8+6,none⟩) hlt2];exact (hR.at hlt 6 (by decide)).1
   obtain⟨y6,e6⟩:=e6
   have f6:w2.frozen? ⟨w.heap.size,k*8+6,none⟩=false:=by rw[Below.frozen l2 (p:=⟨w.heap.size,k*8+6,none⟩) hlt2];exact (hR.at hlt 6 (by decide)).2
   have e7:∃ u,w2.cell? ⟨w.heap.size,k*8+7,none⟩=some u:=by rw[Below.cell l2 (p:=⟨w.heap.size,k*8+7,none⟩) hlt2];exact (hR.at hlt 7 (by decide)).1
   obtain⟨y7,e7⟩:=e7
   have f7:w2.frozen? ⟨w.heap.size,k*8+7,none⟩=false:=by rw[Below.frozen l2 (p:=⟨w.heap.size,k*8+7,none⟩) hlt2];exact (hR.at hlt 7 (by decide)).2
   clear hR hO hE h
   go_wp2_with fail
   go_roundw
   case rel=>exact⟨k+1,F',by go_num,by omega,hN'⟩
   case measure=>simp[intOf];omega
  ·have i1:¬ (k:Int)<(l.length:Int):=by omega
   have i2:decide ((k:Int)<(l.length:Int))=false:=decide_eq_false i1
   have hkk:k=l.length:=by omega
   subst hkk
   obtain⟨G,hG⟩:=hR.done (cap:=l.length) (St.dats_len l) hln ⟨Nat.le_refl _,by unfold maxLen;omega⟩
   have lr:=hR.later
   clear hR h hrow
   go_wp2_with fail
   go_ret
   exact⟨_,_,rfl,⟨G,hG⟩,lr⟩
theorem toSts_any (v:Value) (l:List St) (w:World) (h:RdL w 8 v (St.dats l)) (hM:St.szs l≤1048576) :
  Calls Tryz.prog 103 #[v] w fun e w'=>∃ a c F,e=.returned (.slice a l.length c)∧Own w.heap.size w' (.list 8 (St.dats l)) [.slice a l.length c] F∧Later w w':=toSts_all _ v l w (Nat.le_refl _) hM h
theorem Fu.own {w:World}{x:Fu}{u0 u1 u2:Value}{F0 F1 F2:List Nat}(h0:OwnD w (.bytes x.name) [u0] F0) (h1:OwnD w (.list 3 (Pa.dats x.params)) [u1] F1) (h2:OwnD w (.list 8 (St.dats x.body)) [u2] F2):OwnD w x.dat [u0,u1,.int .i64 x.rk,.int .i64 x.rn,u2] (F0++(F1++(F2))):=by
 obtain⟨name,params,rk,rn,body⟩:=x
 rw[Fu.dat,OwnD]
 rw[OwnAgg]
 refine⟨[_],_,F0,_,rfl,rfl,h0,?_⟩
 rw[OwnAgg]
 refine⟨[_],_,F1,_,rfl,rfl,h1,?_⟩
 rw[OwnAgg]
 refine⟨[_],_,[],_,rfl,(List.nil_append _).symm,by rw[OwnD];exact⟨rfl,rfl⟩,?_⟩
 rw[OwnAgg]
 refine⟨[_],_,[],_,rfl,(List.nil_append _).symm,by rw[OwnD];exact⟨rfl,rfl⟩,?_⟩
 rw[OwnAgg]
 refine⟨[_],_,F2,[],rfl,(List.append_nil _).symm,h2,?_⟩
 rw[OwnAgg]
 exact⟨rfl,rfl⟩
theorem toFu_any (x:Fu) (v0 v1 v2:Value) (w:World) (h0:RdN w v0 x.name) (h1:RdL w 3 v1 (Pa.dats x.params)) (h2:RdL w 8 v2 (St.dats x.body)) (hsz:x.sz≤1048576) :
  Calls Tryz.prog 56 #[.agg #[v0,v1,.int .i64 x.rk,.int .i64 x.rn,v2]] w fun e w'=>∃ b0 q0 b1 q1 b2 q2 F,e=.returned (.agg #[.slice b0 x.name.length q0,.slice b1 x.params.length q1,.int .i64 x.rk,.int .i64 x.rn,.slice b2 x.body.length q2])∧Own w.heap.size w' x.dat [.slice b0 x.name.length q0,.slice b1 x.params.length q1,.int .i64 x.rk,.int .i64 x.rn,.slice b2 x.body.length q2] F∧Later w w':=by
 have HO:Hid (∀ {w':World}{u0 u1 u2:Value}{F0 F1 F2:List Nat},OwnD w' (.bytes x.name) [u0] F0→OwnD w' (.list 3 (Pa.dats x.params)) [u1] F1→OwnD w' (.list 8 (St.dats x.body)) [u2] F2→OwnD w' x.dat [u0,u1,.int .i64 x.rk,.int .i64 x.rn,u2] (F0++(F1++(F2)))):=fun h0 h1 h2=>Fu.own h0 h1 h2
 have hsum:x.sz=x.name.length+Pa.szs x.params+St.szs x.body:=by obtain⟨name,params,rk,rn,body⟩:=x;rfl
 obtain⟨a0,p0,rfl,_⟩:=h0.slice
 have hs0:x.name.length≤x.sz:=by rw[hsum];omega
 obtain⟨a1,p1,rfl,_⟩:=Pa.slice h1
 have hs1:Pa.szs x.params≤x.sz:=by rw[hsum];omega
 obtain⟨a2,p2,rfl,_⟩:=St.slice h2
 have hs2:St.szs x.body≤x.sz:=by rw[hsum];omega
 clear hsum
 generalize x.rk=z_rk at *
 generalize x.rn=z_rn at *
 go_enter Tryz.func56,Tryz.ntmps56
 go_wp2_with fail
 refine (tob_own _ _ _ (by omega) (h0.later (by repeat (first|with_reducible exact Later.refl _|refine Later.setAt ?_ (by omega) _ _|refine Later.alloc ?_ _))).rd).mono ?_
 rintro e w1 ⟨b0,q0,G0,rfl,O0,l1⟩
 have L1:Later w w1:=Later.trans (by repeat (first|with_reducible exact Later.refl _|refine Later.setAt ?_ (by omega) _ _|refine Later.alloc ?_ _)) l1
 have z1:w.heap.size+1+1<w1.heap.size:=by have:=l1.size;simp at this;omega
 have y1:w.heap.size+1<w1.heap.size:=by omega
 have x1:w.heap.size<w1.heap.size:=by omega
 obtain⟨hc1,hf1⟩:=bcell l1
 go_wp2_with fail
 refine (toPas_any _ _ _ (RdL.later (by repeat (first|with_reducible exact L1|refine Later.setAt ?_ (by omega) _ _|refine Later.alloc ?_ _)) h1) (by omega)).mono ?_
 rintro e w2 ⟨b1,q1,G1,rfl,O1,l2⟩
 have L2:Later w w2:=Later.trans (by repeat (first|with_reducible exact L1|refine Later.setAt ?_ (by omega) _ _|refine Later.alloc ?_ _)) l2
 have z2:w.heap.size+1+1<w2.heap.size:=by have:=l2.size;simp at this;omega
 have y2:w.heap.size+1<w2.heap.size:=by omega
 have x2:w.heap.size<w2.heap.size:=by omega
 obtain⟨hc2,hf2⟩:=bcell l2
 have s2:w1.heap.size≤w2.heap.size:=by have:=l2.size;simp at this;omega
 go_wp2_with fail
 refine (toTy_any _ _ _).mono ?_
 rintro e w3 ⟨rfl,l3⟩
 have L3:Later w w3:=Later.trans (by repeat (first|with_reducible exact L2|refine Later.setAt ?_ (by omega) _ _|refine Later.alloc ?_ _)) l3
 have z3:w.heap.size+1+1<w3.heap.size:=by have:=l3.size;simp at this;omega
 have y3:w.heap.size+1<w3.heap.size:=by omega
 have x3:w.heap.size<w3.heap.size:=by omega
 obtain⟨hc3,hf3⟩:=bcell l3
 have s3:w2.heap.size≤w3.heap.size:=by have:=l3.size;simp at this;omega
 go_wp2_with fail
 refine (toSts_any _ _ _ (RdL.later (by repeat (first|with_reducible exact L3|refine Later.setAt ?_ (by omega) _ _|refine Later.alloc ?_ _)) h2) (by omega)).mono ?_
 rintro e w4 ⟨b2,q2,G2,rfl,O2,l4⟩
 have L4:Later w w4:=Later.trans (by repeat (first|with_reducible exact L3|refine Later.setAt ?_ (by omega) _ _|refine Later.alloc ?_ _)) l4
 have z4:w.heap.size+1+1<w4.heap.size:=by have:=l4.size;simp at this;omega
 have y4:w.heap.size+1<w4.heap.size:=by omega
 have x4:w.heap.size<w4.heap.size:=by omega
 obtain⟨hc4,hf4⟩:=bcell l4
 have s4:w3.heap.size≤w4.heap.size:=by have:=l4.size;simp at this;omega
 go_wp2_with fail
 refine bodyPost_ret (v:=.agg #[.slice b0 x.name.length q0,.slice b1 x.params.length q1,.int .i64 z_rk,.int .i64 z_rn,.slice b2 x.body.length q2]) (by simp[results,Tryz.results56,go_sem,hc1,y1,hc2,y2,hc3,y3,hc4]) rfl ⟨b0,q0,b1,q1,b2,q2,_,rfl,Own.mk' (HO.out (O0.kept (by repeat (first|with_reducible exact Kept.refl _ _|refine Kept.setAt ?_ (by first|omega|(simp;done)|(simp;omega)) _ _|refine Kept.later ?_ l2|refine Kept.later ?_ l3|refine Kept.later ?_ l4))) (O1.kept (by repeat (first|with_reducible exact Kept.refl _ _|refine Kept.setAt ?_ (by first|omega|(simp;done)|(simp;omega)) _ _|refine Kept.later ?_ l3|refine Kept.later ?_ l4))) (O2.kept (by repeat (first|with_reducible exact Kept.refl _ _|refine Kept.setAt ?_ (by first|omega|(simp;done)|(simp;omega)) _ _)))) (Fr.app (mid:=w1.heap.size) (O0.fr.mono (by first|omega|(simp;done)|(simp;omega)) (by first|omega|(simp;done)|(simp;omega))) (Fr.app (mid:=w2.heap.size) (O1.fr.mono (by first|omega|(simp;done)|(simp;omega)) (by first|omega|(simp;done)|(simp;omega))) (O2.fr.mono (by first|omega|(simp;done)|(simp;omega)) (by first|omega|(simp;done)|(simp;omega))) (by first|omega|(simp;done)|(simp;omega)) (by first|omega|(simp;done)|(simp;omega))) (by first|omega|(simp;done)|(simp;omega)) (by first|omega|(simp;done)|(simp;omega))),(by repeat (first|with_reducible exact L4|refine Later.setAt ?_ (by omega) _ _|refine Later.alloc ?_ _))⟩
theorem Tryz.info50:(Tryz.prog.info? 50).map (fun i=>(i.zero,i.size,i.bytes))=some (some (.agg #[.slice none 0 0,.slice none 0 0,.int .i64 0,.int .i64 0,.slice none 0 0]),5,88):=by kernel_rfl
theorem toFus_any (v:Value) (l:List Fu) (w:World) (h:RdL w 5 v (Fu.dats l)) (hM:Fu.szs l≤1048576) :
  Calls Tryz.prog 28 #[v] w fun e w'=>∃ a c F,e=.returned (.slice a l.length c)∧Own w.heap.size w' (.list 5 (Fu.dats l)) [.slice a l.length c] F∧Later w w':=by
 obtain⟨a,cap,rfl,hl⟩:=Fu.slice h
 have hge:=Fu.szs_ge l
 have hln:l.length≤1048576:=by omega
 obtain⟨i0,hi,hz0,hz1,hz2⟩:=info_parts Tryz.info50
 go_enter Tryz.func28,Tryz.ntmps28
 go_wp2_with (at_make;refine wpList_make_full _ rfl _ _ 29 rfl w.heap.size 50 i0 (.agg #[.slice none 0 0,.slice none 0 0,.int .i64 0,.int .i64 0,.slice none 0 0]) 5 Tryz.underlying29 hi hz0 hz1 .i64 .i64 _ _ l.length rfl rfl rfl rfl (by rw[hz2];omega) (by unfold maxLen;omega) (Nat.le_refl _) ?_;intro w1 hown hgr)
 have hlat1:Later w w1:=(Below.refl _ _).grown hgr (Nat.le_refl _) (fun k h=>by cases h)
 have hrow:Row w w1 5 l.length 0 (Fu.dats l) []:=Row.start hown hown.1 hlat1 _
 clear hown hgr hi hz0 hz1 hz2
 go_loopw [4] (fun i wr=>∃ (j:Nat) (F:List Nat),i=.int .i64 (j:Int)∧j≤l.length∧Row w wr 5 l.length j (Fu.dats l) F) (fun i _=>l.length - (intOf i).toNat)
 case atStart=>exact⟨0,[],rfl,Nat.zero_le _,hrow⟩
 case round =>
  obtain⟨k,F,rfl,hk,hR⟩:=hrel
  by_cases hlt:k<l.length
  ·obtain⟨g,off,v0,v1,v2,rfl,hg,c0,c1,c2,c3,c4,r0,r1,r2⟩:=Fu.elem (RdL.later hR.later h) k hlt
   have i1:(k:Int)<(l.length:Int):=by omega
   have hE:=toFu_any l[k] v0 v1 v2 wr r0 r1 r2 (by have:=Fu.sz_at l k hlt;omega)
   have HD:Hid ((Fu.dats l)[k]'(by rw[Fu.dats_len];exact hlt)=l[k].dat):=Fu.dats_at l k hlt _
   clear r0 r1 r2 hrow hlat1
   go_wp2_with fail
   refine hE.mono ?_
   rintro e w2 ⟨b0,q0,b1,q1,b2,q2,G,rfl,hO,l2⟩
   obtain⟨F',hN'⟩:=Row.next hR (by rw[Fu.dats_len];exact hlt) (Fu.dats_len l) rfl (by rw[HD.out];exact hO) l2
   have hlt2:=hR.lt
   have e0:∃ u,w2.cell? ⟨w.heap.size,k*5,none⟩=some u:=by rw[Below.cell l2 (p:=⟨w.heap.size,k*5,none⟩) hlt2];exact (hR.at hlt 0 (by decide)).1
   obtain⟨y0,e0⟩:=e0
   have f0:w2.frozen? ⟨w.heap.size,k*5,none⟩=false:=by rw[Below.frozen l2 (p:=⟨w.heap.size,k*5,none⟩) hlt2];exact (hR.at hlt 0 (by decide)).2
   have e1:∃ u,w2.cell? ⟨w.heap.size,k*5+1,none⟩=some u:=by rw[Below.cell l2 (p:=⟨w.heap.size,k*5+1,none⟩) hlt2];exact (hR.at hlt 1 (by decide)).1
   obtain⟨y1,e1⟩:=e1
   have f1:w2.frozen? ⟨w.heap.size,k*5+1,none⟩=false:=by rw[Below.frozen l2 (p:=⟨w.heap.size,k*5+1,none⟩) hlt2];exact (hR.at hlt 1 (by decide)).2
   have e2:∃ u,w2.cell? ⟨w.heap.size,k*5+2,none⟩=some u:=by rw[Below.cell l2 (p:=⟨w.heap.size,k*5+2,none⟩) hlt2];exact (hR.at hlt 2 (by decide)).1
   obtain⟨y2,e2⟩:=e2
   have f2:w2.frozen? ⟨w.heap.size,k*5+2,none⟩=false:=by rw[Below.frozen l2 (p:=⟨w.heap.size,k*5+2,none⟩) hlt2];exact (hR.at hlt 2 (by decide)).2
   have e3:∃ u,w2.cell? ⟨w.heap.size,k*5+3,none⟩=some u:=by rw[Below.cell l2 (p:=⟨w.heap.size,k*5+3,none⟩) hlt2];exact (hR.at hlt 3 (by decide)).1
   obtain⟨y3,e3⟩:=e3
   have f3:w2.frozen? ⟨w.heap.size,k*5+3,none⟩=false:=by rw[Below.frozen l2 (p:=⟨w.heap.size,k*5+3,none⟩) hlt2];exact (hR.at hlt 3 (by decide)).2
   have e4:∃ u,w2.cell? ⟨w.heap.size,k*5+4,none⟩=some u:=by rw[Below.cell l2 (p:=⟨w.heap.size,k*5+4,none⟩) hlt2];exact (hR.at hlt 4 (by decide)).1
   obtain⟨y4,e4⟩:=e4
   have f4:w2.frozen? ⟨w.heap.size,k*5+4,none⟩=false:=by rw[Below.frozen l2 (p:=⟨w.heap.size,k*5+4,none⟩) hlt2];exact (hR.at hlt 4 (by decide)).2
   clear hR hO hE h
   go_wp2_with fail
   go_roundw
   case rel=>exact⟨k+1,F',by go_num,by omega,hN'⟩
   case measure=>simp[intOf];omega
  ·have i1:¬ (k:Int)<(l.length:Int):=by omega
   have i2:decide ((k:Int)<(l.length:Int))=false:=decide_eq_false i1
   have hkk:k=l.length:=by omega
   subst hkk
   obtain⟨G,hG⟩:=hR.done (cap:=l.length) (Fu.dats_len l) hln ⟨Nat.le_refl _,by unfold maxLen;omega⟩
   have lr:=hR.later
   clear hR h hrow
   go_wp2_with fail
   go_ret
   exact⟨_,_,rfl,⟨G,hG⟩,lr⟩
theorem So.own {w:World}{x:So}{u0 u1:Value}{F0 F1:List Nat}(h0:OwnD w (.list 2 (Sc.dats x.structs)) [u0] F0) (h1:OwnD w (.list 5 (Fu.dats x.funcs)) [u1] F1):OwnD w x.dat [u0,u1] (F0++(F1)):=by
 obtain⟨structs,funcs⟩:=x
 rw[So.dat,OwnD]
 rw[OwnAgg]
 refine⟨[_],_,F0,_,rfl,rfl,h0,?_⟩
 rw[OwnAgg]
 refine⟨[_],_,F1,[],rfl,(List.append_nil _).symm,h1,?_⟩
 rw[OwnAgg]
 exact⟨rfl,rfl⟩
theorem toSo_any (x:So) (v0 v1:Value) (w:World) (h0:RdL w 2 v0 (Sc.dats x.structs)) (h1:RdL w 5 v1 (Fu.dats x.funcs)) (hsz:x.sz≤1048576) :
  Calls Tryz.prog 9 #[.agg #[v0,v1]] w fun e w'=>∃ b0 q0 b1 q1 F,e=.returned (.agg #[.slice b0 x.structs.length q0,.slice b1 x.funcs.length q1])∧Own w.heap.size w' x.dat [.slice b0 x.structs.length q0,.slice b1 x.funcs.length q1] F∧Later w w':=by
 have HO:Hid (∀ {w':World}{u0 u1:Value}{F0 F1:List Nat},OwnD w' (.list 2 (Sc.dats x.structs)) [u0] F0→OwnD w' (.list 5 (Fu.dats x.funcs)) [u1] F1→OwnD w' x.dat [u0,u1] (F0++(F1))):=fun h0 h1=>So.own h0 h1
 have hsum:x.sz=Sc.szs x.structs+Fu.szs x.funcs:=by obtain⟨structs,funcs⟩:=x;rfl
 obtain⟨a0,p0,rfl,_⟩:=Sc.slice h0
 have hs0:Sc.szs x.structs≤x.sz:=by rw[hsum];omega
 obtain⟨a1,p1,rfl,_⟩:=Fu.slice h1
 have hs1:Fu.szs x.funcs≤x.sz:=by rw[hsum];omega
 clear hsum
 go_enter Tryz.func9,Tryz.ntmps9
 go_wp2_with fail
 refine (toScs_any _ _ _ (RdL.later (by repeat (first|with_reducible exact Later.refl _|refine Later.setAt ?_ (by omega) _ _|refine Later.alloc ?_ _)) h0) (by omega)).mono ?_
 rintro e w1 ⟨b0,q0,G0,rfl,O0,l1⟩
 have L1:Later w w1:=Later.trans (by repeat (first|with_reducible exact Later.refl _|refine Later.setAt ?_ (by omega) _ _|refine Later.alloc ?_ _)) l1
 have z1:w.heap.size+1+1<w1.heap.size:=by have:=l1.size;simp at this;omega
 have y1:w.heap.size+1<w1.heap.size:=by omega
 have x1:w.heap.size<w1.heap.size:=by omega
 obtain⟨hc1,hf1⟩:=bcell l1
 go_wp2_with fail
 refine (toFus_any _ _ _ (RdL.later (by repeat (first|with_reducible exact L1|refine Later.setAt ?_ (by omega) _ _|refine Later.alloc ?_ _)) h1) (by omega)).mono ?_
 rintro e w2 ⟨b1,q1,G1,rfl,O1,l2⟩
 have L2:Later w w2:=Later.trans (by repeat (first|with_reducible exact L1|refine Later.setAt ?_ (by omega) _ _|refine Later.alloc ?_ _)) l2
 have z2:w.heap.size+1+1<w2.heap.size:=by have:=l2.size;simp at this;omega
 have y2:w.heap.size+1<w2.heap.size:=by omega
 have x2:w.heap.size<w2.heap.size:=by omega
 obtain⟨hc2,hf2⟩:=bcell l2
 have s2:w1.heap.size≤w2.heap.size:=by have:=l2.size;simp at this;omega
 go_wp2_with fail
 refine bodyPost_ret (v:=.agg #[.slice b0 x.structs.length q0,.slice b1 x.funcs.length q1]) (by simp[results,Tryz.results9,go_sem,hc1,y1,hc2]) rfl ⟨b0,q0,b1,q1,_,rfl,Own.mk' (HO.out (O0.kept (by repeat (first|with_reducible exact Kept.refl _ _|refine Kept.setAt ?_ (by first|omega|(simp;done)|(simp;omega)) _ _|refine Kept.later ?_ l2))) (O1.kept (by repeat (first|with_reducible exact Kept.refl _ _|refine Kept.setAt ?_ (by first|omega|(simp;done)|(simp;omega)) _ _)))) (Fr.app (mid:=w1.heap.size) (O0.fr.mono (by first|omega|(simp;done)|(simp;omega)) (by first|omega|(simp;done)|(simp;omega))) (O1.fr.mono (by first|omega|(simp;done)|(simp;omega)) (by first|omega|(simp;done)|(simp;omega))) (by first|omega|(simp;done)|(simp;omega)) (by first|omega|(simp;done)|(simp;omega))),(by repeat (first|with_reducible exact L2|refine Later.setAt ?_ (by omega) _ _|refine Later.alloc ?_ _))⟩
end Go.Proofs.YtmdejbphoafjlaaGreatDoor
