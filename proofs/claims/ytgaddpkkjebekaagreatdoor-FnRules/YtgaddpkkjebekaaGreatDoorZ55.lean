import Derived.Test.YtgaddpkkjebekaaGreatDoorZ36
import Derived.Test.YtgaddpkkjebekaaGreatDoorZ54
set_option maxHeartbeats 100000000
set_option maxRecDepth 100000
namespace Go.Proofs.YtgaddpkkjebekaaGreatDoor
open Go.RowKit Go.Maps
structure Chk (zs:List Int) (x:So) (c:Int):Prop where
 by':(zs.all fun z=>decide (0<=z/\z<=255))=true
 len:zs.length<=6000
 par:kU (KL.xY zs) So.ok zs.length=(x,0,0)
 sz:x.sz<=1048576
 put:x.ok=true->x.wnB=true->(So.nb x).funcs.all Fu.jT=true->DC (So.nb x)
 chk:BM x=c
theorem Ia {lx:List PTk × Int}{ok:So->Bool}{n:Nat}{x:So}(h:kU lx ok n=(x,0,0)):uo (fun t=>aY t true) aQ lx.1 (4*lx.1.length+7)=.ok x:=by
 unfold kU at h;split at h
 ·cases h
 ·split at h
  ·cases h
  ·unfold DW at h;split at h
   ·cases h
   ·rename_i y e
    split at h
    ·cases h
     exact e
    ·cases h
theorem OpE.lat {W w:World}(h:OpE W) (hw:Later W w):OpE w:=by
 obtain⟨ss,e⟩:=h.ops;exact⟨Nat.lt_of_lt_of_le h.big hw.size,ss,fun j hj=>⟨by rw[pg (hw.block _ h.big)];exact (e j hj).1,(e j hj).2⟩⟩
theorem GN {zs:List Int}{x:So}{c:Int}(h:Chk zs x c) (w:World) (hE:Env w) (hL:vN w) (hO:OpE w) (hty:TyE w):Calls Tryz.prog 4 #[.string (strOfNums zs)] w fun e w'=>e=.returned (.int .i64 c)/\Later w w':=by
 have hz:∀ j,isB (zs.getD j 0):=fun j=>by
  rw[List.getD_eq_getElem?_getD]
  cases q:zs[j]? with
  | none=>exact⟨by decide,by decide⟩
  | some z =>
   have:=of_decide_eq_true (List.all_eq_true.1 h.by' z (List.mem_of_getElem? q));exact this
 have hlen:=h.len;obtain⟨w1,k,hcv,l1,⟨hlt1,hk1,hk2⟩,hcell⟩:=vz zs hz h.len w
 have hrd:RdB w1 (.slice (some ⟨w.heap.size,0,none⟩) zs.length k) zs:=⟨_,k,rfl,by omega,hz,fun j hj=>⟨w.heap.size,0,rfl,hlt1,by rw[Nat.zero_add];exact (hcell j hj).1⟩⟩
 have HP:=IP _ k zs w1 hrd (by omega) hk1 hk2 (hE.later l1) (hL.later l1) (hO.lat l1);rw[h.par]at HP;have hgd:Fu.aZ x.funcs:=Cm (JY zs).2 (CQ zs) (Ia h.par)
 obtain⟨Q,hQ⟩:∃ Q:Ending->World->Prop,Q=fun e w'=>e=.returned (.int .i64 c)/\Later w w':=⟨_,rfl⟩
 rw[<-hQ];have HZ:Hid (∀ w',Later w w'->Q (.returned (.int .i64 c)) w'):=fun w' r=>by rw[hQ];exact⟨rfl,r⟩
 have HC:Hid (∀ v0 v1 w',Later w w'->RdL w' 2 v0 (Sc.ah x.structs)->RdL w' 5 v1 (Fu.ah x.funcs)->Calls Tryz.prog 6 #[.agg #[v0,v1]] w' (TR c w')):=fun v0 v1 w' l r0 r1=>by
  have:=I8 x v0 v1 w' (hE.later l) (hty.later l) h.sz hgd h.put r0 r1;rw[h.chk]at this;exact this
 generalize strOfNums zs=S at *
 clear hQ hcell hrd hz h hE hL hO hty hgd;go_enter Tryz.func4,Tryz.ntmps4;go_wp2_with fail
 refine HP.mono ?_;rintro e w2 ⟨a0,n0,c0,a1,n1,c1,F,rfl,own,l2⟩;have L2:=l1.trans l2;obtain⟨u0,u1,e,d0,d1⟩:=So.view own.own.rd
 injection e with e0 e1
 injection e1 with e1 _
 subst e0 e1;obtain⟨w3,hw3⟩:=hidx (w2.alloc (.cells #[.slice a0 n0 c0,.slice a1 n1 c1] 28));have l3:Later w2 w3:=by rw[hw3.out];exact ae _ _
 have hb3:Bxx w3 w2.heap.size [.slice a0 n0 c0,.slice a1 n1 c1]:=by rw[hw3.out];exact Bxx.new _ _ _
 obtain⟨⟨⟨q0,_⟩,⟨q1,_⟩⟩,ql⟩:=hb3.duo;have HC3:=HC.out _ _ w3 (L2.trans l3) (RdL.later l3 d0) (RdL.later l3 d1);clear HC HP hcv own d0 d1;go_wp2_with fail
 rw[<-hw3.out];refine HC3.mono ?_;rintro e w4 ⟨⟨b0,m0,p0,b1,m1,p1,rfl⟩,l4⟩;have HZ4:Hid (∀ w',Later w4 w'->Q (.returned (.int .i64 c)) w'):=fun w' r=>HZ.out w' (((L2.trans l3).trans l4).trans r);clear HZ HC3 q0 q1 ql;go_wp2_with fail
 exact HZ4.out _ (ae _ _)
def rt0:List Int:=[102,117,110,99,32,109,97,105,110,32,40,32,41,32,123,32,125]
def rx0:So:=.mk [] [.mk [109,97,105,110] [] (0) (0) []]
def rt1:List Int:=[102,117,110,99,32,102,32,40,32,41,32,123,32,125]
def rx1:So:=.mk [] [.mk [102] [] (0) (0) []]
def rt2:List Int:=[102,117,110,99,32,109,97,105,110,32,40,32,41,32,123,32,112,114,105,110,116,32,120,32,59,32,125]
def rx2:So:=.mk [] [.mk [109,97,105,110] [] (0) (0) [.mk (5) (0) (0) (0) [] [.mk (3) (0) (0) (0) [120] []] [] []]]
def rt3:List Int:=[102,117,110,99,32,109,97,105,110,32,40,32,41,32,123,32,105,102,32,49,32,123,32,118,97,114,32,120,32,105,110,116,32,59,32,125,32,101,108,115,101,32,123,32,125,32,112,114,105,110,116,32,120,32,59,32,125]
def rx3:So:=.mk [] [.mk [109,97,105,110] [] (0) (0) [.mk (2) (0) (0) (0) [] [.mk (0) (1) (0) (0) [] []] [.mk (0) (0) (1) (0) [120] [] [] []] [],.mk (5) (0) (0) (0) [] [.mk (3) (0) (0) (0) [120] []] [] []]]
def rt4:List Int:=[102,117,110,99,32,102,32,40,32,41,32,105,110,116,32,123,32,125,32,102,117,110,99,32,109,97,105,110,32,40,32,41,32,123,32,125]
def rx4:So:=.mk [] [.mk [102] [] (1) (0) [],.mk [109,97,105,110] [] (0) (0) []]
def rt5:List Int:=[102,117,110,99,32,102,32,40,32,41,32,105,110,116,32,123,32,105,102,32,49,32,123,32,114,101,116,117,114,110,32,49,32,59,32,125,32,101,108,115,101,32,123,32,112,97,110,105,99,32,50,32,59,32,125,32,125,32,102,117,110,99,32,109,97,105,110,32,40,32,41,32,123,32,125]
def rx5:So:=.mk [] [.mk [102] [] (1) (0) [.mk (2) (0) (0) (0) [] [.mk (0) (1) (0) (0) [] []] [.mk (4) (0) (0) (0) [] [.mk (0) (1) (0) (0) [] []] [] []] [.mk (6) (0) (0) (0) [] [.mk (0) (2) (0) (0) [] []] [] []]],.mk [109,97,105,110] [] (0) (0) []]
def rt6:List Int:=[102,117,110,99,32,109,97,105,110,32,40,32,41,32,123,32,114,101,116,117,114,110,32,59,32,112,114,105,110,116,32,49,32,59,32,125]
def rx6:So:=.mk [] [.mk [109,97,105,110] [] (0) (0) [.mk (4) (0) (0) (0) [] [] [] [],.mk (5) (0) (0) (0) [] [.mk (0) (1) (0) (0) [] []] [] []]]
def rt7:List Int:=[102,117,110,99,32,109,97,105,110,32,40,32,41,32,123,32,112,114,105,110,116,32,40,32,49,32,43,32,48,102,51,102,102,48,48,48,48,48,48,48,48,48,48,48,48,48,32,41,32,59,32,125]
def rx7:So:=.mk [] [.mk [109,97,105,110] [] (0) (0) [.mk (5) (0) (0) (0) [] [.mk (10) (0) (0) (0) [] [.mk (0) (1) (0) (0) [] [],.mk (1) (4607182418800017408) (0) (0) [] []]] [] []]]
def rt8:List Int:=[116,121,112,101,32,80,32,115,116,114,117,99,116,32,123,32,110,32,42,32,80,32,59,32,125,32,102,117,110,99,32,109,97,105,110,32,40,32,41,32,123,32,118,97,114,32,112,32,42,32,80,32,59,32,112,32,61,32,110,101,119,32,80,32,59,32,112,114,105,110,116,32,40,32,112,32,46,32,110,32,61,61,32,110,105,108,32,80,32,41,32,59,32,125]
def rx8:So:=.mk [.mk [80] [.mk [110] (3) (0)]] [.mk [109,97,105,110] [] (0) (0) [.mk (0) (0) (3) (0) [112] [] [] [],.mk (1) (0) (0) (0) [] [.mk (3) (0) (0) (0) [112] [],.mk (4) (0) (0) (0) [] []] [] [],.mk (5) (0) (0) (0) [] [.mk (10) (6) (0) (0) [] [.mk (7) (0) (0) (0) [110] [.mk (3) (0) (0) (0) [112] []],.mk (2) (0) (0) (0) [] []]] [] []]]
set_option maxRecDepth 100000
theorem rput0:DC rx0:=by
 refine⟨⟨fun t h=>(by cases h),?_,?_⟩,?_⟩
 ·simp[rx0,So.funcs,So.structs,iF,Fu.rk,Fu.rn]
 ·simp[rx0,So.structs,Sc.fields,iF,Pa.tk,Pa.tn]
 ·simp[rx0,So.funcs,So.structs,Fu.params,Fu.body,iF,St.fits,St.nums]
theorem rc0:Chk rt0 rx0 0:=⟨by kernel_rfl,by decide,by kernel_rfl,by decide +kernel,(fun _ _ _=>by rw[show So.nb rx0=rx0 by kernel_rfl];exact rput0),by kernel_rfl⟩
theorem rc1:Chk rt1 rx1 2:=⟨by kernel_rfl,by decide,by kernel_rfl,by decide +kernel,(fun _ h _=>by rw[show rx1.wnB=false by kernel_rfl]at h;cases h),by kernel_rfl⟩
theorem rc2:Chk rt2 rx2 2:=⟨by kernel_rfl,by decide,by kernel_rfl,by decide +kernel,(fun _ h _=>by rw[show rx2.wnB=false by kernel_rfl]at h;cases h),by kernel_rfl⟩
theorem rc3:Chk rt3 rx3 2:=⟨by kernel_rfl,by decide,by kernel_rfl,by decide +kernel,(fun _ h _=>by rw[show rx3.wnB=false by kernel_rfl]at h;cases h),by kernel_rfl⟩
theorem rc4:Chk rt4 rx4 3:=⟨by kernel_rfl,by decide,by kernel_rfl,by decide +kernel,(fun _ _ h=>by rw[show (So.nb rx4).funcs.all Fu.jT=false by kernel_rfl]at h;cases h),by kernel_rfl⟩
theorem rput5:DC rx5:=by
 refine⟨⟨fun t h=>(by cases h),?_,?_⟩,?_⟩
 ·simp[rx5,So.funcs,So.structs,iF,Fu.rk,Fu.rn]
 ·simp[rx5,So.structs,Sc.fields,iF,Pa.tk,Pa.tn]
 ·simp[rx5,So.funcs,So.structs,Fu.params,Fu.body,iF,St.fits,St.fit,Ex.fits,Ex.fit,Jh,St.decls,St.decl,St.nums,St.num,jk]
theorem rc5:Chk rt5 rx5 0:=⟨by kernel_rfl,by decide,by kernel_rfl,by decide +kernel,(fun _ _ _=>by rw[show So.nb rx5=rx5 by kernel_rfl];exact rput5),by kernel_rfl⟩
theorem rc6:Chk rt6 rx6 3:=⟨by kernel_rfl,by decide,by kernel_rfl,by decide +kernel,(fun _ _ h=>by rw[show (So.nb rx6).funcs.all Fu.jT=false by kernel_rfl]at h;cases h),by kernel_rfl⟩
theorem rput7:DC rx7:=by
 refine⟨⟨fun t h=>(by cases h),?_,?_⟩,?_⟩
 ·simp[rx7,So.funcs,So.structs,iF,Fu.rk,Fu.rn]
 ·simp[rx7,So.structs,Sc.fields,iF,Pa.tk,Pa.tn]
 ·simp[rx7,So.funcs,So.structs,Fu.params,Fu.body,iF,St.fits,St.fit,Ex.fits,Ex.fit,Jh,St.nums,St.num]
theorem rc7:Chk rt7 rx7 4:=⟨by kernel_rfl,by decide,by kernel_rfl,by decide +kernel,(fun _ _ _=>by rw[show So.nb rx7=rx7 by kernel_rfl];exact rput7),by kernel_rfl⟩
theorem rput8:DC rx8:=by
 refine⟨⟨fun t h=>(by cases h),?_,?_⟩,?_⟩
 ·simp[rx8,So.funcs,So.structs,iF,Fu.rk,Fu.rn]
 ·simp[rx8,So.structs,Sc.fields,iF,Pa.tk,Pa.tn]
 ·simp[rx8,So.funcs,So.structs,Fu.params,Fu.body,iF,St.fits,St.fit,Ex.fits,Ex.fit,Jh,St.decls,St.decl,St.nums,St.num,jk]
theorem rc8:Chk rt8 rx8 0:=⟨by kernel_rfl,by decide,by kernel_rfl,by decide +kernel,(fun _ _ _=>by rw[show So.nb rx8=rx8 by kernel_rfl];exact rput8),by kernel_rfl⟩
theorem Ir (v:Value) (w:World) (hE:Env w) (hL:vN w) (hO:OpE w) (hty:TyE w):Calls Tryz.prog 3 #[v] w fun e w'=>e=.returned (.bool true)/\Later w w':=by
 have H:Hid (∀ {zs:List Int}{x:So}{c:Int},Chk zs x c->∀ w',Later w w'->Calls Tryz.prog 4 #[.string (strOfNums zs)] w' fun e w2=>e=.returned (.int .i64 c)/\Later w' w2):=fun h w' l=>GN h w' (hE.later l) (hL.later l) (hO.lat l) (hty.later l)
 obtain⟨Q,hQ⟩:∃ Q:Ending->World->Prop,Q=fun e w'=>e=.returned (.bool true)/\Later w w':=⟨_,rfl⟩
 rw[<-hQ];have HZ:Hid (∀ w',Later w w'->Q (.returned (.bool true)) w'):=fun w' r=>by rw[hQ];exact⟨rfl,r⟩
 clear hQ hE hL hO hty;have l0:=Later.refl w;go_enter Tryz.func3,Tryz.ntmps3;go_wp2_with fail
 refine (H.out rc0 w l0).mono ?_;rintro e w1 ⟨rfl,q0⟩;have l1:=l0.trans q0;go_wp2_with fail
 refine (H.out rc1 w1 l1).mono ?_;rintro e w2 ⟨rfl,q1⟩;have l2:=l1.trans q1;go_wp2_with fail
 refine (H.out rc2 w2 l2).mono ?_;rintro e w3 ⟨rfl,q2⟩;have l3:=l2.trans q2;go_wp2_with fail
 refine (H.out rc3 w3 l3).mono ?_;rintro e w4 ⟨rfl,q3⟩;have l4:=l3.trans q3;go_wp2_with fail
 refine (H.out rc4 w4 l4).mono ?_;rintro e w5 ⟨rfl,q4⟩;have l5:=l4.trans q4;go_wp2_with fail
 refine (H.out rc5 w5 l5).mono ?_;rintro e w6 ⟨rfl,q5⟩;have l6:=l5.trans q5;go_wp2_with fail
 refine (H.out rc6 w6 l6).mono ?_;rintro e w7 ⟨rfl,q6⟩;have l7:=l6.trans q6;go_wp2_with fail
 refine (H.out rc7 w7 l7).mono ?_;rintro e w8 ⟨rfl,q7⟩;have l8:=l7.trans q7;go_wp2_with fail
 refine (H.out rc8 w8 l8).mono ?_;rintro e w9 ⟨rfl,q8⟩;have l9:=l8.trans q8;have HF:=HZ.out _ l9;go_wp2_with fail
 exact HF
end Go.Proofs.YtgaddpkkjebekaaGreatDoor
