import Derived.Test.YtjnpncefkigcbaaGreatIk
import Derived.Test.YtjnpncefkigcbaaGreatHr
set_option maxHeartbeats 100000000
set_option maxRecDepth 100000
namespace Go.Proofs.YtjnpncefkigcbaaGreat
open Go.RowKit Go.Lib Go.Maps
def mcW (W:Nat→Int) (base T B:Nat) (L:List Nat) (j:Nat):Nat→Int:=fun a=>if a∈(L.take j).map (fun f=>B+(f - base)) then mvW W B base (T - base) a+((B:Int) - base) else mvW W B base (T - base) a
structure McI (W:Nat→Int) (base fp T B:Nat) (L:List Nat):Prop where
 hd:L[0]?=some fp
 nd:L.Nodup
 ft:B+(fp - base)<12000
 rg:∀ f∈L,base≤f∧f≤fp
 nx:∀ j (hj:j<L.length),(∀ (h:j+1<L.length),mvW W B base (T - base) (B+(L[j] - base))=((L[j+1]:Nat):Int)∧0<L[j+1]∧L[j+1]<L[j])∧(j+1=L.length→mvW W B base (T - base) (B+(L[j] - base))=0)
theorem mcW_zero {W:Nat→Int}{base T B:Nat}{L:List Nat}(a:Nat):mcW W base T B L 0 a=mvW W B base (T - base) a:=by
 unfold mcW;rw[List.take_zero,if_neg (by simp)]
theorem mcW_at {W:Nat→Int}{base fp T B:Nat}{L:List Nat}(h:McI W base fp T B L) {j:Nat}(hj:j<L.length):mcW W base T B L j (B+(L[j] - base))=mvW W B base (T - base) (B+(L[j] - base)):=by
 unfold mcW;rw[if_neg];intro hm;obtain⟨f,hf,e⟩:=List.mem_map.1 hm;obtain⟨i,hi,e1⟩:=List.mem_iff_getElem.1 hf;rw[List.getElem_take]at e1;rw[List.length_take]at hi;have r1:=h.rg _ (List.mem_of_mem_take hf);have r2:=h.rg _ (List.getElem_mem hj);exact List.pairwise_iff_getElem.1 h.nd i j (by omega) hj (by omega) (by omega)
theorem mcW_step {W:Nat→Int}{base T B:Nat}{L:List Nat}{j:Nat}(hj:j<L.length) (a:Nat):mcW W base T B L (j+1) a=fset (mcW W base T B L j) (B+(L[j] - base)) (mvW W B base (T - base) (B+(L[j] - base))+((B:Int) - base)) a:=by
 unfold fset;by_cases e:a=B+(L[j] - base)
 ·rw[if_pos e,e];unfold mcW;rw[if_pos];exact List.mem_map.2 ⟨L[j],by rw[List.take_succ_eq_append_getElem hj];exact List.mem_append_right _ (List.mem_singleton.2 rfl),rfl⟩
 ·rw[if_neg e];unfold mcW
  have:(a∈(L.take (j+1)).map (fun f=>B+(f - base)))↔(a∈(L.take j).map (fun f=>B+(f - base))):=by
   rw[List.take_succ_eq_append_getElem hj,List.map_append,List.mem_append];refine⟨fun k=>?_,fun k=>.inl k⟩;rcases k with k|k
   ·exact k
   ·exact absurd (List.mem_singleton.1 k) e
  simp only[this]
def LmQ (C:Mx) (w:World) (s:Vm) (q:Mq) (T z:Nat) (L:List Nat) (iv ov:Value) (n:Ending) (w':World):Prop :=
 (12000<cpB s z+z→n=.returned (.bool false)∧Mv C w' s q iv ov∧OnlyL C w w') ∧
 (¬ 12000<cpB s z+z→n=.returned (.bool true)∧Mv C w' { s with base:=cpB s z,size:=z,fp:=cpB s z+(s.fp - s.base),copies:=s.copies+1 } { q with W:=mcW q.W s.base T (cpB s z) L (L.length - 1) } iv ov∧OnlyL C w w')
theorem lmove_any {C:Mx}(hC:MxI C) {w:World}{s:Vm}{q:Mq}{iv ov:Value}(h:Mv C w s q iv ov) {T z:Nat}{L:List Nat}(b1:1≤s.base) (bT:s.base≤T) (Ts:T≤s.base+s.size) (bs:s.base+s.size≤12000) (Tz:T≤s.base+z) (hz2:z≤100000) (hcp:s.copies≤1000000) (hf1:s.base≤s.fp) (hL:¬ 12000<cpB s z+z→McI q.W s.base s.fp T (cpB s z) L) :
  Calls Tryz.prog 46 #[.pointer (some ⟨C.K,0,none⟩),.int .i64 (z:Int),.int .i64 (T:Int)] w (LmQ C w s q T z L iv ov):=by
 have hN:=hC.hN
 have HNo:Hid (∀ w',12000<cpB s z+z→Later w w'→LmQ C w s q T z L iv ov (.returned (.bool false)) w'):=fun w' hb l=>⟨fun _=>⟨rfl,h.kept l,OnlyL.of_later l⟩,fun k=>absurd hb k⟩
 have HYe:Hid (∀ w',¬ 12000<cpB s z+z→Mv C w' { s with base:=cpB s z,size:=z,fp:=cpB s z+(s.fp - s.base),copies:=s.copies+1 } { q with W:=mcW q.W s.base T (cpB s z) L (L.length - 1) } iv ov→OnlyL C w w'→LmQ C w s q T z L iv ov (.returned (.bool true)) w'):=fun w' hb p o=>⟨fun k=>absurd k hb,fun _=>⟨rfl,p,o⟩⟩
 obtain⟨B,hB⟩:∃ B,B=cpB s z:=⟨_,rfl⟩
 have HB:Hid (B=if 1+z≤s.base then 1 else s.base+s.size):=hB;rw[←hB]at HNo HYe hL;have HL:Hid (¬ 12000<B+z→McI q.W s.base s.fp T B L):=hL;clear hB hL;have c8:=h.c8.1;have c9:=h.c9.1
 generalize LmQ C w s q T z L iv ov=Q at *
 obtain⟨z1,hz1⟩:∃ z1,z1=1+z:=⟨_,rfl⟩
 have g1:(1:Int)+(z:Int)=(z1:Int):=by omega
 have g2:(z1:Int)≤200000:=by omega
 have g3:(s.base:Int)≤12000:=by omega
 have g4:(s.size:Int)≤12000:=by omega
 obtain⟨bz0,hbz0⟩:∃ bz0,bz0=s.base+s.size:=⟨_,rfl⟩
 have g6:(s.base:Int)+(s.size:Int)=(bz0:Int):=by omega
 have g7:(bz0:Int)≤24000:=by omega
 have hhz:Hid (z1=1+z∧bz0=s.base+s.size):=⟨hz1,hbz0⟩
 have HM:Hid (Mv C w s q iv ov):=h;clear hz1 hbz0 h hN;go_enter Tryz.func46,Tryz.ntmps46;go_wp2_with fail
 go_quiet (fail)
 go_upto_if 26 with fail
 go_cut [7] from 8 (fun s7 wx=>s7=.int .i64 (B:Int)∧Hid (Later w wx))
 case first =>
  have HB2:=HB.out;have hz3:=hhz.out;by_cases hb:1+z≤s.base
  ·rw[if_pos hb]at HB2;have g5:(z1:Int)≤(s.base:Int):=by omega
   clear HNo HYe HB HM HL hhz hz3;go_wp2_with fail
   go_meet
   case rel=>exact⟨by rw[HB2];rfl,Later.drewN' _ _⟩
  ·rw[if_neg hb]at HB2;have g5:¬ (z1:Int)≤(s.base:Int):=by omega
   have g8:decide ((z1:Int)≤(s.base:Int))=false:=decide_eq_false g5;have g9:(bz0:Int)=(B:Int):=by omega
   clear HNo HYe HB HM HL hhz hz3 HB2;go_wp2_with fail
   go_meet
   case rel=>exact⟨rfl,Later.drewN' _ _⟩
 case rest =>
  obtain⟨rfl,lw⟩:=hcut;have HB2:=HB.out;have hBb:1≤B∧B≤12000:=by rw[HB2];split <;> omega
  obtain⟨bz,hbz⟩:∃ bz,bz=B+z:=⟨_,rfl⟩
  have e5:(B:Int)+(z:Int)=(bz:Int):=by omega
  have e6:(bz:Int)≤200000:=by omega
  have hbz2:Hid (bz=B+z):=hbz;clear hbz;by_cases hno:12000<bz
  ·have HZ:=HNo.out wc (by have:=hbz2.out;omega) lw.out;have e7:(12000:Int)<(bz:Int):=by omega
   clear HNo HYe HM HB HB2 c8 c9 HL;go_wp2_with fail
   first|exact HZ|(go_ret;exact HZ)
  ·have hbB:=hbz2.out;have e7:¬ ((12000:Int)<(bz:Int)):=by omega
   have e8:decide ((12000:Int)<(bz:Int))=false:=decide_eq_false e7;have hM:=HL.out (by omega);have HMc:Hid (McI q.W s.base s.fp T B L):=hM
   obtain⟨len,hlen⟩:∃ len,len=T - s.base:=⟨_,rfl⟩
   have HY:Hid (∀ w',Mv C w' { s with base:=B,size:=z,fp:=B+(s.fp - s.base),copies:=s.copies+1 } { q with W:=mcW q.W s.base T B L (L.length - 1) } iv ov→OnlyL C w w'→Q (.returned (.bool true)) w'):=fun w'=>HYe.out w' (by omega)
   have M0:Hid (Mv C wc s { q with W:=mvW q.W B s.base 0 } iv ov∧OnlyL C w wc):=⟨(HM.out.kept lw.out).convW rfl (fun b _=>by show mvW q.W B s.base 0 b=q.W b;unfold mvW;rw[if_neg (by omega)]),OnlyL.of_later lw.out⟩
   have hN:=hC.hN;have hap:B+len≤s.base∨T≤B:=by rw[HB2];split <;> omega
   have HAt:Hid (∀ k,k<len→s.base+k<C.N∧B+k<C.N):=fun k hk=>by omega
   have HSt:Hid (∀ wr j,j<len→Mv C wr s { q with W:=mvW q.W B s.base j } iv ov→Mv C (wr.setCell ⟨C.WB,B+j,none⟩ (.int .i64 (q.W (s.base+j)))) s { q with W:=mvW q.W B s.base (j+1) } iv ov):=fun wr j hj m=>by
    have m1:=m.setW hC (a:=B+j) (by have:=HAt.out j (by omega);omega) (q.W (s.base+j));refine m1.convW rfl (fun b _=>?_);show mvW q.W B s.base (j+1) b=fset (mvW q.W B s.base j) (B+j) (q.W (s.base+j)) b;unfold fset mvW;by_cases e1:b=B+j
    ·subst e1;rw[if_pos rfl,if_pos (by omega),show B+j - B+s.base=s.base+j by omega]
    ·rw[if_neg e1];by_cases e2:B≤b∧b<B+j
     ·rw[if_pos e2,if_pos (by omega)]
     ·rw[if_neg e2,if_neg (by omega)]
   have HRd:Hid (∀ wr j,j<len→Mv C wr s { q with W:=mvW q.W B s.base j } iv ov→wr.cell? ⟨C.K,3,none⟩=some (.slice (some ⟨C.WB,0,none⟩) C.N C.N)∧wr.cell? ⟨C.WB,s.base+j,none⟩=some (.int .i64 (q.W (s.base+j)))∧(∃ u,wr.cell? ⟨C.WB,B+j,none⟩=some u)∧wr.frozen? ⟨C.WB,B+j,none⟩=false):=fun wr j hj m=>by
    have hb:=HAt.out j hj;have w1:=m.word (a:=s.base+j) hb.1;have w2:=m.word (a:=B+j) hb.2;refine⟨m.c3.1,?_,⟨_,w2.1⟩,w2.2⟩;rw[w1.1];show some (Value.int .i64 (mvW q.W B s.base j (s.base+j)))=_;unfold mvW;rw[if_neg (by omega)]
   have HX:Hid (∀ wx W,Mv C wx s { q with W:=W } iv ov→wx.cell? ⟨C.K,10,none⟩=some (.int .i64 (s.fp:Int))∧(∃ u,wx.cell? ⟨C.K,8,none⟩=some u)∧(∃ u,wx.cell? ⟨C.K,9,none⟩=some u)∧wx.frozen? ⟨C.K,8,none⟩=false∧wx.frozen? ⟨C.K,9,none⟩=false∧wx.frozen? ⟨C.K,10,none⟩=false):=fun wx W m=>⟨m.c10.1,⟨_,m.c8.1⟩,⟨_,m.c9.1⟩,m.c8.2,m.c9.2,m.c10.2⟩
   obtain⟨nf,hnf⟩:∃ nf,nf=B+(s.fp - s.base):=⟨_,rfl⟩
   have hft:=hM.ft;have e9:(s.fp:Int)+((B:Int) - (s.base:Int))=(nf:Int):=by omega
   have e10:(nf:Int)≤12000:=by omega
   have HM2:Hid (∀ wx W,Mv C wx s { q with W:=W } iv ov→Mv C (((wx.setCell ⟨C.K,8,none⟩ (.int .i64 (B:Int))).setCell ⟨C.K,9,none⟩ (.int .i64 (z:Int))).setCell ⟨C.K,10,none⟩ (.int .i64 (nf:Int))) { s with base:=B,size:=z,fp:=nf } { q with W:=W } iv ov):=fun wx W m=>by
    have m1:=m.setK hC (s':={ s with base:=B }) (q':={ q with W:=W }) (o:=8) (v:=.int .i64 (B:Int)) (by decide) (map_ext rfl) rfl rfl rfl rfl rfl;have m2:=m1.setK hC (s':={ s with base:=B,size:=z }) (q':={ q with W:=W }) (o:=9) (v:=.int .i64 (z:Int)) (by decide) (map_ext rfl) rfl rfl rfl rfl rfl;exact m2.setK hC (s':={ s with base:=B,size:=z,fp:=nf }) (q':={ q with W:=W }) (o:=10) (v:=.int .i64 (nf:Int)) (by decide) (map_ext rfl) rfl rfl rfl rfl rfl
   have HMz:Hid (∀ wx,Mv C wx { s with base:=B,size:=z,fp:=nf } { q with W:=mvW q.W B s.base len } iv ov→Mv C wx { s with base:=B,size:=z,fp:=nf } { q with W:=mcW q.W s.base T B L 0 } iv ov):=fun wx m=>m.convW rfl (fun b _=>by show mcW q.W s.base T B L 0 b=mvW q.W B s.base len b;rw[mcW_zero,hlen])
   obtain⟨cc,hcc⟩:∃ cc,cc=s.copies+1:=⟨_,rfl⟩
   have k1:(s.copies:Int)+1=(cc:Int):=by omega
   have k2:(cc:Int)≤1000001:=by omega
   have HEnd:Hid (∀ wr,Mv C wr { s with base:=B,size:=z,fp:=nf } { q with W:=mcW q.W s.base T B L (L.length - 1) } iv ov→OnlyL C w wr→Q (.returned (.bool true)) (wr.setCell ⟨C.K,21,none⟩ (.int .i64 (cc:Int)))):=fun wr m o=>by
    have m1:=m.setK hC (s':={ s with base:=B,size:=z,fp:=nf,copies:=cc }) (q':={ q with W:=mcW q.W s.base T B L (L.length - 1) }) (o:=21) (v:=.int .i64 (cc:Int)) (by decide) (map_ext rfl) rfl rfl rfl rfl rfl;rw[hnf,hcc]at m1;rw[hcc];exact HY.out _ m1 (o.setK _ _)
   have HRk:Hid (∀ wr W,Mv C wr { s with base:=B,size:=z,fp:=nf } { q with W:=W } iv ov→wr.cell? ⟨C.K,3,none⟩=some (.slice (some ⟨C.WB,0,none⟩) C.N C.N)∧wr.cell? ⟨C.K,21,none⟩=some (.int .i64 (s.copies:Int))∧wr.frozen? ⟨C.K,21,none⟩=false):=fun wr W m=>⟨m.c3.1,m.c21.1,m.c21.2⟩
   have hhd:=hM.hd
   have hLl:0<L.length:=by
    rcases Nat.eq_zero_or_pos L.length with k|k
    ·rw[List.getElem?_eq_none (by omega)]at hhd;cases hhd
    ·exact k
   have HS0:Hid (∃ hj:0<L.length,nf=B+(L[0] - s.base)):=⟨hLl,by rw[List.getElem?_eq_getElem hLl]at hhd;rw[Option.some.inj hhd,hnf]⟩
   have k3:(T:Int)≤12000:=by omega
   have k4:(B:Int)≤12000:=by omega
   have k5:(1:Int)≤(B:Int):=by omega
   have k6:(s.fp:Int)≤24000:=by omega
   have HTl:Hid (T=s.base+len∧B+len≤12000∧12000≤C.N):=⟨by omega,by omega,by omega⟩
   have d1:=hC.d1;have d8:=(HM.out.kept lw.out).c8.1;clear HNo HYe HL HB HM hM hlen hnf hft hcc HB2 hhd hLl hbB hN hhz hbz2;go_wp2_with fail
   go_loopw [9] (fun i wr=>∃ j:Nat,i=.int .i64 ((s.base+j:Nat):Int)∧j≤len∧Hid (Mv C wr s { q with W:=mvW q.W B s.base j } iv ov∧OnlyL C w wr)) (fun i _=>s.base+len - (intOf i).toNat)
   case atStart=>exact⟨0,rfl,Nat.zero_le _,M0⟩
   case round =>
    obtain⟨j,rfl,hj,HJ⟩:=hrel;clear M0 c8 c9 d8;have hTl:=HTl.out
    obtain⟨aj,haj⟩:∃ aj,aj=s.base+j:=⟨_,rfl⟩
    rw[←haj];by_cases hlt:j<len
    ·have i2:(aj:Int)<(T:Int):=by omega
     obtain⟨e3,ea,⟨ub,eb⟩,zb⟩:=HRd.out wr j hlt HJ.out.1
     have M1:Hid (Mv C (wr.setCell ⟨C.WB,B+j,none⟩ (.int .i64 (q.W (s.base+j)))) s { q with W:=mvW q.W B s.base (j+1) } iv ov∧OnlyL C w (wr.setCell ⟨C.WB,B+j,none⟩ (.int .i64 (q.W (s.base+j))))):=⟨HSt.out wr j hlt HJ.out.1,HJ.out.2.setW _ _⟩
     obtain⟨fj,hfj⟩:∃ fj,fj=B+j:=⟨_,rfl⟩
     rw[←haj,← hfj]at M1;rw[←haj]at ea;rw[←hfj]at eb zb;have x1:(aj:Int)+((B:Int) - (s.base:Int))=(fj:Int):=by omega
     have x3:(aj:Int)<(C.N:Int):=by omega
     have x4:(fj:Int)<(C.N:Int):=by omega
     have x5:(aj:Int)≤50000:=by omega
     have x6:(fj:Int)≤50000:=by omega
     have hsj:Hid ((aj:Int)+1=((s.base+(j+1):Nat):Int)):=by show _=_;omega
     have haj2:Hid (aj=s.base+j):=haj;clear HRd HSt HJ HEnd HX HAt HM2 HMz HRk HS0 HTl hfj HMc HY haj hTl
     generalize q.W aj=V at *
     go_wp2_with fail
     go_region
     go_wp2_with fail
     go_roundw
     case rel=>exact⟨j+1,by rw[←hsj.out],by omega,M1.out.1.kept (Later.drew _),M1.out.2.trans (OnlyL.of_later (Later.drew _))⟩
     case measure=>have:=haj2.out;simp[intOf];omega
    ·have i2:¬ (aj:Int)<(T:Int):=by omega
     have i3:decide ((aj:Int)<(T:Int))=false:=decide_eq_false i2;obtain rfl:j=len:=by omega
     obtain⟨y10,⟨u8,y8⟩,⟨u9,y9⟩,f8,f9,f10⟩:=HX.out wr _ HJ.out.1
     have M2:Hid (Mv C (((wr.setCell ⟨C.K,8,none⟩ (.int .i64 (B:Int))).setCell ⟨C.K,9,none⟩ (.int .i64 (z:Int))).setCell ⟨C.K,10,none⟩ (.int .i64 (nf:Int))) { s with base:=B,size:=z,fp:=nf } { q with W:=mcW q.W s.base T B L 0 } iv ov∧OnlyL C w (((wr.setCell ⟨C.K,8,none⟩ (.int .i64 (B:Int))).setCell ⟨C.K,9,none⟩ (.int .i64 (z:Int))).setCell ⟨C.K,10,none⟩ (.int .i64 (nf:Int)))):=⟨HMz.out _ (HM2.out _ _ HJ.out.1),((HJ.out.2.setK _ _).setK _ _).setK _ _⟩
     clear HRd HSt HJ HX HAt HM2 HMz hTl haj hj hlt;go_wp2_with fail
     go_loopw [10] (fun i wr=>∃ (j:Nat) (hj:j<L.length),i=.int .i64 ((B+(L[j] - s.base):Nat):Int)∧Hid (Mv C wr { s with base:=B,size:=z,fp:=nf } { q with W:=mcW q.W s.base T B L j } iv ov∧OnlyL C w wr)) (fun i _=>(intOf i).toNat)
     case atStart =>
      obtain⟨hj,e0⟩:=HS0.out;exact⟨0,hj,by rw[e0],M2⟩
     case round =>
      obtain⟨j,hj,rfl,HJ⟩:=hrel;clear M2 y10 y8 y9 f8 f9 f10 i2 i3;have hMc:=HMc.out;have hat:=mcW_at hMc hj;have hnx:=hMc.nx j hj;have hst:=mcW_step (W:=q.W) (base:=s.base) (T:=T) (B:=B) hj;have hr:=hMc.rg _ (List.getElem_mem hj);have hft:=hMc.ft;have hTl:=HTl.out
      obtain⟨ad,had⟩:∃ ad,ad=B+(L[j] - s.base):=⟨_,rfl⟩
      rw[←had]at hat hnx hst;rw[←had];have haN:ad<C.N:=by omega
      obtain⟨cw,fw⟩:=HJ.out.1.word haN;have cw':wr.cell? ⟨C.WB,ad,none⟩=some (.int .i64 (mvW q.W B s.base (T - s.base) ad)):=by rw[←hat];exact cw
      obtain⟨y3,y21,f21⟩:=HRk.out wr _ HJ.out.1;have x1:(ad:Int)<(C.N:Int):=by omega
      have x2:(ad:Int)≤24000:=by omega
      clear cw;by_cases hjl:j+1<L.length
      ·obtain⟨hn1,hn2,hn3⟩:=hnx.1 hjl;have hr2:=hMc.rg _ (List.getElem_mem hjl)
       obtain⟨f2,hf2⟩:∃ f2,f2=L[j+1]:=⟨_,rfl⟩
       rw[←hf2]at hn1 hn2 hn3 hr2;rw[hn1]at hst cw'
       obtain⟨ad2,had2⟩:∃ ad2,ad2=B+(f2 - s.base):=⟨_,rfl⟩
       have x3:(f2:Int)+((B:Int) - (s.base:Int))=(ad2:Int):=by omega
       rw[x3]at hst;have x4:(ad2:Int)≤24000:=by omega
       have x5:((f2:Int) != 0)=true:=by simp;omega
       have x6:(f2:Int)≤24000:=by omega
       have M3:Hid (Mv C (wr.setCell ⟨C.WB,ad,none⟩ (.int .i64 (ad2:Int))) { s with base:=B,size:=z,fp:=nf } { q with W:=mcW q.W s.base T B L (j+1) } iv ov∧OnlyL C w (wr.setCell ⟨C.WB,ad,none⟩ (.int .i64 (ad2:Int)))):=⟨(HJ.out.1.setW hC haN (ad2:Int)).convW rfl (fun b _=>hst b),HJ.out.2.setW _ _⟩
       have HX2:Hid (ad2=B+(L[j+1] - s.base)):=by rw[had2,hf2];rfl
       have hms:Hid (ad2<ad):=by show _<_;omega
       clear HEnd HRk HS0 HTl HMc HY hMc hat hnx hst hr hft hTl had HJ hn1 hn2 hn3 hr2 hf2 had2 y21 f21;go_wp2_with fail
       go_region
       go_wp2_with fail
       go_roundw
       case rel=>exact⟨j+1,hjl,by rw[←HX2.out],M3.out.1.kept (Later.drew _),M3.out.2.trans (OnlyL.of_later (Later.drew _))⟩
       case measure =>
        have:=hms.out;simp[intOf];omega
      ·have hje:j+1=L.length:=by omega
       have hz0:=hnx.2 hje;rw[hz0]at cw';have HP:=HEnd.out wr (by rw[←hje,Nat.add_sub_cancel];exact HJ.out.1) HJ.out.2;clear HEnd HRk HS0 HTl HMc HY hMc hat hnx hst hr hft hTl had HJ hz0 hje hjl;go_wp2_with fail
       first|exact HP|(go_ret;exact HP)
def LtQ (C:Mx) (w:World) (s:Vm) (q:Mq) (T G:Nat) (L:List Nat) (iv ov:Value) (n:Ending) (w':World):Prop :=
 (G=s.size→n=.returned (.bool true)∧Mv C w' s q iv ov∧OnlyL C w w')∧(¬ G=s.size→LmQ C w s q T G L iv ov n w')
theorem lfits_any {C:Mx}(hC:MxI C) {w:World}{s:Vm}{q:Mq}{iv ov:Value}(h:Mv C w s q iv ov) {F fr T G:Nat}{L:List Nat}(b1:1≤s.base) (bT:s.base≤T) (Ts:T≤s.base+s.size) (bs:s.base+s.size≤12000) (hcp:s.copies≤1000000) (hf1:s.base≤s.fp) (h16:16≤s.size) (bF:s.base≤F) (hF:F≤12000) (hfr:fr≤1000) (hG:G=growS 10 s.size (F - s.base+fr+7)) (hL:¬ 12000<cpB s G+G→McI q.W s.base s.fp T (cpB s G) L) :
  Calls Tryz.prog 22 #[.pointer (some ⟨C.K,0,none⟩),.int .i64 (F:Int),.int .i64 (fr:Int),.int .i64 (T:Int)] w (LtQ C w s q T G L iv ov):=by
 obtain⟨need,hneed⟩:∃ need,need=F - s.base+fr+7:=⟨_,rfl⟩
 rw[←hneed]at hG;have hgn:need≤G:=by rw[hG];exact grow10 h16 (by omega)
 have hgs:s.size≤G:=by rw[hG];exact growS_ge _ _ _
 have hgl:G≤40000:=by have:=growS_le 10 s.size need;omega
 have HQ1:Hid (G=s.size→LtQ C w s q T G L iv ov (.returned (.bool true)) w):=fun hg=>⟨fun _=>⟨rfl,h,OnlyL.refl _ _⟩,fun k=>absurd hg k⟩
 have HCp:Hid (Calls Tryz.prog 46 #[.pointer (some ⟨C.K,0,none⟩),.int .i64 (G:Int),.int .i64 (T:Int)] w (LmQ C w s q T G L iv ov)):=lmove_any hC h b1 bT Ts bs (by omega) (by omega) hcp hf1 hL
 have HQ2:Hid (¬ G=s.size→∀ n w',LmQ C w s q T G L iv ov n w'→∃ b,n=.returned (.bool b)∧LtQ C w s q T G L iv ov (.returned (.bool b)) w'):=fun hg n w' hq=>by
  by_cases hb:12000<cpB s G+G
  ·have:=hq.1 hb;exact⟨false,this.1,⟨fun k=>absurd k hg,fun _=>by rw[←this.1];exact hq⟩⟩
  ·have:=hq.2 hb;exact⟨true,this.1,⟨fun k=>absurd k hg,fun _=>by rw[←this.1];exact hq⟩⟩
 have HGr:Hid (G=growS 10 s.size need):=hG;have c8:=h.c8.1;have c9:=h.c9.1
 generalize LtQ C w s q T G L iv ov=Q at *
 obtain⟨d1,hd1⟩:∃ d1,d1=F - s.base:=⟨_,rfl⟩
 obtain⟨d2,hd2⟩:∃ d2,d2=d1+fr:=⟨_,rfl⟩
 obtain⟨d3,hd3⟩:∃ d3,d3=d2+3:=⟨_,rfl⟩
 have g1:(F:Int) - (s.base:Int)=(d1:Int):=by omega
 have g2:(d1:Int)+(fr:Int)=(d2:Int):=by omega
 have g3:(d2:Int)+3=(d3:Int):=by omega
 have g3':(d3:Int)+4=(need:Int):=by omega
 have g4:(need:Int)≤16000:=by omega
 have g5:(d2:Int)≤16000:=by omega
 have g6:(d1:Int)≤16000:=by omega
 have g7:(d3:Int)≤16000:=by omega
 have hnd:Hid (need≤s.size*2 ^ 10):=by show _≤_;omega
 have hsi:Hid (s.size≤G∧G≤40000∧16≤s.size∧need≤G):=⟨hgs,hgl,h16,hgn⟩
 clear hneed hG hd1 hd2 hd3 h hL hgs hgn hgl bT Ts bs b1 hf1 bF hF hfr h16 hcp;go_enter Tryz.func22,Tryz.ntmps22;go_wp2_with fail
 go_loopw [10] (fun i wr=>∃ (z k:Nat),i=.int .i64 (z:Int)∧16≤z∧z≤40000∧Hid (growS k z need=G∧need≤z*2 ^ k)∧wr=w) (fun i _=>50000 - (intOf i).toNat)
 case atStart=>exact⟨s.size,10,rfl,hsi.out.2.2.1,by have:=hsi.out;omega,⟨HGr.out.symm,hnd.out⟩,rfl⟩
 case round =>
  obtain⟨z,k,rfl,hz1,hz2,HZ,hwr⟩:=hrel;rw[hwr];clear hwr wr;by_cases hlt:z<need
  ·obtain⟨k',rfl⟩:∃ k',k=k'+1:=⟨k - 1,by
    rcases Nat.eq_zero_or_pos k with q|q
    ·subst q;have:=HZ.out.2;rw[Nat.pow_zero]at this;omega
    ·omega⟩
   have hg1:growS k' (2*z) need=G:=by rw[←HZ.out.1,growS,if_pos hlt]
   have hg2:need≤2*z*2 ^ k':=by
    have:=HZ.out.2;rw[Nat.pow_succ]at this;have e1:z*(2 ^ k'*2)=2*z*2 ^ k':=by rw[Nat.mul_comm (2 ^ k') 2,← Nat.mul_assoc,Nat.mul_comm z 2]
    omega
   obtain⟨z2,hz3⟩:∃ z2,z2=2*z:=⟨_,rfl⟩
   rw[←hz3]at hg1 hg2;have m1:(z:Int)<(need:Int):=by omega
   have m2:(2:Int)*(z:Int)=(z2:Int):=by omega
   have m3:(z2:Int)≤40000:=by omega
   have hz4:Hid (z<z2∧z2≤40000):=⟨by omega,by omega⟩
   have HN:Hid (growS k' z2 need=G∧need≤z2*2 ^ k'):=⟨hg1,hg2⟩
   clear hz3 hg1 hg2 HZ HQ1 HQ2 HCp HGr;go_wp2_with fail
   go_roundw
   case rel=>exact⟨z2,k',rfl,by have:=hz4.out;omega,hz4.out.2,HN,trivial⟩
   case measure=>have:=hz4.out;simp[intOf];omega
  ·have hzG:z=G:=by rw[←HZ.out.1,growS_id (by omega)]
   subst hzG;have m1:¬ ((z:Int)<(need:Int)):=by omega
   have m3:decide ((z:Int)<(need:Int))=false:=decide_eq_false m1;clear HZ HGr;by_cases hsz:z=s.size
   ·have HE:=HQ1.out hsz;have m2:((z:Int)==(s.size:Int))=true:=by rw[hsz];exact beq_self_eq_true _
    clear HQ1 HQ2 HCp hsz;go_wp2_with fail
    first|exact HE|(go_ret;exact HE)
   ·have HE:=HQ2.out hsz;have HEh:Hid (∀ n w',LmQ C w s q T z L iv ov n w'→∃ b,n=.returned (.bool b)∧Q (.returned (.bool b)) w'):=HE
    have m2:((z:Int)==(s.size:Int))=false:=by
     rw[beq_eq_false_iff_ne];intro k;exact hsz (by omega)
    clear HQ1 HQ2 HE;go_wp2_with fail
    refine HCp.out.mono ?_;intro n1 w1 hq1;obtain⟨b,rfl,HP⟩:=HEh.out n1 w1 hq1;clear hq1 HEh HCp;go_wp2_with fail
    first|exact HP|(go_ret;exact HP)
end Go.Proofs.YtjnpncefkigcbaaGreat
