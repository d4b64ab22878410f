import Derived.Test.YtjnpncefkigcbaaGreatHn
set_option maxHeartbeats 100000000
set_option maxRecDepth 100000
namespace Go.Proofs.YtjnpncefkigcbaaGreat
open Go.RowKit Go.Lib Go.Maps
theorem links_lt {x:Im}(hx:ImI x) {W:Nat→Int}{base:Nat}:∀ {k fp:Nat},Chain x W base k fp→∀ (j:Nat) (h:j+1<(linksL W k fp).length),(linksL W k fp)[j+1]<(linksL W k fp)[j]
 | 0,_,h,_,_=>h.elim
 | 1,fp,_,j,hj=>by rw[links_len]at hj;omega
 | k+2,fp,h,j,hj=>by
  rw[Chain]at h;obtain⟨g,q,c,i,h1,h2,h3,h4,h5,h6,h7,h8,h9⟩:=h;have hl:linksL W (k+2) fp=fp::linksL W (k+1) g:=by rw[linksL,h1];rfl
  have hl2:linksL W (k+1) g=g::linksL W k (W g).toNat:=rfl;have hf:=(hx.at h4).fr
  cases j with
  | zero =>
   simp only[hl,hl2];show g<fp;omega
  | succ j =>
   have:=links_lt hx h9 j (by rw[links_len]at hj ⊢;omega);simp only[hl];exact this
def linkM (C:Cx):Value→Nat
 | .pointer (some a)=>if a.block=C.P then 100000 else a.off
 | _=>0
def LkI (C:Cx) (w:World) (s:Vm) (e B z e2:Nat) (cp iv ov rv:Value) (v:Value) (wr:World):Prop :=
 (v=.pointer (some ⟨C.P,57,none⟩)∧Pv C wr (s.cpS e B z 0 s.fp) e2 cp iv ov rv∧OnlyM C w wr) ∨
 (∃ (j:Nat) (hj:j<(linksL s.W s.calls s.fp).length),v=.pointer (some ⟨C.WB,B+((linksL s.W s.calls s.fp)[j] - s.base),none⟩)∧(Chain C.x s.W s.base s.calls s.fp∧s.fp+3≤e∧0<s.fp)∧Pv C wr (s.cpS e B z j (B+(s.fp - s.base))) e2 cp iv ov rv∧OnlyM C w wr)
structure CpI (C:Cx) (s:Vm) (e:Nat):Prop where
 b1:1≤s.base
 be:s.base≤e
 es:e+7≤s.base+s.size
 bs:s.base+s.size≤12000
 ch:(s.calls=0∧s.fp=0)∨(Chain C.x s.W s.base s.calls s.fp∧s.fp+3≤e∧0<s.fp)
 cp:s.copies≤1000000
def cpB (s:Vm) (z:Nat):Nat:=if 1+z≤s.base then 1 else s.base+s.size
def cpF (s:Vm) (b:Nat):Nat:=if s.fp=0 then 0 else b+(s.fp - s.base)
def CpQ (C:Cx) (w:World) (s:Vm) (e z:Nat) (cp iv ov rv:Value) (n:Ending) (w':World):Prop :=
 if 12000<cpB s z+z then n=.returned (.bool false)∧Pv C w' s e cp iv ov rv∧OnlyM C w w'
 else n=.returned (.bool true)∧Pv C w' (s.cpS e (cpB s z) z s.calls (cpF s (cpB s z))) (cpB s z+(e - s.base)) cp iv ov rv∧OnlyM C w w'
theorem icopy_any {C:Cx}(hC:CxI C) {w:World}{s:Vm}{e:Nat}{cp iv ov rv:Value}(h:Pv C w s e cp iv ov rv) (hI:CpI C s e) {z:Nat}(hz:e+7≤s.base+z) (hz2:z≤100000) :
  Calls Tryz.prog 142 #[.pointer (some ⟨C.P,0,none⟩),.int .i64 (z:Int)] w (CpQ C w s e z cp iv ov rv):=by
 have hN:=hC.hN;have h8:=hC.h8;have q1:=hI.b1;have q2:=hI.be;have q3:=hI.es;have q4:=hI.bs;have HNo:Hid (∀ w',12000<cpB s z+z→Later w w'→CpQ C w s e z cp iv ov rv (.returned (.bool false)) w'):=fun w' hb l=>by unfold CpQ;rw[if_pos hb];exact⟨rfl,h.kept l,OnlyM.of_later l⟩
 have HYe:Hid (∀ w',¬ 12000<cpB s z+z→Pv C w' (s.cpS e (cpB s z) z s.calls (cpF s (cpB s z))) (cpB s z+(e - s.base)) cp iv ov rv→OnlyM C w w'→CpQ C w s e z cp iv ov rv (.returned (.bool true)) w'):=fun w' hb p o=>by unfold CpQ;rw[if_neg hb];exact⟨rfl,p,o⟩
 obtain⟨B,hB⟩:∃ B,B=cpB s z:=⟨_,rfl⟩
 have HB:Hid (B=if 1+z≤s.base then 1 else s.base+s.size):=hB;rw[←hB]at HNo HYe;clear hB;obtain⟨c54,_⟩:=h.c54;obtain⟨c55,_⟩:=h.c55
 generalize CpQ C w s e z cp iv ov rv=Q at *
 obtain⟨z1,hz1⟩:∃ z1,z1=1+z:=⟨_,rfl⟩
 have g1:(1:Int)+(z:Int)=(z1:Int):=by omega
 have g2:(z1:Int)≤200000:=by omega
 have g3:(s.base:Int)≤12000:=by omega
 have g4:(s.size:Int)≤12000:=by omega
 clear hz1;go_enter Tryz.func142,Tryz.ntmps142;go_upto_if 15 with fail
 go_cut [4,5] from 8 (fun s4 s5 wx=>s4=.bool false∧s5=.int .i64 (B:Int)∧Hid (Later w wx))
 case first =>
  have HB2:=HB.out;by_cases hb:1+z≤s.base
  ·rw[if_pos hb]at HB2;have g5:¬ ((s.base:Int)<(z1:Int)):=by omega
   clear HNo HYe h hI HB;go_wp2_with fail
   go_meet
   case rel=>exact⟨rfl,by rw[HB2];rfl,Later.refl _⟩
  ·rw[if_neg hb]at HB2;have g5:(s.base:Int)<(z1:Int):=by omega
   have g6:(s.base:Int)+(s.size:Int)=(B:Int):=by omega
   have g7:(B:Int)≤24000:=by omega
   clear HNo HYe h hI HB HB2;go_wp2_with fail
   go_quiet (fail)
   go_wp2_with fail
   go_meet
   case rel=>exact⟨rfl,rfl,Later.drewN' _ _⟩
 case rest =>
  obtain⟨rfl,rfl,lw⟩:=hcut;have HB2:=HB.out;have hBb:1≤B∧B≤12000:=by rw[HB2];split <;> omega
  obtain⟨bz,hbz⟩:∃ bz,bz=B+z:=⟨_,rfl⟩
  have g5:(B:Int)+(z:Int)=(bz:Int):=by omega
  have g6:(bz:Int)≤200000:=by omega
  have hbz2:Hid (bz=B+z):=hbz;clear hbz;by_cases hno:12000<bz
  ·have HZ:=HNo.out wc (by omega) lw.out;have g7:(12000:Int)<(bz:Int):=by omega
   clear HNo HYe h hI HB HB2 c54 c55;go_wp2_with fail
   first|exact HZ|(go_ret;exact HZ)
  ·have g7:¬ ((12000:Int)<(bz:Int)):=by omega
   have HY:=fun w'=>HYe.out w' (by omega:¬ 12000<B+z);have HP1:Hid (Pv C wc s e cp iv ov rv):=h.kept lw.out;have hcp:=hI.cp;obtain⟨d67,z67⟩:=HP1.out.c67;have g8:(s.copies:Int)+1=((s.copies+1:Nat):Int):=by omega
   have g9:((s.copies+1:Nat):Int)≤1000001:=by omega
   obtain⟨len,hlen⟩:∃ len,len=e+7 - s.base:=⟨_,rfl⟩
   have HP2:Hid (Pv C (wc.setCell ⟨C.P,67,none⟩ (.int .i64 ((s.copies+1:Nat):Int))) { s with copies:=s.copies+1 } e cp iv ov rv):=HP1.out.setP hC (by decide) (e':=e) (cp':=cp) (map_ext rfl) rfl rfl rfl rfl rfl;have hbB:=hbz2.out;have hlB:B+len≤12000:=by omega
   have HD:Hid (∀ w',Later (wc.setCell ⟨C.P,67,none⟩ (.int .i64 ((s.copies+1:Nat):Int))) w'→w'.cell? ⟨C.P,9,none⟩=some (.slice (some ⟨C.WB,0,none⟩) C.N C.N)∧w'.cell? ⟨C.P,54,none⟩=some (.int .i64 (s.base:Int))∧w'.cell? ⟨C.P,58,none⟩=some (.int .i64 (e:Int))):=fun w' l=>⟨(HP2.out.kept l).c9.1,(HP2.out.kept l).c54.1,(HP2.out.kept l).c58.1⟩
   have HCS:Hid (∀ w',Later (wc.setCell ⟨C.P,67,none⟩ (.int .i64 ((s.copies+1:Nat):Int))) w'→(∀ (j:Nat) (v:Value),((List.range len).map (fun j=>Value.int .i64 (s.W (s.base+j))))[j]?=some v→w'.cell? ((⟨C.WB,s.base,none⟩:Addr).add j)=some v)∧(∀ j,j<len→(w'.cell? ⟨C.WB,B+j,none⟩).isSome=true∧w'.frozen? ⟨C.WB,B+j,none⟩=false)):=fun w' l=>by
    have p:=HP2.out.kept l;refine⟨fun j v hj=>?_,fun j hj=>?_⟩
    ·have hj':j<len:=by
      rcases Nat.lt_or_ge j len with q|q
      ·exact q
      ·rw[List.getElem?_eq_none (by simpa using q)]at hj;cases hj
     rw[List.getElem?_map,List.getElem?_range hj']at hj
     cases hj
     rw[Addr.add_lit];exact (p.word (by omega)).1
    ·have:=p.word (a:=B+j) (by omega);exact⟨by rw[this.1];rfl,this.2⟩
   have hone:Hid (∀ v∈(List.range len).map (fun j=>Value.int .i64 (s.W (s.base+j))),v.oneCell'=true):=by
    intro v hv;obtain⟨j,_,rfl⟩:=List.mem_map.1 hv;rfl
   have hcl:Hid (((List.range len).map (fun j=>Value.int .i64 (s.W (s.base+j)))).length=len):=by show _=_;simp
   have HP8:Hid (∀ w',Later (wc.setCell ⟨C.P,67,none⟩ (.int .i64 ((s.copies+1:Nat):Int))) w'→Pv C (w'.setCells C.WB B ((List.range len).map (fun j=>Value.int .i64 (s.W (s.base+j))))) { s with W:=s.cpW e B 0,copies:=s.copies+1 } e cp iv ov rv):=fun w' l=>by
    refine ((HP2.out.kept l).setWs hC (by omega) (fun j=>s.W (s.base+j))).conv (fun a=>?_) (fun _=>rfl) rfl;show s.cpW e B 0 a=if B≤a∧a<B+len then s.W (s.base+(a - B)) else s.W a
    rw[cpW_zero,← hlen,Nat.add_comm s.base]
   obtain⟨cs,hcs⟩:∃ cs,cs=(List.range len).map (fun j=>Value.int .i64 (s.W (s.base+j))):=⟨_,rfl⟩
   rw[←hcs]at HCS hone hcl HP8
   have HP9:Hid (∀ w8,Pv C w8 { s with W:=s.cpW e B 0,copies:=s.copies+1 } e cp iv ov rv→Pv C (((w8.setCell ⟨C.P,54,none⟩ (.int .i64 (B:Int))).setCell ⟨C.P,55,none⟩ (.int .i64 (z:Int))).setCell ⟨C.P,58,none⟩ (.int .i64 ((B+(e - s.base):Nat):Int))) (s.cpS e B z 0 s.fp) (B+(e - s.base)) cp iv ov rv):=fun w8 p=>by
    have p1:=p.setP hC (s':={ s with W:=s.cpW e B 0,copies:=s.copies+1,base:=B }) (o:=54) (v:=.int .i64 (B:Int)) (by decide) (e':=e) (cp':=cp) (map_ext rfl) rfl rfl rfl rfl rfl;have p2:=p1.setP hC (s':={ s with W:=s.cpW e B 0,copies:=s.copies+1,base:=B,size:=z }) (o:=55) (v:=.int .i64 (z:Int)) (by decide) (e':=e) (cp':=cp) (map_ext rfl) rfl rfl rfl rfl rfl;exact p2.setP hC (s':=s.cpS e B z 0 s.fp) (o:=58) (v:=.int .i64 ((B+(e - s.base):Nat):Int)) (by decide) (e':=B+(e - s.base)) (cp':=cp) (map_ext rfl) rfl rfl rfl rfl rfl
   have HD8:Hid (∀ w8,Pv C w8 { s with W:=s.cpW e B 0,copies:=s.copies+1 } e cp iv ov rv→(w8.cell? ⟨C.P,9,none⟩=some (.slice (some ⟨C.WB,0,none⟩) C.N C.N)∧w8.cell? ⟨C.P,54,none⟩=some (.int .i64 (s.base:Int))∧w8.cell? ⟨C.P,58,none⟩=some (.int .i64 (e:Int)))∧(∃ u,w8.cell? ⟨C.P,55,none⟩=some u)∧w8.frozen? ⟨C.P,54,none⟩=false∧w8.frozen? ⟨C.P,55,none⟩=false∧w8.frozen? ⟨C.P,58,none⟩=false):=fun w8 p=>⟨⟨p.c9.1,p.c54.1,p.c58.1⟩,⟨_,p.c55.1⟩,p.c54.2,p.c55.2,p.c58.2⟩
   obtain⟨e7,he7⟩:∃ e7,e7=e+7:=⟨_,rfl⟩
   have k1:IntKind.i64.wrap ((e:Int)+7)=(e7:Int):=by rw[IntKind.wrap_i64];omega
   have k2:(e7:Int)≤(C.N:Int):=by omega
   have k3:s.base≤e7:=by omega
   have k4:e7 - s.base=len:=by omega
   have k5:¬ C.N=B:=by omega
   have k6:¬ C.N=s.base:=by omega
   have k7:(B:Int)≤(C.N:Int):=by omega
   have hmin:Hid (len=Nat.min len (C.N - B)):=by show len=min len _;omega
   obtain⟨e2,he2⟩:∃ e2,e2=B+(e - s.base):=⟨_,rfl⟩
   have k8:(e:Int)+((B:Int) - (s.base:Int))=(e2:Int):=by omega
   have k9:(e2:Int)≤12000:=by omega
   have k10:(B:Int)≤12000:=by omega
   have k11:(1:Int)≤(B:Int):=by omega
   have k12:(e:Int)≤12000:=by omega
   have HOM:Hid (OnlyM C w (wc.setCell ⟨C.P,67,none⟩ (.int .i64 ((s.copies+1:Nat):Int)))):=(OnlyM.of_later lw.out).setP _ _;rw[←he2]at HP9 HY
   have hE2:Hid (e2=B+(e - s.base)∧len=e+7 - s.base∧B+len≤12000∧12000≤C.N):=⟨he2,hlen,hlB,by omega⟩
   generalize s.copies+1=cc at *
   clear he2 hcs hlen he7 HP1 HP2 HNo HYe HB HB2 h c54 c55 hbB hlB hN h8 hBb;go_wp2_with fail
   go_region_held_law (fun w'=>w'.cell? ⟨C.P,9,none⟩=some (.slice (some ⟨C.WB,0,none⟩) C.N C.N)∧w'.cell? ⟨C.P,54,none⟩=some (.int .i64 (s.base:Int))∧w'.cell? ⟨C.P,58,none⟩=some (.int .i64 (e:Int))) (first|exact HD.out _ (Later.drew _)|assumption) (first
    | (refine step_copyC rfl _ _ 26 26 rfl 3 Tryz.underlying26 (by kernel_rfl) C.WB B _ _ ⟨C.WB,s.base,none⟩ _ _ (by rfl) (by rfl) cs len hcl.out hmin.out (HCS.out _ (Later.drew _)).1 (HCS.out _ (Later.drew _)).2 hone.out ?_;intro w8 hw8;have p8:=HP8.out _ (Later.drew _);rw[←hw8.out]at p8;obtain⟨dS,⟨u5,d55⟩,f54,f55,f58⟩:=HD8.out w8 p8))
   have o8:OnlyM C w w8:=by rw[hw8.out];exact (HOM.out.drew).setWs _ _
   have p9:=HP9.out w8 p8;have o9:OnlyM C w (((w8.setCell ⟨C.P,54,none⟩ (.int .i64 (B:Int))).setCell ⟨C.P,55,none⟩ (.int .i64 (z:Int))).setCell ⟨C.P,58,none⟩ (.int .i64 (e2:Int))):=((o8.setP _ _).setP _ _).setP _ _;obtain⟨d9,d54,d58⟩:=dS;clear HD HCS hone hcl HP8 HP9 HD8 hw8 p8 o8 HOM;go_wp2_with fail
   go_loopw [7] (fun v wr=>Hid (LkI C w s e B z e2 cp iv ov rv v wr)) (fun v _=>linkM C v)
   case atStart=>exact .inl ⟨rfl,p9,o9⟩
   case round =>
    clear p9 o9 d9 d54 d58 d55 f54 f55 f58;rcases hrel.out with ⟨rfl,p,o⟩|⟨j,hj,hv7,hch,p,o⟩
    ·obtain⟨c57,f57⟩:=p.c57;have c57':wr.cell? ⟨C.P,57,none⟩=some (.int .i64 (s.fp:Int)):=c57;clear c57;by_cases hfp:s.fp=0
     ·have hcl:s.calls=0:=by
       rcases hI.ch with q|q
       ·exact q.1
       ·omega
      have HZ:=HY wr (by rw[hcl];unfold cpF;rw[if_pos hfp];rw[hfp]at p;exact p) o;rw[hfp]at c57';clear HY p o hI hrel;go_wp2_with fail
      first|exact HZ|(go_ret;exact HZ)
     ·have hch:Chain C.x s.W s.base s.calls s.fp∧s.fp+3≤e∧0<s.fp:=by
       rcases hI.ch with q|q
       ·omega
       ·exact q
      have hE:=hE2.out
      have hcp:1≤s.calls:=by
       have:=hch.1
       cases hc:s.calls with
       | zero=>rw[hc,Chain]at this;exact this.elim
       | succ k=>omega
      have hj0:0<(linksL s.W s.calls s.fp).length:=by rw[links_len];omega
      have hL0:(linksL s.W s.calls s.fp)[0]=s.fp:=by
       obtain⟨k,hk⟩:∃ k,s.calls=k+1:=⟨s.calls - 1,by omega⟩
       simp only[hk,linksL,List.getElem_cons_zero]
      have hbf:s.base≤s.fp:=by have:=hch.1.rg hC.xi _ (List.getElem_mem hj0);rw[hL0]at this;exact this.1
      obtain⟨nf,hnf⟩:∃ nf,nf=B+(s.fp - s.base):=⟨_,rfl⟩
      have HX:Hid (∀ w',w'=wr.setCell ⟨C.P,57,none⟩ (.int .i64 (nf:Int))→∀ k,LkI C w s e B z e2 cp iv ov rv (.pointer (some ⟨C.WB,nf,none⟩)) (w'.drewN k)):=fun w' hw' k=>by
       subst hw';refine .inr ⟨0,hj0,by rw[hL0,← hnf],hch,?_,(o.setP _ _).drewN k⟩;exact (p.setP hC (s':=s.cpS e B z 0 (B+(s.fp - s.base))) (o:=57) (v:=.int .i64 (nf:Int)) (by decide) (e':=e2) (cp':=cp) (by rw[hnf];exact map_ext rfl) rfl rfl rfl rfl rfl).kept (Later.drewN' _ k)
      have c9:=p.c9.1;have m1:(s.fp:Int)+((B:Int) - (s.base:Int))=(nf:Int):=by omega
      have m2:(nf:Int)<(C.N:Int):=by omega
      have m3:(nf:Int)≤12000:=by omega
      have m4:((s.fp:Int) != 0)=true:=by simp[hfp]
      have m5:(s.fp:Int)≤12000:=by omega
      have hnf2:Hid (nf≤12000):=by show _≤_;omega
      have dWP:=hC.d1;clear HY p o hI hrel hch hE hL0 hj0 hnf;go_wp2_with fail
      go_quiet (fail)
      go_wp2_with fail
      go_roundw
      case rel=>exact HX.out _ rfl _
      case measure =>
       show (if C.WB=C.P then 100000 else nf)<(if C.P=C.P then 100000 else 57);have:=hnf2.out;rw[if_neg (Ne.symm dWP),if_pos rfl];omega
    ·have hE:=hE2.out;have hr:=hch.1.rg hC.xi _ (List.getElem_mem hj);have hnx:=links_next hch.1 j hj;have hat:=cpW_at (b:=B) hC.xi hch.1 hch.2.1 hj
     obtain⟨ad,had⟩:∃ ad,ad=B+((linksL s.W s.calls s.fp)[j] - s.base):=⟨_,rfl⟩
     rw[←had]at hat hv7;subst hv7;have haN:ad<C.N:=by omega
     obtain⟨cw,fw⟩:=p.word haN;have cw':wr.cell? ⟨C.WB,ad,none⟩=some (.int .i64 (s.W (linksL s.W s.calls s.fp)[j])):=by rw[←hat];exact cw
     clear cw;by_cases hw0:s.W (linksL s.W s.calls s.fp)[j]=0
     ·have hjl:j+1=(linksL s.W s.calls s.fp).length:=by
       rcases Nat.lt_or_ge (j+1) (linksL s.W s.calls s.fp).length with q|q
       ·have:=hnx.1 q;omega
       ·omega
      have hfz:¬ s.fp=0:=by omega
      have HZ:=HY wr (p.conv (s':=s.cpS e B z s.calls (cpF s B)) (fun a=>cpW_end hjl hw0 a) (fun _=>rfl) (by unfold cpF;rw[if_neg hfz];rfl)) o;rw[hw0]at cw';clear HY p o hI hrel hch hE hr hnx hat hjl hw0 had;go_wp2_with fail
      first|exact HZ|(go_ret;exact HZ)
     ·have hjl:j+1<(linksL s.W s.calls s.fp).length:=by
       rcases Nat.lt_or_ge (j+1) (linksL s.W s.calls s.fp).length with q|q
       ·exact q
       ·exact absurd (hnx.2 (by omega)) hw0
      obtain⟨hn1,hn2⟩:=hnx.1 hjl;have hr2:=hch.1.rg hC.xi _ (List.getElem_mem hjl);have hlt:=links_lt hC.xi hch.1 j hjl;have hst:=cpW_step (b:=B) hC.xi hch.1 hch.2.1 hj hw0;rw[←had]at hst;rw[hn1]at hst cw'
      obtain⟨f2,hf2⟩:∃ f2,f2=(linksL s.W s.calls s.fp)[j+1]:=⟨_,rfl⟩
      rw[←hf2]at hst cw' hn2 hr2 hlt
      obtain⟨ad2,had2⟩:∃ ad2,ad2=B+(f2 - s.base):=⟨_,rfl⟩
      have hsum:(f2:Int)+((B:Int) - (s.base:Int))=(ad2:Int):=by omega
      rw[hsum]at hst
      have HX:Hid (∀ w',w'=wr.setCell ⟨C.WB,ad,none⟩ (.int .i64 (ad2:Int))→∀ k,LkI C w s e B z e2 cp iv ov rv (.pointer (some ⟨C.WB,ad2,none⟩)) (w'.drewN k)):=fun w' hw' k=>by
       subst hw';refine .inr ⟨j+1,hjl,by rw[had2,hf2],hch,?_,(o.setW _ _).drewN k⟩;exact ((p.setW hC haN (ad2:Int)).conv (s':=s.cpS e B z (j+1) (B+(s.fp - s.base))) (fun a=>hst a) (fun _=>rfl) rfl).kept (Later.drewN' _ k)
      have c9:=p.c9.1;have dWP:=hC.d1;have c9':(wr.setCell ⟨C.WB,ad,none⟩ (.int .i64 (ad2:Int))).cell? ⟨C.P,9,none⟩=some (.slice (some ⟨C.WB,0,none⟩) C.N C.N):=(World.cell?_setCell_far wr ⟨C.WB,ad,none⟩ ⟨C.P,9,none⟩ (.int .i64 (ad2:Int)) (Ne.symm dWP)).trans c9;have m2:(ad2:Int)<(C.N:Int):=by omega
      have m3:(ad2:Int)≤12000:=by omega
      have m4:((f2:Int) != 0)=true:=by simp;omega
      have m5:(f2:Int)≤12000:=by omega
      have hms:Hid (ad2<ad):=by show _<_;omega
      clear HY p o hI hrel hch hE hr hnx hat hw0 had hn1 hr2 hlt hst hf2 had2 hjl c9;go_wp2_with fail
      go_quiet (fail)
      go_wp2_with fail
      go_roundw
      case rel=>exact HX.out _ rfl _
      case measure =>
       show (if C.WB=C.P then 100000 else ad2)<(if C.WB=C.P then 100000 else ad);have:=hms.out;rw[if_neg (Ne.symm dWP),if_neg (Ne.symm dWP)];omega
def RmQ (C:Cx) (w:World) (s:Vm) (e f:Nat) (cp iv ov rv:Value) (n:Ending) (w':World):Prop :=
 if growS 10 s.size (e - s.base+f+7)=s.size then MvQ C w unitE s e cp iv ov rv n w'
 else if 12000<cpB s (growS 10 s.size (e - s.base+f+7))+growS 10 s.size (e - s.base+f+7) then PanQ C s ov 6 0 n w'
 else MvQ C w unitE (s.cpS e (cpB s (growS 10 s.size (e - s.base+f+7))) (growS 10 s.size (e - s.base+f+7)) s.calls (cpF s (cpB s (growS 10 s.size (e - s.base+f+7))))) (cpB s (growS 10 s.size (e - s.base+f+7))+(e - s.base)) cp iv ov rv n w'
theorem growS_le:∀ (f z need:Nat),growS f z need≤z∨growS f z need≤2*need
 | 0,z,need=>.inl (Nat.le_refl _)
 | f+1,z,need=>by
  rw[growS];split
  ·rcases growS_le f (2*z) need with h|h
   ·exact .inr (by omega)
   ·exact .inr h
  ·exact .inl (Nat.le_refl _)
theorem imroom_any {C:Cx}(hC:CxI C) {w:World}{s:Vm}{e:Nat}{cp iv ov rv:Value}(h:Pv C w s e cp iv ov rv) (hI:CpI C s e) (h16:16≤s.size) {f:Nat}(hf:f≤1000) :
  Calls Tryz.prog 114 #[.pointer (some ⟨C.P,0,none⟩),.int .i64 (f:Int)] w (RmQ C w s e f cp iv ov rv):=by
 have q1:=hI.b1;have q2:=hI.be;have q3:=hI.es;have q4:=hI.bs
 obtain⟨need,hneed⟩:∃ need,need=e - s.base+f+7:=⟨_,rfl⟩
 obtain⟨G,hG⟩:∃ G,G=growS 10 s.size need:=⟨_,rfl⟩
 have hgn:need≤G:=by rw[hG];exact grow10 h16 (by omega)
 have hgs:s.size≤G:=by rw[hG];exact growS_ge _ _ _
 have hgl:G≤40000:=by have:=growS_le 10 s.size need;omega
 have HQ1:Hid (∀ w',G=s.size→Later w w'→RmQ C w s e f cp iv ov rv unitE w'):=fun w' hg l=>by
  unfold RmQ;rw[←hneed,← hG,if_pos hg];exact⟨rfl,h.kept l,OnlyM.of_later l⟩
 have HCp:Hid (∀ w',Later w w'→Calls Tryz.prog 142 #[.pointer (some ⟨C.P,0,none⟩),.int .i64 (G:Int)] w' (CpQ C w' s e G cp iv ov rv)):=fun w' l=>icopy_any hC (h.kept l) hI (by omega) (by omega)
 have HQ2:Hid (∀ n w',¬ G=s.size→12000<cpB s G+G→PanQ C s ov 6 0 n w'→RmQ C w s e f cp iv ov rv n w'):=fun n w' hg hb p=>by
  unfold RmQ;rw[←hneed,← hG,if_neg hg,if_pos hb];exact p
 have HQ3:Hid (∀ w',¬ G=s.size→¬ 12000<cpB s G+G→Pv C w' (s.cpS e (cpB s G) G s.calls (cpF s (cpB s G))) (cpB s G+(e - s.base)) cp iv ov rv→OnlyM C w w'→RmQ C w s e f cp iv ov rv unitE w'):=fun w' hg hb p o=>by
  unfold RmQ;rw[←hneed,← hG,if_neg hg,if_neg hb];exact⟨rfl,p,o⟩
 have HPan:Hid (∀ w',Pv C w' s e cp iv ov rv→PanQ C s ov 6 0 (finP 6 0) w'):=fun w' p=>⟨rfl,s,e,cp,iv,rv,p,rfl,rfl,rfl,rfl⟩
 have HK:Hid (∀ w',Later w w'→w'.cell? ⟨C.P,58,none⟩=some (.int .i64 (e:Int))∧w'.cell? ⟨C.P,54,none⟩=some (.int .i64 (s.base:Int))∧w'.cell? ⟨C.P,55,none⟩=some (.int .i64 (s.size:Int))):=fun w' l=>⟨(h.kept l).c58.1,(h.kept l).c54.1,(h.kept l).c55.1⟩
 have HGr:Hid (G=growS 10 s.size need):=hG
 generalize RmQ C w s e f cp iv ov rv=Q at *
 obtain⟨c58,c54,c55⟩:=HK.out w (Later.refl _)
 obtain⟨d1,hd1⟩:∃ d1,d1=e - s.base:=⟨_,rfl⟩
 obtain⟨d2,hd2⟩:∃ d2,d2=d1+f:=⟨_,rfl⟩
 have g1:(e:Int) - (s.base:Int)=(d1:Int):=by omega
 have g2:(d1:Int)+(f:Int)=(d2:Int):=by omega
 have g3:(d2:Int)+7=(need:Int):=by omega
 have g4:(need:Int)≤16000:=by omega
 have g5:(d2:Int)≤16000:=by omega
 have g6:(d1:Int)≤16000:=by omega
 have hnd:Hid (need≤s.size*2 ^ 10):=by show _≤_;omega
 clear hneed hG hd1 hd2 h hI;go_enter Tryz.func114,Tryz.ntmps114;go_wp2_with fail
 go_loopw [4] (fun i wr=>∃ (z k:Nat),i=.int .i64 (z:Int)∧16≤z∧z≤40000∧Hid (growS k z need=G∧need≤z*2 ^ k∧Later w wr)) (fun i _=>50000 - (intOf i).toNat)
 case atStart=>exact⟨s.size,10,rfl,h16,by omega,HGr.out.symm,hnd.out,Later.refl _⟩
 case round =>
  obtain⟨z,k,rfl,hz1,hz2,HZ⟩:=hrel;clear c58 c54 c55;obtain⟨c58,c54,c55⟩:=HK.out wr HZ.out.2.2;by_cases hlt:z<need
  ·obtain⟨k',rfl⟩:∃ k',k=k'+1:=⟨k - 1,by
    rcases Nat.eq_zero_or_pos k with q|q
    ·subst q;have:=HZ.out.2.1;rw[Nat.pow_zero]at this;omega
    ·omega⟩
   have hg1:growS k' (2*z) need=G:=by rw[←HZ.out.1,growS,if_pos hlt]
   have hg2:need≤2*z*2 ^ k':=by
    have:=HZ.out.2.1;rw[Nat.pow_succ]at this;have e1:z*(2 ^ k'*2)=2*z*2 ^ k':=by rw[Nat.mul_comm (2 ^ k') 2,← Nat.mul_assoc,Nat.mul_comm z 2]
    omega
   have lz:=HZ.out.2.2
   obtain⟨z2,hz3⟩:∃ z2,z2=2*z:=⟨_,rfl⟩
   rw[←hz3]at hg1 hg2;have m1:(z:Int)<(need:Int):=by omega
   have m2:(z:Int)*2=(z2:Int):=by omega
   have m3:(z2:Int)≤40000:=by omega
   have hz4:Hid (z<z2∧z2≤40000):=⟨by omega,by omega⟩
   have HN:Hid (growS k' z2 need=G∧need≤z2*2 ^ k'):=⟨hg1,hg2⟩
   clear hz3 hg1 hg2 HZ;go_wp2_with fail
   go_quiet (fail)
   go_wp2_with fail
   go_roundw
   case rel=>exact⟨z2,k',rfl,by have:=hz4.out;omega,hz4.out.2,HN.out.1,HN.out.2,lz.trans (Later.drewN' _ _)⟩
   case measure=>have:=hz4.out;simp[intOf];omega
  ·have hzG:z=G:=by rw[←HZ.out.1,growS_id (by omega)]
   subst hzG;have lz:=HZ.out.2.2;have m1:¬ ((z:Int)<(need:Int)):=by omega
   clear HZ HGr;by_cases hsz:z=s.size
   ·have HE:=HQ1.out;have m2:¬ ((s.size:Int)<(z:Int)):=by omega
    clear HQ1 HQ2 HQ3 HCp HPan HK;unfold unitE at HE;go_wp2_with fail
    go_quiet (fail)
    go_wp2_with fail
    first|exact HE _ hsz (lz.trans (Later.drewN' _ _))|(go_end0;exact HE _ hsz (lz.trans (Later.drewN' _ _)))
   ·have m2:(s.size:Int)<(z:Int):=by omega
    go_wp2_with fail
    go_quiet (fail)
    go_wp2_with fail
    refine (HCp.out _ (lz.trans (Later.drewN' _ _))).mono ?_;rintro n1 w1 hq1;unfold CpQ at hq1;by_cases hb:12000<cpB s z+z
    ·rw[if_pos hb]at hq1;obtain⟨rfl,p1,o1⟩:=hq1;have HP:=HQ2.out (finP 6 0);have HP2:=HPan.out;clear HQ1 HQ2 HQ3 HCp HPan HK;go_wp2_with fail
     refine (must_no 6 0 w1).mono ?_;rintro n2 w2 ⟨rfl,l2⟩;have HP3:=HP w2 hsz hb (HP2 w2 (p1.kept l2));clear HP HP2;unfold finP at HP3 ⊢;go_wp2_with fail
     exact⟨rfl,HP3⟩
    ·rw[if_neg hb]at hq1;obtain⟨rfl,p1,o1⟩:=hq1;have HP:=HQ3.out;clear HQ1 HQ2 HQ3 HCp HPan HK;go_wp2_with fail
     refine (must_yes 6 0 w1).mono ?_;rintro n2 w2 ⟨rfl,l2⟩;have HP3:=HP w2 hsz hb (p1.kept l2) (((OnlyM.of_later (lz.trans (Later.drewN' _ _))).trans o1).later l2);clear HP;unfold unitE at HP3 ⊢;go_wp2_with fail
     first|exact HP3|(go_end0;exact HP3)
end Go.Proofs.YtjnpncefkigcbaaGreat
