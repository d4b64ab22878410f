import Derived.Test.YtjnpncefkigcbaaGreatHk
set_option maxHeartbeats 100000000
set_option maxRecDepth 100000
namespace Go.Proofs.YtjnpncefkigcbaaGreat
open Go.RowKit Go.Lib Go.Maps
theorem Fw.pan {C:Cx}{s t:Vm}{ov:Value}{c d:Int}{n:Ending}{w':World}(f:Fw s t) (h:PanQ C t ov c d n w'):PanQ C s ov c d n w':=by
 obtain⟨_,_,_,_,_,_,_,_,_,_,h11,h12,h13,h14⟩:=f.calls;exact h.of h11 h12 h13 h14
theorem icode_any {C:Cx}(hC:CxI C) {w:World}{s:Vm}{e:Nat}{cp iv ov rv:Value}(h:Pv C w s e cp iv ov rv) {a c:Nat}(ha:a+2<C.N) (hc:s.W (a+2)=(c:Int)) (hl:c<C.x.codes.length) :
  Calls Tryz.prog 143 #[.pointer (some ⟨C.P,0,none⟩),.int .i64 (a:Int)] w (DrQ (.returned (codeP C c)) w):=by
 obtain⟨c9,_⟩:=h.c9;obtain⟨c6,_⟩:=h.c6;obtain⟨cw,_⟩:=h.word ha;rw[hc]at cw;have hN:=hC.hN;have h4:=hC.h4
 obtain⟨b,hb⟩:∃ b,b=a+2:=⟨_,rfl⟩
 rw[←hb]at cw ha;have hw1:(a:Int)+2=(b:Int):=by omega
 have i1:(b:Int)<(C.N:Int):=by omega
 have i2:(c:Int)<(C.x.codes.length:Int):=by omega
 have i3:(b:Int)≤40000:=by omega
 have i4:wrap64 (b:Int)=(b:Int):=by unfold wrap64;omega
 clear h hN h4 hb;unfold codeP;go_enter Tryz.func143,Tryz.ntmps143;go_wp2_with fail
 go_quiet (fail)
 go_wp2_with fail
 go_ret;exact⟨rfl,_,rfl⟩
theorem quiet_dr {P:Program}{f:FuncId}{args:Array Value}{w:World}{n:Nat}{v:Value}(h:Calls P f args (w.drewN n) (DrQ (.returned v) (w.drewN n))):Calls P f args (w.drewN n) fun e w''=>e=.returned v∧∃ m,w''=w.drewN m :=
 Calls.quiet_of (h.mono fun _ _ k=>k)
theorem st_at {C:Cx}(hC:CxI C) {h:Int}(hg:Good C.x h) (hm:h % 8=0) {k:Nat}(hk:k<szW C.x h):∃ g off sc va vo vn vc,C.sv=.slice (some ⟨g,off,none⟩) C.x.structs.length sc∧(h / 8).toNat<C.x.structs.length ∧
  ∀ w',Later C.w0 w'→w'.cell? ⟨g,off+(h / 8).toNat,none⟩=some (.slice (some ⟨va,vo,none⟩) vn vc)∧w'.cell? ⟨va,vo+k,none⟩=some (.bool (leads C.x h k))∧k<vn:=by
 have hn:=hg.2.2.1 hm;obtain⟨sa,sc,hsv,_⟩:=Bs.slice hC.st;have hst:=hC.st;rw[hsv]at hst;obtain⟨g,off,v0,rfl,hgl,hc0,hr0⟩:=Bs.elem hst _ hn;obtain⟨va,vc,rfl,_⟩:=Bo.slice hr0;rw[szW_str hm]at hk;unfold stAt at hk;rw[List.getD_eq_getElem?_getD,List.getElem?_eq_getElem hn,Option.getD_some]at hk;obtain⟨ga,oa,rfl,hga,hca⟩:=Bo.elem hr0 k hk;rw[Nat.mul_one]at hc0;refine⟨g,off,sc,ga,oa,_,vc,hsv,hn,fun w' l=>⟨(Below.cell l (p:=⟨g,off+(h / 8).toNat,none⟩) hgl).trans hc0,?_,hk⟩⟩;refine (Below.cell l (p:=⟨ga,oa+k,none⟩) hga).trans ?_;rw[hca];have e1:C.x.structs.getD (h / 8).toNat (.mk [])=C.x.structs[(h / 8).toNat]:=by rw[List.getD_eq_getElem?_getD,List.getElem?_eq_getElem hn,Option.getD_some]
 unfold leads stAt;rw[if_pos hm,e1,List.getD_eq_getElem?_getD,List.getElem?_eq_getElem hk,Option.getD_some]
theorem words_step {x:Im}{H:Nat}{ts us:List Nat}{f0 a k:Nat}{h:Int}{s t:Vm}(g:Gc x H ts f0 s us) (ha:a∈us) (hh:s.W a=h) (hk:k<szW x h) (e:s.foll x H (a+1+k)=some t):∃ us',Gc x H ts f0 t us'∧a∈us'∧t.W a=h∧Fw s t:=by
 have hr:=g.us_rg ha;have hend:=g.end;rw[hh]at hr;have hot:=g.other;obtain⟨us1,g1,hu1,fw1,hw1⟩:=foll_gc g (fun q=>by have:=g.ts_rg q;rcases hot with ⟨e1,e2⟩|⟨e1,e2⟩ <;> omega) (g.o1.inner ha (by rw[hh];omega)) (by omega) e;refine⟨us1,g1,?_,?_,fw1⟩
 ·rcases hu1 with rfl|rfl
  ·exact ha
  ·exact List.mem_append_left _ ha
 ·rw[hw1 a (by omega) (by omega)];exact hh
theorem wordsF_yes {x:Im}{H a:Nat}{h:Int}{n k:Nat}{s:Vm}(hk:k<n) (hl:leads x h k=true):wordsF x H a h (n - k) k s=(s.foll x H (a+1+k)).bind (wordsF x H a h (n - (k+1)) (k+1)):=by
 rw[show n - k=n - (k+1)+1 by omega,wordsF,if_pos hl]
theorem wordsF_no {x:Im}{H a:Nat}{h:Int}{n k:Nat}{s:Vm}(hk:k<n) (hl:leads x h k=false):wordsF x H a h (n - k) k s=wordsF x H a h (n - (k+1)) (k+1) s:=by
 rw[show n - k=n - (k+1)+1 by omega,wordsF,if_neg (by rw[hl];simp)]
theorem ifobj_any {C:Cx}(hC:CxI C) (hMV:IMove C) {w:World}{s:Vm}{e:Nat}{cp iv ov rv:Value}(h:Pv C w s e cp iv ov rv) {ts us:List Nat}{f0:Nat}(hG:Gc C.x C.H ts f0 s us) {a:Nat}(ha:a∈us) :
  Calls Tryz.prog 159 #[.pointer (some ⟨C.P,0,none⟩),.int .i64 (a:Int)] w (OptQ C w (.returned (.int .i64 ((a+1+szW C.x (s.W a):Nat):Int))) s (wordsF C.x C.H a (s.W a) (szW C.x (s.W a)) 0 s) e cp iv ov rv):=by
 have hN:=hC.hN;have h4:=hC.h4;have hr:=hG.us_rg ha;have hend:=hG.end;have hot:=hG.other;have hgd:=hr.2.2;have hsz:=hgd.sz hC.xi.st;have HH:Hid (Calls Tryz.prog 153 #[.pointer (some ⟨C.P,0,none⟩),.int .i64 (a:Int)] w (DrQ (.returned (.tuple #[.int .i64 (s.W a % 8),.int .i64 (s.W a / 8)])) w)):=ihead_any h (by omega) hgd.1 hgd.2.1;have HSZ:Hid (∀ w',Later w w'→Calls Tryz.prog 162 #[.pointer (some ⟨C.P,0,none⟩),.int .i64 (a:Int)] w' (DrQ (.returned (.int .i64 ((1+szW C.x (s.W a):Nat):Int))) w')):=fun w' l=>isizeAt_any hC (h.kept l) (by omega) hgd;have HC9:Hid (∀ w',Later w w'→w'.cell? ⟨C.P,9,none⟩=some (.slice (some ⟨C.WB,0,none⟩) C.N C.N)):=fun w' l=>(h.kept l).c9.1
 have HST:Hid (s.W a % 8=0→∀ k,k<szW C.x (s.W a)→∃ g off sc va vo vn vc,C.sv=.slice (some ⟨g,off,none⟩) C.x.structs.length sc∧(s.W a / 8).toNat<C.x.structs.length ∧
  ∀ w',Later C.w0 w'→w'.cell? ⟨g,off+(s.W a / 8).toNat,none⟩=some (.slice (some ⟨va,vo,none⟩) vn vc)∧w'.cell? ⟨va,vo+k,none⟩=some (.bool (leads C.x (s.W a) k))∧k<vn):=fun hm k hk=>st_at hC hgd hm hk
 have HLD:Hid (∀ k,¬ s.W a % 8=0→leads C.x (s.W a) k=(s.W a % 8==3)):=fun k hm=>by unfold leads;rw[if_neg hm]
 have h0:=hgd.1
 have hnum:∃ q:Nat,s.W a / 8=(q:Int):=⟨(s.W a / 8).toNat,by omega⟩
 obtain⟨q,hq⟩:=hnum
 have HI0:Hid (Pv C w s e cp iv ov rv∧Gc C.x C.H ts f0 s us∧a∈us):=⟨h,hG,ha⟩
 have HPl:Hid (Later C.w0 w):=h.lat;clear h hG
 generalize hhd:s.W a=hd at *
 have HWa:Hid (s.W a=hd):=hhd;clear hhd
 generalize hn:szW C.x hd=n at *
 have HN:Hid (szW C.x hd=n):=hn;clear hn;have HZ:Hid (∀ t w2,wordsF C.x C.H a hd n 0 s=some t→Pv C w2 t e cp iv ov rv→OnlyM C w w2→OptQ C w (.returned (.int .i64 ((a+1+n:Nat):Int))) s (wordsF C.x C.H a hd n 0 s) e cp iv ov rv (.returned (.int .i64 ((a+1+n:Nat):Int))) w2):=fun t w2 he p o=>by rw[he];exact⟨rfl,p,o⟩
 have HF:Hid (∀ t w2 m,wordsF C.x C.H a hd n 0 s=none→Fw s t→PanQ C t ov 7 0 m w2→OptQ C w (.returned (.int .i64 ((a+1+n:Nat):Int))) s (wordsF C.x C.H a hd n 0 s) e cp iv ov rv m w2):=fun t w2 m he f p=>by rw[he];exact f.pan p
 generalize OptQ C w (.returned (.int .i64 ((a+1+n:Nat):Int))) s (wordsF C.x C.H a hd n 0 s) e cp iv ov rv=Q at *
 have HFI:Hid (∀ {wr:World}{sk:Vm}{us':List Nat},Pv C wr sk e cp iv ov rv→Gc C.x C.H ts f0 sk us'→∀ b,b<C.N→Calls Tryz.prog 161 #[.pointer (some ⟨C.P,0,none⟩),.pointer (some ⟨C.WB,b,none⟩)] wr (OptQ C wr unitE sk (sk.foll C.x C.H b) e cp iv ov rv)):=fun p g b hb=>ifoll_any hC hMV p g hb;have hbN:a+(1+n)≤C.N:=by omega
 have hb40:a+(1+n)≤40000:=by omega
 clear hr hend hot hgd hsz hN h4 h0
 obtain⟨a1,ha1⟩:∃ a1,a1=a+1:=⟨_,rfl⟩
 obtain⟨b,hb⟩:∃ b,b=a+(1+n):=⟨_,rfl⟩
 have i1:(a:Int)+1=(a1:Int):=by omega
 have i2:(a:Int)+((1+n:Nat):Int)=(b:Int):=by omega
 have i3:(b:Int)≤(C.N:Int):=by omega
 have i4:(a1:Int)≤(b:Int):=by omega
 have i5:b - a1=n:=by omega
 have t1:a1≤40000:=by omega
 have t2:b≤40000:=by omega
 have i8:a1≤b:=by omega
 have hnN:Hid (∀ k,k<n→a1+k<C.N∧a1+k=a+1+k):=fun k hk=>by omega
 have hfin:Hid ((a1:Int)+(n:Int)=((a+1+n:Nat):Int)):=by show _=_;omega
 have hs1:((1+n:Nat):Int)≤40000:=by omega
 have hcap:C.N=a1→n=0:=fun q=>by omega
 clear ha1 hb hbN hb40
 generalize hsz1:((1+n:Nat):Int)=z1 at *
 generalize hm8:hd % 8=m at *
 clear hsz1;by_cases n2:C.N=a1
 ·obtain rfl:=hcap n2;have HT:=HZ.out s;clear HST HLD HFI HF hcap hnN;go_enter Tryz.func159,Tryz.ntmps159;go_wp2_with fail
  refine HH.out.mono ?_;rintro n1 w1 ⟨rfl,hk1⟩;have l1:Later w w1:=by obtain⟨j1,rfl⟩:=hk1;exact Later.drewN' w j1
  have c9:=HC9.out _ l1;clear hk1 HH;go_wp2_with fail
  go_quiet ((go_at_call 162;exact quiet_dr (HSZ.out _ (l1.trans (Later.drewN' _ _)))))
  go_wp2_with fail
  go_loopw [29] (fun i wr=>i=.int .i64 0∧Hid (Later w wr)) (fun _ _=>0)
  case atStart=>exact⟨rfl,l1.trans (Later.drewN' _ _)⟩
  case round =>
   obtain⟨rfl,lr⟩:=hrel;have HT2:=HT wr rfl (HI0.out.1.kept lr.out) (OnlyM.of_later lr.out);rw[show ((a+1+0:Nat):Int)=(a1:Int) by omega]at HT2;clear HT HI0;go_wp2_with fail
   exact HT2
 go_enter Tryz.func159,Tryz.ntmps159;go_wp2_with fail
 refine HH.out.mono ?_;rintro n1 w1 ⟨rfl,hk1⟩;have l1:Later w w1:=by obtain⟨j1,rfl⟩:=hk1;exact Later.drewN' w j1
 have c9:=HC9.out _ l1;clear hk1 HH;go_wp2_with fail
 go_quiet ((go_at_call 162;exact quiet_dr (HSZ.out _ (l1.trans (Later.drewN' _ _)))))
 go_wp2_with fail
 clear HSZ c9 HC9;go_loopw [29] (fun i wr=>∃ (k:Nat) (sk:Vm) (us':List Nat),i=.int .i64 (k:Int)∧k≤n∧Hid (wordsF C.x C.H a hd (n - k) k sk=wordsF C.x C.H a hd n 0 s∧Pv C wr sk e cp iv ov rv∧Gc C.x C.H ts f0 sk us'∧a∈us'∧sk.W a=hd∧OnlyM C w wr∧Fw s sk)) (fun i _=>n - (intOf i).toNat)
 case atStart =>
  have l2:=l1.trans (Later.drewN' w1 nq);exact⟨0,s,us,rfl,by omega,rfl,HI0.out.1.kept l2,HI0.out.2.1,HI0.out.2.2,HWa.out,OnlyM.of_later l2,Fw.refl _⟩
 case round =>
  obtain⟨k,sk,us',rfl,hkn,HI⟩:=hrel;by_cases hk:k<n
  ·have j1:(k:Int)<(n:Int):=by omega
   have HLw:Hid (Later C.w0 wr):=HI.out.2.1.lat;obtain⟨c5,_⟩:=HI.out.2.1.c5;have hkN:=hnN.out k hk;have HST2:Hid (∀ t,sk.foll C.x C.H (a1+k)=some t→∃ us2,Gc C.x C.H ts f0 t us2∧a∈us2∧t.W a=hd∧Fw sk t):=fun t ht=>words_step HI.out.2.2.1 HI.out.2.2.2.1 HI.out.2.2.2.2.1 (by rw[HN.out];exact hk) (by rw[←hkN.2];exact ht);have HFo:=HFI.out HI.out.2.1 HI.out.2.2.1 (a1+k) hkN.1;by_cases hm0:m=0
   ·obtain⟨g,off,sc,va,vo,vn,vc,hsv,hqn,hcs⟩:=HST.out hm0 k hk;obtain⟨d1,d2,d3⟩:=hcs wr HLw.out;rw[hq]at d1 hqn;simp only[Int.toNat_natCast]at d1 hqn;rw[hsv]at c5;have j2:(q:Int)<(C.x.structs.length:Int):=by omega
    have j3:(k:Int)<(vn:Int):=by omega
    have hwy:=@wordsF_yes C.x C.H a hd n k sk hk;have hwn:=@wordsF_no C.x C.H a hd n k sk hk
    generalize leads C.x hd k=lb at *
    subst hm0;clear hcs hsv
    cases lb
    ·have hst:=hwn rfl;clear hwy hwn
     have HI2:Hid (wordsF C.x C.H a hd (n - (k+1)) (k+1) sk=wordsF C.x C.H a hd n 0 s∧Pv C wr sk e cp iv ov rv∧Gc C.x C.H ts f0 sk us'∧a∈us'∧sk.W a=hd∧OnlyM C w wr∧Fw s sk):=⟨hst.symm.trans HI.out.1,HI.out.2⟩
     clear HI hst HFo HST2 HF HZ HFI HST HLD HN hnN HI0 hkN;go_wp2_with fail
     go_roundw
     case rel=>exact⟨k+1,sk,us',by go_num,by omega,HI2⟩
     case measure=>simp[intOf];omega
    ·have hst:=hwy rfl;clear hwy hwn;have HW:Hid (∀ o,sk.foll C.x C.H (a1+k)=o→wordsF C.x C.H a hd n 0 s=o.bind (wordsF C.x C.H a hd (n - (k+1)) (k+1))):=fun o ho=>by rw[←HI.out.1,hst,← hkN.2,ho]
     have HI1:Hid (OnlyM C w wr∧Fw s sk):=HI.out.2.2.2.2.2;clear HI hst HFI HST HLD HN hnN HI0 hkN HZ;go_wp2_with fail
     refine HFo.mono ?_;rintro n3 w3 hq3
     cases hf:sk.foll C.x C.H (a1+k) with
     | none =>
      rw[hf]at hq3;obtain⟨rfl,hrest⟩:=hq3;have HP:=HF.out sk w3 (finP 7 0) (HW.out _ hf) HI1.out.2 ⟨rfl,hrest⟩;clear HW HI1 HF HFo HST2 hrest;unfold finP at HP ⊢;go_wp2_with fail
      exact⟨rfl,HP⟩
     | some t =>
      rw[hf]at hq3;obtain⟨rfl,p3,o3⟩:=hq3;obtain⟨us2,g2,ha2,hw2,fw2⟩:=HST2.out t hf
      have HI2:Hid (wordsF C.x C.H a hd (n - (k+1)) (k+1) t=wordsF C.x C.H a hd n 0 s∧Pv C w3 t e cp iv ov rv∧Gc C.x C.H ts f0 t us2∧a∈us2∧t.W a=hd∧OnlyM C w w3∧Fw s t):=⟨(HW.out _ hf).symm,p3,g2,ha2,hw2,HI1.out.1.trans o3,HI1.out.2.trans fw2⟩
      clear HW HI1 HF HFo HST2 p3 g2 o3;unfold unitE;go_wp2_with fail
      go_roundw
      case rel=>exact⟨k+1,t,us2,by go_num,by omega,HI2⟩
      case measure=>simp[intOf];omega
   ·have hld:=HLD.out k hm0;have j4:(m==0)=false:=by simp[hm0]
    by_cases hm3:m=3
    ·have hst:=wordsF_yes (x:=C.x) (H:=C.H) (a:=a) (h:=hd) (s:=sk) hk (by rw[hld,hm3];rfl);clear hld;subst hm3;have HW:Hid (∀ o,sk.foll C.x C.H (a1+k)=o→wordsF C.x C.H a hd n 0 s=o.bind (wordsF C.x C.H a hd (n - (k+1)) (k+1))):=fun o ho=>by rw[←HI.out.1,hst,← hkN.2,ho]
     have HI1:Hid (OnlyM C w wr∧Fw s sk):=HI.out.2.2.2.2.2;clear HI hst HFI HST HLD HN hnN HI0 hkN HZ;go_wp2_with fail
     refine HFo.mono ?_;rintro n3 w3 hq3
     cases hf:sk.foll C.x C.H (a1+k) with
     | none =>
      rw[hf]at hq3;obtain⟨rfl,hrest⟩:=hq3;have HP:=HF.out sk w3 (finP 7 0) (HW.out _ hf) HI1.out.2 ⟨rfl,hrest⟩;clear HW HI1 HF HFo HST2 hrest;unfold finP at HP ⊢;go_wp2_with fail
      exact⟨rfl,HP⟩
     | some t =>
      rw[hf]at hq3;obtain⟨rfl,p3,o3⟩:=hq3;obtain⟨us2,g2,ha2,hw2,fw2⟩:=HST2.out t hf
      have HI2:Hid (wordsF C.x C.H a hd (n - (k+1)) (k+1) t=wordsF C.x C.H a hd n 0 s∧Pv C w3 t e cp iv ov rv∧Gc C.x C.H ts f0 t us2∧a∈us2∧t.W a=hd∧OnlyM C w w3∧Fw s t):=⟨(HW.out _ hf).symm,p3,g2,ha2,hw2,HI1.out.1.trans o3,HI1.out.2.trans fw2⟩
      clear HW HI1 HF HFo HST2 p3 g2 o3;unfold unitE;go_wp2_with fail
      go_roundw
      case rel=>exact⟨k+1,t,us2,by go_num,by omega,HI2⟩
      case measure=>simp[intOf];omega
    ·have j5:(m==3)=false:=by simp[hm3]
     have hst:=wordsF_no (x:=C.x) (H:=C.H) (a:=a) (h:=hd) (s:=sk) hk (by rw[hld,j5]);clear hld
     have HI2:Hid (wordsF C.x C.H a hd (n - (k+1)) (k+1) sk=wordsF C.x C.H a hd n 0 s∧Pv C wr sk e cp iv ov rv∧Gc C.x C.H ts f0 sk us'∧a∈us'∧sk.W a=hd∧OnlyM C w wr∧Fw s sk):=⟨hst.symm.trans HI.out.1,HI.out.2⟩
     clear HI hst HFo HST2 HF HZ HFI HST HLD HN hnN HI0 hkN;go_wp2_with fail
     go_roundw
     case rel=>exact⟨k+1,sk,us',by go_num,by omega,HI2⟩
     case measure=>simp[intOf];omega
  ·obtain rfl:k=n:=by omega
   have HE:=HZ.out sk wr (by rw[←HI.out.1,Nat.sub_self];rfl) HI.out.2.1 HI.out.2.2.2.2.2.1;have j1:¬ ((k:Int)<(k:Int)):=by omega
   rw[←hfin.out]at HE;clear HI HF HZ HFI HST HLD HN hnN HI0 hfin;go_wp2_with fail
   exact HE
theorem slots_step {x:Im}{H fp:Nat}{ts us:List Nat}{f0:Nat}{s t:Vm}{k:Int}(g:Gc x H ts f0 s us) (hk:fp+k.toNat<12000) (e:s.foll x H (fp+k.toNat)=some t):∃ us',Gc x H ts f0 t us'∧Fw s t:=by
 obtain⟨us',g',f,_⟩:=slotsF_gc (l:=[k]) (t:=t) g (fun j hj=>by rw[List.mem_singleton.1 hj];exact hk) (by rw[slotsF,e];rfl);exact⟨us',g',f⟩
theorem slotsF_at {x:Im}{H fp:Nat}{l:List Int}{j:Nat}{s:Vm}(hj:j<l.length):slotsF x H fp (l.drop j) s=(s.foll x H (fp+l[j].toNat)).bind (slotsF x H fp (l.drop (j+1))):=by
 rw[List.drop_eq_getElem_cons hj,slotsF]
structure FfI (C:Cx) (ts:List Nat) (f0:Nat) (w:World) (s:Vm) (base:Nat) (e:Nat) (cp iv ov rv:Value) (r:Option Vm) (n fp:Nat) (pc:Int) (t:Vm) (wr:World):Prop where
 eq:framesF C.x C.H n fp pc t=r
 pv:Pv C wr t e cp iv ov rv
 gc:∃ us,Gc C.x C.H ts f0 t us
 fr:FrI C.x t base n fp pc
 om:OnlyM C w wr
 fw:Fw s t
 n0:n=0→fp=0
 np:0<n→0<fp
theorem frames_next {x:Im}(hx:ImI x) {H:Nat}{ts us:List Nat}{f0:Nat}{s t:Vm}(g:Gc x H ts f0 s us) {base n fp:Nat}{pc:Int}(h:FrI x s base (n+1) fp pc) (e:slotsF x H fp (mapAt (cdAt x (s.W (fp+2)).toNat) pc) s=some t) :
  ∃ us',Gc x H ts f0 t us'∧Fw s t∧FrI x t base n (t.W fp).toNat (t.W (fp+1) - 1)∧∃ fq:Nat,t.W fp=(fq:Int)∧(0<fp→fq<fp)∧(n=0→fq=0)∧(0<n→0<fq):=by
 obtain⟨us',g',f,fr,hw⟩:=FrI.next hx g h e
 refine⟨us',g',f,fr,?_⟩;have hch:=h.ch (by omega);obtain⟨c,hc,hcl,_,hfp⟩:=h.c (by omega);have hfc:=(hx.at hcl).fr;have hlo:t.W fp=s.W fp:=hw fp (by omega) (by omega)
 cases n with
 | zero =>
  rw[Chain]at hch;exact⟨0,by rw[hlo,hch.2];rfl,fun q=>q,fun _=>rfl,fun q=>by omega⟩
 | succ n =>
  rw[Chain]at hch;obtain⟨g0,q,c0,i,h1,h2,e3,h4,h5,h6,h7,h8,h9⟩:=hch;have hf0:=(hx.at h4).fr;exact⟨g0,by rw[hlo,h1],fun _=>by omega,fun q=>by omega,fun _=>h2⟩
theorem FrI.pcs {x:Im}(hx:ImI x) {s:Vm}{base n fp:Nat}{pc:Int}(h:FrI x s base (n+1) fp (pc - 1)):∃ c:Nat,s.W (fp+2)=c∧c<x.codes.length∧SafeAt x c (pc - 1)∧fp+frN x c≤12000∧1≤pc∧pc≤6000∧(∀ k:Int,k∈mapAt (cdAt x c) (pc - 1)→3≤k∧k<frN x c):=by
 obtain⟨c,h1,h2,h3,h4⟩:=h.c (by omega);have hci:=hx.at h2;obtain⟨m,_,_,_,hm,hk⟩:=h3.map hci;obtain⟨q,i,e,hi,_⟩:=id h3
 have hq:q<(cdAt x c).ins.length:=by
  rcases Nat.lt_or_ge q (cdAt x c).ins.length with k|k
  ·exact k
  ·rw[List.getElem?_eq_none k]at hi;cases hi
 have:=hci.i6;have hfr:=hci.fr;exact⟨c,h1,h2,h3,h4,by omega,by omega,fun k hk'=>by rw[hm]at hk';have:=hk k hk';omega⟩
theorem iframes_any {C:Cx}(hC:CxI C) (hMV:IMove C) {w:World}{s:Vm}{e:Nat}{cp iv ov rv:Value}(h:Pv C w s e cp iv ov rv) {ts us:List Nat}{f0 base:Nat}(hG:Gc C.x C.H ts f0 s us) (hF:FrI C.x s base s.calls s.fp ((s.pc:Int) - 1)) (h1:1≤s.calls) (hpc:s.pc≤6000) (hfp:0<s.fp) :
  Calls Tryz.prog 158 #[.pointer (some ⟨C.P,0,none⟩)] w (OptQ C w unitE s (framesF C.x C.H s.calls s.fp ((s.pc:Int) - 1) s) e cp iv ov rv):=by
 have hN:=hC.hN
 have HI0:Hid (FfI C ts f0 w s base e cp iv ov rv (framesF C.x C.H s.calls s.fp ((s.pc:Int) - 1) s) s.calls s.fp ((s.pc:Int) - 1) s w):=⟨rfl,h,⟨us,hG⟩,hF,OnlyM.refl _ _,Fw.refl _,fun q=>by omega,fun _=>hfp⟩
 obtain⟨c57,_⟩:=h.c57;obtain⟨c59,_⟩:=h.c59;have HZ:Hid (∀ t w2,framesF C.x C.H s.calls s.fp ((s.pc:Int) - 1) s=some t→Pv C w2 t e cp iv ov rv→OnlyM C w w2→OptQ C w unitE s (framesF C.x C.H s.calls s.fp ((s.pc:Int) - 1) s) e cp iv ov rv unitE w2):=fun t w2 he p o=>by rw[he];exact⟨rfl,p,o⟩
 have HF:Hid (∀ t w2 m,framesF C.x C.H s.calls s.fp ((s.pc:Int) - 1) s=none→Fw s t→PanQ C t ov 7 0 m w2→OptQ C w unitE s (framesF C.x C.H s.calls s.fp ((s.pc:Int) - 1) s) e cp iv ov rv m w2):=fun t w2 m he f p=>by rw[he];exact f.pan p
 generalize OptQ C w unitE s (framesF C.x C.H s.calls s.fp ((s.pc:Int) - 1) s) e cp iv ov rv=Q at *
 generalize framesF C.x C.H s.calls s.fp ((s.pc:Int) - 1) s=R at *
 have HFI:Hid (∀ {wr:World}{sk:Vm}{us':List Nat},Pv C wr sk e cp iv ov rv→Gc C.x C.H ts f0 sk us'→∀ b,b<C.N→Calls Tryz.prog 161 #[.pointer (some ⟨C.P,0,none⟩),.pointer (some ⟨C.WB,b,none⟩)] wr (OptQ C wr unitE sk (sk.foll C.x C.H b) e cp iv ov rv)):=fun p g b hb=>ifoll_any hC hMV p g hb;have hpc':(s.pc:Int)≤6000:=by omega
 clear h hG hF;go_enter Tryz.func158,Tryz.ntmps158;go_wp2_with fail
 go_quiet (fail)
 go_wp2_with fail
 go_loopw [2,3] (fun i j wr=>∃ (n fp:Nat) (pc:Int) (t:Vm),i=.int .i64 (fp:Int)∧j=.int .i64 pc∧Hid (FfI C ts f0 w s base e cp iv ov rv R n fp (pc - 1) t wr)) (fun i _ _=>(intOf i).toNat)
 case atStart =>
  have l:=Later.drewN' w nq;exact⟨s.calls,s.fp,s.pc,s,rfl,rfl,HI0.out.eq,HI0.out.pv.kept l,HI0.out.gc,HI0.out.fr,(OnlyM.of_later l),Fw.refl _,HI0.out.n0,HI0.out.np⟩
 case round =>
  obtain⟨n,fp,pc,t,rfl,rfl,HI⟩:=hrel;clear HI0 c57 c59;by_cases hfp0:fp=0
  ·have hn:n=0:=by
    rcases Nat.eq_zero_or_pos n with q|q
    ·exact q
    ·have:=HI.out.np q;omega
   have HE:=HZ.out t wr (by rw[←HI.out.eq,hn];rfl) HI.out.pv HI.out.om;subst hfp0;unfold unitE at HE;clear HI HF HZ HFI;go_wp2_with fail
   first|exact HE|(go_end0;exact HE)
  ·obtain⟨n',rfl⟩:∃ n',n=n'+1:=⟨n - 1,by have:=HI.out.n0;omega⟩
   have j0:((fp:Int) != 0)=true:=by simp[hfp0]
   obtain⟨c,hc,hcl,hsafe,hfr,hp1,hp6,hsl⟩:=FrI.pcs hC.xi HI.out.fr;have HC1:Hid (Calls Tryz.prog 143 #[.pointer (some ⟨C.P,0,none⟩),.int .i64 (fp:Int)] wr (DrQ (.returned (codeP C c)) wr)):=icode_any hC HI.out.pv (by have:=(hC.xi.at hcl).fr;omega) hc hcl;have HC2:Hid (∀ w',Later wr w'→Calls Tryz.prog 160 #[codeP C c,.int .i64 (pc - 1)] w' (SlQ C w' (mapAt (cdAt C.x c) (pc - 1)))):=fun w' l=>islots_any hC (HI.out.pv.lat.trans l) hcl hsafe;have HM:Hid (mapAt (cdAt C.x (t.W (fp+2)).toNat) (pc - 1)=mapAt (cdAt C.x c) (pc - 1)):=by show _=_;rw[hc];rfl
   have HSL:Hid (∀ k:Int,k∈mapAt (cdAt C.x c) (pc - 1)→3≤k∧fp+k.toNat<12000):=fun k hk=>by have:=hsl k hk;exact⟨this.1,by omega⟩
   generalize mapAt (cdAt C.x c) (pc - 1)=l at *
   have HN12:Hid (12000≤C.N):=by show _≤_;omega
   have HK:Hid (∀ w',Later wr w'→Pv C w' t e cp iv ov rv):=fun w' lt=>HI.out.pv.kept lt;have hfps:fp+3≤12000:=by have:=(hC.xi.at hcl).fr;omega
   have hfN:Hid (fp+3≤C.N):=by show _≤_;omega
   clear hsl hsafe hfr hN;go_wp2_with fail
   refine HC1.out.mono ?_;rintro n1 w1 ⟨rfl,hk1⟩;have l1:Later wr w1:=by obtain⟨j1,rfl⟩:=hk1;exact Later.drewN' wr j1
   clear hk1 HC1;go_wp2_with fail
   refine (HC2.out w1 l1).mono ?_;rintro n2 w2 ⟨v,rfl,hv,l2⟩;obtain⟨va,vc,rfl,hvl⟩:=In.slice hv;have l12:=l1.trans l2
   have HV:Hid (∀ j (hj:j<l.length),∃ g off,va=some ⟨g,off,none⟩∧∀ w',Later C.w0 w'→w'.cell? ⟨g,off+j,none⟩=some (.int .i64 l[j])):=fun j hj=>by
    obtain⟨g,off,rfl,hg,hcj⟩:=In.elem hv j hj;exact⟨g,off,rfl,fun w' lt=>(Below.cell lt (p:=⟨g,off+j,none⟩) hg).trans hcj⟩
   clear HC2 hv;go_wp2_with fail
   go_loopw [23] (fun i wx=>∃ (j:Nat) (tj:Vm),i=.int .i64 (j:Int)∧j≤l.length∧Hid (slotsF C.x C.H fp (l.drop j) tj=slotsF C.x C.H fp l t∧Pv C wx tj e cp iv ov rv∧(∃ us,Gc C.x C.H ts f0 tj us)∧OnlyM C w wx∧Fw s tj)) (fun i _=>l.length - (intOf i).toNat)
   case atStart=>exact⟨0,t,rfl,by omega,rfl,HK.out _ l12,HI.out.gc,HI.out.om.trans (OnlyM.of_later l12),HI.out.fw⟩
   case round =>
    obtain⟨j,tj,rfl,hjl,HJ⟩:=hrel;clear HK;by_cases hj:j<l.length
    ·have j1:(j:Int)<(l.length:Int):=by omega
     obtain⟨g,off,rfl,hcj⟩:=HV.out j hj;have d1:=hcj _ HJ.out.2.1.lat;obtain⟨d9,_⟩:=HJ.out.2.1.c9;have hk2:=HSL.out _ (List.getElem_mem hj);have hat:=slotsF_at (x:=C.x) (H:=C.H) (fp:=fp) (s:=tj) hj;obtain⟨uj,gj⟩:=HJ.out.2.2.1;have HST2:Hid (∀ u,tj.foll C.x C.H (fp+l[j].toNat)=some u→∃ us2,Gc C.x C.H ts f0 u us2∧Fw tj u):=fun u hu=>slots_step gj hk2.2 hu;have HFo:=HFI.out HJ.out.2.1 gj (fp+l[j].toNat) (Nat.lt_of_lt_of_le hk2.2 HN12.out);have HE0:Hid (slotsF C.x C.H fp l t=none→R=none):=fun q=>by rw[←HI.out.eq,framesF,HM.out,q];rfl
     have HW:Hid (∀ o,tj.foll C.x C.H (fp+l[j].toNat)=o→slotsF C.x C.H fp l t=o.bind (slotsF C.x C.H fp (l.drop (j+1)))):=fun o ho=>by rw[←HJ.out.1,hat,ho]
     have HI1:Hid (OnlyM C w wr∧Fw s tj):=HJ.out.2.2.2;have k3:(fp:Int)+l[j]=((fp+l[j].toNat:Nat):Int):=by omega
     have k4:((fp+l[j].toNat:Nat):Int)<(C.N:Int):=by have:=HN12.out;omega
     have k5:((fp+l[j].toNat:Nat):Int)≤12000:=by omega
     clear hat gj hcj HJ
     generalize fp+l[j].toNat=ad at *
     generalize l[j]=kk at *
     go_wp2_with fail
     refine HFo.mono ?_;rintro n3 w3 hq3
     cases hf:tj.foll C.x C.H ad with
     | none =>
      rw[hf]at hq3;obtain⟨rfl,hrest⟩:=hq3;have HP:=HF.out tj w3 (finP 7 0) (HE0.out (HW.out _ hf)) HI1.out.2 ⟨rfl,hrest⟩;clear HW HI1 HF HFo HST2 hrest HI HZ HFI;unfold finP at HP ⊢;go_wp2_with fail
      exact⟨rfl,HP⟩
     | some u =>
      rw[hf]at hq3;obtain⟨rfl,p3,o3⟩:=hq3;obtain⟨us2,g2,fw2⟩:=HST2.out u hf
      have HJ2:Hid (slotsF C.x C.H fp (l.drop (j+1)) u=slotsF C.x C.H fp l t∧Pv C w3 u e cp iv ov rv∧(∃ us,Gc C.x C.H ts f0 u us)∧OnlyM C w w3∧Fw s u):=⟨(HW.out _ hf).symm,p3,⟨us2,g2⟩,HI1.out.1.trans o3,HI1.out.2.trans fw2⟩
      clear HW HI1 HFo HST2 p3 g2 o3;unfold unitE;go_wp2_with fail
      go_roundw
      case rel=>exact⟨j+1,u,by go_num,by omega,HJ2⟩
      case measure=>simp[intOf];omega
    ·obtain rfl:j=l.length:=by omega
     have heq:slotsF C.x C.H fp l t=some tj:=by rw[←HJ.out.1,List.drop_length];rfl
     obtain⟨ut,gt⟩:=HI.out.gc;obtain⟨us',g',fw',fr',fq,hfq,hlt,hz0,hzp⟩:=frames_next hC.xi gt HI.out.fr (by rw[HM.out];exact heq);obtain⟨d9,_⟩:=HJ.out.2.1.c9;have hfN2:=hfN.out;obtain⟨dw0,_⟩:=HJ.out.2.1.word (a:=fp) (by omega);obtain⟨dw1,_⟩:=HJ.out.2.1.word (a:=fp+1) (by omega);rw[hfq]at dw0
     have HX:Hid (FfI C ts f0 w s base e cp iv ov rv R n' fq (tj.W (fp+1) - 1) tj wr):=by
      refine⟨?_,HJ.out.2.1,⟨us',g'⟩,?_,HJ.out.2.2.2.1,HJ.out.2.2.2.2,hz0,hzp⟩
      ·rw[←HI.out.eq,framesF,HM.out,heq];show _=framesF C.x C.H n' (tj.W fp).toNat (tj.W (fp+1) - 1) tj;rw[hfq];rfl
      ·rw[hfq]at fr';exact fr'
     have j1:¬ ((l.length:Int)<(l.length:Int)):=by omega
     obtain⟨f1,hf1⟩:∃ f1,f1=fp+1:=⟨_,rfl⟩
     rw[←hf1]at dw1 HX;have k1:(fp:Int)+1=(f1:Int):=by omega
     have k2:(f1:Int)<(C.N:Int):=by omega
     have k3:(f1:Int)≤12000:=by omega
     have k4:(fp:Int)<(C.N:Int):=by omega
     have hlt2:=hlt (by omega);clear hf1 HJ HI heq gt g' fw' fr' HF HZ HFI hfq hz0 hzp hlt HSL HM HV
     generalize tj.W f1=pn at *
     go_wp2_with fail
     go_quiet (fail)
     go_wp2_with fail
     go_roundw
     case rel=>exact⟨n',fq,pn,tj,rfl,rfl,HX.out.eq,HX.out.pv.kept (Later.drewN' _ _),HX.out.gc,HX.out.fr,HX.out.om.drewN _,HX.out.fw,HX.out.n0,HX.out.np⟩
     case measure=>simp[intOf];omega
end Go.Proofs.YtjnpncefkigcbaaGreat
