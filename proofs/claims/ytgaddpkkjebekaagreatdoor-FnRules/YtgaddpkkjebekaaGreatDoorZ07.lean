import Derived.Test.YtgaddpkkjebekaaGreatDoorZ06
set_option maxHeartbeats 100000000
set_option maxRecDepth 100000
namespace Go.Proofs.YtgaddpkkjebekaaGreatDoor
open Go.RowKit
theorem St.oP (x:St):Ex.szs x.kids<=x.sz/\St.szs x.body<=x.sz/\St.szs x.els<=x.sz:=by
  obtain⟨k,n,tk,tn,nm,ks,bo,el⟩:=x;show Ex.szs ks<=nm.length+Ex.szs ks+St.szs bo+St.szs el/\St.szs bo<=nm.length+Ex.szs ks+St.szs bo+St.szs el/\St.szs el<=nm.length+Ex.szs ks+St.szs bo+St.szs el;omega
theorem Aw (x:St) (v0 v1 v2 v3:Value) (K:Nat) (s p d:Int) (w0 w:World) (hg:InR x.n) (h0:RdN w0 v0 x.name) (h1:RdL w0 6 v1 (Ex.ah x.kids)) (h2:RdL w0 8 v2 (St.ah x.body)) (h3:RdL w0 8 v3 (St.ah x.els)) (hL:Later w0 w) (hK:w0.heap.size<=K) (hS:Sv K w s p) (hp0:0<=p) (hp1:p<=400)
     (hbad:iD x.kind=none\/∃ f,iD x.kind=some f/\(¬ (p+1<=400/\d<=30)\/dE f x.n x.tk x.tn x.name x.kids.length s=false)) :
    Calls Tryz.prog 137 #[.pointer (some ⟨K,0,none⟩),.agg #[.int .i64 x.kind,.int .i64 x.n,.int .i64 x.tk,.int .i64 x.tn,v0,v1,v2,v3],.int .i64 d] w fun e w'=>SvP K s w none e w':=by
  have hne:w.heap.size≠K:=by have:=hS.lt;omega
  have hF:=fun w=>AX x.kind w;obtain⟨a0,p0,rfl,_⟩:=h0.slice;obtain⟨a1,p1,rfl,hkl⟩:=Ex.slice h1;obtain⟨a2,p2,rfl,hbl⟩:=St.slice h2;obtain⟨a3,p3,rfl,hel⟩:=St.slice h3;clear h1 h2 h3;rcases hbad with q|⟨f,q,hb⟩
  · rw[q]at hF
    have HF:Hid (∀ w' e,Later w w'->e=.returned (.bool false)->SvP K s w none e w'):=fun w' e l he=>SvP.no (af.of_later l) rfl he (hS.later l);clear h0 hg
    generalize x.kind=z_kind at *
    generalize x.n=z_n at *
    generalize x.tk=z_tk at *
    generalize x.tn=z_tn at *
    go_enter Tryz.func137,Tryz.ntmps137;go_wp2_with fail
    refine (hF _).mono ?_;rintro e w1 ⟨⟨f,rfl,_⟩,l1⟩;obtain⟨fe,mo,fn,ft,na,bo,ot⟩:=f;unfold pW;dsimp only;go_wp2_with fail
    go_ret;exact HF.out _ _ (((ae _ _).trans l1).alloc _) rfl
  · have henter:=fun (w':World) (hS':Sv K w' s p)=>vk K s p d w' hS' hp0 hp1
    have hfit:=fun (p:Int) (w':World) (l:Later w0 w') (hS':Sv K w' s p)=>xZ K f x.n x.tk x.tn s p _ x.name a1 x.kids.length p1 w' hg hS' (h0.later l)
    generalize dE f x.n x.tk x.tn x.name x.kids.length s=fb at *
    have hF':∀ w,Calls Tryz.prog 159 #[.int .i64 x.kind] w fun e w'=>e=.returned (.tuple #[pW f,.bool true])/\Later w w':=fun w=>by
      refine (hF w).mono ?_;rintro e w' ⟨⟨g,he,hg⟩,l⟩;have:g=f:=hg f q;rw[this,q]at he;exact⟨he,l⟩
    clear hF;clear q h0 hg;obtain⟨fe,mo,fn,ft,na,bo,ot⟩:=f;unfold pW at hF' hfit;dsimp only at hF' hfit;by_cases hen:p+1<=400/\d<=30
    · obtain⟨he1,he2⟩:=hen
      rw[decide_eq_true he1,decide_eq_true he2]at henter;have hfb:fb=false:=by rcases hb with h|h;exact absurd ⟨he1,he2⟩ h;exact h
      subst hfb;clear hb
      generalize x.kind=z_kind at *
      generalize x.n=z_n at *
      generalize x.tk=z_tk at *
      generalize x.tn=z_tn at *
      go_enter Tryz.func137,Tryz.ntmps137;go_wp2_with fail
      refine (hF' _).mono ?_;rintro e w1 ⟨rfl,l1⟩;have L1:Later w w1:=(ae _ _).trans l1;have s1:=L1.size;have hz1:w.heap.size<w1.heap.size:=by have:=l1.size;simp at this;omega
      have hne1:w1.heap.size≠K:=by have:=hS.lt;omega
      obtain⟨hc1,_⟩:=dG l1;have hS1:Sv K (w1.alloc (.cells #[.int .i64 fe,.int .i64 mo,.int .i64 fn,.int .i64 ft,.bool na,.bool bo,.bool ot] 231)) s p:=hS.later (L1.alloc _);have hL1:=hL.trans (L1.alloc (.cells #[.int .i64 fe,.int .i64 mo,.int .i64 fn,.int .i64 ft,.bool na,.bool bo,.bool ot] 231));go_wp2_with (first|(go_at_call 112;refine (henter _ hS1).mono ?_;rintro e w2 ⟨rfl,hS2,o2⟩;have hc2:=bC o2;have hL2:=aB hL1 o2 hK;have hz2:w.heap.size<w2.heap.size:=(by have:=o2.size;simp at this;omega);have hy2:w1.heap.size<w2.heap.size:=(by have:=o2.size;simp at this;omega))|(go_at_call 160;refine (hfit _ _ hL2 hS2).mono ?_;rintro e w3 ⟨rfl,l3⟩;obtain⟨hc3,_⟩:=dG l3;have hS3:=hS2.later l3;have hL3:=hL2.trans l3;have hz3:w.heap.size<w3.heap.size:=(by have:=l3.size;omega);have hk3:Hid (∀ b o,b<w0.heap.size->w3.cell? ⟨b,o,none⟩=w0.cell? ⟨b,o,none⟩):=(fun b o hb=>Below.cell hL3 (p:=⟨b,o,none⟩) hb)))
      go_ret;exact SvP.no (((af.of_later (L1.alloc _)).trans o2).trans (af.of_later l3)) rfl rfl hS3
    · have he:(decide (p+1<=400)&&decide (d<=30))=false:=by
        by_cases h1:p+1<=400
        · rw[decide_eq_false (show ¬ d<=30 by omega),Bool.and_false]
        · rw[decide_eq_false h1,Bool.false_and]
      rw[he]at henter;clear hb he hfit
      generalize x.kind=z_kind at *
      generalize x.n=z_n at *
      generalize x.tk=z_tk at *
      generalize x.tn=z_tn at *
      go_enter Tryz.func137,Tryz.ntmps137;go_wp2_with fail
      refine (hF' _).mono ?_;rintro e w1 ⟨rfl,l1⟩;have L1:Later w w1:=(ae _ _).trans l1;have s1:=L1.size;have hz1:w.heap.size<w1.heap.size:=by have:=l1.size;simp at this;omega
      have hne1:w1.heap.size≠K:=by have:=hS.lt;omega
      obtain⟨hc1,_⟩:=dG l1;have hS1:Sv K (w1.alloc (.cells #[.int .i64 fe,.int .i64 mo,.int .i64 fn,.int .i64 ft,.bool na,.bool bo,.bool ot] 231)) s p:=hS.later (L1.alloc _);have hL1:=hL.trans (L1.alloc (.cells #[.int .i64 fe,.int .i64 mo,.int .i64 fn,.int .i64 ft,.bool na,.bool bo,.bool ot] 231));go_wp2_with (go_at_call 112;refine (henter _ hS1).mono ?_;rintro e w2 ⟨rfl,hS2,o2⟩;have hc2:=bC o2;have hL2:=aB hL1 o2 hK;have hz2:w.heap.size<w2.heap.size:=(by have:=o2.size;simp at this;omega);have hy2:w1.heap.size<w2.heap.size:=(by have:=o2.size;simp at this;omega))
      go_ret;exact SvP.no ((af.of_later (L1.alloc _)).trans o2) rfl rfl hS2
theorem SY {ks:List Ex}(h:0<ks.length):headB 1 ks=leftB ks[0].kind:=by
  match ks,h with
  | e::r,_=>rfl
theorem SX {ks:List Ex}(h:0<ks.length):headB 7 ks=(ks[0].kind==6):=by
  match ks,h with
  | e::r,_=>rfl
theorem SS {k:Int}(ks:List Ex) (h1:k≠1) (h7:k≠7):headB k ks=true:=by unfold headB;rw[if_neg h1,if_neg h7]
def St.tail (s d:Int) (x:St) (R1:Option Int):Option Int:=match R1 with|none=>none|some l1=>match St.runs s (d+1) l1 x.body with|none=>none|some l2=>St.runs s (d+1) l2 x.els
theorem St.JD (s d l:Int) (x:St):St.run s d l x=if l - 1<0\/30<d\/lD s x.kind x.n x.tk x.tn x.name x.kids x.body.length x.els.length=false then none else St.tail s d x (Ex.runs s (d+1) (l - 1) x.kids):=by
  rw[St.H6];rfl
structure VA (s d l:Int) (x:St) (R1 R:Option Int):Prop where
  r0:R1=none->R=none
  b1:∀ l1,R1=some l1->0<=l1/\l1<=400
  r1:∀ l1,R1=some l1->(St.runs s (d+1) l1 x.body=none->R=none)/\∀ l2,St.runs s (d+1) l1 x.body=some l2->0<=l2/\l2<=400/\R=St.runs s (d+1) l2 x.els
theorem VA.of {s d l:Int}{x:St}(h0:0<=l) (h1:l<=400):VA s d l x (Ex.runs s (d+1) l x.kids) (St.tail s d x (Ex.runs s (d+1) l x.kids)):=by
  unfold St.tail;refine⟨fun h=>by rw[h],fun l1 h=>?_,fun l1 h=>⟨fun h2=>by rw[h];dsimp only;rw[h2],fun l2 h2=>?_⟩⟩
  · have:=Ex.dw s x.kids _ _ _ h
    have:=this.2 h0;omega
  · have a:=Ex.dw s x.kids _ _ _ h
    have b:=St.dw s x.body _ _ _ h2;have a2:=a.2 h0;have b2:=b.2 a2;refine⟨b2,by omega,?_⟩;rw[h];dsimp only;rw[h2]
theorem MM (x:St) (v0 v1 v2 v3:Value) (K:Nat) (s p d:Int) (w0 w:World) (hg:x.good) (h0:RdN w0 v0 x.name) (h1:RdL w0 6 v1 (Ex.ah x.kids)) (h2:RdL w0 8 v2 (St.ah x.body)) (h3:RdL w0 8 v3 (St.ah x.els)) (hL:Later w0 w) (hK:w0.heap.size<=K) (hS:Sv K w s p) (hp0:0<=p) (hp1:p<=400) (hd0:0<=d) (hd1:d<=31)
    (ih:∀ (v:Value) (l:List St) (p d:Int) (w:World),St.aZ l->RdL w0 8 v (St.ah l)->St.szs l<=x.sz->Later w0 w->Sv K w s p->0<=p->p<=400->0<=d->d<=31->Calls Tryz.prog 108 #[.pointer (some ⟨K,0,none⟩),v,.int .i64 d] w fun e w'=>SvP K s w (St.runs s d (400 - p) l) e w') (f:Form) (q:iD x.kind=some f) (he1:p+1<=400) (he2:d<=30) (hfb:dE f x.n x.tk x.tn x.name x.kids.length s=true) :
    Calls Tryz.prog 137 #[.pointer (some ⟨K,0,none⟩),.agg #[.int .i64 x.kind,.int .i64 x.n,.int .i64 x.tk,.int .i64 x.tn,v0,v1,v2,v3],.int .i64 d] w fun e w'=>SvP K s w (St.run s d (400 - p) x) e w':=by
  have hne:w.heap.size≠K:=by have:=hS.lt;omega
  have hrun:=St.JD s d (400 - p) x;have hF:=fun w=>AX x.kind w;obtain⟨hn,hgk,hgb,hge⟩:=St.xe hg;obtain⟨sz1,sz2,sz3⟩:=St.oP x;obtain⟨a0,p0,rfl,_⟩:=h0.slice;obtain⟨a1,p1,rfl,hkl⟩:=Ex.slice h1;obtain⟨a2,p2,rfl,hbl⟩:=St.slice h2;obtain⟨a3,p3,rfl,hel⟩:=St.slice h3
  have hF':∀ w,Calls Tryz.prog 159 #[.int .i64 x.kind] w fun e w'=>e=.returned (.tuple #[pW f,.bool true])/\Later w w':=fun w=>by
    refine (hF w).mono ?_;rintro e w' ⟨⟨g,he,hg⟩,l⟩;have:g=f:=hg f q;rw[this,q]at he;exact⟨he,l⟩
  clear hF;have henter:=fun (w':World) (hS':Sv K w' s p)=>vk K s p d w' hS' hp0 hp1;rw[decide_eq_true he1,decide_eq_true he2]at henter;have hfit:=fun (p:Int) (w':World) (l:Later w0 w') (hS':Sv K w' s p)=>xZ K f x.n x.tk x.tn s p _ x.name a1 x.kids.length p1 w' hn hS' (h0.later l);rw[hfb]at hfit;have hI1:=fun w' l hS'=>IZ _ x.kids K s (p+1) (d+1) w0 w' hgk h1 l hK hS' (by omega) (by omega) (by omega) (by omega);have hI2:=fun l1 (m1:0<=l1) (m2:l1<=400) w' l hS'=>ih _ x.body (400 - l1) (d+1) w' hgb h2 sz2 l hS' (by omega) (by omega) (by omega) (by omega);have hI3:=fun l1 (m1:0<=l1) (m2:l1<=400) w' l hS'=>ih _ x.els (400 - l1) (d+1) w' hge h3 sz3 l hS' (by omega) (by omega) (by omega) (by omega);simp only[show ∀ l1:Int,400 - (400 - l1)=l1 from fun l1=>by omega]at hI2 hI3;have HT:=VA.of (s:=s) (d:=d) (l:=400 - (p+1)) (x:=x) (by omega) (by omega);rw[show (400:Int) - p - 1=400 - (p+1) by omega]at hrun;have hh:lD s x.kind x.n x.tk x.tn x.name x.kids x.body.length x.els.length=((f.2.2.2.2.2.1||decide (x.body.length=0))&&(f.2.2.2.2.2.2||decide (x.els.length=0))&&headB x.kind x.kids):=by unfold lD;rw[q];dsimp only;rw[hfb,Bool.true_and]
  rw[hh]at hrun
  have hmin:f.1<=(x.kids.length:Int):=by
    have:=hfb;unfold dE at this;simp only[Bool.and_eq_true,decide_eq_true_eq]at this;exact this.1.1.1.1
  have hform:(x.kind=1->f=(2,2,0,0,false,false,false))/\(x.kind=7->f=(1,1,0,0,false,false,false)):=⟨fun e=>by rw[e]at q;exact (Option.some.inj q).symm,fun e=>by rw[e]at q;exact (Option.some.inj q).symm⟩
  clear hh hfb q h2 h3 hg ih h0 sz1 sz2 sz3 hgk hgb hge hn
  generalize St.run s d (400 - p) x=R at *
  generalize hR1:Ex.runs s (d+1) (400 - (p+1)) x.kids=R1 at *
  clear hR1;obtain⟨fe,mo,fn,ft,na,bo,ot⟩:=f;unfold pW at hF' hfit;dsimp only at hF' hfit hrun hmin;by_cases hbo:(bo||decide (x.body.length=0))=true
  · by_cases hot:(ot||decide (x.els.length=0))=true
    · rw[hbo,hot]at hrun
      by_cases k1:x.kind=1
      · obtain⟨rfl,rfl,rfl,rfl,rfl,rfl,rfl⟩:fe=2/\mo=2/\fn=0/\ft=0/\na=false/\bo=false/\ot=false:=by have:=hform.1 k1;simpa using this
        have eb:x.body.length=0:=of_decide_eq_true (by rwa [Bool.false_or]at hbo);have eo:x.els.length=0:=of_decide_eq_true (by rwa [Bool.false_or]at hot);have hkp:0<x.kids.length:=by omega
        have hkp':(0:Int)<(x.kids.length:Int):=by omega
        obtain⟨g,off,u0,u1,rfl,hgs,c0,c1,c2,c3,c4,c5,r0,r1⟩:=Ex.elem h1 0 hkp;rw[Nat.zero_mul,Nat.add_zero]at c0 c1 c2 c3 c4 c5;obtain⟨y0,t0,rfl,_⟩:=r0.slice;obtain⟨y1,t1,rfl,_⟩:=Ex.slice r1;have hhd:headB x.kind x.kids=leftB x.kids[0].kind:=by rw[k1];exact SY hkp
        rw[hhd]at hrun;have hle:=fun w'=>Dk x.kids[0] (.slice y0 x.kids[0].name.length t0) (.slice y1 x.kids[0].kids.length t1) w'
        have hw3:Hid (∀ w3:World,(∀ b o,b<w0.heap.size->w3.cell? ⟨b,o,none⟩=w0.cell? ⟨b,o,none⟩)->w3.cell? ⟨g,off,none⟩=some (.int .i64 x.kids[0].kind)/\w3.cell? ⟨g,off+1,none⟩=some (.int .i64 x.kids[0].n)/\w3.cell? ⟨g,off+2,none⟩=some (.int .i64 x.kids[0].tk)/\w3.cell? ⟨g,off+3,none⟩=some (.int .i64 x.kids[0].tn)/\w3.cell? ⟨g,off+4,none⟩=some (.slice y0 x.kids[0].name.length t0)/\w3.cell? ⟨g,off+5,none⟩=some (.slice y1 x.kids[0].kids.length t1)):=fun w3 hw=>⟨by rw[hw _ _ hgs];exact c0,by rw[hw _ _ hgs];exact c1,by rw[hw _ _ hgs];exact c2,by rw[hw _ _ hgs];exact c3,by rw[hw _ _ hgs];exact c4,by rw[hw _ _ hgs];exact c5⟩
        rw[k1]at hF' ⊢;clear c0 c1 c2 c3 c4 c5 r0 r1 h1 hhd hform hmin hbo hot k1
        generalize leftB x.kids[0].kind=lb at *
        generalize x.kids[0].kind=e_k at *
        generalize x.kids[0].n=e_n at *
        generalize x.kids[0].tk=e_tk at *
        generalize x.kids[0].tn=e_tn at *
        generalize x.body.length=nb at *
        generalize x.els.length=ne at *
        subst eb;subst eo
        generalize x.n=z_n at *
        generalize x.tk=z_tk at *
        generalize x.tn=z_tn at *
        cases lb
        · as_aux_lemma =>
            have hr:R=none:=by rw[hrun,if_pos (by right;right;rfl)]
            subst hr;clear hrun HT hI1 hI2 hI3;go_enter Tryz.func137,Tryz.ntmps137;go_wp2_with fail
            refine (hF' _).mono ?_;rintro e w1 ⟨rfl,l1⟩;have L1:Later w w1:=(ae _ _).trans l1;have s1:=L1.size;have hz1:w.heap.size<w1.heap.size:=by have:=l1.size;simp at this;omega
            have hne1:w1.heap.size≠K:=by have:=hS.lt;omega
            obtain⟨hc1,_⟩:=dG l1;have hS1:Sv K (w1.alloc (.cells #[.int .i64 2,.int .i64 2,.int .i64 0,.int .i64 0,.bool false,.bool false,.bool false] 231)) s p:=hS.later (L1.alloc _);have hL1:=hL.trans (L1.alloc (.cells #[.int .i64 2,.int .i64 2,.int .i64 0,.int .i64 0,.bool false,.bool false,.bool false] 231));go_wp2_with (first|(go_at_call 112;refine (henter _ hS1).mono ?_;rintro e w2 ⟨rfl,hS2,o2⟩;have hc2:=bC o2;have hL2:=aB hL1 o2 hK;have hz2:w.heap.size<w2.heap.size:=(by have:=o2.size;simp at this;omega);have hy2:w1.heap.size<w2.heap.size:=(by have:=o2.size;simp at this;omega))|(go_at_call 160;refine (hfit _ _ hL2 hS2).mono ?_;rintro e w3 ⟨rfl,l3⟩;obtain⟨hc3,_⟩:=dG l3;have hS3:=hS2.later l3;have hL3:=hL2.trans l3;have hz3:w.heap.size<w3.heap.size:=(by have:=l3.size;omega);have hk3:Hid (∀ b o,b<w0.heap.size->w3.cell? ⟨b,o,none⟩=w0.cell? ⟨b,o,none⟩):=(fun b o hb=>Below.cell hL3 (p:=⟨b,o,none⟩) hb);obtain⟨d0,d1,d2,d3,d4,d5⟩:=hw3.out _ hk3.out)|(go_at_call 136;refine (hle _).mono ?_;rintro e w4 ⟨rfl,l4⟩;obtain⟨hc4,_⟩:=dG l4;have hS4:=hS3.later l4;have hL4:=hL3.trans l4;have hz4:w.heap.size<w4.heap.size:=(by have:=l4.size;omega)))
            go_ret;exact SvP.no ((((af.of_later (K:=K) (L1.alloc (.cells #[.int .i64 2,.int .i64 2,.int .i64 0,.int .i64 0,.bool false,.bool false,.bool false] 231))).trans o2).trans (af.of_later l3)).trans (af.of_later l4)) rfl rfl hS4
        · as_aux_lemma =>
            have hr:R=_:=hrun.trans (if_neg (by rintro (h|h|h) <;> first|omega|cases h));rw[<-hr]at HT;have HR0:Hid (R1=none->R=none):=HT.r0;have HB1:Hid (∀ l1,R1=some l1->0<=l1/\l1<=400):=HT.b1;have HR1:Hid (∀ l1,R1=some l1->Hid (St.runs s (d+1) l1 x.body=none->R=none)/\Hid (∀ l2,St.runs s (d+1) l1 x.body=some l2->0<=l2/\l2<=400/\R=St.runs s (d+1) l2 x.els)):=HT.r1;clear hr hrun HT;go_enter Tryz.func137,Tryz.ntmps137;go_wp2_with fail
            refine (hF' _).mono ?_;rintro e w1 ⟨rfl,l1⟩;have L1:Later w w1:=(ae _ _).trans l1;have s1:=L1.size;have hz1:w.heap.size<w1.heap.size:=by have:=l1.size;simp at this;omega
            have hne1:w1.heap.size≠K:=by have:=hS.lt;omega
            obtain⟨hc1,_⟩:=dG l1;have hS1:Sv K (w1.alloc (.cells #[.int .i64 2,.int .i64 2,.int .i64 0,.int .i64 0,.bool false,.bool false,.bool false] 231)) s p:=hS.later (L1.alloc _);have hL1:=hL.trans (L1.alloc (.cells #[.int .i64 2,.int .i64 2,.int .i64 0,.int .i64 0,.bool false,.bool false,.bool false] 231));go_wp2_with (first|(go_at_call 112;refine (henter _ hS1).mono ?_;rintro e w2 ⟨rfl,hS2,o2⟩;have hc2:=bC o2;have hL2:=aB hL1 o2 hK;have hz2:w.heap.size<w2.heap.size:=(by have:=o2.size;simp at this;omega);have hy2:w1.heap.size<w2.heap.size:=(by have:=o2.size;simp at this;omega))|(go_at_call 160;refine (hfit _ _ hL2 hS2).mono ?_;rintro e w3 ⟨rfl,l3⟩;obtain⟨hc3,_⟩:=dG l3;have hS3:=hS2.later l3;have hL3:=hL2.trans l3;have hz3:w.heap.size<w3.heap.size:=(by have:=l3.size;omega);have hk3:Hid (∀ b o,b<w0.heap.size->w3.cell? ⟨b,o,none⟩=w0.cell? ⟨b,o,none⟩):=(fun b o hb=>Below.cell hL3 (p:=⟨b,o,none⟩) hb);obtain⟨d0,d1,d2,d3,d4,d5⟩:=hw3.out _ hk3.out)|(go_at_call 136;refine (hle _).mono ?_;rintro e w4 ⟨rfl,l4⟩;obtain⟨hc4,_⟩:=dG l4;have hS4:=hS3.later l4;have hL4:=hL3.trans l4;have hz4:w.heap.size<w4.heap.size:=(by have:=l4.size;omega)))
            have oo4:=(((af.of_later (K:=K) (L1.alloc (.cells #[.int .i64 2,.int .i64 2,.int .i64 0,.int .i64 0,.bool false,.bool false,.bool false] 231))).trans o2).trans (af.of_later l3)).trans (af.of_later l4);refine (hI1 _ hL4 hS4).mono ?_;rintro e w5 ⟨o5,hm5⟩;have oo5:=oo4.trans o5;have hL5:=aB hL4 o5 hK;have hc5:=bC o5;have hz5:w.heap.size<w5.heap.size:=by have:=o5.size;omega
            cases R1 with
            | none =>
              obtain⟨rfl,p',hS5⟩:=hm5;have hr:=HR0.out rfl;go_wp2_with fail
              go_ret;exact SvP.no oo5 hr rfl hS5
            | some l1 =>
              obtain⟨rfl,hS5⟩:=hm5;obtain⟨m1,m2⟩:=HB1.out l1 rfl;have hI:=hI2 l1 m1 m2;have HR1':=HR1.out l1 rfl;clear HR1 HR0 hI2
              generalize St.runs s (d+1) l1 x.body=R2 at *
              go_wp2_with fail
              refine (hI _ hL5 hS5).mono ?_;rintro e w6 ⟨o6,hm6⟩;have oo6:=oo5.trans o6;have hL6:=aB hL5 o6 hK;have hc6:=bC o6;have hz6:w.heap.size<w6.heap.size:=by have:=o6.size;omega
              cases R2 with
              | none =>
                obtain⟨rfl,p',hS6⟩:=hm6;have hr:=HR1'.1.out rfl;clear HR1';go_wp2_with fail
                go_ret;exact SvP.no oo6 hr rfl hS6
              | some l2 =>
                obtain⟨rfl,hS6⟩:=hm6;obtain⟨m3,m4,hR⟩:=HR1'.2.out l2 rfl;have hII:=hI3 l2 m3 m4;have HRR:Hid _:=hR;clear HR1' hR hI3
                generalize St.runs s (d+1) l2 x.els=R3 at *
                go_wp2_with fail
                refine (hII _ hL6 hS6).mono ?_;rintro e w7 ⟨o7,hm7⟩;have oo7:=oo6.trans o7
                cases R3 with
                | none =>
                  obtain⟨rfl,p',hS7⟩:=hm7;go_wp2_with fail
                  go_ret;exact SvP.no oo7 HRR.out rfl hS7
                | some l3 =>
                  obtain⟨rfl,hS7⟩:=hm7;go_wp2_with fail
                  go_ret;exact SvP.yes oo7 HRR.out rfl hS7 rfl
      · by_cases k7:x.kind=7
        · obtain⟨rfl,rfl,rfl,rfl,rfl,rfl,rfl⟩:fe=1/\mo=1/\fn=0/\ft=0/\na=false/\bo=false/\ot=false:=by have:=hform.2 k7;simpa using this
          have eb:x.body.length=0:=of_decide_eq_true (by rwa [Bool.false_or]at hbo);have eo:x.els.length=0:=of_decide_eq_true (by rwa [Bool.false_or]at hot);have hkp:0<x.kids.length:=by omega
          have hkp':(0:Int)<(x.kids.length:Int):=by omega
          obtain⟨g,off,u0,u1,rfl,hgs,c0,c1,c2,c3,c4,c5,r0,r1⟩:=Ex.elem h1 0 hkp;rw[Nat.zero_mul,Nat.add_zero]at c0;have hhd:headB x.kind x.kids=(x.kids[0].kind==6):=by rw[k7];exact SX hkp
          rw[hhd]at hrun;have hw3:Hid (∀ w3:World,(∀ b o,b<w0.heap.size->w3.cell? ⟨b,o,none⟩=w0.cell? ⟨b,o,none⟩)->w3.cell? ⟨g,off,none⟩=some (.int .i64 x.kids[0].kind)):=fun w3 hw=>by rw[hw _ _ hgs];exact c0
          rw[k7]at hF' ⊢;clear c0 c1 c2 c3 c4 c5 r0 r1 h1 hhd hform hmin hbo hot k1 k7
          generalize x.kids[0].kind=e_k at *
          generalize x.body.length=nb at *
          generalize x.els.length=ne at *
          subst eb;subst eo
          generalize x.n=z_n at *
          generalize x.tk=z_tk at *
          generalize x.tn=z_tn at *
          by_cases k6:e_k=6
          · have k6':(e_k==6)=true:=by rw[k6];rfl
            have k6'':(e_k != 6)=false:=by rw[k6];rfl
            rw[k6']at hrun;clear k6 k6'
            as_aux_lemma =>
              have hr:R=_:=hrun.trans (if_neg (by rintro (h|h|h) <;> first|omega|cases h));rw[<-hr]at HT;have HR0:Hid (R1=none->R=none):=HT.r0;have HB1:Hid (∀ l1,R1=some l1->0<=l1/\l1<=400):=HT.b1;have HR1:Hid (∀ l1,R1=some l1->Hid (St.runs s (d+1) l1 x.body=none->R=none)/\Hid (∀ l2,St.runs s (d+1) l1 x.body=some l2->0<=l2/\l2<=400/\R=St.runs s (d+1) l2 x.els)):=HT.r1;clear hr hrun HT;go_enter Tryz.func137,Tryz.ntmps137;go_wp2_with fail
              refine (hF' _).mono ?_;rintro e w1 ⟨rfl,l1⟩;have L1:Later w w1:=(ae _ _).trans l1;have s1:=L1.size;have hz1:w.heap.size<w1.heap.size:=by have:=l1.size;simp at this;omega
              have hne1:w1.heap.size≠K:=by have:=hS.lt;omega
              obtain⟨hc1,_⟩:=dG l1;have hS1:Sv K (w1.alloc (.cells #[.int .i64 1,.int .i64 1,.int .i64 0,.int .i64 0,.bool false,.bool false,.bool false] 231)) s p:=hS.later (L1.alloc _);have hL1:=hL.trans (L1.alloc (.cells #[.int .i64 1,.int .i64 1,.int .i64 0,.int .i64 0,.bool false,.bool false,.bool false] 231));go_wp2_with (first|(go_at_call 112;refine (henter _ hS1).mono ?_;rintro e w2 ⟨rfl,hS2,o2⟩;have hc2:=bC o2;have hL2:=aB hL1 o2 hK;have hz2:w.heap.size<w2.heap.size:=(by have:=o2.size;simp at this;omega);have hy2:w1.heap.size<w2.heap.size:=(by have:=o2.size;simp at this;omega))|(go_at_call 160;refine (hfit _ _ hL2 hS2).mono ?_;rintro e w3 ⟨rfl,l3⟩;obtain⟨hc3,_⟩:=dG l3;have hS3:=hS2.later l3;have hL3:=hL2.trans l3;have hz3:w.heap.size<w3.heap.size:=(by have:=l3.size;omega);have hk3:Hid (∀ b o,b<w0.heap.size->w3.cell? ⟨b,o,none⟩=w0.cell? ⟨b,o,none⟩):=(fun b o hb=>Below.cell hL3 (p:=⟨b,o,none⟩) hb);have d0:=hw3.out _ hk3.out))
              have oo4:=(((af.of_later (K:=K) (L1.alloc (.cells #[.int .i64 1,.int .i64 1,.int .i64 0,.int .i64 0,.bool false,.bool false,.bool false] 231))).trans o2).trans (af.of_later l3))
              refine (hI1 _ hL3 hS3).mono ?_;rintro e w5 ⟨o5,hm5⟩;have oo5:=oo4.trans o5;have hL5:=aB hL3 o5 hK;have hc5:=bC o5;have hz5:w.heap.size<w5.heap.size:=by have:=o5.size;omega
              cases R1 with
              | none =>
                obtain⟨rfl,p',hS5⟩:=hm5;have hr:=HR0.out rfl;go_wp2_with fail
                go_ret;exact SvP.no oo5 hr rfl hS5
              | some l1 =>
                obtain⟨rfl,hS5⟩:=hm5;obtain⟨m1,m2⟩:=HB1.out l1 rfl;have hI:=hI2 l1 m1 m2;have HR1':=HR1.out l1 rfl;clear HR1 HR0 hI2
                generalize St.runs s (d+1) l1 x.body=R2 at *
                go_wp2_with fail
                refine (hI _ hL5 hS5).mono ?_;rintro e w6 ⟨o6,hm6⟩;have oo6:=oo5.trans o6;have hL6:=aB hL5 o6 hK;have hc6:=bC o6;have hz6:w.heap.size<w6.heap.size:=by have:=o6.size;omega
                cases R2 with
                | none =>
                  obtain⟨rfl,p',hS6⟩:=hm6;have hr:=HR1'.1.out rfl;clear HR1';go_wp2_with fail
                  go_ret;exact SvP.no oo6 hr rfl hS6
                | some l2 =>
                  obtain⟨rfl,hS6⟩:=hm6;obtain⟨m3,m4,hR⟩:=HR1'.2.out l2 rfl;have hII:=hI3 l2 m3 m4;have HRR:Hid _:=hR;clear HR1' hR hI3
                  generalize St.runs s (d+1) l2 x.els=R3 at *
                  go_wp2_with fail
                  refine (hII _ hL6 hS6).mono ?_;rintro e w7 ⟨o7,hm7⟩;have oo7:=oo6.trans o7
                  cases R3 with
                  | none =>
                    obtain⟨rfl,p',hS7⟩:=hm7;go_wp2_with fail
                    go_ret;exact SvP.no oo7 HRR.out rfl hS7
                  | some l3 =>
                    obtain⟨rfl,hS7⟩:=hm7;go_wp2_with fail
                    go_ret;exact SvP.yes oo7 HRR.out rfl hS7 rfl
          · have k6':=neb k6
            have k6'':(e_k != 6)=true:=by rw[bne,k6'];rfl
            rw[k6']at hrun;clear k6 k6'
            as_aux_lemma =>
              have hr:R=none:=by rw[hrun,if_pos (by right;right;rfl)]
              subst hr;clear hrun HT hI1 hI2 hI3;go_enter Tryz.func137,Tryz.ntmps137;go_wp2_with fail
              refine (hF' _).mono ?_;rintro e w1 ⟨rfl,l1⟩;have L1:Later w w1:=(ae _ _).trans l1;have s1:=L1.size;have hz1:w.heap.size<w1.heap.size:=by have:=l1.size;simp at this;omega
              have hne1:w1.heap.size≠K:=by have:=hS.lt;omega
              obtain⟨hc1,_⟩:=dG l1;have hS1:Sv K (w1.alloc (.cells #[.int .i64 1,.int .i64 1,.int .i64 0,.int .i64 0,.bool false,.bool false,.bool false] 231)) s p:=hS.later (L1.alloc _);have hL1:=hL.trans (L1.alloc (.cells #[.int .i64 1,.int .i64 1,.int .i64 0,.int .i64 0,.bool false,.bool false,.bool false] 231));go_wp2_with (first|(go_at_call 112;refine (henter _ hS1).mono ?_;rintro e w2 ⟨rfl,hS2,o2⟩;have hc2:=bC o2;have hL2:=aB hL1 o2 hK;have hz2:w.heap.size<w2.heap.size:=(by have:=o2.size;simp at this;omega);have hy2:w1.heap.size<w2.heap.size:=(by have:=o2.size;simp at this;omega))|(go_at_call 160;refine (hfit _ _ hL2 hS2).mono ?_;rintro e w3 ⟨rfl,l3⟩;obtain⟨hc3,_⟩:=dG l3;have hS3:=hS2.later l3;have hL3:=hL2.trans l3;have hz3:w.heap.size<w3.heap.size:=(by have:=l3.size;omega);have hk3:Hid (∀ b o,b<w0.heap.size->w3.cell? ⟨b,o,none⟩=w0.cell? ⟨b,o,none⟩):=(fun b o hb=>Below.cell hL3 (p:=⟨b,o,none⟩) hb);have d0:=hw3.out _ hk3.out))
              go_ret;exact SvP.no (((af.of_later (K:=K) (L1.alloc (.cells #[.int .i64 1,.int .i64 1,.int .i64 0,.int .i64 0,.bool false,.bool false,.bool false] 231))).trans o2).trans (af.of_later l3)) rfl rfl hS3
        · rw[SS _ k1 k7]at hrun
          have n1:=neb k1;have n7:=neb k7;clear hform hmin h1 k1 k7
          generalize x.kind=z_kind at *
          generalize x.n=z_n at *
          generalize x.tk=z_tk at *
          generalize x.tn=z_tn at *
          cases bo
          · have eb:x.body.length=0:=of_decide_eq_true (by rwa [Bool.false_or]at hbo)
            generalize x.body.length=nb at *
            subst eb
            cases ot
            · have eo:x.els.length=0:=of_decide_eq_true (by rwa [Bool.false_or]at hot)
              generalize x.els.length=ne at *
              subst eo;clear hbo hot
              as_aux_lemma =>
                have hr:R=_:=hrun.trans (if_neg (by rintro (h|h|h) <;> first|omega|cases h));rw[<-hr]at HT;have HR0:Hid (R1=none->R=none):=HT.r0;have HB1:Hid (∀ l1,R1=some l1->0<=l1/\l1<=400):=HT.b1;have HR1:Hid (∀ l1,R1=some l1->Hid (St.runs s (d+1) l1 x.body=none->R=none)/\Hid (∀ l2,St.runs s (d+1) l1 x.body=some l2->0<=l2/\l2<=400/\R=St.runs s (d+1) l2 x.els)):=HT.r1;clear hr hrun HT;go_enter Tryz.func137,Tryz.ntmps137;go_wp2_with fail
                refine (hF' _).mono ?_;rintro e w1 ⟨rfl,l1⟩;have L1:Later w w1:=(ae _ _).trans l1;have s1:=L1.size;have hz1:w.heap.size<w1.heap.size:=by have:=l1.size;simp at this;omega
                have hne1:w1.heap.size≠K:=by have:=hS.lt;omega
                obtain⟨hc1,_⟩:=dG l1;have hS1:Sv K (w1.alloc (.cells #[.int .i64 fe,.int .i64 mo,.int .i64 fn,.int .i64 ft,.bool na,.bool false,.bool false] 231)) s p:=hS.later (L1.alloc _);have hL1:=hL.trans (L1.alloc (.cells #[.int .i64 fe,.int .i64 mo,.int .i64 fn,.int .i64 ft,.bool na,.bool false,.bool false] 231));go_wp2_with (first|(go_at_call 112;refine (henter _ hS1).mono ?_;rintro e w2 ⟨rfl,hS2,o2⟩;have hc2:=bC o2;have hL2:=aB hL1 o2 hK;have hz2:w.heap.size<w2.heap.size:=(by have:=o2.size;simp at this;omega);have hy2:w1.heap.size<w2.heap.size:=(by have:=o2.size;simp at this;omega))|(go_at_call 160;refine (hfit _ _ hL2 hS2).mono ?_;rintro e w3 ⟨rfl,l3⟩;obtain⟨hc3,_⟩:=dG l3;have hS3:=hS2.later l3;have hL3:=hL2.trans l3;have hz3:w.heap.size<w3.heap.size:=(by have:=l3.size;omega);have hk3:Hid (∀ b o,b<w0.heap.size->w3.cell? ⟨b,o,none⟩=w0.cell? ⟨b,o,none⟩):=(fun b o hb=>Below.cell hL3 (p:=⟨b,o,none⟩) hb)))
                have oo4:=(((af.of_later (K:=K) (L1.alloc (.cells #[.int .i64 fe,.int .i64 mo,.int .i64 fn,.int .i64 ft,.bool na,.bool false,.bool false] 231))).trans o2).trans (af.of_later l3))
                refine (hI1 _ hL3 hS3).mono ?_;rintro e w5 ⟨o5,hm5⟩;have oo5:=oo4.trans o5;have hL5:=aB hL3 o5 hK;have hc5:=bC o5;have hz5:w.heap.size<w5.heap.size:=by have:=o5.size;omega
                cases R1 with
                | none =>
                  obtain⟨rfl,p',hS5⟩:=hm5;have hr:=HR0.out rfl;go_wp2_with fail
                  go_ret;exact SvP.no oo5 hr rfl hS5
                | some l1 =>
                  obtain⟨rfl,hS5⟩:=hm5;obtain⟨m1,m2⟩:=HB1.out l1 rfl;have hI:=hI2 l1 m1 m2;have HR1':=HR1.out l1 rfl;clear HR1 HR0 hI2
                  generalize St.runs s (d+1) l1 x.body=R2 at *
                  go_wp2_with fail
                  refine (hI _ hL5 hS5).mono ?_;rintro e w6 ⟨o6,hm6⟩;have oo6:=oo5.trans o6;have hL6:=aB hL5 o6 hK;have hc6:=bC o6;have hz6:w.heap.size<w6.heap.size:=by have:=o6.size;omega
                  cases R2 with
                  | none =>
                    obtain⟨rfl,p',hS6⟩:=hm6;have hr:=HR1'.1.out rfl;clear HR1';go_wp2_with fail
                    go_ret;exact SvP.no oo6 hr rfl hS6
                  | some l2 =>
                    obtain⟨rfl,hS6⟩:=hm6;obtain⟨m3,m4,hR⟩:=HR1'.2.out l2 rfl;have hII:=hI3 l2 m3 m4;have HRR:Hid _:=hR;clear HR1' hR hI3
                    generalize St.runs s (d+1) l2 x.els=R3 at *
                    go_wp2_with fail
                    refine (hII _ hL6 hS6).mono ?_;rintro e w7 ⟨o7,hm7⟩;have oo7:=oo6.trans o7
                    cases R3 with
                    | none =>
                      obtain⟨rfl,p',hS7⟩:=hm7;go_wp2_with fail
                      go_ret;exact SvP.no oo7 HRR.out rfl hS7
                    | some l3 =>
                      obtain⟨rfl,hS7⟩:=hm7;go_wp2_with fail
                      go_ret;exact SvP.yes oo7 HRR.out rfl hS7 rfl
            · clear hbo hot
              as_aux_lemma =>
                have hr:R=_:=hrun.trans (if_neg (by rintro (h|h|h) <;> first|omega|cases h));rw[<-hr]at HT;have HR0:Hid (R1=none->R=none):=HT.r0;have HB1:Hid (∀ l1,R1=some l1->0<=l1/\l1<=400):=HT.b1;have HR1:Hid (∀ l1,R1=some l1->Hid (St.runs s (d+1) l1 x.body=none->R=none)/\Hid (∀ l2,St.runs s (d+1) l1 x.body=some l2->0<=l2/\l2<=400/\R=St.runs s (d+1) l2 x.els)):=HT.r1;clear hr hrun HT;go_enter Tryz.func137,Tryz.ntmps137;go_wp2_with fail
                refine (hF' _).mono ?_;rintro e w1 ⟨rfl,l1⟩;have L1:Later w w1:=(ae _ _).trans l1;have s1:=L1.size;have hz1:w.heap.size<w1.heap.size:=by have:=l1.size;simp at this;omega
                have hne1:w1.heap.size≠K:=by have:=hS.lt;omega
                obtain⟨hc1,_⟩:=dG l1;have hS1:Sv K (w1.alloc (.cells #[.int .i64 fe,.int .i64 mo,.int .i64 fn,.int .i64 ft,.bool na,.bool false,.bool true] 231)) s p:=hS.later (L1.alloc _);have hL1:=hL.trans (L1.alloc (.cells #[.int .i64 fe,.int .i64 mo,.int .i64 fn,.int .i64 ft,.bool na,.bool false,.bool true] 231));go_wp2_with (first|(go_at_call 112;refine (henter _ hS1).mono ?_;rintro e w2 ⟨rfl,hS2,o2⟩;have hc2:=bC o2;have hL2:=aB hL1 o2 hK;have hz2:w.heap.size<w2.heap.size:=(by have:=o2.size;simp at this;omega);have hy2:w1.heap.size<w2.heap.size:=(by have:=o2.size;simp at this;omega))|(go_at_call 160;refine (hfit _ _ hL2 hS2).mono ?_;rintro e w3 ⟨rfl,l3⟩;obtain⟨hc3,_⟩:=dG l3;have hS3:=hS2.later l3;have hL3:=hL2.trans l3;have hz3:w.heap.size<w3.heap.size:=(by have:=l3.size;omega);have hk3:Hid (∀ b o,b<w0.heap.size->w3.cell? ⟨b,o,none⟩=w0.cell? ⟨b,o,none⟩):=(fun b o hb=>Below.cell hL3 (p:=⟨b,o,none⟩) hb)))
                have oo4:=(((af.of_later (K:=K) (L1.alloc (.cells #[.int .i64 fe,.int .i64 mo,.int .i64 fn,.int .i64 ft,.bool na,.bool false,.bool true] 231))).trans o2).trans (af.of_later l3))
                refine (hI1 _ hL3 hS3).mono ?_;rintro e w5 ⟨o5,hm5⟩;have oo5:=oo4.trans o5;have hL5:=aB hL3 o5 hK;have hc5:=bC o5;have hz5:w.heap.size<w5.heap.size:=by have:=o5.size;omega
                cases R1 with
                | none =>
                  obtain⟨rfl,p',hS5⟩:=hm5;have hr:=HR0.out rfl;go_wp2_with fail
                  go_ret;exact SvP.no oo5 hr rfl hS5
                | some l1 =>
                  obtain⟨rfl,hS5⟩:=hm5;obtain⟨m1,m2⟩:=HB1.out l1 rfl;have hI:=hI2 l1 m1 m2;have HR1':=HR1.out l1 rfl;clear HR1 HR0 hI2
                  generalize St.runs s (d+1) l1 x.body=R2 at *
                  go_wp2_with fail
                  refine (hI _ hL5 hS5).mono ?_;rintro e w6 ⟨o6,hm6⟩;have oo6:=oo5.trans o6;have hL6:=aB hL5 o6 hK;have hc6:=bC o6;have hz6:w.heap.size<w6.heap.size:=by have:=o6.size;omega
                  cases R2 with
                  | none =>
                    obtain⟨rfl,p',hS6⟩:=hm6;have hr:=HR1'.1.out rfl;clear HR1';go_wp2_with fail
                    go_ret;exact SvP.no oo6 hr rfl hS6
                  | some l2 =>
                    obtain⟨rfl,hS6⟩:=hm6;obtain⟨m3,m4,hR⟩:=HR1'.2.out l2 rfl;have hII:=hI3 l2 m3 m4;have HRR:Hid _:=hR;clear HR1' hR hI3
                    generalize St.runs s (d+1) l2 x.els=R3 at *
                    go_wp2_with fail
                    refine (hII _ hL6 hS6).mono ?_;rintro e w7 ⟨o7,hm7⟩;have oo7:=oo6.trans o7
                    cases R3 with
                    | none =>
                      obtain⟨rfl,p',hS7⟩:=hm7;go_wp2_with fail
                      go_ret;exact SvP.no oo7 HRR.out rfl hS7
                    | some l3 =>
                      obtain⟨rfl,hS7⟩:=hm7;go_wp2_with fail
                      go_ret;exact SvP.yes oo7 HRR.out rfl hS7 rfl
          · cases ot
            · have eo:x.els.length=0:=of_decide_eq_true (by rwa [Bool.false_or]at hot)
              generalize x.els.length=ne at *
              subst eo;clear hbo hot
              as_aux_lemma =>
                have hr:R=_:=hrun.trans (if_neg (by rintro (h|h|h) <;> first|omega|cases h));rw[<-hr]at HT;have HR0:Hid (R1=none->R=none):=HT.r0;have HB1:Hid (∀ l1,R1=some l1->0<=l1/\l1<=400):=HT.b1;have HR1:Hid (∀ l1,R1=some l1->Hid (St.runs s (d+1) l1 x.body=none->R=none)/\Hid (∀ l2,St.runs s (d+1) l1 x.body=some l2->0<=l2/\l2<=400/\R=St.runs s (d+1) l2 x.els)):=HT.r1;clear hr hrun HT;go_enter Tryz.func137,Tryz.ntmps137;go_wp2_with fail
                refine (hF' _).mono ?_;rintro e w1 ⟨rfl,l1⟩;have L1:Later w w1:=(ae _ _).trans l1;have s1:=L1.size;have hz1:w.heap.size<w1.heap.size:=by have:=l1.size;simp at this;omega
                have hne1:w1.heap.size≠K:=by have:=hS.lt;omega
                obtain⟨hc1,_⟩:=dG l1;have hS1:Sv K (w1.alloc (.cells #[.int .i64 fe,.int .i64 mo,.int .i64 fn,.int .i64 ft,.bool na,.bool true,.bool false] 231)) s p:=hS.later (L1.alloc _);have hL1:=hL.trans (L1.alloc (.cells #[.int .i64 fe,.int .i64 mo,.int .i64 fn,.int .i64 ft,.bool na,.bool true,.bool false] 231));go_wp2_with (first|(go_at_call 112;refine (henter _ hS1).mono ?_;rintro e w2 ⟨rfl,hS2,o2⟩;have hc2:=bC o2;have hL2:=aB hL1 o2 hK;have hz2:w.heap.size<w2.heap.size:=(by have:=o2.size;simp at this;omega);have hy2:w1.heap.size<w2.heap.size:=(by have:=o2.size;simp at this;omega))|(go_at_call 160;refine (hfit _ _ hL2 hS2).mono ?_;rintro e w3 ⟨rfl,l3⟩;obtain⟨hc3,_⟩:=dG l3;have hS3:=hS2.later l3;have hL3:=hL2.trans l3;have hz3:w.heap.size<w3.heap.size:=(by have:=l3.size;omega);have hk3:Hid (∀ b o,b<w0.heap.size->w3.cell? ⟨b,o,none⟩=w0.cell? ⟨b,o,none⟩):=(fun b o hb=>Below.cell hL3 (p:=⟨b,o,none⟩) hb)))
                have oo4:=(((af.of_later (K:=K) (L1.alloc (.cells #[.int .i64 fe,.int .i64 mo,.int .i64 fn,.int .i64 ft,.bool na,.bool true,.bool false] 231))).trans o2).trans (af.of_later l3))
                refine (hI1 _ hL3 hS3).mono ?_;rintro e w5 ⟨o5,hm5⟩;have oo5:=oo4.trans o5;have hL5:=aB hL3 o5 hK;have hc5:=bC o5;have hz5:w.heap.size<w5.heap.size:=by have:=o5.size;omega
                cases R1 with
                | none =>
                  obtain⟨rfl,p',hS5⟩:=hm5;have hr:=HR0.out rfl;go_wp2_with fail
                  go_ret;exact SvP.no oo5 hr rfl hS5
                | some l1 =>
                  obtain⟨rfl,hS5⟩:=hm5;obtain⟨m1,m2⟩:=HB1.out l1 rfl;have hI:=hI2 l1 m1 m2;have HR1':=HR1.out l1 rfl;clear HR1 HR0 hI2
                  generalize St.runs s (d+1) l1 x.body=R2 at *
                  go_wp2_with fail
                  refine (hI _ hL5 hS5).mono ?_;rintro e w6 ⟨o6,hm6⟩;have oo6:=oo5.trans o6;have hL6:=aB hL5 o6 hK;have hc6:=bC o6;have hz6:w.heap.size<w6.heap.size:=by have:=o6.size;omega
                  cases R2 with
                  | none =>
                    obtain⟨rfl,p',hS6⟩:=hm6;have hr:=HR1'.1.out rfl;clear HR1';go_wp2_with fail
                    go_ret;exact SvP.no oo6 hr rfl hS6
                  | some l2 =>
                    obtain⟨rfl,hS6⟩:=hm6;obtain⟨m3,m4,hR⟩:=HR1'.2.out l2 rfl;have hII:=hI3 l2 m3 m4;have HRR:Hid _:=hR;clear HR1' hR hI3
                    generalize St.runs s (d+1) l2 x.els=R3 at *
                    go_wp2_with fail
                    refine (hII _ hL6 hS6).mono ?_;rintro e w7 ⟨o7,hm7⟩;have oo7:=oo6.trans o7
                    cases R3 with
                    | none =>
                      obtain⟨rfl,p',hS7⟩:=hm7;go_wp2_with fail
                      go_ret;exact SvP.no oo7 HRR.out rfl hS7
                    | some l3 =>
                      obtain⟨rfl,hS7⟩:=hm7;go_wp2_with fail
                      go_ret;exact SvP.yes oo7 HRR.out rfl hS7 rfl
            · clear hbo hot
              as_aux_lemma =>
                have hr:R=_:=hrun.trans (if_neg (by rintro (h|h|h) <;> first|omega|cases h));rw[<-hr]at HT;have HR0:Hid (R1=none->R=none):=HT.r0;have HB1:Hid (∀ l1,R1=some l1->0<=l1/\l1<=400):=HT.b1;have HR1:Hid (∀ l1,R1=some l1->Hid (St.runs s (d+1) l1 x.body=none->R=none)/\Hid (∀ l2,St.runs s (d+1) l1 x.body=some l2->0<=l2/\l2<=400/\R=St.runs s (d+1) l2 x.els)):=HT.r1;clear hr hrun HT;go_enter Tryz.func137,Tryz.ntmps137;go_wp2_with fail
                refine (hF' _).mono ?_;rintro e w1 ⟨rfl,l1⟩;have L1:Later w w1:=(ae _ _).trans l1;have s1:=L1.size;have hz1:w.heap.size<w1.heap.size:=by have:=l1.size;simp at this;omega
                have hne1:w1.heap.size≠K:=by have:=hS.lt;omega
                obtain⟨hc1,_⟩:=dG l1;have hS1:Sv K (w1.alloc (.cells #[.int .i64 fe,.int .i64 mo,.int .i64 fn,.int .i64 ft,.bool na,.bool true,.bool true] 231)) s p:=hS.later (L1.alloc _);have hL1:=hL.trans (L1.alloc (.cells #[.int .i64 fe,.int .i64 mo,.int .i64 fn,.int .i64 ft,.bool na,.bool true,.bool true] 231));go_wp2_with (first|(go_at_call 112;refine (henter _ hS1).mono ?_;rintro e w2 ⟨rfl,hS2,o2⟩;have hc2:=bC o2;have hL2:=aB hL1 o2 hK;have hz2:w.heap.size<w2.heap.size:=(by have:=o2.size;simp at this;omega);have hy2:w1.heap.size<w2.heap.size:=(by have:=o2.size;simp at this;omega))|(go_at_call 160;refine (hfit _ _ hL2 hS2).mono ?_;rintro e w3 ⟨rfl,l3⟩;obtain⟨hc3,_⟩:=dG l3;have hS3:=hS2.later l3;have hL3:=hL2.trans l3;have hz3:w.heap.size<w3.heap.size:=(by have:=l3.size;omega);have hk3:Hid (∀ b o,b<w0.heap.size->w3.cell? ⟨b,o,none⟩=w0.cell? ⟨b,o,none⟩):=(fun b o hb=>Below.cell hL3 (p:=⟨b,o,none⟩) hb)))
                have oo4:=(((af.of_later (K:=K) (L1.alloc (.cells #[.int .i64 fe,.int .i64 mo,.int .i64 fn,.int .i64 ft,.bool na,.bool true,.bool true] 231))).trans o2).trans (af.of_later l3))
                refine (hI1 _ hL3 hS3).mono ?_;rintro e w5 ⟨o5,hm5⟩;have oo5:=oo4.trans o5;have hL5:=aB hL3 o5 hK;have hc5:=bC o5;have hz5:w.heap.size<w5.heap.size:=by have:=o5.size;omega
                cases R1 with
                | none =>
                  obtain⟨rfl,p',hS5⟩:=hm5;have hr:=HR0.out rfl;go_wp2_with fail
                  go_ret;exact SvP.no oo5 hr rfl hS5
                | some l1 =>
                  obtain⟨rfl,hS5⟩:=hm5;obtain⟨m1,m2⟩:=HB1.out l1 rfl;have hI:=hI2 l1 m1 m2;have HR1':=HR1.out l1 rfl;clear HR1 HR0 hI2
                  generalize St.runs s (d+1) l1 x.body=R2 at *
                  go_wp2_with fail
                  refine (hI _ hL5 hS5).mono ?_;rintro e w6 ⟨o6,hm6⟩;have oo6:=oo5.trans o6;have hL6:=aB hL5 o6 hK;have hc6:=bC o6;have hz6:w.heap.size<w6.heap.size:=by have:=o6.size;omega
                  cases R2 with
                  | none =>
                    obtain⟨rfl,p',hS6⟩:=hm6;have hr:=HR1'.1.out rfl;clear HR1';go_wp2_with fail
                    go_ret;exact SvP.no oo6 hr rfl hS6
                  | some l2 =>
                    obtain⟨rfl,hS6⟩:=hm6;obtain⟨m3,m4,hR⟩:=HR1'.2.out l2 rfl;have hII:=hI3 l2 m3 m4;have HRR:Hid _:=hR;clear HR1' hR hI3
                    generalize St.runs s (d+1) l2 x.els=R3 at *
                    go_wp2_with fail
                    refine (hII _ hL6 hS6).mono ?_;rintro e w7 ⟨o7,hm7⟩;have oo7:=oo6.trans o7
                    cases R3 with
                    | none =>
                      obtain⟨rfl,p',hS7⟩:=hm7;go_wp2_with fail
                      go_ret;exact SvP.no oo7 HRR.out rfl hS7
                    | some l3 =>
                      obtain⟨rfl,hS7⟩:=hm7;go_wp2_with fail
                      go_ret;exact SvP.yes oo7 HRR.out rfl hS7 rfl
    · obtain rfl:ot=false:=by cases ot;rfl;exact absurd rfl hot
      have hot':(false||decide (x.els.length=0))=false:=by simpa using hot
      rw[hot',Bool.and_false,Bool.false_and]at hrun
      have ho1:(0:Int)<(x.els.length:Int):=by
        have:x.els.length≠0:=fun e=>hot (by rw[e];rfl);omega
      clear hot hot' hform hmin h1
      generalize x.kind=z_kind at *
      generalize x.els.length=ne at *
      generalize x.n=z_n at *
      generalize x.tk=z_tk at *
      generalize x.tn=z_tn at *
      cases bo
      · have eb:x.body.length=0:=of_decide_eq_true (by rwa [Bool.false_or]at hbo)
        generalize x.body.length=nb at *
        subst eb;clear hbo
        as_aux_lemma =>
          have hr:R=none:=by rw[hrun,if_pos (by right;right;rfl)]
          subst hr;clear hrun HT hI1 hI2 hI3;go_enter Tryz.func137,Tryz.ntmps137;go_wp2_with fail
          refine (hF' _).mono ?_;rintro e w1 ⟨rfl,l1⟩;have L1:Later w w1:=(ae _ _).trans l1;have s1:=L1.size;have hz1:w.heap.size<w1.heap.size:=by have:=l1.size;simp at this;omega
          have hne1:w1.heap.size≠K:=by have:=hS.lt;omega
          obtain⟨hc1,_⟩:=dG l1;have hS1:Sv K (w1.alloc (.cells #[.int .i64 fe,.int .i64 mo,.int .i64 fn,.int .i64 ft,.bool na,.bool false,.bool false] 231)) s p:=hS.later (L1.alloc _);have hL1:=hL.trans (L1.alloc (.cells #[.int .i64 fe,.int .i64 mo,.int .i64 fn,.int .i64 ft,.bool na,.bool false,.bool false] 231));go_wp2_with (first|(go_at_call 112;refine (henter _ hS1).mono ?_;rintro e w2 ⟨rfl,hS2,o2⟩;have hc2:=bC o2;have hL2:=aB hL1 o2 hK;have hz2:w.heap.size<w2.heap.size:=(by have:=o2.size;simp at this;omega);have hy2:w1.heap.size<w2.heap.size:=(by have:=o2.size;simp at this;omega))|(go_at_call 160;refine (hfit _ _ hL2 hS2).mono ?_;rintro e w3 ⟨rfl,l3⟩;obtain⟨hc3,_⟩:=dG l3;have hS3:=hS2.later l3;have hL3:=hL2.trans l3;have hz3:w.heap.size<w3.heap.size:=(by have:=l3.size;omega);have hk3:Hid (∀ b o,b<w0.heap.size->w3.cell? ⟨b,o,none⟩=w0.cell? ⟨b,o,none⟩):=(fun b o hb=>Below.cell hL3 (p:=⟨b,o,none⟩) hb)))
          go_ret;exact SvP.no (((af.of_later (K:=K) (L1.alloc (.cells #[.int .i64 fe,.int .i64 mo,.int .i64 fn,.int .i64 ft,.bool na,.bool false,.bool false] 231))).trans o2).trans (af.of_later l3)) rfl rfl hS3
      · clear hbo
        as_aux_lemma =>
          have hr:R=none:=by rw[hrun,if_pos (by right;right;rfl)]
          subst hr;clear hrun HT hI1 hI2 hI3;go_enter Tryz.func137,Tryz.ntmps137;go_wp2_with fail
          refine (hF' _).mono ?_;rintro e w1 ⟨rfl,l1⟩;have L1:Later w w1:=(ae _ _).trans l1;have s1:=L1.size;have hz1:w.heap.size<w1.heap.size:=by have:=l1.size;simp at this;omega
          have hne1:w1.heap.size≠K:=by have:=hS.lt;omega
          obtain⟨hc1,_⟩:=dG l1;have hS1:Sv K (w1.alloc (.cells #[.int .i64 fe,.int .i64 mo,.int .i64 fn,.int .i64 ft,.bool na,.bool true,.bool false] 231)) s p:=hS.later (L1.alloc _);have hL1:=hL.trans (L1.alloc (.cells #[.int .i64 fe,.int .i64 mo,.int .i64 fn,.int .i64 ft,.bool na,.bool true,.bool false] 231));go_wp2_with (first|(go_at_call 112;refine (henter _ hS1).mono ?_;rintro e w2 ⟨rfl,hS2,o2⟩;have hc2:=bC o2;have hL2:=aB hL1 o2 hK;have hz2:w.heap.size<w2.heap.size:=(by have:=o2.size;simp at this;omega);have hy2:w1.heap.size<w2.heap.size:=(by have:=o2.size;simp at this;omega))|(go_at_call 160;refine (hfit _ _ hL2 hS2).mono ?_;rintro e w3 ⟨rfl,l3⟩;obtain⟨hc3,_⟩:=dG l3;have hS3:=hS2.later l3;have hL3:=hL2.trans l3;have hz3:w.heap.size<w3.heap.size:=(by have:=l3.size;omega);have hk3:Hid (∀ b o,b<w0.heap.size->w3.cell? ⟨b,o,none⟩=w0.cell? ⟨b,o,none⟩):=(fun b o hb=>Below.cell hL3 (p:=⟨b,o,none⟩) hb)))
          go_ret;exact SvP.no (((af.of_later (K:=K) (L1.alloc (.cells #[.int .i64 fe,.int .i64 mo,.int .i64 fn,.int .i64 ft,.bool na,.bool true,.bool false] 231))).trans o2).trans (af.of_later l3)) rfl rfl hS3
  · obtain rfl:bo=false:=by cases bo;rfl;exact absurd rfl hbo
    have hbo':(false||decide (x.body.length=0))=false:=by simpa using hbo
    rw[hbo',Bool.false_and,Bool.false_and]at hrun
    have ho1:(0:Int)<(x.body.length:Int):=by
      have:x.body.length≠0:=fun e=>hbo (by rw[e];rfl);omega
    clear hbo hbo' hform hmin h1
    generalize x.kind=z_kind at *
    generalize x.body.length=nb at *
    generalize x.n=z_n at *
    generalize x.tk=z_tk at *
    generalize x.tn=z_tn at *
    as_aux_lemma =>
      have hr:R=none:=by rw[hrun,if_pos (by right;right;rfl)]
      subst hr;clear hrun HT hI1 hI2 hI3;go_enter Tryz.func137,Tryz.ntmps137;go_wp2_with fail
      refine (hF' _).mono ?_;rintro e w1 ⟨rfl,l1⟩;have L1:Later w w1:=(ae _ _).trans l1;have s1:=L1.size;have hz1:w.heap.size<w1.heap.size:=by have:=l1.size;simp at this;omega
      have hne1:w1.heap.size≠K:=by have:=hS.lt;omega
      obtain⟨hc1,_⟩:=dG l1;have hS1:Sv K (w1.alloc (.cells #[.int .i64 fe,.int .i64 mo,.int .i64 fn,.int .i64 ft,.bool na,.bool false,.bool ot] 231)) s p:=hS.later (L1.alloc _);have hL1:=hL.trans (L1.alloc (.cells #[.int .i64 fe,.int .i64 mo,.int .i64 fn,.int .i64 ft,.bool na,.bool false,.bool ot] 231));go_wp2_with (first|(go_at_call 112;refine (henter _ hS1).mono ?_;rintro e w2 ⟨rfl,hS2,o2⟩;have hc2:=bC o2;have hL2:=aB hL1 o2 hK;have hz2:w.heap.size<w2.heap.size:=(by have:=o2.size;simp at this;omega);have hy2:w1.heap.size<w2.heap.size:=(by have:=o2.size;simp at this;omega))|(go_at_call 160;refine (hfit _ _ hL2 hS2).mono ?_;rintro e w3 ⟨rfl,l3⟩;obtain⟨hc3,_⟩:=dG l3;have hS3:=hS2.later l3;have hL3:=hL2.trans l3;have hz3:w.heap.size<w3.heap.size:=(by have:=l3.size;omega);have hk3:Hid (∀ b o,b<w0.heap.size->w3.cell? ⟨b,o,none⟩=w0.cell? ⟨b,o,none⟩):=(fun b o hb=>Below.cell hL3 (p:=⟨b,o,none⟩) hb)))
      go_ret;exact SvP.no (((af.of_later (K:=K) (L1.alloc (.cells #[.int .i64 fe,.int .i64 mo,.int .i64 fn,.int .i64 ft,.bool na,.bool false,.bool ot] 231))).trans o2).trans (af.of_later l3)) rfl rfl hS3
theorem MN (x:St) (v0 v1 v2 v3:Value) (K:Nat) (s p d:Int) (w0 w:World) (hg:x.good) (h0:RdN w0 v0 x.name) (h1:RdL w0 6 v1 (Ex.ah x.kids)) (h2:RdL w0 8 v2 (St.ah x.body)) (h3:RdL w0 8 v3 (St.ah x.els)) (hL:Later w0 w) (hK:w0.heap.size<=K) (hS:Sv K w s p) (hp0:0<=p) (hp1:p<=400) (hd0:0<=d) (hd1:d<=31)
    (ih:∀ (v:Value) (l:List St) (p d:Int) (w:World),St.aZ l->RdL w0 8 v (St.ah l)->St.szs l<=x.sz->Later w0 w->Sv K w s p->0<=p->p<=400->0<=d->d<=31->Calls Tryz.prog 108 #[.pointer (some ⟨K,0,none⟩),v,.int .i64 d] w fun e w'=>SvP K s w (St.runs s d (400 - p) l) e w') :
    Calls Tryz.prog 137 #[.pointer (some ⟨K,0,none⟩),.agg #[.int .i64 x.kind,.int .i64 x.n,.int .i64 x.tk,.int .i64 x.tn,v0,v1,v2,v3],.int .i64 d] w fun e w'=>SvP K s w (St.run s d (400 - p) x) e w':=by
  have hrun:=St.JD s d (400 - p) x
  cases q:iD x.kind with
  | none =>
    have hr:St.run s d (400 - p) x=none:=by rw[hrun,if_pos (by right;right;unfold lD;rw[q])]
    rw[hr];exact Aw x v0 v1 v2 v3 K s p d w0 w (St.xe hg).1 h0 h1 h2 h3 hL hK hS hp0 hp1 (.inl q)
  | some f =>
    by_cases hen:p+1<=400/\d<=30
    · cases hfb:dE f x.n x.tk x.tn x.name x.kids.length s
      · have hr:St.run s d (400 - p) x=none:=by rw[hrun,if_pos (by right;right;unfold lD;rw[q];dsimp only;rw[hfb];rfl)]
        rw[hr];exact Aw x v0 v1 v2 v3 K s p d w0 w (St.xe hg).1 h0 h1 h2 h3 hL hK hS hp0 hp1 (.inr ⟨f,q,.inr hfb⟩)
      · exact MM x v0 v1 v2 v3 K s p d w0 w hg h0 h1 h2 h3 hL hK hS hp0 hp1 hd0 hd1 ih f q hen.1 hen.2 hfb
    · have hr:St.run s d (400 - p) x=none:=by rw[hrun,if_pos (by omega)]
      rw[hr];exact Aw x v0 v1 v2 v3 K s p d w0 w (St.xe hg).1 h0 h1 h2 h3 hL hK hS hp0 hp1 (.inr ⟨f,q,.inl hen⟩)
end Go.Proofs.YtgaddpkkjebekaaGreatDoor
