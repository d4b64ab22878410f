import Derived.Test.YtjnpncefkigcbaaGreatIm
import Derived.Test.YtjnpncefkigcbaaGreatHw
import Derived.Test.YtjnpncefkigcbaaGreatHs
set_option maxHeartbeats 100000000
set_option maxRecDepth 100000
namespace Go.Proofs.YtjnpncefkigcbaaGreat
open Go.RowKit Go.Lib Go.Maps
def StM (C:Mx) (ev:Nat) (R:St) (n:Ending) (w':World):Prop :=
 n=unitE∧(∀ e c t,R=.fin e c t→∃ iv ov,FinM C t e c iv ov w')∧(∀ t,R=.go t→∃ q' iv ov,Al C w' t q' iv ov∧q'.pc=(t.pc:Int)∧q'.ev≤ev+1)
theorem Iv.mcI {x:Im}(hx:ImI x) {H:Nat}{s:Vm}(h:Iv x H s) {W:Nat→Int}(ag:∀ a,a<12000→W a=s.W a) {z:Nat}(hz:s.top x+7≤s.base+z) (hb:¬ 12000<cpB s z+z):McI W s.base s.fp (s.top x+7) (cpB s z) (linksL s.W s.calls s.fp):=by
 have hfr:=(hx.at h.fn).fr;have hbf:=h.bf hx;have htop:s.top x=s.fp+frN x s.fn:=rfl;have hb2:=h.b2;have hb3:=h.b3
 have key:∀ f∈linksL s.W s.calls s.fp,mvW W (cpB s z) s.base (s.top x+7 - s.base) (cpB s z+(f - s.base))=s.W f:=fun f hf=>by
  have hr:=h.ch.rg hx f hf;unfold mvW;rw[if_pos ⟨by omega,by omega⟩,show cpB s z+(f - s.base) - cpB s z+s.base=f by omega];exact ag _ (by omega)
 refine⟨?_,links_nodup hx h.ch,by omega,fun f hf=>⟨(h.ch.rg hx f hf).1,(h.ch.rg hx f hf).2.1⟩,fun j hj=>⟨fun hq=>?_,fun hq=>?_⟩⟩
 ·obtain⟨k,hk⟩:∃ k,s.calls=k+1:=⟨s.calls - 1,by have:=h.cpos;omega⟩
  rw[hk,linksL];rfl
 ·rw[key _ (List.getElem_mem hj)];have:=(links_next h.ch j hj).1 hq;exact⟨this.1,this.2,links_lt hx h.ch j hq⟩
 ·rw[key _ (List.getElem_mem hj)];exact (links_next h.ch j hj).2 hq
theorem mc_copy {x:Im}(hx:ImI x) {H:Nat}{s:Vm}(h:Iv x H s) {W:Nat→Int}(ag:∀ a,a<12000→W a=s.W a) {B:Nat}{a:Nat}(ha:a<12000):mcW W s.base (s.top x+7) B (linksL s.W s.calls s.fp) ((linksL s.W s.calls s.fp).length - 1) a=s.copyW x B a:=by
 have hfr:=(hx.at h.fn).fr;have hbf:=h.bf hx;have htop:s.top x=s.fp+frN x s.fn:=rfl;have hb2:=h.b2;have hb3:=h.b3;have hcp:=h.cpos;have hll:=links_len (W:=s.W) s.calls s.fp
 obtain⟨j,hj⟩:∃ j,j+1=(linksL s.W s.calls s.fp).length:=⟨(linksL s.W s.calls s.fp).length - 1,by omega⟩
 rw[copyW_cpW,cpW_end hj ((links_next h.ch j (by omega)).2 hj),← hj,Nat.add_sub_cancel];unfold mcW Vm.cpW mvW;by_cases hin:B≤a∧a<B+(s.top x+7 - s.base)
 ·rw[if_pos hin,if_pos hin,ag _ (by omega)];by_cases hm:(a - B+s.base)∈(linksL s.W s.calls s.fp).take j
  ·have hne:s.W (a - B+s.base)≠0:=by
    obtain⟨i,hi,e1⟩:=List.mem_iff_getElem.1 hm;rw[List.getElem_take]at e1;rw[List.length_take]at hi;have:=(links_next h.ch i (by omega)).1 (by omega);rw[e1]at this;omega
   rw[if_pos,if_pos ⟨hm,hne⟩];exact List.mem_map.2 ⟨_,hm,by omega⟩
  ·rw[if_neg,if_neg (fun k=>hm k.1)];intro hk;obtain⟨f,hf,e⟩:=List.mem_map.1 hk;have hr:=h.ch.rg hx f (List.mem_of_mem_take hf);exact hm (by rw[show a - B+s.base=f by omega];exact hf)
 ·rw[if_neg hin,if_neg hin,if_neg]
  ·exact ag a ha
  ·intro hk;obtain⟨f,hf,e⟩:=List.mem_map.1 hk;have hr:=h.ch.rg hx f (List.mem_of_mem_take hf);omega
theorem copied_eq {x:Im}{s:Vm}{z:Nat}:s.copied x z=if 12000<cpB s z+z then none else some { s with W:=s.copyW x (cpB s z),base:=cpB s z,size:=z,fp:=cpB s z+(s.fp - s.base),copies:=s.copies+1 }:=rfl
theorem Al.copied {C:Mx}(hC:MxI C) {w w':World}{s:Vm}{q:Mq}{iv ov:Value}(h:Al C w s q iv ov) {z:Nat}(h16:16≤z) (hz:s.top C.x+7≤s.base+z) {n:Ending}(hq:LmQ C w s q (s.top C.x+7) z (linksL s.W s.calls s.fp) iv ov n w') :
  (s.copied C.x z=none∧n=.returned (.bool false)∧Al C w' s q iv ov)∨∃ t W,s.copied C.x z=some t∧n=.returned (.bool true)∧Al C w' t { q with W:=W } iv ov∧t.fn=s.fn∧t.pc=s.pc∧t.calls=s.calls∧t.copies=s.copies+1∧t.size=z∧t.top C.x - t.base=s.top C.x - s.base:=by
 have hlo:∀ a,a<12000→q.W a=s.W a:=fun a ha=>h.ag a (.inl ha);have hb2:=h.iv.b2;have hb3:=h.iv.b3;have hbf:=h.iv.bf hC.xi;have hfb:=h.iv.frb;have htop:s.top C.x=s.fp+frN C.x s.fn:=rfl;by_cases hb:12000<cpB s z+z
 ·obtain⟨rfl,m,_⟩:=hq.1 hb;exact .inl ⟨by rw[copied_eq,if_pos hb],rfl,m,h.ag,h.iv,h.en,h.cd,h.orc⟩
 ·obtain⟨rfl,m,_⟩:=hq.2 hb;have e:s.copied C.x z=some { s with W:=s.copyW C.x (cpB s z),base:=cpB s z,size:=z,fp:=cpB s z+(s.fp - s.base),copies:=s.copies+1 }:=by rw[copied_eq,if_neg hb]
  obtain⟨hi,ht,_,_⟩:=h.iv.copied hC.xi h16 hz e;refine .inr ⟨_,_,e,rfl,⟨m.conv rfl (fun _ _=>rfl),fun a ha=>?_,hi,h.en,h.cd,h.orc⟩,rfl,rfl,rfl,rfl,rfl,ht⟩;by_cases hl:a<12000
  ·exact mc_copy hC.xi h.iv hlo hl
  ·have ha':s.used≤a∧a<s.free:=by
    rcases ha with k|k
    ·exact absurd k hl
    ·exact k
   show mcW q.W s.base (s.top C.x+7) (cpB s z) (linksL s.W s.calls s.fp) _ a=s.copyW C.x (cpB s z) a;unfold mcW Vm.copyW mvW;rw[if_neg (by omega:¬ (cpB s z≤a∧a<cpB s z+(s.top C.x+7 - s.base))),if_neg (by omega:¬ (cpB s z≤a∧a<cpB s z+(s.top C.x+7 - s.base))),if_neg]
   ·exact h.ag a (.inr ha')
   ·intro hk;obtain⟨f,hf,e⟩:=List.mem_map.1 hk;have hr:=h.iv.ch.rg hC.xi f (List.mem_of_mem_take hf);omega
def frW (W:Nat→Int) (e:Nat) (f p n:Int) (lo i:Nat):Nat→Int:=fun a=>if a=e then f else if a=e+1 then p else if a=e+2 then n else if e+lo≤a∧a<e+i then 0 else W a
theorem frW_zero {W:Nat→Int}{e:Nat}{f p n:Int}{lo:Nat}(a:Nat):frW W e f p n lo lo a=fset (fset (fset W e f) (e+1) p) (e+2) n a:=by
 unfold frW fset;by_cases h1:a=e
 ·rw[if_pos h1,if_neg (by omega),if_neg (by omega),if_pos h1]
 ·rw[if_neg h1];by_cases h2:a=e+1
  ·rw[if_pos h2,if_neg (by omega),if_pos h2]
  ·rw[if_neg h2];by_cases h3:a=e+2
   ·rw[if_pos h3,if_pos h3]
   ·rw[if_neg h3,if_neg (by omega),if_neg h3,if_neg h2,if_neg h1]
theorem frW_step {W:Nat→Int}{e:Nat}{f p n:Int}{lo i:Nat}(hlo:3≤lo) (hi:lo≤i) (a:Nat):frW W e f p n lo (i+1) a=fset (frW W e f p n lo i) (e+i) 0 a:=by
 unfold frW fset;dsimp only;by_cases h0:a=e+i
 ·rw[if_pos h0,if_neg (by omega),if_neg (by omega),if_neg (by omega),if_pos (by omega)]
 ·rw[if_neg h0];by_cases h4:e+lo≤a∧a<e+i
  ·rw[if_pos (by omega:e+lo≤a∧a<e+(i+1)),if_pos h4]
  ·rw[if_neg (by omega:¬ (e+lo≤a∧a<e+(i+1))),if_neg h4]
theorem AgM.framed {x:Im}{s:Vm}{W:Nat→Int}(h:AgM s W) (n:Nat):AgM (s.framed x n) (frW W (s.top x) s.fp s.pc n (3+(cdAt x n).params.toNat) (frN x n)):=fun a ha=>by
 have:=h a ha;show frW W (s.top x) s.fp s.pc n (3+(cdAt x n).params.toNat) (frN x n) a=if a=s.top x then (s.fp:Int) else if a=s.top x+1 then s.pc else if a=s.top x+2 then n else if s.top x+(3+(cdAt x n).params.toNat)≤a∧a<s.top x+frN x n then 0 else s.W a
 unfold frW;rw[this]
theorem code_fp {C:Mx}(hC:MxI C) {c:Nat}(hc:c<C.x.codes.length) {w':World}(l:Later C.w0 w'):w'.cell? ⟨C.cg,C.co+c*4,none⟩=some (.int .i64 ((frN C.x c:Nat):Int))∧w'.cell? ⟨C.cg,C.co+c*4+1,none⟩=some (.int .i64 (((cdAt C.x c).params.toNat:Nat):Int)):=by
 obtain⟨g,off,v0,v1,e1,hg,k0,k1,_,_,_,_⟩:=Cd.elem hC.cd c hc
 cases e1
 rw[←cdAt_eq hc]at k0 k1;have hf:=(hC.xi.at hc).fr;have hp:=(hC.xi.at hc).p0;refine⟨?_,?_⟩
 ·rw[Below.cell l (p:=⟨C.cg,C.co+c*4,none⟩) hg,hf.1];exact k0
 ·rw[Below.cell l (p:=⟨C.cg,C.co+c*4+1,none⟩) hg,Int.toNat_of_nonneg hp];exact k1
structure Ca1 (C:Mx) (s:Vm) (q:Mq) (iv ov:Value) (R:St) (n:Nat) (u:Vm) (W:Nat→Int) (wx:World):Prop where
 al:Al C wx u { q with W:=W,ev:=q.ev+1 } iv ov
 fn:u.fn=s.fn
 pc:u.pc=s.pc
 cp:u.copies≤s.copies+1
 cl:u.calls=s.calls
 r:R=u.enter C.x n
def Ca2 (C:Mx) (u:Vm) (q:Mq) (iv ov:Value) (R:St) (n:Nat) (b:Bool) (w':World):Prop :=
 (∃ s' q',Mv C w' s' q' iv ov)∧(b=false→R=.fin 6 0 u∧Al C w' u q iv ov)∧(b=true→∃ t W,R=.go (t.framed C.x n)∧Al C w' t { q with W:=W } iv ov∧t.pc=u.pc∧t.fn=u.fn∧t.calls=u.calls∧t.top C.x - t.base+frN C.x n+7≤t.size)
theorem Al.fits {C:Mx}(hC:MxI C) {w:World}{u:Vm}{q:Mq}{iv ov:Value}(h:Al C w u q iv ov) {n:Nat}(hn:n<C.x.codes.length) (hcp:u.copies≤1000000):Calls Tryz.prog 22 #[.pointer (some ⟨C.K,0,none⟩),.int .i64 ((u.top C.x:Nat):Int),.int .i64 ((frN C.x n:Nat):Int),.int .i64 ((u.top C.x+7:Nat):Int)] w fun e w'=>∃ b,e=.returned (.bool b)∧Ca2 C u q iv ov (u.enter C.x n) n b w':=by
 have hb1:=h.iv.b1;have hb2:=h.iv.b2;have hb3:=h.iv.b3;have hz1:=h.iv.z1;have hbf:=h.iv.bf hC.xi;have hfr:=(hC.xi.at hn).fr;have htop:u.top C.x=u.fp+frN C.x u.fn:=rfl
 obtain⟨G,hG⟩:∃ G,G=growS 10 u.size (u.top C.x - u.base+frN C.x n+7):=⟨_,rfl⟩
 have hgn:u.top C.x - u.base+frN C.x n+7≤G:=by rw[hG];exact grow10 hz1 (by omega)
 have hgs:u.size≤G:=by rw[hG];exact growS_ge _ _ _
 have hen:u.enter C.x n=if G=u.size then .go (u.framed C.x n) else match u.copied C.x G with|none=>.fin 6 0 u|some t=>.go (t.framed C.x n):=by unfold Vm.enter;simp only[←hG];rfl
 refine (lfits_any (L:=linksL u.W u.calls u.fp) hC h.mv hb1 (by omega) hb3 hb2 hcp hbf hz1 (by omega) (by omega) hfr.2.2 hG (fun k=>h.iv.mcI hC.xi (fun a ha=>h.ag a (.inl ha)) (by omega) k)).mono (fun e w' hq=>?_);by_cases hg:G=u.size
 ·obtain⟨rfl,m,_⟩:=hq.1 hg;refine⟨true,rfl,⟨_,_,m⟩,fun k=>(by cases k),fun _=>⟨u,q.W,by rw[hen,if_pos hg],⟨m,h.ag,h.iv,h.en,h.cd,h.orc⟩,rfl,rfl,rfl,by omega⟩⟩
 ·rcases h.copied hC (by omega) (by omega) (hq.2 hg) with ⟨e1,rfl,a⟩|⟨t,W,e1,rfl,a,k1,k2,k3,_,k4,k5⟩
  ·exact⟨false,rfl,⟨_,_,a.mv⟩,fun _=>⟨by rw[hen,if_neg hg,e1],a⟩,fun k=>(by cases k)⟩
  ·exact⟨true,rfl,⟨_,_,a.mv⟩,fun k=>(by cases k),fun _=>⟨t,W,by rw[hen,if_neg hg,e1],a,k2,k1,k3,by omega⟩⟩
theorem en_fits:Enters Tryz.prog 22:=enters_of Tryz.func22 (by kernel_rfl) (by kernel_rfl)
theorem code_lt {C:Mx}(hC:MxI C) {c:Nat}(hc:c<C.x.codes.length):C.cg<C.w0.heap.size:=by
 obtain⟨g,off,v0,v1,e1,hg,_⟩:=Cd.elem hC.cd c hc
 cases e1
 exact hg
theorem lcall_any {C:Mx}(hC:MxI C) {w:World}{s:Vm}{q:Mq}{iv ov:Value}(h:Al C w s q iv ov) (hpc:q.pc=(s.pc:Int) - 1) (hpb:s.pc≤100000) (hev:q.ev≤1000000) (hcp:s.copies≤999990) {n:Nat}(hn:n<C.x.codes.length) (hI:∀ t,s.call C.x n=.go t→Iv C.x C.H t) :
  Calls Tryz.prog 83 #[.pointer (some ⟨C.K,0,none⟩),.int .i64 (n:Int)] w (StM C q.ev (s.call C.x n)):=by
 have hfr:=(hC.xi.at h.iv.fn).fr;have hfn2:=(hC.xi.at hn).fr;have c13:=h.mv.c13.1;by_cases h60:60≤s.calls
 ·have hR:s.call C.x n=.fin 5 0 s:=by unfold Vm.call;rw[if_pos h60]
  rw[hR];have HSp:=lstop_any hC h.mv 5 0
  have HP:Hid (∀ w3,MQ C w unitE s (q.stop 5 0) iv ov unitE w3→StM C q.ev (.fin 5 0 s) unitE w3):=fun w3 m=>⟨rfl,fun e c t k=>by cases k;exact⟨iv,ov,s,_,m.2.1,by unfold Mq.stop;rw[if_pos h.en],by unfold Mq.stop;rw[if_pos h.en],rfl,rfl,rfl,rfl⟩,fun t k=>(by cases k)⟩
  generalize StM C q.ev (.fin 5 0 s)=Q at *
  have i1:(60:Int)≤(s.calls:Int):=by omega
  clear h hR hI;go_enter Tryz.func83,Tryz.ntmps83;go_wp2_with fail
  refine HSp.mono ?_;rintro n3 w3 ⟨rfl,m3⟩;have HP3:=HP.out w3 ⟨rfl,m3⟩;clear HP HSp m3;unfold unitE at HP3 ⊢;go_wp2_with fail
  first|exact HP3|(go_end0;exact HP3)
 ·have i1:¬ (60:Int)≤(s.calls:Int):=by omega
  have i2:decide ((60:Int)≤(s.calls:Int))=false:=decide_eq_false i1;have hR:s.call C.x n=if s.say=2 then ((s.next.copied C.x s.size).getD s.next).enter C.x n else s.next.enter C.x n:=by unfold Vm.call;rw[if_neg h60]
  have HFin:Hid (∀ e c t w',s.call C.x n=.fin e c t→FinM C t e c iv ov w'→StM C q.ev (s.call C.x n) unitE w'):=fun e c t w' hr f=>⟨rfl,fun e' c' t' k=>by rw[hr]at k;cases k;exact⟨iv,ov,f⟩,fun t k=>by rw[hr]at k;cases k⟩
  have HGo:Hid (∀ t w' q',s.call C.x n=.go t→Al C w' t q' iv ov→q'.pc=(t.pc:Int)→q'.ev≤q.ev+1→StM C q.ev (s.call C.x n) unitE w'):=fun t w' q' hr a b c=>⟨rfl,fun e' c' t' k=>(by rw[hr]at k;cases k),fun t' k=>by rw[hr]at k;cases k;exact⟨q',iv,ov,a,b,c⟩⟩
  have HIv:Hid (∀ t,s.call C.x n=.go t→Iv C.x C.H t):=hI
  have HEv:Hid (∀ w',Later w w'→Calls Tryz.prog 121 #[.pointer (some ⟨C.K,0,none⟩)] w' (MQ C w' (.returned (.int .i64 s.say)) s { q with ev:=q.ev+1 } iv ov)):=fun w' l=>by
   have:=levent_any hC (h.mv.kept l) hev;rw[←h.orc]at this;exact this
  have HA1:Hid (∀ w1,Mv C w1 s { q with ev:=q.ev+1 } iv ov→Al C w1 s.next { q with ev:=q.ev+1 } iv ov):=fun w1 m=>⟨m.next,h.ag,h.iv.next,h.en,h.cd,by show s.orc.tail=_;rw[h.orc,List.tail_drop]⟩
  have HB:Hid (∀ t,Iv C.x C.H t→t.fn=s.fn→t.top C.x+7≤12000∧t.top C.x=t.fp+frN C.x s.fn):=fun t i e=>⟨by have:=i.b2;have:=i.b3;omega,by rw[←e];rfl⟩
  have HMo:Hid (s.say=2→∀ w1,Al C w1 s.next { q with ev:=q.ev+1 } iv ov→Calls Tryz.prog 46 #[.pointer (some ⟨C.K,0,none⟩),.int .i64 (s.size:Int),.int .i64 ((s.top C.x+7:Nat):Int)] w1 fun e w'=>∃ b u W,e=.returned (.bool b)∧Ca1 C s q iv ov (s.call C.x n) n u W w'):=fun h2 w1 a=>by
   have b1:=a.iv.b1;have b2:=a.iv.b2;have b3:=a.iv.b3;have z1:=a.iv.z1;have bf:=a.iv.bf hC.xi;have htop:s.top C.x=s.fp+frN C.x s.fn:=rfl;have htn:s.next.top C.x=s.top C.x:=rfl
   have hbn:s.next.base=s.base:=rfl
   have hsn:s.next.size=s.size:=rfl
   have hfpn:s.next.fp=s.fp:=rfl
   rw[htn,hbn,hsn]at b3;rw[hbn,hsn]at b2;rw[hbn]at b1;rw[hbn,hfpn]at bf;refine (lmove_any (s:=s.next) (T:=s.top C.x+7) (z:=s.size) (L:=linksL s.W s.calls s.fp) hC a.mv (by rw[hbn];omega) (by rw[hbn];omega) (by rw[hbn,hsn];omega) (by rw[hbn,hsn];omega) (by rw[hbn];omega) (by omega) (by show s.copies≤_;omega) (by rw[hbn,hfpn];omega) (fun k=>a.iv.mcI hC.xi (fun b hb=>a.ag b (.inl hb)) (by rw[htn,hbn];omega) k)).mono (fun e w' hq=>?_);rcases a.copied (z:=s.size) hC (by rw[hsn]at z1;exact z1) (by rw[htn,hbn];omega) hq with ⟨e1,rfl,a2⟩|⟨t,W,e1,rfl,a2,k1,k2,k3,k4,k5,k6⟩
   ·exact⟨false,s.next,q.W,rfl,a2,rfl,rfl,by show s.copies≤_;omega,rfl,by rw[hR,if_pos h2,e1];rfl⟩
   ·exact⟨true,t,W,rfl,a2,k1,k2,by have:s.next.copies=s.copies:=rfl;omega,k3,by rw[hR,if_pos h2,e1];rfl⟩
  have HC0:Hid (¬ s.say=2→∀ w1,Al C w1 s.next { q with ev:=q.ev+1 } iv ov→Ca1 C s q iv ov (s.call C.x n) n s.next q.W w1):=fun h2 w1 a=>⟨a,rfl,rfl,by show s.copies≤_;omega,rfl,by rw[hR,if_neg h2]⟩
  generalize hRR:s.call C.x n=R at *
  generalize StM C q.ev R=Q at *
  obtain⟨FR,hFR⟩:∃ FR,FR=frN C.x s.fn:=⟨_,rfl⟩
  obtain⟨frn,hfrn⟩:∃ frn,frn=frN C.x n:=⟨_,rfl⟩
  have c1:=h.mv.c1.1;have c11:=h.mv.c11.1;have c10:=h.mv.c10.1;have cf:w.cell? ⟨C.cg,C.co+s.fn*4,none⟩=some (.int .i64 (FR:Int)):=by rw[hFR];exact (code_fp hC h.iv.fn h.mv.lat).1
  have i3:(s.fn:Int)<(C.x.codes.length:Int):=by have:=h.iv.fn;omega
  have i4:(n:Int)<(C.x.codes.length:Int):=by omega
  obtain⟨hb7,htp⟩:=HB.out s h.iv rfl;rw[←hFR]at htp
  obtain⟨F0,hF0⟩:∃ F0,F0=s.top C.x:=⟨_,rfl⟩
  obtain⟨F3,hF3⟩:∃ F3,F3=s.top C.x+3:=⟨_,rfl⟩
  obtain⟨T0,hT0⟩:∃ T0,T0=s.top C.x+7:=⟨_,rfl⟩
  have g1:(s.fp:Int)+(FR:Int)=(F0:Int):=by omega
  have g2:(F0:Int)+3=(F3:Int):=by omega
  have g3:(F3:Int)+4=(T0:Int):=by omega
  have g4:(T0:Int)≤12000:=by omega
  have g5:(F0:Int)≤12000:=by omega
  have g6:(F3:Int)≤12000:=by omega
  rw[←hT0]at HMo
  have hT0h:Hid (T0=s.top C.x+7∧FR≤1000):=⟨hT0,by omega⟩
  have g7:(FR:Int)≤1000:=by omega
  have hFRh:Hid (FR=frN C.x s.fn):=hFR;have hfrnh:Hid (frn=frN C.x n):=hfrn
  have hpch:Hid (q.pc=(s.pc:Int) - 1∧frn≤1000):=⟨hpc,by omega⟩
  clear h hI hR hRR hb7 htp hF0 hF3 hT0 hfr hfn2 hFR hfrn hpc;go_enter Tryz.func83,Tryz.ntmps83;go_wp2_with fail
  go_quiet (fail)
  go_wp2_with fail
  refine (HEv.out _ (Later.drewN' _ _)).mono ?_;rintro n1 w1 ⟨rfl,m1,_⟩;go_upto_if 37 with fail
  go_cut [5] from 6 (fun s5 wx=>∃ (u:Vm) (W:Nat→Int) (T:Nat),s5=.int .i64 (T:Int)∧Hid (T=u.top C.x+7∧Ca1 C s q iv ov R n u W wx))
  case first =>
   by_cases h2:s.say=2
   ·have hye:(s.say==2)=true:=by simp[h2]
    have c9:=m1.c9.1;have c10':=m1.c10.1;have M1h:Hid (Mv C w1 s { q with ev:=q.ev+1 } iv ov):=m1;clear HFin HGo HIv HEv HC0 m1 c10 c11 c1 cf;go_wp2_with fail
    refine (HMo.out h2 w1 (HA1.out w1 M1h.out)).mono ?_;rintro n2 w2 ⟨b,u,W,rfl,hc⟩;have d10:=hc.al.mv.c10.1;obtain⟨k1,k2⟩:=HB.out u hc.al.iv hc.fn;have hFR:=hFRh.out;rw[←hFR]at k2
    obtain⟨G0,hG0⟩:∃ F0,F0=u.top C.x:=⟨_,rfl⟩
    obtain⟨G3,hG3⟩:∃ F3,F3=u.top C.x+3:=⟨_,rfl⟩
    obtain⟨T,hT⟩:∃ T,T=u.top C.x+7:=⟨_,rfl⟩
    have j1:(u.fp:Int)+(FR:Int)=(G0:Int):=by omega
    have j2:(G0:Int)+3=(G3:Int):=by omega
    have j3:(G3:Int)+4=(T:Int):=by omega
    have j4:(T:Int)≤12000:=by omega
    have j5:(G0:Int)≤12000:=by omega
    have j6:(G3:Int)≤12000:=by omega
    have HX:Hid (T=u.top C.x+7∧Ca1 C s q iv ov R n u W w2):=⟨hT,hc⟩
    clear HMo HA1 M1h HB hFR hc k1 k2 hG0 hG3 hT c9 c10';go_wp2_with fail
    go_meet
    case rel=>exact⟨u,W,T,rfl,HX⟩
   ·have hne:(s.say==2)=false:=by simp[h2]
    have HX:Hid (T0=s.next.top C.x+7∧Ca1 C s q iv ov R n s.next q.W w1):=⟨hT0h.out.1,HC0.out h2 w1 (HA1.out w1 m1)⟩
    clear HFin HGo HIv HEv HA1 HB HMo HC0 m1 c10 c11 c1 cf;go_wp2_with fail
    go_meet
    case rel=>exact⟨s.next,q.W,T0,rfl,HX⟩
  case rest =>
   obtain⟨u,W,T,rfl,HX⟩:=hcut;clear HEv HA1 HMo HC0 m1 c10 c11 c1 cf g1 g2 g3 g4 g5 g6 i1 i2 i3 c13;have hX:=HX.out.2;have hT:=HX.out.1;obtain⟨k1,k2⟩:=HB.out u hX.al.iv hX.fn;have hFR:=hFRh.out;have hfrn:=hfrnh.out;rw[←hFR]at k2;have hfn:Hid (u.fn=s.fn):=hX.fn;have hupc:Hid (u.pc=s.pc):=hX.pc;have d10:=hX.al.mv.c10.1
   obtain⟨F,hF⟩:∃ F,F=u.top C.x:=⟨_,rfl⟩
   have j1:(u.fp:Int)+(FR:Int)=(F:Int):=by omega
   have j2:(F:Int)≤12000:=by omega
   have j3:IntKind.i64.wrap (F:Int)=(F:Int):=by rw[IntKind.wrap_i64];omega
   have HFi:Hid (∀ w',Later wc w'→Calls Tryz.prog 22 #[.pointer (some ⟨C.K,0,none⟩),.int .i64 (F:Int),.int .i64 (frn:Int),.int .i64 (T:Int)] w' fun e w'=>∃ b,e=.returned (.bool b)∧Ca2 C u { q with W:=W,ev:=q.ev+1 } iv ov R n b w'):=fun w' l=>by
    have:=(hX.al.kept l).fits hC hn (by have:=hX.cp;omega);rw[hF,hfrn,hT,hX.r];exact this
   have HSx:Hid (∀ w',(∃ s' q',Mv C w' s' q' iv ov)→w'.cell? ⟨C.K,1,none⟩=some (.slice (some ⟨C.cg,C.co,none⟩) C.x.codes.length C.cc)∧w'.cell? ⟨C.cg,C.co+n*4,none⟩=some (.int .i64 (frn:Int))):=fun w' m=>by
    obtain⟨s',q',m⟩:=m;exact⟨m.c1.1,by rw[hfrn];exact (code_fp hC hn m.lat).1⟩
   have hS0:=HSx.out wc.drew ⟨_,_,hX.al.mv.kept (Later.drew _)⟩;obtain⟨hS01,hS02⟩:=hS0
   have hS0:wc.drew.cell? ⟨C.K,1,none⟩=some (.slice (some ⟨C.cg,C.co,none⟩) C.x.codes.length C.cc)∧wc.drew.cell? ⟨C.cg,C.co+n*4,none⟩=some (.int .i64 (frn:Int)):=⟨hS01,hS02⟩
   clear HX hX hT k1 k2 hF HB hT0h hFR hfrn;go_wp2_with fail
   refine wp_region_held_drew (S:=fun w'=>w'.cell? ⟨C.K,1,none⟩=some (.slice (some ⟨C.cg,C.co,none⟩) C.x.codes.length C.cc)∧w'.cell? ⟨C.cg,C.co+n*4,none⟩=some (.int .i64 (frn:Int))) (by kernel_rfl) (by exact hS0) (fun hHeld=>?_);refine tk 0 (.pointer (some ⟨C.K,0,none⟩)) rfl ?_;(try go_simp);refine tk 1 (.pointer (some ⟨C.K,0,none⟩)) rfl ?_;(try go_simp);refine tk 2 (.pointer (some ⟨C.K,0,none⟩)) rfl ?_;(try go_simp);refine tk 3 (.pointer (some ⟨C.K,10,none⟩)) rfl ?_;(try go_simp);refine tk 5 (.int .i64 ((FR:Int))) rfl ?_;(try go_simp);refine tk 7 (.pointer (some ⟨C.K,0,none⟩)) rfl ?_;(try go_simp);refine tk 8 (.pointer (some ⟨C.K,0,none⟩)) rfl ?_;(try go_simp);refine tk 9 (.pointer (some ⟨C.K,0,none⟩)) rfl ?_;(try go_simp);refine tk 10 (.pointer (some ⟨C.K,1,none⟩)) rfl ?_;(try go_simp);refine tk 11 (.slice (some ⟨C.cg,C.co,none⟩) C.x.codes.length C.cc) rfl ?_;(try go_simp);refine tk 12 (.int .i64 ((n:Int))) rfl ?_;(try go_simp);refine tk 13 (.pointer (some ⟨C.cg,C.co+n*4,none⟩)) rfl ?_;(try go_simp);refine tk 14 (.pointer (some ⟨C.cg,C.co+n*4,none⟩)) rfl ?_;(try go_simp);refine tk 15 (.int .i64 ((frn:Int))) rfl ?_;(try go_simp);refine tk 16 (.int .i64 ((T:Int))) rfl ?_;(try go_simp);refine rd1 4 rfl fun K hK=>?_;go_simp;refine hK.out _ _ ?_ (fun hHeld=>?_)
   ·first|assumption|(go_keep;done)|exact hS2
   clear hK K;(try go_simp);refine tk 6 (.int .i64 ((F:Int))) rfl ?_;(try go_simp);refine rd1 17 rfl fun K hK=>?_;refine step_call rfl 22 en_fits _ _ rfl [.pointer (some ⟨C.K,0,none⟩),.int .i64 (F:Int),.int .i64 (frn:Int),.int .i64 (T:Int)] rfl (fun v w'=>∃ b,v=.bool b∧Ca2 C u { q with W:=W,ev:=q.ev+1 } iv ov R n b w') ((HFi.out _ (Later.drew _)).mono (fun e1 w1 hq=>by obtain⟨b,rfl,b1⟩:=hq;exact⟨_,rfl,b,rfl,b1⟩)) ?_;intro u2 w2 hc2;obtain⟨b,rfl,hC2⟩:=hc2;have hS2:=HSx.out w2 hC2.1;refine hK.out _ _ ?_ (fun hHeld=>?_)
   ·first|assumption|(go_keep;done)|exact hS2
   clear hK K;(try go_simp);refine rd1 18 rfl fun K hK=>?_;go_simp;refine hK.out _ _ ?_ (fun hHeld=>?_)
   ·first|assumption|(go_keep;done)|exact hS2
   clear hK K;(try go_simp);refine wpAnyH_done (by kernel_rfl) ?_ _;have hC3:=hC2.2;clear hC2 HFi HSx hHeld
   cases b with
   | false =>
    obtain⟨hr,ha⟩:=hC3.1 rfl;have HSp:=lstop_any hC ha.mv 6 0;have HP:Hid (∀ w3,MQ C w2 unitE u (({ q with W:=W,ev:=q.ev+1 }:Mq).stop 6 0) iv ov unitE w3→Q unitE w3):=fun w3 m=>HFin.out 6 0 u w3 hr ⟨u,_,m.2.1,by unfold Mq.stop;rw[if_pos ha.en],by unfold Mq.stop;rw[if_pos ha.en],rfl,rfl,rfl,rfl⟩;clear hC3 hr ha HFin HGo;go_wp2_with fail
    refine HSp.mono ?_;rintro n3 w3 ⟨rfl,m3⟩;have HP3:=HP.out w3 ⟨rfl,m3⟩;clear HP HSp m3;unfold unitE at HP3 ⊢;go_wp2_with fail
    first|exact HP3|(go_end0;exact HP3)
   | true =>
    obtain⟨t,V,hr,ha,p1,p2,p3,hroom⟩:=hC3.2 rfl;clear hC3;have hFR:=hFRh.out;have hfrn:=hfrnh.out;have hfn1:=hfn.out;have hupc1:=hupc.out;have hpc:=hpch.out
    obtain⟨E,hE⟩:∃ E,E=t.top C.x:=⟨_,rfl⟩
    have hEf:E=t.fp+FR:=by rw[hE,hFR,← hfn1,← p2];rfl
    have hb2:=ha.iv.b2;have hb3:=ha.iv.b3;have hbf:=ha.iv.bf hC.xi;rw[←hE]at hroom hb3;have hEN:E+frn+7≤12000:=by rw[hfrn];omega
    have hN:=hC.hN
    obtain⟨PC,hPC⟩:∃ PC:Nat,PC=t.pc:=⟨_,rfl⟩
    have hpcq:q.pc+1=(PC:Int):=by rw[hPC,p1,hupc1];omega
    obtain⟨lo,hlo⟩:∃ lo,lo=3+(cdAt C.x n).params.toNat:=⟨_,rfl⟩
    have hlof:lo≤frn:=by
     have:=(hC.xi.at hn).f3;have:=(hC.xi.at hn).p0;have:=(hC.xi.at hn).fr;omega
    have HMs:Hid (∀ j,lo≤j→j<frn→∀ wr,Mv C wr t { q with W:=frW V E (t.fp:Int) (PC:Int) (n:Int) lo j,ev:=q.ev+1 } iv ov→Mv C (wr.setCell ⟨C.WB,E+j,none⟩ (.int .i64 0)) t { q with W:=frW V E (t.fp:Int) (PC:Int) (n:Int) lo (j+1),ev:=q.ev+1 } iv ov):=fun j h1 h2 wr m=>(m.setW hC (a:=E+j) (by omega) 0).convW rfl (fun b _=>frW_step (by omega) h1 b);have HM1:Hid (∀ wr,Mv C wr t { q with W:=V,ev:=q.ev+1 } iv ov→Mv C (wr.setCell ⟨C.WB,E,none⟩ (.int .i64 (t.fp:Int))) t { q with W:=fset V E (t.fp:Int),ev:=q.ev+1 } iv ov):=fun wr m=>m.setW hC (a:=E) (by omega) (t.fp:Int);have HM2:Hid (∀ wr,Mv C wr t { q with W:=fset V E (t.fp:Int),ev:=q.ev+1 } iv ov→Mv C (wr.setCell ⟨C.WB,E+1,none⟩ (.int .i64 (PC:Int))) t { q with W:=fset (fset V E (t.fp:Int)) (E+1) (PC:Int),ev:=q.ev+1 } iv ov):=fun wr m=>m.setW hC (a:=E+1) (by omega) (PC:Int);have HM3:Hid (∀ wr,Mv C wr t { q with W:=fset (fset V E (t.fp:Int)) (E+1) (PC:Int),ev:=q.ev+1 } iv ov→Mv C (wr.setCell ⟨C.WB,E+2,none⟩ (.int .i64 (n:Int))) t { q with W:=frW V E (t.fp:Int) (PC:Int) (n:Int) lo lo,ev:=q.ev+1 } iv ov):=fun wr m=>(m.setW hC (a:=E+2) (by omega) (n:Int)).convW rfl (fun b _=>frW_zero b)
    have HRd:Hid (∀ W' wr a,a<12000→Mv C wr t { q with W:=W',ev:=q.ev+1 } iv ov→wr.cell? ⟨C.K,3,none⟩=some (.slice (some ⟨C.WB,0,none⟩) C.N C.N)∧(∃ z,wr.cell? ⟨C.WB,a,none⟩=some z)∧wr.frozen? ⟨C.WB,a,none⟩=false∧wr.cell? ⟨C.K,10,none⟩=some (.int .i64 (t.fp:Int))∧wr.cell? ⟨C.K,12,none⟩=some (.int .i64 q.pc)):=fun W' wr a h1 m=>⟨m.c3.1,⟨_,(m.word (a:=a) (by omega)).1⟩,(m.word (a:=a) (by omega)).2,m.c10.1,m.c12.1⟩
    have HRc:Hid (∀ W' wr,Mv C wr t { q with W:=W',ev:=q.ev+1 } iv ov→wr.cell? ⟨C.K,1,none⟩=some (.slice (some ⟨C.cg,C.co,none⟩) C.x.codes.length C.cc)∧wr.cell? ⟨C.cg,C.co+n*4,none⟩=some (.int .i64 (frn:Int))∧wr.cell? ⟨C.cg,C.co+n*4+1,none⟩=some (.int .i64 (((cdAt C.x n).params.toNat:Nat):Int))):=fun W' wr m=>⟨m.c1.1,by rw[hfrn];exact (code_fp hC hn m.lat).1,(code_fp hC hn m.lat).2⟩
    have HRk:Hid (∀ W' wr,Mv C wr t { q with W:=W',ev:=q.ev+1 } iv ov→(∃ z,wr.cell? ⟨C.K,10,none⟩=some z)∧wr.frozen? ⟨C.K,10,none⟩=false∧(∃ z,wr.cell? ⟨C.K,11,none⟩=some z)∧wr.frozen? ⟨C.K,11,none⟩=false∧(∃ z,wr.cell? ⟨C.K,12,none⟩=some z)∧wr.frozen? ⟨C.K,12,none⟩=false∧wr.cell? ⟨C.K,13,none⟩=some (.int .i64 (t.calls:Int))∧wr.frozen? ⟨C.K,13,none⟩=false):=fun W' wr m=>⟨⟨_,m.c10.1⟩,m.c10.2,⟨_,m.c11.1⟩,m.c11.2,⟨_,m.c12.1⟩,m.c12.2,m.c13.1,m.c13.2⟩
    obtain⟨cl,hcl⟩:∃ cl,cl=t.calls+1:=⟨_,rfl⟩
    have HEnd:Hid (∀ wr,Mv C wr t { q with W:=frW V E (t.fp:Int) (PC:Int) (n:Int) lo frn,ev:=q.ev+1 } iv ov→Q unitE ((((wr.setCell ⟨C.K,10,none⟩ (.int .i64 (E:Int))).setCell ⟨C.K,11,none⟩ (.int .i64 (n:Int))).setCell ⟨C.K,12,none⟩ (.int .i64 0)).setCell ⟨C.K,13,none⟩ (.int .i64 (cl:Int)))):=fun wr m=>by
     have m1:=m.setK hC (s':={ t with fp:=E }) (q':={ q with W:=frW V E (t.fp:Int) (PC:Int) (n:Int) lo frn,ev:=q.ev+1 }) (o:=10) (v:=.int .i64 (E:Int)) (by decide) (map_ext rfl) rfl rfl rfl rfl rfl;have m2:=m1.setK hC (s':={ t with fp:=E,fn:=n }) (q':={ q with W:=frW V E (t.fp:Int) (PC:Int) (n:Int) lo frn,ev:=q.ev+1 }) (o:=11) (v:=.int .i64 (n:Int)) (by decide) (map_ext rfl) rfl rfl rfl rfl rfl;have m3:=m2.setK hC (s':={ t with fp:=E,fn:=n,pc:=0 }) (q':={ q with W:=frW V E (t.fp:Int) (PC:Int) (n:Int) lo frn,ev:=q.ev+1,pc:=0 }) (o:=12) (v:=.int .i64 0) (by decide) (map_ext rfl) rfl rfl rfl rfl rfl;have m4:=m3.setK hC (s':={ t with fp:=E,fn:=n,pc:=0,calls:=cl }) (q':={ q with W:=frW V E (t.fp:Int) (PC:Int) (n:Int) lo frn,ev:=q.ev+1,pc:=0 }) (o:=13) (v:=.int .i64 (cl:Int)) (by decide) (map_ext rfl) rfl rfl rfl rfl rfl;have hag:=ha.ag.framed (x:=C.x) n;refine HGo.out (t.framed C.x n) _ _ hr ⟨m4.conv (t:=t.framed C.x n) (by rw[hE,hcl];rfl) (fun _ _=>rfl),?_,HIv.out _ hr,ha.en,ha.cd,ha.orc⟩ rfl (Nat.le_refl _);rw[hE,hPC,hlo,hfrn];exact hag
    have M0:Hid (Mv C w2 t { q with W:=V,ev:=q.ev+1 } iv ov):=ha.mv;have x1:(t.fp:Int)+(FR:Int)=(E:Int):=by omega
    have x2:(E:Int)≤12000:=by omega
    have x3:(E:Int)<(C.N:Int):=by omega
    obtain⟨E1,hE1⟩:∃ E1,E1=E+1:=⟨_,rfl⟩
    obtain⟨E2,hE2⟩:∃ E2,E2=E+2:=⟨_,rfl⟩
    rw[←hE1]at HM2 HM3;rw[←hE2]at HM3;have x4:(E:Int)+1=(E1:Int):=by omega
    have x5:(E:Int)+2=(E2:Int):=by omega
    have x6:(E1:Int)<(C.N:Int):=by omega
    have x7:(E2:Int)<(C.N:Int):=by omega
    have x8:(E1:Int)≤12000:=by omega
    have x9:(E2:Int)≤12000:=by omega
    have x10:(t.fp:Int)≤12000:=by omega
    have y1:((t.calls:Int))+1=(cl:Int):=by omega
    have hc60:=ha.iv.c1;have y2:(cl:Int)≤100:=by omega
    obtain⟨PM,hPM⟩:∃ PM,PM=(cdAt C.x n).params.toNat:=⟨_,rfl⟩
    rw[←hPM]at HRc hlo;have y3:(3:Int)+(PM:Int)=(lo:Int):=by omega
    have y4:(frn:Int)≤1000:=by omega
    have y5:(lo:Int)≤1000:=by omega
    have hq1:q.pc+1=(PC:Int):=hpcq;have y6:q.pc≤200000:=by omega
    have y7:-10≤q.pc:=by omega
    have hEh:Hid (E+frn+7≤12000∧12000≤C.N∧E1<12000∧E2<12000∧lo≤frn):=⟨hEN,by omega,by omega,by omega,hlof⟩
    obtain⟨d3,⟨u1,dw⟩,zw,d10,d12⟩:=HRd.out _ w2 E (by omega) ha.mv;obtain⟨_,⟨u3,dw1⟩,zw1,_,_⟩:=HRd.out _ w2 E1 (by omega) ha.mv;obtain⟨_,⟨u4,dw2⟩,zw2,_,_⟩:=HRd.out _ w2 E2 (by omega) ha.mv;obtain⟨d1,dcf,dcp⟩:=HRc.out _ w2 ha.mv;have hne1:E≠E1:=by omega
    have hne2:E≠E2:=by omega
    have hne3:E1≠E2:=by omega
    have e1:=hC.d1
    have HgW:¬ C.cg=C.WB:=by
     have:=code_lt hC hn;have:=hC.p2;omega
    have h3lo:Hid (3≤lo):=by show _≤_;omega
    clear hr ha hE hEf hb2 hb3 hbf hroom hEN hN hPC hlo hlof HFin HGo p1 p2 p3 hcl hE1 hE2 hPM hc60 hFR hfrn hfn1 hupc1 hpc hpcq;go_wp2_with fail
    go_region
    go_wp2_with fail
    go_region
    go_wp2_with fail
    go_loopw [7] (fun i wr=>∃ j:Nat,i=.int .i64 (j:Int)∧lo≤j∧j≤frn∧Hid (Mv C wr t { q with W:=frW V E (t.fp:Int) (PC:Int) (n:Int) lo j,ev:=q.ev+1 } iv ov)) (fun i _=>frn - (intOf i).toNat)
    case atStart =>
     refine⟨lo,rfl,Nat.le_refl _,hEh.out.2.2.2.2,?_⟩;exact HM3.out _ ((HM2.out _ ((HM1.out _ M0.out).kept (Later.drew _))).kept (Later.drew _))
    case round =>
     obtain⟨j,rfl,hj1,hj2,HJ⟩:=hrel;clear HM1 HM2 HM3 M0 d3 dw zw d10 d12 dw1 zw1 dw2 zw2 d1 dcf dcp;obtain⟨d1,dcf,dcp⟩:=HRc.out _ wr HJ.out;by_cases hlt:j<frn
     ·have i2:(j:Int)<(frn:Int):=by omega
      have hEo:=hEh.out;obtain⟨d3,⟨u5,dw⟩,zw,_,_⟩:=HRd.out _ wr (E+j) (by omega) HJ.out;have M1:Hid (Mv C (wr.setCell ⟨C.WB,E+j,none⟩ (.int .i64 0)) t { q with W:=frW V E (t.fp:Int) (PC:Int) (n:Int) lo (j+1),ev:=q.ev+1 } iv ov):=HMs.out j hj1 hlt wr HJ.out
      obtain⟨ej,hej⟩:∃ ej,ej=E+j:=⟨_,rfl⟩
      rw[←hej]at M1 dw zw;have z1:(E:Int)+(j:Int)=(ej:Int):=by omega
      have z2:(ej:Int)<(C.N:Int):=by omega
      have z3:(ej:Int)≤12000:=by omega
      clear HMs HRd HRc HRk HEnd HJ hEo hej hEh dcp;go_wp2_with fail
      go_roundw
      case rel=>exact⟨j+1,by go_num,by omega,by omega,M1⟩
      case measure=>simp[intOf];omega
     ·obtain rfl:j=frn:=by omega
      have i2:¬ (j:Int)<(j:Int):=by omega
      have i3:decide ((j:Int)<(j:Int))=false:=decide_eq_false i2;have HP:=HEnd.out wr HJ.out;obtain⟨⟨v1,k10⟩,f10,⟨v2,k11⟩,f11,⟨v3,k12⟩,f12,k13,f13⟩:=HRk.out _ wr HJ.out;clear HMs HRd HRc HRk HEnd HJ hEh dcp;unfold unitE at HP;go_wp2_with fail
      first|exact HP|(go_end0;exact HP)
end Go.Proofs.YtjnpncefkigcbaaGreat
