import Derived.Test.YtjnpncefkigcbaaGreatHq
import Derived.Test.YtjnpncefkigcbaaGreatHa
import Derived.Test.YtjnpncefkigcbaaGreatHc
import Derived.Lib.AppendStr
import Derived.Lib.SlBytesConst
import Derived.ArgAppend
import Derived.OwnWalk
set_option maxHeartbeats 100000000
set_option maxRecDepth 100000
namespace Go.Proofs.YtjnpncefkigcbaaGreat
open Go.RowKit Go.Lib Go.Maps
theorem Iv.cpI {C:Cx}(hC:CxI C) {s:Vm}(h:Iv C.x C.H s) (hcp:s.copies≤1000000):CpI C s (s.top C.x):=by
 have hfr:=(hC.xi.at h.fn).fr;have hbf:=h.bf hC.xi;have hb1:=h.b1;have htop:s.top C.x=s.fp+frN C.x s.fn:=rfl;exact⟨h.b1,by omega,h.b3,h.b2,.inr ⟨h.ch,by omega,by omega⟩,hcp⟩
theorem copied_cp {x:Im}{s:Vm}{z:Nat}(hfp:0<s.fp):s.copied x z=if 12000<cpB s z+z then none else some (s.cpS (s.top x) (cpB s z) z s.calls (cpF s (cpB s z))):=by
 unfold Vm.copied;show (if 12000<cpB s z+z then none else some { s with W:=s.copyW x (cpB s z),base:=cpB s z,size:=z,fp:=cpB s z+(s.fp - s.base),copies:=s.copies+1 })=_;split
 ·rfl
 ·have e1:s.copyW x (cpB s z)=s.cpW (s.top x) (cpB s z) s.calls:=funext (fun a=>copyW_cpW a);have e2:cpF s (cpB s z)=cpB s z+(s.fp - s.base):=by unfold cpF;rw[if_neg (by omega)]
  unfold Vm.cpS;rw[e1,e2]
theorem cp_top {x:Im}{s:Vm}{z:Nat}(hfp:0<s.fp) (hb:s.base≤s.fp):(s.cpS (s.top x) (cpB s z) z s.calls (cpF s (cpB s z))).top x=cpB s z+(s.top x - s.base):=by
 show cpF s (cpB s z)+frN x s.fn=cpB s z+(s.fp+frN x s.fn - s.base)
 unfold cpF;rw[if_neg (by omega)];omega
theorem fram_top {x:Im}{s:Vm}{n:Nat}:s.fram x (s.top x) n=s.framed x n:=rfl
theorem enter_roomy {x:Im}{s:Vm}{n G:Nat}(hG:G=growS 10 s.size (s.top x - s.base+frN x n+7)) (hfp:0<s.fp) (hb:s.base≤s.fp):s.enter x n=match s.roomy (s.top x) G with|none=>.fin 6 0 s|some (t,e2)=>.go (t.fram x e2 n):=by
 unfold Vm.enter Vm.roomy;simp only[←hG];by_cases h1:G=s.size
 ·rw[if_pos h1,if_pos h1];rfl
 ·rw[if_neg h1,if_neg h1,copied_cp hfp];by_cases h2:12000<cpB s G+G
  ·rw[if_pos h2,if_pos h2]
  ·rw[if_neg h2,if_neg h2];show St.go _=St.go _;rw[←cp_top (x:=x) hfp hb,fram_top]
theorem enQ_st {C:Cx}{w:World}{s:Vm}{n G:Nat}{iv ov rv:Value}{m:Ending}{w':World}(hG:G=growS 10 s.size (s.top C.x - s.base+frN C.x n+7)) (hfp:0<s.fp) (hb:s.base≤s.fp) (h:EnQ C w s (s.top C.x) n G iv ov rv m w'):StQ C ov (s.enter C.x n) m w':=by
 rw[enter_roomy hG hfp hb];unfold EnQ at h
 cases hr:s.roomy (s.top C.x) G with
 | none=>rw[hr]at h;exact h
 | some te =>
  obtain⟨t,e2⟩:=te;rw[hr]at h;obtain⟨rfl,p,_⟩:=h;exact⟨rfl,iv,ov,rv,p⟩
theorem box_only {C:Cx}{a w':World}{b k:Nat}{v:Value}(h:OnlyM C a w') (hb:b<a.heap.size) (h1:b≠C.P) (h2:b≠C.WB) (h3:b≠C.PB) (hc:a.cell? ⟨b,k,none⟩=some v):w'.cell? ⟨b,k,none⟩=some v:=by
 rw[World.cell?_of_block (w:=a) (w':=w') (a:=⟨b,k,none⟩) (h.block b hb h1 h2 h3)];exact hc
theorem doCall_any {C:Cx}(hC:CxI C) {w:World}{s:Vm}{iv ov rv:Value}(h:Pv C w s (s.top C.x) (codeP C s.fn) iv ov rv) (hI:Iv C.x C.H s) {n:Nat}(hn:n<C.x.codes.length) (hcp:s.copies≤999000) (hpc:s.pc≤10000) (op a b c:Int) :
  Calls Tryz.prog 109 #[.pointer (some ⟨C.P,0,none⟩),.agg #[.int .i64 op,.int .i64 a,.int .i64 b,.int .i64 c,.int .i64 (n:Int)]] w (StQ C ov (s.call C.x n)):=by
 have hlt:=h.box.lt;have hlt2:=h.wd.lt;have hlt3:=h.pp.lt;have hP:¬ C.P=w.heap.size:=by omega
 obtain⟨c56,_⟩:=h.c56;have hc60:=hI.c1;have hbf:=hI.bf hC.xi;have hb1:=hI.b1
 obtain⟨w1,hw1⟩:∃ w1,w1=w.alloc (Obj.cells #[.int .i64 op,.int .i64 a,.int .i64 b,.int .i64 c,.int .i64 (n:Int)] 97):=⟨_,rfl⟩
 have hsz:w1.heap.size=w.heap.size+1:=by rw[hw1];simp
 have hbx:w1.cell? ⟨w.heap.size,4,none⟩=some (.int .i64 (n:Int)):=by rw[hw1];go_keep
 have l1:Later w w1:=by rw[hw1];exact later_a _ _
 have HBx:Hid (∀ w',OnlyM C w1 w'→w'.cell? ⟨w.heap.size,4,none⟩=some (.int .i64 (n:Int))):=fun w' o=>box_only o (by omega) (by omega) (by omega) (by omega) hbx;by_cases h60:60≤s.calls
 ·have HZ:Hid (∀ w',Later w w'→StQ C ov (s.call C.x n) (finP 5 0) w'):=fun w' l=>by
   unfold Vm.call;rw[if_pos h60];exact⟨rfl,s,_,_,iv,rv,h.kept l,rfl,rfl,rfl,rfl⟩
  generalize StQ C ov (s.call C.x n)=Q at *
  have k1:¬ ((s.calls:Int)<60):=by omega
  clear h hI HBx hw1 hbx;go_enter Tryz.func109,Tryz.ntmps109;go_wp2_with fail
  refine (must_no 5 0 _).mono ?_;rintro n2 w2 ⟨rfl,l2⟩;have HP:=HZ.out w2 ((later_a _ _).trans l2);clear HZ;unfold finP at HP ⊢;go_wp2_with fail
  exact⟨rfl,HP⟩
 ·have k1:(s.calls:Int)<60:=by omega
  have HSay:Hid (∀ w',Later w w'→Calls Tryz.prog 141 #[.pointer (some ⟨C.P,0,none⟩)] w' (SayQ C w' s (s.top C.x) (codeP C s.fn) iv ov)):=fun w' l=>isay_any hC (h.kept l);have hnx:Iv C.x C.H s.next:=hI.next
  have HEn:Hid (∀ w' t cp' rv',Pv C w' t (t.top C.x) cp' iv ov rv'→Iv C.x C.H t→t.copies≤1000000→t.calls=s.calls→t.pc=s.pc→Calls Tryz.prog 65 #[.pointer (some ⟨C.P,0,none⟩),.int .i64 (n:Int)] w' (StQ C ov (t.enter C.x n))):=fun w' t cp' rv' p i hc h1 h2=>by
   have hb:=i.bf hC.xi;have hb1:=i.b1;exact (ienter_any hC p (i.cpI hC hc) i.z1 hn (by omega) (by omega) rfl).mono (fun m w2 q=>enQ_st rfl (by omega) hb q)
  have HCo:Hid (∀ w' cp' rv',Pv C w' s.next (s.next.top C.x) cp' iv ov rv'→Calls Tryz.prog 142 #[.pointer (some ⟨C.P,0,none⟩),.int .i64 (s.size:Int)] w' (CpQ C w' s.next (s.next.top C.x) s.size cp' iv ov rv')):=fun w' cp' rv' p=>icopy_any hC p (hnx.cpI hC (by show s.copies≤1000000;omega)) (by have:=hnx.b3;exact this) (by have:=hI.b2;omega);have HQ1:Hid (s.say=2→s.call C.x n=((s.next.copied C.x s.size).getD s.next).enter C.x n):=fun q=>by unfold Vm.call;rw[if_neg h60,if_pos q]
  have HQ2:Hid (¬ s.say=2→s.call C.x n=s.next.enter C.x n):=fun q=>by unfold Vm.call;rw[if_neg h60,if_neg q]
  generalize hcall:s.call C.x n=CL at *
  have HQst:Hid (∀ m w',StQ C ov CL m w'→StQ C ov CL m w'):=fun _ _ q=>q
  have hcv:Hid (∀ z t,s.next.copied C.x z=some t→z=s.size→Iv C.x C.H t∧t.copies=s.copies+1∧t.calls=s.calls∧t.pc=s.pc):=fun z t ht hz=>by
   subst hz;obtain⟨q1,_,_,q4⟩:=hnx.copied hC.xi hnx.z1 hnx.b3 ht;exact⟨q1,by rw[q4];rfl,by rw[q4];rfl,by rw[q4];rfl⟩
  have hnf:0<s.next.fp:=by show 0<s.fp;omega
  clear h hI hcall
  generalize hQQ:StQ C ov CL=Q at HQst ⊢
  rw[←hQQ]at HQst;have HQst2:Hid (∀ m w',StQ C ov CL m w'→Q m w'):=by rw[hQQ];exact fun _ _ q=>q
  clear HQst hQQ;have HQst:=HQst2;clear HQst2;go_enter Tryz.func109,Tryz.ntmps109;go_wp2_with fail
  refine (must_yes 5 0 _).mono ?_;rintro n2 w2 ⟨rfl,l2⟩;rw[←hw1]at l2;have l2':=l1.trans l2;unfold unitE;clear c56;go_wp2_with fail
  refine (HSay.out w2 l2').mono ?_;rintro n3 w3 ⟨rfl,rv3,p3,o3⟩;have o13:OnlyM C w1 w3:=(OnlyM.of_later l2).trans o3;by_cases hsay:s.say=2
  ·have hcl:=HQ1.out hsay;rw[hsay];obtain⟨d55,_⟩:=p3.c55;have d55':w3.cell? ⟨C.P,55,none⟩=some (.int .i64 (s.size:Int)):=d55;clear d55;go_wp2_with fail
   refine (HCo.out w3 _ rv3 p3).mono ?_;intro n4 w4 hq4;unfold CpQ at hq4;have hcc:=copied_cp (x:=C.x) (s:=s.next) (z:=s.size) hnf;by_cases hb:12000<cpB s.next s.size+s.size
   ·rw[if_pos hb]at hq4 hcc;rw[hcc]at hcl;obtain⟨rfl,p4,o4⟩:=hq4;have d4:=HBx.out w4 (o13.trans o4);clear d55';go_wp2_with fail
    refine (HEn.out w4 s.next _ rv3 p4 hnx (by show s.copies≤1000000;omega) rfl rfl).mono ?_;intro m5 w5 q5
    cases hen:(s.next).enter C.x n with
    | go t5 =>
     rw[hen]at q5;have HP:=HQst.out m5 w5 (by rw[hcl,Option.getD_none,hen];exact q5);obtain⟨rfl,_⟩:=q5;clear HQst HQ1 HQ2 HSay HEn HCo HBx hen;unfold unitE at HP ⊢;go_wp2_with fail
     first|exact HP|(go_end0;exact HP)
    | fin e5 c5 t5 =>
     rw[hen]at q5;have HP:=HQst.out m5 w5 (by rw[hcl,Option.getD_none,hen];exact q5);obtain⟨rfl,_⟩:=q5;clear HQst HQ1 HQ2 HSay HEn HCo HBx hen;unfold finP at HP ⊢;go_wp2_with fail
     exact⟨rfl,HP⟩
   ·rw[if_neg hb]at hq4 hcc;rw[hcc,Option.getD_some]at hcl;obtain⟨rfl,p4,o4⟩:=hq4;obtain⟨v1,v2,v3,v4⟩:=hcv.out _ _ hcc rfl;have htp:=cp_top (x:=C.x) (s:=s.next) (z:=s.size) hnf hbf;rw[←htp]at p4
    generalize s.next.cpS (s.next.top C.x) (cpB s.next s.size) s.size s.next.calls (cpF s.next (cpB s.next s.size))=tc at *
    have d4:=HBx.out w4 (o13.trans o4);clear d55';go_wp2_with fail
    refine (HEn.out w4 tc _ rv3 p4 v1 (by omega) v3 v4).mono ?_;intro m5 w5 q5
    cases hen:(tc).enter C.x n with
    | go t5 =>
     rw[hen]at q5;have HP:=HQst.out m5 w5 (by rw[hcl,hen];exact q5);obtain⟨rfl,_⟩:=q5;clear HQst HQ1 HQ2 HSay HEn HCo HBx hen;unfold unitE at HP ⊢;go_wp2_with fail
     first|exact HP|(go_end0;exact HP)
    | fin e5 c5 t5 =>
     rw[hen]at q5;have HP:=HQst.out m5 w5 (by rw[hcl,hen];exact q5);obtain⟨rfl,_⟩:=q5;clear HQst HQ1 HQ2 HSay HEn HCo HBx hen;unfold finP at HP ⊢;go_wp2_with fail
     exact⟨rfl,HP⟩
  ·have hcl:=HQ2.out hsay;have hne:(s.say==2)=false:=by simp[hsay]
   have d4:=HBx.out w3 o13;go_wp2_with fail
   refine (HEn.out w3 s.next _ rv3 p3 hnx (by show s.copies≤1000000;omega) rfl rfl).mono ?_;intro m5 w5 q5
   cases hen:(s.next).enter C.x n with
   | go t5 =>
    rw[hen]at q5;have HP:=HQst.out m5 w5 (by rw[hcl,hen];exact q5);obtain⟨rfl,_⟩:=q5;clear HQst HQ1 HQ2 HSay HEn HCo HBx hen;unfold unitE at HP ⊢;go_wp2_with fail
    first|exact HP|(go_end0;exact HP)
   | fin e5 c5 t5 =>
    rw[hen]at q5;have HP:=HQst.out m5 w5 (by rw[hcl,hen];exact q5);obtain⟨rfl,_⟩:=q5;clear HQst HQ1 HQ2 HSay HEn HCo HBx hen;unfold finP at HP ⊢;go_wp2_with fail
    exact⟨rfl,HP⟩
end Go.Proofs.YtjnpncefkigcbaaGreat
namespace Go.Proofs.YtjnpncefkigcbaaGreat
open Go.RowKit
end Go.Proofs.YtjnpncefkigcbaaGreat
namespace Go.Proofs.YtjnpncefkigcbaaGreat
open Go.RowKit
theorem own_new (w:World) (z:Int):(w.alloc (.cells #[.int .u8 z] 5)).ownsRow w.heap.size 5 1 (.slice (some ⟨w.heap.size,0,none⟩) 1 1) 1 [.int .u8 z] :=
 ⟨rfl,.inr ⟨w.heap.size,1,#[.int .u8 z],rfl,Nat.le_refl _,by show (w.heap.push _)[w.heap.size]?=_;simp,Nat.le_refl _,by unfold maxLen;omega,rfl,rfl⟩⟩
theorem later_ownb {w w':World}{b:Nat}{v:Value}{n:Nat}{xs:List Value}(h:w.ownsRow b 5 1 v n xs) (hb:Later w w'):w'.ownsRow b 5 1 v n xs :=
 h.kept (row:=none) ⟨hb.os,hb.tape,hb.output,hb.size,fun k hk _=>hb.block k hk⟩ (by cases h:v.ownBlock <;> simp)
theorem own_monob {w:World}{b B:Nat}{v:Value}{n:Nat}{xs:List Value}(h:w.ownsRow B 5 1 v n xs) (hb:b≤B):w.ownsRow b 5 1 v n xs:=by
 refine⟨h.1,?_⟩;rcases h.2 with h|⟨g,cap,cur,h1,h2,h3⟩
 ·exact .inl h
 ·exact .inr ⟨g,cap,cur,h1,Nat.le_trans hb h2,h3⟩
theorem own_lt_b {w:World}{base n:Nat}{v:Value}{xs:List Value}(h:w.ownsRow base 5 1 v n xs):∀ g,v.ownBlock=some g→base≤g:=fun g hg=>(h.lt g hg).1
theorem Later.trans' {w w1 w2:World}{v:Value}(h:Later w w1) (g:w1.grownBy w2 v.ownBlock) (hb:∀ g,v.ownBlock=some g→w.heap.size≤g):Later w w2 :=
 Below.grown h g h.size hb
end Go.Proofs.YtjnpncefkigcbaaGreat
namespace Go.Proofs.YtjnpncefkigcbaaGreat
open Go.RowKit Go.Lib
def K8 (A w:World):Prop:=A.heap.size≤w.heap.size∧∀ (k:Nat) (C:Array Value) (t:TypeId) (fz:Nat × Nat),A.heap[k]?=some (.cells C t fz)→t≠5→w.heap[k]?=A.heap[k]?
theorem K8.refl (w:World):K8 w w:=⟨Nat.le_refl _,fun _ _ _ _ _ _=>rfl⟩
theorem K8.trans {a b c:World}(h:K8 a b) (g:K8 b c):K8 a c:=⟨Nat.le_trans h.1 g.1,fun k C t fz hk ht=>by
 have e:=h.2 k C t fz hk ht
 rw[g.2 k C t fz (by rw[e];exact hk) ht,e]⟩
theorem lt_of_some {w:World}{k:Nat}{o:Obj}(h:w.heap[k]?=some o):k<w.heap.size:=by
 rcases Nat.lt_or_ge k w.heap.size with h'|h'
 ·exact h'
 ·rw[Array.getElem?_eq_none h']at h;cases h
theorem Later.k8 {a b:World}(h:Later a b):K8 a b:=⟨h.size,fun k _ _ _ hk _=>h.block k (lt_of_some hk)⟩
theorem K8.grown {w w':World}{base n:Nat}{v:Value}{xs:List Value}(o:w.ownsRow base 5 1 v n xs) (g:w.grownBy w' v.ownBlock):K8 w w':=⟨g.size,fun k C t fz hk ht=>g.block k (lt_of_some hk) (fun e=>by
 rcases o.2 with ⟨rfl,_⟩|⟨b,cap,cur,rfl,_,hb,_⟩
 ·cases e
 ·cases e
  rw[hk]at hb
  cases hb
  exact ht rfl)⟩
structure Bf (A W w:World) (v:Value) (zs:List Int):Prop where
 own:w.ownsRow W.heap.size 5 1 v zs.length (zs.map (Value.int .u8))
 lat:Later W w
 k8:K8 A w
def SayP (A W:World) (zs:List Int) (e:Ending) (w':World):Prop:=∃ v,e=.returned v∧Bf A W w' v zs
theorem Bf.put {A W w w':World}{v v':Value}{zs ts:List Int}{n:Nat}{X:List Value}(h:Bf A W w v zs) (o:w'.ownsRow W.heap.size 5 1 v' (zs.length+n) (zs.map (Value.int .u8)++X)) (hn:n=ts.length) (hX:X=ts.map (Value.int .u8)) (g:w.grownBy w' v.ownBlock):Bf A W w' v' (zs++ts):=by
 subst hn hX;refine⟨by rw[List.length_append,List.map_append];exact o,h.2.trans' g (own_lt_b h.1),h.3.trans (K8.grown h.1 g)⟩
theorem Bf.later {A W w w':World}{v:Value}{zs:List Int}(h:Bf A W w v zs) (hl:Later w w'):Bf A W w' v zs:=⟨later_ownb h.1 hl,h.2.trans hl,h.3.trans hl.k8⟩
theorem Bf.alloc {A W w:World}{v:Value}{zs:List Int}(h:Bf A W w v zs) (b:Obj):Bf A W (w.alloc b) v zs:=h.later (later1 _ _)
theorem Bf.from {A W w:World}{v:Value}{zs:List Int}(h:Bf A W w v zs):Bf w W w v zs:=⟨h.1,h.2,K8.refl _⟩
theorem Bf.back {A B W w:World}{v:Value}{zs:List Int}(h:Bf B W w v zs) (k:K8 A B):Bf A W w v zs:=⟨h.1,h.2,k.trans h.3⟩
theorem Bf.shape {A W w:World}{v:Value}{zs:List Int}(h:Bf A W w v zs):∃ a cap,v=.slice a zs.length cap:=by
 rcases h.1.2 with ⟨rfl,h0⟩|⟨g,cap,_,rfl,_⟩
 ·exact⟨_,_,by rw[h0]⟩
 ·exact⟨_,_,rfl⟩
def twoL (n:Int):List Int:=[n % 256,n / 256]
theorem new_row (w:World) (cs:Array Value) (t:TypeId) {g:Nat}(hg:g=w.heap.size):∀ j x,cs.toList[j]?=some x→(w.alloc (.cells cs t)).cell? ((⟨g,0,none⟩:Addr).add j)=some x:=by
 intro j x h;subst hg;have h':cs[j]?=some x:=by simpa using h
 rw[Addr.add_lit,Nat.zero_add];have e:(w.alloc (.cells cs t)).heap[w.heap.size]?=some (.cells cs t):=(MapKept.heap_alloc w _).1;unfold World.cell?;simp only[e];exact h'
theorem two_any (A W w:World) (v:Value) (zs:List Int) (n:Int) (h:Bf A W w v zs) (hn:0≤n∧n<65536) (hb:zs.length≤1000000000) :
  Calls Tryz.prog 77 #[v,.int .i64 n] w (SayP A W (zs++twoL n)):=by
 obtain⟨a,cap,rfl⟩:=h.shape;obtain⟨i0,hi,hz0,hz1,hz2⟩:=info_parts Tryz.info5;have m1:0≤n % 256∧n % 256<256:=by omega
 have m2:0≤n / 256∧n / 256<256:=by omega
 have hB:=h.alloc (.cells #[.int .u8 (n % 256),.int .u8 (n / 256)] 5);have o1:=hB.1;have hs:=hB.2.size
 have HF:Hid (∀ v' w',Bf A W w' v' (zs++twoL n)→SayP A W (zs++twoL n) (.returned v') w'):=fun v' w' h=>⟨v',rfl,h⟩
 generalize hQ:SayP A W (zs++twoL n)=Q
 rw[hQ]at HF;go_enter Tryz.func77,Tryz.ntmps77;go_wp2_with (at_builtin;refine wpList_append_own_at _ rfl _ _ 93 rfl W.heap.size 5 i0 (.int .u8 0) 1 1 Tryz.underlying93 hi hz0 hz1 hz2 rfl (by decide) (.slice a zs.length cap) _ _ rfl o1 _ 2 2 [.int .u8 (n % 256),.int .u8 (n / 256)] rfl rfl (new_row _ _ _ (by simp)) (by simp[Value.oneCell']) (by unfold maxLen;omega) (by omega) hs ?_;intro v3 w3 o3 g3 _ _)
 exact HF.out _ _ (hB.put o3 rfl rfl g3)
theorem cells2 {wr:World}{g:Nat}{p q:Value}(hc0:wr.cell? ⟨g,0,none⟩=some p) (hc1:wr.cell? ⟨g,1,none⟩=some q) (o:Obj):∀ b,some (⟨g,0,none⟩:Addr)=some b→∀ j u,[p,q][j]?=some u→(wr.alloc o).cell? (b.add j)=some u:=by
 intro b hb j u hj
 cases hb
 match j with
 | 0 =>
  have e:p=u:=by simpa using hj
  rw[Addr.add_lit,← e];exact cell?_alloc_marked o hc0
 | 1 =>
  have e:q=u:=by simpa using hj
  rw[Addr.add_lit,← e];exact cell?_alloc_marked o hc1
 | j+2=>simp at hj
theorem two_new (A W w:World) (g:Nat) (n:Int) (hla:Later W w) (hk8:K8 A w) (hc0:w.cell? ⟨g,0,none⟩=some (.int .u8 71)) (hc1:w.cell? ⟨g,1,none⟩=some (.int .u8 73)) (hn:0≤n∧n<65536) :
  Calls Tryz.prog 77 #[.slice (some ⟨g,0,none⟩) 2 2,.int .i64 n] w (SayP A W ([71,73]++twoL n)):=by
 obtain⟨i0,hi,hz0,hz1,hz2⟩:=info_parts Tryz.info5;have m1:0≤n % 256∧n % 256<256:=by omega
 have m2:0≤n / 256∧n / 256<256:=by omega
 have hs:=hla.size
 have HF:Hid (∀ v' w',Bf A W w' v' ([71,73]++twoL n)→SayP A W ([71,73]++twoL n) (.returned v') w'):=fun v' w' h=>⟨v',rfl,h⟩
 generalize hQ:SayP A W ([71,73]++twoL n)=Q
 rw[hQ]at HF;go_enter Tryz.func77,Tryz.ntmps77;go_wp2_with (at_builtin;refine wpList_append_grows _ rfl _ _ 93 rfl 5 i0 (.int .u8 0) 1 1 Tryz.underlying93 hi hz0 hz1 hz2 rfl (by decide) _ 2 2 [.int .u8 71,.int .u8 73] rfl (fun h=>by cases h) rfl (cells2 hc0 hc1 _) ⟨w.heap.size,0,none⟩ 2 2 [.int .u8 (n % 256),.int .u8 (n / 256)] rfl rfl (new_row _ _ _ (by simp)) (by simp[Value.oneCell']) (by decide) (by decide) (by decide) ?_;intro v3 w3 o3 g3)
 exact HF.out _ _ ⟨own_monob o3 (by simp;omega),(hla.trans (later1 _ _)).trans' (v:=.slice none 0 0) g3 (fun _ h=>by cases h),hk8.trans (((later1 _ _).trans' (v:=.slice none 0 0) g3 (fun _ h=>by cases h)).k8)⟩
theorem one_any (w:World) (b:Bool):Calls Tryz.prog 49 #[.bool b] w fun e w'=>e=.returned (.int .i64 (if b then 1 else 0))∧w'=w:=by
 cases b
 all_goals
  go_enter Tryz.func49,Tryz.ntmps49;go_wp2
  go_ret;exact⟨rfl,rfl⟩
def Bx (A:World) (b:Nat) (cs:List Value):Prop:=∃ t fz,A.heap[b]?=some (.cells cs.toArray t fz)∧t≠5
theorem Bx.new (w:World) (cs:Array Value) (t:TypeId) (ht:t≠5):Bx (w.alloc (.cells cs t)) w.heap.size cs.toList:=⟨t,_,by rw[show (w.alloc (.cells cs t)).heap[w.heap.size]?=some (.cells cs t) from (MapKept.heap_alloc w _).1],ht⟩
theorem Bx.k8 {A w:World}{b:Nat}{cs:List Value}(h:Bx A b cs) (k:K8 A w):Bx w b cs:=by
 obtain⟨t,fz,e,ht⟩:=h;exact⟨t,fz,by rw[k.2 b _ t fz e ht];exact e,ht⟩
theorem Bx.cell {A:World}{b:Nat}{cs:List Value}(h:Bx A b cs) (i:Nat) (v:Value) (hi:cs[i]?=some v):A.cell? ⟨b,i,none⟩=some v:=by
 obtain⟨t,fz,e,_⟩:=h;unfold World.cell?;simp only[e];simpa using hi
theorem Bx.lt {A:World}{b:Nat}{cs:List Value}(h:Bx A b cs):b<A.heap.size:=by
 obtain⟨t,fz,e,_⟩:=h;exact lt_of_some e
end Go.Proofs.YtjnpncefkigcbaaGreat
namespace Go.Proofs.YtjnpncefkigcbaaGreat
open Go.RowKit Go.Lib Go.Maps
theorem Pv.setI {C:Cx}(hC:CxI C) {w:World}{s:Vm}{e:Nat}{cp iv iv' ov rv:Value}(h:Pv C w s e cp iv ov rv) {l:List Int}(hr:RdL C.w0 1 iv' (In.dats l)):Pv C (w.setCell ⟨C.P,0,none⟩ iv') { s with inp:=l } e cp iv' ov rv :=
 ⟨h.lat.setNew hC.p1 _ _,(h.box.set (by decide:0<68) iv').agree (map_ext rfl),hr,h.rp,own_kept h.op (fun b hb=>Below.heap_setCell _ _ _ _ (fun q:b=C.P=>h.on.1 (q ▸ hb))),h.on,h.wd.far hC.d1 _ _,h.pp.far hC.d2 _ _,h.kp.set hC.k1 _ _,h.ok⟩
def ReadQ (C:Cx) (w:World) (s:Vm) (e:Nat) (cp ov rv:Value) (n:Ending) (w':World):Prop:=n=.returned (.int .i64 (s.inp.headD 0))∧∃ iv',Pv C w' { s with inp:=s.inp.tail } e cp iv' ov rv∧OnlyM C w w'
theorem iread_any {C:Cx}(hC:CxI C) {w:World}{s:Vm}{e:Nat}{cp iv ov rv:Value}(h:Pv C w s e cp iv ov rv) :
  Calls Tryz.prog 139 #[.pointer (some ⟨C.P,0,none⟩)] w (ReadQ C w s e cp ov rv):=by
 obtain⟨c0,z0⟩:=h.c0;obtain⟨ra,rc,rfl,hrl⟩:=In.slice h.ip
 cases ho:s.inp with
 | nil =>
  have HZ:ReadQ C w s e cp ov rv (.returned (.int .i64 0)) w:=by
   refine⟨by rw[ho];rfl,.slice ra s.inp.length rc,?_,OnlyM.refl _ _⟩
   have:{ s with inp:=s.inp.tail }=s:=by
    rw[ho];show { s with inp:=[] }=s;rw[←ho]
   rw[this];exact h
  generalize ReadQ C w s e cp ov rv=Q at *
  rw[ho]at c0;clear h;go_enter Tryz.func139,Tryz.ntmps139;go_wp2_with fail
  first|exact HZ|(go_ret;exact HZ)
 | cons z l =>
  have hrp:=h.ip;rw[ho]at hrp c0;have hn:=In.elem hrp 0 (by simp);obtain⟨g,off,rfl,hg,hcz⟩:=hn;obtain⟨hl1,hcap,ht⟩:=In.tail hrp;have d0:=(Below.cell h.lat (p:=⟨g,off+0,none⟩) hg).trans hcz;rw[Nat.add_zero]at d0;have d1:w.cell? ⟨g,off,none⟩=some (.int .i64 z):=d0
  have HZ:Hid (∀ v,v=Value.slice (if rc=1 then some (⟨g,off,none⟩:Addr) else some ⟨g,off+1,none⟩) l.length (rc - 1)→ReadQ C w s e cp ov rv (.returned (.int .i64 z)) (w.setCell ⟨C.P,0,none⟩ v)):=fun v hv=>by
   refine⟨by rw[ho];rfl,v,?_,(OnlyM.refl _ _).setP _ _⟩;have hnx:{ s with inp:=s.inp.tail }={ s with inp:=l }:=by rw[ho];rfl
   rw[hnx];exact h.setI hC (by rw[hv];exact ht)
  generalize ReadQ C w s e cp ov rv=Q at *
  rw[List.length_cons]at c0 hcap;have k1:(1:Int)≤(rc:Int):=by omega
  have k2:(0:Int)<((l.length+1:Nat):Int):=by omega
  have k3:¬ l.length+1=0:=by omega
  have hne:(((l.length+1:Nat):Int)==0)=false:=by simp;omega
  obtain⟨n,hn⟩:∃ n,n=l.length+1:=⟨_,rfl⟩
  have k4:n - 1=l.length:=by omega
  rw[←hn]at c0 k2 hne hcap;have k5:(1:Int)≤(n:Int):=by omega
  clear h hrp ht hcz d0 hn k3;by_cases hrc:rc=1
  ·subst hrc;have HZ1:=HZ.out (.slice (some ⟨g,off,none⟩) l.length 0) (by rw[if_pos rfl]);clear HZ;go_enter Tryz.func139,Tryz.ntmps139;go_wp2_with fail
   first|exact HZ1|(go_ret;exact HZ1)
  ·have HZ1:=HZ.out (.slice (some ⟨g,off+1,none⟩) l.length (rc - 1)) (by rw[if_neg hrc]);clear HZ;go_enter Tryz.func139,Tryz.ntmps139;go_wp2_with fail
   first|exact HZ1|(go_ret;exact HZ1)
theorem row_form {w:World}{base k n:Nat}{t:TypeId}{v:Value}{xs:List Value}(h:w.ownsRow base t k v n xs):∃ a cap,v=.slice a n cap:=by
 rcases h.2 with ⟨rfl,rfl⟩|⟨g,cap,cur,rfl,_⟩
 ·exact⟨_,_,rfl⟩
 ·exact⟨_,_,rfl⟩
theorem items_app (l:List (Int × Int)) (k n:Int):itemsL (l++[(k,n)])=itemsL l++[.int .i64 k,.int .i64 n]:=by
 unfold itemsL;rw[List.flatMap_append];rfl
theorem Pv.grown {C:Cx}(hC:CxI C) {w w9:World}{s:Vm}{e:Nat}{cp iv ov ov' rv:Value}(h:Pv C w s e cp iv ov rv) {k n:Int}(ho:w9.ownsRow C.w0.heap.size 125 2 ov' (s.out.length+1) (itemsL s.out++[.int .i64 k,.int .i64 n])) (hg:w.grownBy w9 ov.ownBlock) (hl:ov'.ownBlock=ov.ownBlock∨ov'.ownBlock=some w.heap.size) :
  Pv C (w9.setCell ⟨C.P,3,none⟩ ov') { s with out:=s.out++[(k,n)] } e cp iv ov' rv:=by
 have hne:∀ b,ov.ownBlock=some b→C.w0.heap.size≤b:=fun b hb=>(h.op.lt b hb).1
 have hn:ov'.ownBlock≠some C.P∧ov'.ownBlock≠some C.WB∧ov'.ownBlock≠some C.PB:=by
  have h1:=h.box.lt;have h2:=h.wd.lt;have h3:=h.pp.lt;rcases hl with q|q
  ·rw[q];exact h.on
  ·rw[q];refine⟨fun z=>?_,fun z=>?_,fun z=>?_⟩ <;> (have:=Option.some.inj z;omega)
 have lat:Later C.w0 w9:=⟨hg.os.trans h.lat.os,hg.tape.trans h.lat.tape,hg.output.trans h.lat.output,Nat.le_trans h.lat.size hg.size,fun b hb=>by rw[hg.block b (Nat.lt_of_lt_of_le hb h.lat.size) (fun q=>by have:=hne b q.symm;omega)];exact h.lat.block b hb⟩
 have bx:=h.box.kept hg.size (hg.block _ h.box.lt (fun q=>h.on.1 q.symm))
 have kp:KP C w9:=fun b hb=>⟨Nat.lt_of_lt_of_le (h.kp b hb).1 hg.size,(hg.block b (h.kp b hb).1 (fun q=>h.ok b q.symm hb)).trans (h.kp b hb).2⟩
 have wd:=h.wd.kept hg.size (hg.block _ h.wd.lt (fun q=>h.on.2.1 q.symm));have pp:=h.pp.kept hg.size (hg.block _ h.pp.lt (fun q=>h.on.2.2 q.symm));refine⟨lat.setNew hC.p1 _ _,(bx.set (by decide:3<68) ov').agree (map_ext rfl),h.ip,h.rp,?_,hn,wd.far hC.d1 _ _,pp.far hC.d2 _ _,kp.set hC.k1 _ _,fun b hb=>?_⟩
 case refine_2 =>
  rcases hl with q|q
  ·exact h.ok b (q ▸ hb)
  ·intro z;have:=(h.kp b z).1;rw[q]at hb;have:=Option.some.inj hb;omega
 show World.ownsRow _ _ _ _ _ (s.out++[(k,n)]).length (itemsL (s.out++[(k,n)]));rw[items_app,List.length_append];exact own_kept ho (fun b hb=>Below.heap_setCell _ _ _ _ (fun q:b=C.P=>hn.1 (q ▸ hb)))
def PutQ (C:Cx) (w:World) (s:Vm) (k z:Int) (e:Nat) (cp iv ov rv:Value) (n:Ending) (w':World):Prop:=n=unitE∧(∃ ov',Pv C w' { s with out:=s.out++[(k,z)] } e cp iv ov' rv)∧∀ b,b<w.heap.size→b≠C.P→ov.ownBlock≠some b→w'.heap[b]?=w.heap[b]?
theorem iput_any {C:Cx}(hC:CxI C) {w:World}{s:Vm}{e:Nat}{cp iv ov rv:Value}(h:Pv C w s e cp iv ov rv) (hs:s.out.length≤1000000) (k n:Int) :
  Calls Tryz.prog 140 #[.pointer (some ⟨C.P,0,none⟩),.int .i64 k,.int .i64 n] w (PutQ C w s k n e cp iv ov rv):=by
 obtain⟨c3,z3⟩:=h.c3;have hlt:=h.box.lt
 have HPU:Hid (∀ v9 w9,w9.ownsRow C.w0.heap.size 125 2 v9 (s.out.length+1) (itemsL s.out++[.int .i64 k,.int .i64 n])→(w.alloc (.cells #[.int .i64 k,.int .i64 n] 125)).grownBy w9 ov.ownBlock→(v9.ownBlock=ov.ownBlock∨v9.ownBlock=some (w.alloc (.cells #[.int .i64 k,.int .i64 n] 125)).heap.size)→PutQ C w s k n e cp iv ov rv (.returned (.tuple #[])) (w9.setCell ⟨C.P,3,none⟩ v9)∧(∃ u,w9.cell? ⟨C.P,3,none⟩=some u)∧w9.frozen? ⟨C.P,3,none⟩=false):=fun v9 w9 o9 g9 h9=>by
  have p:=h.kept (later_a w (.cells #[.int .i64 k,.int .i64 n] 125));have bx:=p.box.kept g9.size (g9.block _ p.box.lt (fun q=>p.on.1 q.symm));exact⟨⟨rfl,⟨v9,p.grown hC o9 g9 h9⟩,fun b hb hbP hbo=>by rw[Below.heap_setCell _ _ _ _ hbP,g9.block b (Nat.lt_of_lt_of_le hb (later_a _ _).size) (fun q=>hbo q.symm)];exact (later_a _ _).block b hb⟩,⟨_,(bx.cell 3 (by decide)).1⟩,(bx.cell 3 (by decide)).2⟩
 have hrow:=h.op;have bA:C.w0.heap.size≤w.heap.size:=h.lat.size
 generalize PutQ C w s k n e cp iv ov rv=Q at *
 obtain⟨i0,hi,hz0,hz1,hz2⟩:=info_parts (P:=Tryz.prog) (e:=125) (z:=.agg #[.int .i64 0,.int .i64 0]) (size:=2) (bytes:=16) (by kernel_rfl);obtain⟨m,hm⟩:=hidx s.out.length;rw[←hm.out]at hrow HPU hs;obtain⟨xs,hx⟩:=hidx (itemsL s.out);rw[←hx.out]at hrow HPU;obtain⟨ra,rc,rfl⟩:=row_form hrow;clear h hm hx;go_enter Tryz.func140,Tryz.ntmps140;go_wp2_with (at_builtin;refine wpList_append_own_at _ rfl _ _ 31 rfl C.w0.heap.size 125 i0 (.agg #[.int .i64 0,.int .i64 0]) 2 16 Tryz.underlying31 hi hz0 hz1 hz2 rfl (by decide) _ _ _ rfl (hrow.alloc _) _ 1 1 [.int .i64 k,.int .i64 n] rfl rfl (new_row _ _ _ (by simp)) (by simp[Value.oneCell']) (by unfold maxLen;omega) (by omega) (Nat.le_trans bA (later_a _ _).size) ?_;intro v9 w9 o9 g9 _ h9;obtain⟨HP,⟨u9,e9⟩,f9⟩:=HPU.out _ _ o9 g9 h9;obtain⟨a9,p9,hv9⟩:=row_form o9;rw[hv9]at HP ⊢;clear o9 g9 h9 HPU)
 go_end0;exact HP
end Go.Proofs.YtjnpncefkigcbaaGreat
