import Derived.Test.YtgholpilmdebmaaGreatDoorZ25
import Derived.Test.YtgholpilmdebmaaGreatDoorZ28
import Derived.Test.YtgholpilmdebmaaGreatDoorZ19
import Derived.Test.YtgholpilmdebmaaGreatDoorZ08
import Derived.Test.YtgholpilmdebmaaGreatDoorZ15
set_option maxHeartbeats 100000000
set_option maxRecDepth 100000
namespace Go.Proofs.YtgholpilmdebmaaGreatDoor
open Go.RowKit Go.Maps
def SoP (B K:Nat) (a:Option Addr) (len cap:Nat) (w:World) (e:Ending) (w':World):Prop:=∃ v0 v1 x,e=.returned (.agg #[v0,v1])∧SoFine x∧RdL w' 2 v0 (Sc.dats x.structs)∧RdL w' 5 v1 (Fu.dats x.funcs)∧x.text.length≤6000∧(∀ j,isB (x.text.getD j 0))∧At B K a len cap w w'
def TxP (B K:Nat) (a:Option Addr) (len cap:Nat) (w:World) (e:Ending) (w':World):Prop:=∃ w0 base u l,e=.returned u∧Tx B K a len cap w0 base u l w'∧l.length≤12005∧OnlyK K w w0
theorem Tx.zeros {B K:Nat}{a:Option Addr}{len cap:Nat}{w0 w w':World}{base k:Nat}{u u':Value}{l:List Int}(h:Tx B K a len cap w0 base u l w) (o:w'.ownsRow base 5 1 u' (l.length+k) (l.map (Value.int .u8)++List.replicate k (Value.int .u8 0))) (g:w.grownBy w' u.ownBlock):Tx B K a len cap w0 base u' (l++List.replicate k 0) w':=by
 refine h.app (fun j=>?_) (by rw[List.map_replicate,List.length_replicate];exact o) g;rw[List.getD_eq_getElem?_getD,List.getElem?_replicate];split
 ·exact⟨by simp,by simp⟩
 ·exact⟨by simp,by simp⟩
theorem once_here {B K:Nat}{a:Option Addr}{len cap:Nat}{w:World}(h:Cur B K a len cap w) (n:Int) (h0:0<n) (h1:n≤2147483647):Calls Tryz.prog 23 #[.pointer (some ⟨K,0,none⟩),.int .i64 n] w fun e w'=>∃ b:Bool,e=.returned (.bool b)∧At B K a len cap w w':=once_at (At.start h) n h0 h1
theorem text_any {B K:Nat}{a:Option Addr}{len cap:Nat}{w:World}(size:Int) (HS:Calls Tryz.prog 22 #[.pointer (some ⟨K,0,none⟩),.int .i64 size] w (SoP B K a len cap w)):Calls Tryz.prog 9 #[.pointer (some ⟨K,0,none⟩),.int .i64 size] w (TxP B K a len cap w):=by
 obtain⟨i5,hi5,hz0,hz1,hz2⟩:=info_parts Tryz.info5
 have HF:Hid (∀ w0 base u l w',Tx B K a len cap w0 base u l w'→l.length≤12005→OnlyK K w w0→TxP B K a len cap w (.returned u) w'):=fun w0 base u l w' t h o=>⟨w0,base,u,l,rfl,t,h,o⟩
 generalize hQ:TxP B K a len cap w=Q at *
 clear hQ;go_enter Tryz.func9,Tryz.ntmps9;go_wp2_with fail
 refine HS.mono ?_;rintro e w1 ⟨v0,v1,x,rfl,hx,h0,h1,hl,hb,c1⟩;go_wp2_with fail
 refine (print_any x hx w1 w1 v0 v1 (Later.refl _) h0 h1).mono ?_;rintro e w2 ⟨v2,rfl,o2,l2,_⟩
 have T2:Hid (Tx B K a len cap w1 w1.heap.size v2 x.text w2):=⟨(At.start c1.cur).later l2,o2,hb,c1.cur.hK,Nat.le_refl _,l2.size⟩
 have hO:=c1.only;clear h0 h1 c1 o2 l2 hx
 generalize x.text=zs at *
 go_wp2_with fail
 refine (once_here T2.out.cu.cur 3 (by decide) (by decide)).mono ?_;rintro e w3 ⟨b,rfl,h3⟩;have T3:Hid (Tx B K a len cap w1 w1.heap.size v2 zs w3):=T2.out.call h3;clear T2 h3
 cases b with
 | false =>
  go_wp2_with fail
  refine (once_here T3.out.cu.cur 40 (by decide) (by decide)).mono ?_;rintro e w4 ⟨b,rfl,h4⟩;have T4:Hid (Tx B K a len cap w1 w1.heap.size v2 zs w4):=T3.out.call h4;clear T3 h4
  cases b with
  | false =>
   go_wp2_with fail
   exact HF.out _ _ _ _ _ T4.out (by omega) hO
  | true =>
   go_wp2_with (at_builtin;refine zbt rfl _ _ 22 3 rfl _ 5 i5 .i64 .i64 Tryz.underlying22 Tryz.underlying3 hi5 hz0 hz1 hz2 _ _ _ rfl T4.out.row 6000 rfl (by decide) (by omega) T4.out.bs ?_;intro v7 w7 o7 g7;have T7:Hid (Tx B K a len cap w1 w1.heap.size v7 (zs++List.replicate 6000 0) w7):=T4.out.zeros o7 g7)
   exact HF.out _ _ _ _ _ T7.out (by rw[List.length_append,List.length_replicate];omega) hO
 | true =>
  go_wp2_with fail
  refine (spoil_any T3.out.cu.cur v2 zs T3.out.rd (by omega)).mono ?_;rintro e w5 ⟨b5,u5,l5,rfl,t5,hl5⟩;have T5:Hid (Tx B K a len cap w3 b5 u5 l5 w5):=t5;have hO3:=hO.trans T3.out.cu.only;clear T3 t5;go_wp2_with fail
  refine (once_here T5.out.cu.cur 40 (by decide) (by decide)).mono ?_;rintro e w4 ⟨b,rfl,h4⟩;have T4:Hid (Tx B K a len cap w3 b5 u5 l5 w4):=T5.out.call h4;clear T5 h4
  cases b with
  | false =>
   go_wp2_with fail
   exact HF.out _ _ _ _ _ T4.out (by omega) hO3
  | true =>
   go_wp2_with (at_builtin;refine zbt rfl _ _ 22 3 rfl _ 5 i5 .i64 .i64 Tryz.underlying22 Tryz.underlying3 hi5 hz0 hz1 hz2 _ _ _ rfl T4.out.row 6000 rfl (by decide) (by omega) T4.out.bs ?_;intro v7 w7 o7 g7;have T7:Hid (Tx B K a len cap w3 b5 v7 (l5++List.replicate 6000 0) w7):=T4.out.zeros o7 g7)
   exact HF.out _ _ _ _ _ T7.out (by rw[List.length_append,List.length_replicate];omega) hO3
theorem sizeD_any (a:Option Addr) (len cap:Nat) (w:World) (hl:(len:Int)≤9223372036854775807):Calls Tryz.prog 11 #[.slice a len cap,.int .i64 4] w fun e w'=>∃ z:Int,e=.returned (.int .i64 z)∧2≤z∧z≤4∧w'=w:=by
 have hd:Int.tdiv (len:Int) 20=(len:Int) / 20:=Int.tdiv_eq_ediv_of_nonneg (by omega);have h1:(0:Int)≤(len:Int) / 20:=by omega
 have h2:(len:Int) / 20≤922337203685477580:=by omega
 generalize (len:Int) / 20=d at *
 have hw:IntKind.i64.wrap d=d:=by rw[IntKind.wrap_i64];omega
 have hw2:IntKind.i64.wrap (2+d)=2+d:=by rw[IntKind.wrap_i64];omega
 by_cases h4:4<2+d
 ·have h5:(4:Int)<2+d:=h4;go_enter Tryz.func11,Tryz.ntmps11;go_wp2
  go_ret
  first
  | exact⟨_,rfl,by omega,by omega,rfl⟩
  | exact⟨4,rfl,by decide,by decide,rfl⟩
 ·have h5:decide ((4:Int)<2+d)=false:=decide_eq_false h4;go_enter Tryz.func11,Tryz.ntmps11;go_wp2
  go_ret;exact⟨_,rfl,by omega,by omega,rfl⟩
theorem row_under {w:World}{B B' n k:Nat}{e:TypeId}{v:Value}{xs:List Value}(h:w.ownsRow B e k v n xs) (hb:B'≤B):w.ownsRow B' e k v n xs:=by
 refine⟨h.1,?_⟩;rcases h.2 with q|⟨g,cap,cur,e1,h1,h2⟩
 ·exact .inl q
 ·exact .inr ⟨g,cap,cur,e1,Nat.le_trans hb h1,h2⟩
def TextP (w:World) (e:Ending) (w':World):Prop:=∃ u l,e=.returned u∧w'.ownsRow w.heap.size 5 1 u l.length (l.map (Value.int .u8))∧RdB w' u l∧l.length≤12005∧Later w w'
theorem draw_any {a:Option Addr}{len:Nat}(cap:Nat) {w:World}(hb:Bytes w a len) (HS:∀ B K w' z,Cur B K a len cap w'→2≤z→z≤4→Calls Tryz.prog 22 #[.pointer (some ⟨K,0,none⟩),.int .i64 z] w' (SoP B K a len cap w')):Calls Tryz.prog 6 #[.slice a len cap] w (TextP w):=by
 have HN:=new_at cap hb;have hl:=hb.1
 have HF:Hid (∀ u l w',w'.ownsRow w.heap.size 5 1 u l.length (l.map (Value.int .u8))→RdB w' u l→l.length≤12005→Later w w'→TextP w (.returned u) w'):=fun u l w' o r h q=>⟨u,l,rfl,o,r,h,q⟩
 generalize hQ:TextP w=Q at *
 clear hQ hb;go_enter Tryz.func6,Tryz.ntmps6;go_wp2_with fail
 refine HN.mono ?_;rintro e w1 ⟨K,rfl,h1,l1,hK⟩;go_wp2_with fail
 refine (sizeD_any a len cap w1 hl).mono ?_;rintro e w2 ⟨z,rfl,z2,z4,rfl⟩;go_wp2_with fail
 refine (text_any z (HS _ K w2 z h1.cur z2 z4)).mono ?_;rintro e w3 ⟨w0,base,u,l,rfl,t,hl5,ho⟩;have hq:Later w w3:=At.done ⟨t.cu.cur,ho.trans t.cu.only⟩ l1 hK;have hr:=t.rd;have hb0:=t.kb;have hrow:=row_under t.row (show w.heap.size≤base by omega);clear t ho h1 HN;go_wp2_with fail
 exact HF.out _ _ _ hrow hr hl5 hq
end Go.Proofs.YtgholpilmdebmaaGreatDoor
namespace Go.Proofs.YtgholpilmdebmaaGreatDoor.KL
open Go.RowKit
end Go.Proofs.YtgholpilmdebmaaGreatDoor.KL
namespace Go.Proofs.YtgholpilmdebmaaGreatDoor.KL
open Go.RowKit
theorem Tryz.info28:(Tryz.prog.info? 28).map (fun i=>(i.zero,i.size,i.bytes))=some (some (.agg #[.int .i64 0,.int .i64 0,.int .i64 0,.slice none 0 0]),4,48):=by kernel_rfl
theorem new_tok (w:World) (a b c d:Value):∀ j u,[a,b,c,d][j]?=some u→(w.alloc (.cells #[a,b,c,d] 28)).cell? ((⟨w.heap.size,0,none⟩:Addr).add j)=some u:=by
 intro j u h;rw[Addr.add_lit,Nat.zero_add]
 match j with
 | 0=>rw[←h];simp
 | 1=>rw[←h];simp
 | 2=>rw[←h];simp
 | 3=>rw[←h];simp
 | j+4=>simp at h
theorem own_form {w:World}{b n sz:Nat}{t:TypeId}{v:Value}{xs:List Value}(h:w.ownsRow b t sz v n xs):∃ a c,v=.slice a n c:=by
 rcases h.2 with ⟨rfl,h0⟩|⟨g,c,_,rfl,_⟩
 ·exact⟨none,0,by rw[h0]⟩
 ·exact⟨_,_,rfl⟩
end Go.Proofs.YtgholpilmdebmaaGreatDoor.KL
namespace Go.Proofs.YtgholpilmdebmaaGreatDoor
open Go.RowKit Go.Lib
theorem tokL_text {p:List Int}{k n:Int}{t:List Int}(h:tokL p=some (k,n,t)):t=[]∨t=p:=by
 unfold tokL at h;split at h
 ·cases h;exact .inl rfl
 ·split at h
  ·cases h;exact .inl rfl
  ·split at h
   ·cases h;exact .inr rfl
   ·split at h
    ·cases h;exact .inr rfl
    ·cases h
theorem rdb_cut {w:World}{zs:List Int}{g off n cap c:Nat}(h:RdB w (.slice (some ⟨g,off,none⟩) n cap) zs) (i j:Nat) (hij:i≤j) (hj:j≤zs.length):RdB w (.slice (some ⟨g,off+i,none⟩) (j - i) c) (KL.cutL zs i j):=by
 obtain⟨a,c',e,hl,hb,hc⟩:=h
 cases e
 refine⟨_,c,by rw[KL.cutL_len hj],by rw[KL.cutL_len hj];omega,KL.cutL_isB hb hj,fun m hm=>?_⟩;rw[KL.cutL_len hj]at hm;obtain⟨g',off',e',h1,h2⟩:=hc (i+m) (by omega)
 cases e'
 exact⟨g,off+i,rfl,h1,by rw[KL.cutL_get hj hm,Nat.add_assoc];exact h2⟩
theorem ilexO_any (a:Option Addr) (cap:Nat) (zs:List Int) (w:World) (hr:RdB w (.slice a zs.length cap) zs) (hl:zs.length≤1048576) (hcap:zs.length≤cap) (hmx:cap≤maxLen) (hE:LEnv w) (Q:Ending→World→Prop) (HQ2:Hid (∀ tv i ps w',KL.lexL zs=(ps.map (·.1),i)→KL.OutF w.heap.size w' tv ps→ps.length≤6000→Later w w'→Q (.returned (.tuple #[tv,.int .i64 i])) w')) :
  Calls Tryz.prog 5 #[.slice a zs.length cap] w Q:=by
 obtain⟨iT,hiT,hzT0,hzT1,hzT2⟩:=info_parts KL.Tryz.info28;obtain⟨L,hL⟩:=zbi zs.length;rw[←hL.out];by_cases hbig:6000<L
 ·have HA:=HQ2.out (.slice none 0 0) 0 [] w (by unfold KL.lexL;rw[if_pos (by rw[←hL.out];simpa using hbig)];rfl) (KL.OutF.nil _ _) (Nat.zero_le _) (Later.refl _);have hb2:(6000:Int)<(L:Int):=by omega
  clear HQ2 hr hE;go_enter Tryz.func5,Tryz.ntmps5;go_wp2_with fail
  exact HA
 ·have hb2:¬ (6000:Int)<(L:Int):=by omega
  have HD:Hid (KL.lexL zs=KL.lexR zs zs.length 0 []):=by unfold Hid KL.lexL;rw[if_neg (by rw[←hL.out];simpa using hbig)]
  have hr':Hid (RdB w (.slice a zs.length cap) zs):=hr;have hE':Hid (LEnv w):=hE;clear hr hE;go_enter Tryz.func5,Tryz.ntmps5;go_wp2_with fail
  go_loopw [4,5] (fun tv at_ wr=>∃ (k:Nat) (ps:List (KL.Tok × Value)),at_=.int .i64 (k:Int)∧k≤L∧Hid (KL.OutF w.heap.size wr tv ps)∧Hid (KL.SoFar zs k (ps.map (·.1)))∧Later w wr∧ps.length≤k) (fun _ i _=>L - (RowKit.intOf i).toNat)
  case atStart=>exact⟨0,[],rfl,Nat.zero_le _,KL.OutF.nil _ _,KL.SoFar.start zs,Later.refl _,Nat.le_refl _⟩
  case round =>
   obtain⟨k,ps,rfl,hk,hO,hS,lw,hps⟩:=hrel;by_cases hlt:k<L
   ·have hkz:k<zs.length:=by have:=hL.out;omega
    have ik:(k:Int)<(L:Int):=by omega
    obtain⟨aa,cc,ee,hll,hz,hc⟩:=hr'.out.later lw
    cases ee
    obtain⟨g,off,rfl,hg0,c0⟩:=hc k hkz;obtain⟨z,hzz⟩:=zbi (zs.getD k 0);rw[←hzz.out]at c0;rcases (by omega:z=32∨z=10∨(¬ z=32∧¬ z=10)) with hb|hb|⟨hb,hb'⟩
    ·have hS2:Hid (KL.SoFar zs (k+1) (ps.map (·.1))):=by
      have:=hS.out.next hkz (t:=[]) (j:=k+1) (by unfold KL.stepL;rw[if_pos (by rw[←hzz.out,hb];rfl)]) (by omega)
      rw[List.append_nil]at this;exact this
     subst hb;clear hS HQ2 hc hz;go_wp2_with fail
     go_roundw
     case rel=>exact⟨k+1,ps,by go_num,by omega,hO,hS2,lw,by omega⟩
     case measure=>simp[RowKit.intOf];omega
    ·have hS2:Hid (KL.SoFar zs (k+1) (ps.map (·.1))):=by
      have:=hS.out.next hkz (t:=[]) (j:=k+1) (by unfold KL.stepL;rw[if_pos (by rw[←hzz.out,hb];rfl)]) (by omega)
      rw[List.append_nil]at this;exact this
     subst hb;clear hS HQ2 hc hz;go_wp2_with fail
     go_roundw
     case rel=>exact⟨k+1,ps,by go_num,by omega,hO,hS2,lw,by omega⟩
     case measure=>simp[RowKit.intOf];omega
    ·have hstep:Hid (KL.stepL zs k=(tokL (KL.cutL zs k (k+sizeL zs k))).map fun t=>([(t.1,(k:Int),t.2.1,t.2.2)],k+sizeL zs k)):=step_tok hkz (by unfold KL.blankB;rw[←hzz.out];simp[hb,hb']);obtain⟨hs1,hs2⟩:=size_in hkz;have hcl:=(cut_first hkz).1;have hrw:=hr'.out.later lw
     have hRd:RdN wr (.slice (some ⟨g,off+k,none⟩) (L - k) (cap - k)) (zs.drop k):=⟨by have:=hrw.drop (c:=cap - k) k (by omega);rw[←hL.out]at this;exact this,_,_,by rw[List.length_drop,← hL.out],by rw[List.length_drop];omega,by omega⟩
     have hTS:=tsize_any zs k hkz _ wr hRd;obtain⟨P,hP⟩:=zbi (KL.cutL zs k (k+sizeL zs k));obtain⟨s,hs⟩:=zbi (sizeL zs k);have hPb:∀ j,isB ((KL.cutL zs k (k+sizeL zs k)).getD j 0):=KL.cutL_isB hz hs2
     have hcut:Hid (∀ w',Later wr w'→RdB w' (.slice (some ⟨g,off+k,none⟩) (sizeL zs k) (cap - k)) (KL.cutL zs k (k+sizeL zs k))):=fun w' l=>by
      have:=rdb_cut (c:=cap - k) (hrw.later l) k (k+sizeL zs k) (by omega) hs2;rw[show k+sizeL zs k - k=sizeL zs k by omega]at this;exact this
     rw[←hP.out]at hPb hcut hcl hstep;rw[←hs.out]at hcut hcl hs1 hs2 hstep hTS;have hks:(k:Int)+(s:Int)≤(cap:Int):=by omega
     have hb1:(z==32)=false:=beq_eq_false_iff_ne.2 hb;have hb2:(z==10)=false:=beq_eq_false_iff_ne.2 hb';have hPl:P.length≤6000:=by have:=hL.out;omega
     have hsL:k+s≤L:=by rw[hL.out];exact hs2
     have hlts:=hO.out;clear hc hz hRd hrw hr';go_wp2_with fail
     refine hTS.mono ?_;rintro e w1 ⟨rfl,l1⟩;have hcv:=zcb (hcut.out w1 l1);have hT:=tok_any P hPb hPl w1 (hE'.out.later (lw.trans l1));have hO1:Hid (KL.OutF w.heap.size w1 u4 ps):=hO.out.later l1;have lw1:=lw.trans l1
     generalize strOfNums P=SP at *
     have HB:Hid (tokL P=none→∀ w',Later w w'→Q (.returned (.tuple #[.slice none 0 0,.int .i64 (k:Int)])) w'):=fun hno w' l=>HQ2.out _ _ [] w' (by
      rw[HD.out]
      exact hS.out.bad hkz (by rw[hstep.out,hno];rfl)) (KL.OutF.nil _ _) (Nat.zero_le _) l
     clear hTS hcut hO hlts HQ2 HD;go_wp2_with fail
     refine hT.mono ?_;rintro e w2 ⟨tv,b,rfl,l2,hf,ht⟩;clear hT hcv;have lw2:=lw1.trans l2
     cases b with
     | false =>
      obtain⟨hno,rfl⟩:=hf rfl;have HC:Hid (∀ w',Later w w'→Q (.returned (.tuple #[.slice none 0 0,.int .i64 (k:Int)])) w'):=HB.out hno;clear HB hf ht hS hstep hO1;go_wp2_with fail
      exact HC.out _ (lw2.trans (later1 _ _))
     | true =>
      obtain⟨kd,n,t,xv,htok,rfl,htx⟩:=ht rfl;have hO2:Hid (KL.OutF w.heap.size w2 u4 ps):=hO1.out.later l2;have hlts:Hid ((∀ g,u4.ownBlock=some g→g<w1.heap.size)∧∀ p∈ps,0<p.1.2.2.2.length→∀ g,p.2.ownBlock=some g→g<w1.heap.size):=hO1.out.lts;obtain⟨ta,tc,hxv,_⟩:=KL.txt_form htx;obtain⟨T,hTl⟩:=zbi t.length;rw[←hTl.out]at hxv;subst hxv;have htx':Hid _:=htx
      have HS2:Hid (KL.SoFar zs (k+s) ((ps++[((kd,(k:Int),n,t),Value.slice ta T tc)]).map (·.1))):=by
       have:=hS.out.next hkz (t:=[(kd,(k:Int),n,t)]) (j:=k+s) (by rw[hstep.out,htok];rfl) (by omega)
       rw[List.map_append];exact this
      have htb:Hid ((∀ j,isB (t.getD j 0))∧t.length≤6000):=by
       rcases tokL_text htok with rfl|rfl
       ·exact⟨fun j=>⟨by show (0:Int)≤0;decide,by show (0:Int)≤255;decide⟩,by decide⟩
       ·exact⟨hPb,hPl⟩
      have l24:Later w2 ((w2.alloc (.cells #[.int .i64 kd,.int .i64 (k:Int),.int .i64 n,.slice ta T tc] 28)).alloc (.cells #[.int .i64 kd,.int .i64 (k:Int),.int .i64 n,.slice ta T tc] 28)):=(later1 _ _).trans (later1 _ _);have hO4:=hO2.out.later l24;have hr4:=hO4.row;have hO4':Hid _:=hO4;have hs4:w.heap.size≤_:=(lw2.trans l24).size;have lw4:=lw2.trans l24;have htx4:Hid (TxtF w1.heap.size _ (.slice ta T tc) t):=KL.txt_keep htx'.out (fun g _ _ hg=>l24.block g hg);have hsz1:Hid (w.heap.size≤w1.heap.size):=lw1.size;clear HB hf ht htx hO4 hstep hS htok hPb hPl hO1 hO2 l24;go_wp2_with (at_builtin;refine wpList_append_own _ rfl _ _ 24 rfl w.heap.size 28 iT (.agg #[.int .i64 0,.int .i64 0,.int .i64 0,.slice none 0 0]) 4 48 Tryz.underlying24 hiT hzT0 hzT1 hzT2 rfl (by decide) _ _ _ rfl hr4 ⟨w2.heap.size+1,0,none⟩ 1 1 [.int .i64 kd,.int .i64 (k:Int),.int .i64 n,.slice ta T tc] rfl rfl (by simpa using KL.new_tok (w2.alloc (.cells #[.int .i64 kd,.int .i64 (k:Int),.int .i64 n,.slice ta T tc] 28)) (.int .i64 kd) (.int .i64 (k:Int)) (.int .i64 n) (.slice ta T tc)) (by simp[Value.oneCell']) (by unfold maxLen;omega) (by omega) hs4 ?_;intro v7 w7 o7 g7 _;obtain⟨a7,p7,hv7⟩:=KL.own_form o7;rw[hv7])
      have hO7:Hid (KL.OutF w.heap.size w7 v7 (ps++[((kd,(k:Int),n,t),Value.slice ta T tc)])):=KL.OutF.push hO4'.out (kd,(k:Int),n,t) (.slice ta T tc) htx4.out hsz1.out hlts.out.1 hlts.out.2 htb.out.1 htb.out.2 o7 g7;have l7:Later w w7:=Below.grown lw4 (row:=u4.ownBlock) g7 hs4 (fun j hj=>(hr4.lt j hj).1);rw[hv7]at hO7;clear o7 g7 hr4 htx4 hlts hO4' hs4 lw4;go_wp2_with fail
      go_roundw
      case rel=>exact⟨k+s,_,by go_num,hsL,hO7,HS2,l7,by rw[List.length_append];simp;omega⟩
      case measure=>simp[RowKit.intOf];omega
   ·have hk2:k=L:=by omega
    have ik:¬ (k:Int)<(L:Int):=by omega
    have HA:=HQ2.out _ (-1) ps wr (by rw[HD.out];exact hS.out.done (by have:=hL.out;omega)) hO.out (by omega) lw;clear HQ2 hS HD;go_wp2_with fail
    exact HA
end Go.Proofs.YtgholpilmdebmaaGreatDoor
namespace Go.Proofs.YtgholpilmdebmaaGreatDoor
open Go.RowKit Go.Maps
theorem big_any (a:Option Addr) (len cap:Nat) (w:World):Calls Tryz.prog 4 #[.slice a len cap] w fun e w'=>e=.returned (.bool (decide ((60000:Int)<(len:Int))))∧w'=w:=by
 go_enter Tryz.func4,Tryz.ntmps4;go_wp2
 go_ret;exact⟨rfl,rfl⟩
end Go.Proofs.YtgholpilmdebmaaGreatDoor
