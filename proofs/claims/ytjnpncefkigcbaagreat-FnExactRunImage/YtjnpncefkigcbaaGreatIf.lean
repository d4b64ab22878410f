import Derived.Test.YtjnpncefkigcbaaGreatHr
import Derived.Test.YtjnpncefkigcbaaGreatHf
import Derived.Deep.RegionHeld3
import Derived.Deep.Cut
import Derived.Deep.CutRange
import Derived.Lib.SlBytesConst
set_option maxHeartbeats 100000000
set_option maxRecDepth 100000
namespace Go.Proofs.YtjnpncefkigcbaaGreat
open Go.RowKit Go.Lib
def bitL (b:Bool):Int:=if b then 1 else 0
def bsL (x:Bs):List Int:=twoL x.l.length++x.l.map bitL
def eightL (n:Int):Nat→List Int
 | 0=>[]
 | j+1=>eightL n j++[n % 18446744073709551616 / 2 ^ (8*j) % 256]
def isL (i:Is):List Int:=[i.op,i.a,i.b,i.c]++eightL i.n 8
def insL:List Is→List Int
 | []=>[]
 | i::r=>isL i++insL r
def slotsL:List Int→List Int
 | []=>[]
 | n::r=>twoL n++slotsL r
def maL (m:Ma):List Int:=twoL m.pc++(twoL m.slots.length++slotsL m.slots)
def masL:List Ma→List Int
 | []=>[]
 | i::r=>maL i++masL r
def cdL (c:Cd):List Int:=twoL c.frame++(twoL c.params++(twoL c.ins.length++(twoL c.maps.length++(insL c.ins++masL c.maps))))
def cdsL:List Cd→List Int
 | []=>[]
 | i::r=>cdL i++cdsL r
def bssL:List Bs→List Int
 | []=>[]
 | i::r=>bsL i++bssL r
def imL (x:Im):List Int:=[71,73]++(twoL x.structs.length++(twoL x.codes.length++(twoL x.main++(bssL x.structs++cdsL x.codes))))
theorem twoL_len (n:Int):(twoL n).length=2:=rfl
theorem eightL_len (n:Int):∀ j,(eightL n j).length=j
 | 0=>rfl
 | j+1=>by rw[eightL,List.length_append,eightL_len n j];rfl
theorem isL_len (i:Is):(isL i).length=12:=by unfold isL;rw[List.length_append,eightL_len];rfl
theorem insL_snoc (l:List Is) (i:Is):insL (l++[i])=insL l++isL i:=by
 induction l with
 | nil=>simp[insL]
 | cons x r ih=>rw[List.cons_append,insL,insL,ih,List.append_assoc]
theorem slotsL_snoc (l:List Int) (i:Int):slotsL (l++[i])=slotsL l++twoL i:=by
 induction l with
 | nil=>simp[slotsL]
 | cons x r ih=>rw[List.cons_append,slotsL,slotsL,ih,List.append_assoc]
theorem masL_snoc (l:List Ma) (i:Ma):masL (l++[i])=masL l++maL i:=by
 induction l with
 | nil=>simp[masL]
 | cons x r ih=>rw[List.cons_append,masL,masL,ih,List.append_assoc]
theorem cdsL_snoc (l:List Cd) (i:Cd):cdsL (l++[i])=cdsL l++cdL i:=by
 induction l with
 | nil=>simp[cdsL]
 | cons x r ih=>rw[List.cons_append,cdsL,cdsL,ih,List.append_assoc]
theorem bssL_snoc (l:List Bs) (i:Bs):bssL (l++[i])=bssL l++bsL i:=by
 induction l with
 | nil=>simp[bssL]
 | cons x r ih=>rw[List.cons_append,bssL,bssL,ih,List.append_assoc]
theorem insL_len (l:List Is):(insL l).length=12*l.length:=by
 induction l with
 | nil=>rfl
 | cons x r ih=>rw[insL,List.length_append,ih,isL_len,List.length_cons];omega
theorem slotsL_len (l:List Int):(slotsL l).length=2*l.length:=by
 induction l with
 | nil=>rfl
 | cons x r ih=>rw[slotsL,List.length_append,ih,twoL_len,List.length_cons];omega
theorem maL_len (m:Ma):(maL m).length=4+2*m.sz:=by
 obtain⟨pc,l⟩:=m;unfold maL;rw[List.length_append,List.length_append,twoL_len,twoL_len,slotsL_len];show 2+(2+2*l.length)=4+2*l.length;omega
theorem masL_len (l:List Ma):(masL l).length+2*l.length=4*l.length+2*Ma.szs l:=by
 induction l with
 | nil=>rfl
 | cons x r ih=>rw[masL,List.length_append,maL_len,List.length_cons,Ma.szs];omega
theorem cdL_len (c:Cd):(cdL c).length=cdSz c:=by
 obtain⟨f,p,is,ms⟩:=c;unfold cdL cdSz;have e:=masL_len ms;have e2:=Ma.pre_all ms;simp only[List.length_append,twoL_len,insL_len];show 2+(2+(2+(2+(12*is.length+(masL ms).length))))=8+12*is.length+(4*ms.length+2*Ma.pre ms ms.length)
 omega
theorem cdsL_len (l:List Cd):(cdsL l).length=cdSzs l:=by
 induction l with
 | nil=>rfl
 | cons x r ih=>rw[cdsL,List.length_append,cdL_len,cdSzs,ih]
theorem bssL_len (l:List Bs):(bssL l).length+l.length=2*l.length+Bs.szs l:=by
 induction l with
 | nil=>rfl
 | cons x r ih =>
  obtain⟨b⟩:=x;rw[bssL,List.length_append,List.length_cons,Bs.szs];unfold bsL;rw[List.length_append,List.length_map,twoL_len];show 2+b.length+_+_=_+(1+b.length+_)
  omega
theorem imL_len (x:Im):(imL x).length=imSz x:=by
 unfold imL imSz;have e:=bssL_len x.structs;have e2:=Bs.pre_all x.structs;simp only[List.length_append,twoL_len,cdsL_len];show 2+(2+(2+(2+((bssL x.structs).length+_))))=_;omega
def W2 (n:Int):Prop:=0≤n∧n<65536
def W1 (n:Int):Prop:=0≤n∧n<256
structure Cd.Rg (c:Cd):Prop where
 fr:W2 c.frame
 pr:W2 c.params
 il:W2 c.ins.length
 ml:W2 c.maps.length
 ins:∀ i∈c.ins,W1 i.op∧W1 i.a∧W1 i.b∧W1 i.c∧(-9223372036854775808≤i.n∧i.n≤9223372036854775807)
 maps:∀ m∈c.maps,W2 m.pc∧W2 m.slots.length∧∀ s∈m.slots,W2 s
structure Im.Rg (x:Im):Prop where
 sl:W2 x.structs.length
 cl:W2 x.codes.length
 mn:W2 x.main
 st:∀ s∈x.structs,W2 s.l.length
 cd:∀ c∈x.codes,c.Rg
theorem Bs.szs_take (l:List Bs) (k:Nat):Bs.szs (l.take k)≤Bs.szs l:=by
 have e:Bs.szs l=Bs.szs (l.take k)+Bs.szs (l.drop k):=by rw[←Bs.szs_app,List.take_append_drop]
 omega
theorem bssL_take (l:List Bs) (k:Nat):(bssL (l.take k)).length≤3*Bs.szs l:=by
 have h1:=bssL_len (l.take k);have h2:=Bs.szs_take l k;have h3:=Bs.szs_ge (l.take k);omega
theorem cdsL_take (l:List Cd) (k:Nat):(cdsL (l.take k)).length≤12*Cd.szs l:=by
 rw[cdsL_len];have:=cdSzs_pre l k;have:=cdSzs_le l;omega
def Cvx (t u:TypeId) (o:Operand):Op:=Op.convert t u o
theorem lbytes_any (x:Im) (sv cv:Value) (w:World) (h0:RdL w 1 sv (Bs.dats x.structs)) (h1:RdL w 4 cv (Cd.dats x.codes)) (hR:x.Rg) (hsz:x.sz≤1048576) :
  Calls Tryz.prog 45 #[.agg #[sv,cv,.int .i64 x.main]] w (SayP w w (imL x)):=by
 obtain⟨a,cap,rfl,hl⟩:=Bs.slice h0;obtain⟨a',cap',rfl,hl'⟩:=Cd.slice h1;obtain⟨i0,hi,hz0,hz1,hz2⟩:=info_parts Tryz.info5;rw[Im.sz_eq]at hsz
 have HF:Hid (∀ v' w',Bf w w w' v' (imL x)→SayP w w (imL x) (.returned v') w'):=fun v' w' h=>⟨v',rfl,h⟩
 have HIm:Hid (imL x=((([71,73]++twoL x.structs.length)++twoL x.codes.length)++twoL x.main++bssL x.structs)++cdsL x.codes):=by unfold Hid imL;simp only[List.append_assoc]
 generalize hQ:SayP w w (imL x)=Q at *
 clear hQ;obtain⟨wa,hwa⟩:=hidq (w.alloc (.cells #[.slice a x.structs.length cap,.slice a' x.codes.length cap',.int .i64 x.main] 37));have la:Later w wa:=by rw[hwa.out];exact later1 _ _
 have bA:Bx wa w.heap.size [.slice a x.structs.length cap,.slice a' x.codes.length cap',.int .i64 x.main]:=by rw[hwa.out];exact Bx.new _ _ _ (by decide)
 have HX:Hid (∀ w',K8 wa w'→w'.cell? ⟨w.heap.size,0,none⟩=some (.slice a x.structs.length cap)∧w'.cell? ⟨w.heap.size,1,none⟩=some (.slice a' x.codes.length cap')∧w'.cell? ⟨w.heap.size,2,none⟩=some (.int .i64 x.main)):=fun w' k=>⟨(bA.k8 k).cell 0 _ rfl,(bA.k8 k).cell 1 _ rfl,(bA.k8 k).cell 2 _ rfl⟩
 have HXl:Hid (∀ w',K8 wa w'→w.heap.size<w'.heap.size):=fun w' k=>(bA.k8 k).lt;have H0:Hid (∀ w',Later w w'→RdL w' 1 (.slice a x.structs.length cap) (Bs.dats x.structs)):=fun w' l=>RdL.later l h0;have H1:Hid (∀ w',Later w w'→RdL w' 4 (.slice a' x.codes.length cap') (Cd.dats x.codes)):=fun w' l=>RdL.later l h1;have kc:(convert 93 93 (.slice (some ⟨wa.heap.size,0,none⟩) 2 2)).run Tryz.prog ((wa.alloc (.cells #[.int .u8 71,.int .u8 73] 5)).drew)=.ok (.slice (some ⟨wa.heap.size,0,none⟩) 2 2) ((wa.alloc (.cells #[.int .u8 71,.int .u8 73] 5 (2,3))).drew):=Lib.run_convert_bytes_const (P:=Tryz.prog) wa.drew 93 5 #[.int .u8 71,.int .u8 73] 2 2 Tryz.underlying93 Tryz.underlying5;have L1:Hid (Later wa ((wa.alloc (.cells #[.int .u8 71,.int .u8 73] 5)).drew)):=(later1 _ _).trans (Later.drew _);have L2:Hid (Later wa ((wa.alloc (.cells #[.int .u8 71,.int .u8 73] 5 (2,3))).drew)):=(later1 _ _).trans (Later.drew _)
 have HC:Hid (∀ n,0≤n∧n<65536→Calls Tryz.prog 77 #[.slice (some ⟨wa.heap.size,0,none⟩) 2 2,.int .i64 n] ((wa.alloc (.cells #[.int .u8 71,.int .u8 73] 5 (2,3))).drew) (SayP wa w ([71,73]++twoL n))):=fun n hn=>by
  have c0:(wa.alloc (.cells #[.int .u8 71,.int .u8 73] 5 (2,3))).cell? ⟨wa.heap.size,0,none⟩=some (.int .u8 71):=by
   unfold World.cell?;simp only[show (wa.alloc (.cells #[.int .u8 71,.int .u8 73] 5 (2,3))).heap[(⟨wa.heap.size,0,none⟩:Addr).block]?=some (.cells #[.int .u8 71,.int .u8 73] 5 (2,3)) from (MapKept.heap_alloc wa _).1];rfl
  have c1:(wa.alloc (.cells #[.int .u8 71,.int .u8 73] 5 (2,3))).cell? ⟨wa.heap.size,1,none⟩=some (.int .u8 73):=by
   unfold World.cell?;simp only[show (wa.alloc (.cells #[.int .u8 71,.int .u8 73] 5 (2,3))).heap[(⟨wa.heap.size,1,none⟩:Addr).block]?=some (.cells #[.int .u8 71,.int .u8 73] 5 (2,3)) from (MapKept.heap_alloc wa _).1];rfl
  exact two_new wa w _ wa.heap.size n (la.trans L2.out) L2.out.k8 c0 c1 hn
 have r1:=hR.sl;have r2:=hR.cl;have r3:=hR.mn;clear h0 h1;obtain⟨s0,s1,s2⟩:=HX.out wa (K8.refl _);have sl:=HXl.out wa (K8.refl _);go_enter Tryz.func45,Tryz.ntmps45;go_upto_region 1 with fail
 rw[←hwa.out];have hCv:∀ t u o,Cvx t u o=Op.convert t u o:=fun _ _ _=>rfl;rw[show Op.convert 93 93 (Operand.tmp 13)=Cvx 93 93 (Operand.tmp 13) from rfl]
 go_region_held3 (fun w'=>w'.cell? ⟨w.heap.size,0,none⟩=some (.slice a x.structs.length cap)∧w'.cell? ⟨w.heap.size,1,none⟩=some (.slice a' x.codes.length cap')∧w'.cell? ⟨w.heap.size,2,none⟩=some (.int .i64 x.main)) (first|exact HX.out _ (Later.drew _).k8|exact HX.out _ L1.out.k8|exact HX.out _ L2.out.k8|exact HX.out _ b3.k8|exact HX.out _ b2.k8|exact HX.out _ b1.k8) (first
  | (go_at_call 77;refine (two_any wa w _ _ _ _ b2 r3 (by have:=zl2.out;omega)).mono ?_;rintro e w3 ⟨v3,rfl,b3⟩;obtain⟨Z3,hZ3⟩:=hidq (Z2++twoL x.main);rw[←hZ3.out]at b3;have zl3:Hid (Z3.length=8):=(by unfold Hid;rw[hZ3.out,List.length_append,zl2.out];rfl);obtain⟨a3,c3,rfl⟩:=b3.shape)
  | (go_at_call 77;refine (two_any wa w _ _ _ _ b1 r2 (by have:=zl1.out;omega)).mono ?_;rintro e w2 ⟨v2,rfl,b2⟩;obtain⟨Z2,hZ2⟩:=hidq (Z1++twoL (x.codes.length:Int));rw[←hZ2.out]at b2;have zl2:Hid (Z2.length=6):=(by unfold Hid;rw[hZ2.out,List.length_append,zl1.out];rfl);obtain⟨a2,c2,rfl⟩:=b2.shape)
  | (go_at_call 77;refine (HC.out _ r1).mono ?_;rintro e w1 ⟨v1,rfl,b1⟩;obtain⟨Z1,hZ1⟩:=hidq ([71,73]++twoL (x.structs.length:Int));rw[←hZ1.out]at b1;have zl1:Hid (Z1.length=4):=(by unfold Hid;rw[hZ1.out];rfl);obtain⟨a1,c1,rfl⟩:=b1.shape))
 all_goals
  have HI2:Hid (imL x=(Z3++bssL x.structs)++cdsL x.codes):=by unfold Hid;rw[HIm.out,hZ3.out,hZ2.out,hZ1.out]
  clear b1 b2 hZ1 hZ2 hZ3 zl1 zl2 HIm L1 L2 HC kc hCv s0 s1 s2 hwa bA;go_wp2_with fail
  go_loopw [3,4] (fun b i wr=>∃ (k:Nat),i=.int .i64 (k:Int)∧k≤x.structs.length∧Bf wa w wr b (Z3++bssL (x.structs.take k))) (fun _ i _=>x.structs.length - (intOf i).toNat)
  case atStart=>exact⟨0,rfl,Nat.zero_le _,by simpa[bssL] using b3⟩
  case round =>
   obtain⟨k,rfl,hk,hB⟩:=hrel;obtain⟨t0,t1,t2⟩:=HX.out wr hB.k8;have tl:=HXl.out wr hB.k8;by_cases hlt:k<x.structs.length
   ·obtain⟨g,off,v0,rfl,hg,c0,rd0⟩:=Bs.elem (H0.out wr hB.lat) k hlt;rw[Nat.mul_one]at c0;obtain⟨a0,p0,rfl,hl0⟩:=Bo.slice rd0;have i1:(k:Int)<(x.structs.length:Int):=by omega
    have q0:=hR.st _ (List.getElem_mem hlt);have zb:=bssL_take x.structs k;obtain⟨Z4,hZ4⟩:=hidq (Z3++bssL (x.structs.take k));rw[←hZ4.out]at hB;have zl4:Z4.length≤4000000:=by rw[hZ4.out,List.length_append,zl3.out];omega
    have HN:Hid (Z3++bssL (x.structs.take (k+1))=Z4++bsL x.structs[k]):=by unfold Hid;rw[List.take_succ_eq_append_getElem hlt,bssL_snoc,hZ4.out,List.append_assoc]
    have hx:=two_any wa w wr _ _ (x.structs[k].l.length:Int) hB q0 (by omega);have HRd:Hid (∀ w',Later w w'→RdL w' 1 (.slice (some ⟨g,off,none⟩) x.structs.length cap) (Bs.dats x.structs)):=H0;obtain⟨a4,c4,rfl⟩:=hB.shape;clear hZ4 zb rd0;go_wp2_with fail
    refine hx.mono ?_;rintro e w5 ⟨v5,rfl,b5⟩;obtain⟨Z5,hZ5⟩:=hidq (Z4++twoL (x.structs[k].l.length:Int));rw[←hZ5.out]at b5;have zl5:Z5.length≤4000002:=by rw[hZ5.out,List.length_append,twoL_len];omega
    have HN2:Hid (Z3++bssL (x.structs.take (k+1))=Z5++x.structs[k].l.map bitL):=by unfold Hid;rw[HN.out,hZ5.out];unfold bsL;rw[List.append_assoc]
    obtain⟨a5,c5,rfl⟩:=b5.shape;clear hx hB HN hZ5 c0 t0 t1 t2;go_wp2_with fail
    obtain⟨wo,hwo⟩:=hidq w5;rw[←hwo.out]at b5 ⊢;clear hwo;go_loopw [3,5] (fun b i wr=>∃ (m:Nat),i=.int .i64 (m:Int)∧m≤x.structs[k].l.length∧Bf wa w wr b (Z5++(x.structs[k].l.take m).map bitL)) (fun _ i _=>x.structs[k].l.length - (intOf i).toNat)
    case atStart=>exact⟨0,rfl,Nat.zero_le _,by simpa using b5⟩
    case round =>
     obtain⟨m,rfl,hm,hB⟩:=hrel;obtain⟨t0,t1,t2⟩:=HX.out wr hB.k8;have tl:=HXl.out wr hB.k8;obtain⟨g',off',v0,eg,hg',c0,rd0⟩:=Bs.elem (HRd.out wr hB.lat) k hlt
     cases eg
     rw[Nat.mul_one]at c0;obtain⟨a0',p0',rfl,_⟩:=Bo.slice rd0;by_cases hmt:m<x.structs[k].l.length
     ·obtain⟨g6,off6,rfl,hg6,y0⟩:=Bo.elem rd0 m hmt;have i2:(m:Int)<(x.structs[k].l.length:Int):=by omega
      have HN3:Hid (Z5++(x.structs[k].l.take (m+1)).map bitL=(Z5++(x.structs[k].l.take m).map bitL)++[bitL x.structs[k].l[m]]):=by unfold Hid;rw[List.take_succ_eq_append_getElem hmt,List.map_append,List.append_assoc];rfl
      have zl6:(Z5++(x.structs[k].l.take m).map bitL).length≤5000000:=by rw[List.length_append,List.length_map,List.length_take];have:=q0.2;omega
      obtain⟨Z6,hZ6⟩:=hidq (Z5++(x.structs[k].l.take m).map bitL);rw[←hZ6.out]at hB zl6 HN3;clear hZ6
      obtain⟨bb,hbb⟩:∃ bb:Bool,Hid (x.structs[k].l[m]=bb):=⟨x.structs[k].l[m],show _=_ from rfl⟩
      rw[hbb.out]at y0 HN3;clear hbb rd0;have hB1:=hB.alloc (.cells #[.int .u8 (bitL bb)] 5);have o1:=hB1.1;have hs1:=hB1.2.size;have hbit:IntKind.u8.wrap (if bb then 1 else 0)=bitL bb:=by cases bb <;> rfl
      obtain⟨a6,c6,rfl⟩:=hB.shape;have hone:=one_any wr bb
      cases bb
      all_goals
       go_wp2_with fail
       refine hone.mono ?_;rintro e w7 ⟨rfl,hww⟩;obtain rfl:=hww.symm;clear hone;go_wp2_with (at_builtin;refine wpList_append_own_at _ rfl _ _ 93 rfl w.heap.size 5 i0 (.int .u8 0) 1 1 Tryz.underlying93 hi hz0 hz1 hz2 rfl (by decide) _ _ _ rfl o1 _ 1 1 [.int .u8 _] rfl rfl (new_row _ _ _ (by simp)) (by simp[Value.oneCell']) (by unfold maxLen;omega) (by omega) hs1 ?_;intro v8 w8 o8 g8 _ _)
       first|have b8:=hB1.put (ts:=[bitL false]) o8 rfl rfl g8|have b8:=hB1.put (ts:=[bitL true]) o8 rfl rfl g8
       go_roundw
       case rel=>exact⟨m+1,by go_num,by omega,by rw[HN3.out];exact b8⟩
       case measure=>simp[intOf];omega
     ·have i2:¬ (m:Int)<(x.structs[k].l.length:Int):=by omega
      have i3:decide ((m:Int)<(x.structs[k].l.length:Int))=false:=decide_eq_false i2;have hB':Bf wa w wr u3 (Z3++bssL (x.structs.take (k+1))):=by rw[HN2.out];rw[List.take_of_length_le (by omega)]at hB;exact hB
      clear hB rd0;go_wp2_with fail
      go_roundw
      case rel=>exact⟨k+1,by go_num,by omega,hB'⟩
      case measure=>simp[intOf];omega
   ·have i1:¬ (k:Int)<(x.structs.length:Int):=by omega
    have i2:decide ((k:Int)<(x.structs.length:Int))=false:=decide_eq_false i1;rw[List.take_of_length_le (by omega)]at hB;have zb:=bssL_take x.structs x.structs.length;rw[List.take_length]at zb;obtain⟨Z4,hZ4⟩:=hidq (Z3++bssL x.structs);rw[←hZ4.out]at hB;have zl4:Z4.length≤4000000:=by rw[hZ4.out,List.length_append,zl3.out];omega
    have HI3:Hid (imL x=Z4++cdsL x.codes):=by unfold Hid;rw[HI2.out,hZ4.out]
    clear hZ4 zb b3 HI2 H0 zl3;go_wp2_with fail
    go_loopw [3,6] (fun b i wr=>∃ (k:Nat),i=.int .i64 (k:Int)∧k≤x.codes.length∧Bf wa w wr b (Z4++cdsL (x.codes.take k))) (fun _ i _=>x.codes.length - (intOf i).toNat)
    case atStart=>exact⟨0,rfl,Nat.zero_le _,by simpa[cdsL] using hB⟩
    case round =>
     clear hB t0 t1 t2 tl;obtain⟨k,rfl,hk,hB⟩:=hrel;obtain⟨t0,t1,t2⟩:=HX.out wr hB.k8;have tl:=HXl.out wr hB.k8;by_cases hlt:k<x.codes.length
     ·obtain⟨g,off,v0,v1,rfl,hg,c0,c1,c2,c3,rd0,rd1⟩:=Cd.elem (H1.out w (Later.refl _)) k hlt;obtain⟨ai,ci,rfl,hli⟩:=Is.slice rd0;obtain⟨am,cm,rfl,hlm⟩:=Ma.slice rd1;have i3:(k:Int)<(x.codes.length:Int):=by omega
      have hRc:=hR.cd _ (List.getElem_mem hlt);have zb:=cdsL_take x.codes k
      have zc:cdSz x.codes[k]≤12*Cd.szs x.codes:=by
       have e1:=cdSzs_succ hlt;have e2:=cdSzs_pre x.codes (k+1);have e3:=cdSzs_le x.codes;omega
      have HLn:Hid ((insL x.codes[k].ins).length+(masL x.codes[k].maps).length≤13000000):=by
       unfold Hid;have e:=cdL_len x.codes[k];unfold cdL at e;simp only[List.length_append,twoL_len]at e;omega
      obtain⟨Y0,hY0⟩:=hidq (Z4++cdsL (x.codes.take k));rw[←hY0.out]at hB;have yl0:Hid (Y0.length≤20000000):=by unfold Hid;rw[hY0.out,List.length_append];omega
      have HN:Hid (Z4++cdsL (x.codes.take (k+1))=Y0++cdL x.codes[k]):=by unfold Hid;rw[List.take_succ_eq_append_getElem hlt,cdsL_snoc,hY0.out,List.append_assoc]
      have hcc:=fun o=>(show wr.cell? ⟨g,o,none⟩=w.cell? ⟨g,o,none⟩ from Below.cell hB.lat (p:=⟨g,o,none⟩) hg)
      rw[←hcc]at c0 c1 c2 c3;have hgw:=Nat.lt_of_lt_of_le hg hB.lat.size
      generalize hCe:x.codes[k]=C at *
      have HRi:Hid (∀ w',Later w w'→RdL w' 5 (.slice ai C.ins.length ci) (Is.dats C.ins)):=fun w' l=>RdL.later l rd0;have HRm:Hid (∀ w',Later w w'→RdL w' 2 (.slice am C.maps.length cm) (Ma.dats C.maps)):=fun w' l=>RdL.later l rd1;obtain⟨wc,hwc⟩:=hidq (wr.alloc (.cells #[.int .i64 C.frame,.int .i64 C.params,.slice ai C.ins.length ci,.slice am C.maps.length cm] 61));obtain⟨bc,hbc⟩:=hidq wr.heap.size;have bC:Bx wc bc [.int .i64 C.frame,.int .i64 C.params,.slice ai C.ins.length ci,.slice am C.maps.length cm]:=by rw[hwc.out,hbc.out];exact Bx.new _ _ _ (by decide)
      have hB0:Bf wa w wc u3 Y0:=by rw[hwc.out];exact hB.alloc _
      have kwc:Hid (K8 wa wc):=hB0.k8;have bb0:Bf wc w wc u3 Y0:=hB0.from
      have HXc:Hid (∀ w',K8 wc w'→w'.cell? ⟨bc,0,none⟩=some (.int .i64 C.frame)∧w'.cell? ⟨bc,1,none⟩=some (.int .i64 C.params)∧w'.cell? ⟨bc,2,none⟩=some (.slice ai C.ins.length ci)∧w'.cell? ⟨bc,3,none⟩=some (.slice am C.maps.length cm)):=fun w' q=>⟨(bC.k8 q).cell 0 _ rfl,(bC.k8 q).cell 1 _ rfl,(bC.k8 q).cell 2 _ rfl,(bC.k8 q).cell 3 _ rfl⟩
      have HXcl:Hid (∀ w',K8 wc w'→bc<w'.heap.size):=fun w' q=>(bC.k8 q).lt;obtain⟨f0,f1,f2,f3⟩:=HXc.out wc (K8.refl _);have fl:=HXcl.out wc (K8.refl _);obtain⟨av,cv0,hav⟩:=hB.shape;subst hav;have q1:=hRc.fr;have q2:=hRc.pr;have q3:=hRc.il;have q4:=hRc.ml;clear hY0 zb zc hB hB0 hcc rd0 rd1 bC hCe;go_upto_region 14 with fail
      rw[←hwc.out,← hbc.out];clear c0 c1 c2 c3 t0 t1 t2 hwc hbc
      go_region_held3 (fun w'=>w'.cell? ⟨bc,0,none⟩=some (.int .i64 C.frame)∧w'.cell? ⟨bc,1,none⟩=some (.int .i64 C.params)∧w'.cell? ⟨bc,2,none⟩=some (.slice ai C.ins.length ci)∧w'.cell? ⟨bc,3,none⟩=some (.slice am C.maps.length cm)) (first|exact HXc.out _ (Later.drew _).k8|exact HXc.out _ b4.k8|exact HXc.out _ b3.k8|exact HXc.out _ b2.k8|exact HXc.out _ b1.k8) (first
       | (go_at_call 77;refine (two_any wc w _ _ _ _ b3 q4 (by have:=yl3.out;omega)).mono ?_;rintro e w4 ⟨v4,rfl,b4⟩;obtain⟨Y4,hY4⟩:=hidq (Y3++twoL (C.maps.length:Int));rw[←hY4.out]at b4;have yl4:Hid (Y4.length≤20000008):=(by unfold Hid;rw[hY4.out,List.length_append,twoL_len];have:=yl3.out;omega);obtain⟨a4,c4,rfl⟩:=b4.shape)
       | (go_at_call 77;refine (two_any wc w _ _ _ _ b2 q3 (by have:=yl2.out;omega)).mono ?_;rintro e w3 ⟨v3,rfl,b3⟩;obtain⟨Y3,hY3⟩:=hidq (Y2++twoL (C.ins.length:Int));rw[←hY3.out]at b3;have yl3:Hid (Y3.length≤20000006):=(by unfold Hid;rw[hY3.out,List.length_append,twoL_len];have:=yl2.out;omega);obtain⟨a3,c3,rfl⟩:=b3.shape)
       | (go_at_call 77;refine (two_any wc w _ _ _ _ b1 q2 (by have:=yl1.out;omega)).mono ?_;rintro e w2 ⟨v2,rfl,b2⟩;obtain⟨Y2,hY2⟩:=hidq (Y1++twoL C.params);rw[←hY2.out]at b2;have yl2:Hid (Y2.length≤20000004):=(by unfold Hid;rw[hY2.out,List.length_append,twoL_len];have:=yl1.out;omega);obtain⟨a2,c2,rfl⟩:=b2.shape)
       | (go_at_call 77;refine (two_any wc w _ _ _ _ (bb0.later (Later.drew _)) q1 (by have:=yl0.out;omega)).mono ?_;rintro e w1 ⟨v1,rfl,b1⟩;obtain⟨Y1,hY1⟩:=hidq (Y0++twoL C.frame);rw[←hY1.out]at b1;have yl1:Hid (Y1.length≤20000002):=(by unfold Hid;rw[hY1.out,List.length_append,twoL_len];have:=yl0.out;omega);obtain⟨a1,c1,rfl⟩:=b1.shape))
      all_goals
       have HN2:Hid (Z4++cdsL (x.codes.take (k+1))=(Y4++insL C.ins)++masL C.maps):=by
        unfold Hid;rw[HN.out,hY4.out,hY3.out,hY2.out,hY1.out];unfold cdL;simp only[List.append_assoc]
       clear b1 b2 b3 bb0 hY1 hY2 hY3 hY4 yl0 yl1 yl2 yl3 HN f0 f1 f2 f3 fl q1 q2 q3 q4;go_wp2_with fail
       obtain⟨wo,hwo⟩:=hidq w4;rw[←hwo.out]at b4 ⊢;clear hwo;go_loopw [3,8] (fun b i wr=>∃ (m:Nat),i=.int .i64 (m:Int)∧m≤C.ins.length∧Bf wc w wr b (Y4++insL (C.ins.take m))) (fun _ i _=>C.ins.length - (intOf i).toNat)
       case atStart=>exact⟨0,rfl,Nat.zero_le _,by simpa[insL] using b4⟩
       case round =>
        obtain⟨m,rfl,hm,hB⟩:=hrel;obtain⟨f0,f1,f2,f3⟩:=HXc.out wr hB.k8;have fl:=HXcl.out wr hB.k8;by_cases hmt:m<C.ins.length
        ·obtain⟨g6,off6,rfl,hg6,e0,e1,e2,e3,e4⟩:=Is.elem (HRi.out wr hB.lat) m hmt;have i4:(m:Int)<(C.ins.length:Int):=by omega
         obtain⟨w1o,w1a,w1b,w1c,w1n⟩:=hRc.ins _ (List.getElem_mem hmt)
         have zI:(insL (C.ins.take m)).length≤13000000:=by
          have u1:=insL_len (C.ins.take m);have u2:=insL_len C.ins;have u3:=HLn.out;rw[List.length_take]at u1;omega
         obtain⟨Y5,hY5⟩:=hidq (Y4++insL (C.ins.take m));rw[←hY5.out]at hB;have yl5:Hid (Y5.length≤40000000):=by unfold Hid;rw[hY5.out,List.length_append];have:=yl4.out;omega
         have HN3:Hid (Y4++insL (C.ins.take (m+1))=Y5++isL C.ins[m]):=by unfold Hid;rw[List.take_succ_eq_append_getElem hmt,insL_snoc,hY5.out,List.append_assoc]
         unfold isL at HN3
         generalize C.ins[m].op=z0 at *
         generalize C.ins[m].a=z1 at *
         generalize C.ins[m].b=z2 at *
         generalize C.ins[m].c=z3 at *
         generalize C.ins[m].n=z4 at *
         obtain⟨wn,hwn⟩:=hidq (wr.alloc (.cells #[.int .i64 z0,.int .i64 z1,.int .i64 z2,.int .i64 z3,.int .i64 z4] 97));obtain⟨bn,hbn⟩:=hidq wr.heap.size;have bN:Bx wn bn [.int .i64 z0,.int .i64 z1,.int .i64 z2,.int .i64 z3,.int .i64 z4]:=by rw[hwn.out,hbn.out];exact Bx.new _ _ _ (by decide)
         have hBn:Bf wc w wn u3 Y5:=by rw[hwn.out];exact hB.alloc _
         have kwn:Hid (K8 wc wn):=hBn.k8;have hbf:=hBn.from
         have hB1:=hbf.alloc (.cells #[.int .u8 z0,.int .u8 z1,.int .u8 z2,.int .u8 z3] 5);have o1:=hB1.1;have hs1:=hB1.2.size
         have HXn:Hid (∀ w',K8 wn w'→w'.cell? ⟨bn,4,none⟩=some (.int .i64 z4)∧bn<w'.heap.size):=fun w' q=>⟨(bN.k8 q).cell 4 _ rfl,(bN.k8 q).lt⟩
         have n0:=bN.cell 0 _ rfl;have n1:=bN.cell 1 _ rfl;have n2:=bN.cell 2 _ rfl;have n3:=bN.cell 3 _ rfl;have nl:=bN.lt;have y5:=yl5.out;obtain⟨a6,c6,h6⟩:=hB.shape;subst h6;obtain⟨w1o0,w1o1⟩:=w1o;obtain⟨w1a0,w1a1⟩:=w1a;obtain⟨w1b0,w1b1⟩:=w1b;obtain⟨w1c0,w1c1⟩:=w1c;clear hY5 zI hB hBn hbf bN;go_upto_region 19 with fail
         rw[←hwn.out,← hbn.out];clear hwn hbn e0 e1 e2 e3 e4 f0 f1 f2 f3;go_wp2_with (at_builtin;refine wpList_append_own_at _ rfl _ _ 93 rfl w.heap.size 5 i0 (.int .u8 0) 1 1 Tryz.underlying93 hi hz0 hz1 hz2 rfl (by decide) _ _ _ rfl o1 _ 4 4 [.int .u8 z0,.int .u8 z1,.int .u8 z2,.int .u8 z3] rfl rfl (new_row _ _ _ (by simp)) (by simp[Value.oneCell']) (by unfold maxLen;omega) (by omega) hs1 ?_;intro v8 w8 o8 g8 _ _;have b8:=hB1.put (ts:=[z0,z1,z2,z3]) o8 rfl rfl g8;obtain⟨Y6,hY6⟩:=hidq (Y5++[z0,z1,z2,z3]);rw[←hY6.out]at b8;obtain⟨a8,c8,rfl⟩:=b8.shape)
         obtain⟨u,hu⟩:∃ u:Nat,(z4 % 18446744073709551616).toNat=u:=⟨_,rfl⟩
         have e1:IntKind.u64.wrap z4=(u:Int):=by rw[IntKind.wrap_u64];omega
         have hu64:u<18446744073709551616:=by omega
         have HU:Hid (z4 % 18446744073709551616=(u:Int)):=by unfold Hid;omega
         have y6:Y6.length≤40000004:=by rw[hY6.out,List.length_append];simp;omega
         have HN4:Hid (Y4++insL (C.ins.take (m+1))=Y6++eightL z4 8):=by unfold Hid;rw[HN3.out,hY6.out,List.append_assoc]
         clear hu hY6 HN3 o1 hs1 hB1 o8 g8 n0 n1 n2 n3 nl;obtain⟨wq,hwq⟩:=hidq w8;rw[←hwq.out]at b8 ⊢;clear hwq;go_loopw [3,10] (fun b i wr=>∃ (j:Nat),i=.int .i64 (j:Int)∧j≤8∧Bf wn w wr b (Y6++eightL z4 j)) (fun _ i _=>8 - (intOf i).toNat)
         case atStart=>exact⟨0,rfl,Nat.zero_le _,by simpa[eightL] using b8⟩
         case round =>
          obtain⟨j,rfl,hj,hB⟩:=hrel;obtain⟨nn,nnl⟩:=HXn.out wr hB.k8;by_cases hjt:j<8
          ·have j1:(j:Int)<8:=by omega
           have zl:(Y6++eightL z4 j).length≤40000020:=by rw[List.length_append,eightL_len];omega
           have HN5:Hid (Y6++eightL z4 (j+1)=(Y6++eightL z4 j)++[(u:Int) / 2 ^ (8*j) % 256]):=by unfold Hid;rw[eightL,← List.append_assoc,HU.out]
           obtain⟨Y7,hY7⟩:=hidq (Y6++eightL z4 j);rw[←hY7.out]at hB zl HN5;clear hY7
           obtain⟨V,hV⟩:∃ V:Int,Hid ((u:Int) / 2 ^ (8*j) % 256=V):=⟨_,show _=_ from rfl⟩
           rw[hV.out]at HN5;have hB1:=hB.alloc (.cells #[.int .u8 V] 5);have o1:=hB1.1;have hs1:=hB1.2.size;have hw8:IntKind.u8.wrap ((u:Int) / 2 ^ (8*j))=V:=by rw[←hV.out];exact IntKind.wrap_u8 _
           have b1:-9223372036854775808≤8*(j:Int):=by omega
           have b2:8*(j:Int)≤9223372036854775807:=by omega
           have b3:(0:Int)≤8*(j:Int):=by omega
           have b4:(8*(j:Int)).toNat=8*j:=by omega
           obtain⟨a9,c9,rfl⟩:=hB.shape;clear hV;go_wp2_with (at_builtin;refine wpList_append_own_at _ rfl _ _ 93 rfl w.heap.size 5 i0 (.int .u8 0) 1 1 Tryz.underlying93 hi hz0 hz1 hz2 rfl (by decide) _ _ _ rfl o1 _ 1 1 [.int .u8 V] rfl rfl (new_row _ _ _ (by simp)) (by simp[Value.oneCell']) (by unfold maxLen;omega) (by omega) hs1 ?_;intro v9 w9 o9 g9 _ _)
           have b9:=hB1.put (ts:=[V]) o9 rfl rfl g9;go_roundw
           case rel=>exact⟨j+1,by go_num,by omega,by rw[HN5.out];exact b9⟩
           case measure=>simp[intOf];omega
          ·have j1:¬ (j:Int)<8:=by omega
           have j2:decide ((j:Int)<8)=false:=decide_eq_false j1;have j8:j=8:=by omega
           subst j8;have hB':Bf wc w wr u3 (Y4++insL (C.ins.take (m+1))):=by rw[HN4.out];exact hB.back kwn.out
           clear hB;go_wp2_with fail
           go_roundw
           case rel=>exact⟨m+1,by go_num,by omega,hB'⟩
           case measure=>simp[intOf];omega
        ·have i4:¬ (m:Int)<(C.ins.length:Int):=by omega
         have i5:decide ((m:Int)<(C.ins.length:Int))=false:=decide_eq_false i4;rw[List.take_of_length_le (by omega)]at hB;obtain⟨Y5,hY5⟩:=hidq (Y4++insL C.ins);rw[←hY5.out]at hB;have yl5:Hid (Y5.length≤40000000):=by unfold Hid;rw[hY5.out,List.length_append];have:=yl4.out;have:=HLn.out;omega
         have HN3:Hid (Z4++cdsL (x.codes.take (k+1))=Y5++masL C.maps):=by unfold Hid;rw[HN2.out,hY5.out]
         clear hY5 b4 HN2 HRi;go_wp2_with fail
         obtain⟨wp,hwp⟩:=hidq wr;rw[←hwp.out]at hB ⊢;clear hwp f0 f1 f2 f3 fl;go_loopw [3,11] (fun b i wr=>∃ (m:Nat),i=.int .i64 (m:Int)∧m≤C.maps.length∧Bf wc w wr b (Y5++masL (C.maps.take m))) (fun _ i _=>C.maps.length - (intOf i).toNat)
         case atStart=>exact⟨0,rfl,Nat.zero_le _,by simpa[masL] using hB⟩
         case round =>
          clear hB;obtain⟨m2,rfl,hm2,hB⟩:=hrel;obtain⟨f0,f1,f2,f3⟩:=HXc.out wr hB.k8;have fl:=HXcl.out wr hB.k8;by_cases hmt2:m2<C.maps.length
          ·obtain⟨g7,off7,v7,rfl,hg7,e0,e1,rs⟩:=Ma.elem (HRm.out w (Later.refl _)) m2 hmt2;obtain⟨as7,cs7,rfl,hls⟩:=In.slice rs;have i6:(m2:Int)<(C.maps.length:Int):=by omega
           obtain⟨wpc,wsl,wss⟩:=hRc.maps _ (List.getElem_mem hmt2)
           have zM:(masL (C.maps.take m2)).length+(maL C.maps[m2]).length≤13000000:=by
            have u2:=HLn.out
            have u4:masL C.maps=masL (C.maps.take m2)++(maL C.maps[m2]++masL (C.maps.drop (m2+1))):=by
             have e:=congrArg masL (show C.maps=C.maps.take m2++C.maps.drop m2 from (List.take_append_drop _ _).symm);rw[List.drop_eq_getElem_cons hmt2]at e;rw[e]
             have app:∀ p q:List Ma,masL (p++q)=masL p++masL q:=fun p q=>by
              induction p with
              | nil=>simp[masL]
              | cons y r ih=>rw[List.cons_append,masL,masL,ih,List.append_assoc]
             rw[app,masL]
            have u5:=congrArg List.length u4;simp only[List.length_append]at u5;omega
           obtain⟨Y6,hY6⟩:=hidq (Y5++masL (C.maps.take m2));rw[←hY6.out]at hB;have yl6:Hid (Y6.length+(maL C.maps[m2]).length≤60000000):=by unfold Hid;rw[hY6.out,List.length_append];have:=yl5.out;omega
           have HN4:Hid (Y5++masL (C.maps.take (m2+1))=Y6++maL C.maps[m2]):=by unfold Hid;rw[List.take_succ_eq_append_getElem hmt2,masL_snoc,hY6.out,List.append_assoc]
           have yl7:Hid (Y6.length+4+2*C.maps[m2].slots.length≤60000000):=by
            unfold Hid;have e:=yl6.out;rw[maL_len]at e;have e2:C.maps[m2].sz=C.maps[m2].slots.length:=by obtain⟨pc,l⟩:=C.maps[m2];rfl
            omega
           have HRs:Hid (∀ w',Later w w'→RdL w' 1 (.slice as7 C.maps[m2].slots.length cs7) (In.dats C.maps[m2].slots)):=fun w' l=>RdL.later l rs
           have HSm:Hid (∀ w',Later w w'→K8 wc w'→w'.cell? ⟨bc,3,none⟩=some (.slice (some ⟨g7,off7,none⟩) C.maps.length cm)∧w'.cell? ⟨g7,off7+m2*2,none⟩=some (.int .i64 C.maps[m2].pc)∧w'.cell? ⟨g7,off7+m2*2+1,none⟩=some (.slice as7 C.maps[m2].slots.length cs7)):=fun w' l q=>⟨(HXc.out w' q).2.2.2,by rw[Below.cell l (p:=⟨g7,off7+m2*2,none⟩) hg7];exact e0,by rw[Below.cell l (p:=⟨g7,off7+m2*2+1,none⟩) hg7];exact e1⟩
           have HGl:Hid (∀ w',Later w w'→g7<w'.heap.size):=fun w' l=>Nat.lt_of_lt_of_le hg7 l.size;unfold maL at HN4
           generalize hsl:(C.maps[m2].slots:List Int)=sl at *
           generalize C.maps[m2].pc=zpc at *
           have hW2s:Hid (∀ s∈sl,W2 s):=wss;obtain⟨_,s1,s2⟩:=HSm.out wr hB.lat hB.k8;have s3:=HGl.out wr hB.lat;obtain⟨a6,c6,h6⟩:=hB.shape;subst h6;clear hsl hY6 zM e0 e1 rs yl6 wss f0 f1 f2;go_wp2_with fail
           go_region_held3 (fun w'=>w'.cell? ⟨bc,3,none⟩=some (.slice (some ⟨g7,off7,none⟩) C.maps.length cm)∧w'.cell? ⟨g7,off7+m2*2,none⟩=some (.int .i64 zpc)∧w'.cell? ⟨g7,off7+m2*2+1,none⟩=some (.slice as7 sl.length cs7)) (first|exact HSm.out _ (hB.lat.trans (Later.drew _)) (hB.k8.trans (Later.drew _).k8)|exact HSm.out _ b2.lat b2.k8|exact HSm.out _ b1.lat b1.k8) (first
            | (go_at_call 77;refine (two_any wc w _ _ _ _ b1 wsl (by have:=yl7.out;have:=zl1.out;omega)).mono ?_;rintro e w2 ⟨v2,rfl,b2⟩;obtain⟨X2,hX2⟩:=hidq (X1++twoL (sl.length:Int));rw[←hX2.out]at b2;have zl2:Hid (X2.length=Y6.length+4):=(by unfold Hid;rw[hX2.out,List.length_append,twoL_len,zl1.out]);obtain⟨a2,c2,rfl⟩:=b2.shape)
            | (go_at_call 77;refine (two_any wc w _ _ _ _ (hB.later (Later.drew _)) wpc (by have:=yl7.out;omega)).mono ?_;rintro e w1 ⟨v1,rfl,b1⟩;obtain⟨X1,hX1⟩:=hidq (Y6++twoL zpc);rw[←hX1.out]at b1;have zl1:Hid (X1.length=Y6.length+2):=(by unfold Hid;rw[hX1.out,List.length_append,twoL_len]);obtain⟨a1,c1,rfl⟩:=b1.shape))
           all_goals
            have HN5:Hid (Y5++masL (C.maps.take (m2+1))=X2++slotsL sl):=by unfold Hid;rw[HN4.out,hX2.out,hX1.out];simp only[List.append_assoc]
            clear b1 hB hX1 hX2 zl1 HN4 s1 s2 s3 f3 fl;go_wp2_with fail
            obtain⟨wt,hwt⟩:=hidq w2;rw[←hwt.out]at b2 ⊢;clear hwt;go_loopw [3,12] (fun b i wr=>∃ (j:Nat),i=.int .i64 (j:Int)∧j≤sl.length∧Bf wc w wr b (X2++slotsL (sl.take j))) (fun _ i _=>sl.length - (intOf i).toNat)
            case atStart=>exact⟨0,rfl,Nat.zero_le _,by simpa[slotsL] using b2⟩
            case round =>
             obtain⟨j,rfl,hj,hB⟩:=hrel;obtain⟨s0,s1,s2⟩:=HSm.out wr hB.lat hB.k8;have s3:=HGl.out wr hB.lat;have fl:=HXcl.out wr hB.k8;by_cases hjt:j<sl.length
             ·obtain⟨g9,off9,rfl,hg9,y0⟩:=In.elem (HRs.out wr hB.lat) j hjt;have j1:(j:Int)<(sl.length:Int):=by omega
              have hw2:=hW2s.out _ (List.getElem_mem hjt);have HN6:Hid (X2++slotsL (sl.take (j+1))=(X2++slotsL (sl.take j))++twoL sl[j]):=by unfold Hid;rw[List.take_succ_eq_append_getElem hjt,slotsL_snoc,List.append_assoc]
              have zl:(X2++slotsL (sl.take j)).length≤100000000:=by rw[List.length_append,slotsL_len,List.length_take,zl2.out];have:=yl7.out;omega
              obtain⟨X3,hX3⟩:=hidq (X2++slotsL (sl.take j));rw[←hX3.out]at hB zl HN6;have hx:=two_any wc w wr _ _ sl[j] hB hw2 (by omega)
              obtain⟨yv,hyv⟩:∃ yv:Int,Hid (sl[j]=yv):=⟨sl[j],show _=_ from rfl⟩
              rw[hyv.out]at y0 HN6 hx;obtain⟨a3,c3,rfl⟩:=hB.shape;clear hB hX3 hyv hw2;go_wp2_with fail
              refine hx.mono ?_;rintro e w9 ⟨v9,rfl,b9⟩;have b9':Bf wc w w9 v9 (X2++slotsL (sl.take (j+1))):=by rw[HN6.out];exact b9
              obtain⟨a9,c9,h9⟩:=b9'.shape;obtain⟨N9,hN9⟩:=hidq (X2++slotsL (sl.take (j+1))).length;rw[←hN9.out]at h9;clear hx b9;subst h9;go_wp2_with fail
              go_roundw
              case rel=>exact⟨j+1,by go_num,by omega,b9'⟩
              case measure=>simp[intOf];omega
             ·have j1:¬ (j:Int)<(sl.length:Int):=by omega
              have j2:decide ((j:Int)<(sl.length:Int))=false:=decide_eq_false j1;have hB':Bf wc w wr u3 (Y5++masL (C.maps.take (m2+1))):=by rw[HN5.out];rw[List.take_of_length_le (by omega)]at hB;exact hB
              clear hB;go_wp2_with fail
              go_roundw
              case rel=>exact⟨m2+1,by go_num,by omega,hB'⟩
              case measure=>simp[intOf];omega
          ·have i6:¬ (m2:Int)<(C.maps.length:Int):=by omega
           have i7:decide ((m2:Int)<(C.maps.length:Int))=false:=decide_eq_false i6;have hB':Bf wa w wr u3 (Z4++cdsL (x.codes.take (k+1))):=by rw[HN3.out];rw[List.take_of_length_le (by omega)]at hB;exact hB.back kwc.out
           clear hB;go_wp2_with fail
           go_roundw
           case rel=>exact⟨k+1,by go_num,by omega,hB'⟩
           case measure=>simp[intOf];omega
     ·have i3:¬ (k:Int)<(x.codes.length:Int):=by omega
      have i4:decide ((k:Int)<(x.codes.length:Int))=false:=decide_eq_false i3;rw[List.take_of_length_le (by omega),← HI3.out]at hB;have HZ:=HF.out _ _ (hB.back la.k8);clear hB;go_wp2_with fail
      exact HZ
end Go.Proofs.YtjnpncefkigcbaaGreat
