import Derived.Test.YtjnpncefkigcbaaGreatHf
set_option maxHeartbeats 100000000
set_option maxRecDepth 100000
namespace Go.Proofs.YtjnpncefkigcbaaGreat
open Go.RowKit
theorem lin_b {n c:Int}{b:Bool}(hb:plB n c=b) (w:World):Calls Tryz.prog 75 #[.int .i64 n,.int .i64 c] w fun e w'=>e=.returned (.bool b)∧w'=w:=by
 subst hb;unfold plB;by_cases h:0≤n
 ·rw[decide_eq_true h];go_enter Tryz.func75,Tryz.ntmps75;go_wp2
  go_ret;exact⟨by simp,rfl⟩
 ·rw[decide_eq_false h];go_enter Tryz.func75,Tryz.ntmps75;go_wp2
  go_ret;exact⟨by simp,rfl⟩
theorem lsafe_b {op:Int}{b:Bool}(hb:hmB op=b) (w:World):Calls Tryz.prog 120 #[.int .i64 op] w fun e w'=>e=.returned (.bool b)∧w'=w:=by
 subst hb;unfold hmB
 cases h0:(op==10) with
 | true =>
  go_enter Tryz.func120,Tryz.ntmps120;go_wp2
  go_ret;exact⟨rfl,rfl⟩
 | false =>
  cases h1:(op==11) with
  | true =>
   go_enter Tryz.func120,Tryz.ntmps120;go_wp2
   go_ret;exact⟨rfl,rfl⟩
  | false =>
   go_enter Tryz.func120,Tryz.ntmps120;go_wp2
   go_ret;exact⟨by simp,rfl⟩
theorem inB_pl (n c:Int):inB n 0 (c - 1)=plB n c:=by
 unfold inB plB
 congr 1
 apply decide_eq_decide.2
 omega
theorem inB_lt (n c:Int):inB n 3 (c - 1)=(decide (3≤n)&&decide (n<c)):=by
 unfold inB
 congr 1
 apply decide_eq_decide.2
 omega
theorem inB_zero (n:Int):inB n 0 0=(n==0):=by
 unfold inB;by_cases h:n=0
 ·subst h;rfl
 ·have:(n==0)=false:=by simpa using h
  rw[this];by_cases h1:0≤n
  ·rw[decide_eq_true h1,decide_eq_false (by omega)];rfl
  ·rw[decide_eq_false h1];rfl
theorem inB_any (n:Int) (h:-9223372036854775808≤n∧n≤9223372036854775807):inB n (-9223372036854775808) 9223372036854775807=true:=inB_iff.2 h
theorem lins_any (sn cn ni:Nat) (sa ca ia:Option Addr) (sc cc ic:Nat) (mv:Value) (main fr pr:Int) (x:Is) (w:World) (hx:-9223372036854775808≤x.n∧x.n≤9223372036854775807) (hmv:∃ a n c,mv=.slice a n c) :
  Calls Tryz.prog 119 #[.agg #[.slice sa sn sc,.slice ca cn cc,.int .i64 main],.agg #[.int .i64 fr,.int .i64 pr,.slice ia ni ic,mv],.agg #[.int .i64 x.op,.int .i64 x.a,.int .i64 x.b,.int .i64 x.c,.int .i64 x.n]] w fun e w'=>e=.returned (.bool (insB sn cn fr ni x))∧Later w w':=by
 obtain⟨op,a,b,c,n⟩:=x;obtain⟨ma,mn,mc,rfl⟩:=hmv;unfold insB;dsimp only at *;rw[show inB op 0 27=plB op 28 from inB_pl op 28]
 cases e0:plB op 28 with
 | false =>
  go_enter Tryz.func119,Tryz.ntmps119;go_wp2_with (go_at_call 75;refine (lin_b (by assumption) _).mono ?_;rintro e w1 ⟨rfl,hww⟩;obtain rfl:=hww.symm)
  go_ret;exact⟨rfl,later3 _ _ _ _⟩
 | true =>
 cases e1:plB a 16 with
 | false =>
  go_enter Tryz.func119,Tryz.ntmps119;go_wp2_with (go_at_call 75;refine (lin_b (by assumption) _).mono ?_;rintro e w1 ⟨rfl,hww⟩;obtain rfl:=hww.symm)
  go_ret;exact⟨rfl,later3 _ _ _ _⟩
 | true =>
 cases e2:plB b 16 with
 | false =>
  go_enter Tryz.func119,Tryz.ntmps119;go_wp2_with (go_at_call 75;refine (lin_b (by assumption) _).mono ?_;rintro e w1 ⟨rfl,hww⟩;obtain rfl:=hww.symm)
  go_ret;exact⟨rfl,later3 _ _ _ _⟩
 | true =>
 cases e3:plB c 16 with
 | false =>
  go_enter Tryz.func119,Tryz.ntmps119;go_wp2_with (go_at_call 75;refine (lin_b (by assumption) _).mono ?_;rintro e w1 ⟨rfl,hww⟩;obtain rfl:=hww.symm)
  go_ret;exact⟨rfl,later3 _ _ _ _⟩
 | true =>
 rw[Bool.true_and,Bool.true_and,Bool.true_and,Bool.true_and];rcases decOp op with (rfl|rfl|rfl|rfl|rfl|rfl|rfl|rfl|rfl|rfl|rfl|rfl|rfl|rfl|rfl)|⟨n0,n2,n3,n4,n5,n10,n11,n16,n17,n21,n24,n22,n23,n26,n27⟩
 ·show Calls _ _ _ _ fun e w'=>e=.returned (.bool (inB n (-9223372036854775808) 9223372036854775807))∧_;rw[inB_any n hx];go_enter Tryz.func119,Tryz.ntmps119;go_wp2_with (go_at_call 75;refine (lin_b (by assumption) _).mono ?_;rintro e w1 ⟨rfl,hww⟩;obtain rfl:=hww.symm)
  go_ret;exact⟨rfl,later3 _ _ _ _⟩
 ·show Calls _ _ _ _ fun e w'=>e=.returned (.bool (inB n 3 (fr - 1)))∧_;rw[inB_lt];by_cases h3:3≤n
  ·rw[decide_eq_true h3];go_enter Tryz.func119,Tryz.ntmps119;go_wp2_with (go_at_call 75;refine (lin_b (by assumption) _).mono ?_;rintro e w1 ⟨rfl,hww⟩;obtain rfl:=hww.symm)
   go_ret;exact⟨by simp,later3 _ _ _ _⟩
  ·rw[decide_eq_false h3];go_enter Tryz.func119,Tryz.ntmps119;go_wp2_with (go_at_call 75;refine (lin_b (by assumption) _).mono ?_;rintro e w1 ⟨rfl,hww⟩;obtain rfl:=hww.symm)
   go_ret;exact⟨by simp,later3 _ _ _ _⟩
 ·show Calls _ _ _ _ fun e w'=>e=.returned (.bool (inB n 3 (fr - 1)))∧_;rw[inB_lt];by_cases h3:3≤n
  ·rw[decide_eq_true h3];go_enter Tryz.func119,Tryz.ntmps119;go_wp2_with (go_at_call 75;refine (lin_b (by assumption) _).mono ?_;rintro e w1 ⟨rfl,hww⟩;obtain rfl:=hww.symm)
   go_ret;exact⟨by simp,later3 _ _ _ _⟩
  ·rw[decide_eq_false h3];go_enter Tryz.func119,Tryz.ntmps119;go_wp2_with (go_at_call 75;refine (lin_b (by assumption) _).mono ?_;rintro e w1 ⟨rfl,hww⟩;obtain rfl:=hww.symm)
   go_ret;exact⟨by simp,later3 _ _ _ _⟩
 ·show Calls _ _ _ _ fun e w'=>e=.returned (.bool (inB n 0 (7 - 1)))∧_;rw[inB_pl]
  generalize hpp:plB n 7=bb
  go_enter Tryz.func119,Tryz.ntmps119;go_wp2_with (go_at_call 75;refine (lin_b (by assumption) _).mono ?_;rintro e w1 ⟨rfl,hww⟩;obtain rfl:=hww.symm)
  go_ret;exact⟨rfl,later3 _ _ _ _⟩
 ·show Calls _ _ _ _ fun e w'=>e=.returned (.bool (inB n 0 (6 - 1)))∧_;rw[inB_pl]
  generalize hpp:plB n 6=bb
  go_enter Tryz.func119,Tryz.ntmps119;go_wp2_with (go_at_call 75;refine (lin_b (by assumption) _).mono ?_;rintro e w1 ⟨rfl,hww⟩;obtain rfl:=hww.symm)
  go_ret;exact⟨rfl,later3 _ _ _ _⟩
 ·show Calls _ _ _ _ fun e w'=>e=.returned (.bool (inB n 0 ((sn:Int) - 1)))∧_;rw[inB_pl]
  generalize hpp:plB n (sn:Int)=bb
  go_enter Tryz.func119,Tryz.ntmps119;go_wp2_with (go_at_call 75;refine (lin_b (by assumption) _).mono ?_;rintro e w1 ⟨rfl,hww⟩;obtain rfl:=hww.symm)
  go_ret;exact⟨rfl,later3 _ _ _ _⟩
 ·show Calls _ _ _ _ fun e w'=>e=.returned (.bool (inB n 0 (3 - 1)))∧_;rw[inB_pl]
  generalize hpp:plB n 3=bb
  go_enter Tryz.func119,Tryz.ntmps119;go_wp2_with (go_at_call 75;refine (lin_b (by assumption) _).mono ?_;rintro e w1 ⟨rfl,hww⟩;obtain rfl:=hww.symm)
  go_ret;exact⟨rfl,later3 _ _ _ _⟩
 ·show Calls _ _ _ _ fun e w'=>e=.returned (.bool (inB n 0 (5 - 1)))∧_;rw[inB_pl]
  generalize hpp:plB n 5=bb
  go_enter Tryz.func119,Tryz.ntmps119;go_wp2_with (go_at_call 75;refine (lin_b (by assumption) _).mono ?_;rintro e w1 ⟨rfl,hww⟩;obtain rfl:=hww.symm)
  go_ret;exact⟨rfl,later3 _ _ _ _⟩
 ·show Calls _ _ _ _ fun e w'=>e=.returned (.bool (inB n 0 (5 - 1)))∧_;rw[inB_pl]
  generalize hpp:plB n 5=bb
  go_enter Tryz.func119,Tryz.ntmps119;go_wp2_with (go_at_call 75;refine (lin_b (by assumption) _).mono ?_;rintro e w1 ⟨rfl,hww⟩;obtain rfl:=hww.symm)
  go_ret;exact⟨rfl,later3 _ _ _ _⟩
 ·show Calls _ _ _ _ fun e w'=>e=.returned (.bool (inB n 0 (2 - 1)))∧_;rw[inB_pl]
  generalize hpp:plB n 2=bb
  go_enter Tryz.func119,Tryz.ntmps119;go_wp2_with (go_at_call 75;refine (lin_b (by assumption) _).mono ?_;rintro e w1 ⟨rfl,hww⟩;obtain rfl:=hww.symm)
  go_ret;exact⟨rfl,later3 _ _ _ _⟩
 ·show Calls _ _ _ _ fun e w'=>e=.returned (.bool (inB n 0 (2 - 1)))∧_;rw[inB_pl]
  generalize hpp:plB n 2=bb
  go_enter Tryz.func119,Tryz.ntmps119;go_wp2_with (go_at_call 75;refine (lin_b (by assumption) _).mono ?_;rintro e w1 ⟨rfl,hww⟩;obtain rfl:=hww.symm)
  go_ret;exact⟨rfl,later3 _ _ _ _⟩
 ·show Calls _ _ _ _ fun e w'=>e=.returned (.bool (inB n 0 (4 - 1)))∧_;rw[inB_pl]
  generalize hpp:plB n 4=bb
  go_enter Tryz.func119,Tryz.ntmps119;go_wp2_with (go_at_call 75;refine (lin_b (by assumption) _).mono ?_;rintro e w1 ⟨rfl,hww⟩;obtain rfl:=hww.symm)
  go_ret;exact⟨rfl,later3 _ _ _ _⟩
 ·show Calls _ _ _ _ fun e w'=>e=.returned (.bool (inB n 0 ((cn:Int) - 1)))∧_;rw[inB_pl]
  generalize hpp:plB n (cn:Int)=bb
  go_enter Tryz.func119,Tryz.ntmps119;go_wp2_with (go_at_call 75;refine (lin_b (by assumption) _).mono ?_;rintro e w1 ⟨rfl,hww⟩;obtain rfl:=hww.symm)
  go_ret;exact⟨rfl,later3 _ _ _ _⟩
 ·show Calls _ _ _ _ fun e w'=>e=.returned (.bool (inB n 0 ((ni:Int) - 1)))∧_;rw[inB_pl]
  generalize hpp:plB n (ni:Int)=bb
  go_enter Tryz.func119,Tryz.ntmps119;go_wp2_with (go_at_call 75;refine (lin_b (by assumption) _).mono ?_;rintro e w1 ⟨rfl,hww⟩;obtain rfl:=hww.symm)
  go_ret;exact⟨rfl,later3 _ _ _ _⟩
 ·show Calls _ _ _ _ fun e w'=>e=.returned (.bool (inB n 0 ((ni:Int) - 1)))∧_;rw[inB_pl]
  generalize hpp:plB n (ni:Int)=bb
  go_enter Tryz.func119,Tryz.ntmps119;go_wp2_with (go_at_call 75;refine (lin_b (by assumption) _).mono ?_;rintro e w1 ⟨rfl,hww⟩;obtain rfl:=hww.symm)
  go_ret;exact⟨rfl,later3 _ _ _ _⟩
 ·have e:bnd sn cn fr ni op=(0,0):=by
   unfold bnd;rw[if_neg n0,if_neg n2,if_neg n3,if_neg n4,if_neg n5,if_neg n10,if_neg n11,if_neg n16,if_neg n17,if_neg n21,if_neg n24,if_neg n22,if_neg n23,if_neg n26,if_neg n27]
  rw[e];show Calls _ _ _ _ fun e w'=>e=.returned (.bool (inB n 0 0))∧_;rw[inB_zero];have m0:(op==0)=false:=by simpa using n0
  have m2:(op==2)=false:=by simpa using n2
  have m3:(op==3)=false:=by simpa using n3
  have m4:(op==4)=false:=by simpa using n4
  have m5:(op==5)=false:=by simpa using n5
  have m10:(op==10)=false:=by simpa using n10
  have m11:(op==11)=false:=by simpa using n11
  have m16:(op==16)=false:=by simpa using n16
  have m17:(op==17)=false:=by simpa using n17
  have m21:(op==21)=false:=by simpa using n21
  have m24:(op==24)=false:=by simpa using n24
  have m22:(op==22)=false:=by simpa using n22
  have m23:(op==23)=false:=by simpa using n23
  have m26:(op==26)=false:=by simpa using n26
  have m27:(op==27)=false:=by simpa using n27
  go_enter Tryz.func119,Tryz.ntmps119;go_wp2_with (go_at_call 75;refine (lin_b (by assumption) _).mono ?_;rintro e w1 ⟨rfl,hww⟩;obtain rfl:=hww.symm)
  go_ret;exact⟨by first|rfl|simp,later3 _ _ _ _⟩
def cbB (ns nc fr ni:Int):Nat→List Is→List Ma→Bool
 | _,[],ms=>(ms.length:Int)==0
 | pc,i::r,ms=>insB ns nc fr ni i&&(if hmB i.op then (match ms with|[]=>false|m::t=>(m.pc==(pc:Int))&&(slB fr 3 m.slots&&cbB ns nc fr ni (pc+1) r t)) else cbB ns nc fr ni (pc+1) r ms)
theorem and4 (a b c d e:Bool):(a&&(b&&(c&&(d&&e))))=((a&&d)&&(b&&(c&&e))):=by cases a <;> cases b <;> cases c <;> cases d <;> rfl
theorem cbB_eq (ns nc fr ni:Int):∀ (is:List Is) (pc:Nat) (ms:List Ma),cbB ns nc fr ni pc is ms=(is.all (insB ns nc fr ni)&&mpB fr pc is ms)
 | [],pc,ms=>by cases ms <;> simp[cbB,mpB]
 | i::r,pc,ms=>by
  cases h:hmB i.op with
  | false =>
   rw[mpB_skip h,List.all_cons];have:cbB ns nc fr ni pc (i::r) ms=(insB ns nc fr ni i&&cbB ns nc fr ni (pc+1) r ms):=by cases ms <;> simp[cbB,h]
   rw[this,cbB_eq ns nc fr ni r (pc+1) ms,Bool.and_assoc]
  | true =>
   cases ms with
   | nil =>
    rw[mpB_none h,Bool.and_false];simp[cbB,h]
   | cons m t =>
    rw[mpB_some h,List.all_cons];have:cbB ns nc fr ni pc (i::r) (m::t)=(insB ns nc fr ni i&&((m.pc==(pc:Int))&&(slB fr 3 m.slots&&cbB ns nc fr ni (pc+1) r t))):=by simp[cbB,h]
    rw[this,cbB_eq ns nc fr ni r (pc+1) t,and4]
theorem cbB_ins {ns nc fr ni:Int}{pc:Nat}{i:Is}{r:List Is}{ms:List Ma}(h:insB ns nc fr ni i=false):cbB ns nc fr ni pc (i::r) ms=false:=by cases ms <;> simp[cbB,h]
theorem cbB_skip {ns nc fr ni:Int}{pc:Nat}{i:Is}{r:List Is}{ms:List Ma}(h0:insB ns nc fr ni i=true) (h:hmB i.op=false):cbB ns nc fr ni pc (i::r) ms=cbB ns nc fr ni (pc+1) r ms:=by cases ms <;> simp[cbB,h,h0]
theorem cbB_none {ns nc fr ni:Int}{pc:Nat}{i:Is}{r:List Is}(h:hmB i.op=true):cbB ns nc fr ni pc (i::r) []=false:=by simp[cbB,h]
theorem cbB_some {ns nc fr ni:Int}{pc:Nat}{i:Is}{r:List Is}{m:Ma}{t:List Ma}(h0:insB ns nc fr ni i=true) (h:hmB i.op=true):cbB ns nc fr ni pc (i::r) (m::t)=((m.pc==(pc:Int))&&(slB fr 3 m.slots&&cbB ns nc fr ni (pc+1) r t)):=by simp[cbB,h,h0]
def Is.Ok (x:Is):Prop:=-9223372036854775808≤x.n∧x.n≤9223372036854775807
theorem lcode_b (sn cn:Nat) (sa ca:Option Addr) (sc cc:Nat) (main:Int) (x:Cd) (iv mv:Value) (w:World) (h0:RdL w 5 iv (Is.dats x.ins)) (h1:RdL w 2 mv (Ma.dats x.maps)) (hok:∀ y∈x.ins,y.Ok) {b:Bool}(hb:cdB sn cn x=b) :
  Calls Tryz.prog 76 #[.agg #[.slice sa sn sc,.slice ca cn cc,.int .i64 main],.agg #[.int .i64 x.frame,.int .i64 x.params,iv,mv]] w fun e w'=>e=.returned (.bool b)∧Later w w':=by
 obtain⟨a,cap,rfl,hl⟩:=Is.slice h0;obtain⟨a',cap',rfl,hl'⟩:=Ma.slice h1;unfold cdB at hb;rw[show inB x.params 0 4=plB x.params 5 from inB_pl _ 5]at hb;have L2:=later2 w (.cells #[.slice sa sn sc,.slice ca cn cc,.int .i64 main] 37) (.cells #[.int .i64 x.frame,.int .i64 x.params,.slice a x.ins.length cap,.slice a' x.maps.length cap'] 61)
 cases e0:plB x.params 5 with
 | false =>
  rw[e0,Bool.false_and]at hb;subst hb;clear h0 h1 hok
  generalize x.params=zp at *
  go_enter Tryz.func76,Tryz.ntmps76;go_wp2_with (go_at_call 75;refine (lin_b (by assumption) _).mono ?_;rintro e w1 ⟨rfl,hww⟩;obtain rfl:=hww.symm)
  go_ret;exact⟨rfl,L2⟩
 | true =>
 rw[e0,Bool.true_and]at hb
 have q0:0≤x.params∧x.params<5:=by
  unfold plB at e0;rw[Bool.and_eq_true,decide_eq_true_eq,decide_eq_true_eq]at e0;exact e0
 have r1:-9223372036854775808≤3+x.params:=by omega
 have r2:3+x.params≤9223372036854775807:=by omega
 by_cases f1:x.frame<3+x.params
 ·have e1:inB x.frame (3+x.params) 1000=false:=by rw[←Bool.not_eq_true,inB_iff];omega
  rw[e1,Bool.false_and]at hb;subst hb;clear h0 h1 hok
  generalize x.params=zp at *
  generalize x.frame=zf at *
  go_enter Tryz.func76,Tryz.ntmps76;go_wp2_with (go_at_call 75;refine (lin_b (by assumption) _).mono ?_;rintro e w1 ⟨rfl,hww⟩;obtain rfl:=hww.symm)
  go_ret;exact⟨rfl,L2⟩
 by_cases f2:1000<x.frame
 ·have e1:inB x.frame (3+x.params) 1000=false:=by rw[←Bool.not_eq_true,inB_iff];omega
  rw[e1,Bool.false_and]at hb;subst hb;clear h0 h1 hok
  generalize x.params=zp at *
  generalize x.frame=zf at *
  go_enter Tryz.func76,Tryz.ntmps76;go_wp2_with (go_at_call 75;refine (lin_b (by assumption) _).mono ?_;rintro e w1 ⟨rfl,hww⟩;obtain rfl:=hww.symm)
  go_ret;exact⟨rfl,L2⟩
 have e1:inB x.frame (3+x.params) 1000=true:=inB_iff.2 (by omega);rw[e1,Bool.true_and]at hb;by_cases f3:(x.ins.length:Int)<1
 ·have e2:inB (x.ins.length:Int) 1 6000=false:=by rw[←Bool.not_eq_true,inB_iff];omega
  rw[e2,Bool.false_and]at hb;subst hb;clear h0 h1 hok
  generalize x.params=zp at *
  generalize x.frame=zf at *
  go_enter Tryz.func76,Tryz.ntmps76;go_wp2_with (go_at_call 75;refine (lin_b (by assumption) _).mono ?_;rintro e w1 ⟨rfl,hww⟩;obtain rfl:=hww.symm)
  go_ret;exact⟨rfl,L2⟩
 by_cases f4:(6000:Int)<(x.ins.length:Int)
 ·have e2:inB (x.ins.length:Int) 1 6000=false:=by rw[←Bool.not_eq_true,inB_iff];omega
  rw[e2,Bool.false_and]at hb;subst hb;clear h0 h1 hok
  generalize x.params=zp at *
  generalize x.frame=zf at *
  go_enter Tryz.func76,Tryz.ntmps76;go_wp2_with (go_at_call 75;refine (lin_b (by assumption) _).mono ?_;rintro e w1 ⟨rfl,hww⟩;obtain rfl:=hww.symm)
  go_ret;exact⟨rfl,L2⟩
 have e2:inB (x.ins.length:Int) 1 6000=true:=inB_iff.2 (by omega);rw[e2,Bool.true_and,← cbB_eq]at hb;have hfr:0≤x.frame∧x.frame≤1000:=by omega
 obtain⟨wb,hwb⟩:=hidq ((w.alloc (.cells #[.slice sa sn sc,.slice ca cn cc,.int .i64 main] 37)).alloc (.cells #[.int .i64 x.frame,.int .i64 x.params,.slice a x.ins.length cap,.slice a' x.maps.length cap'] 61));have lb:Later w wb:=by rw[hwb.out];exact L2
 have hbs:w.heap.size+1<wb.heap.size:=by rw[hwb.out];simp
 have HX:Hid (∀ w',Later wb w'→w'.cell? ⟨w.heap.size,0,none⟩=some (.slice sa sn sc)∧w'.cell? ⟨w.heap.size,1,none⟩=some (.slice ca cn cc)∧w'.cell? ⟨w.heap.size,2,none⟩=some (.int .i64 main)∧w'.cell? ⟨w.heap.size+1,0,none⟩=some (.int .i64 x.frame)∧w'.cell? ⟨w.heap.size+1,1,none⟩=some (.int .i64 x.params)∧w'.cell? ⟨w.heap.size+1,2,none⟩=some (.slice a x.ins.length cap)∧w'.cell? ⟨w.heap.size+1,3,none⟩=some (.slice a' x.maps.length cap')):=fun w' l=>by
  have hC:=fun o=>Below.cell l (p:=⟨w.heap.size,o,none⟩) (by show w.heap.size<wb.heap.size;omega);have hD:=fun o=>Below.cell l (p:=⟨w.heap.size+1,o,none⟩) hbs;refine⟨?_,?_,?_,?_,?_,?_,?_⟩
  ·rw[hC,hwb.out];simp
  ·rw[hC,hwb.out];simp
  ·rw[hC,hwb.out];simp
  ·rw[hD,hwb.out];simp
  ·rw[hD,hwb.out];simp
  ·rw[hD,hwb.out];simp
  ·rw[hD,hwb.out];simp
 have H0:Hid (∀ w',Later wb w'→RdL w' 5 (.slice a x.ins.length cap) (Is.dats x.ins)):=fun w' l=>RdL.later (lb.trans l) h0;have H1:Hid (∀ w',Later wb w'→RdL w' 2 (.slice a' x.maps.length cap') (Ma.dats x.maps)):=fun w' l=>RdL.later (lb.trans l) h1;have HB:Hid (cbB sn cn x.frame (x.ins.length:Int) 0 x.ins x.maps=b):=hb;have HOk:Hid (∀ y∈x.ins,y.Ok):=hok;have d1:decide (x.frame<3+x.params)=false:=decide_eq_false f1;have d2:decide (1000<x.frame)=false:=decide_eq_false f2;have d3:decide ((x.ins.length:Int)<1)=false:=decide_eq_false f3;have d4:decide ((6000:Int)<(x.ins.length:Int))=false:=decide_eq_false f4;clear h0 h1 hb hok L2;go_enter Tryz.func76,Tryz.ntmps76;go_wp2_with (go_at_call 75;refine (lin_b (by assumption) _).mono ?_;rintro e w1 ⟨rfl,hww⟩;obtain rfl:=hww.symm)
 rw[←hwb.out];clear hwb;go_loopw [5,6] (fun q i wr=>∃ (k m:Nat),q=.int .i64 (m:Int)∧i=.int .i64 (k:Int)∧k≤x.ins.length∧m≤x.maps.length∧Later wb wr∧cbB sn cn x.frame (x.ins.length:Int) k (x.ins.drop k) (x.maps.drop m)=b) (fun _ i _=>x.ins.length - (intOf i).toNat)
 case atStart=>exact⟨0,0,rfl,rfl,Nat.zero_le _,Nat.zero_le _,Later.refl _,HB.out⟩
 case round =>
  obtain⟨k,m,rfl,rfl,hk,hm,lr,hS⟩:=hrel;obtain⟨t0,t1,t2,t3,t4,t5,t6⟩:=HX.out wr lr;have hws:w.heap.size+1<wr.heap.size:=Nat.lt_of_lt_of_le hbs lr.size;have hws0:w.heap.size<wr.heap.size:=by omega
  by_cases hlt:k<x.ins.length
  ·obtain⟨g,off,rfl,hg,c0,c1,c2,c3,c4⟩:=Is.elem (H0.out wr lr) k hlt;have i1:(k:Int)<(x.ins.length:Int):=by omega
   rw[List.drop_eq_getElem_cons hlt]at hS;have hx:=fun w'=>lins_any sn cn x.ins.length sa ca (some ⟨g,off,none⟩) sc cc cap (.slice a' x.maps.length cap') main x.frame x.params x.ins[k] w' (HOk.out _ (List.getElem_mem hlt)) ⟨_,_,_,rfl⟩
   have HS0:Hid (∀ w',Later wr w'→w'.cell? ⟨g,off+k*5,none⟩=some (.int .i64 x.ins[k].op)∧w'.cell? ⟨g,off+k*5+1,none⟩=some (.int .i64 x.ins[k].a)∧w'.cell? ⟨g,off+k*5+2,none⟩=some (.int .i64 x.ins[k].b)∧w'.cell? ⟨g,off+k*5+3,none⟩=some (.int .i64 x.ins[k].c)∧w'.cell? ⟨g,off+k*5+4,none⟩=some (.int .i64 x.ins[k].n)):=fun w' l=>by
    have hC:=fun o=>Below.cell l (p:=⟨g,o,none⟩) hg;rw[hC,hC,hC,hC,hC];exact⟨c0,c1,c2,c3,c4⟩
   have HBB:Hid (∀ bb,insB sn cn x.frame (x.ins.length:Int) x.ins[k]=bb→(bb=false→b=false)∧(bb=true→∀ hb:Bool,hmB x.ins[k].op=hb→(hb=false→cbB sn cn x.frame (x.ins.length:Int) (k+1) (x.ins.drop (k+1)) (x.maps.drop m)=b)∧(hb=true→¬ m<x.maps.length→b=false)∧(hb=true→∀ hm:m<x.maps.length,((x.maps[m].pc==(k:Int))&&(slB x.frame 3 x.maps[m].slots&&cbB sn cn x.frame (x.ins.length:Int) (k+1) (x.ins.drop (k+1)) (x.maps.drop (m+1))))=b))):=fun bb hbb=>by
    refine⟨fun e=>?_,fun e hh hhe=>⟨fun e2=>?_,fun e2 hm=>?_,fun e2 hm=>?_⟩⟩
    ·rw[←hS,cbB_ins (by rw[hbb,e])]
    ·rw[←hS,cbB_skip (by rw[hbb,e]) (by rw[hhe,e2])]
    ·have z:x.maps.drop m=[]:=List.drop_eq_nil_of_le (by omega);rw[←hS,z,cbB_none (by rw[hhe,e2])]
    ·rw[←hS,List.drop_eq_getElem_cons hm,cbB_some (by rw[hbb,e]) (by rw[hhe,e2])]
   clear hS
   generalize hii:insB sn cn x.frame (x.ins.length:Int) x.ins[k]=bb at *
   have HB2:=HBB.out bb rfl;have HB3:Hid _:=HB2;clear HBB HB2 hii
   have HS:Hid (∀ w',Later wr w'→w'.cell? ⟨w.heap.size,0,none⟩=some (.slice sa sn sc)∧w'.cell? ⟨w.heap.size,1,none⟩=some (.slice ca cn cc)∧w'.cell? ⟨w.heap.size,2,none⟩=some (.int .i64 main)∧w'.cell? ⟨w.heap.size+1,0,none⟩=some (.int .i64 x.frame)∧w'.cell? ⟨w.heap.size+1,1,none⟩=some (.int .i64 x.params)∧w'.cell? ⟨w.heap.size+1,2,none⟩=some (.slice (some ⟨g,off,none⟩) x.ins.length cap)∧w'.cell? ⟨w.heap.size+1,3,none⟩=some (.slice a' x.maps.length cap')∧w'.cell? ⟨g,off+k*5,none⟩=some (.int .i64 x.ins[k].op)∧w'.cell? ⟨g,off+k*5+1,none⟩=some (.int .i64 x.ins[k].a)∧w'.cell? ⟨g,off+k*5+2,none⟩=some (.int .i64 x.ins[k].b)∧w'.cell? ⟨g,off+k*5+3,none⟩=some (.int .i64 x.ins[k].c)∧w'.cell? ⟨g,off+k*5+4,none⟩=some (.int .i64 x.ins[k].n)):=fun w' l=>by
    obtain⟨p0,p1,p2,p3,p4,p5,p6⟩:=HX.out w' (lr.trans l);obtain⟨o0,o1,o2,o3,o4⟩:=HS0.out w' l;exact⟨p0,p1,p2,p3,p4,p5,p6,o0,o1,o2,o3,o4⟩
   clear HS0;go_wp2_with fail
   go_region_held3 (fun w'=>w'.cell? ⟨w.heap.size,0,none⟩=some (.slice sa sn sc)∧w'.cell? ⟨w.heap.size,1,none⟩=some (.slice ca cn cc)∧w'.cell? ⟨w.heap.size,2,none⟩=some (.int .i64 main)∧w'.cell? ⟨w.heap.size+1,0,none⟩=some (.int .i64 x.frame)∧w'.cell? ⟨w.heap.size+1,1,none⟩=some (.int .i64 x.params)∧w'.cell? ⟨w.heap.size+1,2,none⟩=some (.slice (some ⟨g,off,none⟩) x.ins.length cap)∧w'.cell? ⟨w.heap.size+1,3,none⟩=some (.slice a' x.maps.length cap')∧w'.cell? ⟨g,off+k*5,none⟩=some (.int .i64 x.ins[k].op)∧w'.cell? ⟨g,off+k*5+1,none⟩=some (.int .i64 x.ins[k].a)∧w'.cell? ⟨g,off+k*5+2,none⟩=some (.int .i64 x.ins[k].b)∧w'.cell? ⟨g,off+k*5+3,none⟩=some (.int .i64 x.ins[k].c)∧w'.cell? ⟨g,off+k*5+4,none⟩=some (.int .i64 x.ins[k].n)) (first|exact HS.out _ (Later.drew _)|exact HS.out _ ((Later.drew _).trans l1)) ((go_at_call 119;refine (hx _).mono ?_;rintro e w1 ⟨rfl,l1⟩))
   all_goals
    have L1:=(Later.drew _).trans l1;obtain⟨p0,p1,p2,p3,p4,p5,p6,o0,o1,o2,o3,o4⟩:=HS.out w1 L1;have hgw:=Nat.lt_of_lt_of_le hg L1.size;have hws1:w.heap.size+1<w1.heap.size:=Nat.lt_of_lt_of_le hws L1.size;have Lw1:=lr.trans L1;clear hx c0 c1 c2 c3 c4 t0 t1 t2 t3 t4 t5 t6 HS
    cases bb with
    | false =>
     have hbf:=HB3.out.1 rfl;subst hbf;clear HB3;go_wp2_with fail
     go_ret;exact⟨rfl,lb.trans Lw1⟩
    | true =>
     have HB4:=HB3.out.2 rfl _ rfl
     cases e5:hmB x.ins[k].op with
     | false =>
      rw[e5]at HB4;have HB5:Hid (cbB sn cn x.frame (x.ins.length:Int) (k+1) (x.ins.drop (k+1)) (x.maps.drop m)=b):=HB4.1 rfl;clear HB4 HB3;go_wp2_with (go_at_call 120;refine (lsafe_b (by assumption) _).mono ?_;rintro e w2 ⟨rfl,hww⟩;obtain rfl:=hww.symm)
      go_roundw
      case rel=>exact⟨k+1,m,rfl,by go_num,by omega,by omega,Lw1,HB5.out⟩
      case measure=>simp[intOf];omega
     | true =>
      rw[e5]at HB4;by_cases hml:m<x.maps.length
      ·have hb6:=HB4.2.2 rfl hml;obtain⟨g2,off2,v2,rfl,hg2,d0,d1,s2⟩:=Ma.elem (H1.out w1 Lw1) m hml;obtain⟨a2,p2',rfl,hl2⟩:=In.slice s2;have n1:¬ (x.maps.length:Int)≤(m:Int):=by omega
       have dn1:decide ((x.maps.length:Int)≤(m:Int))=false:=decide_eq_false n1;have dn2:decide (x.maps.length≤m)=false:=decide_eq_false (by omega);have n2:(m:Int)<(x.maps.length:Int):=by omega
       clear HB4 HB3
       cases e6:(x.maps[m].pc==(k:Int)) with
       | false =>
        rw[e6,Bool.false_and]at hb6;subst hb6;have e6':(x.maps[m].pc != (k:Int))=true:=by simpa using e6
        clear s2;go_wp2_with (go_at_call 120;refine (lsafe_b (by assumption) _).mono ?_;rintro e w2 ⟨rfl,hww⟩;obtain rfl:=hww.symm)
        go_ret;exact⟨rfl,lb.trans Lw1⟩
       | true =>
        rw[e6,Bool.true_and]at hb6;have e6':(x.maps[m].pc != (k:Int))=false:=by simpa using e6
        have HB6:Hid ((slB x.frame 3 x.maps[m].slots&&cbB sn cn x.frame (x.ins.length:Int) (k+1) (x.ins.drop (k+1)) (x.maps.drop (m+1)))=b):=hb6;have HS2:Hid (∀ w',Later w1 w'→RdL w' 1 (.slice a2 x.maps[m].slots.length p2') (In.dats x.maps[m].slots)):=fun w' l=>RdL.later l s2
        have HX1:Hid (∀ w',Later w1 w'→w'.cell? ⟨w.heap.size+1,0,none⟩=some (.int .i64 x.frame)∧w.heap.size+1<w'.heap.size):=fun w' l=>⟨(HX.out w' (Lw1.trans l)).2.2.2.1,Nat.lt_of_lt_of_le hws1 l.size⟩
        clear hb6 s2
        generalize hsl:(x.maps[m].slots:List Int)=sl at *
        generalize x.maps[m].pc=zpc at *
        clear hsl;go_wp2_with (go_at_call 120;refine (lsafe_b (by assumption) _).mono ?_;rintro e w2 ⟨rfl,hww⟩;obtain rfl:=hww.symm)
        go_loopw [8] (fun i wr=>∃ (j:Nat) (lo:Int),i=.int .i64 (j:Int)∧j≤sl.length∧3≤lo∧(j=0→lo=3)∧(∀ h:0<j∧j≤sl.length,lo=sl[j - 1]'(by omega)+1)∧Later w1 wr∧slB x.frame lo (sl.drop j)=slB x.frame 3 sl) (fun i _=>sl.length - (intOf i).toNat)
        case atStart=>exact⟨0,3,rfl,Nat.zero_le _,Int.le_refl _,fun _=>rfl,fun h=>by omega,Later.refl _,rfl⟩
        case round =>
         obtain⟨j,lo,rfl,hj,hlo,hlo0,hlo1,lj,hSl⟩:=hrel;obtain⟨u0,hu0⟩:=HX1.out wr lj;by_cases hjt:j<sl.length
         ·obtain⟨g3,off3,rfl,hg3,y0⟩:=In.elem (HS2.out wr lj) j hjt;have j1:(j:Int)<(sl.length:Int):=by omega
          rw[List.drop_eq_getElem_cons hjt,slB]at hSl
          have hprev:∀ h:0<j,wr.cell? ⟨g3,off3+(j - 1),none⟩=some (.int .i64 (lo - 1)):=fun h=>by
           obtain⟨g4,off4,e4,_,y1⟩:=In.elem (HS2.out wr lj) (j - 1) (by omega)
           cases e4
           rw[y1,hlo1 ⟨h,by omega⟩]
           congr 2
           omega
          obtain⟨y,hy⟩:∃ y:Int,Hid (sl[j]=y):=⟨sl[j],rfl⟩
          rw[hy.out]at y0 hSl
          have HN:Hid (∀ h:0<j+1∧j+1≤sl.length,y+1=sl[j+1 - 1]'(by omega)+1):=fun h=>by
           have:sl[j+1 - 1]'(by omega)=sl[j]:=by congr 1
           rw[this,hy.out]
          have HSy:Hid (∀ w',Later wr w'→w'.cell? ⟨g3,off3+j,none⟩=some (.int .i64 y)∧w'.cell? ⟨w.heap.size+1,0,none⟩=some (.int .i64 x.frame)):=fun w' l=>⟨by rw[Below.cell l (p:=⟨g3,off3+j,none⟩) hg3];exact y0,by rw[Below.cell l (p:=⟨w.heap.size+1,0,none⟩) hu0];exact u0⟩
          have HSp:Hid (∀ _:0<j,∀ w',Later wr w'→w'.cell? ⟨g3,off3+j,none⟩=some (.int .i64 y)∧w'.cell? ⟨w.heap.size+1,0,none⟩=some (.int .i64 x.frame)∧w'.cell? ⟨g3,off3+(j - 1),none⟩=some (.int .i64 (lo - 1))):=fun h w' l=>⟨(HSy.out w' l).1,(HSy.out w' l).2,by rw[Below.cell l (p:=⟨g3,off3+(j - 1),none⟩) hg3];exact hprev h⟩
          clear hlo1 hy;(try clear p0);(try clear p1);(try clear p2);(try clear p3);(try clear p4);(try clear p5);(try clear p6);(try clear o0);(try clear o1);(try clear o2);(try clear o3);(try clear o4);(try clear d0);(try clear d1);(try clear e0);(try clear e1);(try clear e2);(try clear e5);(try clear e6);(try clear e6');(try clear r1);(try clear r2);(try clear q0);(try clear f1);(try clear f2);(try clear f3);(try clear f4);(try clear i1);(try clear n1);(try clear n2);(try clear hgw);(try clear hws);(try clear hws0);(try clear hws1);(try clear hl);(try clear hl');(try clear HX);(try clear H0);(try clear H1);(try clear HOk);(try clear HB);(try clear HX1);(try clear HS2);(try clear hg);(try clear hg2);(try clear hm);(try clear hk);by_cases y3:y<3
          ·have hs:slB x.frame 3 sl=false:=by
            rw[←hSl,show inB y lo (x.frame - 1)=false from by rw[←Bool.not_eq_true,inB_iff];omega,Bool.false_and]
           have hbf:b=false:=by rw[←HB6.out,hs,Bool.false_and]
           subst hbf;have dy:decide (y<3)=true:=decide_eq_true y3;clear HB6 hSl hprev HN hs HSy HSp;go_wp2_with fail
           go_quiet (fail)
           go_wp2_with fail
           go_ret;exact⟨rfl,lb.trans (Lw1.trans (later_drewN lj _))⟩
          have dy:decide (y<3)=false:=decide_eq_false y3;by_cases yf:x.frame≤y
          ·have hs:slB x.frame 3 sl=false:=by
            rw[←hSl,show inB y lo (x.frame - 1)=false from by rw[←Bool.not_eq_true,inB_iff];omega,Bool.false_and]
           have hbf:b=false:=by rw[←HB6.out,hs,Bool.false_and]
           subst hbf;have df:decide (x.frame≤y)=true:=decide_eq_true yf;clear HB6 hSl hprev HN hs HSy HSp;go_wp2_with fail
           go_quiet (fail)
           go_wp2_with fail
           go_ret;exact⟨rfl,lb.trans (Lw1.trans (later_drewN lj _))⟩
          have df:decide (x.frame≤y)=false:=decide_eq_false yf;have b1:-9223372036854775808≤(j:Int) - 1:=by omega
          have b2:(j:Int) - 1≤9223372036854775807:=by omega
          rcases Nat.eq_zero_or_pos j with hj0|hj0
          ·have hl3:=hlo0 hj0;subst hj0;rw[Nat.add_zero]at y0
           have HR:Hid (slB x.frame (y+1) (sl.drop (0+1))=slB x.frame 3 sl):=by
            unfold Hid;rw[←hSl,show inB y lo (x.frame - 1)=true from inB_iff.2 (by omega),Bool.true_and]
           have jl:0<sl.length:=hjt;clear hSl hl3 hlo0 hprev HSy HSp b1 b2;go_wp2_with fail
           go_quiet (fail)
           go_wp2_with fail
           go_roundw
           case rel=>exact⟨0+1,y+1,by go_num,by omega,by omega,fun h=>by omega,HN.out,later_drewN lj _,HR.out⟩
           case measure=>simp[intOf];omega
          ·obtain⟨pv,hpv⟩:∃ pv:Int,Hid (lo - 1=pv):=⟨lo - 1,show _=_ from rfl⟩
           have y1:=hprev hj0;rw[hpv.out]at y1;have hpl:=hpv.out;have j2:(0:Int)<(j:Int):=by omega
           have j3:(0:Int)≤(j:Int) - 1:=by omega
           have j4:(j:Int) - 1<(sl.length:Int):=by omega
           have j5:((j:Int) - 1).toNat=j - 1:=by omega
           by_cases yl:y≤pv
           ·have hs:slB x.frame 3 sl=false:=by
             rw[←hSl,show inB y lo (x.frame - 1)=false from by rw[←Bool.not_eq_true,inB_iff];omega,Bool.false_and]
            have hbf:b=false:=by rw[←HB6.out,hs,Bool.false_and]
            subst hbf;have dj:decide ((0:Int)<(j:Int))=true:=decide_eq_true j2;have dj':decide (0<j)=true:=decide_eq_true hj0;have dl:decide (y≤pv)=true:=decide_eq_true yl;clear HB6 hSl hprev HN hs HSy HSp hlo0 hpl;go_wp2_with fail
            go_quiet (fail)
            go_wp2_with fail
            go_ret;exact⟨rfl,lb.trans (Lw1.trans (later_drewN lj _))⟩
           ·have HR:Hid (slB x.frame (y+1) (sl.drop (j+1))=slB x.frame 3 sl):=by
             unfold Hid;rw[←hSl,show inB y lo (x.frame - 1)=true from inB_iff.2 (by omega),Bool.true_and]
            have dj:decide ((0:Int)<(j:Int))=true:=decide_eq_true j2;have dj':decide (0<j)=true:=decide_eq_true hj0;have dl:decide (y≤pv)=false:=decide_eq_false yl;clear hSl hprev HSy HSp hlo0 hpl;go_wp2_with fail
            go_quiet (fail)
            go_wp2_with fail
            go_roundw
            case rel=>exact⟨j+1,y+1,by go_num,by omega,by omega,fun h=>by omega,HN.out,later_drewN lj _,HR.out⟩
            case measure=>simp[intOf];omega
         ·have j1:¬ (j:Int)<(sl.length:Int):=by omega
          have j2:decide ((j:Int)<(sl.length:Int))=false:=decide_eq_false j1
          have HR:Hid (cbB sn cn x.frame (x.ins.length:Int) (k+1) (x.ins.drop (k+1)) (x.maps.drop (m+1))=b):=by
           unfold Hid;have z:sl.drop j=[]:=List.drop_eq_nil_of_le (by omega);rw[←HB6.out,← hSl,z,slB,Bool.true_and]
          clear HB6 hSl hlo1 hlo0;go_wp2_with fail
          go_roundw
          case rel=>exact⟨k+1,m+1,by go_num,by go_num,by omega,by omega,Lw1.trans lj,HR.out⟩
          case measure=>simp[intOf];omega
      ·have hbf:=HB4.2.1 rfl hml;subst hbf;have n1:(x.maps.length:Int)≤(m:Int):=by omega
       clear HB4 HB3;go_wp2_with (go_at_call 120;refine (lsafe_b (by assumption) _).mono ?_;rintro e w2 ⟨rfl,hww⟩;obtain rfl:=hww.symm)
       go_ret;exact⟨rfl,lb.trans Lw1⟩
  ·have i1:¬ (k:Int)<(x.ins.length:Int):=by omega
   have i2:decide ((k:Int)<(x.ins.length:Int))=false:=decide_eq_false i1;rw[List.drop_eq_nil_of_le (by omega),cbB,List.length_drop]at hS
   have HE:Hid (((m:Int)==(x.maps.length:Int))=b):=by
    unfold Hid;rw[←hS];by_cases e:m=x.maps.length
    ·subst e;simp
    ·have z1:((m:Int)==(x.maps.length:Int))=false:=by simp;omega
     have z2:(((x.maps.length - m:Nat):Int)==0)=false:=by simp;omega
     rw[z1,z2]
   clear hS;go_wp2_with fail
   go_ret;exact⟨by rw[←HE.out];first|rfl|simp,lb.trans lr⟩
end Go.Proofs.YtjnpncefkigcbaaGreat
