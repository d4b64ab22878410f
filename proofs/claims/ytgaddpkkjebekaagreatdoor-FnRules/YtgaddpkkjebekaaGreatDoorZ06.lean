import Derived.Test.YtgaddpkkjebekaaGreatDoorZ04
import Derived.Test.YtgaddpkkjebekaaGreatDoorZ05
set_option maxHeartbeats 100000000
set_option maxRecDepth 100000
namespace Go.Proofs.YtgaddpkkjebekaaGreatDoor
open Go.RowKit
def tyB (k n s:Int) (no:Bool):Bool:=if k=0 then no&&(n==0) else if k=1\/k=2\/k=4\/k=5 then n==0 else if k=3\/k=6 then decide (0<=n)&&decide (n<s) else false
theorem neb {a b:Int}(h:a≠b):(a==b)=false:=by rw[beq_eq_false_iff_ne];exact h
theorem decN (k:Int):(k=0\/k=1\/k=2\/k=3\/k=4\/k=5\/k=6)\/(k≠0/\k≠1/\k≠2/\k≠3/\k≠4/\k≠5/\k≠6):=by omega
theorem fZ (n c:Int) (w:World):Calls Tryz.prog 111 #[.int .i64 n,.int .i64 c] w fun e w'=>e=.returned (.bool (decide (0<=n)&&decide (n<c)))/\w'=w:=by
 by_cases h:0<=n
 ·rw[decide_eq_true h];go_enter Tryz.func111,Tryz.ntmps111;go_wp2
  go_ret;exact⟨by simp,rfl⟩
 ·rw[decide_eq_false h];go_enter Tryz.func111,Tryz.ntmps111;go_wp2
  go_ret;exact⟨by simp,rfl⟩
theorem zy (tk tn s:Int) (w:World):Calls Tryz.prog 84 #[.agg #[.int .i64 tk,.int .i64 tn],.int .i64 s] w fun e w'=>e=.returned (.bool (tyB tk tn s false))/\Later w w':=by
 rcases decN tk with (rfl|rfl|rfl|rfl|rfl|rfl|rfl)|⟨n0,n1,n2,n3,n4,n5,n6⟩
 ·show Calls _ _ _ _ fun e w'=>e=.returned (.bool (false))/\_;go_enter Tryz.func84,Tryz.ntmps84;go_wp2_with (go_at_call 111;refine (fZ _ _ _).mono ?_;rintro e w1 ⟨rfl,hww⟩;obtain rfl:=hww.symm)
  go_ret;exact⟨by first|rfl|simp,ae _ _⟩
 ·show Calls _ _ _ _ fun e w'=>e=.returned (.bool (tn==0))/\_;go_enter Tryz.func84,Tryz.ntmps84;go_wp2_with (go_at_call 111;refine (fZ _ _ _).mono ?_;rintro e w1 ⟨rfl,hww⟩;obtain rfl:=hww.symm)
  go_ret;exact⟨by first|rfl|simp,ae _ _⟩
 ·show Calls _ _ _ _ fun e w'=>e=.returned (.bool (tn==0))/\_;go_enter Tryz.func84,Tryz.ntmps84;go_wp2_with (go_at_call 111;refine (fZ _ _ _).mono ?_;rintro e w1 ⟨rfl,hww⟩;obtain rfl:=hww.symm)
  go_ret;exact⟨by first|rfl|simp,ae _ _⟩
 ·show Calls _ _ _ _ fun e w'=>e=.returned (.bool (decide (0<=tn)&&decide (tn<s)))/\_;go_enter Tryz.func84,Tryz.ntmps84;go_wp2_with (go_at_call 111;refine (fZ _ _ _).mono ?_;rintro e w1 ⟨rfl,hww⟩;obtain rfl:=hww.symm)
  go_ret;exact⟨by first|rfl|simp,ae _ _⟩
 ·show Calls _ _ _ _ fun e w'=>e=.returned (.bool (tn==0))/\_;go_enter Tryz.func84,Tryz.ntmps84;go_wp2_with (go_at_call 111;refine (fZ _ _ _).mono ?_;rintro e w1 ⟨rfl,hww⟩;obtain rfl:=hww.symm)
  go_ret;exact⟨by first|rfl|simp,ae _ _⟩
 ·show Calls _ _ _ _ fun e w'=>e=.returned (.bool (tn==0))/\_;go_enter Tryz.func84,Tryz.ntmps84;go_wp2_with (go_at_call 111;refine (fZ _ _ _).mono ?_;rintro e w1 ⟨rfl,hww⟩;obtain rfl:=hww.symm)
  go_ret;exact⟨by first|rfl|simp,ae _ _⟩
 ·show Calls _ _ _ _ fun e w'=>e=.returned (.bool (decide (0<=tn)&&decide (tn<s)))/\_;go_enter Tryz.func84,Tryz.ntmps84;go_wp2_with (go_at_call 111;refine (fZ _ _ _).mono ?_;rintro e w1 ⟨rfl,hww⟩;obtain rfl:=hww.symm)
  go_ret;exact⟨by first|rfl|simp,ae _ _⟩
 ·have e:tyB tk tn s false=false:=by unfold tyB;rw[if_neg n0,if_neg (by omega),if_neg (by omega)]
  rw[e];have e0:=neb n0;have e1:=neb n1;have e2:=neb n2;have e3:=neb n3;have e4:=neb n4;have e5:=neb n5;have e6:=neb n6;clear e n0 n1 n2 n3 n4 n5 n6;go_enter Tryz.func84,Tryz.ntmps84;go_wp2_with (go_at_call 111;refine (fZ _ _ _).mono ?_;rintro e w1 ⟨rfl,hww⟩;obtain rfl:=hww.symm)
  go_ret;exact⟨by first|rfl|simp,ae _ _⟩
def KO (k n s:Int):Bool:=decide (4<=k)&&tyB k n s false
theorem MW (tk tn s:Int) (w:World):Calls Tryz.prog 177 #[.agg #[.int .i64 tk,.int .i64 tn],.int .i64 s] w fun e w'=>e=.returned (.bool (KO tk tn s))/\Later w w':=by
 unfold KO;have hE:=fun w=>zy tk tn s w;by_cases h:4<=tk
 ·rw[decide_eq_true h];go_enter Tryz.func177,Tryz.ntmps177;go_wp2_with (go_at_call 84;refine (hE _).mono ?_;rintro e w1 ⟨rfl,l1⟩)
  go_ret;exact⟨rfl,(ae _ _).trans l1⟩
 ·rw[decide_eq_false h];go_enter Tryz.func177,Tryz.ntmps177;go_wp2_with (go_at_call 84;refine (hE _).mono ?_;rintro e w1 ⟨rfl,l1⟩)
  go_ret;exact⟨rfl,ae _ _⟩
theorem Jo {n:Int}(hn:InR n) (h:Ag (fb n)=false):cb (fb n)=n:=by
 rw[Jm h];unfold InR at hn;have:=Ku n;rw[IntKind.wrap_u64]at this;unfold wrap64;omega
def canon (n:Int):Bool:=if Ag (fb n) then n==9221120237041090561 else true
theorem Qu {n:Int}(hn:InR n):(cb (fb n)==n)=canon n:=by
 unfold canon;by_cases h:Ag (fb n)=true
 ·rw[Jn h,if_pos h,Bool.eq_iff_iff,beq_iff_eq,beq_iff_eq];exact eq_comm
 ·rw[Jo hn (by simpa using h),if_neg h];simp
theorem I9 (n:Int) (hn:InR n) (w:World):Calls Tryz.prog 70 #[.int .i64 n] w fun e w'=>e=.returned (.bool (canon n))/\w'=w:=by
 have hq:=Qu hn
 generalize canon n=cn at *
 have hF:=Dt n w;have hB:=GU (fb n) w
 generalize cb (fb n)=r at *
 go_enter Tryz.func70,Tryz.ntmps70;go_wp2_with (first|(go_at_call 99;refine hF.mono ?_;rintro e w1 ⟨rfl,hww⟩;obtain rfl:=hww.symm)|(go_at_call 98;refine hB.mono ?_;rintro e w1 ⟨rfl,hww⟩;obtain rfl:=hww.symm))
 go_ret;exact⟨rfl,rfl⟩
abbrev Form:=Int × Int × Int × Int × Bool × Bool × Bool
def pW (f:Form):Value:=.agg #[.int .i64 f.1,.int .i64 f.2.1,.int .i64 f.2.2.1,.int .i64 f.2.2.2.1,.bool f.2.2.2.2.1,.bool f.2.2.2.2.2.1,.bool f.2.2.2.2.2.2]
def fF (k:Int):Option Form:=if k=0 then some (0,0,1,0,false,false,false) else if k=1 then some (0,0,2,0,false,false,false) else if k=2 then some (0,0,3,0,false,false,false) else if k=3 then some (0,0,0,0,true,false,false) else if k=4 then some (0,0,3,0,false,false,false) else if k=5 then some (1,1,0,2,false,false,false) else if k=6 then some (0,4,0,0,true,false,false) else if k=7 then some (1,1,0,0,true,false,false) else if k=8 then some (2,2,0,0,false,false,false) else if k=9 then some (1,1,0,0,false,false,false) else if k=10 then some (2,2,4,0,false,false,false) else if k=11 then some (0,0,0,0,false,false,false) else if k=12 then some (1,1,0,0,false,false,false) else if k=13 then some (1,1,0,0,false,false,false) else none
theorem mD (k:Int):(k=0\/k=1\/k=2\/k=3\/k=4\/k=5\/k=6\/k=7\/k=8\/k=9\/k=10\/k=11\/k=12\/k=13)\/(k≠0/\k≠1/\k≠2/\k≠3/\k≠4/\k≠5/\k≠6/\k≠7/\k≠8/\k≠9/\k≠10/\k≠11/\k≠12/\k≠13):=by omega
theorem IW (k:Int) (w:World):Calls Tryz.prog 178 #[.int .i64 k] w fun e w'=>(∃ f,e=.returned (.tuple #[pW f,.bool (fF k).isSome])/\∀ g,fF k=some g->f=g)/\Later w w':=by
 rcases mD k with (rfl|rfl|rfl|rfl|rfl|rfl|rfl|rfl|rfl|rfl|rfl|rfl|rfl|rfl)|⟨n0,n1,n2,n3,n4,n5,n6,n7,n8,n9,n10,n11,n12,n13⟩
 ·go_enter Tryz.func178,Tryz.ntmps178
  have hb:=fun w:World=>(show (Instr.build 231 #[(2,.int .i64 1)]).run Tryz.prog w=.ok (.agg #[.int .i64 0,.int .i64 0,.int .i64 1,.int .i64 0,.bool false,.bool false,.bool false]) w from run_build w 231 _ _ (by kernel_rfl))
  go_wp2_with fail
  exact bodyPost_ret (v:=.tuple #[.agg #[.int .i64 0,.int .i64 0,.int .i64 1,.int .i64 0,.bool false,.bool false,.bool false],.bool true]) (by simp[results,Tryz.results178,go_sem]) rfl ⟨⟨(0,0,1,0,false,false,false),rfl,fun g hg=>by cases hg;rfl⟩,ae _ _⟩
 ·go_enter Tryz.func178,Tryz.ntmps178
  have hb:=fun w:World=>(show (Instr.build 231 #[(2,.int .i64 2)]).run Tryz.prog w=.ok (.agg #[.int .i64 0,.int .i64 0,.int .i64 2,.int .i64 0,.bool false,.bool false,.bool false]) w from run_build w 231 _ _ (by kernel_rfl))
  go_wp2_with fail
  exact bodyPost_ret (v:=.tuple #[.agg #[.int .i64 0,.int .i64 0,.int .i64 2,.int .i64 0,.bool false,.bool false,.bool false],.bool true]) (by simp[results,Tryz.results178,go_sem]) rfl ⟨⟨(0,0,2,0,false,false,false),rfl,fun g hg=>by cases hg;rfl⟩,ae _ _⟩
 ·go_enter Tryz.func178,Tryz.ntmps178
  have hb:=fun w:World=>(show (Instr.build 231 #[(2,.int .i64 3)]).run Tryz.prog w=.ok (.agg #[.int .i64 0,.int .i64 0,.int .i64 3,.int .i64 0,.bool false,.bool false,.bool false]) w from run_build w 231 _ _ (by kernel_rfl))
  go_wp2_with fail
  exact bodyPost_ret (v:=.tuple #[.agg #[.int .i64 0,.int .i64 0,.int .i64 3,.int .i64 0,.bool false,.bool false,.bool false],.bool true]) (by simp[results,Tryz.results178,go_sem]) rfl ⟨⟨(0,0,3,0,false,false,false),rfl,fun g hg=>by cases hg;rfl⟩,ae _ _⟩
 ·go_enter Tryz.func178,Tryz.ntmps178
  have hb:=fun w:World=>(show (Instr.build 231 #[(4,.bool true)]).run Tryz.prog w=.ok (.agg #[.int .i64 0,.int .i64 0,.int .i64 0,.int .i64 0,.bool true,.bool false,.bool false]) w from run_build w 231 _ _ (by kernel_rfl))
  go_wp2_with fail
  exact bodyPost_ret (v:=.tuple #[.agg #[.int .i64 0,.int .i64 0,.int .i64 0,.int .i64 0,.bool true,.bool false,.bool false],.bool true]) (by simp[results,Tryz.results178,go_sem]) rfl ⟨⟨(0,0,0,0,true,false,false),rfl,fun g hg=>by cases hg;rfl⟩,ae _ _⟩
 ·go_enter Tryz.func178,Tryz.ntmps178
  have hb:=fun w:World=>(show (Instr.build 231 #[(2,.int .i64 3)]).run Tryz.prog w=.ok (.agg #[.int .i64 0,.int .i64 0,.int .i64 3,.int .i64 0,.bool false,.bool false,.bool false]) w from run_build w 231 _ _ (by kernel_rfl))
  go_wp2_with fail
  exact bodyPost_ret (v:=.tuple #[.agg #[.int .i64 0,.int .i64 0,.int .i64 3,.int .i64 0,.bool false,.bool false,.bool false],.bool true]) (by simp[results,Tryz.results178,go_sem]) rfl ⟨⟨(0,0,3,0,false,false,false),rfl,fun g hg=>by cases hg;rfl⟩,ae _ _⟩
 ·go_enter Tryz.func178,Tryz.ntmps178
  have hb:=fun w:World=>(show (Instr.build 231 #[(0,.int .i64 1),(1,.int .i64 1),(3,.int .i64 2)]).run Tryz.prog w=.ok (.agg #[.int .i64 1,.int .i64 1,.int .i64 0,.int .i64 2,.bool false,.bool false,.bool false]) w from run_build w 231 _ _ (by kernel_rfl))
  go_wp2_with fail
  exact bodyPost_ret (v:=.tuple #[.agg #[.int .i64 1,.int .i64 1,.int .i64 0,.int .i64 2,.bool false,.bool false,.bool false],.bool true]) (by simp[results,Tryz.results178,go_sem]) rfl ⟨⟨(1,1,0,2,false,false,false),rfl,fun g hg=>by cases hg;rfl⟩,ae _ _⟩
 ·go_enter Tryz.func178,Tryz.ntmps178
  have hb:=fun w:World=>(show (Instr.build 231 #[(1,.int .i64 4),(4,.bool true)]).run Tryz.prog w=.ok (.agg #[.int .i64 0,.int .i64 4,.int .i64 0,.int .i64 0,.bool true,.bool false,.bool false]) w from run_build w 231 _ _ (by kernel_rfl))
  go_wp2_with fail
  exact bodyPost_ret (v:=.tuple #[.agg #[.int .i64 0,.int .i64 4,.int .i64 0,.int .i64 0,.bool true,.bool false,.bool false],.bool true]) (by simp[results,Tryz.results178,go_sem]) rfl ⟨⟨(0,4,0,0,true,false,false),rfl,fun g hg=>by cases hg;rfl⟩,ae _ _⟩
 ·go_enter Tryz.func178,Tryz.ntmps178
  have hb:=fun w:World=>(show (Instr.build 231 #[(0,.int .i64 1),(1,.int .i64 1),(4,.bool true)]).run Tryz.prog w=.ok (.agg #[.int .i64 1,.int .i64 1,.int .i64 0,.int .i64 0,.bool true,.bool false,.bool false]) w from run_build w 231 _ _ (by kernel_rfl))
  go_wp2_with fail
  exact bodyPost_ret (v:=.tuple #[.agg #[.int .i64 1,.int .i64 1,.int .i64 0,.int .i64 0,.bool true,.bool false,.bool false],.bool true]) (by simp[results,Tryz.results178,go_sem]) rfl ⟨⟨(1,1,0,0,true,false,false),rfl,fun g hg=>by cases hg;rfl⟩,ae _ _⟩
 ·go_enter Tryz.func178,Tryz.ntmps178
  have hb:=fun w:World=>(show (Instr.build 231 #[(0,.int .i64 2),(1,.int .i64 2)]).run Tryz.prog w=.ok (.agg #[.int .i64 2,.int .i64 2,.int .i64 0,.int .i64 0,.bool false,.bool false,.bool false]) w from run_build w 231 _ _ (by kernel_rfl))
  go_wp2_with fail
  exact bodyPost_ret (v:=.tuple #[.agg #[.int .i64 2,.int .i64 2,.int .i64 0,.int .i64 0,.bool false,.bool false,.bool false],.bool true]) (by simp[results,Tryz.results178,go_sem]) rfl ⟨⟨(2,2,0,0,false,false,false),rfl,fun g hg=>by cases hg;rfl⟩,ae _ _⟩
 ·go_enter Tryz.func178,Tryz.ntmps178
  have hb:=fun w:World=>(show (Instr.build 231 #[(0,.int .i64 1),(1,.int .i64 1)]).run Tryz.prog w=.ok (.agg #[.int .i64 1,.int .i64 1,.int .i64 0,.int .i64 0,.bool false,.bool false,.bool false]) w from run_build w 231 _ _ (by kernel_rfl))
  go_wp2_with fail
  exact bodyPost_ret (v:=.tuple #[.agg #[.int .i64 1,.int .i64 1,.int .i64 0,.int .i64 0,.bool false,.bool false,.bool false],.bool true]) (by simp[results,Tryz.results178,go_sem]) rfl ⟨⟨(1,1,0,0,false,false,false),rfl,fun g hg=>by cases hg;rfl⟩,ae _ _⟩
 ·go_enter Tryz.func178,Tryz.ntmps178
  have hb:=fun w:World=>(show (Instr.build 231 #[(0,.int .i64 2),(1,.int .i64 2),(2,.int .i64 4)]).run Tryz.prog w=.ok (.agg #[.int .i64 2,.int .i64 2,.int .i64 4,.int .i64 0,.bool false,.bool false,.bool false]) w from run_build w 231 _ _ (by kernel_rfl))
  go_wp2_with fail
  exact bodyPost_ret (v:=.tuple #[.agg #[.int .i64 2,.int .i64 2,.int .i64 4,.int .i64 0,.bool false,.bool false,.bool false],.bool true]) (by simp[results,Tryz.results178,go_sem]) rfl ⟨⟨(2,2,4,0,false,false,false),rfl,fun g hg=>by cases hg;rfl⟩,ae _ _⟩
 ·go_enter Tryz.func178,Tryz.ntmps178
  have hb:=fun w:World=>(show (Instr.build 231 #[]).run Tryz.prog w=.ok (.agg #[.int .i64 0,.int .i64 0,.int .i64 0,.int .i64 0,.bool false,.bool false,.bool false]) w from run_build w 231 _ _ (by kernel_rfl))
  go_wp2_with fail
  exact bodyPost_ret (v:=.tuple #[.agg #[.int .i64 0,.int .i64 0,.int .i64 0,.int .i64 0,.bool false,.bool false,.bool false],.bool true]) (by simp[results,Tryz.results178,go_sem]) rfl ⟨⟨(0,0,0,0,false,false,false),rfl,fun g hg=>by cases hg;rfl⟩,ae _ _⟩
 ·go_enter Tryz.func178,Tryz.ntmps178
  have hb:=fun w:World=>(show (Instr.build 231 #[(0,.int .i64 1),(1,.int .i64 1)]).run Tryz.prog w=.ok (.agg #[.int .i64 1,.int .i64 1,.int .i64 0,.int .i64 0,.bool false,.bool false,.bool false]) w from run_build w 231 _ _ (by kernel_rfl))
  go_wp2_with fail
  exact bodyPost_ret (v:=.tuple #[.agg #[.int .i64 1,.int .i64 1,.int .i64 0,.int .i64 0,.bool false,.bool false,.bool false],.bool true]) (by simp[results,Tryz.results178,go_sem]) rfl ⟨⟨(1,1,0,0,false,false,false),rfl,fun g hg=>by cases hg;rfl⟩,ae _ _⟩
 ·go_enter Tryz.func178,Tryz.ntmps178
  have hb:=fun w:World=>(show (Instr.build 231 #[(0,.int .i64 1),(1,.int .i64 1)]).run Tryz.prog w=.ok (.agg #[.int .i64 1,.int .i64 1,.int .i64 0,.int .i64 0,.bool false,.bool false,.bool false]) w from run_build w 231 _ _ (by kernel_rfl))
  go_wp2_with fail
  exact bodyPost_ret (v:=.tuple #[.agg #[.int .i64 1,.int .i64 1,.int .i64 0,.int .i64 0,.bool false,.bool false,.bool false],.bool true]) (by simp[results,Tryz.results178,go_sem]) rfl ⟨⟨(1,1,0,0,false,false,false),rfl,fun g hg=>by cases hg;rfl⟩,ae _ _⟩
 ·have e:fF k=none:=by unfold fF;rw[if_neg n0,if_neg n1,if_neg n2,if_neg n3,if_neg n4,if_neg n5,if_neg n6,if_neg n7,if_neg n8,if_neg n9,if_neg n10,if_neg n11,if_neg n12,if_neg n13]
  rw[e];have e0:=neb n0;have e1:=neb n1;have e2:=neb n2;have e3:=neb n3;have e4:=neb n4;have e5:=neb n5;have e6:=neb n6;have e7:=neb n7;have e8:=neb n8;have e9:=neb n9;have e10:=neb n10;have e11:=neb n11;have e12:=neb n12;have e13:=neb n13;clear e n0 n1 n2 n3 n4 n5 n6 n7 n8 n9 n10 n11 n12 n13;go_enter Tryz.func178,Tryz.ntmps178;go_wp2_with fail
  exact bodyPost_ret (v:=.tuple #[.agg #[.int .i64 0,.int .i64 0,.int .i64 0,.int .i64 0,.bool false,.bool false,.bool false],.bool false]) (by simp[results,Tryz.results178,go_sem]) rfl ⟨⟨(0,0,0,0,false,false,false),rfl,fun g hg=>by cases hg⟩,ae _ _⟩
def iD (k:Int):Option Form:=if k=0 then some (0,0,0,1,true,false,false) else if k=1 then some (2,2,0,0,false,false,false) else if k=2 then some (1,1,0,0,false,true,true) else if k=3 then some (1,1,0,0,false,true,false) else if k=4 then some (0,1,0,0,false,false,false) else if k=5 then some (1,1,0,0,false,false,false) else if k=6 then some (1,1,0,0,false,false,false) else if k=7 then some (1,1,0,0,false,false,false) else none
theorem jd (k:Int):(k=0\/k=1\/k=2\/k=3\/k=4\/k=5\/k=6\/k=7)\/(k≠0/\k≠1/\k≠2/\k≠3/\k≠4/\k≠5/\k≠6/\k≠7):=by omega
theorem AX (k:Int) (w:World):Calls Tryz.prog 159 #[.int .i64 k] w fun e w'=>(∃ f,e=.returned (.tuple #[pW f,.bool (iD k).isSome])/\∀ g,iD k=some g->f=g)/\Later w w':=by
 rcases jd k with (rfl|rfl|rfl|rfl|rfl|rfl|rfl|rfl)|⟨n0,n1,n2,n3,n4,n5,n6,n7⟩
 ·go_enter Tryz.func159,Tryz.ntmps159
  have hb:=fun w:World=>(show (Instr.build 231 #[(3,.int .i64 1),(4,.bool true)]).run Tryz.prog w=.ok (.agg #[.int .i64 0,.int .i64 0,.int .i64 0,.int .i64 1,.bool true,.bool false,.bool false]) w from run_build w 231 _ _ (by kernel_rfl))
  go_wp2_with fail
  exact bodyPost_ret (v:=.tuple #[.agg #[.int .i64 0,.int .i64 0,.int .i64 0,.int .i64 1,.bool true,.bool false,.bool false],.bool true]) (by simp[results,Tryz.results159,go_sem]) rfl ⟨⟨(0,0,0,1,true,false,false),rfl,fun g hg=>by cases hg;rfl⟩,ae _ _⟩
 ·go_enter Tryz.func159,Tryz.ntmps159
  have hb:=fun w:World=>(show (Instr.build 231 #[(0,.int .i64 2),(1,.int .i64 2)]).run Tryz.prog w=.ok (.agg #[.int .i64 2,.int .i64 2,.int .i64 0,.int .i64 0,.bool false,.bool false,.bool false]) w from run_build w 231 _ _ (by kernel_rfl))
  go_wp2_with fail
  exact bodyPost_ret (v:=.tuple #[.agg #[.int .i64 2,.int .i64 2,.int .i64 0,.int .i64 0,.bool false,.bool false,.bool false],.bool true]) (by simp[results,Tryz.results159,go_sem]) rfl ⟨⟨(2,2,0,0,false,false,false),rfl,fun g hg=>by cases hg;rfl⟩,ae _ _⟩
 ·go_enter Tryz.func159,Tryz.ntmps159
  have hb:=fun w:World=>(show (Instr.build 231 #[(0,.int .i64 1),(1,.int .i64 1),(5,.bool true),(6,.bool true)]).run Tryz.prog w=.ok (.agg #[.int .i64 1,.int .i64 1,.int .i64 0,.int .i64 0,.bool false,.bool true,.bool true]) w from run_build w 231 _ _ (by kernel_rfl))
  go_wp2_with fail
  exact bodyPost_ret (v:=.tuple #[.agg #[.int .i64 1,.int .i64 1,.int .i64 0,.int .i64 0,.bool false,.bool true,.bool true],.bool true]) (by simp[results,Tryz.results159,go_sem]) rfl ⟨⟨(1,1,0,0,false,true,true),rfl,fun g hg=>by cases hg;rfl⟩,ae _ _⟩
 ·go_enter Tryz.func159,Tryz.ntmps159
  have hb:=fun w:World=>(show (Instr.build 231 #[(0,.int .i64 1),(1,.int .i64 1),(5,.bool true)]).run Tryz.prog w=.ok (.agg #[.int .i64 1,.int .i64 1,.int .i64 0,.int .i64 0,.bool false,.bool true,.bool false]) w from run_build w 231 _ _ (by kernel_rfl))
  go_wp2_with fail
  exact bodyPost_ret (v:=.tuple #[.agg #[.int .i64 1,.int .i64 1,.int .i64 0,.int .i64 0,.bool false,.bool true,.bool false],.bool true]) (by simp[results,Tryz.results159,go_sem]) rfl ⟨⟨(1,1,0,0,false,true,false),rfl,fun g hg=>by cases hg;rfl⟩,ae _ _⟩
 ·go_enter Tryz.func159,Tryz.ntmps159
  have hb:=fun w:World=>(show (Instr.build 231 #[(1,.int .i64 1)]).run Tryz.prog w=.ok (.agg #[.int .i64 0,.int .i64 1,.int .i64 0,.int .i64 0,.bool false,.bool false,.bool false]) w from run_build w 231 _ _ (by kernel_rfl))
  go_wp2_with fail
  exact bodyPost_ret (v:=.tuple #[.agg #[.int .i64 0,.int .i64 1,.int .i64 0,.int .i64 0,.bool false,.bool false,.bool false],.bool true]) (by simp[results,Tryz.results159,go_sem]) rfl ⟨⟨(0,1,0,0,false,false,false),rfl,fun g hg=>by cases hg;rfl⟩,ae _ _⟩
 ·go_enter Tryz.func159,Tryz.ntmps159
  have hb:=fun w:World=>(show (Instr.build 231 #[(0,.int .i64 1),(1,.int .i64 1)]).run Tryz.prog w=.ok (.agg #[.int .i64 1,.int .i64 1,.int .i64 0,.int .i64 0,.bool false,.bool false,.bool false]) w from run_build w 231 _ _ (by kernel_rfl))
  go_wp2_with fail
  exact bodyPost_ret (v:=.tuple #[.agg #[.int .i64 1,.int .i64 1,.int .i64 0,.int .i64 0,.bool false,.bool false,.bool false],.bool true]) (by simp[results,Tryz.results159,go_sem]) rfl ⟨⟨(1,1,0,0,false,false,false),rfl,fun g hg=>by cases hg;rfl⟩,ae _ _⟩
 ·go_enter Tryz.func159,Tryz.ntmps159
  have hb:=fun w:World=>(show (Instr.build 231 #[(0,.int .i64 1),(1,.int .i64 1)]).run Tryz.prog w=.ok (.agg #[.int .i64 1,.int .i64 1,.int .i64 0,.int .i64 0,.bool false,.bool false,.bool false]) w from run_build w 231 _ _ (by kernel_rfl))
  go_wp2_with fail
  exact bodyPost_ret (v:=.tuple #[.agg #[.int .i64 1,.int .i64 1,.int .i64 0,.int .i64 0,.bool false,.bool false,.bool false],.bool true]) (by simp[results,Tryz.results159,go_sem]) rfl ⟨⟨(1,1,0,0,false,false,false),rfl,fun g hg=>by cases hg;rfl⟩,ae _ _⟩
 ·go_enter Tryz.func159,Tryz.ntmps159
  have hb:=fun w:World=>(show (Instr.build 231 #[(0,.int .i64 1),(1,.int .i64 1)]).run Tryz.prog w=.ok (.agg #[.int .i64 1,.int .i64 1,.int .i64 0,.int .i64 0,.bool false,.bool false,.bool false]) w from run_build w 231 _ _ (by kernel_rfl))
  go_wp2_with fail
  exact bodyPost_ret (v:=.tuple #[.agg #[.int .i64 1,.int .i64 1,.int .i64 0,.int .i64 0,.bool false,.bool false,.bool false],.bool true]) (by simp[results,Tryz.results159,go_sem]) rfl ⟨⟨(1,1,0,0,false,false,false),rfl,fun g hg=>by cases hg;rfl⟩,ae _ _⟩
 ·have e:iD k=none:=by unfold iD;rw[if_neg n0,if_neg n1,if_neg n2,if_neg n3,if_neg n4,if_neg n5,if_neg n6,if_neg n7]
  rw[e];have e0:=neb n0;have e1:=neb n1;have e2:=neb n2;have e3:=neb n3;have e4:=neb n4;have e5:=neb n5;have e6:=neb n6;have e7:=neb n7;clear e n0 n1 n2 n3 n4 n5 n6 n7;go_enter Tryz.func159,Tryz.ntmps159;go_wp2_with fail
  exact bodyPost_ret (v:=.tuple #[.agg #[.int .i64 0,.int .i64 0,.int .i64 0,.int .i64 0,.bool false,.bool false,.bool false],.bool false]) (by simp[results,Tryz.results159,go_sem]) rfl ⟨⟨(0,0,0,0,false,false,false),rfl,fun g hg=>by cases hg⟩,ae _ _⟩
structure Sv (K:Nat) (w:World) (s p:Int):Prop where
 c0:w.cell? ⟨K,0,none⟩=some (.int .i64 s)
 c1:w.cell? ⟨K,1,none⟩=some (.int .i64 p)
 f1:w.frozen? ⟨K,1,none⟩=false
 lt:K<w.heap.size
theorem Sv.later {K:Nat}{w w':World}{s p:Int}(h:Sv K w s p) (hb:Later w w'):Sv K w' s p :=
 ⟨by rw[Below.cell hb (p:=⟨K,0,none⟩) h.lt];exact h.c0,by rw[Below.cell hb (p:=⟨K,1,none⟩) h.lt];exact h.c1,by rw[Below.frozen hb (p:=⟨K,1,none⟩) h.lt];exact h.f1,Nat.lt_of_lt_of_le h.lt hb.size⟩
def D7 (want n s:Int):Bool:=if want=1 then true else if want=2 then canon n else if want=3 then decide (0<=n)&&decide (n<s) else if want=4 then decide (0<=n)&&decide (n<7) else n==0
def NH (want tk tn s:Int):Bool:=if want=1 then tyB tk tn s false else if want=2 then KO tk tn s else (tk==0)&&(tn==0)
theorem PD (K:Nat) (want n s p:Int) (w:World) (hn:InR n) (hS:Sv K w s p):Calls Tryz.prog 172 #[.pointer (some ⟨K,0,none⟩),.int .i64 want,.int .i64 n] w fun e w'=>e=.returned (.bool (D7 want n s))/\w'=w:=by
 have hc:=I9 n hn w;have c0:=hS.c0;unfold D7
 generalize canon n=cn at *
 clear hS hn;rcases (by omega:want=1\/want=2\/want=3\/want=4\/(want≠1/\want≠2/\want≠3/\want≠4)) with rfl|rfl|rfl|rfl|⟨n1,n2,n3,n4⟩
 ·go_enter Tryz.func172,Tryz.ntmps172;go_wp2_with fail
  go_ret;exact⟨rfl,rfl⟩
 ·go_enter Tryz.func172,Tryz.ntmps172;go_wp2_with (go_at_call 70;refine hc.mono ?_;rintro e w1 ⟨rfl,hww⟩;obtain rfl:=hww.symm)
  go_ret;exact⟨rfl,rfl⟩
 ·go_enter Tryz.func172,Tryz.ntmps172;go_wp2_with (go_at_call 111;refine (fZ _ _ _).mono ?_;rintro e w1 ⟨rfl,hww⟩;obtain rfl:=hww.symm)
  go_ret;exact⟨rfl,rfl⟩
 ·go_enter Tryz.func172,Tryz.ntmps172;go_wp2_with (go_at_call 111;refine (fZ _ _ _).mono ?_;rintro e w1 ⟨rfl,hww⟩;obtain rfl:=hww.symm)
  go_ret;exact⟨rfl,rfl⟩
 ·rw[if_neg n1,if_neg n2,if_neg n3,if_neg n4];have e1:=neb n1;have e2:=neb n2;have e3:=neb n3;have e4:=neb n4;clear n1 n2 n3 n4;go_enter Tryz.func172,Tryz.ntmps172;go_wp2_with fail
  go_ret;exact⟨rfl,rfl⟩
theorem dQ (w:World):(Instr.build 52 #[]).run Tryz.prog w=.ok (.agg #[.int .i64 0,.int .i64 0]) w:=run_build w 52 _ _ (by kernel_rfl)
theorem Po (K:Nat) (want tk tn s p:Int) (w:World) (hS:Sv K w s p):Calls Tryz.prog 173 #[.pointer (some ⟨K,0,none⟩),.int .i64 want,.agg #[.int .i64 tk,.int .i64 tn]] w fun e w'=>e=.returned (.bool (NH want tk tn s))/\Later w w':=by
 have c0:=hS.c0;have hK:=hS.lt;unfold NH;have hE:=fun w=>zy tk tn s w;have hL:=fun w=>MW tk tn s w;clear hS;rcases (by omega:want=1\/want=2\/(want≠1/\want≠2)) with rfl|rfl|⟨n1,n2⟩
 ·generalize tyB tk tn s false=b at *
  go_enter Tryz.func173,Tryz.ntmps173;go_wp2_with fail
  go_region_with (go_at_call 84;refine (hE _).mono ?_;rintro e w1 ⟨rfl,l1⟩)
  all_goals
   go_wp2_with fail
   go_ret;exact⟨rfl,(ae _ _).trans ((Later.drew _).trans l1)⟩
 ·generalize KO tk tn s=b at *
  go_enter Tryz.func173,Tryz.ntmps173;go_wp2_with fail
  go_region_with (go_at_call 177;refine (hL _).mono ?_;rintro e w1 ⟨rfl,l1⟩)
  all_goals
   go_wp2_with fail
   go_ret;exact⟨rfl,(ae _ _).trans ((Later.drew _).trans l1)⟩
 ·rw[if_neg n1,if_neg n2];have e1:=neb n1;have e2:=neb n2;have hb:=dQ;clear n1 n2 hE hL;go_enter Tryz.func173,Tryz.ntmps173;go_wp2_with fail
  all_goals
   go_ret;exact⟨dh (by first|rfl|simp_all),ae _ _⟩
def dE (f:Form) (n tk tn:Int) (name:List Int) (kids:Nat) (s:Int):Bool:=decide (f.1<=(kids:Int))&&decide ((kids:Int)<=f.2.1)&&(if f.2.2.2.2.1 then aQ name else decide (name.length=0))&&D7 f.2.2.1 n s&&NH f.2.2.2.1 tk tn s
theorem xZ (K:Nat) (f:Form) (n tk tn s p:Int) (v:Value) (name:List Int) (ka:Option Addr) (kids kc:Nat) (w:World) (hn:InR n) (hS:Sv K w s p) (hN:RdN w v name) :
  Calls Tryz.prog 160 #[.pointer (some ⟨K,0,none⟩),pW f,.int .i64 n,.agg #[.int .i64 tk,.int .i64 tn],v,.slice ka kids kc] w fun e w'=>e=.returned (.bool (dE f n tk tn name kids s))/\Later w w':=by
 obtain⟨fe,mo,fn,ft,na,bo,ot⟩:=f;have L:=bF w (.cells #[.int .i64 fe,.int .i64 mo,.int .i64 fn,.int .i64 ft,.bool na,.bool bo,.bool ot] 231) (.cells #[.int .i64 tk,.int .i64 tn] 52);have hnu:=fun w' (l:Later w w')=>PD K fn n s p w' hn (hS.later l);have hty:=fun w' (l:Later w w')=>Po K ft tk tn s p w' (hS.later l);have hna:=fun w' (l:Later w w')=>nU v name w' (hN.later l);obtain⟨a,cap,rfl,hl⟩:=hN.slice;unfold pW dE;dsimp only
 generalize D7 fn n s=nb at *
 generalize NH ft tk tn s=tb at *
 generalize aQ name=mb at *
 clear hN hS hn;by_cases h1:fe<=(kids:Int)
 ·by_cases h2:(kids:Int)<=mo
  ·rw[decide_eq_true h1,decide_eq_true h2];have g1:¬ (kids:Int)<fe:=by omega
   have g2:¬ mo<(kids:Int):=by omega
   cases na
   ·by_cases h3:name.length=0
    ·rw[decide_eq_true h3];have g3:¬ (0:Int)<(name.length:Int):=by omega
     cases nb
     all_goals
      go_enter Tryz.func160,Tryz.ntmps160;go_wp2_with (first|(go_at_call 172;refine (hnu _ L).mono ?_;rintro e w1 ⟨rfl,hww⟩;obtain rfl:=hww.symm)|(go_at_call 173;refine (hty _ L).mono ?_;rintro e w1 ⟨rfl,l1⟩))
      go_ret;first|exact⟨rfl,L⟩|exact⟨dh (by simp),L.trans l1⟩
    ·rw[decide_eq_false h3];have g3:(0:Int)<(name.length:Int):=by omega
     go_enter Tryz.func160,Tryz.ntmps160;go_wp2_with fail
     go_ret;exact⟨dh (by simp),L⟩
   ·cases mb
    ·go_enter Tryz.func160,Tryz.ntmps160;go_wp2_with (go_at_call 54;refine (hna _ L).mono ?_;rintro e w1 ⟨rfl,hww⟩;obtain rfl:=hww.symm)
     go_ret;exact⟨dh (by simp),L⟩
    ·cases nb
     all_goals
      go_enter Tryz.func160,Tryz.ntmps160;go_wp2_with (first|(go_at_call 54;refine (hna _ L).mono ?_;rintro e w1 ⟨rfl,hww⟩;obtain rfl:=hww.symm)|(go_at_call 172;refine (hnu _ L).mono ?_;rintro e w1 ⟨rfl,hww⟩;obtain rfl:=hww.symm)|(go_at_call 173;refine (hty _ L).mono ?_;rintro e w1 ⟨rfl,l1⟩))
      go_ret;first|exact⟨rfl,L⟩|exact⟨dh (by simp),L.trans l1⟩
  ·rw[decide_eq_false h2];have g1:¬ (kids:Int)<fe:=by omega
   have g2:mo<(kids:Int):=by omega
   go_enter Tryz.func160,Tryz.ntmps160;go_wp2_with fail
   go_ret;exact⟨dh (by simp),L⟩
 ·rw[decide_eq_false h1];have g1:(kids:Int)<fe:=by omega
  go_enter Tryz.func160,Tryz.ntmps160;go_wp2_with fail
  go_ret;exact⟨dh (by simp),L⟩
theorem af.of_later {K:Nat}{w w':World}(h:Later w w'):af K w w':=af.later h (Nat.le_refl _)
theorem vk (K:Nat) (s p d:Int) (w:World) (hS:Sv K w s p) (hp0:0<=p) (hp1:p<=400):Calls Tryz.prog 112 #[.pointer (some ⟨K,0,none⟩),.int .i64 d] w fun e w'=>e=.returned (.bool (decide (p+1<=400)&&decide (d<=30)))/\Sv K w' s (p+1)/\af K w w':=by
 have c0:=hS.c0;have c1:=hS.c1;have f1:=hS.f1;have lt:=hS.lt
 have HE:Hid (Sv K (w.setCell ⟨K,1,none⟩ (.int .i64 (p+1))) s (p+1)/\af K w (w.setCell ⟨K,1,none⟩ (.int .i64 (p+1)))):=⟨⟨by rw[JC _ _ _ (by decide)];exact c0,jo c1,by rw[World.frozen?_setCell];exact f1,by rw[World.size_setCell];exact lt⟩,(af.refl _ _).set _ _⟩
 clear hS;by_cases h:p+1<=400
 ·rw[decide_eq_true h];go_enter Tryz.func112,Tryz.ntmps112;go_wp2_with fail
  go_ret;exact⟨dh (by simp),HE.out⟩
 ·rw[decide_eq_false h];go_enter Tryz.func112,Tryz.ntmps112;go_wp2_with fail
  go_ret;exact⟨dh (by simp),HE.out⟩
mutual
def Ex.good:Ex->Prop
 | .mk _ n _ _ _ ks=>InR n/\Ex.aZ ks
def Ex.aZ:List Ex->Prop
 | []=>True
 | x::r=>x.good/\Ex.aZ r
end
theorem Ex.nX:∀ (l:List Ex) (j:Nat) (h:j<l.length),Ex.aZ l->l[j].good
 | x::r,0,_,h=>by rw[Ex.aZ]at h;exact h.1
 | x::r,j+1,hj,h=>by rw[Ex.aZ]at h;exact Ex.nX r j (by simpa using hj) h.2
theorem Ex.Vd {x:Ex}(h:x.good):InR x.n:=by obtain⟨k,n,tk,tn,nm,ks⟩:=x;rw[Ex.good]at h;exact h.1
theorem Ex.Nh {x:Ex}(h:x.good):Ex.aZ x.kids:=by obtain⟨k,n,tk,tn,nm,ks⟩:=x;rw[Ex.good]at h;exact h.2
def lF (s k n tk tn:Int) (name:List Int) (kids:Nat):Bool:=match fF k with|some f=>dE f n tk tn name kids s|none=>false
mutual
def Ex.run (s:Int):Int->Int->Ex->Option Int
 | d,l,.mk k n tk tn nm ks=>if l - 1<0\/30<d\/lF s k n tk tn nm ks.length=false then none else Ex.runs s (d+1) (l - 1) ks
def Ex.runs (s:Int):Int->Int->List Ex->Option Int
 | _,l,[]=>some l
 | d,l,x::r=>match Ex.run s d l x with|none=>none|some l'=>Ex.runs s d l' r
end
theorem Ex.H6 (s d l:Int) (x:Ex):Ex.run s d l x=if l - 1<0\/30<d\/lF s x.kind x.n x.tk x.tn x.name x.kids.length=false then none else Ex.runs s (d+1) (l - 1) x.kids:=by
 obtain⟨k,n,tk,tn,nm,ks⟩:=x;rw[Ex.run];rfl
def Ex.dL (s d l:Int) (xs:List Ex) (j:Nat) (l':Int):Prop:=Ex.runs s d l xs=Ex.runs s d l' (xs.drop j)
theorem Ex.jM (s d l:Int) (xs:List Ex):Ex.dL s d l xs 0 l:=rfl
theorem Ex.kP {s d l l':Int}{xs:List Ex}(h:Ex.dL s d l xs xs.length l'):Ex.runs s d l xs=some l':=by
 unfold Ex.dL at h;rw[h,List.drop_length,Ex.runs]
theorem Ex.kN {s d l l' l'':Int}{xs:List Ex}{j:Nat}(h:Ex.dL s d l xs j l') (hj:j<xs.length) (hr:Ex.run s d l' xs[j]=some l''):Ex.dL s d l xs (j+1) l'':=by
 unfold Ex.dL at *;rw[h,List.drop_eq_getElem_cons hj,Ex.runs,hr]
theorem Ex.mZ {s d l l':Int}{xs:List Ex}{j:Nat}(h:Ex.dL s d l xs j l') (hj:j<xs.length) (hr:Ex.run s d l' xs[j]=none):Ex.runs s d l xs=none:=by
 unfold Ex.dL at h;rw[h,List.drop_eq_getElem_cons hj,Ex.runs,hr]
mutual
theorem Ex.kR (s:Int):∀ (x:Ex) (d l l':Int),Ex.run s d l x=some l'->0<=l'/\l'<l
 | .mk k n tk tn nm ks,d,l,l',h=>by
  rw[Ex.run]at h;split at h
  ·cases h
  ·rename_i hc
   rcases Ex.dw s ks _ _ _ h with ⟨h1,h2⟩
   exact⟨h2 (by omega),by omega⟩
theorem Ex.dw (s:Int):∀ (xs:List Ex) (d l l':Int),Ex.runs s d l xs=some l'->l'<=l/\(0<=l->0<=l')
 | [],d,l,l',h=>by rw[Ex.runs]at h;cases h;exact⟨Int.le_refl _,fun h=>h⟩
 | x::r,d,l,l',h=>by
  rw[Ex.runs]at h;split at h
  ·cases h
  ·rename_i l1 h1
   have a:=Ex.kR s x d l l1 h1;have b:=Ex.dw s r d l1 l' h;exact⟨by omega,fun _=>b.2 a.1⟩
end
theorem aB {K:Nat}{w0 w w':World}(h:Later w0 w) (ho:af K w w') (hK:w0.heap.size<=K):Later w0 w':=Below.trans h (ho.below hK h.size)
theorem bC {K:Nat}{w w':World}(ho:af K w w'):(∀ b o,b<w.heap.size->b≠K->w'.cell? ⟨b,o,none⟩=w.cell? ⟨b,o,none⟩):=fun b _ hb hn=>World.cell?_of_block (ho.block b hb hn)
def SvP (K:Nat) (s:Int) (w:World) (r:Option Int) (e:Ending) (w':World):Prop:=af K w w'/\match r with|some l=>e=.returned (.bool true)/\Sv K w' s (400 - l)|none=>e=.returned (.bool false)/\∃ p,Sv K w' s p
theorem SvP.no {K:Nat}{s p:Int}{w w':World}{r:Option Int}{e:Ending}(ho:af K w w') (hr:r=none) (he:e=.returned (.bool false)) (hS:Sv K w' s p):SvP K s w r e w':=by
 subst hr;exact⟨ho,he,p,hS⟩
theorem SvP.yes {K:Nat}{s p l:Int}{w w':World}{r:Option Int}{e:Ending}(ho:af K w w') (hr:r=some l) (he:e=.returned (.bool true)) (hS:Sv K w' s p) (hp:p=400 - l):SvP K s w r e w':=by
 subst hr;subst hp;exact⟨ho,he,hS⟩
theorem Na (x:Ex) (v0 v1:Value) (K:Nat) (s p d:Int) (w0 w:World) (hg:x.good) (h0:RdN w0 v0 x.name) (h1:RdL w0 6 v1 (Ex.ah x.kids)) (hL:Later w0 w) (hK:w0.heap.size<=K) (hS:Sv K w s p) (hp0:0<=p) (hp1:p<=400) (hd0:0<=d) (hd1:d<=31)
  (ih:∀ (p d:Int) (w:World),Later w0 w->Sv K w s p->0<=p->p<=400->0<=d->d<=31->Calls Tryz.prog 161 #[.pointer (some ⟨K,0,none⟩),v1,.int .i64 d] w fun e w'=>SvP K s w (Ex.runs s d (400 - p) x.kids) e w') :
  Calls Tryz.prog 174 #[.pointer (some ⟨K,0,none⟩),.agg #[.int .i64 x.kind,.int .i64 x.n,.int .i64 x.tk,.int .i64 x.tn,v0,v1],.int .i64 d] w fun e w'=>SvP K s w (Ex.run s d (400 - p) x) e w':=by
 have hne:w.heap.size≠K:=by have:=hS.lt;omega
 have hrun:=Ex.H6 s d (400 - p) x;have hF:=fun w=>IW x.kind w;have hn:=Ex.Vd hg;obtain⟨a0,p0,rfl,_⟩:=h0.slice;obtain⟨a1,p1,rfl,hkl⟩:=Ex.slice h1;clear h1 hg
 cases q:fF x.kind with
 | none =>
  have hr:Ex.run s d (400 - p) x=none:=by rw[hrun,if_pos (by right;right;unfold lF;rw[q])]
  rw[hr];rw[q]at hF;have HF:Hid (∀ w' e,Later w w'->e=.returned (.bool false)->SvP K s w none e w'):=fun w' e l he=>SvP.no (af.of_later l) rfl he (hS.later l)
  generalize x.kind=z_kind at *
  generalize x.n=z_n at *
  generalize x.tk=z_tk at *
  generalize x.tn=z_tn at *
  clear hr hrun ih h0;go_enter Tryz.func174,Tryz.ntmps174;go_wp2_with fail
  refine (hF _).mono ?_;rintro e w1 ⟨⟨f,rfl,_⟩,l1⟩;obtain⟨fe,mo,fn,ft,na,bo,ot⟩:=f;unfold pW;dsimp only;go_wp2_with fail
  go_ret;exact HF.out _ _ (((ae _ _).trans l1).alloc _) rfl
 | some f =>
  have hh:lF s x.kind x.n x.tk x.tn x.name x.kids.length=dE f x.n x.tk x.tn x.name x.kids.length s:=by unfold lF;rw[q]
  rw[hh]at hrun;have HQ:Hid (∀ g,fF x.kind=some g->g=f):=fun g hg=>by rw[q]at hg;cases hg;rfl
  have hF':∀ w,Calls Tryz.prog 178 #[.int .i64 x.kind] w fun e w'=>e=.returned (.tuple #[pW f,.bool true])/\Later w w':=fun w=>by
   refine (hF w).mono ?_;rintro e w' ⟨⟨g,he,hg⟩,l⟩;have:g=f:=hg f q;rw[this,q]at he;exact⟨he,l⟩
  clear hF HQ q hh;have hfit:=fun (p:Int) (w':World) (l:Later w0 w') (hS':Sv K w' s p)=>xZ K f x.n x.tk x.tn s p _ x.name a1 x.kids.length p1 w' hn hS' (h0.later l)
  generalize dE f x.n x.tk x.tn x.name x.kids.length s=fb at *
  obtain⟨fe,mo,fn,ft,na,bo,ot⟩:=f;unfold pW at hF' hfit;dsimp only at hF' hfit;have henter:=fun (w':World) (hS':Sv K w' s p)=>vk K s p d w' hS' hp0 hp1
  generalize Ex.run s d (400 - p) x=R at *
  by_cases hen:p+1<=400/\d<=30
  ·obtain⟨he1,he2⟩:=hen;rw[decide_eq_true he1,decide_eq_true he2]at henter
   cases fb
   ·have hr:R=none:=by rw[hrun,if_pos (by right;right;rfl)]
    subst hr;clear hrun ih
    generalize x.kind=z_kind at *
    generalize x.n=z_n at *
    generalize x.tk=z_tk at *
    generalize x.tn=z_tn at *
    go_enter Tryz.func174,Tryz.ntmps174;go_wp2_with fail
    refine (hF' _).mono ?_;rintro e w1 ⟨rfl,l1⟩;have L1:Later w w1:=(ae _ _).trans l1;have s1:=L1.size;have hz1:w.heap.size<w1.heap.size:=by have:=l1.size;simp at this;omega
    have hne1:w1.heap.size≠K:=by have:=hS.lt;omega
    obtain⟨hc1,_⟩:=dG l1;have hS1:Sv K (w1.alloc (.cells #[.int .i64 fe,.int .i64 mo,.int .i64 fn,.int .i64 ft,.bool na,.bool bo,.bool ot] 231)) s p:=hS.later (L1.alloc _);have hL1:=hL.trans (L1.alloc (.cells #[.int .i64 fe,.int .i64 mo,.int .i64 fn,.int .i64 ft,.bool na,.bool bo,.bool ot] 231));go_wp2_with (first|(go_at_call 112;refine (henter _ hS1).mono ?_;rintro e w2 ⟨rfl,hS2,o2⟩;have hc2:=bC o2;have hL2:=aB hL1 o2 hK)|(go_at_call 160;refine (hfit _ _ hL2 hS2).mono ?_;rintro e w3 ⟨rfl,l3⟩))
    go_ret;exact SvP.no (((af.of_later (L1.alloc _)).trans o2).trans (af.of_later l3)) rfl rfl (hS2.later l3)
   ·have hr:R=Ex.runs s (d+1) (400 - (p+1)) x.kids:=by rw[hrun,if_neg (by rintro (h|h|h) <;> first|omega|cases h),show (400:Int) - p - 1=400 - (p+1) by omega]
    subst hr;have hI:=fun w' l hS'=>ih (p+1) (d+1) w' l hS' (by omega) (by omega) (by omega) (by omega)
    generalize Ex.runs s (d+1) (400 - (p+1)) x.kids=R at *
    clear hrun ih
    generalize x.kind=z_kind at *
    generalize x.n=z_n at *
    generalize x.tk=z_tk at *
    generalize x.tn=z_tn at *
    go_enter Tryz.func174,Tryz.ntmps174;go_wp2_with fail
    refine (hF' _).mono ?_;rintro e w1 ⟨rfl,l1⟩;have L1:Later w w1:=(ae _ _).trans l1;have s1:=L1.size;have hz1:w.heap.size<w1.heap.size:=by have:=l1.size;simp at this;omega
    have hne1:w1.heap.size≠K:=by have:=hS.lt;omega
    obtain⟨hc1,_⟩:=dG l1;have hS1:Sv K (w1.alloc (.cells #[.int .i64 fe,.int .i64 mo,.int .i64 fn,.int .i64 ft,.bool na,.bool bo,.bool ot] 231)) s p:=hS.later (L1.alloc _);have hL1:=hL.trans (L1.alloc (.cells #[.int .i64 fe,.int .i64 mo,.int .i64 fn,.int .i64 ft,.bool na,.bool bo,.bool ot] 231));go_wp2_with (first|(go_at_call 112;refine (henter _ hS1).mono ?_;rintro e w2 ⟨rfl,hS2,o2⟩;have hc2:=bC o2;have hL2:=aB hL1 o2 hK;have hz2:w.heap.size<w2.heap.size:=(by have:=o2.size;simp at this;omega))|(go_at_call 160;refine (hfit _ _ hL2 hS2).mono ?_;rintro e w3 ⟨rfl,l3⟩;obtain⟨hc3,_⟩:=dG l3;have hS3:=hS2.later l3;have hL3:=hL2.trans l3))
    refine (hI _ hL3 hS3).mono ?_;rintro e w4 ⟨o4,hm⟩;have o:=(((af.of_later (L1.alloc (.cells #[.int .i64 fe,.int .i64 mo,.int .i64 fn,.int .i64 ft,.bool na,.bool bo,.bool ot] 231))).trans o2).trans (af.of_later l3)).trans o4
    cases R with
    | none =>
     obtain⟨rfl,p',hS4⟩:=hm;go_wp2_with fail
     go_ret;exact SvP.no o rfl rfl hS4
    | some l =>
     obtain⟨rfl,hS4⟩:=hm;go_wp2_with fail
     go_ret;exact SvP.yes o rfl rfl hS4 rfl
  ·have hr:R=none:=by rw[hrun,if_pos (by omega)]
   subst hr
   have he:(decide (p+1<=400)&&decide (d<=30))=false:=by
    by_cases h1:p+1<=400
    ·rw[decide_eq_false (show ¬ d<=30 by omega),Bool.and_false]
    ·rw[decide_eq_false h1,Bool.false_and]
   rw[he]at henter;clear hrun ih he
   generalize x.kind=z_kind at *
   generalize x.n=z_n at *
   generalize x.tk=z_tk at *
   generalize x.tn=z_tn at *
   go_enter Tryz.func174,Tryz.ntmps174;go_wp2_with fail
   refine (hF' _).mono ?_;rintro e w1 ⟨rfl,l1⟩;have L1:Later w w1:=(ae _ _).trans l1;have hS1:Sv K (w1.alloc (.cells #[.int .i64 fe,.int .i64 mo,.int .i64 fn,.int .i64 ft,.bool na,.bool bo,.bool ot] 231)) s p:=hS.later (L1.alloc _);go_wp2_with (go_at_call 112;refine (henter _ hS1).mono ?_;rintro e w2 ⟨rfl,hS2,o2⟩)
   go_ret;exact SvP.no ((af.of_later (L1.alloc _)).trans o2) rfl rfl hS2
theorem Ex.oP (x:Ex):Ex.szs x.kids<=x.sz:=by obtain⟨k,n,tk,tn,nm,ks⟩:=x;show Ex.szs ks<=nm.length+Ex.szs ks;omega
theorem I4 (N:Nat):∀ (v:Value) (l:List Ex) (K:Nat) (s p d:Int) (w0 w:World),Ex.szs l<=N->(Ex.aZ l)->RdL w0 6 v (Ex.ah l)->Later w0 w->w0.heap.size<=K->Sv K w s p->0<=p->p<=400->0<=d->d<=31 ->
  Calls Tryz.prog 161 #[.pointer (some ⟨K,0,none⟩),v,.int .i64 d] w fun e w'=>SvP K s w (Ex.runs s d (400 - p) l) e w':=by
 induction N using Nat.strongRecOn with
 | _ N IH =>
 intro v l K s p d w0 w hN hg h hL hK hS hp0 hp1 hd0 hd1;obtain⟨a,cap,rfl,hl⟩:=Ex.slice h;go_enter Tryz.func161,Tryz.ntmps161;go_wp2_with fail
 go_loopw [11] (fun i wr=>∃ (j:Nat) (q:Int),i=.int .i64 (j:Int)/\j<=l.length/\af K w wr/\Sv K wr s q/\0<=q/\q<=400/\Hid (Ex.dL s d (400 - p) l j (400 - q))) (fun i _=>l.length - (intOf i).toNat)
 case atStart=>exact⟨0,p,rfl,Nat.zero_le _,af.refl _ _,hS,hp0,hp1,Ex.jM _ _ _ _⟩
 case round =>
  obtain⟨j,q,rfl,hj,oR,hSr,hq0,hq1,HS⟩:=hrel;by_cases hlt:j<l.length
  ·obtain⟨g,off,v0,v1,rfl,hgs,c0,c1,c2,c3,c4,c5,r0,r1⟩:=Ex.elem h j hlt;have i1:(j:Int)<(l.length:Int):=by omega
   have hLr:=aB hL oR hK;have c0:wr.cell? ⟨g,off+j*6,none⟩=some (.int .i64 l[j].kind):=by rw[Below.cell hLr (p:=⟨g,off+j*6,none⟩) hgs];exact c0
   have c1:wr.cell? ⟨g,off+j*6+1,none⟩=some (.int .i64 l[j].n):=by rw[Below.cell hLr (p:=⟨g,off+j*6+1,none⟩) hgs];exact c1
   have c2:wr.cell? ⟨g,off+j*6+2,none⟩=some (.int .i64 l[j].tk):=by rw[Below.cell hLr (p:=⟨g,off+j*6+2,none⟩) hgs];exact c2
   have c3:wr.cell? ⟨g,off+j*6+3,none⟩=some (.int .i64 l[j].tn):=by rw[Below.cell hLr (p:=⟨g,off+j*6+3,none⟩) hgs];exact c3
   have c4:wr.cell? ⟨g,off+j*6+4,none⟩=some (v0):=by rw[Below.cell hLr (p:=⟨g,off+j*6+4,none⟩) hgs];exact c4
   have c5:wr.cell? ⟨g,off+j*6+5,none⟩=some (v1):=by rw[Below.cell hLr (p:=⟨g,off+j*6+5,none⟩) hgs];exact c5
   obtain⟨y0,q0,rfl,_⟩:=r0.slice;obtain⟨y1,q1,rfl,_⟩:=Ex.slice r1;have hE:=fun w' (lw:Later wr w')=>Na l[j] _ _ K s q d w0 w' (Ex.nX l j hlt hg) r0 r1 (hLr.trans lw) hK (hSr.later lw) hq0 hq1 hd0 hd1 (fun p' d' w' l' S' a b c e=>IH (Ex.szs l[j].kids) (by have:=Ex.dW l j hlt;have:Ex.szs l[j].kids<=l[j].sz:=Ex.oP _;omega) _ _ K s p' d' w0 w' (Nat.le_refl _) (Ex.Nh (Ex.nX l j hlt hg)) r1 l' hK S' a b c e)
   have HN:Hid (∀ l',Ex.run s d (400 - q) l[j]=some l'->Ex.dL s d (400 - p) l (j+1) l'/\0<=l'/\l'<400 - q):=fun l' hr=>⟨Ex.kN HS.out hlt hr,Ex.kR s _ _ _ _ hr⟩
   have HB:Hid (Ex.run s d (400 - q) l[j]=none->Ex.runs s d (400 - p) l=none):=fun hr=>Ex.mZ HS.out hlt hr;clear r0 r1 h HS
   generalize Ex.run s d (400 - q) l[j]=R at *
   generalize l[j].kind=z_kind at *
   generalize l[j].n=z_n at *
   generalize l[j].tk=z_tk at *
   generalize l[j].tn=z_tn at *
   go_wp2_with fail
   refine (hE _ (ae _ _)).mono ?_;rintro e w1 ⟨o1,hm⟩;have o:=oR.trans ((af.of_later (ae _ _)).trans o1)
   cases R with
   | none =>
    obtain⟨rfl,p',hS1⟩:=hm;have hb:Hid (Ex.runs s d (400 - p) l=none):=HB.out rfl;go_wp2_with fail
    go_ret;exact SvP.no o hb.out rfl hS1
   | some l' =>
    obtain⟨rfl,hS1⟩:=hm;obtain⟨n1,n2,n3⟩:=HN.out l' rfl;have HN1:Hid (Ex.dL s d (400 - p) l (j+1) (400 - (400 - l'))):=by rw[show (400:Int) - (400 - l')=l' by omega];exact n1
    clear n1 HN HB hE;go_wp2_with fail
    go_roundw
    case rel=>exact⟨j+1,400 - l',by go_num,by omega,o,hS1,by omega,by omega,HN1⟩
    case measure=>simp[intOf];omega
  ·have i1:¬ (j:Int)<(l.length:Int):=by omega
   have i2:decide ((j:Int)<(l.length:Int))=false:=decide_eq_false i1;have hjj:j=l.length:=by omega
   subst hjj;have HD:Hid (Ex.runs s d (400 - p) l=some (400 - q)):=Ex.kP HS.out;clear h HS;go_wp2_with fail
   go_ret;exact SvP.yes oR HD.out rfl hSr (by omega)
theorem IZ (v:Value) (l:List Ex) (K:Nat) (s p d:Int) (w0 w:World) (hg:Ex.aZ l) (h:RdL w0 6 v (Ex.ah l)) (hL:Later w0 w) (hK:w0.heap.size<=K) (hS:Sv K w s p) (hp0:0<=p) (hp1:p<=400) (hd0:0<=d) (hd1:d<=31) :
  Calls Tryz.prog 161 #[.pointer (some ⟨K,0,none⟩),v,.int .i64 d] w fun e w'=>SvP K s w (Ex.runs s d (400 - p) l) e w':=I4 _ v l K s p d w0 w (Nat.le_refl _) hg h hL hK hS hp0 hp1 hd0 hd1
def leftB (k:Int):Bool:=(k==3)||(k==7)||(k==8)
theorem Dk (x:Ex) (v0 v1:Value) (w:World):Calls Tryz.prog 136 #[.agg #[.int .i64 x.kind,.int .i64 x.n,.int .i64 x.tk,.int .i64 x.tn,v0,v1]] w fun e w'=>e=.returned (.bool (leftB x.kind))/\Later w w':=by
 unfold leftB
 generalize x.kind=k
 cases h3:k==3
 ·cases h7:k==7
  all_goals
   go_enter Tryz.func136,Tryz.ntmps136;go_wp2_with fail
   go_ret;exact⟨by first|rfl|(simp;done),ae _ _⟩
 ·go_enter Tryz.func136,Tryz.ntmps136;go_wp2_with fail
  go_ret;exact⟨rfl,ae _ _⟩
mutual
def St.good:St->Prop
 | .mk _ n _ _ _ ks bo el=>InR n/\Ex.aZ ks/\St.aZ bo/\St.aZ el
def St.aZ:List St->Prop
 | []=>True
 | x::r=>x.good/\St.aZ r
end
theorem St.nX:∀ (l:List St) (j:Nat) (h:j<l.length),St.aZ l->l[j].good
 | x::r,0,_,h=>by rw[St.aZ]at h;exact h.1
 | x::r,j+1,hj,h=>by rw[St.aZ]at h;exact St.nX r j (by simpa using hj) h.2
theorem St.xe {x:St}(h:x.good):InR x.n/\Ex.aZ x.kids/\St.aZ x.body/\St.aZ x.els:=by obtain⟨k,n,tk,tn,nm,ks,bo,el⟩:=x;rw[St.good]at h;exact h
def headB (k:Int) (ks:List Ex):Bool:=if k=1 then (match ks with|x::_=>leftB x.kind|[]=>false) else if k=7 then (match ks with|x::_=>x.kind==6|[]=>false) else true
def lD (s k n tk tn:Int) (name:List Int) (ks:List Ex) (body els:Nat):Bool:=match iD k with|some f=>dE f n tk tn name ks.length s&&(f.2.2.2.2.2.1||decide (body=0))&&(f.2.2.2.2.2.2||decide (els=0))&&headB k ks|none=>false
mutual
def St.run (s:Int):Int->Int->St->Option Int
 | d,l,.mk k n tk tn nm ks bo el=>if l - 1<0\/30<d\/lD s k n tk tn nm ks bo.length el.length=false then none else
  match Ex.runs s (d+1) (l - 1) ks with
  | none=>none
  | some l1=>match St.runs s (d+1) l1 bo with
   | none=>none
   | some l2=>St.runs s (d+1) l2 el
def St.runs (s:Int):Int->Int->List St->Option Int
 | _,l,[]=>some l
 | d,l,x::r=>match St.run s d l x with|none=>none|some l'=>St.runs s d l' r
end
theorem St.H6 (s d l:Int) (x:St):St.run s d l x=if l - 1<0\/30<d\/lD s x.kind x.n x.tk x.tn x.name x.kids x.body.length x.els.length=false then none else (match Ex.runs s (d+1) (l - 1) x.kids with|none=>none|some l1=>match St.runs s (d+1) l1 x.body with|none=>none|some l2=>St.runs s (d+1) l2 x.els):=by
 obtain⟨k,n,tk,tn,nm,ks,bo,el⟩:=x;rw[St.run];rfl
def St.dL (s d l:Int) (xs:List St) (j:Nat) (l':Int):Prop:=St.runs s d l xs=St.runs s d l' (xs.drop j)
theorem St.jM (s d l:Int) (xs:List St):St.dL s d l xs 0 l:=rfl
theorem St.kP {s d l l':Int}{xs:List St}(h:St.dL s d l xs xs.length l'):St.runs s d l xs=some l':=by
 unfold St.dL at h;rw[h,List.drop_length,St.runs]
theorem St.kN {s d l l' l'':Int}{xs:List St}{j:Nat}(h:St.dL s d l xs j l') (hj:j<xs.length) (hr:St.run s d l' xs[j]=some l''):St.dL s d l xs (j+1) l'':=by
 unfold St.dL at *;rw[h,List.drop_eq_getElem_cons hj,St.runs,hr]
theorem St.mZ {s d l l':Int}{xs:List St}{j:Nat}(h:St.dL s d l xs j l') (hj:j<xs.length) (hr:St.run s d l' xs[j]=none):St.runs s d l xs=none:=by
 unfold St.dL at h;rw[h,List.drop_eq_getElem_cons hj,St.runs,hr]
mutual
theorem St.kR (s:Int):∀ (x:St) (d l l':Int),St.run s d l x=some l'->0<=l'/\l'<l
 | .mk k n tk tn nm ks bo el,d,l,l',h=>by
  rw[St.run]at h;split at h
  ·cases h
  ·rename_i hc
   split at h
   ·cases h
   ·rename_i l1 h1
    split at h
    ·cases h
    ·rename_i l2 h2
     have a1:=Ex.dw s ks _ _ _ h1;have a2:=St.dw s bo _ _ _ h2;have a3:=St.dw s el _ _ _ h;have b1:=a1.2 (by omega);have b2:=a2.2 b1;exact⟨a3.2 b2,by omega⟩
theorem St.dw (s:Int):∀ (xs:List St) (d l l':Int),St.runs s d l xs=some l'->l'<=l/\(0<=l->0<=l')
 | [],d,l,l',h=>by rw[St.runs]at h;cases h;exact⟨Int.le_refl _,fun h=>h⟩
 | x::r,d,l,l',h=>by
  rw[St.runs]at h;split at h
  ·cases h
  ·rename_i l1 h1
   have a:=St.kR s x d l l1 h1;have b:=St.dw s r d l1 l' h;exact⟨by omega,fun _=>b.2 a.1⟩
end
end Go.Proofs.YtgaddpkkjebekaaGreatDoor
