import Derived.Test.YtjnpncefkigcbaaGreatHc
import Derived.Test.YtjnpncefkigcbaaGreatHd
import Derived.Deep.RegionHeld3
set_option maxHeartbeats 100000000
set_option maxRecDepth 100000
namespace Go.Proofs.YtjnpncefkigcbaaGreat
open Go.RowKit
def inB (n lo hi:Int):Bool:=decide (lo≤n)&&decide (n≤hi)
def plB (n c:Int):Bool:=decide (0≤n)&&decide (n<c)
theorem place_b {n c:Int}{b:Bool}(hb:plB n c=b) (w:World):Calls Tryz.prog 56 #[.int .i64 n,.int .i64 c] w fun e w'=>e=.returned (.bool b)∧w'=w:=by
 subst hb;unfold plB;by_cases h:0≤n
 ·rw[decide_eq_true h];go_enter Tryz.func56,Tryz.ntmps56;go_wp2
  go_ret;exact⟨by simp,rfl⟩
 ·rw[decide_eq_false h];go_enter Tryz.func56,Tryz.ntmps56;go_wp2
  go_ret;exact⟨by simp,rfl⟩
theorem isin_b {n lo hi:Int}{b:Bool}(hb:inB n lo hi=b) (w:World):Calls Tryz.prog 59 #[.int .i64 n,.int .i64 lo,.int .i64 hi] w fun e w'=>e=.returned (.bool b)∧w'=w:=by
 subst hb;unfold inB;by_cases h:lo≤n
 ·rw[decide_eq_true h];go_enter Tryz.func59,Tryz.ntmps59;go_wp2
  go_ret;exact⟨by simp,rfl⟩
 ·rw[decide_eq_false h];go_enter Tryz.func59,Tryz.ntmps59;go_wp2
  go_ret;exact⟨by simp,rfl⟩
def hmB (op:Int):Bool:=op==10||(op==11||op==23)
theorem hasmap_b {op:Int}{b:Bool}(hb:hmB op=b) (w:World):Calls Tryz.prog 127 #[.int .i64 op] w fun e w'=>e=.returned (.bool b)∧w'=w:=by
 subst hb;unfold hmB
 cases h0:(op==10) with
 | true =>
  go_enter Tryz.func127,Tryz.ntmps127;go_wp2
  go_ret;exact⟨rfl,rfl⟩
 | false =>
  cases h1:(op==11) with
  | true =>
   go_enter Tryz.func127,Tryz.ntmps127;go_wp2
   go_ret;exact⟨rfl,rfl⟩
  | false =>
   go_enter Tryz.func127,Tryz.ntmps127;go_wp2
   go_ret;exact⟨by simp,rfl⟩
def bnd (ns nc fr ni op:Int):Int × Int :=
 if op=0 then (-9223372036854775808,9223372036854775807)
 else if op=2 then (3,fr - 1)
 else if op=3 then (3,fr - 1)
 else if op=4 then (0,6)
 else if op=5 then (0,5)
 else if op=10 then (0,ns - 1)
 else if op=11 then (0,2)
 else if op=16 then (0,4)
 else if op=17 then (0,4)
 else if op=21 then (0,1)
 else if op=24 then (0,1)
 else if op=22 then (0,3)
 else if op=23 then (0,nc - 1)
 else if op=26 then (0,ni - 1)
 else if op=27 then (0,ni - 1)
 else (0,0)
theorem decOp (k:Int):(k=0∨k=2∨k=3∨k=4∨k=5∨k=10∨k=11∨k=16∨k=17∨k=21∨k=24∨k=22∨k=23∨k=26∨k=27)∨(k≠0∧k≠2∧k≠3∧k≠4∧k≠5∧k≠10∧k≠11∧k≠16∧k≠17∧k≠21∧k≠24∧k≠22∧k≠23∧k≠26∧k≠27):=by omega
theorem ibnd_any (B g o sn cn ni:Nat) (sa ca ia:Option Addr) (sc cc ic:Nat) (fr op:Int) (w:World) (hs:w.cell? ⟨B,0,none⟩=some (.slice sa sn sc)) (hc:w.cell? ⟨B,1,none⟩=some (.slice ca cn cc)) (hf:w.cell? ⟨g,o,none⟩=some (.int .i64 fr)) (hi:w.cell? ⟨g,o+2,none⟩=some (.slice ia ni ic))
  (hn1:(sn:Int)≤9223372036854775807) (hn2:(cn:Int)≤9223372036854775807) (hn3:(ni:Int)≤9223372036854775807) (hfr:0≤fr∧fr≤1000) :
  Calls Tryz.prog 126 #[.pointer (some ⟨B,0,none⟩),.pointer (some ⟨g,o,none⟩),.int .i64 op] w fun e w'=>e=.returned (.tuple #[.int .i64 (bnd sn cn fr ni op).1,.int .i64 (bnd sn cn fr ni op).2])∧∃ m,w'=w.drewN m:=by
 have h1:-9223372036854775808≤fr - 1∧fr - 1≤9223372036854775807:=by omega
 have h2:-9223372036854775808≤(sn:Int) - 1∧(sn:Int) - 1≤9223372036854775807:=by omega
 have h3:-9223372036854775808≤(cn:Int) - 1∧(cn:Int) - 1≤9223372036854775807:=by omega
 have h4:-9223372036854775808≤(ni:Int) - 1∧(ni:Int) - 1≤9223372036854775807:=by omega
 obtain⟨h11,h12⟩:=h1;obtain⟨h21,h22⟩:=h2;obtain⟨h31,h32⟩:=h3;obtain⟨h41,h42⟩:=h4;rcases decOp op with (rfl|rfl|rfl|rfl|rfl|rfl|rfl|rfl|rfl|rfl|rfl|rfl|rfl|rfl|rfl)|⟨n0,n2,n3,n4,n5,n10,n11,n16,n17,n21,n24,n22,n23,n26,n27⟩
 ·show Calls _ _ _ _ fun e w'=>e=.returned (.tuple #[.int .i64 (-9223372036854775808),.int .i64 (9223372036854775807)])∧_;go_enter Tryz.func126,Tryz.ntmps126;go_wp2
  exact bodyPost_ret (v:=.tuple #[.int .i64 (-9223372036854775808),.int .i64 (9223372036854775807)]) (by simp[results,Tryz.results126,go_sem]) rfl ⟨rfl,0,rfl⟩
 ·show Calls _ _ _ _ fun e w'=>e=.returned (.tuple #[.int .i64 (3),.int .i64 (fr - 1)])∧_;go_enter Tryz.func126,Tryz.ntmps126;go_wp2
  go_quiet (fail)
  go_wp2
  exact bodyPost_ret (v:=.tuple #[.int .i64 (3),.int .i64 (fr - 1)]) (by simp[results,Tryz.results126,go_sem]) rfl ⟨rfl,_,rfl⟩
 ·show Calls _ _ _ _ fun e w'=>e=.returned (.tuple #[.int .i64 (3),.int .i64 (fr - 1)])∧_;go_enter Tryz.func126,Tryz.ntmps126;go_wp2
  go_quiet (fail)
  go_wp2
  exact bodyPost_ret (v:=.tuple #[.int .i64 (3),.int .i64 (fr - 1)]) (by simp[results,Tryz.results126,go_sem]) rfl ⟨rfl,_,rfl⟩
 ·show Calls _ _ _ _ fun e w'=>e=.returned (.tuple #[.int .i64 (0),.int .i64 (6)])∧_;go_enter Tryz.func126,Tryz.ntmps126;go_wp2
  exact bodyPost_ret (v:=.tuple #[.int .i64 (0),.int .i64 (6)]) (by simp[results,Tryz.results126,go_sem]) rfl ⟨rfl,0,rfl⟩
 ·show Calls _ _ _ _ fun e w'=>e=.returned (.tuple #[.int .i64 (0),.int .i64 (5)])∧_;go_enter Tryz.func126,Tryz.ntmps126;go_wp2
  exact bodyPost_ret (v:=.tuple #[.int .i64 (0),.int .i64 (5)]) (by simp[results,Tryz.results126,go_sem]) rfl ⟨rfl,0,rfl⟩
 ·show Calls _ _ _ _ fun e w'=>e=.returned (.tuple #[.int .i64 (0),.int .i64 ((sn:Int) - 1)])∧_;go_enter Tryz.func126,Tryz.ntmps126;go_wp2
  go_quiet (fail)
  go_wp2
  exact bodyPost_ret (v:=.tuple #[.int .i64 (0),.int .i64 ((sn:Int) - 1)]) (by simp[results,Tryz.results126,go_sem]) rfl ⟨rfl,_,rfl⟩
 ·show Calls _ _ _ _ fun e w'=>e=.returned (.tuple #[.int .i64 (0),.int .i64 (2)])∧_;go_enter Tryz.func126,Tryz.ntmps126;go_wp2
  exact bodyPost_ret (v:=.tuple #[.int .i64 (0),.int .i64 (2)]) (by simp[results,Tryz.results126,go_sem]) rfl ⟨rfl,0,rfl⟩
 ·show Calls _ _ _ _ fun e w'=>e=.returned (.tuple #[.int .i64 (0),.int .i64 (4)])∧_;go_enter Tryz.func126,Tryz.ntmps126;go_wp2
  exact bodyPost_ret (v:=.tuple #[.int .i64 (0),.int .i64 (4)]) (by simp[results,Tryz.results126,go_sem]) rfl ⟨rfl,0,rfl⟩
 ·show Calls _ _ _ _ fun e w'=>e=.returned (.tuple #[.int .i64 (0),.int .i64 (4)])∧_;go_enter Tryz.func126,Tryz.ntmps126;go_wp2
  exact bodyPost_ret (v:=.tuple #[.int .i64 (0),.int .i64 (4)]) (by simp[results,Tryz.results126,go_sem]) rfl ⟨rfl,0,rfl⟩
 ·show Calls _ _ _ _ fun e w'=>e=.returned (.tuple #[.int .i64 (0),.int .i64 (1)])∧_;go_enter Tryz.func126,Tryz.ntmps126;go_wp2
  exact bodyPost_ret (v:=.tuple #[.int .i64 (0),.int .i64 (1)]) (by simp[results,Tryz.results126,go_sem]) rfl ⟨rfl,0,rfl⟩
 ·show Calls _ _ _ _ fun e w'=>e=.returned (.tuple #[.int .i64 (0),.int .i64 (1)])∧_;go_enter Tryz.func126,Tryz.ntmps126;go_wp2
  exact bodyPost_ret (v:=.tuple #[.int .i64 (0),.int .i64 (1)]) (by simp[results,Tryz.results126,go_sem]) rfl ⟨rfl,0,rfl⟩
 ·show Calls _ _ _ _ fun e w'=>e=.returned (.tuple #[.int .i64 (0),.int .i64 (3)])∧_;go_enter Tryz.func126,Tryz.ntmps126;go_wp2
  exact bodyPost_ret (v:=.tuple #[.int .i64 (0),.int .i64 (3)]) (by simp[results,Tryz.results126,go_sem]) rfl ⟨rfl,0,rfl⟩
 ·show Calls _ _ _ _ fun e w'=>e=.returned (.tuple #[.int .i64 (0),.int .i64 ((cn:Int) - 1)])∧_;go_enter Tryz.func126,Tryz.ntmps126;go_wp2
  go_quiet (fail)
  go_wp2
  exact bodyPost_ret (v:=.tuple #[.int .i64 (0),.int .i64 ((cn:Int) - 1)]) (by simp[results,Tryz.results126,go_sem]) rfl ⟨rfl,_,rfl⟩
 ·show Calls _ _ _ _ fun e w'=>e=.returned (.tuple #[.int .i64 (0),.int .i64 ((ni:Int) - 1)])∧_;go_enter Tryz.func126,Tryz.ntmps126;go_wp2
  go_quiet (fail)
  go_wp2
  exact bodyPost_ret (v:=.tuple #[.int .i64 (0),.int .i64 ((ni:Int) - 1)]) (by simp[results,Tryz.results126,go_sem]) rfl ⟨rfl,_,rfl⟩
 ·show Calls _ _ _ _ fun e w'=>e=.returned (.tuple #[.int .i64 (0),.int .i64 ((ni:Int) - 1)])∧_;go_enter Tryz.func126,Tryz.ntmps126;go_wp2
  go_quiet (fail)
  go_wp2
  exact bodyPost_ret (v:=.tuple #[.int .i64 (0),.int .i64 ((ni:Int) - 1)]) (by simp[results,Tryz.results126,go_sem]) rfl ⟨rfl,_,rfl⟩
 ·have e:bnd sn cn fr ni op=(0,0):=by
   unfold bnd;rw[if_neg n0,if_neg n2,if_neg n3,if_neg n4,if_neg n5,if_neg n10,if_neg n11,if_neg n16,if_neg n17,if_neg n21,if_neg n24,if_neg n22,if_neg n23,if_neg n26,if_neg n27]
  rw[e];have m0:(op==0)=false:=by simpa using n0
  have m2:(op==2)=false:=by simpa using n2
  have m3:(op==3)=false:=by simpa using n3
  have m4:(op==4)=false:=by simpa using n4
  have m5:(op==5)=false:=by simpa using n5
  have m10:(op==10)=false:=by simpa using n10
  have m11:(op==11)=false:=by simpa using n11
  have m16:(op==16)=false:=by simpa using n16
  have m17:(op==17)=false:=by simpa using n17
  have m21:(op==21)=false:=by simpa using n21
  have m24:(op==24)=false:=by simpa using n24
  have m22:(op==22)=false:=by simpa using n22
  have m23:(op==23)=false:=by simpa using n23
  have m26:(op==26)=false:=by simpa using n26
  have m27:(op==27)=false:=by simpa using n27
  go_enter Tryz.func126,Tryz.ntmps126;go_wp2
  exact bodyPost_ret (v:=.tuple #[.int .i64 0,.int .i64 0]) (by simp[results,Tryz.results126,go_sem]) rfl ⟨rfl,0,rfl⟩
def insB (ns nc fr ni:Int) (x:Is):Bool:=inB x.op 0 27&&(plB x.a 16&&(plB x.b 16&&(plB x.c 16&&inB x.n (bnd ns nc fr ni x.op).1 (bnd ns nc fr ni x.op).2)))
theorem insok_b (B g o sn cn ni:Nat) (sa ca ia:Option Addr) (sc cc ic:Nat) (fr:Int) (x:Is) (w:World) (hs:w.cell? ⟨B,0,none⟩=some (.slice sa sn sc)) (hc:w.cell? ⟨B,1,none⟩=some (.slice ca cn cc)) (hf:w.cell? ⟨g,o,none⟩=some (.int .i64 fr)) (hi:w.cell? ⟨g,o+2,none⟩=some (.slice ia ni ic)) (hB:B<w.heap.size) (hg:g<w.heap.size)
  (hn1:(sn:Int)≤9223372036854775807) (hn2:(cn:Int)≤9223372036854775807) (hn3:(ni:Int)≤9223372036854775807) (hfr:0≤fr∧fr≤1000) :
  Calls Tryz.prog 87 #[.pointer (some ⟨B,0,none⟩),.pointer (some ⟨g,o,none⟩),.agg #[.int .i64 x.op,.int .i64 x.a,.int .i64 x.b,.int .i64 x.c,.int .i64 x.n]] w fun e w'=>e=.returned (.bool (insB sn cn fr ni x))∧Later w w':=by
 obtain⟨op,a,b,c,n⟩:=x;unfold insB;dsimp only;have hbd:=fun w' (l:Later w w')=>ibnd_any B g o sn cn ni sa ca ia sc cc ic fr op w' (by rw[Below.cell l (p:=⟨B,0,none⟩) hB];exact hs) (by rw[Below.cell l (p:=⟨B,1,none⟩) hB];exact hc) (by rw[Below.cell l (p:=⟨g,o,none⟩) hg];exact hf) (by rw[Below.cell l (p:=⟨g,o+2,none⟩) hg];exact hi) hn1 hn2 hn3 hfr
 generalize bnd sn cn fr ni op=bb at *
 obtain⟨lo,hi'⟩:=bb;dsimp only at *;have L1:=later1 w (.cells #[.int .i64 op,.int .i64 a,.int .i64 b,.int .i64 c,.int .i64 n] 97)
 cases e0:inB op 0 27 with
 | false =>
  go_enter Tryz.func87,Tryz.ntmps87;go_wp2_with (first|(go_at_call 59;refine (isin_b (by assumption) _).mono ?_;rintro e w1 ⟨rfl,hww⟩;obtain rfl:=hww.symm)|(go_at_call 56;refine (place_b (by assumption) _).mono ?_;rintro e w1 ⟨rfl,hww⟩;obtain rfl:=hww.symm))
  go_ret;exact⟨rfl,L1⟩
 | true =>
 cases e1:plB a 16 with
 | false =>
  go_enter Tryz.func87,Tryz.ntmps87;go_wp2_with (first|(go_at_call 59;refine (isin_b (by assumption) _).mono ?_;rintro e w1 ⟨rfl,hww⟩;obtain rfl:=hww.symm)|(go_at_call 56;refine (place_b (by assumption) _).mono ?_;rintro e w1 ⟨rfl,hww⟩;obtain rfl:=hww.symm))
  go_ret;exact⟨rfl,L1⟩
 | true =>
 cases e2:plB b 16 with
 | false =>
  go_enter Tryz.func87,Tryz.ntmps87;go_wp2_with (first|(go_at_call 59;refine (isin_b (by assumption) _).mono ?_;rintro e w1 ⟨rfl,hww⟩;obtain rfl:=hww.symm)|(go_at_call 56;refine (place_b (by assumption) _).mono ?_;rintro e w1 ⟨rfl,hww⟩;obtain rfl:=hww.symm))
  go_ret;exact⟨rfl,L1⟩
 | true =>
 cases e3:plB c 16 with
 | false =>
  go_enter Tryz.func87,Tryz.ntmps87;go_wp2_with (first|(go_at_call 59;refine (isin_b (by assumption) _).mono ?_;rintro e w1 ⟨rfl,hww⟩;obtain rfl:=hww.symm)|(go_at_call 56;refine (place_b (by assumption) _).mono ?_;rintro e w1 ⟨rfl,hww⟩;obtain rfl:=hww.symm))
  go_ret;exact⟨rfl,L1⟩
 | true =>
  cases e4:inB n lo hi'
  all_goals
   go_enter Tryz.func87,Tryz.ntmps87;go_wp2_with (first|(go_at_call 59;refine (isin_b (by assumption) _).mono ?_;rintro e w1 ⟨rfl,hww⟩;obtain rfl:=hww.symm)|(go_at_call 56;refine (place_b (by assumption) _).mono ?_;rintro e w1 ⟨rfl,hww⟩;obtain rfl:=hww.symm))
   refine (hbd _ (later1 _ _)).mono ?_;rintro e w2 ⟨rfl,m,rfl⟩;go_wp2_with (first|(go_at_call 59;refine (isin_b (by assumption) _).mono ?_;rintro e w1 ⟨rfl,hww⟩;obtain rfl:=hww.symm)|(go_at_call 56;refine (place_b (by assumption) _).mono ?_;rintro e w1 ⟨rfl,hww⟩;obtain rfl:=hww.symm))
   go_ret;exact⟨rfl,later_drewN L1 _⟩
def slB (fr:Int):Int→List Int→Bool
 | _,[]=>true
 | lo,s::r=>inB s lo (fr - 1)&&slB fr (s+1) r
theorem inB_iff {n lo hi:Int}:inB n lo hi=true↔lo≤n∧n≤hi:=by unfold inB;rw[Bool.and_eq_true,decide_eq_true_iff,decide_eq_true_iff]
theorem slots_b (v:Value) (l:List Int) (fr:Int) (w:World) (h:RdL w 1 v (In.dats l)) (hfr:0≤fr∧fr≤1000) {b:Bool}(hb:slB fr 3 l=b) :
  Calls Tryz.prog 128 #[v,.int .i64 fr] w fun e w'=>e=.returned (.bool b)∧w'=w:=by
 obtain⟨a,cap,rfl,hl⟩:=In.slice h;have r1:-9223372036854775808≤fr - 1:=by omega
 have r2:fr - 1≤9223372036854775807:=by omega
 go_enter Tryz.func128,Tryz.ntmps128;go_wp2_with fail
 go_loopw [5,10] (fun lo i wr=>∃ (k:Nat) (z:Int),lo=.int .i64 z∧i=.int .i64 (k:Int)∧k≤l.length∧3≤z∧slB fr z (l.drop k)=b∧wr=w) (fun _ i _=>l.length - (intOf i).toNat)
 case atStart=>exact⟨0,3,rfl,rfl,Nat.zero_le _,Int.le_refl _,hb,rfl⟩
 case round =>
  obtain⟨k,z,rfl,rfl,hk,hz,hS,rfl⟩:=hrel;by_cases hlt:k<l.length
  ·obtain⟨g,off,rfl,hg,c0⟩:=In.elem h k hlt;have i1:(k:Int)<(l.length:Int):=by omega
   rw[List.drop_eq_getElem_cons hlt,slB]at hS
   generalize l[k]=y at *
   cases e0:inB y z (fr - 1) with
   | false =>
    rw[e0,Bool.false_and]at hS;subst hS;clear h hb;go_wp2_with (go_at_call 59;refine (isin_b (by assumption) _).mono ?_;rintro e w1 ⟨rfl,hww⟩;obtain rfl:=hww.symm)
    go_ret;exact⟨rfl,rfl⟩
   | true =>
    rw[e0,Bool.true_and]at hS;have q:=inB_iff.1 e0;have r3:-9223372036854775808≤y+1:=by omega
    have r4:y+1≤9223372036854775807:=by omega
    have HS:Hid (slB fr (y+1) (l.drop (k+1))=b):=hS;clear h hb hS;go_wp2_with (go_at_call 59;refine (isin_b (by assumption) _).mono ?_;rintro e w1 ⟨rfl,hww⟩;obtain rfl:=hww.symm)
    go_roundw
    case rel=>exact⟨k+1,y+1,by go_num,by go_num,by omega,by omega,HS.out,trivial⟩
    case measure=>simp[intOf];omega
  ·have i1:¬ (k:Int)<(l.length:Int):=by omega
   have i2:decide ((k:Int)<(l.length:Int))=false:=decide_eq_false i1;rw[List.drop_eq_nil_of_le (by omega),slB]at hS;subst hS;clear h hb;go_wp2_with fail
   go_ret;exact⟨rfl,rfl⟩
def mrB (n:Nat) (f:Int):Bool:=decide ((n:Int)≤100)&&(decide (0≤f)&&decide (f≤200000))
def seB (x:Se):Bool:=inB x.half 8 4000&&(inB x.stack 16 2000&&(mrB x.input.length x.fuel&&decide ((x.oracle.length:Int)≤2000)))
theorem mayrun_b {a:Option Addr}{n c:Nat}{f:Int}{b:Bool}(hb:mrB n f=b) (w:World):Calls Tryz.prog 60 #[.slice a n c,.int .i64 f] w fun e w'=>e=.returned (.bool b)∧w'=w:=by
 subst hb;unfold mrB;by_cases h:(n:Int)≤100
 ·rw[decide_eq_true h];by_cases h2:0≤f
  ·rw[decide_eq_true h2];go_enter Tryz.func60,Tryz.ntmps60;go_wp2
   go_ret;exact⟨by simp,rfl⟩
  ·rw[decide_eq_false h2];go_enter Tryz.func60,Tryz.ntmps60;go_wp2
   go_ret;exact⟨by simp,rfl⟩
 ·rw[decide_eq_false h];go_enter Tryz.func60,Tryz.ntmps60;go_wp2
  go_ret;exact⟨by simp,rfl⟩
theorem isetup_b (x:Se) (v0 v1:Value) (w:World) (h0:RdL w 1 v0 (In.dats x.input)) (h1:RdL w 1 v1 (In.dats x.oracle)) {b:Bool}(hb:seB x=b) :
  Calls Tryz.prog 29 #[.agg #[.int .i64 x.half,.int .i64 x.stack,v0,.int .i64 x.fuel,v1]] w fun e w'=>e=.returned (.bool b)∧Later w w':=by
 obtain⟨a0,p0,rfl,_⟩:=In.slice h0;obtain⟨a1,p1,rfl,_⟩:=In.slice h1;subst hb;unfold seB;clear h0 h1
 generalize x.half=zh at *
 generalize x.stack=zs at *
 generalize x.fuel=zf at *
 generalize x.input.length=ni at *
 generalize x.oracle.length=no at *
 cases e1:inB zh 8 4000 with
 | false =>
  rw[Bool.false_and];go_enter Tryz.func29,Tryz.ntmps29;go_wp2_with fail
  refine (isin_b e1 _).mono ?_;rintro e w1 ⟨rfl,rfl⟩;go_wp2_with fail
  go_ret;exact⟨rfl,later1 _ _⟩
 | true =>
  rw[Bool.true_and]
  cases e2:inB zs 16 2000 with
  | false =>
   rw[Bool.false_and];go_enter Tryz.func29,Tryz.ntmps29;go_wp2_with fail
   refine (isin_b e1 _).mono ?_;rintro e w1 ⟨rfl,rfl⟩;go_wp2_with fail
   refine (isin_b e2 _).mono ?_;rintro e w1 ⟨rfl,rfl⟩;go_wp2_with fail
   go_ret;exact⟨rfl,later1 _ _⟩
  | true =>
   rw[Bool.true_and]
   cases e3:mrB ni zf with
   | false =>
    rw[Bool.false_and];go_enter Tryz.func29,Tryz.ntmps29;go_wp2_with fail
    refine (isin_b e1 _).mono ?_;rintro e w1 ⟨rfl,rfl⟩;go_wp2_with fail
    refine (isin_b e2 _).mono ?_;rintro e w1 ⟨rfl,rfl⟩;go_wp2_with fail
    refine (mayrun_b e3 _).mono ?_;rintro e w1 ⟨rfl,rfl⟩;go_wp2_with fail
    go_ret;exact⟨rfl,later1 _ _⟩
   | true =>
    rw[Bool.true_and];go_enter Tryz.func29,Tryz.ntmps29;go_wp2_with fail
    refine (isin_b e1 _).mono ?_;rintro e w1 ⟨rfl,rfl⟩;go_wp2_with fail
    refine (isin_b e2 _).mono ?_;rintro e w1 ⟨rfl,rfl⟩;go_wp2_with fail
    refine (mayrun_b e3 _).mono ?_;rintro e w1 ⟨rfl,rfl⟩;go_wp2_with fail
    go_ret;exact⟨rfl,later1 _ _⟩
theorem ssetup_b (x:Se) (v0 v1:Value) (w:World) (h0:RdL w 1 v0 (In.dats x.input)) (h1:RdL w 1 v1 (In.dats x.oracle)) {b:Bool}(hb:seB x=b) :
  Calls Tryz.prog 21 #[.agg #[.int .i64 x.half,.int .i64 x.stack,v0,.int .i64 x.fuel,v1]] w fun e w'=>e=.returned (.bool b)∧Later w w':=by
 obtain⟨a0,p0,rfl,_⟩:=In.slice h0;obtain⟨a1,p1,rfl,_⟩:=In.slice h1;subst hb;have HB:Hid (∀ zh zs zf:Int,∀ ni no:Nat,x.half=zh→x.stack=zs→x.fuel=zf→x.input.length=ni→x.oracle.length=no→seB x=(inB zh 8 4000&&(inB zs 16 2000&&(mrB ni zf&&decide ((no:Int)≤2000))))):=fun _ _ _ _ _ e1 e2 e3 e4 e5=>by unfold seB;rw[e1,e2,e3,e4,e5]
 have HB2:=HB.out _ _ _ _ _ rfl rfl rfl rfl rfl;rw[HB2];clear h0 h1 HB HB2
 generalize x.half=zh at *
 generalize x.stack=zs at *
 generalize x.fuel=zf at *
 generalize x.input.length=ni at *
 generalize x.oracle.length=no at *
 unfold inB mrB;by_cases c0:zh<8
 ·have d:decide (8≤zh)=false:=decide_eq_false (by omega);rw[d];clear d;simp only[Bool.false_and];go_enter Tryz.func21,Tryz.ntmps21;go_wp2_with fail
  go_ret;exact⟨by first|rfl|simp[*]|(simp;omega),later1 _ _⟩
 have d0:decide (8≤zh)=true:=decide_eq_true (by omega);rw[d0];clear d0;by_cases c1:4000<zh
 ·have d:decide (zh≤4000)=false:=decide_eq_false (by omega);rw[d];clear d;simp only[Bool.false_and,Bool.and_false];go_enter Tryz.func21,Tryz.ntmps21;go_wp2_with fail
  go_ret;exact⟨by first|rfl|simp[*]|(simp;omega),later1 _ _⟩
 have d1:decide (zh≤4000)=true:=decide_eq_true (by omega);rw[d1];clear d1;by_cases c2:zs<16
 ·have d:decide (16≤zs)=false:=decide_eq_false (by omega);rw[d];clear d;simp only[Bool.false_and,Bool.and_false];go_enter Tryz.func21,Tryz.ntmps21;go_wp2_with fail
  go_ret;exact⟨by first|rfl|simp[*]|(simp;omega),later1 _ _⟩
 have d2:decide (16≤zs)=true:=decide_eq_true (by omega);rw[d2];clear d2;by_cases c3:2000<zs
 ·have d:decide (zs≤2000)=false:=decide_eq_false (by omega);rw[d];clear d;simp only[Bool.false_and,Bool.and_false];go_enter Tryz.func21,Tryz.ntmps21;go_wp2_with fail
  go_ret;exact⟨by first|rfl|simp[*]|(simp;omega),later1 _ _⟩
 have d3:decide (zs≤2000)=true:=decide_eq_true (by omega);rw[d3];clear d3;simp only[Bool.true_and];by_cases f0:(ni:Int)≤100
 rotate_left
 ·rw[decide_eq_false f0];simp only[Bool.false_and];go_enter Tryz.func21,Tryz.ntmps21;go_wp2_with fail
  go_ret;exact⟨by first|rfl|simp[*]|(simp;omega),later1 _ _⟩
 rw[decide_eq_true f0];simp only[Bool.true_and];by_cases f1:0≤zf
 rotate_left
 ·rw[decide_eq_false f1];simp only[Bool.false_and];go_enter Tryz.func21,Tryz.ntmps21;go_wp2_with fail
  go_ret;exact⟨by first|rfl|simp[*]|(simp;omega),later1 _ _⟩
 rw[decide_eq_true f1];simp only[Bool.true_and];by_cases f2:zf≤200000
 rotate_left
 ·rw[decide_eq_false f2];simp only[Bool.false_and];go_enter Tryz.func21,Tryz.ntmps21;go_wp2_with fail
  go_ret;exact⟨by first|rfl|simp[*]|(simp;omega),later1 _ _⟩
 rw[decide_eq_true f2];simp only[Bool.true_and];go_enter Tryz.func21,Tryz.ntmps21;go_wp2_with fail
 go_ret;exact⟨by first|rfl|simp[*]|(simp;omega),later1 _ _⟩
def mpB (fr:Int):Nat→List Is→List Ma→Bool
 | _,[],ms=>(ms.length:Int)==0
 | pc,i::r,ms=>if hmB i.op then (match ms with|[]=>false|m::t=>(m.pc==(pc:Int))&&(slB fr 3 m.slots&&mpB fr (pc+1) r t)) else mpB fr (pc+1) r ms
theorem mpB_skip {fr:Int}{pc:Nat}{i:Is}{r:List Is}{ms:List Ma}(h:hmB i.op=false):mpB fr pc (i::r) ms=mpB fr (pc+1) r ms:=by cases ms <;> simp[mpB,h]
theorem mpB_none {fr:Int}{pc:Nat}{i:Is}{r:List Is}(h:hmB i.op=true):mpB fr pc (i::r) []=false:=by simp[mpB,h]
theorem mpB_some {fr:Int}{pc:Nat}{i:Is}{r:List Is}{m:Ma}{t:List Ma}(h:hmB i.op=true):mpB fr pc (i::r) (m::t)=((m.pc==(pc:Int))&&(slB fr 3 m.slots&&mpB fr (pc+1) r t)):=by simp[mpB,h]
theorem Ma.tail {w:World}{g off n cap:Nat}{x:Ma}{l:List Ma}(h:RdL w 2 (.slice (some ⟨g,off,none⟩) n cap) (Ma.dats (x::l))):n=l.length+1∧n≤cap∧RdL w 2 (.slice (if cap=1 then some ⟨g,off,none⟩ else some ⟨g,off+2,none⟩) l.length (cap - 1)) (Ma.dats l):=by
 obtain⟨a,c,e,hl,hd⟩:=h;rw[Ma.dats_len,List.length_cons]at e hl
 cases e
 refine⟨rfl,hl.1,_,cap - 1,by rw[Ma.dats_len],by rw[Ma.dats_len];omega,fun j hj=>?_⟩;rw[Ma.dats_len]at hj;rw[if_neg (by omega)];obtain⟨g',off',cs,e,hg,hk,hc,hr⟩:=hd (j+1) (by rw[Ma.dats_len,List.length_cons];omega)
 cases e
 refine⟨g,off+2,cs,rfl,hg,hk,fun m u hm=>?_,?_⟩
 ·rw[show off+2+j*2+m=off+(j+1)*2+m by omega];exact hc m u hm
 ·exact hr
theorem maps_b (g o:Nat) (fr:Int) (is:List Is) (ms:List Ma) (iv mv:Value) (w:World) (hf:w.cell? ⟨g,o,none⟩=some (.int .i64 fr)) (hi:w.cell? ⟨g,o+2,none⟩=some iv) (hm:w.cell? ⟨g,o+3,none⟩=some mv) (hg:g<w.heap.size) (h0:RdL w 5 iv (Is.dats is)) (h1:RdL w 2 mv (Ma.dats ms)) (hfr:0≤fr∧fr≤1000) {b:Bool}(hb:mpB fr 0 is ms=b) :
  Calls Tryz.prog 88 #[.pointer (some ⟨g,o,none⟩)] w fun e w'=>e=.returned (.bool b)∧Later w w':=by
 obtain⟨a,cap,rfl,hl⟩:=Is.slice h0;obtain⟨a',cap',rfl,_⟩:=Ma.slice h1
 have HF:Hid (∀ w',Later w w'→w'.cell? ⟨g,o,none⟩=some (.int .i64 fr)∧g<w'.heap.size):=fun w' l=>⟨by rw[Below.cell l (p:=⟨g,o,none⟩) hg];exact hf,Nat.lt_of_lt_of_le hg l.size⟩
 go_enter Tryz.func88,Tryz.ntmps88;go_wp2_with fail
 go_loopw [3,15] (fun rv i wr=>∃ (k:Nat) (rs:List Ma),i=.int .i64 (k:Int)∧k≤is.length∧Later w wr∧RdL w 2 rv (Ma.dats rs)∧mpB fr k (is.drop k) rs=b) (fun _ i _=>is.length - (intOf i).toNat)
 case atStart=>exact⟨0,ms,rfl,Nat.zero_le _,Later.refl _,h1,hb⟩
 case round =>
  obtain⟨k,rs,rfl,hk,lr,hR,hS⟩:=hrel;clear h1 hb;obtain⟨hf',hg'⟩:=HF.out wr lr;by_cases hlt:k<is.length
  ·obtain⟨gi,off,rfl,hgi,c0,c1,c2,c3,c4⟩:=Is.elem (RdL.later lr h0) k hlt;have i1:(k:Int)<(is.length:Int):=by omega
   rw[List.drop_eq_getElem_cons hlt]at hS
   cases e0:hmB is[k].op with
   | false =>
    rw[mpB_skip e0]at hS;have HS:Hid (mpB fr (k+1) (is.drop (k+1)) rs=b):=hS
    generalize is[k].op=z0 at *
    generalize is[k].a=z1 at *
    generalize is[k].b=z2 at *
    generalize is[k].c=z3 at *
    generalize is[k].n=z4 at *
    obtain⟨ra,rc,rfl,_⟩:=Ma.slice hR;have HR:Hid (RdL w 2 (.slice ra rs.length rc) (Ma.dats rs)):=hR;clear h0 hS hR;go_wp2_with (go_at_call 127;refine (hasmap_b (by assumption) _).mono ?_;rintro e w1 ⟨rfl,hww⟩;obtain rfl:=hww.symm)
    go_roundw
    case rel=>exact⟨k+1,rs,by go_num,by omega,lr.trans (later1 _ _),HR.out,HS.out⟩
    case measure=>simp[intOf];omega
   | true =>
    cases rs with
    | nil =>
     rw[mpB_none e0]at hS;subst hS
     generalize is[k].op=z0 at *
     generalize is[k].a=z1 at *
     generalize is[k].b=z2 at *
     generalize is[k].c=z3 at *
     generalize is[k].n=z4 at *
     obtain⟨ra,rc,rfl,_⟩:=Ma.slice hR;clear h0 hR;go_wp2_with (go_at_call 127;refine (hasmap_b (by assumption) _).mono ?_;rintro e w1 ⟨rfl,hww⟩;obtain rfl:=hww.symm)
     go_quiet (fail)
     go_wp2_with fail
     go_ret;exact⟨rfl,later_drewN (lr.trans (later1 _ _)) _⟩
    | cons m t =>
     rw[mpB_some e0]at hS
     generalize is[k].op=z0 at *
     generalize is[k].a=z1 at *
     generalize is[k].b=z2 at *
     generalize is[k].c=z3 at *
     generalize is[k].n=z4 at *
     obtain⟨ra,rc,rfl,hrl⟩:=Ma.slice hR;obtain⟨gm,om,sv,rfl,hgm,d0,d1,rS⟩:=Ma.elem (RdL.later lr hR) 0 (Nat.zero_lt_succ _);simp only[Nat.zero_mul,Nat.add_zero]at d0 d1;obtain⟨hn,hcap,hT⟩:=Ma.tail hR;have HT:Hid (RdL w 2 (.slice (if rc=1 then some ⟨gm,om,none⟩ else some ⟨gm,om+2,none⟩) t.length (rc - 1)) (Ma.dats t)):=hT;change wr.cell? ⟨gm,om,none⟩=some (.int .i64 m.pc) at d0;have hsl:=fun w' (l:Later wr w') (bb:Bool) (hbb:slB fr 3 m.slots=bb)=>slots_b sv m.slots fr w' (RdL.later l rS) hfr hbb;obtain⟨sa,sc,rfl,_⟩:=In.slice rS
     generalize m.pc=zp at *
     have hn':t.length=(m::t).length - 1:=rfl;have hpos:0<(m::t).length:=Nat.zero_lt_succ _;rw[hn']at HT
     generalize (m::t).length=nn at *
     have hz:((nn:Int)==0)=false:=by simp;omega
     have i5:(1:Int)≤(nn:Int):=by omega
     have i6:(0:Int)<(nn:Int):=by omega
     have i7:(1:Int)≤(rc:Int):=by omega
     have i8:(nn:Int)≤(rc:Int):=by omega
     clear h0 hR hT hn hn'
     cases e1:(zp==(k:Int)) with
     | false =>
      rw[e1,Bool.false_and]at hS;subst hS;have e1':(zp != (k:Int))=true:=by simpa using e1
      go_wp2_with (go_at_call 127;refine (hasmap_b (by assumption) _).mono ?_;rintro e w1 ⟨rfl,hww⟩;obtain rfl:=hww.symm)
      go_quiet (fail)
      go_wp2_with fail
      go_ret;exact⟨rfl,later_drewN (lr.trans (later1 _ _)) _⟩
     | true =>
      have e1':(zp != (k:Int))=false:=by simpa using e1
      rw[e1,Bool.true_and]at hS
      cases e2:slB fr 3 m.slots with
      | false =>
       rw[e2,Bool.false_and]at hS;subst hS;go_wp2_with (go_at_call 127;refine (hasmap_b (by assumption) _).mono ?_;rintro e w1 ⟨rfl,hww⟩;obtain rfl:=hww.symm)
       go_quiet ((go_at_call 128;exact Calls.quiet_of_same (hsl _ (later_drewN (later1 _ _) _) _ e2)))
       go_wp2_with fail
       go_ret;exact⟨rfl,later_drewN (lr.trans (later1 _ _)) _⟩
      | true =>
       rw[e2,Bool.true_and]at hS;have HS:Hid (mpB fr (k+1) (is.drop (k+1)) t=b):=hS;clear hS;go_wp2_with (go_at_call 127;refine (hasmap_b (by assumption) _).mono ?_;rintro e w1 ⟨rfl,hww⟩;obtain rfl:=hww.symm)
       go_quiet ((go_at_call 128;exact Calls.quiet_of_same (hsl _ (later_drewN (later1 _ _) _) _ e2)))
       go_wp2_with fail
       go_roundw
       case rel=>exact⟨k+1,t,by go_num,by omega,later_drewN (lr.trans (later1 _ _)) _,HT.out,HS.out⟩
       case measure=>simp[intOf];omega
  ·have i1:¬ (k:Int)<(is.length:Int):=by omega
   have i2:decide ((k:Int)<(is.length:Int))=false:=decide_eq_false i1;rw[List.drop_eq_nil_of_le (by omega),mpB]at hS;obtain⟨ra,rc,rfl,_⟩:=Ma.slice hR;subst hS;clear h0 hR;go_wp2_with fail
   go_ret;exact⟨by simp,lr⟩
def cdB (ns nc:Int) (c:Cd):Bool:=inB c.params 0 4&&(inB c.frame (3+c.params) 1000&&(inB (c.ins.length:Int) 1 6000&&(c.ins.all (insB ns nc c.frame (c.ins.length:Int))&&mpB c.frame 0 c.ins c.maps)))
theorem codeok_b (B g o sn cn:Nat) (sa ca:Option Addr) (sc cc:Nat) (x:Cd) (iv mv:Value) (w:World) (hs:w.cell? ⟨B,0,none⟩=some (.slice sa sn sc)) (hc:w.cell? ⟨B,1,none⟩=some (.slice ca cn cc)) (hf:w.cell? ⟨g,o,none⟩=some (.int .i64 x.frame)) (hp:w.cell? ⟨g,o+1,none⟩=some (.int .i64 x.params)) (hi:w.cell? ⟨g,o+2,none⟩=some iv) (hm:w.cell? ⟨g,o+3,none⟩=some mv) (hB:B<w.heap.size) (hg:g<w.heap.size)
  (h0:RdL w 5 iv (Is.dats x.ins)) (h1:RdL w 2 mv (Ma.dats x.maps)) (hn1:(sn:Int)≤9223372036854775807) (hn2:(cn:Int)≤9223372036854775807) {b:Bool}(hb:cdB sn cn x=b) :
  Calls Tryz.prog 57 #[.pointer (some ⟨B,0,none⟩),.pointer (some ⟨g,o,none⟩)] w fun e w'=>e=.returned (.bool b)∧Later w w':=by
 have HI:=fun w' (l:Later w w') (y:Is) (hfr:0≤x.frame∧x.frame≤1000) (n:Nat) (ia:Option Addr) (ic:Nat) (e:iv=.slice ia n ic) (hl:(n:Int)≤9223372036854775807)=>insok_b B g o sn cn n sa ca ia sc cc ic x.frame y w' (by rw[Below.cell l (p:=⟨B,0,none⟩) hB];exact hs) (by rw[Below.cell l (p:=⟨B,1,none⟩) hB];exact hc) (by rw[Below.cell l (p:=⟨g,o,none⟩) hg];exact hf) (by rw[Below.cell l (p:=⟨g,o+2,none⟩) hg,hi,e]) (Nat.lt_of_lt_of_le hB l.size) (Nat.lt_of_lt_of_le hg l.size) hn1 hn2 hl hfr;have HM:=fun w' (l:Later w w') (hfr:0≤x.frame∧x.frame≤1000) {b:Bool}(hb:mpB x.frame 0 x.ins x.maps=b)=>maps_b g o x.frame x.ins x.maps iv mv w' (by rw[Below.cell l (p:=⟨g,o,none⟩) hg];exact hf) (by rw[Below.cell l (p:=⟨g,o+2,none⟩) hg];exact hi) (by rw[Below.cell l (p:=⟨g,o+3,none⟩) hg];exact hm) (Nat.lt_of_lt_of_le hg l.size) (RdL.later l h0) (RdL.later l h1) hfr hb;obtain⟨a,cap,rfl,hl⟩:=Is.slice h0;unfold cdB at hb
 cases e0:inB x.params 0 4 with
 | false =>
  rw[e0,Bool.false_and]at hb;subst hb;clear h0 h1 HI HM
  generalize x.params=zp at *
  go_enter Tryz.func57,Tryz.ntmps57;go_wp2_with fail
  go_quiet ((go_at_call 59;exact Calls.quiet_of_same (isin_b (by assumption) _)))
  go_wp2_with fail
  go_ret;exact⟨rfl,later_drewN (Later.refl _) _⟩
 | true =>
 rw[e0,Bool.true_and]at hb;have q0:=inB_iff.1 e0;have r1:-9223372036854775808≤3+x.params:=by omega
 have r2:3+x.params≤9223372036854775807:=by omega
 cases e1:inB x.frame (3+x.params) 1000 with
 | false =>
  rw[e1,Bool.false_and]at hb;subst hb;clear h0 h1 HI HM
  generalize x.params=zp at *
  generalize x.frame=zf at *
  go_enter Tryz.func57,Tryz.ntmps57;go_wp2_with fail
  go_quiet ((go_at_call 59;exact Calls.quiet_of_same (isin_b (by assumption) _)))
  go_wp2_with fail
  go_ret;exact⟨rfl,later_drewN (Later.refl _) _⟩
 | true =>
 rw[e1,Bool.true_and]at hb;have q1:=inB_iff.1 e1;have hfr:0≤x.frame∧x.frame≤1000:=by omega
 cases e2:inB (x.ins.length:Int) 1 6000 with
 | false =>
  rw[e2,Bool.false_and]at hb;subst hb;clear h0 h1 HI HM
  generalize x.params=zp at *
  generalize x.frame=zf at *
  go_enter Tryz.func57,Tryz.ntmps57;go_wp2_with fail
  go_quiet ((go_at_call 59;exact Calls.quiet_of_same (isin_b (by assumption) _)))
  go_wp2_with fail
  go_ret;exact⟨rfl,later_drewN (Later.refl _) _⟩
 | true =>
 rw[e2,Bool.true_and]at hb;have HI':=fun w' (l:Later w w') (y:Is)=>HI w' l y hfr x.ins.length a cap rfl hl;have HM':Hid (∀ w',Later w w'→∀ b,mpB x.frame 0 x.ins x.maps=b→Calls Tryz.prog 88 #[.pointer (some ⟨g,o,none⟩)] w' fun e w2=>e=.returned (.bool b)∧Later w' w2):=fun w' l b hb=>HM w' l hfr hb;have HAll:Hid ((x.ins.all (insB sn cn x.frame (x.ins.length:Int))&&mpB x.frame 0 x.ins x.maps)=b):=hb;clear HI HM h1 hb
 generalize x.params=zp at *
 go_enter Tryz.func57,Tryz.ntmps57;go_wp2_with fail
 go_quiet ((go_at_call 59;exact Calls.quiet_of_same (isin_b (by assumption) _)))
 go_wp2_with fail
 go_loopw [40] (fun i wr=>∃ (k:Nat),i=.int .i64 (k:Int)∧k≤x.ins.length∧Later w wr∧∀ y∈x.ins.take k,insB sn cn x.frame (x.ins.length:Int) y=true) (fun i _=>x.ins.length - (intOf i).toNat)
 case atStart=>exact⟨0,rfl,Nat.zero_le _,later_drewN (Later.refl _) _,fun y hy=>by cases hy⟩
 case round =>
  obtain⟨k,rfl,hk,lr,hS⟩:=hrel;by_cases hlt:k<x.ins.length
  ·obtain⟨gi,off,rfl,hgi,c0,c1,c2,c3,c4⟩:=Is.elem (RdL.later lr h0) k hlt;have i1:(k:Int)<(x.ins.length:Int):=by omega
   have hx:=fun w' (l:Later wr w')=>HI' w' (lr.trans l) x.ins[k]
   have HT:Hid (∀ bb,insB sn cn x.frame (x.ins.length:Int) x.ins[k]=bb→(bb=true→∀ y∈x.ins.take (k+1),insB sn cn x.frame (x.ins.length:Int) y=true)∧(bb=false→b=false)):=fun bb hbb=>by
    refine⟨fun e y hy=>?_,fun e=>?_⟩
    ·rw[List.take_succ_eq_append_getElem hlt]at hy;rcases List.mem_append.1 hy with hy|hy
     ·exact hS y hy
     ·rw[List.mem_singleton.1 hy,hbb,e]
    ·have:x.ins.all (insB sn cn x.frame (x.ins.length:Int))=false:=by
      rw[List.all_eq_false];exact⟨_,List.getElem_mem hlt,by rw[hbb,e];exact Bool.false_ne_true⟩
     rw[←HAll.out,this,Bool.false_and]
   generalize hii:insB sn cn x.frame (x.ins.length:Int) x.ins[k]=bb at *
   generalize x.ins[k].op=z0 at *
   generalize x.ins[k].a=z1 at *
   generalize x.ins[k].b=z2 at *
   generalize x.ins[k].c=z3 at *
   generalize x.ins[k].n=z4 at *
   have HT':=HT.out bb rfl;have HT'':Hid ((bb=true→∀ y∈x.ins.take (k+1),insB sn cn x.frame (x.ins.length:Int) y=true)∧(bb=false→b=false)):=HT';clear h0 hS HT HT' HI' hii;go_wp2_with fail
   refine (hx _ (later1 _ _)).mono ?_;rintro e w1 ⟨rfl,l1⟩
   cases bb with
   | false =>
    have hbf:=HT''.out.2 rfl;subst hbf;clear hx HAll HM';go_wp2_with fail
    go_ret;exact⟨rfl,lr.trans ((later1 _ _).trans l1)⟩
   | true =>
    clear hx;go_wp2_with fail
    go_roundw
    case rel=>exact⟨k+1,by go_num,by omega,lr.trans ((later1 _ _).trans l1),HT''.out.1 (by trivial)⟩
    case measure=>simp[intOf];omega
  ·have i1:¬ (k:Int)<(x.ins.length:Int):=by omega
   have i2:decide ((k:Int)<(x.ins.length:Int))=false:=decide_eq_false i1
   have hall:x.ins.all (insB sn cn x.frame (x.ins.length:Int))=true:=by
    rw[List.all_eq_true];intro y hy;refine hS y ?_;rw[List.take_of_length_le (by omega)];exact hy
   have hmb:mpB x.frame 0 x.ins x.maps=b:=by rw[←HAll.out,hall,Bool.true_and]
   have hx:=HM'.out wr lr b hmb;clear h0 hS HI' HAll HM' hall hmb;go_wp2_with fail
   refine hx.mono ?_;rintro e w1 ⟨rfl,l1⟩;clear hx;go_wp2_with fail
   go_ret;exact⟨rfl,lr.trans l1⟩
end Go.Proofs.YtjnpncefkigcbaaGreat
