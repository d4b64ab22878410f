import Derived.Test.YtjnpncefkigcbaaGreatHh
import Derived.Test.YtjnpncefkigcbaaGreatHa
set_option maxHeartbeats 100000000
set_option maxRecDepth 100000
namespace Go.Proofs.YtjnpncefkigcbaaGreat
open Go.RowKit
def Same (x b:Nat):Prop:=(nanB x=false∧b=x)∨(nanB x=true∧nanB b=true)
theorem Same.refl (x:Nat):Same x x:=by
 rcases h:nanB x
 ·exact .inl ⟨h,rfl⟩
 ·exact .inr ⟨h,h⟩
theorem sfl_any (n:Int) (w:World) :
  Calls Tryz.prog 78 #[.int .i64 n] w fun e w'=>∃ b,e=.returned (.float .f64 b)∧Same (fb n) b∧b<18446744073709551616∧Later w w':=by
 rcases h:nanB (fb n)
 ·refine (sfloat_num n h w).mono ?_;rintro e w' ⟨rfl,rfl⟩;exact⟨_,rfl,.inl ⟨h,rfl⟩,fb_lt n,Later.refl _⟩
 ·refine (sfloat_nan n h w).mono ?_;rintro e w' ⟨rfl,rfl⟩;exact⟨_,rfl,.inr ⟨h,nanOf_nan _ _ _⟩,nanOf_lt _ _ _,Later.drew _⟩
def b2i (b:Bool):Int:=if b then 1 else 0
def arZ (op:BinOp) (x y:Nat):Int:=match floatBits op .f64 x y with|some r=>cb r|none=>9221120237041090561
theorem cb_arN (op:BinOp) (x y:Nat) (w:World):cb (arN op x y w)=arZ op x y:=by
 unfold arN arZ
 cases floatBits op .f64 x y
 ·exact cb_nan (nanOf_nan _ _ _)
 ·rfl
theorem arW_later (op:BinOp) (x y:Nat) (w:World):Later w (arW op x y w):=by
 unfold arW;split
 ·exact Later.refl _
 ·exact Later.drew _
theorem arN_lt (op:BinOp) (x y:Nat) (w:World):arN op x y w<18446744073709551616:=by
 unfold arN;split
 ·rename_i r h
  have:=floatBits_wf h;simpa[Lit.wf] using this
 ·exact nanOf_lt _ _ _
def arOut (k:Int) (x y:Nat):Int :=
 if k=0 then arZ .add x y else if k=1 then arZ .sub x y else if k=2 then arZ .mul x y else if k=3 then arZ .quo x y
 else if k=4 then b2i (FloatKind.f64.format.order x y==some .lt) else if k=5 then b2i (FloatKind.f64.format.order x y==some .eq) else 0
theorem oneif_any (b:Bool) (w:World):Calls Tryz.prog 131 #[.bool b] w fun e w'=>e=.returned (.int .i64 (b2i b))∧w'=w:=by
 cases b
 all_goals
  go_enter Tryz.func131,Tryz.ntmps131;go_wp2
  go_ret;exact⟨rfl,rfl⟩
theorem l1bool_any (b:Bool) (w:World):Calls Tryz.prog 49 #[.bool b] w fun e w'=>e=.returned (.int .i64 (b2i b))∧w'=w:=by
 cases b
 all_goals
  go_enter Tryz.func49,Tryz.ntmps49;go_wp2
  go_ret;exact⟨rfl,rfl⟩
theorem ar_cases (k:Int):k=0∨k=1∨k=2∨k=3∨k=4∨k=5∨((k==0)=false∧(k==1)=false∧(k==2)=false∧(k==3)=false∧(k==4)=false∧(k==5)=false):=by
 by_cases h0:k=0
 ·exact .inl h0
 ·by_cases h1:k=1
  ·exact .inr (.inl h1)
  ·by_cases h2:k=2
   ·exact .inr (.inr (.inl h2))
   ·by_cases h3:k=3
    ·exact .inr (.inr (.inr (.inl h3)))
    ·by_cases h4:k=4
     ·exact .inr (.inr (.inr (.inr (.inl h4))))
     ·by_cases h5:k=5
      ·exact .inr (.inr (.inr (.inr (.inr (.inl h5)))))
      ·exact .inr (.inr (.inr (.inr (.inr (.inr (by simp[h0,h1,h2,h3,h4,h5]))))))
theorem arOut_none {k:Int}(x y:Nat) (h:(k==0)=false∧(k==1)=false∧(k==2)=false∧(k==3)=false∧(k==4)=false∧(k==5)=false):arOut k x y=0:=by
 simp only[beq_eq_false_iff_ne]at h;unfold arOut;rw[if_neg h.1,if_neg h.2.1,if_neg h.2.2.1,if_neg h.2.2.2.1,if_neg h.2.2.2.2.1,if_neg h.2.2.2.2.2]
theorem run_ar_add (x y:Nat) (w:World):(binOp .add 137 (.float .f64 x) (.float .f64 y)).run Tryz.prog w=.ok (.float .f64 (arN .add x y w)) (arW .add x y w):=run_ar .add (.inl rfl) 137 x y w
theorem run_ar_sub (x y:Nat) (w:World):(binOp .sub 137 (.float .f64 x) (.float .f64 y)).run Tryz.prog w=.ok (.float .f64 (arN .sub x y w)) (arW .sub x y w):=run_ar .sub (.inr (.inl rfl)) 137 x y w
theorem run_ar_mul (x y:Nat) (w:World):(binOp .mul 137 (.float .f64 x) (.float .f64 y)).run Tryz.prog w=.ok (.float .f64 (arN .mul x y w)) (arW .mul x y w):=run_ar .mul (.inr (.inr (.inl rfl))) 137 x y w
theorem run_ar_quo (x y:Nat) (w:World):(binOp .quo 137 (.float .f64 x) (.float .f64 y)).run Tryz.prog w=.ok (.float .f64 (arN .quo x y w)) (arW .quo x y w):=run_ar .quo (.inr (.inr (.inr rfl))) 137 x y w
theorem arith_any (k a b:Int) (w:World) :
  Calls Tryz.prog 130 #[.int .i64 k,.int .i64 a,.int .i64 b] w fun e w'=>e=.returned (.int .i64 (arOut k (fb a) (fb b)))∧Later w w':=by
 have r1:=run_ar_add;have r2:=run_ar_sub;have r3:=run_ar_mul;have r4:=run_ar_quo;rcases ar_cases k with rfl|rfl|rfl|rfl|rfl|rfl|h
 rotate_right
 ·have hz:=arOut_none (fb a) (fb b) h;obtain⟨h0,h1,h2,h3,h4,h5⟩:=h;have HZ:Hid (arOut k (fb a) (fb b)=0):=hz;clear hz;go_enter Tryz.func130,Tryz.ntmps130;go_wp2_with (go_at_call 149;refine (float_any _ _).mono ?_;rintro e w' ⟨rfl,rfl⟩)
  go_ret;exact⟨ret_int HZ.out.symm,Later.refl _⟩
 all_goals
  go_enter Tryz.func130,Tryz.ntmps130;go_wp2_with (first|(go_at_call 149;refine (float_any _ _).mono ?_;rintro e w' ⟨rfl,rfl⟩)|(go_at_call 150;refine (bits_any _ _).mono ?_;rintro e w' ⟨rfl,rfl⟩)|(go_at_call 131;refine (oneif_any _ _).mono ?_;rintro e w' ⟨rfl,rfl⟩))
  go_ret
  first
   | exact⟨ret_int (cb_arN _ _ _ _),arW_later _ _ _ _⟩
   | exact⟨rfl,Later.refl _⟩
theorem nan_read {x:Nat}(hx:x<18446744073709551616) (h:nanB x=true):∃ s f,Ieee.double.read x=.nan s f:=by
 by_cases hn:9218868437227405312<x % 9223372036854775808
 ·exact read_nan hn
 ·rw[nanB_false hx (by omega)]at h;cases h
theorem fl_nan_l {x y:Nat}{op:BinOp}{s:Bool}{f:Nat}(h:Ieee.double.read x=.nan s f):floatBits op .f64 x y=none:=by
 unfold floatBits
 cases op <;> first|rfl|skip
 all_goals
  show Option.map _ _=none;show Option.map _ (_)=none;rw[show FloatKind.f64.format=Ieee.double from rfl,h]
  cases Ieee.double.read y <;> rfl
theorem fl_nan_r {x y:Nat}{op:BinOp}{s:Bool}{f:Nat}(h:Ieee.double.read y=.nan s f):floatBits op .f64 x y=none:=by
 unfold floatBits
 cases op <;> first|rfl|skip
 all_goals
  show Option.map _ _=none;rw[show FloatKind.f64.format=Ieee.double from rfl,h]
  cases Ieee.double.read x <;> rfl
theorem or_nan_l {x y:Nat}{s:Bool}{f:Nat}(h:Ieee.double.read x=.nan s f):FloatKind.f64.format.order x y=none:=by
 show Ieee.Datum.order (Ieee.double.read x) (Ieee.double.read y)=none;rw[h];cases Ieee.double.read y <;> rfl
theorem or_nan_r {x y:Nat}{s:Bool}{f:Nat}(h:Ieee.double.read y=.nan s f):FloatKind.f64.format.order x y=none:=by
 show Ieee.Datum.order (Ieee.double.read x) (Ieee.double.read y)=none;rw[h];cases Ieee.double.read x <;> rfl
def nanOut (k:Int):Int:=if k=0 then 9221120237041090561 else if k=1 then 9221120237041090561 else if k=2 then 9221120237041090561 else if k=3 then 9221120237041090561 else 0
theorem nanOut_of {k:Int}{x y:Nat}(h1:∀ op,floatBits op .f64 x y=none) (h2:FloatKind.f64.format.order x y=none):arOut k x y=nanOut k:=by
 unfold arOut nanOut arZ;rw[h1,h1,h1,h1,h2];have e1:b2i ((none:Option Ordering)==some .lt)=0:=rfl;have e2:b2i ((none:Option Ordering)==some .eq)=0:=rfl;simp only[e1,e2];split
 ·rfl
 ·split
  ·rfl
  ·split
   ·rfl
   ·split
    ·rfl
    ·split
     ·rfl
     ·split <;> rfl
theorem arOut_l {k:Int}{x y:Nat}(hx:x<18446744073709551616) (h:nanB x=true):arOut k x y=nanOut k:=by
 obtain⟨s,f,hr⟩:=nan_read hx h;exact nanOut_of (fun _=>fl_nan_l hr) (or_nan_l hr)
theorem arOut_r {k:Int}{x y:Nat}(hy:y<18446744073709551616) (h:nanB y=true):arOut k x y=nanOut k:=by
 obtain⟨s,f,hr⟩:=nan_read hy h;exact nanOut_of (fun _=>fl_nan_r hr) (or_nan_r hr)
theorem arOut_same {k:Int}{x y x' y':Nat}(hx:x<18446744073709551616) (hy:y<18446744073709551616) (hx':x'<18446744073709551616) (hy':y'<18446744073709551616)
  (h1:Same x x') (h2:Same y y'):arOut k x' y'=arOut k x y:=by
 rcases h1 with ⟨_,rfl⟩|⟨a,a'⟩
 ·rcases h2 with ⟨_,rfl⟩|⟨b,b'⟩
  ·rfl
  ·rw[arOut_r hy' b',arOut_r hy b]
 ·rw[arOut_l hx' a',arOut_l hx a]
theorem sarith_pre (k a b:Int) (w:World) :
  Calls Tryz.prog 48 #[.int .i64 k,.int .i64 a,.int .i64 b] w fun e w'=>∃ x y,Same (fb a) x∧x<18446744073709551616∧Same (fb b) y∧y<18446744073709551616∧e=.returned (.int .i64 (arOut k x y))∧Later w w':=by
 have r1:=run_ar_add;have r2:=run_ar_sub;have r3:=run_ar_mul;have r4:=run_ar_quo;rcases ar_cases k with rfl|rfl|rfl|rfl|rfl|rfl|h
 rotate_right
 ·obtain⟨h0,h1,h2,h3,h4,h5⟩:=id h;have HZ:Hid ((k==0)=false∧(k==1)=false∧(k==2)=false∧(k==3)=false∧(k==4)=false∧(k==5)=false):=h;clear h;go_enter Tryz.func48,Tryz.ntmps48;go_wp2_with (go_at_call 78;refine (sfl_any _ _).mono ?_;rintro e w' ⟨x,rfl,hx,lx,hw⟩)
  go_ret;refine⟨_,_,‹Same (fb a) _›,?_,‹Same (fb b) _›,lx,ret_int (arOut_none _ _ HZ.out).symm,Later.trans ‹Later w _› hw⟩;assumption
 all_goals
  go_enter Tryz.func48,Tryz.ntmps48;go_wp2_with (first|(go_at_call 78;refine (sfl_any _ _).mono ?_;rintro e w' ⟨x,rfl,hx,lx,hw⟩)|(go_at_call 79;refine (sbits_any _ (arN_lt _ _ _ _) _).mono ?_;rintro e w' ⟨rfl,rfl⟩)|(go_at_call 49;refine (l1bool_any _ _).mono ?_;rintro e w' ⟨rfl,rfl⟩))
  go_ret;refine⟨_,_,‹Same (fb a) _›,?_,‹Same (fb b) _›,lx,?_,?_⟩
  ·assumption
  ·first
    | exact ret_int (cb_arN _ _ _ _)
    | rfl
  ·first
    | exact Later.trans (Later.trans ‹Later w _› hw) (arW_later _ _ _ _)
    | exact Later.trans ‹Later w _› hw
theorem sarith_any (k a b:Int) (w:World) :
  Calls Tryz.prog 48 #[.int .i64 k,.int .i64 a,.int .i64 b] w fun e w'=>e=.returned (.int .i64 (arOut k (fb a) (fb b)))∧Later w w':=by
 refine (sarith_pre k a b w).mono ?_;rintro e w' ⟨x,y,hx,lx,hy,ly,rfl,hw⟩;exact⟨ret_int (arOut_same (fb_lt a) (fb_lt b) lx ly hx hy),hw⟩
theorem floatOfInt_lt (n:Int):floatOfInt .f64 n<18446744073709551616:=by
 have:=floatOfInt_wf .f64 n;simpa[Lit.wf] using this
theorem fromint_any (n:Int) (w:World):Calls Tryz.prog 133 #[.int .i64 n] w fun e w'=>e=.returned (.int .i64 (cb (floatOfInt .f64 n)))∧w'=w:=by
 go_enter Tryz.func133,Tryz.ntmps133;go_wp2_with (go_at_call 150;refine (bits_any _ _).mono ?_;rintro e w' ⟨rfl,rfl⟩)
 go_ret;exact⟨rfl,rfl⟩
theorem sfromint_any (n:Int) (w:World):Calls Tryz.prog 51 #[.int .i64 n] w fun e w'=>e=.returned (.int .i64 (cb (floatOfInt .f64 n)))∧w'=w:=by
 go_enter Tryz.func51,Tryz.ntmps51;go_wp2_with (go_at_call 79;refine (sbits_any _ (floatOfInt_lt _) _).mono ?_;rintro e w' ⟨rfl,rfl⟩)
 go_ret;exact⟨rfl,rfl⟩
def toI (x:Nat):Int :=
 if nanB x then 0 else if (FloatKind.f64.format.order x 4890909195324358656==some .gt||FloatKind.f64.format.order x 4890909195324358656==some .eq) then 9223372036854775807
 else if (FloatKind.f64.format.order x 14114281232179134464==some .lt) then -9223372036854775808 else (floatToIntVal .f64 x .i64).getD 0
theorem p63_pos:(4890909195324358656:Nat)=(1023+63)*4503599627370496:=rfl
theorem toint_fits {x:Nat}(hx:x<18446744073709551616) (hn:nanB x=false)
  (h1:(FloatKind.f64.format.order x 4890909195324358656==some .gt||FloatKind.f64.format.order x 4890909195324358656==some .eq)=false)
  (h2:(FloatKind.f64.format.order x 14114281232179134464==some .lt)=false):∃ v:Int,floatToIntVal .f64 x .i64=some v:=by
 have hle:x % 9223372036854775808≤9218868437227405312:=by
  rcases Nat.lt_or_ge 9218868437227405312 (x % 9223372036854775808) with a|a
  ·rw[nanB_of a]at hn;cases hn
  ·exact a
 rcases Nat.eq_or_lt_of_le hle with e|l
 ·exfalso
  rcases (by omega:x=9218868437227405312∨x=18442240474082181120) with e|e
  ·rw[e]at h1;revert h1;decide +kernel
  ·rw[e]at h2;revert h2;decide +kernel
 ·have hw:=word_of x hx
  generalize (x / 9223372036854775808 % 2==1)=s at hw
  generalize x % 9223372036854775808=r at *
  have o1:=order_word s false l (y:=4890909195324358656) (by decide);have o2:=order_word s true l (y:=4890909195324358656) (by decide);rw[←hw]at o1 o2;have o1':FloatKind.f64.format.order x 4890909195324358656=some (compare (sg s (rv r)) (sg false (rv 4890909195324358656))):=o1;have o2':FloatKind.f64.format.order x 14114281232179134464=some (compare (sg s (rv r)) (sg true (rv 4890909195324358656))):=o2;have hp:rv 4890909195324358656=9223372036854775808*2 ^ KK:=by rw[p63_pos,rv_pow]
  have ht:=toInt_word s l;rw[←hw]at ht;have ht':(FloatKind.f64.decode x).toInt .zero=some (sg s (rv r / 2 ^ KK)):=ht;have hKp:0<2 ^ KK:=Nat.two_pow_pos _
  have g1:sg s (rv r)<sg false (rv 4890909195324358656):=by
   rcases Int.lt_trichotomy (sg s (rv r)) (sg false (rv 4890909195324358656)) with a|a|a
   ·exact a
   ·rw[o1',Int.compare_eq_eq.2 a]at h1;cases h1
   ·rw[o1',Int.compare_eq_gt.2 a]at h1;cases h1
  have g2:¬ sg s (rv r)<sg true (rv 4890909195324358656):=by
   intro a;rw[o2',Int.compare_eq_lt.2 a]at h2;cases h2
  clear o1 o2 o1' o2' h1 h2 ht;rw[hp]at g1 g2
  have bnd:rv r≤9223372036854775808*2 ^ KK∧(s=false→rv r<9223372036854775808*2 ^ KK):=by
   generalize 9223372036854775808*2 ^ KK=M at g1 g2 ⊢
   generalize rv r=R at g1 g2 ⊢
   clear hp hKp ht'
   cases s
   ·simp only[sg,Bool.false_eq_true,if_false,if_true]at g1 g2;exact⟨by omega,fun _=>by omega⟩
   ·simp only[sg,Bool.false_eq_true,if_false,if_true]at g1 g2;exact⟨by omega,fun h=>by cases h⟩
  have q1:rv r / 2 ^ KK≤9223372036854775808:=by
   have:=Nat.div_le_div_right (c:=2 ^ KK) bnd.1
   rwa [Nat.mul_div_cancel _ hKp]at this
  have q2:s=false→rv r / 2 ^ KK<9223372036854775808:=fun h=>(Nat.div_lt_iff_lt_mul hKp).2 (bnd.2 h)
  generalize rv r / 2 ^ KK=Q at ht' q1 q2
  refine⟨sg s Q,?_⟩;unfold floatToIntVal;rw[ht'];have m0:IntKind.i64.min=-9223372036854775808:=rfl;have m1:IntKind.i64.max=9223372036854775807:=rfl;clear hp hKp ht' bnd g1 g2;simp only;rw[if_pos];rw[m0,m1]
  cases s
  ·have:=q2 rfl;simp only[sg,Bool.false_eq_true,if_false];omega
  ·simp only[sg,if_true];omega
theorem toI_nan {x:Nat}(h:nanB x=true):toI x=0:=by unfold toI;rw[if_pos h]
theorem toI_same {x b:Nat}(h:Same x b):toI b=toI x:=by
 rcases h with ⟨_,rfl⟩|⟨a,b⟩
 ·rfl
 ·rw[toI_nan a,toI_nan b]
theorem toI_ways {x:Nat}(hx:x<18446744073709551616):((FloatKind.f64.format.order x x != some .eq)=true∧toI x=0) ∨
  ((FloatKind.f64.format.order x x != some .eq)=false∧(FloatKind.f64.format.order x 4890909195324358656==some .gt||FloatKind.f64.format.order x 4890909195324358656==some .eq)=true∧toI x=9223372036854775807) ∨
  ((FloatKind.f64.format.order x x != some .eq)=false∧(FloatKind.f64.format.order x 4890909195324358656==some .gt||FloatKind.f64.format.order x 4890909195324358656==some .eq)=false∧(FloatKind.f64.format.order x 14114281232179134464==some .lt)=true∧toI x=-9223372036854775808) ∨
  ((FloatKind.f64.format.order x x != some .eq)=false∧(FloatKind.f64.format.order x 4890909195324358656==some .gt||FloatKind.f64.format.order x 4890909195324358656==some .eq)=false∧(FloatKind.f64.format.order x 14114281232179134464==some .lt)=false ∧
   ∀ w,(convert 137 3 (.float .f64 x)).run Tryz.prog w=.ok (.int .i64 (toI x)) w):=by
 rcases a:nanB x
 ·rcases b:(FloatKind.f64.format.order x 4890909195324358656==some .gt||FloatKind.f64.format.order x 4890909195324358656==some .eq)
  ·rcases c:(FloatKind.f64.format.order x 14114281232179134464==some .lt)
   ·obtain⟨v,hv⟩:=toint_fits hx a b c
    have:toI x=v:=by
     unfold toI;rw[if_neg (by rw[a];decide),if_neg (by rw[b];decide),if_neg (by rw[c];decide),hv];rfl
    exact .inr (.inr (.inr ⟨a,rfl,rfl,fun w=>by rw[this];exact run_convert_float_int w 137 3 .f64 .i64 x v (by kernel_rfl) Tryz.underlying3 hv⟩))
   ·exact .inr (.inr (.inl ⟨a,rfl,rfl,by unfold toI;rw[if_neg (by rw[a];decide),if_neg (by rw[b];decide),if_pos c]⟩))
  ·exact .inr (.inl ⟨a,rfl,by unfold toI;rw[if_neg (by rw[a];decide),if_pos b]⟩)
 ·exact .inl ⟨a,toI_nan a⟩
theorem toint_any (n:Int) (w:World):Calls Tryz.prog 132 #[.int .i64 n] w fun e w'=>e=.returned (.int .i64 (toI (fb n)))∧w'=w:=by
 have lx:=fb_lt n;rcases toI_ways lx with ⟨a,h⟩|⟨a,b,h⟩|⟨a,b,c,h⟩|⟨a,b,c,h⟩
 ·have HT:Hid (toI (fb n)=0):=h;clear h;have a':nanB (fb n)=true:=a;go_enter Tryz.func132,Tryz.ntmps132;go_wp2_with (first|(go_at_call 149;refine (float_any _ _).mono ?_;rintro e w' ⟨rfl,rfl⟩)|(go_at_call 151;refine (isnan_any _ _).mono ?_;rintro e w' ⟨rfl,rfl⟩))
  go_ret;exact⟨ret_int HT.out.symm,rfl⟩
 ·have HT:Hid (toI (fb n)=9223372036854775807):=h;clear h;have a':nanB (fb n)=false:=a;go_enter Tryz.func132,Tryz.ntmps132;go_wp2_with (first|(go_at_call 149;refine (float_any _ _).mono ?_;rintro e w' ⟨rfl,rfl⟩)|(go_at_call 151;refine (isnan_any _ _).mono ?_;rintro e w' ⟨rfl,rfl⟩))
  go_ret;exact⟨ret_int HT.out.symm,rfl⟩
 ·have HT:Hid (toI (fb n)=-9223372036854775808):=h;clear h;have a':nanB (fb n)=false:=a;go_enter Tryz.func132,Tryz.ntmps132;go_wp2_with (first|(go_at_call 149;refine (float_any _ _).mono ?_;rintro e w' ⟨rfl,rfl⟩)|(go_at_call 151;refine (isnan_any _ _).mono ?_;rintro e w' ⟨rfl,rfl⟩))
  go_ret;exact⟨ret_int HT.out.symm,rfl⟩
 ·have a':nanB (fb n)=false:=a;go_enter Tryz.func132,Tryz.ntmps132;go_wp2_with (first|(go_at_call 149;refine (float_any _ _).mono ?_;rintro e w' ⟨rfl,rfl⟩)|(go_at_call 151;refine (isnan_any _ _).mono ?_;rintro e w' ⟨rfl,rfl⟩))
  go_ret;exact⟨rfl,rfl⟩
theorem stoint_num (n:Int) (hn:nanB (fb n)=false) (w:World):Calls Tryz.prog 50 #[.int .i64 n] w fun e w'=>e=.returned (.int .i64 (toI (fb n)))∧w'=w:=by
 have lx:=fb_lt n;rcases toI_ways lx with ⟨a,h⟩|⟨a,b,h⟩|⟨a,b,c,h⟩|⟨a,b,c,h⟩
 ·rw[show nanB (fb n)=true from a]at hn;cases hn
 ·have HT:Hid (toI (fb n)=9223372036854775807):=h;clear h;go_enter Tryz.func50,Tryz.ntmps50;go_wp2_with (go_at_call 78;refine (sfloat_num _ hn _).mono ?_;rintro e w' ⟨rfl,rfl⟩)
  go_ret;exact⟨ret_int HT.out.symm,rfl⟩
 ·have HT:Hid (toI (fb n)=-9223372036854775808):=h;clear h;go_enter Tryz.func50,Tryz.ntmps50;go_wp2_with (go_at_call 78;refine (sfloat_num _ hn _).mono ?_;rintro e w' ⟨rfl,rfl⟩)
  go_ret;exact⟨ret_int HT.out.symm,rfl⟩
 ·go_enter Tryz.func50,Tryz.ntmps50;go_wp2_with (go_at_call 78;refine (sfloat_num _ hn _).mono ?_;rintro e w' ⟨rfl,rfl⟩)
  go_ret;exact⟨rfl,rfl⟩
theorem stoint_nan (n:Int) (hn:nanB (fb n)=true) (w:World):Calls Tryz.prog 50 #[.int .i64 n] w fun e w'=>e=.returned (.int .i64 0)∧w'=w.drew:=by
 have hb:∀ w,(FloatKind.f64.format.order (nanOf 0 0 w) (nanOf 0 0 w) != some .eq)=true:=nanOf_nan 0 0;go_enter Tryz.func50,Tryz.ntmps50;go_wp2_with (go_at_call 78;refine (sfloat_nan _ hn _).mono ?_;rintro e w' ⟨rfl,rfl⟩)
 go_ret;exact⟨rfl,rfl⟩
theorem stoint_any (n:Int) (w:World):Calls Tryz.prog 50 #[.int .i64 n] w fun e w'=>e=.returned (.int .i64 (toI (fb n)))∧Later w w':=by
 rcases h:nanB (fb n)
 ·refine (stoint_num n h w).mono ?_;rintro e w' ⟨rfl,rfl⟩;exact⟨rfl,Later.refl _⟩
 ·refine (stoint_nan n h w).mono ?_;rintro e w' ⟨rfl,rfl⟩;exact⟨ret_int (toI_nan h).symm,Later.drew _⟩
theorem bne_beq {o:Option Ordering}(h:(o != some .eq)=false):(o==some .eq)=true:=by
 cases hb:(o==some .eq)
 ·simp[bne,hb]at h
 ·rfl
end Go.Proofs.YtjnpncefkigcbaaGreat
