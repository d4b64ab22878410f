import Derived.Test.YtjnpncefkigcbaaGreatHg
set_option maxHeartbeats 100000000
set_option maxRecDepth 100000
namespace Go.Proofs.YtjnpncefkigcbaaGreat
open Go.RowKit
def fltOf:Value→Nat|.float _ b=>b|_=>0
theorem sg_false (n:Nat):sg false n=n:=rfl
theorem order_pos {x y:Nat}(hx:x<9218868437227405312) (hy:y<9218868437227405312):FloatKind.f64.format.order x y=some (compare x y):=by
 have:=order_word false false hx hy;rw[show Ieee.double.word false x=x from rfl,show Ieee.double.word false y=y from rfl,sg_false,sg_false]at this;show Ieee.double.order x y=_;rw[this];rcases Nat.lt_trichotomy x y with h|h|h
 ·rw[Int.compare_eq_lt.2 (by have:=rv_lt h;omega),Nat.compare_eq_lt.2 h]
 ·subst h;rw[Int.compare_eq_eq.2 rfl,Nat.compare_eq_eq.2 rfl]
 ·rw[Int.compare_eq_gt.2 (by have:=rv_lt h;omega),Nat.compare_eq_gt.2 h]
theorem f_lt {x y:Nat}(hx:x<9218868437227405312) (hy:y<9218868437227405312):(FloatKind.f64.format.order x y==some .lt)=decide (x<y):=by
 rw[order_pos hx hy];rcases Nat.lt_trichotomy x y with h|h|h
 ·rw[Nat.compare_eq_lt.2 h,decide_eq_true h];rfl
 ·subst h;rw[Nat.compare_eq_eq.2 rfl,decide_eq_false (Nat.lt_irrefl _)];rfl
 ·rw[Nat.compare_eq_gt.2 h,decide_eq_false (by omega)];rfl
theorem f_gt {x y:Nat}(hx:x<9218868437227405312) (hy:y<9218868437227405312):(FloatKind.f64.format.order x y==some .gt)=decide (y<x):=by
 rw[order_pos hx hy];rcases Nat.lt_trichotomy x y with h|h|h
 ·rw[Nat.compare_eq_lt.2 h,decide_eq_false (by omega)];rfl
 ·subst h;rw[Nat.compare_eq_eq.2 rfl,decide_eq_false (Nat.lt_irrefl _)];rfl
 ·rw[Nat.compare_eq_gt.2 h,decide_eq_true h];rfl
theorem f_eq {x y:Nat}(hx:x<9218868437227405312) (hy:y<9218868437227405312):(FloatKind.f64.format.order x y==some .eq)=decide (x=y):=by
 rw[order_pos hx hy];rcases Nat.lt_trichotomy x y with h|h|h
 ·rw[Nat.compare_eq_lt.2 h,decide_eq_false (by omega)];rfl
 ·subst h;rw[Nat.compare_eq_eq.2 rfl,decide_eq_true rfl];rfl
 ·rw[Nat.compare_eq_gt.2 h,decide_eq_false (by omega)];rfl
theorem f_ge {x y:Nat}(hx:x<9218868437227405312) (hy:y<9218868437227405312):(FloatKind.f64.format.order x y==some .gt||FloatKind.f64.format.order x y==some .eq)=decide (y≤x):=by
 rw[f_gt hx hy,f_eq hx hy];by_cases h:y≤x
 ·rw[decide_eq_true h];simp;omega
 ·rw[decide_eq_false h];simp;omega
structure Fin1 (b r:Nat) (sg:Bool):Prop where
 nan:(FloatKind.f64.format.order b b != some .eq)=false
 low:(FloatKind.f64.format.order b 0==some .lt)=sg
 nought:(FloatKind.f64.format.order b 0==some .eq)=false
 flip:(if sg then b ^^^ 2 ^ 63 else b)=r
 nought':(FloatKind.f64.format.order r 0==some .eq)=false
 great:(FloatKind.f64.format.order r 9218868437227405311==some .gt)=false
 fin:r<9218868437227405312
 val:Hid (b=(if sg then 9223372036854775808 else 0)+r)
theorem le52:52≤1023:=by decide
theorem zB:0<4503599627370496:=by decide
theorem zI:0<9218868437227405312:=by decide
theorem zW:0<18446744073709551616:=by decide
theorem or_parts {s E f:Nat}(hs:s<2) (hE:E<2048) (hf:f<4503599627370496) :
  bits .or .u64 (bits .or .u64 ((s*9223372036854775808:Nat):Int) ((E*4503599627370496:Nat):Int)) (f:Int)=((s*9223372036854775808+E*4503599627370496+f:Nat):Int):=by
 have a1:=Nat.two_pow_add_eq_or_of_lt (i:=63) (b:=E*4503599627370496) (show E*4503599627370496<9223372036854775808 by omega) s;have a2:=Nat.two_pow_add_eq_or_of_lt (i:=52) (b:=f) hf (2048*s+E);rw[show (2:Nat) ^ 63=9223372036854775808 from rfl]at a1;rw[show (2:Nat) ^ 52=4503599627370496 from rfl]at a2;rw[u64_or_nat _ _ (by omega) (by omega),Nat.mul_comm s,← a1,u64_or_nat _ _ (by omega) (by omega)];rw[show 9223372036854775808*s+E*4503599627370496=4503599627370496*(2048*s+E) by omega,← a2]
theorem fin_norm {b r p f:Nat}{e:Int}{sg:Bool}(hn:(FloatKind.f64.format.order b b != some .eq)=false) (hb:b=(if sg then 9223372036854775808 else 0)+r) (hr:r<9218868437227405312)
  (hp:p=4607182418800017408+f) (hf:f<4503599627370496) (hj:(p:Int)+e*4503599627370496=r) (he:-1022≤e) :
  wrap64 (bits .or .u64 (bits .or .u64 (if sg then 9223372036854775808 else 0) ((e+1023)*4503599627370496)) (f:Int))=cb b:=by
 rw[cb_num hn]
 congr 1
 obtain⟨E,hE⟩:∃ E:Nat,e+1023=E:=⟨(e+1023).toNat,by omega⟩
 have hrE:r=E*4503599627370496+f:=by omega
 have hE':E<2048:=by omega
 rw[hE];have h:=or_parts (s:=if sg then 1 else 0) (E:=E) (f:=f) (by cases sg <;> decide) hE' hf
 cases sg
 ·rw[if_neg (by decide),Nat.zero_mul,Nat.zero_add]at h;rw[if_neg (by decide)]at hb ⊢;rw[hb,hrE,Nat.zero_add,← h];rfl
 ·rw[if_pos (by decide),Nat.one_mul]at h;rw[if_pos (by decide)]at hb ⊢;rw[hb,hrE,← Nat.add_assoc,← h];rfl
theorem to_u64 {z f:Nat}(hz:z<9218868437227405312) (h:rv z=f*2 ^ KK) (hf:f<18446744073709551616) (w:World) :
  (convert 137 134 (.float .f64 z)).run Tryz.prog w=.ok (.int .u64 (f:Int)) w:=by
 refine run_convert_float_int w 137 134 .f64 .u64 z (f:Int) (by kernel_rfl) Tryz.underlying134 ?_;have ht:=toInt_word false hz;rw[h,Nat.mul_div_cancel _ (Nat.two_pow_pos _),sg_false]at ht;have ht':(FloatKind.f64.decode z).toInt .zero=some (f:Int):=ht;unfold floatToIntVal;rw[ht'];have h0:IntKind.u64.min=0:=rfl;have h1:IntKind.u64.max=18446744073709551615:=rfl;clear h ht ht';simp only;rw[if_pos (by rw[h0,h1];omega)]
theorem half_var {p:Nat}(h1:4611686018427387904≤p) (h2:p<9218868437227405312) :
  ∃ z,(∀ w,(binOp .quo 137 (.float .f64 p) (.float .f64 4611686018427387904)).run Tryz.prog w=.ok (.float .f64 z) w)∧z+4503599627370496=p:=by
 have e:=@rv_add (p - 4503599627370496) (by omega) 1;rw[show p - 4503599627370496+1*4503599627370496=p by omega]at e;exact⟨p - 4503599627370496,run_quo (div_pow 1 (by omega) h2 (by omega) e),by omega⟩
theorem twice_var {p:Nat}(h1:4503599627370496≤p) (h2:p<4607182418800017408) :
  ∃ z,(∀ w,(binOp .mul 137 (.float .f64 p) (.float .f64 4611686018427387904)).run Tryz.prog w=.ok (.float .f64 z) w)∧z=p+4503599627370496:=by
 have:=@mulPow p 1 (by omega) h1 (by omega);rw[Nat.one_mul]at this;exact⟨_,run_mul this,rfl⟩
theorem tail_norm {p f:Nat}(hp:p=4607182418800017408+f) (hf:f<4503599627370496) :
  ∃ y z,(∀ w,(binOp .sub 137 (.float .f64 p) (.float .f64 4607182418800017408)).run Tryz.prog w=.ok (.float .f64 y) w) ∧
   (∀ w,(binOp .mul 137 (.float .f64 y) (.float .f64 4841369599423283200)).run Tryz.prog w=.ok (.float .f64 z) w) ∧
   (∀ w,(convert 137 134 (.float .f64 z)).run Tryz.prog w=.ok (.int .u64 (f:Int)) w):=by
 obtain⟨y,hy,ly⟩:=rung_of f (by omega) KL;have ly':y<4503599627370496*1024:=by clear hy;rw[kl]at ly;omega
 have hp':p<9218868437227405312:=by clear hy ly;omega
 have hy':y<9218868437227405312:=by clear hy ly;omega
 have e1:=@rv_mk 1023 0 (by clear hy ly;omega) (by clear hy ly;omega);have e2:=@rv_mk 1023 f hf (by clear hy ly;omega);rw[Nat.add_zero,Nat.add_zero]at e1;rw[show 1023 - 1=KL from rfl]at e1 e2
 have hs:Ieee.double.sub p 4607182418800017408=some y:=by
  refine sub_exact hp' (by clear hy ly;omega) hy' ?_;rw[hp,show (4607182418800017408:Nat)=1023*4503599627370496 from rfl,e2,hy,e1,← Nat.add_mul]
 rcases Nat.eq_zero_or_pos f with f0|fp
 ·subst f0;have y0:y=0:=rv_inj (by rw[hy,rv_small zB,Nat.zero_mul]);subst y0;exact⟨0,0,run_sub hs,run_mul (mulPow0 52 le52),to_u64 zI (by rw[rv_small zB,Nat.zero_mul]) zW⟩
 ·have yb:4503599627370496≤y:=by
   rcases Nat.lt_or_ge y 4503599627370496 with a|a
   ·exfalso
    rw[rv_small a]at hy;have h1:2 ^ 52≤2 ^ KL:=Nat.pow_le_pow_right (by decide) (by rw[kl];decide);have h2:1*2 ^ KL≤f*2 ^ KL:=Nat.mul_le_mul_right _ fp;rw[p52]at h1;rw[Nat.one_mul]at h2;exact absurd a (Nat.not_lt.2 (hy ▸ Nat.le_trans h1 h2))
   ·exact a
  have l52:y+52*4503599627370496<9218868437227405312:=by clear hy ly;omega
  refine⟨y,y+52*4503599627370496,run_sub hs,run_mul (mulPow 52 le52 yb l52),to_u64 l52 ?_ (by clear hy ly;omega)⟩;rw[rv_add yb,hy,Nat.mul_assoc,← Nat.pow_add,kl_kk]
theorem wb_high (b r:Nat) (sg:Bool) (h:Fin1 b r sg) (hr:4607182418800017408≤r) (w:World) :
  Calls Tryz.prog 79 #[.float .f64 b] w fun e w'=>e=.returned (.int .i64 (cb b))∧w'=w:=by
 obtain⟨h1,h2,h3,h4,h5,h6,h7,h8⟩:=h;have hne:=neg_float
 skip
 cases sg
 ·rw[if_neg (by decide)]at h4;subst h4;go_enter Tryz.func79,Tryz.ntmps79;go_wp2
  go_loop [4,5] (fun a c=>∃ (p j:Nat),a=.float .f64 p∧c=.int .i64 (j:Int)∧4607182418800017408≤p∧p<9218868437227405312∧j≤1023∧Hid (p+j*4503599627370496=b)) (fun a _=>fltOf a)
  case atStart=>exact⟨b,0,rfl,rfl,hr,h7,by decide,(by omega:b+0*4503599627370496=b)⟩
  case round =>
   obtain⟨p,j,rfl,rfl,hp,hp',hj,hrel⟩:=hrel;by_cases hc:4611686018427387904≤p
   ·have hg:(FloatKind.f64.format.order p 4611686018427387904==some .gt||FloatKind.f64.format.order p 4611686018427387904==some .eq)=true:=by rw[f_ge hp' (by decide),decide_eq_true hc]
    obtain⟨z,hz,hz'⟩:=half_var hc hp';have HZ:Hid (z+4503599627370496=p):=hz';clear hz';have hj':j<1023:=by have:=hrel.out;omega
    go_wp2
    go_round
    case rel=>exact⟨z,j+1,rfl,by go_num,by have:=HZ.out;omega,by have:=HZ.out;omega,by omega,(by have:=HZ.out;have:=hrel.out;omega:z+(j+1)*4503599627370496=b)⟩
    case measure=>have:=HZ.out;simp[fltOf];omega
   ·have hg:(FloatKind.f64.format.order p 4611686018427387904==some .gt||FloatKind.f64.format.order p 4611686018427387904==some .eq)=false:=by rw[f_ge hp' (by decide),decide_eq_false hc]
    obtain⟨f,hf⟩:∃ f,p=4607182418800017408+f:=⟨p - 4607182418800017408,by omega⟩
    have hf':f<4503599627370496:=by omega
    obtain⟨y,z,t1,t2,t3⟩:=tail_norm hf hf';have hl:(FloatKind.f64.format.order p 4607182418800017408==some .lt)=false:=by rw[f_lt hp' (by decide),decide_eq_false (by omega)]
    have HF:Hid (p=4607182418800017408+f):=hf;have HJ:Hid ((p:Int)+(j:Int)*4503599627370496=b):=by have:=hrel.out;show (p:Int)+(j:Int)*4503599627370496=b;omega
    clear hf;go_wp2
    go_loop [4,5] (fun a c=>a=.float .f64 p∧c=.int .i64 (j:Int)) (fun _ _=>0)
    case atStart=>exact⟨rfl,rfl⟩
    case round =>
     obtain⟨rfl,rfl⟩:=hrel;go_wp2
     go_ret;exact⟨ret_int (fin_norm (sg:=false) h1 h8.out h7 HF.out hf' HJ.out (by omega)),rfl⟩
 ·rw[if_pos (by decide)]at h4;go_enter Tryz.func79,Tryz.ntmps79;go_wp2
  go_loop [4,5] (fun a c=>∃ (p j:Nat),a=.float .f64 p∧c=.int .i64 (j:Int)∧4607182418800017408≤p∧p<9218868437227405312∧j≤1023∧Hid (p+j*4503599627370496=r)) (fun a _=>fltOf a)
  case atStart=>exact⟨r,0,rfl,rfl,hr,h7,by decide,(by omega:r+0*4503599627370496=r)⟩
  case round =>
   obtain⟨p,j,rfl,rfl,hp,hp',hj,hrel⟩:=hrel;by_cases hc:4611686018427387904≤p
   ·have hg:(FloatKind.f64.format.order p 4611686018427387904==some .gt||FloatKind.f64.format.order p 4611686018427387904==some .eq)=true:=by rw[f_ge hp' (by decide),decide_eq_true hc]
    obtain⟨z,hz,hz'⟩:=half_var hc hp';have HZ:Hid (z+4503599627370496=p):=hz';clear hz';have hj':j<1023:=by have:=hrel.out;omega
    go_wp2
    go_round
    case rel=>exact⟨z,j+1,rfl,by go_num,by have:=HZ.out;omega,by have:=HZ.out;omega,by omega,(by have:=HZ.out;have:=hrel.out;omega:z+(j+1)*4503599627370496=r)⟩
    case measure=>have:=HZ.out;simp[fltOf];omega
   ·have hg:(FloatKind.f64.format.order p 4611686018427387904==some .gt||FloatKind.f64.format.order p 4611686018427387904==some .eq)=false:=by rw[f_ge hp' (by decide),decide_eq_false hc]
    obtain⟨f,hf⟩:∃ f,p=4607182418800017408+f:=⟨p - 4607182418800017408,by omega⟩
    have hf':f<4503599627370496:=by omega
    obtain⟨y,z,t1,t2,t3⟩:=tail_norm hf hf';have hl:(FloatKind.f64.format.order p 4607182418800017408==some .lt)=false:=by rw[f_lt hp' (by decide),decide_eq_false (by omega)]
    have HF:Hid (p=4607182418800017408+f):=hf;have HJ:Hid ((p:Int)+(j:Int)*4503599627370496=r):=by have:=hrel.out;show (p:Int)+(j:Int)*4503599627370496=r;omega
    clear hf;go_wp2
    go_loop [4,5] (fun a c=>a=.float .f64 p∧c=.int .i64 (j:Int)) (fun _ _=>0)
    case atStart=>exact⟨rfl,rfl⟩
    case round =>
     obtain⟨rfl,rfl⟩:=hrel;go_wp2
     go_ret;exact⟨ret_int (fin_norm (sg:=true) h1 h8.out h7 HF.out hf' HJ.out (by omega)),rfl⟩
theorem wb_mid (b r:Nat) (sg:Bool) (h:Fin1 b r sg) (hr:4503599627370496≤r) (hr2:r<4607182418800017408) (w:World) :
  Calls Tryz.prog 79 #[.float .f64 b] w fun e w'=>e=.returned (.int .i64 (cb b))∧w'=w:=by
 obtain⟨h1,h2,h3,h4,h5,h6,h7,h8⟩:=h;have hne:=neg_float;have hg0:(FloatKind.f64.format.order r 4611686018427387904==some .gt||FloatKind.f64.format.order r 4611686018427387904==some .eq)=false:=by rw[f_ge h7 (by decide),decide_eq_false (by omega)]
 cases sg
 ·rw[if_neg (by decide)]at h4;subst h4;go_enter Tryz.func79,Tryz.ntmps79;go_wp2
  go_loop [4,5] (fun a c=>a=.float .f64 b∧c=.int .i64 0) (fun _ _=>0)
  case atStart=>exact⟨rfl,rfl⟩
  case round =>
   obtain⟨rfl,rfl⟩:=hrel;go_wp2
   go_loop [4,5] (fun a c=>∃ (p j:Nat),a=.float .f64 p∧c=.int .i64 (-(j:Int))∧4503599627370496≤p∧p<4611686018427387904∧j≤1022∧Hid (p=b+j*4503599627370496)) (fun _ c=>(1022+intOf c).toNat)
   case atStart=>exact⟨b,0,rfl,rfl,hr,by omega,by decide,(by omega:b=b+0*4503599627370496)⟩
   case round =>
    obtain⟨p,j,rfl,rfl,hp,hp',hj,hrel⟩:=hrel;have hpf:p<9218868437227405312:=by omega
    by_cases hc:p<4607182418800017408
    ·have hg:(FloatKind.f64.format.order p 4607182418800017408==some .lt)=true:=by rw[f_lt hpf (by decide),decide_eq_true hc]
     obtain⟨z,hz,hz'⟩:=twice_var hp hc;have HZ:Hid (z=p+4503599627370496):=hz';clear hz';have hj':j<1022:=by have:=hrel.out;omega
     go_wp2
     go_round
     case rel=>exact⟨z,j+1,rfl,by go_num,by have:=HZ.out;omega,by have:=HZ.out;omega,by omega,(by have:=HZ.out;have:=hrel.out;omega:z=b+(j+1)*4503599627370496)⟩
     case measure=>simp[intOf];omega
    ·have hg:(FloatKind.f64.format.order p 4607182418800017408==some .lt)=false:=by rw[f_lt hpf (by decide),decide_eq_false hc]
     obtain⟨f,hf⟩:∃ f,p=4607182418800017408+f:=⟨p - 4607182418800017408,by omega⟩
     have hf':f<4503599627370496:=by omega
     obtain⟨y,z,t1,t2,t3⟩:=tail_norm hf hf';have HF:Hid (p=4607182418800017408+f):=hf;have HJ:Hid ((p:Int)+-(j:Int)*4503599627370496=b):=by have:=hrel.out;show (p:Int)+-(j:Int)*4503599627370496=b;omega
     clear hf;go_wp2
     go_ret;exact⟨ret_int (fin_norm (sg:=false) h1 h8.out h7 HF.out hf' HJ.out (by omega)),rfl⟩
 ·rw[if_pos (by decide)]at h4;go_enter Tryz.func79,Tryz.ntmps79;go_wp2
  go_loop [4,5] (fun a c=>a=.float .f64 r∧c=.int .i64 0) (fun _ _=>0)
  case atStart=>exact⟨rfl,rfl⟩
  case round =>
   obtain⟨rfl,rfl⟩:=hrel;go_wp2
   go_loop [4,5] (fun a c=>∃ (p j:Nat),a=.float .f64 p∧c=.int .i64 (-(j:Int))∧4503599627370496≤p∧p<4611686018427387904∧j≤1022∧Hid (p=r+j*4503599627370496)) (fun _ c=>(1022+intOf c).toNat)
   case atStart=>exact⟨r,0,rfl,rfl,hr,by omega,by decide,(by omega:r=r+0*4503599627370496)⟩
   case round =>
    obtain⟨p,j,rfl,rfl,hp,hp',hj,hrel⟩:=hrel;have hpf:p<9218868437227405312:=by omega
    by_cases hc:p<4607182418800017408
    ·have hg:(FloatKind.f64.format.order p 4607182418800017408==some .lt)=true:=by rw[f_lt hpf (by decide),decide_eq_true hc]
     obtain⟨z,hz,hz'⟩:=twice_var hp hc;have HZ:Hid (z=p+4503599627370496):=hz';clear hz';have hj':j<1022:=by have:=hrel.out;omega
     go_wp2
     go_round
     case rel=>exact⟨z,j+1,rfl,by go_num,by have:=HZ.out;omega,by have:=HZ.out;omega,by omega,(by have:=HZ.out;have:=hrel.out;omega:z=r+(j+1)*4503599627370496)⟩
     case measure=>simp[intOf];omega
    ·have hg:(FloatKind.f64.format.order p 4607182418800017408==some .lt)=false:=by rw[f_lt hpf (by decide),decide_eq_false hc]
     obtain⟨f,hf⟩:∃ f,p=4607182418800017408+f:=⟨p - 4607182418800017408,by omega⟩
     have hf':f<4503599627370496:=by omega
     obtain⟨y,z,t1,t2,t3⟩:=tail_norm hf hf';have HF:Hid (p=4607182418800017408+f):=hf;have HJ:Hid ((p:Int)+-(j:Int)*4503599627370496=r):=by have:=hrel.out;show (p:Int)+-(j:Int)*4503599627370496=r;omega
     clear hf;go_wp2
     go_ret;exact⟨ret_int (fin_norm (sg:=true) h1 h8.out h7 HF.out hf' HJ.out (by omega)),rfl⟩
theorem low_lt {r p j:Nat}(hr:r<4503599627370496) (hj:j≤1022) (h:rv p=r*2 ^ j) :
  p<9218868437227405312∧(FloatKind.f64.format.order p 4607182418800017408==some .lt)=true:=by
 have e1:=@rv_mk 1023 0 (by decide) (by decide);rw[Nat.add_zero,Nat.add_zero,show 1023 - 1=KL from rfl]at e1
 have a:rv p<4503599627370496*2 ^ KL:=by
  rw[h];exact Nat.lt_of_lt_of_le (Nat.mul_lt_mul_of_pos_right hr (Nat.two_pow_pos _)) (Nat.mul_le_mul_left _ (Nat.pow_le_pow_right (by decide) (by rw[kl];exact hj)))
 rw[←e1]at a;have b:p<4607182418800017408:=lt_of_rv a;clear a e1 h;have c:p<9218868437227405312:=by omega
 exact⟨c,by rw[f_lt c (by decide),decide_eq_true b]⟩
theorem low_step {r p j:Nat}(hr:r<4503599627370496) (hj:j≤1022) (hc:j<1022) (h:rv p=r*2 ^ j) :
  ∃ z,(∀ w,(binOp .mul 137 (.float .f64 p) (.float .f64 4611686018427387904)).run Tryz.prog w=.ok (.float .f64 z) w)∧rv z=r*2 ^ (j+1):=by
 obtain⟨z,hz,lz⟩:=rung_of r (by omega) (j+1);have lz':z<9218868437227405312:=by clear hz h;omega
 refine⟨z,run_mul (mul_exact (low_lt hr hj h).1 (by decide) lz' ?_),hz⟩;have e:=rv_pow 1;rw[show (1023+1)*4503599627370496=4611686018427387904 from rfl]at e;rw[e,hz,h,Nat.pow_one,Nat.pow_succ,Nat.mul_assoc,Nat.mul_assoc,Nat.mul_assoc]
theorem low_tail {r p j:Nat}(hr0:0<r) (hr:r<4503599627370496) (hj:j=1022) (h:rv p=r*2 ^ j) :
  ∃ z,(∀ w,(binOp .mul 137 (.float .f64 p) (.float .f64 4841369599423283200)).run Tryz.prog w=.ok (.float .f64 z) w) ∧
   (∀ w,(convert 137 134 (.float .f64 z)).run Tryz.prog w=.ok (.int .u64 (r:Int)) w):=by
 rw[←kl]at hj;rw[hj]at h;obtain⟨z,hz,lz⟩:=rung_of r (by omega) KK;have lz':z<9218868437227405312:=by clear hz h;rw[kk]at lz;omega
 have hp:p<9218868437227405312:=(low_lt hr (by rw[kl];decide) h).1;refine⟨z,run_mul (mul_exact hp (by decide) lz' ?_),to_u64 lz' hz (by clear hz h;omega)⟩;have e:=rv_pow 52;rw[show (1023+52)*4503599627370496=4841369599423283200 from rfl]at e;rw[e,hz,h,← kl_kk,Nat.pow_add 2 KL 52,Nat.mul_assoc,Nat.mul_assoc,Nat.mul_comm (2 ^ KL) (2 ^ 52),← Nat.mul_assoc (2 ^ KL),Nat.mul_comm (2 ^ KL) (2 ^ 52)]
theorem fin_low {b r:Nat}{sg:Bool}(hn:(FloatKind.f64.format.order b b != some .eq)=false) (hb:b=(if sg then 9223372036854775808 else 0)+r) (hr:r<4503599627370496) :
  wrap64 (bits .or .u64 (if sg then 9223372036854775808 else 0) (r:Int))=cb b:=by
 rw[cb_num hn]
 congr 1
 have a1:=Nat.two_pow_add_eq_or_of_lt (i:=63) (b:=r) (show r<9223372036854775808 by omega) (if sg then 1 else 0);rw[show (2:Nat) ^ 63=9223372036854775808 from rfl]at a1;have h:=u64_or_nat (9223372036854775808*(if sg then 1 else 0)) r (by cases sg <;> decide) (by omega);rw[←a1]at h
 cases sg
 ·rw[if_neg (by decide),Nat.mul_zero]at h;rw[if_neg (by decide)]at hb ⊢;rw[hb,← h];rfl
 ·rw[if_pos (by decide),Nat.mul_one]at h;rw[if_pos (by decide)]at hb ⊢;rw[hb,← h];rfl
theorem wb_low (b r:Nat) (sg:Bool) (h:Fin1 b r sg) (hr0:0<r) (hr:r<4503599627370496) (w:World) :
  Calls Tryz.prog 79 #[.float .f64 b] w fun e w'=>e=.returned (.int .i64 (cb b))∧w'=w:=by
 obtain⟨h1,h2,h3,h4,h5,h6,h7,h8⟩:=h;have hne:=neg_float;have hg0:(FloatKind.f64.format.order r 4611686018427387904==some .gt||FloatKind.f64.format.order r 4611686018427387904==some .eq)=false:=by rw[f_ge h7 (by decide),decide_eq_false (by omega)]
 cases sg
 ·rw[if_neg (by decide)]at h4;subst h4;go_enter Tryz.func79,Tryz.ntmps79;go_wp2
  go_loop [4,5] (fun a c=>a=.float .f64 b∧c=.int .i64 0) (fun _ _=>0)
  case atStart=>exact⟨rfl,rfl⟩
  case round =>
   obtain⟨rfl,rfl⟩:=hrel;go_wp2
   go_loop [4,5] (fun a c=>∃ (p j:Nat),a=.float .f64 p∧c=.int .i64 (-(j:Int))∧j≤1022∧Hid (rv p=b*2 ^ j)) (fun _ c=>(1022+intOf c).toNat)
   case atStart=>exact⟨b,0,rfl,rfl,by decide,(by rw[rv_small hr,Nat.pow_zero,Nat.mul_one]:rv b=b*2 ^ 0)⟩
   case round =>
    obtain⟨p,j,rfl,rfl,hj,hrel⟩:=hrel;obtain⟨hpf,hg⟩:=low_lt hr hj hrel.out;by_cases hc:j<1022
    ·obtain⟨z,hz,hz'⟩:=low_step hr hj hc hrel.out;have HZ:Hid (rv z=b*2 ^ (j+1)):=hz';clear hz';go_wp2
     go_round
     case rel=>exact⟨z,j+1,rfl,by go_num,by omega,HZ⟩
     case measure=>simp[intOf];omega
    ·obtain⟨z,t1,t2⟩:=low_tail hr0 hr (by omega) hrel.out;go_wp2
     go_ret;exact⟨ret_int (fin_low (sg:=false) h1 h8.out hr),rfl⟩
 ·rw[if_pos (by decide)]at h4;go_enter Tryz.func79,Tryz.ntmps79;go_wp2
  go_loop [4,5] (fun a c=>a=.float .f64 r∧c=.int .i64 0) (fun _ _=>0)
  case atStart=>exact⟨rfl,rfl⟩
  case round =>
   obtain⟨rfl,rfl⟩:=hrel;go_wp2
   go_loop [4,5] (fun a c=>∃ (p j:Nat),a=.float .f64 p∧c=.int .i64 (-(j:Int))∧j≤1022∧Hid (rv p=r*2 ^ j)) (fun _ c=>(1022+intOf c).toNat)
   case atStart=>exact⟨r,0,rfl,rfl,by decide,(by rw[rv_small hr,Nat.pow_zero,Nat.mul_one]:rv r=r*2 ^ 0)⟩
   case round =>
    obtain⟨p,j,rfl,rfl,hj,hrel⟩:=hrel;obtain⟨hpf,hg⟩:=low_lt hr hj hrel.out;by_cases hc:j<1022
    ·obtain⟨z,hz,hz'⟩:=low_step hr hj hc hrel.out;have HZ:Hid (rv z=r*2 ^ (j+1)):=hz';clear hz';go_wp2
     go_round
     case rel=>exact⟨z,j+1,rfl,by go_num,by omega,HZ⟩
     case measure=>simp[intOf];omega
    ·obtain⟨z,t1,t2⟩:=low_tail hr0 hr (by omega) hrel.out;go_wp2
     go_ret;exact⟨ret_int (fin_low (sg:=true) h1 h8.out hr),rfl⟩
theorem fin1_of {b:Nat}(hb:b<18446744073709551616) (h0:0<b % 9223372036854775808) (hi:b % 9223372036854775808<9218868437227405312) :
  Fin1 b (b % 9223372036854775808) (b / 9223372036854775808 % 2==1):=by
 have hn:nanB b=false:=nanB_false hb (Nat.le_of_lt hi);have hw:=word_of b hb
 obtain⟨s,hs⟩:∃ s,(b / 9223372036854775808 % 2==1)=s:=⟨_,rfl⟩
 obtain⟨r,hr⟩:∃ r,b % 9223372036854775808=r:=⟨_,rfl⟩
 rw[hs,hr]at hw ⊢;rw[hr]at h0 hi
 have hval:b=(if s then 9223372036854775808 else 0)+r:=by
  rw[hw];unfold Ieee.Format.word;rw[sw_eq];cases s
  ·rw[if_neg (by decide),if_neg (by decide),Nat.zero_add]
  ·rw[if_pos (by decide),if_pos (by decide)]
 have ho:FloatKind.f64.format.order b 0=some (compare (sg s (rv r)) 0):=by
  have:=order_word s false hi (y:=0) zI;rw[←hw,rv_small zB]at this;exact this
 have hrp:0<rv r:=by have:=rv_lt h0;rwa [rv_small zB]at this
 refine⟨hn,?_,?_,?_,?_,?_,hi,hval⟩
 ·rw[ho]
  cases s
  ·rw[Int.compare_eq_gt.2 (show (0:Int)<sg false (rv r) by unfold sg;rw[if_neg (by decide)];omega)];rfl
  ·rw[Int.compare_eq_lt.2 (show sg true (rv r)<(0:Int) by unfold sg;rw[if_pos (by decide)];omega)];rfl
 ·rw[ho]
  cases s
  ·rw[Int.compare_eq_gt.2 (show (0:Int)<sg false (rv r) by unfold sg;rw[if_neg (by decide)];omega)];rfl
  ·rw[Int.compare_eq_lt.2 (show sg true (rv r)<(0:Int) by unfold sg;rw[if_pos (by decide)];omega)];rfl
 ·cases s
  ·rw[if_neg (by decide)]at hval ⊢;omega
  ·rw[if_pos (by decide)]at hval ⊢;rw[hval,Nat.add_comm];exact xor63' r (by omega)
 ·rw[f_eq hi zI,decide_eq_false (by omega)]
 ·rw[f_gt hi (by decide),decide_eq_false (by omega)]
theorem wb_nan (b:Nat) (h:(FloatKind.f64.format.order b b != some .eq)=true) (w:World) :
  Calls Tryz.prog 79 #[.float .f64 b] w fun e w'=>e=.returned (.int .i64 9221120237041090561)∧w'=w:=by
 go_enter Tryz.func79,Tryz.ntmps79;go_wp2
 go_ret;exact⟨rfl,rfl⟩
theorem quo_one_p (w:World):(binOp .quo 137 (.float .f64 4607182418800017408) (.float .f64 0)).run Tryz.prog w=.ok (.float .f64 9218868437227405312) w:=run_quo (by decide +kernel) w
theorem quo_one_m (w:World):(binOp .quo 137 (.float .f64 4607182418800017408) (.float .f64 9223372036854775808)).run Tryz.prog w=.ok (.float .f64 18442240474082181120) w:=run_quo (by decide +kernel) w
theorem wb_zero_p (w:World) (h1:(FloatKind.f64.format.order 0 0 != some .eq)=false) (h2:(FloatKind.f64.format.order 0 0==some .lt)=false) (h3:(FloatKind.f64.format.order 0 0==some .eq)=true)
  (h4:(FloatKind.f64.format.order 9218868437227405312 0==some .lt)=false) :
  Calls Tryz.prog 79 #[.float .f64 0] w fun e w'=>e=.returned (.int .i64 0)∧w'=w:=by
 have hd:=quo_one_p;have hne:=neg_float;go_enter Tryz.func79,Tryz.ntmps79;go_wp2
 go_ret;exact⟨rfl,rfl⟩
theorem wb_zero_m (w:World) (b:Nat) (h1:(FloatKind.f64.format.order b b != some .eq)=false) (h2:(FloatKind.f64.format.order b 0==some .lt)=false) (h3:(FloatKind.f64.format.order b 0==some .eq)=true)
  (hd:∀ w,(binOp .quo 137 (.float .f64 4607182418800017408) (.float .f64 b)).run Tryz.prog w=.ok (.float .f64 18442240474082181120) w)
  (h4:(FloatKind.f64.format.order 18442240474082181120 0==some .lt)=true) (h5:(FloatKind.f64.format.order 0 0==some .eq)=true) (h6:b ^^^ 2 ^ 63=0) :
  Calls Tryz.prog 79 #[.float .f64 b] w fun e w'=>e=.returned (.int .i64 (wrap64 9223372036854775808))∧w'=w:=by
 have hne:=neg_float;go_enter Tryz.func79,Tryz.ntmps79;go_wp2
 go_ret;exact⟨rfl,rfl⟩
theorem wb_inf (b r:Nat) (w:World) (sg:Bool) (h1:(FloatKind.f64.format.order b b != some .eq)=false) (h2:(FloatKind.f64.format.order b 0==some .lt)=sg) (h3:(FloatKind.f64.format.order b 0==some .eq)=false)
  (h4:(if sg then b ^^^ 2 ^ 63 else b)=r) (h5:(FloatKind.f64.format.order r 0==some .eq)=false) (h6:(FloatKind.f64.format.order r 9218868437227405311==some .gt)=true) :
  Calls Tryz.prog 79 #[.float .f64 b] w fun e w'=>e=.returned (.int .i64 (wrap64 (bits .or .u64 (if sg then 9223372036854775808 else 0) 9218868437227405312)))∧w'=w:=by
 have hne:=neg_float
 cases sg
 ·rw[if_neg (by decide)]at h4;subst h4;go_enter Tryz.func79,Tryz.ntmps79;go_wp2
  go_ret;exact⟨rfl,rfl⟩
 ·rw[if_pos (by decide)]at h4;go_enter Tryz.func79,Tryz.ntmps79;go_wp2
  go_ret;exact⟨rfl,rfl⟩
theorem cb_low {b:Nat}(hb:b<18446744073709551616) (h:b % 9223372036854775808≤9218868437227405312):cb b=wrap64 b:=cb_num (nanB_false hb h)
theorem inf_or (sg:Bool):bits .or .u64 (if sg then 9223372036854775808 else 0) 9218868437227405312=(((if sg then 9223372036854775808 else 0)+9218868437227405312:Nat):Int):=by
 cases sg <;> decide +kernel
theorem sbits_any (b:Nat) (hb:b<18446744073709551616) (w:World) :
  Calls Tryz.prog 79 #[.float .f64 b] w fun e w'=>e=.returned (.int .i64 (cb b))∧w'=w:=by
 by_cases hn:9218868437227405312<b % 9223372036854775808
 ·have:=wb_nan b (nanB_of hn) w;rw[cb_nan (nanB_of hn)];exact this
 ·have hc:=cb_low hb (by omega);by_cases h0:b % 9223372036854775808=0
  ·rcases (by omega:b=0∨b=9223372036854775808) with e|e
   ·subst e;have:=wb_zero_p w (by decide +kernel) (by decide +kernel) (by decide +kernel) (by decide +kernel);rw[hc,show wrap64 ((0:Nat):Int)=0 by decide +kernel];exact this
   ·have:=wb_zero_m w b (by rw[e];decide +kernel) (by rw[e];decide +kernel) (by rw[e];decide +kernel) (by rw[e];exact quo_one_m) (by decide +kernel) (by decide +kernel) (by rw[e];decide +kernel);rw[hc];rw[show (9223372036854775808:Int)=((b:Nat):Int) by rw[e];rfl]at this;exact this
  ·by_cases hi:b % 9223372036854775808=9218868437227405312
   ·obtain⟨sg,hsg⟩:∃ sg:Bool,b=(if sg then 9223372036854775808 else 0)+9218868437227405312:=by
     rcases (by omega:b=9218868437227405312∨b=18442240474082181120) with e|e
     ·exact⟨false,e⟩
     ·exact⟨true,e⟩
    have:=wb_inf b 9218868437227405312 w sg (by rw[hsg];cases sg <;> decide +kernel) (by rw[hsg];cases sg <;> decide +kernel) (by rw[hsg];cases sg <;> decide +kernel) (by rw[hsg];cases sg <;> decide +kernel) (by decide +kernel) (by decide +kernel);rw[inf_or,← hsg]at this;rw[hc];exact this
   ·have hf:=fin1_of hb (by omega) (by omega);by_cases a:b % 9223372036854775808<4503599627370496
    ·exact wb_low b _ _ hf (by omega) a w
    ·by_cases c:b % 9223372036854775808<4607182418800017408
     ·exact wb_mid b _ _ hf (by omega) c w
     ·exact wb_high b _ _ hf (by omega) w
end Go.Proofs.YtjnpncefkigcbaaGreat
