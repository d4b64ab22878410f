import Derived.Test.YtgholpilmdebmaaGreatDoorProg
import Ieee.Arith
import Derived.Laws.BitsAllLaws
import Derived.WalkKit
import Derived.WalkSpells
import Derived.WalkLawsBesides
set_option maxHeartbeats 100000000
set_option maxRecDepth 100000
namespace Go.Proofs.YtgholpilmdebmaaGreatDoor
open Ieee
theorem sw_eq:double.signWeight=9223372036854775808:=rfl
theorem bi_eq:double.binade=4503599627370496:=rfl
theorem in_eq:double.infRung=9218868437227405312:=rfl
theorem lp_eq:double.leastPlace=-1074:=rfl
theorem fb_eq:double.fractionBits=52:=rfl
def KK:Nat:=1074
theorem kk:KK=1074:=rfl
def mg (r:Nat):Nat:=if r<4503599627370496 then r else 4503599627370496+r % 4503599627370496
def ex (r:Nat):Nat:=if r<4503599627370496 then 0 else r / 4503599627370496 - 1
def rv (r:Nat):Nat:=mg r*2 ^ ex r
theorem mg_ex (r:Nat):ex r*4503599627370496+mg r=r:=by
 unfold ex mg;split <;> omega
theorem mg_lt (r:Nat):mg r<9007199254740992:=by unfold mg;split <;> omega
theorem mg_ge {r:Nat}(h:4503599627370496≤r):4503599627370496≤mg r:=by unfold mg;split <;> omega
theorem ex_zero {r:Nat}(h:r<4503599627370496):ex r=0:=by unfold ex;simp[h]
theorem mg_small {r:Nat}(h:r<4503599627370496):mg r=r:=by unfold mg;simp[h]
theorem ex_pos {r:Nat}(h:0<ex r):4503599627370496≤r:=by
 rcases Nat.lt_or_ge r 4503599627370496 with a|a
 ·rw[ex_zero a]at h;omega
 ·exact a
theorem p52:(2:Nat) ^ 52=4503599627370496:=rfl
theorem p53:(2:Nat) ^ 53=9007199254740992:=rfl
theorem zcu (neg:Bool) {r:Nat}(hr:r<9218868437227405312) :
  double.read (double.word neg r)=.number neg (mg r) (-1074+(ex r:Int)):=by
 have h1:double.word neg r / 9223372036854775808 % 2=neg.toNat:=by
  unfold Format.word;rw[sw_eq];cases neg <;> simp <;> omega
 have h2:double.word neg r % 9223372036854775808=r:=by
  unfold Format.word;rw[sw_eq];cases neg <;> simp <;> omega
 unfold Format.read;simp only[sw_eq,bi_eq,in_eq,lp_eq,h1,h2];have h3:(neg.toNat==1)=neg:=by cases neg <;> rfl
 rw[h3];unfold mg ex;split
 ·simp
 ·simp
theorem zbw {r:Nat}(hr:r<9218868437227405312):double.read r=.number false (mg r) (-1074+(ex r:Int)):=zcu false hr
theorem cut_even (neg:Bool) (m d:Nat):Toward.even.cut neg (m*2 ^ d) d=m:=by
 unfold Toward.cut;rcases Nat.eq_zero_or_pos m with rfl|hm
 ·have:0<2 ^ (min d 2):=Nat.two_pow_pos _;simp[Nat.shiftLeft_eq]
 ·have hne:m*2 ^ d≠0:=Nat.mul_ne_zero (by omega) (by have:=Nat.two_pow_pos d;omega);have hl:d≤(m*2 ^ d).log2:=(Nat.le_log2 hne).2 (Nat.le_mul_of_pos_left _ hm);have hp:=Nat.two_pow_pos d;have e:min d ((m*2 ^ d).log2+2)=d:=by omega
  simp only[e,Nat.shiftLeft_eq,Nat.one_mul];have e1:m*2 ^ d / 2 ^ d=m:=Nat.mul_div_cancel _ hp;have e2:m*2 ^ d % 2 ^ d=0:=Nat.mul_mod_left _ _;simp only[e1,e2];have e3:decide (2 ^ d<2*0)=false:=by simp
  have e4:(2 ^ d==2*0)=false:=by simp
  rw[e3,e4];simp
theorem cut_zero (neg:Bool) (n d:Nat):Toward.zero.cut neg n d=n / 2 ^ d:=by
 unfold Toward.cut;simp only[Nat.shiftLeft_eq,Nat.one_mul,Bool.toNat_false,Nat.add_zero];rcases Nat.lt_or_ge (n.log2+2) d with h|h
 ·have e:min d (n.log2+2)=n.log2+2:=by omega
  have a:n<2 ^ (n.log2+1):=Nat.lt_log2_self;have b:2 ^ (n.log2+1)≤2 ^ (n.log2+2):=Nat.pow_le_pow_right (by omega) (by omega);have c:2 ^ (n.log2+2)≤2 ^ d:=Nat.pow_le_pow_right (by omega) (by omega);rw[e,Nat.div_eq_of_lt (by omega),Nat.div_eq_of_lt (by omega)]
 ·have e:min d (n.log2+2)=d:=by omega
  rw[e]
theorem zbg (neg:Bool) (mag:Nat) (place:Int) (r p d:Nat) (hr:r<9218868437227405312)
  (hpd:(p:Int) - d=place+1074) (h:mag*2 ^ p=rv r*2 ^ d):double.nearest neg mag place=double.word neg r:=by
 unfold Format.nearest;have hp:=Nat.two_pow_pos p;have hd:=Nat.two_pow_pos d;have hx:=Nat.two_pow_pos (ex r);have hme:=mg_ex r;split
 ·rename_i h0
  subst h0
  have h1:rv r=0:=by
   rw[Nat.zero_mul]at h;rcases Nat.mul_eq_zero.1 h.symm with a|a <;> omega
  have h2:mg r=0:=by
   unfold rv at h1;rcases Nat.mul_eq_zero.1 h1 with a|a <;> omega
  have h3:r=0:=by
   rcases Nat.lt_or_ge r 4503599627370496 with a|a
   ·rw[mg_small a]at h2;exact h2
   ·have:=mg_ge a;omega
  rw[h3]
 ·rename_i h0
  have hl1:2 ^ mag.log2≤mag:=Nat.log2_self_le h0;have hl2:mag<2 ^ (mag.log2+1):=Nat.lt_log2_self
  have hv:mag*2 ^ p=mg r*2 ^ (ex r+d):=by
   rw[h,rv,Nat.pow_add,Nat.mul_assoc]
  have a1:2 ^ (mag.log2+p)≤mg r*2 ^ (ex r+d):=by
   rw[←hv,Nat.pow_add];exact Nat.mul_le_mul_right _ hl1
  have a2:mg r*2 ^ (ex r+d)<2 ^ (mag.log2+1+p):=by
   rw[←hv,Nat.pow_add _ _ p];exact Nat.mul_lt_mul_of_pos_right hl2 hp
  have hlast:max (place+mag.log2 - 52) (-1074)=-1074+(ex r:Int):=by
   rcases Nat.lt_or_ge r 4503599627370496 with a|a
   ·have e0:=ex_zero a;rw[mg_small a]at a1
    have:2 ^ (mag.log2+p)<2 ^ (52+(ex r+d)):=by
     rw[Nat.pow_add 2 52,p52];exact Nat.lt_of_le_of_lt a1 (Nat.mul_lt_mul_of_pos_right a (Nat.two_pow_pos _))
    have:=(Nat.pow_lt_pow_iff_right (by omega:1<2)).1 this;omega
   ·have b1:=mg_ge a;have b2:=mg_lt r
    have c1:2 ^ (mag.log2+p)<2 ^ (53+(ex r+d)):=by
     rw[Nat.pow_add 2 53,p53];exact Nat.lt_of_le_of_lt a1 (Nat.mul_lt_mul_of_pos_right b2 (Nat.two_pow_pos _))
    have c2:2 ^ (52+(ex r+d))<2 ^ (mag.log2+1+p):=by
     rw[Nat.pow_add 2 52,p52];exact Nat.lt_of_le_of_lt (Nat.mul_le_mul_right _ b1) a2
    have:=(Nat.pow_lt_pow_iff_right (by omega:1<2)).1 c1;have:=(Nat.pow_lt_pow_iff_right (by omega:1<2)).1 c2;omega
  simp only[fb_eq,lp_eq,bi_eq,in_eq];have hlast':max (place+(mag.log2:Int) - ((52:Nat):Int)) (-1074)=-1074+(ex r:Int):=hlast;rw[hlast']
  have hk:Toward.even.cut neg (mag <<< (place - (-1074+(ex r:Int))).toNat) ((-1074+(ex r:Int)) - place).toNat=mg r:=by
   rw[Nat.shiftLeft_eq];rcases (by omega:place < -1074+(ex r:Int)∨-1074+(ex r:Int)≤place) with a|a
   ·obtain⟨v,hv'⟩:∃ v:Nat,((-1074+(ex r:Int)) - place).toNat=v:=⟨_,rfl⟩
    have hu:(place - (-1074+(ex r:Int))).toNat=0:=by omega
    rw[hu,hv'];have e:ex r+d=v+p:=by omega
    have:mag=mg r*2 ^ v:=by
     rw[e,Nat.pow_add,← Nat.mul_assoc]at hv;exact Nat.eq_of_mul_eq_mul_right hp hv
    rw[Nat.pow_zero,Nat.mul_one,this];exact cut_even ..
   ·obtain⟨u,hu'⟩:∃ u:Nat,(place - (-1074+(ex r:Int))).toNat=u:=⟨_,rfl⟩
    have hv0:((-1074+(ex r:Int)) - place).toNat=0:=by omega
    rw[hu',hv0];have e:p=u+(ex r+d):=by omega
    have:mag*2 ^ u=mg r:=by
     rw[e,Nat.pow_add,← Nat.mul_assoc]at hv;exact Nat.eq_of_mul_eq_mul_right (Nat.two_pow_pos _) hv
    rw[this];have:=cut_even neg (mg r) 0
    rwa [Nat.pow_zero,Nat.mul_one]at this
  rw[hk];have e5:((-1074+(ex r:Int)) - -1074).toNat=ex r:=by omega
  rw[e5,hme]
  congr 1
  omega
theorem rv_lt {x y:Nat}(h:x<y):rv x<rv y:=by
 have hx:=mg_ex x;have hy:=mg_ex y;have lx:=mg_lt x;have ly:=mg_lt y;have hex:ex x≤ex y:=by unfold ex;split <;> split <;> omega
 unfold rv;rcases Nat.lt_or_ge (ex x) (ex y) with a|a
 ·have gy:=mg_ge (ex_pos (by omega:0<ex y))
  obtain⟨k,hk⟩:∃ k,ex y=ex x+1+k:=⟨ex y - (ex x+1),by omega⟩
  have p0:=Nat.two_pow_pos (ex x);have p1:=Nat.two_pow_pos k
  calc mg x*2 ^ ex x<9007199254740992*2 ^ ex x:=Nat.mul_lt_mul_of_pos_right lx p0
   _=4503599627370496*2 ^ (ex x+1):=by rw[Nat.pow_succ];omega
   _≤mg y*2 ^ (ex x+1):=Nat.mul_le_mul_right _ gy
   _≤mg y*2 ^ ex y:=Nat.mul_le_mul_left _ (Nat.pow_le_pow_right (by omega) (by omega))
 ·have e:ex x=ex y:=by omega
  rw[e]at hx ⊢;exact Nat.mul_lt_mul_of_pos_right (by omega) (Nat.two_pow_pos _)
theorem rv_inj {x y:Nat}(h:rv x=rv y):x=y:=by
 rcases Nat.lt_trichotomy x y with a|a|a
 ·have:=rv_lt a;omega
 ·exact a
 ·have:=rv_lt a;omega
theorem rv_le {x y:Nat}(h:x≤y):rv x≤rv y:=by
 rcases Nat.eq_or_lt_of_le h with rfl|a
 ·exact Nat.le_refl _
 ·exact Nat.le_of_lt (rv_lt a)
theorem lt_of_rv {x y:Nat}(h:rv x<rv y):x<y:=by
 rcases Nat.lt_or_ge x y with a|a
 ·exact a
 ·have:=rv_le a;omega
theorem zbc {r:Nat}(h:r<4503599627370496):rv r=r:=by
 unfold rv;rw[mg_small h,ex_zero h];simp
theorem rv_mk {E f:Nat}(hf:f<4503599627370496) (hE:1≤E):rv (E*4503599627370496+f)=(4503599627370496+f)*2 ^ (E - 1):=by
 unfold rv mg ex;have h:¬ E*4503599627370496+f<4503599627370496:=by omega
 have e1:(E*4503599627370496+f) % 4503599627370496=f:=by omega
 have e2:(E*4503599627370496+f) / 4503599627370496=E:=by omega
 simp only[h,if_false,e1,e2]
theorem rv_add {r:Nat}(h:4503599627370496≤r) (p:Nat):rv (r+p*4503599627370496)=rv r*2 ^ p:=by
 have e:r=(r / 4503599627370496)*4503599627370496+r % 4503599627370496:=by omega
 have e':r+p*4503599627370496=(r / 4503599627370496+p)*4503599627370496+r % 4503599627370496:=by omega
 have e3:r / 4503599627370496+p - 1=(r / 4503599627370496 - 1)+p:=by omega
 rw[e',rv_mk (by omega) (by omega),e3,Nat.pow_add,← Nat.mul_assoc]
 congr 1
 conv=>rhs;rw[e,rv_mk (by omega) (by omega)]
theorem zdd (M:Nat) (hM:M<9007199254740992) (k:Nat):∃ q,rv q=M*2 ^ k∧q<(k+2)*4503599627370496:=by
 induction k with
 | zero =>
  refine⟨M,?_,by omega⟩;rcases Nat.lt_or_ge M 4503599627370496 with a|a
  ·rw[zbc a];simp
  ·have:=@rv_mk 1 (M - 4503599627370496) (by omega) (by omega);rw[show 1*4503599627370496+(M - 4503599627370496)=M by omega]at this;rw[this]
 | succ k ih =>
  obtain⟨q,hq,hl⟩:=ih;rcases Nat.lt_or_ge q 4503599627370496 with a|a
  ·refine⟨2*q,?_,by omega⟩;rw[zbc a]at hq;rw[Nat.pow_succ,← Nat.mul_assoc,← hq];rcases Nat.lt_or_ge (2*q) 4503599627370496 with b|b
   ·rw[zbc b];omega
   ·have:=@rv_mk 1 (2*q - 4503599627370496) (by omega) (by omega);rw[show 1*4503599627370496+(2*q - 4503599627370496)=2*q by omega]at this;rw[this];simp;omega
  ·refine⟨q+1*4503599627370496,?_,by omega⟩;rw[rv_add a,hq,Nat.pow_one,Nat.pow_succ,Nat.mul_assoc]
theorem zcv {x y z:Nat}(hx:x<9218868437227405312) (hy:y<9218868437227405312) (hz:z<9218868437227405312)
  (h:rv x*rv y=rv z*2 ^ KK):double.mul x y=some z:=by
 unfold Format.mul;rw[zbw hx,zbw hy];simp only[Datum.product,Option.map_some,Format.write,Bool.xor_false];refine congrArg some (zbg false _ _ z (ex x+ex y) KK hz (by have:=kk;omega) ?_);rw[←h,rv,rv,Nat.pow_add];simp only[Nat.mul_assoc,Nat.mul_left_comm,Nat.mul_comm]
theorem div_pow {x z:Nat}(q:Nat) (hq:q≤1023) (hx:x<9218868437227405312) (hz:z<9218868437227405312)
  (h:rv x=rv z*2 ^ q):double.div x ((1023+q)*4503599627370496)=some z:=by
 have hy:(1023+q)*4503599627370496<9218868437227405312:=by omega
 have my:mg ((1023+q)*4503599627370496)=4503599627370496:=by unfold mg;split <;> omega
 have ey:ex ((1023+q)*4503599627370496)=1022+q:=by unfold ex;split <;> omega
 unfold Format.div;rw[zbw hx,zbw hy,my,ey];have hn:¬ (4503599627370496:Nat)=0:=by omega
 have l2:Nat.log2 4503599627370496=52:=by rw[←p52];exact Nat.log2_two_pow
 have lm:(mg x).log2<53:=by
  rcases Nat.eq_zero_or_pos (mg x) with e|e
  ·rw[e];decide
  ·exact (Nat.log2_lt (by omega)).2 (by rw[p53];exact mg_lt x)
 simp only[Datum.quotient,hn,if_false,Option.map_some,Format.write,Bool.xor_false,fb_eq,l2,Nat.shiftLeft_eq]
 obtain⟨c,hc⟩:∃ c,52+2+52 - (mg x).log2=c+52:=⟨54 - (mg x).log2,by omega⟩
 have hc1:1≤c:=by omega
 rw[hc]
 have e1:mg x*2 ^ (c+52) / 4503599627370496=mg x*2 ^ c:=by
  rw[Nat.pow_add,p52,← Nat.mul_assoc];exact Nat.mul_div_cancel _ (by omega)
 have e2:mg x*2 ^ (c+52) % 4503599627370496=0:=by
  rw[Nat.pow_add,p52,← Nat.mul_assoc];exact Nat.mul_mod_left _ _
 rw[e1,e2];simp only[bne_self_eq_false,Bool.toNat_false,Nat.add_zero];refine congrArg some (zbg false _ _ z (ex x) (c+1+q) hz (by omega) ?_);have:rv z*2 ^ (c+1+q)=rv x*2 ^ (c+1):=by rw[h,Nat.pow_add 2 (c+1) q,Nat.mul_assoc,Nat.mul_comm (2 ^ q)]
 rw[this,rv,Nat.pow_succ];simp only[Nat.mul_assoc,Nat.mul_left_comm,Nat.mul_comm]
theorem add_exact {x y z:Nat}(hx:x<9218868437227405312) (hy:y<9218868437227405312) (hz:z<9218868437227405312)
  (h:rv x+rv y=rv z):double.add x y=some z:=by
 unfold Format.add;rw[zbw hx,zbw hy];simp only[Datum.sum,signed,Bool.false_eq_true,if_false,Option.map_some,Format.write,Nat.shiftLeft_eq]
 obtain⟨b,hb⟩:∃ b:Nat,min (ex x) (ex y)=b:=⟨_,rfl⟩
 have hmin:min (-1074+(ex x:Int)) (-1074+(ex y:Int))=-1074+(b:Int):=by omega
 have e1:((-1074+(ex x:Int)) - (-1074+(b:Int))).toNat=ex x - b:=by omega
 have e2:((-1074+(ex y:Int)) - (-1074+(b:Int))).toNat=ex y - b:=by omega
 rw[hmin,e1,e2];have rx:rv x=mg x*2 ^ (ex x - b)*2 ^ b:=by rw[Nat.mul_assoc,← Nat.pow_add,show ex x - b+b=ex x by omega,rv]
 have ry:rv y=mg y*2 ^ (ex y - b)*2 ^ b:=by rw[Nat.mul_assoc,← Nat.pow_add,show ex y - b+b=ex y by omega,rv]
 generalize mg x*2 ^ (ex x - b)=u at *
 generalize mg y*2 ^ (ex y - b)=v at *
 have e3:((u:Int)+(v:Int)).natAbs=u+v:=by omega
 have e4:(if (u:Int)+(v:Int)=0 then (false&&false) else decide ((u:Int)+(v:Int)<0))=false:=by
  split
  ·rfl
  ·simp;omega
 rw[e3,e4];refine congrArg some (zbg false _ _ z b 0 hz (by omega) ?_);rw[←h,Nat.add_mul,← rx,← ry,Nat.pow_zero,Nat.mul_one]
theorem sub_exact {x y z:Nat}(hx:x<9218868437227405312) (hy:y<9218868437227405312) (hz:z<9218868437227405312)
  (h:rv x=rv y+rv z):double.sub x y=some z:=by
 unfold Format.sub;rw[zbw hx,zbw hy];simp only[Datum.opposite,Datum.sum,signed,Bool.false_eq_true,Bool.not_false,if_false,if_true,Option.map_some,Format.write,Nat.shiftLeft_eq]
 obtain⟨b,hb⟩:∃ b:Nat,min (ex x) (ex y)=b:=⟨_,rfl⟩
 have hmin:min (-1074+(ex x:Int)) (-1074+(ex y:Int))=-1074+(b:Int):=by omega
 have e1:((-1074+(ex x:Int)) - (-1074+(b:Int))).toNat=ex x - b:=by omega
 have e2:((-1074+(ex y:Int)) - (-1074+(b:Int))).toNat=ex y - b:=by omega
 rw[hmin,e1,e2];have hpb:=Nat.two_pow_pos b;have rx:rv x=mg x*2 ^ (ex x - b)*2 ^ b:=by rw[Nat.mul_assoc,← Nat.pow_add,show ex x - b+b=ex x by omega,rv]
 have ry:rv y=mg y*2 ^ (ex y - b)*2 ^ b:=by rw[Nat.mul_assoc,← Nat.pow_add,show ex y - b+b=ex y by omega,rv]
 have hle:mg y*2 ^ (ex y - b)≤mg x*2 ^ (ex x - b):=by
  refine Nat.le_of_mul_le_mul_right ?_ hpb;rw[←rx,← ry];omega
 generalize mg x*2 ^ (ex x - b)=u at *
 generalize mg y*2 ^ (ex y - b)=v at *
 have e3:((u:Int)+-(v:Int)).natAbs=u - v:=by omega
 have e4:(if (u:Int)+-(v:Int)=0 then (false&&true) else decide ((u:Int)+-(v:Int)<0))=false:=by
  split
  ·rfl
  ·simp;omega
 rw[e3,e4];refine congrArg some (zbg false _ _ z b 0 hz (by omega) ?_);have:u*2 ^ b=v*2 ^ b+rv z:=by rw[←rx,← ry];exact h
 rw[Nat.sub_mul];simp;omega
def sg (s:Bool) (n:Nat):Int:=if s then -(n:Int) else n
theorem compare_scale (a c:Int) (k:Nat):compare (a*((2 ^ k:Nat):Int)) (c*((2 ^ k:Nat):Int))=compare a c:=by
 have hp:(0:Int)<((2 ^ k:Nat):Int):=by have:=Nat.two_pow_pos k;omega
 rcases Int.lt_trichotomy a c with h|h|h
 ·rw[Int.compare_eq_lt.2 h,Int.compare_eq_lt.2 (Int.mul_lt_mul_of_pos_right h hp)]
 ·subst h;rw[Int.compare_eq_eq.2 rfl,Int.compare_eq_eq.2 rfl]
 ·rw[Int.compare_eq_gt.2 h,Int.compare_eq_gt.2 (Int.mul_lt_mul_of_pos_right h hp)]
theorem zdf (s t:Bool) {x y:Nat}(hx:x<9218868437227405312) (hy:y<9218868437227405312) :
  double.order (double.word s x) (double.word t y)=some (compare (sg s (rv x)) (sg t (rv y))):=by
 unfold Format.order;rw[zcu s hx,zcu t hy];simp only[Datum.order,signed,Nat.shiftLeft_eq]
 obtain⟨b,hb⟩:∃ b:Nat,min (ex x) (ex y)=b:=⟨_,rfl⟩
 have hmin:min (-1074+(ex x:Int)) (-1074+(ex y:Int))=-1074+(b:Int):=by omega
 have e1:((-1074+(ex x:Int)) - (-1074+(b:Int))).toNat=ex x - b:=by omega
 have e2:((-1074+(ex y:Int)) - (-1074+(b:Int))).toNat=ex y - b:=by omega
 rw[hmin,e1,e2];have rx:rv x=mg x*2 ^ (ex x - b)*2 ^ b:=by rw[Nat.mul_assoc,← Nat.pow_add,show ex x - b+b=ex x by omega,rv]
 have ry:rv y=mg y*2 ^ (ex y - b)*2 ^ b:=by rw[Nat.mul_assoc,← Nat.pow_add,show ex y - b+b=ex y by omega,rv]
 have sx:sg s (rv x)=sg s (mg x*2 ^ (ex x - b))*((2 ^ b:Nat):Int):=by
  rw[rx];unfold sg;cases s <;> simp[Int.neg_mul]
 have sy:sg t (rv y)=sg t (mg y*2 ^ (ex y - b))*((2 ^ b:Nat):Int):=by
  rw[ry];unfold sg;cases t <;> simp[Int.neg_mul]
 rw[sx,sy,compare_scale];rfl
theorem div_shift (m e K:Nat) (i:Int) (hi:i=(e:Int) - K):m*2 ^ i.toNat / 2 ^ (-i).toNat=m*2 ^ e / 2 ^ K:=by
 rcases Nat.lt_or_ge e K with a|a
 ·have e1:i.toNat=0:=by omega
  have e2:(-i).toNat=K - e:=by omega
  have e3:2 ^ K=2 ^ (K - e)*2 ^ e:=by rw[←Nat.pow_add,Nat.sub_add_cancel (by omega)]
  rw[e1,e2,e3,Nat.mul_div_mul_right _ _ (Nat.two_pow_pos _),Nat.pow_zero,Nat.mul_one]
 ·have e1:i.toNat=e - K:=by omega
  have e2:(-i).toNat=0:=by omega
  have e3:2 ^ e=2 ^ (e - K)*2 ^ K:=by rw[←Nat.pow_add,Nat.sub_add_cancel (by omega)]
  rw[e1,e2,e3,← Nat.mul_assoc,Nat.mul_div_cancel _ (Nat.two_pow_pos _),Nat.pow_zero,Nat.div_one]
theorem toInt_word (s:Bool) {x:Nat}(hx:x<9218868437227405312) :
  (double.read (double.word s x)).toInt .zero=some (sg s (rv x / 2 ^ KK)):=by
 rw[zcu s hx];simp only[Datum.toInt,Datum.integral,signed,cut_zero,Nat.shiftLeft_eq,Nat.pow_zero,Nat.mul_one];rw[div_shift (mg x) (ex x) KK (-1074+(ex x:Int)) (by have:=kk;omega)];rfl
theorem read_eq (w:Nat):Ieee.double.read w=(if w % 9223372036854775808<4503599627370496 then .number (w / 9223372036854775808 % 2==1) (w % 9223372036854775808) (-1074)
  else if w % 9223372036854775808<9218868437227405312 then .number (w / 9223372036854775808 % 2==1) (4503599627370496+w % 9223372036854775808 % 4503599627370496) (-1074+(w % 9223372036854775808 / 4503599627370496 - 1:Nat))
  else if w % 9223372036854775808=9218868437227405312 then .infinity (w / 9223372036854775808 % 2==1)
  else .nan (w / 9223372036854775808 % 2==1) (w % 9223372036854775808 - 9218868437227405312)):=rfl
theorem read_nan {b:Nat}(hb:9218868437227405312<b % 9223372036854775808):∃ s f,Ieee.double.read b=.nan s f:=by
 refine⟨b / 9223372036854775808 % 2==1,b % 9223372036854775808 - 9218868437227405312,?_⟩;rw[read_eq,if_neg (by omega),if_neg (by omega),if_neg (by omega)]
theorem read_inf {b:Nat}(hb:b % 9223372036854775808=9218868437227405312):Ieee.double.read b=.infinity (b / 9223372036854775808 % 2==1):=by
 rw[read_eq,if_neg (by omega),if_neg (by omega),if_pos hb]
theorem word_of (b:Nat) (hb:b<18446744073709551616):b=double.word (b / 9223372036854775808 % 2==1) (b % 9223372036854775808):=by
 unfold Format.word;rw[sw_eq];by_cases h:b / 9223372036854775808 % 2=1
 ·rw[if_pos (by rw[h];rfl)];omega
 ·rw[if_neg (by simpa using h)];omega
theorem rv_pow (p:Nat):rv ((1023+p)*4503599627370496)=2 ^ p*2 ^ KK:=by
 have:=@rv_mk (1023+p) 0 (by omega) (by omega);rw[Nat.add_zero,Nat.add_zero]at this;rw[this,← p52,← Nat.pow_add,← Nat.pow_add]
 congr 1
 have:=kk;omega
theorem xor63 (T:Nat) (h:T<9223372036854775808):T ^^^ 2 ^ 63=T+9223372036854775808:=by
 have h':T<2 ^ 63:=h;have:=Nat.two_pow_add_eq_or_of_lt (i:=63) (b:=T) h' 1
 apply Nat.eq_of_testBit_eq
 intro i;rw[Nat.testBit_xor,show T+9223372036854775808=2 ^ 63*1+T by omega,this,Nat.testBit_or,Nat.mul_one,Nat.testBit_two_pow];by_cases hi:63=i
 ·subst hi;rw[Nat.testBit_lt_two_pow h'];rfl
 ·simp[hi]
theorem xor63' (T:Nat) (h:T<9223372036854775808):(T+9223372036854775808) ^^^ 2 ^ 63=T:=by
 rw[←xor63 T h,Nat.xor_assoc,Nat.xor_self,Nat.xor_zero]
theorem mulPow {r:Nat}(p:Nat) (hp:p≤1023) (hr:4503599627370496≤r) (hz:r+p*4503599627370496<9218868437227405312) :
  double.mul r ((1023+p)*4503599627370496)=some (r+p*4503599627370496):=by
 refine zcv (by omega) (by omega) hz ?_;rw[rv_pow,rv_add hr,Nat.mul_assoc]
theorem mulPow0 (p:Nat) (hp:p≤1023):double.mul 0 ((1023+p)*4503599627370496)=some 0:=by
 refine zcv (by omega) (by omega) (by omega) ?_;have:rv 0=0:=zbc (by omega);rw[this,Nat.zero_mul,Nat.zero_mul]
theorem dbl_step {r T k:Nat}(hT:T<9218868437227405312) (hr:4503599627370496≤r) (h:rv T=rv r*2 ^ (k+1)) :
  double.mul r 4611686018427387904=some (r+4503599627370496)∧rv T=rv (r+4503599627370496)*2 ^ k∧r+4503599627370496<9218868437227405312:=by
 have e:=rv_add hr 1;rw[Nat.one_mul,Nat.pow_one]at e;have h2:rv T=rv (r+4503599627370496)*2 ^ k:=by rw[h,e,Nat.pow_succ,Nat.mul_assoc,Nat.mul_comm (2 ^ k)]
 have h3:r+4503599627370496<9218868437227405312:=by
  have:rv (r+4503599627370496)≤rv T:=by rw[h2];exact Nat.le_mul_of_pos_right _ (Nat.two_pow_pos _)
  rcases Nat.lt_or_ge T (r+4503599627370496) with a|a
  ·have:=rv_lt a;omega
  ·omega
 have:=@mulPow r 1 (by omega) hr (by omega);rw[Nat.one_mul]at this;exact⟨this,h2,h3⟩
theorem rung_scaled (T j:Nat):∃ y,rv y=rv T*2 ^ j:=by
 obtain⟨y,hy,_⟩:=zdd (mg T) (mg_lt T) (ex T+j);exact⟨y,by rw[hy,rv,Nat.pow_add,Nat.mul_assoc]⟩
theorem hlf_step {r T j:Nat}(hr:r<9218868437227405312) (h:rv r=rv T*2 ^ (j+1)) :
  ∃ y,double.div r 4611686018427387904=some y∧rv y=rv T*2 ^ j∧y<9218868437227405312:=by
 obtain⟨y,hy⟩:=rung_scaled T j;have h2:rv r=rv y*2 ^ 1:=by rw[h,hy,Nat.pow_succ,Nat.mul_assoc,Nat.pow_one]
 have h3:y≤r:=by
  rcases Nat.lt_or_ge r y with a|a
  ·have:=rv_lt a;rw[h2,Nat.pow_one]at this;omega
  ·exact a
 exact⟨y,div_pow 1 (by omega) hr (by omega) h2,hy,by omega⟩
end Go.Proofs.YtgholpilmdebmaaGreatDoor
namespace Go.Proofs.YtgholpilmdebmaaGreatDoor
open Go.RowKit
def nanB (b:Nat):Bool:=FloatKind.f64.format.order b b != some .eq
def fb (n:Int):Nat:=(IntKind.u64.wrap n).toNat
def cb (b:Nat):Int:=if nanB b then 9221120237041090561 else wrap64 b
theorem cb_nan {b:Nat}(h:nanB b=true):cb b=9221120237041090561:=by unfold cb;rw[if_pos h]
theorem cb_num {b:Nat}(h:nanB b=false):cb b=wrap64 b:=by unfold cb;rw[if_neg (by rw[h];exact Bool.false_ne_true)]
theorem ret_int {k:IntKind}{a b:Int}(h:a=b):Ending.returned (.int k a)=.returned (.int k b):=by rw[h]
theorem run_tobits (b:Nat) (w:World):(callFunc 85 #[.float .f64 b]).run Tryz.prog w=.ok (.value (.int .u64 b)) w:=by
 rw[run_callFunc_extern (e:=Extern.MathFloatBits.float64bits) Tryz.func85 (by kernel_rfl) (by kernel_rfl) (by kernel_rfl) (by kernel_rfl)];rfl
theorem run_frombits (n:Int) (w:World):(callFunc 86 #[.int .u64 n]).run Tryz.prog w=.ok (.value (.float .f64 n.toNat)) w:=by
 rw[run_callFunc_extern (e:=Extern.MathFloatBits.float64frombits) Tryz.func86 (by kernel_rfl) (by kernel_rfl) (by kernel_rfl) (by kernel_rfl)];rfl
theorem isnan_any (b:Nat) (w:World) :
  Calls Tryz.prog 84 #[.float .f64 b] w fun e w'=>e=.returned (.bool (nanB b))∧w'=w:=by
 go_enter Tryz.func84,Tryz.ntmps84;go_wp2
 go_ret;exact⟨rfl,rfl⟩
theorem float_any (n:Int) (w:World) :
  Calls Tryz.prog 54 #[.int .i64 n] w fun e w'=>e=.returned (.float .f64 (fb n))∧w'=w:=by
 have hd:=run_frombits;go_enter Tryz.func54,Tryz.ntmps54;go_wp2
 go_ret;exact⟨rfl,rfl⟩
theorem bits_any (b:Nat) (w:World) :
  Calls Tryz.prog 53 #[.float .f64 b] w fun e w'=>e=.returned (.int .i64 (cb b))∧w'=w:=by
 have hd:=run_tobits;go_enter Tryz.func53,Tryz.ntmps53;go_wp2_with (go_at_call 84;refine (isnan_any _ _).mono ?_;rintro e w' ⟨rfl,rfl⟩)
 ·rename_i h
  go_ret;exact⟨ret_int (cb_nan h).symm,rfl⟩
 ·rename_i h
  go_ret;exact⟨ret_int (cb_num h).symm,rfl⟩
def nanOf (x y:Nat) (w:World):Nat:=(Question.nanBits .f64 x y).cut (w.tape w.drawn (Question.nanBits .f64 x y))
def arN (op:BinOp) (x y:Nat) (w:World):Nat:=match floatBits op .f64 x y with|some r=>r|none=>nanOf x y w
def arW (op:BinOp) (x y:Nat) (w:World):World:=match floatBits op .f64 x y with|some _=>w|none=>w.drew
theorem run_ar (op:BinOp) (hop:op=.add∨op=.sub∨op=.mul∨op=.quo) (t:TypeId) (x y:Nat) (w:World) :
  (binOp op t (.float .f64 x) (.float .f64 y)).run Tryz.prog w=.ok (.float .f64 (arN op x y w)) (arW op x y w):=by
 rcases hf:floatBits op .f64 x y with _|r
 ·have e1:arN op x y w=nanOf x y w:=by unfold arN;rw[hf]
  have e2:arW op x y w=w.drew:=by unfold arW;rw[hf]
  rw[e1,e2];unfold floatBits at hf;rcases hop with rfl|rfl|rfl|rfl <;> simp only at hf <;> simp[binOp,Op.floatArith,hf,nanOf,Question.forced]
 ·have e1:arN op x y w=r:=by unfold arN;rw[hf]
  have e2:arW op x y w=w:=by unfold arW;rw[hf]
  rw[e1,e2];exact run_float_arith w op t .f64 x y r hf
theorem nanOf_eq (x y:Nat) (w:World):∃ a c,a<2∧c<4503599627370495∧nanOf x y w=a*9223372036854775808+9218868437227405312+1+c:=by
 unfold nanOf Question.cut;dsimp only
 generalize w.tape w.drawn (Question.nanBits .f64 x y)=t
 exact⟨t % 2,t / 2 % (2 ^ 52 - 1),Nat.mod_lt _ (by decide),Nat.mod_lt _ (by decide),rfl⟩
theorem nanOf_lt (x y:Nat) (w:World):nanOf x y w<18446744073709551616:=by
 obtain⟨a,c,ha,hc,h⟩:=nanOf_eq x y w;omega
theorem nanB_of {b:Nat}(hb:9218868437227405312<b % 9223372036854775808):nanB b=true:=by
 obtain⟨s,f,h⟩:=read_nan hb;unfold nanB;show (Ieee.double.order b b != some .eq)=true;unfold Ieee.Format.order;rw[h];rfl
theorem nanOf_nan (x y:Nat) (w:World):nanB (nanOf x y w)=true:=by
 obtain⟨a,c,ha,hc,h⟩:=nanOf_eq x y w;exact nanB_of (by omega)
theorem zbx {x y z:Nat}(h:Ieee.double.div x y=some z) (w:World):(binOp .quo 98 (.float .f64 x) (.float .f64 y)).run Tryz.prog w=.ok (.float .f64 z) w :=
 run_float_arith w .quo 98 .f64 x y z h
theorem zde {x y z:Nat}(h:Ieee.double.mul x y=some z) (w:World):(binOp .mul 98 (.float .f64 x) (.float .f64 y)).run Tryz.prog w=.ok (.float .f64 z) w :=
 run_float_arith w .mul 98 .f64 x y z h
theorem run_add {x y z:Nat}(h:Ieee.double.add x y=some z) (w:World):(binOp .add 98 (.float .f64 x) (.float .f64 y)).run Tryz.prog w=.ok (.float .f64 z) w :=
 run_float_arith w .add 98 .f64 x y z h
theorem run_sub {x y z:Nat}(h:Ieee.double.sub x y=some z) (w:World):(binOp .sub 98 (.float .f64 x) (.float .f64 y)).run Tryz.prog w=.ok (.float .f64 z) w :=
 run_float_arith w .sub 98 .f64 x y z h
theorem zba (x:Nat):Op.unary .neg (.float .f64 x)=pure (.float .f64 (x ^^^ 2 ^ 63)):=rfl
theorem and_exp {u s e f:Nat}(hs:s<2) (he:e<2048) (hf:f<4503599627370496) (hu:u=s*9223372036854775808+e*4503599627370496+f) :
  bits .and .u64 ((u:Int) / 4503599627370496) 2047=(e:Int):=by
 have h1:((u:Int) / 4503599627370496)=((s*2048+e:Nat):Int):=by omega
 rw[h1,show (2047:Int)=((2047:Nat):Int) from rfl,u64_and_nat _ _ (by omega) (by omega)];have:=Nat.and_two_pow_sub_one_eq_mod (s*2048+e) 11;rw[show (2:Nat) ^ 11 - 1=2047 from rfl]at this;rw[this];omega
theorem and_frac {u s e f:Nat}(hs:s<2) (he:e<2048) (hf:f<4503599627370496) (hu:u=s*9223372036854775808+e*4503599627370496+f) :
  bits .and .u64 (u:Int) 4503599627370495=(f:Int):=by
 rw[show (4503599627370495:Int)=((4503599627370495:Nat):Int) from rfl,u64_and_nat _ _ (by omega) (by omega)];have:=Nat.and_two_pow_sub_one_eq_mod u 52;rw[show (2:Nat) ^ 52 - 1=4503599627370495 from rfl]at this;rw[this];omega
theorem kk_int:((KK:Nat):Int) - ((0:Nat):Int)=0+1074:=by rw[kk];rfl
theorem float_int {f:Nat}(hf:f<9007199254740992):∃ q,floatOfInt .f64 (f:Int)=q∧rv q=f*2 ^ KK∧q<9218868437227405312:=by
 obtain⟨q,hq,hl⟩:=zdd f hf KK;have hl':q<9218868437227405312:=by clear hq;rw[kk]at hl;omega
 refine⟨q,?_,hq,hl'⟩;show Ieee.double.nearest (decide ((f:Int)<0)) (f:Int).natAbs 0=q;have e:decide ((f:Int)<0)=false:=decide_eq_false (by clear hq;omega);rw[e];exact zbg false _ 0 q KK 0 hl' kk_int (by rw[hq,Nat.pow_zero,Nat.mul_one,Int.natAbs_natCast])
def KL:Nat:=1022
theorem kl:KL=1022:=rfl
theorem kl_kk:KL+52=KK:=rfl
theorem frac_q {f:Nat}(hf:f<4503599627370496):∃ q x,floatOfInt .f64 (f:Int)=q∧Ieee.double.div q 4841369599423283200=some x∧rv x=f*2 ^ KL∧x<9218868437227405312 ∧
  Ieee.double.add x 4607182418800017408=some (4607182418800017408+f):=by
 obtain⟨q,hq,rq,lq⟩:=float_int (f:=f) (by omega);obtain⟨x,hx,lx⟩:=zdd f (by omega) KL;have lx':x<9218868437227405312:=by clear hx rq;rw[kl]at lx;omega
 refine⟨q,x,hq,?_,hx,lx',?_⟩
 ·refine div_pow 52 (by omega) lq lx' ?_;rw[rq,hx,Nat.mul_assoc,← Nat.pow_add,kl_kk]
 ·refine add_exact lx' (by omega) (by clear hx rq;omega) ?_;have e1:=@rv_mk 1023 0 (by omega) (by omega);have e2:=@rv_mk 1023 f hf (by omega);rw[Nat.add_zero,Nat.add_zero]at e1;rw[show 1023 - 1=KL from rfl]at e1 e2;rw[show (4607182418800017408:Nat)=1023*4503599627370496 from rfl,e2,hx,e1,← Nat.add_mul,Nat.add_comm]
theorem dbl_var {r T k:Nat}(hT:T<9218868437227405312) (hr:4503599627370496≤r) (h:rv T=rv r*2 ^ (k+1)) :
  ∃ z,(∀ w,(binOp .mul 98 (.float .f64 r) (.float .f64 4611686018427387904)).run Tryz.prog w=.ok (.float .f64 z) w)∧rv T=rv z*2 ^ k∧4503599627370496≤z:=by
 obtain⟨a,b,c⟩:=dbl_step hT hr h;exact⟨_,zde a,b,Nat.le_add_left _ _⟩
theorem hlf_var {r T j:Nat}(hr:r<9218868437227405312) (h:rv r=rv T*2 ^ (j+1)) :
  ∃ z,(∀ w,(binOp .quo 98 (.float .f64 r) (.float .f64 4611686018427387904)).run Tryz.prog w=.ok (.float .f64 z) w)∧rv z=rv T*2 ^ j∧z<9218868437227405312:=by
 obtain⟨y,a,b,c⟩:=hlf_step hr h;exact⟨y,zbx a,b,c⟩
theorem rv_end {r T:Nat}(h:rv T=rv r*2 ^ 0):r=T:=rv_inj (by rw[h,Nat.pow_zero,Nat.mul_one])
theorem rv_end' {r T:Nat}(h:rv r=rv T*2 ^ 0):r=T:=rv_inj (by rw[h,Nat.pow_zero,Nat.mul_one])
theorem wk_up (n:Int) (u e f q x y T k:Nat) (sg:Bool) (h1:bits .and .u64 ((u:Int) / 4503599627370496) 2047=(e:Int)) (h2:bits .and .u64 (u:Int) 4503599627370495=(f:Int))
  (hsh:((u:Int) / 9223372036854775808==1)=sg) (hq:floatOfInt .f64 (f:Int)=q)
  (hd':∀ w,(binOp .quo 98 (.float .f64 q) (.float .f64 4841369599423283200)).run Tryz.prog w=.ok (.float .f64 x) w)
  (ha':∀ w,(binOp .add 98 (.float .f64 x) (.float .f64 4607182418800017408)).run Tryz.prog w=.ok (.float .f64 y) w)
  (hne:∀ x,Op.unary .neg (.float .f64 x)=pure (.float .f64 (x ^^^ 2 ^ 63)))
  (he3:((e:Int)==2047)=false) (he4:((e:Int)==0)=false) (hwr:wrap64 (e:Int)=e) (hwr2:wrap64 ((e:Int) - 1023)=(k:Int)) (hk:k≤1023)
  (hT:T<9218868437227405312) (hy:4503599627370496≤y) (hv:Hid (rv T=rv y*2 ^ k)) (hn:IntKind.u64.wrap n=u) (w:World) :
  Calls Tryz.prog 114 #[.int .i64 n] w fun e w'=>e=.returned (.float .f64 (if sg then T ^^^ 2 ^ 63 else T))∧w'=w:=by
 go_enter Tryz.func114,Tryz.ntmps114;go_wp2
 go_loop [7,8] (fun a c=>∃ (r j:Nat),a=.float .f64 r∧c=.int .i64 (j:Int)∧4503599627370496≤r∧j≤1023∧Hid (rv T=rv r*2 ^ j)) (fun _ c=>(intOf c).toNat)
 case atStart=>exact⟨y,k,rfl,by rw[hwr2],hy,hk,hv⟩
 case round =>
  obtain⟨r,j,rfl,rfl,hr,hj,hrel⟩:=hrel
  cases j with
  | zero =>
   have hrT:=rv_end hrel.out;subst hrT;go_wp2
   go_loop [7,8] (fun a c=>a=.float .f64 r∧c=.int .i64 0) (fun _ _=>0)
   case atStart=>exact⟨rfl,rfl⟩
   case round =>
    obtain⟨rfl,rfl⟩:=hrel
    cases sg
    all_goals
     go_wp2
     go_ret;exact⟨rfl,rfl⟩
  | succ j =>
   obtain⟨z,hz,hz2,hz3⟩:=dbl_var hT hr hrel.out;have HZ:Hid _:=hz2;clear hz2;go_wp2
   go_round
   case rel=>exact⟨z,j,rfl,by go_num,hz3,by omega,HZ⟩
   case measure=>simp[intOf]
theorem wk_down (n:Int) (u e f q x y T k:Nat) (sg:Bool) (h1:bits .and .u64 ((u:Int) / 4503599627370496) 2047=(e:Int)) (h2:bits .and .u64 (u:Int) 4503599627370495=(f:Int))
  (hsh:((u:Int) / 9223372036854775808==1)=sg) (hq:floatOfInt .f64 (f:Int)=q)
  (hd':∀ w,(binOp .quo 98 (.float .f64 q) (.float .f64 4841369599423283200)).run Tryz.prog w=.ok (.float .f64 x) w)
  (ha':∀ w,(binOp .add 98 (.float .f64 x) (.float .f64 4607182418800017408)).run Tryz.prog w=.ok (.float .f64 y) w)
  (hne:∀ x,Op.unary .neg (.float .f64 x)=pure (.float .f64 (x ^^^ 2 ^ 63)))
  (he3:((e:Int)==2047)=false) (he4:((e:Int)==0)=false) (hwr:wrap64 (e:Int)=e) (hwr2:wrap64 ((e:Int) - 1023)=-(k:Int)) (hk:k≤1023)
  (hy:y<9218868437227405312) (hv:Hid (rv y=rv T*2 ^ k)) (hn:IntKind.u64.wrap n=u) (w:World) :
  Calls Tryz.prog 114 #[.int .i64 n] w fun e w'=>e=.returned (.float .f64 (if sg then T ^^^ 2 ^ 63 else T))∧w'=w:=by
 go_enter Tryz.func114,Tryz.ntmps114;go_wp2
 go_loop [7,8] (fun a c=>a=.float .f64 y∧c=.int .i64 (-(k:Int))) (fun _ _=>0)
 case atStart=>exact⟨rfl,by rw[hwr2]⟩
 case round =>
  obtain⟨rfl,rfl⟩:=hrel;have hk0:(0:Int)≤(k:Int):=by omega
  go_wp2
  go_loop [7,8] (fun a c=>∃ (r j:Nat),a=.float .f64 r∧c=.int .i64 (-(j:Int))∧r<9218868437227405312∧j≤1023∧Hid (rv r=rv T*2 ^ j)) (fun _ c=>(-(intOf c)).toNat)
  case atStart=>exact⟨y,k,rfl,rfl,hy,hk,hv⟩
  case round =>
   obtain⟨r,j,rfl,rfl,hr,hj,hrel⟩:=hrel
   cases j with
   | zero =>
    have hrT:=rv_end' hrel.out;subst hrT
    cases sg
    all_goals
     go_wp2
     go_ret;exact⟨rfl,rfl⟩
   | succ j =>
    obtain⟨z,hz,hz2,hz3⟩:=hlf_var hr hrel.out;have HZ:Hid _:=hz2;clear hz2;go_wp2
    go_round
    case rel=>exact⟨z,j,rfl,by go_num,hz3,by omega,HZ⟩
    case measure=>simp[intOf];omega
theorem wk_sub (n:Int) (u f q x T:Nat) (sg:Bool) (h1:bits .and .u64 ((u:Int) / 4503599627370496) 2047=0) (h2:bits .and .u64 (u:Int) 4503599627370495=(f:Int))
  (hsh:((u:Int) / 9223372036854775808==1)=sg) (hq:floatOfInt .f64 (f:Int)=q)
  (hd':∀ w,(binOp .quo 98 (.float .f64 q) (.float .f64 4841369599423283200)).run Tryz.prog w=.ok (.float .f64 x) w)
  (hne:∀ x,Op.unary .neg (.float .f64 x)=pure (.float .f64 (x ^^^ 2 ^ 63)))
  (hx:x<9218868437227405312) (hv:Hid (rv x=rv T*2 ^ KL)) (hn:IntKind.u64.wrap n=u) (w:World) :
  Calls Tryz.prog 114 #[.int .i64 n] w fun e w'=>e=.returned (.float .f64 (if sg then T ^^^ 2 ^ 63 else T))∧w'=w:=by
 go_enter Tryz.func114,Tryz.ntmps114;go_wp2
 go_loop [7,8] (fun a c=>a=.float .f64 x∧c=.int .i64 (-1022)) (fun _ _=>0)
 case atStart=>exact⟨rfl,rfl⟩
 case round =>
  obtain⟨rfl,rfl⟩:=hrel;go_wp2
  go_loop [7,8] (fun a c=>∃ (r j:Nat),a=.float .f64 r∧c=.int .i64 (-(j:Int))∧r<9218868437227405312∧j≤1023∧Hid (rv r=rv T*2 ^ j)) (fun _ c=>(-(intOf c)).toNat)
  case atStart=>exact⟨x,KL,rfl,rfl,hx,by rw[kl];omega,hv⟩
  case round =>
   obtain⟨r,j,rfl,rfl,hr,hj,hrel⟩:=hrel
   cases j with
   | zero =>
    have hrT:=rv_end' hrel.out;subst hrT
    cases sg
    all_goals
     go_wp2
     go_ret;exact⟨rfl,rfl⟩
   | succ j =>
    obtain⟨z,hz,hz2,hz3⟩:=hlf_var hr hrel.out;have HZ:Hid _:=hz2;clear hz2;go_wp2
    go_round
    case rel=>exact⟨z,j,rfl,by go_num,hz3,by omega,HZ⟩
    case measure=>simp[intOf];omega
theorem wk_inf (n:Int) (u q x:Nat) (sg:Bool) (h1:bits .and .u64 ((u:Int) / 4503599627370496) 2047=2047) (h2:bits .and .u64 (u:Int) 4503599627370495=0)
  (hsh:((u:Int) / 9223372036854775808==1)=sg) (hq:floatOfInt .f64 0=q)
  (hd':∀ w,(binOp .quo 98 (.float .f64 q) (.float .f64 4841369599423283200)).run Tryz.prog w=.ok (.float .f64 x) w)
  (hi:∀ w,(binOp .quo 98 (.float .f64 4607182418800017408) (.float .f64 0)).run Tryz.prog w=.ok (.float .f64 9218868437227405312) w)
  (hne:∀ x,Op.unary .neg (.float .f64 x)=pure (.float .f64 (x ^^^ 2 ^ 63)))
  (hn:IntKind.u64.wrap n=u) (w:World) :
  Calls Tryz.prog 114 #[.int .i64 n] w fun e w'=>e=.returned (.float .f64 (if sg then 9218868437227405312 ^^^ 2 ^ 63 else 9218868437227405312))∧w'=w:=by
 cases sg
 all_goals
  go_enter Tryz.func114,Tryz.ntmps114;go_wp2
  go_ret;exact⟨rfl,rfl⟩
theorem wk_nan (n:Int) (u f q x:Nat) (h1:bits .and .u64 ((u:Int) / 4503599627370496) 2047=2047) (h2:bits .and .u64 (u:Int) 4503599627370495=(f:Int)) (hf:((f:Int) != 0)=true)
  (hq:floatOfInt .f64 (f:Int)=q)
  (hd':∀ w,(binOp .quo 98 (.float .f64 q) (.float .f64 4841369599423283200)).run Tryz.prog w=.ok (.float .f64 x) w)
  (hi:∀ w,(binOp .quo 98 (.float .f64 0) (.float .f64 0)).run Tryz.prog w=.ok (.float .f64 (nanOf 0 0 w)) w.drew)
  (hn:IntKind.u64.wrap n=u) (w:World) :
  Calls Tryz.prog 114 #[.int .i64 n] w fun e w'=>e=.returned (.float .f64 (nanOf 0 0 w))∧w'=w.drew:=by
 go_enter Tryz.func114,Tryz.ntmps114;go_wp2
 go_ret;exact⟨rfl,rfl⟩
theorem zdg {b:Nat}(hb:b<18446744073709551616) (h:b % 9223372036854775808≤9218868437227405312):nanB b=false:=by
 unfold nanB;show (Ieee.double.order b b != some .eq)=false;rcases Nat.eq_or_lt_of_le h with e|l
 ·unfold Ieee.Format.order;rw[read_inf e]
  have:Ieee.Datum.order (.infinity (b / 9223372036854775808 % 2==1)) (.infinity (b / 9223372036854775808 % 2==1))=some .eq:=by
   cases (b / 9223372036854775808 % 2==1) <;> rfl
  rw[this];rfl
 ·have hw:=word_of b hb
  generalize (b / 9223372036854775808 % 2==1)=s at hw
  generalize b % 9223372036854775808=r at *
  rw[hw,zdf s s l l,Int.compare_eq_eq.2 rfl];rfl
theorem fb_lt (n:Int):fb n<18446744073709551616:=by
 unfold fb;rw[IntKind.wrap_u64];omega
theorem fb_wrap (n:Int):IntKind.u64.wrap n=(fb n:Int):=by
 unfold fb;rw[IntKind.wrap_u64];omega
theorem nanB_iff (n:Int):nanB (fb n)=decide (9218868437227405312<fb n % 9223372036854775808):=by
 by_cases h:9218868437227405312<fb n % 9223372036854775808
 ·rw[nanB_of h,decide_eq_true h]
 ·rw[zdg (fb_lt n) (by omega),decide_eq_false h]
theorem one_by_nought:Ieee.double.div 4607182418800017408 0=some 9218868437227405312:=by decide +kernel
theorem zdq (w:World):(binOp .quo 98 (.float .f64 0) (.float .f64 0)).run Tryz.prog w=.ok (.float .f64 (nanOf 0 0 w)) w.drew:=by
 have h:floatBits .quo .f64 0 0=none:=by decide +kernel
 have:=run_ar .quo (by simp) 98 0 0 w;have e1:arN .quo 0 0 w=nanOf 0 0 w:=by unfold arN;rw[h]
 have e2:arW .quo 0 0 w=w.drew:=by unfold arW;rw[h]
 rw[this,e1,e2]
theorem parts (u:Nat) (hu:u<18446744073709551616):∃ s e f:Nat,s<2∧e<2048∧f<4503599627370496∧u=s*9223372036854775808+e*4503599627370496+f :=
 ⟨u / 9223372036854775808,u / 4503599627370496 % 2048,u % 4503599627370496,by omega,by omega,by omega,by omega⟩
theorem sign_test {u s R:Nat}(hs:s<2) (hR:R<9223372036854775808) (hu:u=s*9223372036854775808+R) :
  ((u:Int) / 9223372036854775808==1)=decide (s=1)∧(if decide (s=1) then R ^^^ 2 ^ 63 else R)=u:=by
 rcases (by omega:s=0∨s=1) with rfl|rfl
 ·refine⟨?_,?_⟩
  ·have:(u:Int) / 9223372036854775808=0:=by omega
   rw[this];rfl
  ·rw[if_neg (by decide)];omega
 ·refine⟨?_,?_⟩
  ·have:(u:Int) / 9223372036854775808=1:=by omega
   rw[this];rfl
  ·rw[if_pos (by decide),xor63 R hR];omega
theorem rv_up {e f:Nat}(he:1023≤e) (hf:f<4503599627370496):rv (e*4503599627370496+f)=rv (4607182418800017408+f)*2 ^ (e - 1023):=by
 have h:=rv_add (r:=4607182418800017408+f) (by omega) (e - 1023);rw[←h];exact congrArg rv (by omega)
theorem rv_down {e f:Nat}(he:e<1023) (he1:1≤e) (hf:f<4503599627370496):rv (4607182418800017408+f)=rv (e*4503599627370496+f)*2 ^ (1023 - e):=by
 have h:=rv_add (r:=e*4503599627370496+f) (by omega) (1023 - e);rw[←h];exact congrArg rv (by omega)
theorem w64_e {e:Nat}(he:e<2048):wrap64 (e:Int)=e:=by unfold wrap64;omega
theorem w64_up {e:Nat}(he:e<2048) (h:1023≤e):wrap64 ((e:Int) - 1023)=((e - 1023:Nat):Int):=by unfold wrap64;omega
theorem w64_down {e:Nat}(h:e<1023):wrap64 ((e:Int) - 1023)=-((1023 - e:Nat):Int):=by unfold wrap64;omega
theorem ne_2047 {e:Nat}(h:e≠2047):((e:Int)==2047)=false:=by simp;omega
theorem ne_0 {e:Nat}(h:e≠0):((e:Int)==0)=false:=by simp;omega
theorem bne_0 {e:Nat}(h:e≠0):((e:Int) != 0)=true:=by simp;omega
theorem rung_lt {e f:Nat}(he:e<2047) (hf:f<4503599627370496):e*4503599627370496+f<9218868437227405312:=by omega
theorem one_lt {f:Nat}(hf:f<4503599627370496):4607182418800017408+f<9218868437227405312:=by omega
theorem one_ge (f:Nat):4503599627370496≤4607182418800017408+f:=by omega
theorem sfloat_num (n:Int) (hnan:nanB (fb n)=false) (w:World) :
  Calls Tryz.prog 114 #[.int .i64 n] w fun e w'=>e=.returned (.float .f64 (fb n))∧w'=w:=by
 rw[nanB_iff]at hnan;have hle:=of_decide_eq_false hnan;obtain⟨s,e,f,hs,he,hf,hu⟩:=parts (fb n) (fb_lt n);have hn:=fb_wrap n
 generalize fb n=u at *
 have hR:e*4503599627370496+f<9223372036854775808:=by clear hn;omega
 have hu':u=s*9223372036854775808+(e*4503599627370496+f):=by rw[hu,Nat.add_assoc]
 have hinf:e=2047→f=0:=by clear hn;omega
 have h1:=and_exp hs he hf hu;have h2:=and_frac hs he hf hu;obtain⟨t1,t2⟩:=sign_test hs hR hu';clear hle hnan hu hu' hR;obtain⟨q,x,hq,hd,rx,lx,ha⟩:=frac_q hf;by_cases e1:e=2047
 ·have e2:f=0:=hinf e1;subst e1;subst e2;have:=wk_inf n u q x _ h1 h2 t1 hq (zbx hd) (zbx one_by_nought) zba hn w;rw[←t2];exact this
 ·by_cases e2:e=0
  ·subst e2;rw[Nat.zero_mul,Nat.zero_add]at t2;have:=wk_sub n u f q x f _ h1 h2 t1 hq (zbx hd) zba lx (by rw[zbc hf];exact rx) hn w;rw[t2]at this;exact this
  ·have he':e<2047:=Nat.lt_of_le_of_ne (Nat.le_of_lt_succ he) e1;by_cases e3:1023≤e
   ·have:=wk_up n u e f q x (4607182418800017408+f) (e*4503599627370496+f) (e - 1023) (decide (s=1)) h1 h2 t1 hq (zbx hd) (run_add ha) zba (ne_2047 e1) (ne_0 e2) (w64_e he) (w64_up he e3) (by clear ha rx;omega) (rung_lt he' hf) (one_ge f) (rv_up e3 hf) hn w;rw[t2]at this;exact this
   ·have e4:e<1023:=Nat.lt_of_not_le e3;have:=wk_down n u e f q x (4607182418800017408+f) (e*4503599627370496+f) (1023 - e) (decide (s=1)) h1 h2 t1 hq (zbx hd) (run_add ha) zba (ne_2047 e1) (ne_0 e2) (w64_e he) (w64_down e4) (Nat.sub_le _ _) (one_lt hf) (rv_down e4 (Nat.pos_of_ne_zero e2) hf) hn w;rw[t2]at this;exact this
theorem sfloat_nan (n:Int) (hnan:nanB (fb n)=true) (w:World) :
  Calls Tryz.prog 114 #[.int .i64 n] w fun e w'=>e=.returned (.float .f64 (nanOf 0 0 w))∧w'=w.drew:=by
 rw[nanB_iff]at hnan;have hle:=of_decide_eq_true hnan;obtain⟨s,e,f,hs,he,hf,hu⟩:=parts (fb n) (fb_lt n);have hn:=fb_wrap n
 generalize fb n=u at *
 have e1:e=2047∧f≠0:=by clear hn;omega
 have h1:=and_exp hs he hf hu;have h2:=and_frac hs he hf hu;obtain⟨e1,e2⟩:=e1;obtain⟨q,x,hq,hd,rx,lx,ha⟩:=frac_q hf;subst e1;exact wk_nan n u f q x h1 h2 (bne_0 e2) hq (zbx hd) zdq hn w
def fltOf:Value→Nat|.float _ b=>b|_=>0
theorem sg_false (n:Nat):sg false n=n:=rfl
theorem order_pos {x y:Nat}(hx:x<9218868437227405312) (hy:y<9218868437227405312):FloatKind.f64.format.order x y=some (compare x y):=by
 have:=zdf false false hx hy;rw[show Ieee.double.word false x=x from rfl,show Ieee.double.word false y=y from rfl,sg_false,sg_false]at this;show Ieee.double.order x y=_;rw[this];rcases Nat.lt_trichotomy x y with h|h|h
 ·rw[Int.compare_eq_lt.2 (by have:=rv_lt h;omega),Nat.compare_eq_lt.2 h]
 ·subst h;rw[Int.compare_eq_eq.2 rfl,Nat.compare_eq_eq.2 rfl]
 ·rw[Int.compare_eq_gt.2 (by have:=rv_lt h;omega),Nat.compare_eq_gt.2 h]
theorem f_lt {x y:Nat}(hx:x<9218868437227405312) (hy:y<9218868437227405312):(FloatKind.f64.format.order x y==some .lt)=decide (x<y):=by
 rw[order_pos hx hy];rcases Nat.lt_trichotomy x y with h|h|h
 ·rw[Nat.compare_eq_lt.2 h,decide_eq_true h];rfl
 ·subst h;rw[Nat.compare_eq_eq.2 rfl,decide_eq_false (Nat.lt_irrefl _)];rfl
 ·rw[Nat.compare_eq_gt.2 h,decide_eq_false (by omega)];rfl
theorem f_gt {x y:Nat}(hx:x<9218868437227405312) (hy:y<9218868437227405312):(FloatKind.f64.format.order x y==some .gt)=decide (y<x):=by
 rw[order_pos hx hy];rcases Nat.lt_trichotomy x y with h|h|h
 ·rw[Nat.compare_eq_lt.2 h,decide_eq_false (by omega)];rfl
 ·subst h;rw[Nat.compare_eq_eq.2 rfl,decide_eq_false (Nat.lt_irrefl _)];rfl
 ·rw[Nat.compare_eq_gt.2 h,decide_eq_true h];rfl
theorem f_eq {x y:Nat}(hx:x<9218868437227405312) (hy:y<9218868437227405312):(FloatKind.f64.format.order x y==some .eq)=decide (x=y):=by
 rw[order_pos hx hy];rcases Nat.lt_trichotomy x y with h|h|h
 ·rw[Nat.compare_eq_lt.2 h,decide_eq_false (by omega)];rfl
 ·subst h;rw[Nat.compare_eq_eq.2 rfl,decide_eq_true rfl];rfl
 ·rw[Nat.compare_eq_gt.2 h,decide_eq_false (by omega)];rfl
theorem f_ge {x y:Nat}(hx:x<9218868437227405312) (hy:y<9218868437227405312):(FloatKind.f64.format.order x y==some .gt||FloatKind.f64.format.order x y==some .eq)=decide (y≤x):=by
 rw[f_gt hx hy,f_eq hx hy];by_cases h:y≤x
 ·rw[decide_eq_true h];simp;omega
 ·rw[decide_eq_false h];simp;omega
structure Fin1 (b r:Nat) (sg:Bool):Prop where
 nan:(FloatKind.f64.format.order b b != some .eq)=false
 low:(FloatKind.f64.format.order b 0==some .lt)=sg
 nought:(FloatKind.f64.format.order b 0==some .eq)=false
 flip:(if sg then b ^^^ 2 ^ 63 else b)=r
 nought':(FloatKind.f64.format.order r 0==some .eq)=false
 great:(FloatKind.f64.format.order r 9218868437227405311==some .gt)=false
 fin:r<9218868437227405312
 val:Hid (b=(if sg then 9223372036854775808 else 0)+r)
theorem le52:52≤1023:=by decide
theorem zB:0<4503599627370496:=by decide
theorem zI:0<9218868437227405312:=by decide
theorem zW:0<18446744073709551616:=by decide
theorem or_parts {s E f:Nat}(hs:s<2) (hE:E<2048) (hf:f<4503599627370496) :
  bits .or .u64 (bits .or .u64 ((s*9223372036854775808:Nat):Int) ((E*4503599627370496:Nat):Int)) (f:Int)=((s*9223372036854775808+E*4503599627370496+f:Nat):Int):=by
 have a1:=Nat.two_pow_add_eq_or_of_lt (i:=63) (b:=E*4503599627370496) (show E*4503599627370496<9223372036854775808 by omega) s;have a2:=Nat.two_pow_add_eq_or_of_lt (i:=52) (b:=f) hf (2048*s+E);rw[show (2:Nat) ^ 63=9223372036854775808 from rfl]at a1;rw[show (2:Nat) ^ 52=4503599627370496 from rfl]at a2;rw[u64_or_nat _ _ (by omega) (by omega),Nat.mul_comm s,← a1,u64_or_nat _ _ (by omega) (by omega)];rw[show 9223372036854775808*s+E*4503599627370496=4503599627370496*(2048*s+E) by omega,← a2]
theorem zdz {b r p f:Nat}{e:Int}{sg:Bool}(hn:(FloatKind.f64.format.order b b != some .eq)=false) (hb:b=(if sg then 9223372036854775808 else 0)+r) (hr:r<9218868437227405312)
  (hp:p=4607182418800017408+f) (hf:f<4503599627370496) (hj:(p:Int)+e*4503599627370496=r) (he:-1022≤e) :
  wrap64 (bits .or .u64 (bits .or .u64 (if sg then 9223372036854775808 else 0) ((e+1023)*4503599627370496)) (f:Int))=cb b:=by
 rw[cb_num hn]
 congr 1
 obtain⟨E,hE⟩:∃ E:Nat,e+1023=E:=⟨(e+1023).toNat,by omega⟩
 have hrE:r=E*4503599627370496+f:=by omega
 have hE':E<2048:=by omega
 rw[hE];have h:=or_parts (s:=if sg then 1 else 0) (E:=E) (f:=f) (by cases sg <;> decide) hE' hf
 cases sg
 ·rw[if_neg (by decide),Nat.zero_mul,Nat.zero_add]at h;rw[if_neg (by decide)]at hb ⊢;rw[hb,hrE,Nat.zero_add,← h];rfl
 ·rw[if_pos (by decide),Nat.one_mul]at h;rw[if_pos (by decide)]at hb ⊢;rw[hb,hrE,← Nat.add_assoc,← h];rfl
theorem to_u64 {z f:Nat}(hz:z<9218868437227405312) (h:rv z=f*2 ^ KK) (hf:f<18446744073709551616) (w:World) :
  (convert 98 59 (.float .f64 z)).run Tryz.prog w=.ok (.int .u64 (f:Int)) w:=by
 refine run_convert_float_int w 98 59 .f64 .u64 z (f:Int) (by kernel_rfl) Tryz.underlying59 ?_;have ht:=toInt_word false hz;rw[h,Nat.mul_div_cancel _ (Nat.two_pow_pos _),sg_false]at ht;have ht':(FloatKind.f64.decode z).toInt .zero=some (f:Int):=ht;unfold floatToIntVal;rw[ht'];have h0:IntKind.u64.min=0:=rfl;have h1:IntKind.u64.max=18446744073709551615:=rfl;clear h ht ht';simp only;rw[if_pos (by rw[h0,h1];omega)]
theorem half_var {p:Nat}(h1:4611686018427387904≤p) (h2:p<9218868437227405312) :
  ∃ z,(∀ w,(binOp .quo 98 (.float .f64 p) (.float .f64 4611686018427387904)).run Tryz.prog w=.ok (.float .f64 z) w)∧z+4503599627370496=p:=by
 have e:=@rv_add (p - 4503599627370496) (by omega) 1;rw[show p - 4503599627370496+1*4503599627370496=p by omega]at e;exact⟨p - 4503599627370496,zbx (div_pow 1 (by omega) h2 (by omega) e),by omega⟩
theorem twice_var {p:Nat}(h1:4503599627370496≤p) (h2:p<4607182418800017408) :
  ∃ z,(∀ w,(binOp .mul 98 (.float .f64 p) (.float .f64 4611686018427387904)).run Tryz.prog w=.ok (.float .f64 z) w)∧z=p+4503599627370496:=by
 have:=@mulPow p 1 (by omega) h1 (by omega);rw[Nat.one_mul]at this;exact⟨_,zde this,rfl⟩
theorem zcr {p f:Nat}(hp:p=4607182418800017408+f) (hf:f<4503599627370496) :
  ∃ y z,(∀ w,(binOp .sub 98 (.float .f64 p) (.float .f64 4607182418800017408)).run Tryz.prog w=.ok (.float .f64 y) w) ∧
   (∀ w,(binOp .mul 98 (.float .f64 y) (.float .f64 4841369599423283200)).run Tryz.prog w=.ok (.float .f64 z) w) ∧
   (∀ w,(convert 98 59 (.float .f64 z)).run Tryz.prog w=.ok (.int .u64 (f:Int)) w):=by
 obtain⟨y,hy,ly⟩:=zdd f (by omega) KL;have ly':y<4503599627370496*1024:=by clear hy;rw[kl]at ly;omega
 have hp':p<9218868437227405312:=by clear hy ly;omega
 have hy':y<9218868437227405312:=by clear hy ly;omega
 have e1:=@rv_mk 1023 0 (by clear hy ly;omega) (by clear hy ly;omega);have e2:=@rv_mk 1023 f hf (by clear hy ly;omega);rw[Nat.add_zero,Nat.add_zero]at e1;rw[show 1023 - 1=KL from rfl]at e1 e2
 have hs:Ieee.double.sub p 4607182418800017408=some y:=by
  refine sub_exact hp' (by clear hy ly;omega) hy' ?_;rw[hp,show (4607182418800017408:Nat)=1023*4503599627370496 from rfl,e2,hy,e1,← Nat.add_mul]
 rcases Nat.eq_zero_or_pos f with f0|fp
 ·subst f0;have y0:y=0:=rv_inj (by rw[hy,zbc zB,Nat.zero_mul]);subst y0;exact⟨0,0,run_sub hs,zde (mulPow0 52 le52),to_u64 zI (by rw[zbc zB,Nat.zero_mul]) zW⟩
 ·have yb:4503599627370496≤y:=by
   rcases Nat.lt_or_ge y 4503599627370496 with a|a
   ·exfalso
    rw[zbc a]at hy;have h1:2 ^ 52≤2 ^ KL:=Nat.pow_le_pow_right (by decide) (by rw[kl];decide);have h2:1*2 ^ KL≤f*2 ^ KL:=Nat.mul_le_mul_right _ fp;rw[p52]at h1;rw[Nat.one_mul]at h2;exact absurd a (Nat.not_lt.2 (hy ▸ Nat.le_trans h1 h2))
   ·exact a
  have l52:y+52*4503599627370496<9218868437227405312:=by clear hy ly;omega
  refine⟨y,y+52*4503599627370496,run_sub hs,zde (mulPow 52 le52 yb l52),to_u64 l52 ?_ (by clear hy ly;omega)⟩;rw[rv_add yb,hy,Nat.mul_assoc,← Nat.pow_add,kl_kk]
theorem wb_high (b r:Nat) (sg:Bool) (h:Fin1 b r sg) (hr:4607182418800017408≤r) (w:World) :
  Calls Tryz.prog 113 #[.float .f64 b] w fun e w'=>e=.returned (.int .i64 (cb b))∧w'=w:=by
 obtain⟨h1,h2,h3,h4,h5,h6,h7,h8⟩:=h;have hne:=zba
 skip
 cases sg
 ·rw[if_neg (by decide)]at h4;subst h4;go_enter Tryz.func113,Tryz.ntmps113;go_wp2
  go_loop [4,5] (fun a c=>∃ (p j:Nat),a=.float .f64 p∧c=.int .i64 (j:Int)∧4607182418800017408≤p∧p<9218868437227405312∧j≤1023∧Hid (p+j*4503599627370496=b)) (fun a _=>fltOf a)
  case atStart=>exact⟨b,0,rfl,rfl,hr,h7,by decide,(by omega:b+0*4503599627370496=b)⟩
  case round =>
   obtain⟨p,j,rfl,rfl,hp,hp',hj,hrel⟩:=hrel;by_cases hc:4611686018427387904≤p
   ·have hg:(FloatKind.f64.format.order p 4611686018427387904==some .gt||FloatKind.f64.format.order p 4611686018427387904==some .eq)=true:=by rw[f_ge hp' (by decide),decide_eq_true hc]
    obtain⟨z,hz,hz'⟩:=half_var hc hp';have HZ:Hid _:=hz';clear hz';have hj':j<1023:=by have:=hrel.out;omega
    go_wp2
    go_round
    case rel=>exact⟨z,j+1,rfl,by go_num,by have:=HZ.out;omega,by have:=HZ.out;omega,by omega,(by have:=HZ.out;have:=hrel.out;omega:z+(j+1)*4503599627370496=b)⟩
    case measure=>have:=HZ.out;simp[fltOf];omega
   ·have hg:(FloatKind.f64.format.order p 4611686018427387904==some .gt||FloatKind.f64.format.order p 4611686018427387904==some .eq)=false:=by rw[f_ge hp' (by decide),decide_eq_false hc]
    obtain⟨f,hf⟩:∃ f,p=4607182418800017408+f:=⟨p - 4607182418800017408,by omega⟩
    have hf':f<4503599627370496:=by omega
    obtain⟨y,z,t1,t2,t3⟩:=zcr hf hf';have hl:(FloatKind.f64.format.order p 4607182418800017408==some .lt)=false:=by rw[f_lt hp' (by decide),decide_eq_false (by omega)]
    have HF:Hid _:=hf;have HJ:Hid ((p:Int)+(j:Int)*4503599627370496=b):=by have:=hrel.out;show (p:Int)+(j:Int)*4503599627370496=b;omega
    clear hf;go_wp2
    go_loop [4,5] (fun a c=>a=.float .f64 p∧c=.int .i64 (j:Int)) (fun _ _=>0)
    case atStart=>exact⟨rfl,rfl⟩
    case round =>
     obtain⟨rfl,rfl⟩:=hrel;go_wp2
     go_ret;exact⟨ret_int (zdz (sg:=false) h1 h8.out h7 HF.out hf' HJ.out (by omega)),rfl⟩
 ·rw[if_pos (by decide)]at h4;go_enter Tryz.func113,Tryz.ntmps113;go_wp2
  go_loop [4,5] (fun a c=>∃ (p j:Nat),a=.float .f64 p∧c=.int .i64 (j:Int)∧4607182418800017408≤p∧p<9218868437227405312∧j≤1023∧Hid (p+j*4503599627370496=r)) (fun a _=>fltOf a)
  case atStart=>exact⟨r,0,rfl,rfl,hr,h7,by decide,(by omega:r+0*4503599627370496=r)⟩
  case round =>
   obtain⟨p,j,rfl,rfl,hp,hp',hj,hrel⟩:=hrel;by_cases hc:4611686018427387904≤p
   ·have hg:(FloatKind.f64.format.order p 4611686018427387904==some .gt||FloatKind.f64.format.order p 4611686018427387904==some .eq)=true:=by rw[f_ge hp' (by decide),decide_eq_true hc]
    obtain⟨z,hz,hz'⟩:=half_var hc hp';have HZ:Hid _:=hz';clear hz';have hj':j<1023:=by have:=hrel.out;omega
    go_wp2
    go_round
    case rel=>exact⟨z,j+1,rfl,by go_num,by have:=HZ.out;omega,by have:=HZ.out;omega,by omega,(by have:=HZ.out;have:=hrel.out;omega:z+(j+1)*4503599627370496=r)⟩
    case measure=>have:=HZ.out;simp[fltOf];omega
   ·have hg:(FloatKind.f64.format.order p 4611686018427387904==some .gt||FloatKind.f64.format.order p 4611686018427387904==some .eq)=false:=by rw[f_ge hp' (by decide),decide_eq_false hc]
    obtain⟨f,hf⟩:∃ f,p=4607182418800017408+f:=⟨p - 4607182418800017408,by omega⟩
    have hf':f<4503599627370496:=by omega
    obtain⟨y,z,t1,t2,t3⟩:=zcr hf hf';have hl:(FloatKind.f64.format.order p 4607182418800017408==some .lt)=false:=by rw[f_lt hp' (by decide),decide_eq_false (by omega)]
    have HF:Hid _:=hf;have HJ:Hid ((p:Int)+(j:Int)*4503599627370496=r):=by have:=hrel.out;show (p:Int)+(j:Int)*4503599627370496=r;omega
    clear hf;go_wp2
    go_loop [4,5] (fun a c=>a=.float .f64 p∧c=.int .i64 (j:Int)) (fun _ _=>0)
    case atStart=>exact⟨rfl,rfl⟩
    case round =>
     obtain⟨rfl,rfl⟩:=hrel;go_wp2
     go_ret;exact⟨ret_int (zdz (sg:=true) h1 h8.out h7 HF.out hf' HJ.out (by omega)),rfl⟩
theorem wb_mid (b r:Nat) (sg:Bool) (h:Fin1 b r sg) (hr:4503599627370496≤r) (hr2:r<4607182418800017408) (w:World) :
  Calls Tryz.prog 113 #[.float .f64 b] w fun e w'=>e=.returned (.int .i64 (cb b))∧w'=w:=by
 obtain⟨h1,h2,h3,h4,h5,h6,h7,h8⟩:=h;have hne:=zba;have hg0:(FloatKind.f64.format.order r 4611686018427387904==some .gt||FloatKind.f64.format.order r 4611686018427387904==some .eq)=false:=by rw[f_ge h7 (by decide),decide_eq_false (by omega)]
 cases sg
 ·rw[if_neg (by decide)]at h4;subst h4;go_enter Tryz.func113,Tryz.ntmps113;go_wp2
  go_loop [4,5] (fun a c=>a=.float .f64 b∧c=.int .i64 0) (fun _ _=>0)
  case atStart=>exact⟨rfl,rfl⟩
  case round =>
   obtain⟨rfl,rfl⟩:=hrel;go_wp2
   go_loop [4,5] (fun a c=>∃ (p j:Nat),a=.float .f64 p∧c=.int .i64 (-(j:Int))∧4503599627370496≤p∧p<4611686018427387904∧j≤1022∧Hid (p=b+j*4503599627370496)) (fun _ c=>(1022+intOf c).toNat)
   case atStart=>exact⟨b,0,rfl,rfl,hr,by omega,by decide,(by omega:b=b+0*4503599627370496)⟩
   case round =>
    obtain⟨p,j,rfl,rfl,hp,hp',hj,hrel⟩:=hrel;have hpf:p<9218868437227405312:=by omega
    by_cases hc:p<4607182418800017408
    ·have hg:(FloatKind.f64.format.order p 4607182418800017408==some .lt)=true:=by rw[f_lt hpf (by decide),decide_eq_true hc]
     obtain⟨z,hz,hz'⟩:=twice_var hp hc;have HZ:Hid _:=hz';clear hz';have hj':j<1022:=by have:=hrel.out;omega
     go_wp2
     go_round
     case rel=>exact⟨z,j+1,rfl,by go_num,by have:=HZ.out;omega,by have:=HZ.out;omega,by omega,(by have:=HZ.out;have:=hrel.out;omega:z=b+(j+1)*4503599627370496)⟩
     case measure=>simp[intOf];omega
    ·have hg:(FloatKind.f64.format.order p 4607182418800017408==some .lt)=false:=by rw[f_lt hpf (by decide),decide_eq_false hc]
     obtain⟨f,hf⟩:∃ f,p=4607182418800017408+f:=⟨p - 4607182418800017408,by omega⟩
     have hf':f<4503599627370496:=by omega
     obtain⟨y,z,t1,t2,t3⟩:=zcr hf hf';have HF:Hid _:=hf;have HJ:Hid ((p:Int)+-(j:Int)*4503599627370496=b):=by have:=hrel.out;show (p:Int)+-(j:Int)*4503599627370496=b;omega
     clear hf;go_wp2
     go_ret;exact⟨ret_int (zdz (sg:=false) h1 h8.out h7 HF.out hf' HJ.out (by omega)),rfl⟩
 ·rw[if_pos (by decide)]at h4;go_enter Tryz.func113,Tryz.ntmps113;go_wp2
  go_loop [4,5] (fun a c=>a=.float .f64 r∧c=.int .i64 0) (fun _ _=>0)
  case atStart=>exact⟨rfl,rfl⟩
  case round =>
   obtain⟨rfl,rfl⟩:=hrel;go_wp2
   go_loop [4,5] (fun a c=>∃ (p j:Nat),a=.float .f64 p∧c=.int .i64 (-(j:Int))∧4503599627370496≤p∧p<4611686018427387904∧j≤1022∧Hid (p=r+j*4503599627370496)) (fun _ c=>(1022+intOf c).toNat)
   case atStart=>exact⟨r,0,rfl,rfl,hr,by omega,by decide,(by omega:r=r+0*4503599627370496)⟩
   case round =>
    obtain⟨p,j,rfl,rfl,hp,hp',hj,hrel⟩:=hrel;have hpf:p<9218868437227405312:=by omega
    by_cases hc:p<4607182418800017408
    ·have hg:(FloatKind.f64.format.order p 4607182418800017408==some .lt)=true:=by rw[f_lt hpf (by decide),decide_eq_true hc]
     obtain⟨z,hz,hz'⟩:=twice_var hp hc;have HZ:Hid _:=hz';clear hz';have hj':j<1022:=by have:=hrel.out;omega
     go_wp2
     go_round
     case rel=>exact⟨z,j+1,rfl,by go_num,by have:=HZ.out;omega,by have:=HZ.out;omega,by omega,(by have:=HZ.out;have:=hrel.out;omega:z=r+(j+1)*4503599627370496)⟩
     case measure=>simp[intOf];omega
    ·have hg:(FloatKind.f64.format.order p 4607182418800017408==some .lt)=false:=by rw[f_lt hpf (by decide),decide_eq_false hc]
     obtain⟨f,hf⟩:∃ f,p=4607182418800017408+f:=⟨p - 4607182418800017408,by omega⟩
     have hf':f<4503599627370496:=by omega
     obtain⟨y,z,t1,t2,t3⟩:=zcr hf hf';have HF:Hid _:=hf;have HJ:Hid ((p:Int)+-(j:Int)*4503599627370496=r):=by have:=hrel.out;show (p:Int)+-(j:Int)*4503599627370496=r;omega
     clear hf;go_wp2
     go_ret;exact⟨ret_int (zdz (sg:=true) h1 h8.out h7 HF.out hf' HJ.out (by omega)),rfl⟩
theorem low_lt {r p j:Nat}(hr:r<4503599627370496) (hj:j≤1022) (h:rv p=r*2 ^ j) :
  p<9218868437227405312∧(FloatKind.f64.format.order p 4607182418800017408==some .lt)=true:=by
 have e1:=@rv_mk 1023 0 (by decide) (by decide);rw[Nat.add_zero,Nat.add_zero,show 1023 - 1=KL from rfl]at e1
 have a:rv p<4503599627370496*2 ^ KL:=by
  rw[h];exact Nat.lt_of_lt_of_le (Nat.mul_lt_mul_of_pos_right hr (Nat.two_pow_pos _)) (Nat.mul_le_mul_left _ (Nat.pow_le_pow_right (by decide) (by rw[kl];exact hj)))
 rw[←e1]at a;have b:p<4607182418800017408:=lt_of_rv a;clear a e1 h;have c:p<9218868437227405312:=by omega
 exact⟨c,by rw[f_lt c (by decide),decide_eq_true b]⟩
theorem low_step {r p j:Nat}(hr:r<4503599627370496) (hj:j≤1022) (hc:j<1022) (h:rv p=r*2 ^ j) :
  ∃ z,(∀ w,(binOp .mul 98 (.float .f64 p) (.float .f64 4611686018427387904)).run Tryz.prog w=.ok (.float .f64 z) w)∧rv z=r*2 ^ (j+1):=by
 obtain⟨z,hz,lz⟩:=zdd r (by omega) (j+1);have lz':z<9218868437227405312:=by clear hz h;omega
 refine⟨z,zde (zcv (low_lt hr hj h).1 (by decide) lz' ?_),hz⟩;have e:=rv_pow 1;rw[show (1023+1)*4503599627370496=4611686018427387904 from rfl]at e;rw[e,hz,h,Nat.pow_one,Nat.pow_succ,Nat.mul_assoc,Nat.mul_assoc,Nat.mul_assoc]
theorem low_tail {r p j:Nat}(hr0:0<r) (hr:r<4503599627370496) (hj:j=1022) (h:rv p=r*2 ^ j) :
  ∃ z,(∀ w,(binOp .mul 98 (.float .f64 p) (.float .f64 4841369599423283200)).run Tryz.prog w=.ok (.float .f64 z) w) ∧
   (∀ w,(convert 98 59 (.float .f64 z)).run Tryz.prog w=.ok (.int .u64 (r:Int)) w):=by
 rw[←kl]at hj;rw[hj]at h;obtain⟨z,hz,lz⟩:=zdd r (by omega) KK;have lz':z<9218868437227405312:=by clear hz h;rw[kk]at lz;omega
 have hp:p<9218868437227405312:=(low_lt hr (by rw[kl];decide) h).1;refine⟨z,zde (zcv hp (by decide) lz' ?_),to_u64 lz' hz (by clear hz h;omega)⟩;have e:=rv_pow 52;rw[show (1023+52)*4503599627370496=4841369599423283200 from rfl]at e;rw[e,hz,h,← kl_kk,Nat.pow_add 2 KL 52,Nat.mul_assoc,Nat.mul_assoc,Nat.mul_comm (2 ^ KL) (2 ^ 52),← Nat.mul_assoc (2 ^ KL),Nat.mul_comm (2 ^ KL) (2 ^ 52)]
theorem fin_low {b r:Nat}{sg:Bool}(hn:(FloatKind.f64.format.order b b != some .eq)=false) (hb:b=(if sg then 9223372036854775808 else 0)+r) (hr:r<4503599627370496) :
  wrap64 (bits .or .u64 (if sg then 9223372036854775808 else 0) (r:Int))=cb b:=by
 rw[cb_num hn]
 congr 1
 have a1:=Nat.two_pow_add_eq_or_of_lt (i:=63) (b:=r) (show r<9223372036854775808 by omega) (if sg then 1 else 0);rw[show (2:Nat) ^ 63=9223372036854775808 from rfl]at a1;have h:=u64_or_nat (9223372036854775808*(if sg then 1 else 0)) r (by cases sg <;> decide) (by omega);rw[←a1]at h
 cases sg
 ·rw[if_neg (by decide),Nat.mul_zero]at h;rw[if_neg (by decide)]at hb ⊢;rw[hb,← h];rfl
 ·rw[if_pos (by decide),Nat.mul_one]at h;rw[if_pos (by decide)]at hb ⊢;rw[hb,← h];rfl
theorem wb_low (b r:Nat) (sg:Bool) (h:Fin1 b r sg) (hr0:0<r) (hr:r<4503599627370496) (w:World) :
  Calls Tryz.prog 113 #[.float .f64 b] w fun e w'=>e=.returned (.int .i64 (cb b))∧w'=w:=by
 obtain⟨h1,h2,h3,h4,h5,h6,h7,h8⟩:=h;have hne:=zba;have hg0:(FloatKind.f64.format.order r 4611686018427387904==some .gt||FloatKind.f64.format.order r 4611686018427387904==some .eq)=false:=by rw[f_ge h7 (by decide),decide_eq_false (by omega)]
 cases sg
 ·rw[if_neg (by decide)]at h4;subst h4;go_enter Tryz.func113,Tryz.ntmps113;go_wp2
  go_loop [4,5] (fun a c=>a=.float .f64 b∧c=.int .i64 0) (fun _ _=>0)
  case atStart=>exact⟨rfl,rfl⟩
  case round =>
   obtain⟨rfl,rfl⟩:=hrel;go_wp2
   go_loop [4,5] (fun a c=>∃ (p j:Nat),a=.float .f64 p∧c=.int .i64 (-(j:Int))∧j≤1022∧Hid (rv p=b*2 ^ j)) (fun _ c=>(1022+intOf c).toNat)
   case atStart=>exact⟨b,0,rfl,rfl,by decide,(by rw[zbc hr,Nat.pow_zero,Nat.mul_one]:rv b=b*2 ^ 0)⟩
   case round =>
    obtain⟨p,j,rfl,rfl,hj,hrel⟩:=hrel;obtain⟨hpf,hg⟩:=low_lt hr hj hrel.out;by_cases hc:j<1022
    ·obtain⟨z,hz,hz'⟩:=low_step hr hj hc hrel.out;have HZ:Hid _:=hz';clear hz';go_wp2
     go_round
     case rel=>exact⟨z,j+1,rfl,by go_num,by omega,HZ⟩
     case measure=>simp[intOf];omega
    ·obtain⟨z,t1,t2⟩:=low_tail hr0 hr (by omega) hrel.out;go_wp2
     go_ret;exact⟨ret_int (fin_low (sg:=false) h1 h8.out hr),rfl⟩
 ·rw[if_pos (by decide)]at h4;go_enter Tryz.func113,Tryz.ntmps113;go_wp2
  go_loop [4,5] (fun a c=>a=.float .f64 r∧c=.int .i64 0) (fun _ _=>0)
  case atStart=>exact⟨rfl,rfl⟩
  case round =>
   obtain⟨rfl,rfl⟩:=hrel;go_wp2
   go_loop [4,5] (fun a c=>∃ (p j:Nat),a=.float .f64 p∧c=.int .i64 (-(j:Int))∧j≤1022∧Hid (rv p=r*2 ^ j)) (fun _ c=>(1022+intOf c).toNat)
   case atStart=>exact⟨r,0,rfl,rfl,by decide,(by rw[zbc hr,Nat.pow_zero,Nat.mul_one]:rv r=r*2 ^ 0)⟩
   case round =>
    obtain⟨p,j,rfl,rfl,hj,hrel⟩:=hrel;obtain⟨hpf,hg⟩:=low_lt hr hj hrel.out;by_cases hc:j<1022
    ·obtain⟨z,hz,hz'⟩:=low_step hr hj hc hrel.out;have HZ:Hid _:=hz';clear hz';go_wp2
     go_round
     case rel=>exact⟨z,j+1,rfl,by go_num,by omega,HZ⟩
     case measure=>simp[intOf];omega
    ·obtain⟨z,t1,t2⟩:=low_tail hr0 hr (by omega) hrel.out;go_wp2
     go_ret;exact⟨ret_int (fin_low (sg:=true) h1 h8.out hr),rfl⟩
theorem fin1_of {b:Nat}(hb:b<18446744073709551616) (h0:0<b % 9223372036854775808) (hi:b % 9223372036854775808<9218868437227405312) :
  Fin1 b (b % 9223372036854775808) (b / 9223372036854775808 % 2==1):=by
 have hn:nanB b=false:=zdg hb (Nat.le_of_lt hi);have hw:=word_of b hb
 obtain⟨s,hs⟩:∃ s,(b / 9223372036854775808 % 2==1)=s:=⟨_,rfl⟩
 obtain⟨r,hr⟩:∃ r,b % 9223372036854775808=r:=⟨_,rfl⟩
 rw[hs,hr]at hw ⊢;rw[hr]at h0 hi
 have hval:b=(if s then 9223372036854775808 else 0)+r:=by
  rw[hw];unfold Ieee.Format.word;rw[sw_eq];cases s
  ·rw[if_neg (by decide),if_neg (by decide),Nat.zero_add]
  ·rw[if_pos (by decide),if_pos (by decide)]
 have ho:FloatKind.f64.format.order b 0=some (compare (sg s (rv r)) 0):=by
  have:=zdf s false hi (y:=0) zI;rw[←hw,zbc zB]at this;exact this
 have hrp:0<rv r:=by have:=rv_lt h0;rwa [zbc zB]at this
 refine⟨hn,?_,?_,?_,?_,?_,hi,hval⟩
 ·rw[ho]
  cases s
  ·rw[Int.compare_eq_gt.2 (show (0:Int)<sg false (rv r) by unfold sg;rw[if_neg (by decide)];omega)];rfl
  ·rw[Int.compare_eq_lt.2 (show sg true (rv r)<(0:Int) by unfold sg;rw[if_pos (by decide)];omega)];rfl
 ·rw[ho]
  cases s
  ·rw[Int.compare_eq_gt.2 (show (0:Int)<sg false (rv r) by unfold sg;rw[if_neg (by decide)];omega)];rfl
  ·rw[Int.compare_eq_lt.2 (show sg true (rv r)<(0:Int) by unfold sg;rw[if_pos (by decide)];omega)];rfl
 ·cases s
  ·rw[if_neg (by decide)]at hval ⊢;omega
  ·rw[if_pos (by decide)]at hval ⊢;rw[hval,Nat.add_comm];exact xor63' r (by omega)
 ·rw[f_eq hi zI,decide_eq_false (by omega)]
 ·rw[f_gt hi (by decide),decide_eq_false (by omega)]
theorem wb_nan (b:Nat) (h:(FloatKind.f64.format.order b b != some .eq)=true) (w:World) :
  Calls Tryz.prog 113 #[.float .f64 b] w fun e w'=>e=.returned (.int .i64 9221120237041090561)∧w'=w:=by
 go_enter Tryz.func113,Tryz.ntmps113;go_wp2
 go_ret;exact⟨rfl,rfl⟩
theorem quo_one_p (w:World):(binOp .quo 98 (.float .f64 4607182418800017408) (.float .f64 0)).run Tryz.prog w=.ok (.float .f64 9218868437227405312) w:=zbx (by decide +kernel) w
theorem quo_one_m (w:World):(binOp .quo 98 (.float .f64 4607182418800017408) (.float .f64 9223372036854775808)).run Tryz.prog w=.ok (.float .f64 18442240474082181120) w:=zbx (by decide +kernel) w
theorem wb_zero_p (w:World) (h1:(FloatKind.f64.format.order 0 0 != some .eq)=false) (h2:(FloatKind.f64.format.order 0 0==some .lt)=false) (h3:(FloatKind.f64.format.order 0 0==some .eq)=true)
  (h4:(FloatKind.f64.format.order 9218868437227405312 0==some .lt)=false) :
  Calls Tryz.prog 113 #[.float .f64 0] w fun e w'=>e=.returned (.int .i64 0)∧w'=w:=by
 have hd:=quo_one_p;have hne:=zba;go_enter Tryz.func113,Tryz.ntmps113;go_wp2
 go_ret;exact⟨rfl,rfl⟩
theorem wb_zero_m (w:World) (b:Nat) (h1:(FloatKind.f64.format.order b b != some .eq)=false) (h2:(FloatKind.f64.format.order b 0==some .lt)=false) (h3:(FloatKind.f64.format.order b 0==some .eq)=true)
  (hd:∀ w,(binOp .quo 98 (.float .f64 4607182418800017408) (.float .f64 b)).run Tryz.prog w=.ok (.float .f64 18442240474082181120) w)
  (h4:(FloatKind.f64.format.order 18442240474082181120 0==some .lt)=true) (h5:(FloatKind.f64.format.order 0 0==some .eq)=true) (h6:b ^^^ 2 ^ 63=0) :
  Calls Tryz.prog 113 #[.float .f64 b] w fun e w'=>e=.returned (.int .i64 (wrap64 9223372036854775808))∧w'=w:=by
 have hne:=zba;go_enter Tryz.func113,Tryz.ntmps113;go_wp2
 go_ret;exact⟨rfl,rfl⟩
theorem wb_inf (b r:Nat) (w:World) (sg:Bool) (h1:(FloatKind.f64.format.order b b != some .eq)=false) (h2:(FloatKind.f64.format.order b 0==some .lt)=sg) (h3:(FloatKind.f64.format.order b 0==some .eq)=false)
  (h4:(if sg then b ^^^ 2 ^ 63 else b)=r) (h5:(FloatKind.f64.format.order r 0==some .eq)=false) (h6:(FloatKind.f64.format.order r 9218868437227405311==some .gt)=true) :
  Calls Tryz.prog 113 #[.float .f64 b] w fun e w'=>e=.returned (.int .i64 (wrap64 (bits .or .u64 (if sg then 9223372036854775808 else 0) 9218868437227405312)))∧w'=w:=by
 have hne:=zba
 cases sg
 ·rw[if_neg (by decide)]at h4;subst h4;go_enter Tryz.func113,Tryz.ntmps113;go_wp2
  go_ret;exact⟨rfl,rfl⟩
 ·rw[if_pos (by decide)]at h4;go_enter Tryz.func113,Tryz.ntmps113;go_wp2
  go_ret;exact⟨rfl,rfl⟩
theorem cb_low {b:Nat}(hb:b<18446744073709551616) (h:b % 9223372036854775808≤9218868437227405312):cb b=wrap64 b:=cb_num (zdg hb h)
theorem inf_or (sg:Bool):bits .or .u64 (if sg then 9223372036854775808 else 0) 9218868437227405312=(((if sg then 9223372036854775808 else 0)+9218868437227405312:Nat):Int):=by
 cases sg <;> decide +kernel
theorem zch (b:Nat) (hb:b<18446744073709551616) (w:World) :
  Calls Tryz.prog 113 #[.float .f64 b] w fun e w'=>e=.returned (.int .i64 (cb b))∧w'=w:=by
 by_cases hn:9218868437227405312<b % 9223372036854775808
 ·have:=wb_nan b (nanB_of hn) w;rw[cb_nan (nanB_of hn)];exact this
 ·have hc:=cb_low hb (by omega);by_cases h0:b % 9223372036854775808=0
  ·rcases (by omega:b=0∨b=9223372036854775808) with e|e
   ·subst e;have:=wb_zero_p w (by decide +kernel) (by decide +kernel) (by decide +kernel) (by decide +kernel);rw[hc,show wrap64 ((0:Nat):Int)=0 by decide +kernel];exact this
   ·have:=wb_zero_m w b (by rw[e];decide +kernel) (by rw[e];decide +kernel) (by rw[e];decide +kernel) (by rw[e];exact quo_one_m) (by decide +kernel) (by decide +kernel) (by rw[e];decide +kernel);rw[hc];rw[show (9223372036854775808:Int)=((b:Nat):Int) by rw[e];rfl]at this;exact this
  ·by_cases hi:b % 9223372036854775808=9218868437227405312
   ·obtain⟨sg,hsg⟩:∃ sg:Bool,b=(if sg then 9223372036854775808 else 0)+9218868437227405312:=by
     rcases (by omega:b=9218868437227405312∨b=18442240474082181120) with e|e
     ·exact⟨false,e⟩
     ·exact⟨true,e⟩
    have:=wb_inf b 9218868437227405312 w sg (by rw[hsg];cases sg <;> decide +kernel) (by rw[hsg];cases sg <;> decide +kernel) (by rw[hsg];cases sg <;> decide +kernel) (by rw[hsg];cases sg <;> decide +kernel) (by decide +kernel) (by decide +kernel);rw[inf_or,← hsg]at this;rw[hc];exact this
   ·have hf:=fin1_of hb (by omega) (by omega);by_cases a:b % 9223372036854775808<4503599627370496
    ·exact wb_low b _ _ hf (by omega) a w
    ·by_cases c:b % 9223372036854775808<4607182418800017408
     ·exact wb_mid b _ _ hf (by omega) c w
     ·exact wb_high b _ _ hf (by omega) w
end Go.Proofs.YtgholpilmdebmaaGreatDoor
