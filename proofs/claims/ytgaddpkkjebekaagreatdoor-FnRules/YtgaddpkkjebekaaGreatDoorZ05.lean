import Derived.Test.YtgaddpkkjebekaaGreatDoorProg
import Ieee.Arith
import Derived.Laws.BitsAllLaws
import Derived.WalkKit
import Derived.WalkSpells
import Derived.WalkLawsBesides
set_option maxHeartbeats 100000000
set_option maxRecDepth 100000
namespace Go.Proofs.YtgaddpkkjebekaaGreatDoor
open Ieee
end Go.Proofs.YtgaddpkkjebekaaGreatDoor
namespace Go.Proofs.YtgaddpkkjebekaaGreatDoor
open Ieee
end Go.Proofs.YtgaddpkkjebekaaGreatDoor
namespace Go.Proofs.YtgaddpkkjebekaaGreatDoor
open Go.RowKit
def Ag (b:Nat):Bool:=FloatKind.f64.format.order b b != some .eq
def fb (n:Int):Nat:=(IntKind.u64.wrap n).toNat
def cb (b:Nat):Int:=if Ag b then 9221120237041090561 else wrap64 b
theorem Jn {b:Nat}(h:Ag b=true):cb b=9221120237041090561:=by unfold cb;rw[if_pos h]
theorem Jm {b:Nat}(h:Ag b=false):cb b=wrap64 b:=by unfold cb;rw[if_neg (by rw[h];exact Bool.false_ne_true)]
theorem wu {k:IntKind}{a b:Int}(h:a=b):Ending.returned (.int k a)=.returned (.int k b):=by rw[h]
theorem H5 (b:Nat) (w:World):(callFunc 133 #[.float .f64 b]).run Tryz.prog w=.ok (.value (.int .u64 b)) w:=by
 rw[run_callFunc_extern (e:=Extern.MathFloatBits.float64bits) Tryz.func133 (by kernel_rfl) (by kernel_rfl) (by kernel_rfl) (by kernel_rfl)];rfl
theorem DN (n:Int) (w:World):(callFunc 134 #[.int .u64 n]).run Tryz.prog w=.ok (.value (.float .f64 n.toNat)) w:=by
 rw[run_callFunc_extern (e:=Extern.MathFloatBits.float64frombits) Tryz.func134 (by kernel_rfl) (by kernel_rfl) (by kernel_rfl) (by kernel_rfl)];rfl
theorem MO (b:Nat) (w:World) :
  Calls Tryz.prog 132 #[.float .f64 b] w fun e w'=>e=.returned (.bool (Ag b))/\w'=w:=by
 go_enter Tryz.func132,Tryz.ntmps132;go_wp2
 go_ret;exact⟨rfl,rfl⟩
theorem Dt (n:Int) (w:World) :
  Calls Tryz.prog 99 #[.int .i64 n] w fun e w'=>e=.returned (.float .f64 (fb n))/\w'=w:=by
 have hd:=DN;go_enter Tryz.func99,Tryz.ntmps99;go_wp2
 go_ret;exact⟨rfl,rfl⟩
theorem GU (b:Nat) (w:World) :
  Calls Tryz.prog 98 #[.float .f64 b] w fun e w'=>e=.returned (.int .i64 (cb b))/\w'=w:=by
 have hd:=H5;go_enter Tryz.func98,Tryz.ntmps98;go_wp2_with (go_at_call 132;refine (MO _ _).mono ?_;rintro e w' ⟨rfl,rfl⟩)
 ·rename_i h
  go_ret;exact⟨wu (Jn h).symm,rfl⟩
 ·rename_i h
  go_ret;exact⟨wu (Jm h).symm,rfl⟩
def KL:Nat:=1022
end Go.Proofs.YtgaddpkkjebekaaGreatDoor
namespace Go.Proofs.YtgaddpkkjebekaaGreatDoor
open Go.RowKit
end Go.Proofs.YtgaddpkkjebekaaGreatDoor
namespace Go.Proofs.YtgaddpkkjebekaaGreatDoor
open Go.RowKit
theorem Ku (n:Int):IntKind.u64.wrap n=(fb n:Int):=by
 unfold fb;rw[IntKind.wrap_u64];omega
end Go.Proofs.YtgaddpkkjebekaaGreatDoor
namespace Go.Proofs.YtgaddpkkjebekaaGreatDoor
open Go.RowKit
end Go.Proofs.YtgaddpkkjebekaaGreatDoor
namespace Go.Proofs.YtgaddpkkjebekaaGreatDoor
open Go.RowKit
end Go.Proofs.YtgaddpkkjebekaaGreatDoor
