import Derived.Test.YtjnpncefkigcbaaGreatId
import Derived.Test.YtjnpncefkigcbaaGreatIz
set_option maxHeartbeats 100000000
set_option maxRecDepth 100000
namespace Go.Proofs.YtjnpncefkigcbaaGreat
open Go.RowKit
theorem res_yes {x:Im}{e:Se}(hb:imB x=true∧seB e=true) {w w':World}{n:Ending}(h:RunP x e w n w'):∃ v,n=.returned v∧ResQ (runI x e).1 (runI x e).2.1 ((runI x e).2.2.steps:Int) ((runI x e).2.2.moves:Int) ((runI x e).2.2.copies:Int) (runI x e).2.2.out.length (flatI (runI x e).2.2.out) w v w':=by
 unfold RunP at h;rw[if_pos hb]at h;obtain⟨oa,on,oc,rfl,o,l⟩:=h;obtain⟨a,cap,q⟩:=row_form o
 cases q
 have hou:=runI_out (ImI.of hb.1) hb.2;exact⟨_,rfl,oa,oc,rfl,AnsI.of_row o (by omega),fun b q=>o.lt b q,l⟩
theorem res_no {x:Im}{e:Se}(hb:¬ (imB x=true∧seB e=true)) {w w':World}{n:Ending}(h:RunP x e w n w'):∃ v,n=.returned v∧ResQ 0 0 0 0 0 0 [] w v w':=by
 unfold RunP at h;rw[if_neg hb]at h;obtain⟨rfl,l⟩:=h;exact⟨_,rfl,none,0,rfl,AnsI.nil _ _,(fun b q=>by cases q),l⟩
theorem lawrun_any (x:Im) (e:Se) (v0 v1 v2 v3:Value) (w:World) (hok:∀ c∈x.codes,∀ y∈c.ins,y.Ok) (h0:RdL w 1 v0 (Bs.dats x.structs)) (h1:RdL w 4 v1 (Cd.dats x.codes)) (h2:RdL w 1 v2 (In.dats e.input)) (h3:RdL w 1 v3 (In.dats e.oracle)) :
  Calls Tryz.prog 3 #[.agg #[v0,v1,.int .i64 x.main],.agg #[.int .i64 e.half,.int .i64 e.stack,v2,.int .i64 e.fuel,v3]] w fun e1 w'=>e1=.returned (.bool true)∧Later w w':=by
 by_cases hb:imB x=true∧seB e=true
 ·have hou:=runI_out (ImI.of hb.1) hb.2
  exact lawrun_of x e (runI x e).1 (runI x e).2.1 ((runI x e).2.2.steps:Int) ((runI x e).2.2.moves:Int) ((runI x e).2.2.copies:Int) (runI x e).2.2.out.length (flatI (runI x e).2.2.out) hou v0 v1 v2 v3 w
   (fun hs w' sv cv iv rv k1 k2 k3 k4=>(irunim_any hs k1 k2 k3 k4).mono (fun n w'' q=>res_yes hb q))
   (fun hs w' sv cv iv rv k1 k2 k3 k4=>(srunim_any hs hok k1 k2 k3 k4).mono (fun n w'' q=>res_yes hb q)) h0 h1 h2 h3
 ·exact lawrun_of x e 0 0 0 0 0 0 [] (Nat.zero_le _) v0 v1 v2 v3 w
   (fun hs w' sv cv iv rv k1 k2 k3 k4=>(irunim_any hs k1 k2 k3 k4).mono (fun n w'' q=>res_no hb q))
   (fun hs w' sv cv iv rv k1 k2 k3 k4=>(srunim_any hs hok k1 k2 k3 k4).mono (fun n w'' q=>res_no hb q)) h0 h1 h2 h3
end Go.Proofs.YtjnpncefkigcbaaGreat
