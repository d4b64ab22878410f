import Derived.Test.YtmdejbphoafjlaaGreatDoorGj
set_option maxHeartbeats 100000000
set_option maxRecDepth 100000
namespace Go.Proofs.YtmdejbphoafjlaaGreatDoor
open Go.RowKit
def So.run (x:So):Option Int:=if structB x.structs&&decide (x.funcs.length≤8) then Fu.runs (x.structs.length:Int) 400 x.funcs else none
def So.parts (x:So):Int:=match So.run x with|some l=>400 - l|none=>0
theorem Fu.runs_le (s:Int):∀ (xs:List Fu) (l l':Int),Fu.runs s l xs=some l'→l'≤l∧(0≤l→0≤l')
 | [],l,l',h=>by rw[Fu.runs]at h;cases h;exact⟨Int.le_refl _,fun h=>h⟩
 | x::r,l,l',h=>by
  rw[Fu.runs]at h
  split at h
  ·cases h
  ·rename_i l1 h1
   have a:=Fu.run_le h1
   have b:=Fu.runs_le s r l1 l' h
   exact⟨by omega,fun h0=>b.2 (a.2 h0)⟩
theorem buildSv (n:Int) (w:World):(Instr.build 123 #[(0,.int .i64 n)]).run Tryz.prog w=.ok (.agg #[.int .i64 n,.int .i64 0]) w:=run_build w 123 _ _ (by kernel_rfl)
def CntP (x:So) (w:World) (e:Ending) (w':World):Prop:=e=.returned (.tuple #[.int .i64 x.parts,.bool x.run.isSome])∧Later w w'
theorem CntP.no {x:So}{w w':World}{e:Ending}(h:x.run=none) (he:e=.returned (.tuple #[.int .i64 0,.bool false])) (hl:Later w w'):CntP x w e w':=by
 unfold CntP So.parts
 rw[h]
 exact⟨he,hl⟩
theorem CntP.yes {x:So}{w w':World}{e:Ending}{l q:Int}(h:x.run=some l) (hq:q=400 - l) (he:e=.returned (.tuple #[.int .i64 q,.bool true])) (hl:Later w w'):CntP x w e w':=by
 subst hq
 unfold CntP So.parts
 rw[h]
 exact⟨he,hl⟩
theorem icount_any (x:So) (v0 v1:Value) (w:World) (hg:Fu.goods x.funcs) (h0:RdL w 2 v0 (Sc.dats x.structs)) (h1:RdL w 5 v1 (Fu.dats x.funcs)) :
  Calls Tryz.prog 104 #[.agg #[v0,v1]] w fun e w'=>CntP x w e w':=by
 have hSt:=fun w' (l:Later w w')=>istructs_any v0 x.structs w' (RdL.later l h0)
 have HR:Hid (So.run x=if structB x.structs&&decide (x.funcs.length≤8) then Fu.runs (x.structs.length:Int) 400 x.funcs else none):=rfl
 obtain⟨a0,p0,rfl,hl0⟩:=Sc.slice h0
 obtain⟨a1,p1,rfl,hl1⟩:=Fu.slice h1
 have hb:=buildSv
 clear h0
 generalize structB x.structs=sb at *
 cases sb
 ·have hr:So.run x=none:=HR.out
  go_enter Tryz.func104,Tryz.ntmps104
  go_wp2_with (go_at_call 81;refine (hSt _ (later1 _ _)).mono ?_;rintro e w1 ⟨rfl,l1⟩)
  go_ret2
  exact CntP.no hr rfl ((later1 _ _).trans l1)
 ·by_cases h8:x.funcs.length≤8
  ·have h8':¬ 8<(x.funcs.length:Int):=by omega
   have hr:So.run x=Fu.runs (x.structs.length:Int) 400 x.funcs:=by rw[HR.out,decide_eq_true h8];rfl
   have HR':Hid (So.run x=Fu.runs (x.structs.length:Int) 400 x.funcs):=hr
   clear hr HR
   generalize (x.structs.length:Nat)=n at *
   go_enter Tryz.func104,Tryz.ntmps104
   go_wp2_with (go_at_call 81;refine (hSt _ (later1 _ _)).mono ?_;rintro e w1 ⟨rfl,l1⟩;obtain⟨hc1,_⟩:=bcell l1;have hz1:w.heap.size<w1.heap.size:=(by have:=l1.size;simp at this;omega))
   have L1:Later w w1:=(later1 _ _).trans l1
   have hS0:Sv w1.heap.size (w1.alloc (.cells #[.int .i64 (n:Int),.int .i64 0] 123)) (n:Int) 0:=⟨by simp,by simp,by simp,by simp⟩
   have hK:w.heap.size≤w1.heap.size:=L1.size
   go_loopw [24] (fun i wr=>∃ (j:Nat) (q:Int),i=.int .i64 (j:Int)∧j≤x.funcs.length∧OnlyK w1.heap.size (w1.alloc (.cells #[.int .i64 (n:Int),.int .i64 0] 123)) wr∧Sv w1.heap.size wr (n:Int) q∧0≤q∧q≤400∧Hid (Fu.soFar (n:Int) 400 x.funcs j (400 - q))) (fun i _=>x.funcs.length - (intOf i).toNat)
   case atStart=>exact⟨0,0,rfl,Nat.zero_le _,OnlyK.refl _ _,hS0,by decide,by decide,Fu.soFar_start _ _ _⟩
   case round =>
    obtain⟨j,q,rfl,hj,oR,hSr,hq0,hq1,HS⟩:=hrel
    have hLr:Later w wr:=later_only (L1.alloc _) oR hK
    by_cases hlt:j<x.funcs.length
    ·obtain⟨g,off,v0,v1,v2,rfl,hgs,c0,c1,c2,c3,c4,r0,r1,r2⟩:=Fu.elem h1 j hlt
     have i1:(j:Int)<(x.funcs.length:Int):=by omega
     have c0:wr.cell? ⟨g,off+j*5,none⟩=some v0:=by rw[Below.cell hLr (p:=⟨g,off+j*5,none⟩) hgs];exact c0
     have c1:wr.cell? ⟨g,off+j*5+1,none⟩=some v1:=by rw[Below.cell hLr (p:=⟨g,off+j*5+1,none⟩) hgs];exact c1
     have c2:wr.cell? ⟨g,off+j*5+2,none⟩=some (.int .i64 x.funcs[j].rk):=by rw[Below.cell hLr (p:=⟨g,off+j*5+2,none⟩) hgs];exact c2
     have c3:wr.cell? ⟨g,off+j*5+3,none⟩=some (.int .i64 x.funcs[j].rn):=by rw[Below.cell hLr (p:=⟨g,off+j*5+3,none⟩) hgs];exact c3
     have c4:wr.cell? ⟨g,off+j*5+4,none⟩=some v2:=by rw[Below.cell hLr (p:=⟨g,off+j*5+4,none⟩) hgs];exact c4
     obtain⟨y0,t0,rfl,_⟩:=r0.slice
     obtain⟨y1,t1,rfl,_⟩:=Pa.slice r1
     obtain⟨y2,t2,rfl,_⟩:=St.slice r2
     have hE:=fun w' (lw:Later wr w')=>ifunc_any x.funcs[j] _ _ _ w1.heap.size (n:Int) q w w' (hg j hlt) r0 r1 r2 (hLr.trans lw) hK (hSr.later lw) hq0 hq1
     have HN:Hid (∀ l',Fu.run (n:Int) (400 - q) x.funcs[j]=some l'→Fu.soFar (n:Int) 400 x.funcs (j+1) l'∧l'≤400 - q∧0≤l'):=fun l' hr=>⟨Fu.soFar_next HS.out hlt hr,(Fu.run_le hr).1,(Fu.run_le hr).2 (by omega)⟩
     have HB:Hid (Fu.run (n:Int) (400 - q) x.funcs[j]=none→So.run x=none):=fun hr=>HR'.out.trans (Fu.soFar_bad HS.out hlt hr)
     clear r0 r1 r2 h1 HS
     generalize Fu.run (n:Int) (400 - q) x.funcs[j]=R at *
     generalize x.funcs[j].rk=z_rk at *
     generalize x.funcs[j].rn=z_rn at *
     go_wp2_with fail
     refine (hE _ (later1 _ _)).mono ?_
     rintro e w2 ⟨o2,hm⟩
     have o:=oR.trans ((OnlyK.of_later (later1 _ _)).trans o2)
     cases R with
     | none =>
      obtain⟨rfl,p',hS2⟩:=hm
      have hb:=HB.out rfl
      have HB':Hid (So.run x=none):=hb
      clear hb
      go_wp2_with fail
      go_ret2
      exact CntP.no HB'.out rfl (later_only (L1.alloc _) o hK)
     | some l' =>
      obtain⟨rfl,hS2⟩:=hm
      obtain⟨n1,n2,n3⟩:=HN.out l' rfl
      have HN1:Hid (Fu.soFar (n:Int) 400 x.funcs (j+1) (400 - (400 - l'))):=by rw[show (400:Int) - (400 - l')=l' by omega];exact n1
      clear n1 HN HB hE
      go_wp2_with fail
      go_roundw
      case rel=>exact⟨j+1,400 - l',by go_num,by omega,o,hS2,by omega,by omega,HN1⟩
      case measure=>simp[intOf];omega
    ·have i1:¬ (j:Int)<(x.funcs.length:Int):=by omega
     have i2:decide ((j:Int)<(x.funcs.length:Int))=false:=decide_eq_false i1
     have hjj:j=x.funcs.length:=by omega
     subst hjj
     have HD:Hid (So.run x=some (400 - q)):=HR'.out.trans (Fu.soFar_done HS.out)
     have cK:=hSr.c1
     clear h1 HS HR' hSt
     go_wp2_with fail
     go_ret2
     exact CntP.yes HD.out (by omega) rfl hLr
  ·have h8':8<(x.funcs.length:Int):=by omega
   have hr:So.run x=none:=by rw[HR.out,decide_eq_false h8];rfl
   go_enter Tryz.func104,Tryz.ntmps104
   go_wp2_with (go_at_call 81;refine (hSt _ (later1 _ _)).mono ?_;rintro e w1 ⟨rfl,l1⟩;obtain⟨hc1,_⟩:=bcell l1;have hz1:w.heap.size<w1.heap.size:=(by have:=l1.size;simp at this;omega))
   go_ret2
   exact CntP.no hr rfl ((later1 _ _).trans l1)
end Go.Proofs.YtmdejbphoafjlaaGreatDoor
