import Derived.Test.YtmdejbphoafjlaaGreatDoorHe
import Derived.Test.YtmdejbphoafjlaaGreatDoorGo
import Derived.Test.YtmdejbphoafjlaaGreatDoorCards
import Derived.Test.YtmdejbphoafjlaaGreatDoorTie
import Derived.ProofKit
import Derived.OpenShut
import Derived.OpenVars
import Derived.ChangeOld
import Derived.ChangeSame
import Derived.LaidMore
import Derived.Lib.LaidU8
import Derived.Stop.Joined
set_option maxHeartbeats 100000000
set_option maxRecDepth 100000
namespace Go.Proofs.YtmdejbphoafjlaaGreatDoor
open Go.ChangeShapes Go.WideShapes Go.ChangeAt Go.RowKit Go.Lib
theorem gIt:Tryz.prog.globalNamed "loop.example/g00306/impl.intTy"=some 0:=by kernel_rfl
theorem gFt:Tryz.prog.globalNamed "loop.example/g00306/impl.floatTy"=some 1:=by kernel_rfl
theorem tIt:(Tryz.prog.globals[0]?).map (·.type)=some 47:=by kernel_rfl
theorem tFt:(Tryz.prog.globals[1]?).map (·.type)=some 47:=by kernel_rfl
theorem ty_of {W:World}{nm:String}{g:Nat}{a b:Int}(hg:Tryz.prog.globalNamed nm=some g) (ht:(Tryz.prog.globals[g]?).map (·.type)=some 47) (h:VarReads Tryz.prog W nm (.agg [.lit (.int .i64 a),.lit (.int .i64 b)])):W.cell? ⟨g,0,none⟩=some (.int .i64 a)∧W.cell? ⟨g,1,none⟩=some (.int .i64 b):=by
 obtain⟨g',t',cs,fuel,p,hg',ht',hvar,hd⟩:=h
 obtain rfl:=Option.some.inj (hg.symm.trans hg')
 obtain rfl:=Option.some.inj (ht.symm.trans ht')
 obtain⟨y0,y1,n,hx,hl,d0,d1⟩:=trod_struct2 Tryz.underlying47 hd
 have hc1:Tryz.prog.cellsOf 3=1:=by kernel_rfl
 obtain⟨n0,e0,rfl,_⟩:=DataW.trod_int Tryz.underlying3 d0
 obtain⟨n1,e1,rfl,_⟩:=DataW.trod_int Tryz.underlying3 d1
 have hx':=congrArg Prod.fst hx
 simp only[DataW.agg.injEq,List.cons.injEq,DataW.lit.injEq,Lit.int.injEq,true_and,and_true]at hx'
 obtain⟨rfl,rfl⟩:=hx'
 have e0':(cs.toList.drop 0).take (Tryz.prog.cellsOf 3)=[.int .i64 a]:=e0
 have e1':(cs.toList.drop 1).take (Tryz.prog.cellsOf 3)=[.int .i64 b]:=e1
 rw[hc1]at e0' e1'
 have c0:cs[0]?=some (.int .i64 a):=by
  have:=congrArg (·[0]?) e0'
  simpa[List.getElem?_take,List.getElem?_drop] using this
 have c1:cs[1]?=some (.int .i64 b):=by
  have:=congrArg (·[0]?) e1'
  simpa[List.getElem?_take,List.getElem?_drop] using this
 exact⟨by rw[World.var?_cell hg hvar 0];exact c0,by rw[World.var?_cell hg hvar 1];exact c1⟩
end Go.Proofs.YtmdejbphoafjlaaGreatDoor
