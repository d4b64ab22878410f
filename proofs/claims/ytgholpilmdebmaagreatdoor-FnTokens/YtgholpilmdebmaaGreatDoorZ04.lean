import Derived.Test.YtgholpilmdebmaaGreatDoorZ03
set_option maxHeartbeats 100000000
set_option maxRecDepth 100000
namespace Go.Proofs.YtgholpilmdebmaaGreatDoor
open Go.RowKit
theorem Pa.own {w:World}{x:Pa}{u0:Value}{F0:List Nat}(h0:OwnD w (.bytes x.name) [u0] F0):OwnD w x.dat [u0,.int .i64 x.tk,.int .i64 x.tn] (F0):=by
 obtain⟨name,tk,tn⟩:=x;rw[Pa.dat,OwnD];rw[OwnAgg];refine⟨[_],_,F0,[],rfl,(List.append_nil _).symm,h0,?_⟩;rw[OwnAgg];refine⟨[_],_,[],_,rfl,(List.nil_append _).symm,by rw[OwnD];exact⟨rfl,rfl⟩,?_⟩;rw[OwnAgg];refine⟨[_],_,[],_,rfl,(List.nil_append _).symm,by rw[OwnD];exact⟨rfl,rfl⟩,?_⟩;rw[OwnAgg];exact⟨rfl,rfl⟩
theorem Tryz.info69:(Tryz.prog.info? 69).map (fun i=>(i.zero,i.size,i.bytes))=some (some (.agg #[.slice none 0 0,.int .i64 0,.int .i64 0]),3,40):=by kernel_rfl
theorem Sc.own {w:World}{x:Sc}{u0 u1:Value}{F0 F1:List Nat}(h0:OwnD w (.bytes x.name) [u0] F0) (h1:OwnD w (.list 3 (Pa.dats x.fields)) [u1] F1):OwnD w x.dat [u0,u1] (F0++(F1)):=by
 obtain⟨name,fields⟩:=x;rw[Sc.dat,OwnD];rw[OwnAgg];refine⟨[_],_,F0,_,rfl,rfl,h0,?_⟩;rw[OwnAgg];refine⟨[_],_,F1,[],rfl,(List.append_nil _).symm,h1,?_⟩;rw[OwnAgg];exact⟨rfl,rfl⟩
theorem Tryz.info65:(Tryz.prog.info? 65).map (fun i=>(i.zero,i.size,i.bytes))=some (some (.agg #[.slice none 0 0,.slice none 0 0]),2,48):=by kernel_rfl
theorem Ex.own {w:World}{x:Ex}{u0 u1:Value}{F0 F1:List Nat}(h0:OwnD w (.bytes x.name) [u0] F0) (h1:OwnD w (.list 6 (Ex.dats x.kids)) [u1] F1):OwnD w x.dat [.int .i64 x.kind,.int .i64 x.n,.int .i64 x.tk,.int .i64 x.tn,u0,u1] (F0++(F1)):=by
 obtain⟨kind,n,tk,tn,name,kids⟩:=x;rw[Ex.dat,OwnD];rw[OwnAgg];refine⟨[_],_,[],_,rfl,(List.nil_append _).symm,by rw[OwnD];exact⟨rfl,rfl⟩,?_⟩;rw[OwnAgg];refine⟨[_],_,[],_,rfl,(List.nil_append _).symm,by rw[OwnD];exact⟨rfl,rfl⟩,?_⟩;rw[OwnAgg];refine⟨[_],_,[],_,rfl,(List.nil_append _).symm,by rw[OwnD];exact⟨rfl,rfl⟩,?_⟩;rw[OwnAgg];refine⟨[_],_,[],_,rfl,(List.nil_append _).symm,by rw[OwnD];exact⟨rfl,rfl⟩,?_⟩;rw[OwnAgg];refine⟨[_],_,F0,_,rfl,rfl,h0,?_⟩;rw[OwnAgg];refine⟨[_],_,F1,[],rfl,(List.append_nil _).symm,h1,?_⟩;rw[OwnAgg];exact⟨rfl,rfl⟩
theorem Tryz.info89:(Tryz.prog.info? 89).map (fun i=>(i.zero,i.size,i.bytes))=some (some (.agg #[.int .i64 0,.int .i64 0,.int .i64 0,.int .i64 0,.slice none 0 0,.slice none 0 0]),6,80):=by kernel_rfl
theorem St.own {w:World}{x:St}{u0 u1 u2 u3:Value}{F0 F1 F2 F3:List Nat}(h0:OwnD w (.bytes x.name) [u0] F0) (h1:OwnD w (.list 6 (Ex.dats x.kids)) [u1] F1) (h2:OwnD w (.list 8 (St.dats x.body)) [u2] F2) (h3:OwnD w (.list 8 (St.dats x.els)) [u3] F3):OwnD w x.dat [.int .i64 x.kind,.int .i64 x.n,.int .i64 x.tk,.int .i64 x.tn,u0,u1,u2,u3] (F0++(F1++(F2++(F3)))):=by
 obtain⟨kind,n,tk,tn,name,kids,body,els⟩:=x;rw[St.dat,OwnD];rw[OwnAgg];refine⟨[_],_,[],_,rfl,(List.nil_append _).symm,by rw[OwnD];exact⟨rfl,rfl⟩,?_⟩;rw[OwnAgg];refine⟨[_],_,[],_,rfl,(List.nil_append _).symm,by rw[OwnD];exact⟨rfl,rfl⟩,?_⟩;rw[OwnAgg];refine⟨[_],_,[],_,rfl,(List.nil_append _).symm,by rw[OwnD];exact⟨rfl,rfl⟩,?_⟩;rw[OwnAgg];refine⟨[_],_,[],_,rfl,(List.nil_append _).symm,by rw[OwnD];exact⟨rfl,rfl⟩,?_⟩;rw[OwnAgg];refine⟨[_],_,F0,_,rfl,rfl,h0,?_⟩;rw[OwnAgg];refine⟨[_],_,F1,_,rfl,rfl,h1,?_⟩;rw[OwnAgg];refine⟨[_],_,F2,_,rfl,rfl,h2,?_⟩;rw[OwnAgg];refine⟨[_],_,F3,[],rfl,(List.append_nil _).symm,h3,?_⟩;rw[OwnAgg];exact⟨rfl,rfl⟩
theorem Tryz.info92:(Tryz.prog.info? 92).map (fun i=>(i.zero,i.size,i.bytes))=some (some (.agg #[.int .i64 0,.int .i64 0,.int .i64 0,.int .i64 0,.slice none 0 0,.slice none 0 0,.slice none 0 0,.slice none 0 0]),8,128):=by kernel_rfl
theorem Fu.own {w:World}{x:Fu}{u0 u1 u2:Value}{F0 F1 F2:List Nat}(h0:OwnD w (.bytes x.name) [u0] F0) (h1:OwnD w (.list 3 (Pa.dats x.params)) [u1] F1) (h2:OwnD w (.list 8 (St.dats x.body)) [u2] F2):OwnD w x.dat [u0,u1,.int .i64 x.rk,.int .i64 x.rn,u2] (F0++(F1++(F2))):=by
 obtain⟨name,params,rk,rn,body⟩:=x;rw[Fu.dat,OwnD];rw[OwnAgg];refine⟨[_],_,F0,_,rfl,rfl,h0,?_⟩;rw[OwnAgg];refine⟨[_],_,F1,_,rfl,rfl,h1,?_⟩;rw[OwnAgg];refine⟨[_],_,[],_,rfl,(List.nil_append _).symm,by rw[OwnD];exact⟨rfl,rfl⟩,?_⟩;rw[OwnAgg];refine⟨[_],_,[],_,rfl,(List.nil_append _).symm,by rw[OwnD];exact⟨rfl,rfl⟩,?_⟩;rw[OwnAgg];refine⟨[_],_,F2,[],rfl,(List.append_nil _).symm,h2,?_⟩;rw[OwnAgg];exact⟨rfl,rfl⟩
theorem Tryz.info73:(Tryz.prog.info? 73).map (fun i=>(i.zero,i.size,i.bytes))=some (some (.agg #[.slice none 0 0,.slice none 0 0,.int .i64 0,.int .i64 0,.slice none 0 0]),5,88):=by kernel_rfl
theorem So.own {w:World}{x:So}{u0 u1:Value}{F0 F1:List Nat}(h0:OwnD w (.list 2 (Sc.dats x.structs)) [u0] F0) (h1:OwnD w (.list 5 (Fu.dats x.funcs)) [u1] F1):OwnD w x.dat [u0,u1] (F0++(F1)):=by
 obtain⟨structs,funcs⟩:=x;rw[So.dat,OwnD];rw[OwnAgg];refine⟨[_],_,F0,_,rfl,rfl,h0,?_⟩;rw[OwnAgg];refine⟨[_],_,F1,[],rfl,(List.append_nil _).symm,h1,?_⟩;rw[OwnAgg];exact⟨rfl,rfl⟩
end Go.Proofs.YtgholpilmdebmaaGreatDoor
namespace Go.Proofs.YtgholpilmdebmaaGreatDoor
open Go.RowKit
end Go.Proofs.YtgholpilmdebmaaGreatDoor
