import Derived.Test.YtmdejbphoafjlaaGreatDoorGj
import Derived.ProofKit
import Derived.OpenShut
import Derived.ShutString
import Derived.ChangeOld
import Derived.Below
set_option maxHeartbeats 100000000
set_option maxRecDepth 100000
namespace Go.Proofs.YtmdejbphoafjlaaGreatDoor
open Go.ChangeShapes Go.WideShapes Go.ChangeAt Go.RowKit
theorem lt_of_cell {w:World}{a:Addr}{v:Value}(h:w.cell? a=some v):a.block<w.heap.size:=by
 rcases Nat.lt_or_ge a.block w.heap.size with l|l
 ·exact l
 ·have:w.heap[a.block]?=none:=Array.getElem?_eq_none l
  unfold World.cell? at h
  rw[this]at h
  cases h
theorem rdb_of {w:World}{x:Addr}{len cap:Nat}{zs:List Int}(hl:len≤zs.length) (hm:zs.length≤maxLen)
  (hcell:∀ i,i<zs.length→w.cell? (x.add i)=some (.int .u8 (zs.getD i 0))) (hw:∀ n∈zs,(Lit.int .u8 n).wf=true):RdB w (.slice (some x) len cap) (zs.take len):=by
 unfold maxLen at hm
 have hlen:(zs.take len).length=len:=by simp;omega
 have h3:∀ n∈zs,isB n:=fun n hn=>by
  have h2:=hw n hn
  simp only[Lit.wf,IntKind.min,IntKind.max,IntKind.signed,IntKind.bits,Bool.and_eq_true]at h2
  unfold isB
  simpa using h2
 refine⟨some x,cap,by rw[hlen],by rw[hlen];omega,fun j=>?_,fun j hj=>?_⟩
 ·rw[List.getD_eq_getElem?_getD]
  rcases Nat.lt_or_ge j (zs.take len).length with h|h
  ·rw[List.getElem?_eq_getElem h]
   exact h3 _ (List.mem_of_mem_take (List.getElem_mem _))
  ·rw[List.getElem?_eq_none h];exact⟨by simp,by simp⟩
 ·rw[hlen]at hj
  obtain⟨b,off,rfl,hc⟩:=ints_at hcell (by omega)
  have h1:=hc j (by omega)
  refine⟨b,off,rfl,lt_of_cell h1,?_⟩
  rw[h1,List.getD_eq_getElem?_getD,List.getD_eq_getElem?_getD,List.getElem?_take_of_lt hj]
section
variable {H:Type}{enc:TypeId × Value→H}{W:World}
theorem pick_list {X:Type}{Q:Nat→X→Prop}:∀ n,(∀ i,i<n→∃ x,Q i x)→∃ l:List X,l.length=n∧∀ i (h:i<l.length),Q i l[i]
 | 0,_=>⟨[],rfl,fun i h=>absurd h (Nat.not_lt_zero _)⟩
 | n+1,h=>by
  obtain⟨l,hl,hq⟩:=pick_list n (fun i hi=>h i (by omega))
  obtain⟨x,hx⟩:=h n (Nat.lt_succ_self n)
  refine⟨l++[x],by rw[List.length_append,hl];rfl,fun i hi=>?_⟩
  rcases Nat.lt_or_ge i l.length with a|a
  ·rw[List.getElem_append_left a];exact hq i a
  ·have:i=l.length:=by rw[List.length_append]at hi;simp at hi;omega
   subst this
   rw[List.getElem_append_right (Nat.le_refl _)]
   simp only[Nat.sub_self,List.getElem_cons_zero]
   rw[hl];exact hx
theorem cells_get {a:Addr}{k:Nat}{cs:List Value}(h:W.cells? 0 a k=some cs):cs.length=k∧∀ m u,cs[m]?=some u→W.cell? (a.add m)=some u:=by
 unfold World.cells? at h
 rw[if_pos (Nat.zero_le _)]at h
 have hl:cs.length=k:=by simpa using mapM_some_length h
 refine⟨hl,fun m u hu=>?_⟩
 have hm:m<k:=by
  rw[←hl]
  rcases Nat.lt_or_ge m cs.length with a|a
  ·exact a
  ·rw[List.getElem?_eq_none a]at hu;cases hu
 have:=mapM_some_get h m m (by simp[hm])
 rw[this];exact hu
theorem open_list {T S:TypeId}(hu:Tryz.prog.underlying S=some (.slice T)) {k:Nat}(hk:Tryz.prog.cellsOf T=k) (hk0:0<k) {X:Type}(dat:X→Dat) (Good:X→Prop) {fuel:Nat}{cs:List Value}{y:DataW H × List MemPlace}(h:DataW.trod enc Tryz.prog W 0 (fun _=>true) true fuel S cs=some y)
  (hX:∀ n cs y,n<fuel→DataW.trod enc Tryz.prog W 0 (fun _=>true) true n T cs=some y→∃ x,Good x∧RdD W (dat x) cs) :
  ∃ (l:List X) (v:Value),cs=[v]∧(∀ i (h:i<l.length),Good l[i])∧RdL W k v (l.map dat):=by
 rcases DataW.trod_slice hu h with ⟨rfl,_⟩|⟨a,len,cap,elems,rest,n,rfl,rfl,_,_,hl,hm,hlen,hel,_,_⟩
 ·exact⟨[],_,rfl,fun i h=>absurd h (Nat.not_lt_zero _),none,0,rfl,⟨Nat.le_refl _,by unfold maxLen;omega⟩,fun j hj=>absurd hj (Nat.not_lt_zero _)⟩
 ·rw[hk]at hel
  have hex:∀ i,i<len→∃ x,Good x∧∃ c,W.cells? 0 (a.add (i*k)) k=some c∧RdD W (dat x) c:=fun i hi=>by
   have h1:=hel i hi
   rw[List.getElem?_eq_getElem (by omega)]at h1
   obtain⟨c,hc,hd⟩:=Option.bind_eq_some_iff.1 h1
   obtain⟨x,hg,hr⟩:=hX n c _ (Nat.lt_succ_self _) hd
   exact⟨x,hg,c,hc,hr⟩
  obtain⟨l,hll,hq⟩:=pick_list len hex
  refine⟨l,_,rfl,fun i hi=>(hq i hi).1,some a,cap,by rw[List.length_map,hll],by rw[List.length_map,hll];exact⟨hl,hm⟩,fun j hj=>?_⟩
  rw[List.length_map]at hj
  obtain⟨_,c0,hc0,_⟩:=hq 0 (by omega)
  obtain⟨hl0,hg0⟩:=cells_get hc0
  have hfirst:=hg0 0 c0[0] (List.getElem?_eq_getElem (by omega))
  have hsp:a.spot=none:=by
   have:=World.cell?_spot hfirst
   rw[Nat.zero_mul]at this
   simpa[Addr.add] using this
  obtain⟨b,off,sp⟩:=a
  simp only at hsp
  subst hsp
  obtain⟨_,c,hc,hr⟩:=hq j hj
  obtain⟨hlc,hgc⟩:=cells_get hc
  rw[add_plain]at hgc hfirst
  rw[add_plain]at hfirst
  refine⟨b,off,c,rfl,lt_of_cell hfirst,hlc,fun m u hu=>?_,by rw[List.getElem_map];exact hr⟩
  have:=hgc m u hu
  rwa [add_plain]at this
theorem trod_int {t:TypeId}(hu:Tryz.prog.underlying t=some (.int .i64)) {fuel:Nat}{c:Value}{y:DataW H × List MemPlace}(h:DataW.trod enc Tryz.prog W 0 (fun _=>true) true fuel t [c]=some y):∃ n,c=.int .i64 n∧InR n:=by
 cases fuel with
 | zero=>simp[DataW.trod]at h
 | succ m =>
  unfold DataW.trod at h
  rw[hu]at h
  split at h <;> simp_all
  rename_i h0
  obtain⟨⟨rfl,hw⟩,_⟩:=h
  rw[←h0]at hw
  simp only[Lit.wf,IntKind.min,IntKind.max,IntKind.signed,IntKind.bits,Bool.and_eq_true]at hw
  unfold InR
  simpa using hw
theorem open_bytes {fuel:Nat}{cs:List Value}{y:DataW H × List MemPlace}(h:DataW.trod enc Tryz.prog W 0 (fun _=>true) true fuel 41 cs=some y):∃ v zs,cs=[v]∧RdN W v zs:=by
 rcases open_ints Tryz.underlying41 Tryz.underlying5 (by kernel_rfl) h with ⟨rfl,_⟩|⟨x,l,c,zs,rfl,_,hl,hm,hz,_,hcell,hwz⟩
 ·exact⟨_,[],rfl,RdB.nil W,none,0,rfl,Nat.le_refl _,by unfold maxLen;omega⟩
 ·have hz':zs.length=c:=by simpa using hz
  have e:(zs.take l).length=l:=by rw[List.length_take];omega
  exact⟨_,zs.take l,rfl,rdb_of (by omega) (by rw[hz'];exact hm) hcell hwz,some x,c,by rw[e],by rw[e];exact hl,hm⟩
theorem open_ty {fuel:Nat}{c d:Value}{y:DataW H × List MemPlace}(h:DataW.trod enc Tryz.prog W 0 (fun _=>true) true fuel 84 [c,d]=some y):∃ k n,[c,d]=[.int .i64 k,.int .i64 n]:=by
 obtain⟨xs,n,rfl,_,hlen,hxl,hf⟩:=DataW.trod_struct Tryz.underlying84 h
 have k:Tryz.prog.cellsOf 3=1:=by kernel_rfl
 have e0:DataW.trod enc Tryz.prog W 0 (fun _=>true) true n 3 (([c,d].drop 0).take (Tryz.prog.cellsOf 3))=xs[0]?:=hf 0 _ rfl
 have e1:DataW.trod enc Tryz.prog W 0 (fun _=>true) true n 3 (([c,d].drop 1).take (Tryz.prog.cellsOf 3))=xs[1]?:=hf 1 _ rfl
 rw[k]at e0 e1
 rw[List.getElem?_eq_getElem (by rw[hxl];decide)]at e0 e1
 obtain⟨z0,r0,_⟩:=trod_int (c:=c) Tryz.underlying3 e0
 obtain⟨z1,r1,_⟩:=trod_int (c:=d) Tryz.underlying3 e1
 exact⟨z0,z1,by rw[r0,r1]⟩
theorem Pa.dats_map (l:List Pa):Pa.dats l=l.map Pa.dat:=by
 induction l with
 | nil=>rw[Pa.dats,List.map_nil]
 | cons x r ih=>rw[Pa.dats,ih,List.map_cons]
theorem Sc.dats_map (l:List Sc):Sc.dats l=l.map Sc.dat:=by
 induction l with
 | nil=>rw[Sc.dats,List.map_nil]
 | cons x r ih=>rw[Sc.dats,ih,List.map_cons]
theorem Ex.dats_map (l:List Ex):Ex.dats l=l.map Ex.dat:=by
 induction l with
 | nil=>rw[Ex.dats,List.map_nil]
 | cons x r ih=>rw[Ex.dats,ih,List.map_cons]
theorem St.dats_map (l:List St):St.dats l=l.map St.dat:=by
 induction l with
 | nil=>rw[St.dats,List.map_nil]
 | cons x r ih=>rw[St.dats,ih,List.map_cons]
theorem Fu.dats_map (l:List Fu):Fu.dats l=l.map Fu.dat:=by
 induction l with
 | nil=>rw[Fu.dats,List.map_nil]
 | cons x r ih=>rw[Fu.dats,ih,List.map_cons]
theorem Ex.goods_of {l:List Ex}(h:∀ i (h:i<l.length),l[i].good):Ex.goods l:=by
 induction l with
 | nil=>rw[Ex.goods];trivial
 | cons x r ih=>rw[Ex.goods];exact⟨h 0 (by simp),ih fun i hi=>h (i+1) (by simpa using hi)⟩
theorem St.goods_of {l:List St}(h:∀ i (h:i<l.length),l[i].good):St.goods l:=by
 induction l with
 | nil=>rw[St.goods];trivial
 | cons x r ih=>rw[St.goods];exact⟨h 0 (by simp),ih fun i hi=>h (i+1) (by simpa using hi)⟩
theorem openPa {fuel:Nat}{cs:List Value}{y:DataW H × List MemPlace}(h:DataW.trod enc Tryz.prog W 0 (fun _=>true) true fuel 172 cs=some y):∃ x:Pa,True∧RdD W x.dat cs:=by
 obtain⟨xs,n,rfl,_,hlen,hxl,hf⟩:=DataW.trod_struct Tryz.underlying172 h
 have kk:Tryz.prog.cellsOf 172=3:=by kernel_rfl
 rw[kk]at hlen
 match cs,hlen with
 | [c0,c1,c2],_ =>
  have e0:DataW.trod enc Tryz.prog W 0 (fun _=>true) true n 41 [c0]=xs[0]?:=by
   have k:Tryz.prog.cellsOf 41=1:=by kernel_rfl
   have this:DataW.trod enc Tryz.prog W 0 (fun _=>true) true n 41 (([c0,c1,c2].drop 0).take (Tryz.prog.cellsOf 41))=xs[0]?:=hf 0 _ rfl
   rw[k]at this
   exact this
  rw[List.getElem?_eq_getElem (by rw[hxl];decide)]at e0
  have e1:DataW.trod enc Tryz.prog W 0 (fun _=>true) true n 84 [c1,c2]=xs[1]?:=by
   have k:Tryz.prog.cellsOf 84=2:=by kernel_rfl
   have this:DataW.trod enc Tryz.prog W 0 (fun _=>true) true n 84 (([c0,c1,c2].drop 1).take (Tryz.prog.cellsOf 84))=xs[1]?:=hf 1 _ rfl
   rw[k]at this
   exact this
  rw[List.getElem?_eq_getElem (by rw[hxl];decide)]at e1
  obtain⟨v0,s0,hq0,b0⟩:=open_bytes e0
  obtain rfl:c0=v0:=by simpa using hq0
  obtain⟨z1k,z1n,hq1⟩:=open_ty e1
  obtain⟨rfl,rfl⟩:c1=.int .i64 z1k∧c2=.int .i64 z1n:=by simpa using hq1
  exact⟨.mk s0 z1k z1n,trivial,Pa.unview (x:=.mk s0 z1k z1n) b0⟩
theorem openSc {fuel:Nat}{cs:List Value}{y:DataW H × List MemPlace}(h:DataW.trod enc Tryz.prog W 0 (fun _=>true) true fuel 82 cs=some y):∃ x:Sc,True∧RdD W x.dat cs:=by
 obtain⟨xs,n,rfl,_,hlen,hxl,hf⟩:=DataW.trod_struct Tryz.underlying82 h
 have kk:Tryz.prog.cellsOf 82=2:=by kernel_rfl
 rw[kk]at hlen
 match cs,hlen with
 | [c0,c1],_ =>
  have e0:DataW.trod enc Tryz.prog W 0 (fun _=>true) true n 41 [c0]=xs[0]?:=by
   have k:Tryz.prog.cellsOf 41=1:=by kernel_rfl
   have this:DataW.trod enc Tryz.prog W 0 (fun _=>true) true n 41 (([c0,c1].drop 0).take (Tryz.prog.cellsOf 41))=xs[0]?:=hf 0 _ rfl
   rw[k]at this
   exact this
  rw[List.getElem?_eq_getElem (by rw[hxl];decide)]at e0
  have e1:DataW.trod enc Tryz.prog W 0 (fun _=>true) true n 80 [c1]=xs[1]?:=by
   have k:Tryz.prog.cellsOf 80=1:=by kernel_rfl
   have this:DataW.trod enc Tryz.prog W 0 (fun _=>true) true n 80 (([c0,c1].drop 1).take (Tryz.prog.cellsOf 80))=xs[1]?:=hf 1 _ rfl
   rw[k]at this
   exact this
  rw[List.getElem?_eq_getElem (by rw[hxl];decide)]at e1
  obtain⟨v0,s0,hq0,b0⟩:=open_bytes e0
  obtain rfl:c0=v0:=by simpa using hq0
  obtain⟨l1,v1,hq1,g1,b1⟩:=open_list Tryz.underlying80 (show Tryz.prog.cellsOf 172=3 by kernel_rfl) (by decide) Pa.dat (fun _=>True) e1 (fun n cs y _ h=>openPa h)
  obtain rfl:c1=v1:=by simpa using hq1
  rw[←Pa.dats_map]at b1
  exact⟨.mk s0 l1,trivial,Sc.unview (x:=.mk s0 l1) b0 b1⟩
theorem openEx_all (N:Nat):∀ (fuel:Nat) (cs:List Value) (y:DataW H × List MemPlace),fuel≤N→DataW.trod enc Tryz.prog W 0 (fun _=>true) true fuel 230 cs=some y→∃ x:Ex,Ex.good x∧RdD W x.dat cs:=by
 induction N using Nat.strongRecOn with
 | _ N IH =>
 intro fuel cs y hN h
 obtain⟨xs,n,rfl,_,hlen,hxl,hf⟩:=DataW.trod_struct Tryz.underlying230 h
 have kk:Tryz.prog.cellsOf 230=6:=by kernel_rfl
 rw[kk]at hlen
 match cs,hlen with
 | [c0,c1,c2,c3,c4,c5],_ =>
  have e0:DataW.trod enc Tryz.prog W 0 (fun _=>true) true n 3 [c0]=xs[0]?:=by
   have k:Tryz.prog.cellsOf 3=1:=by kernel_rfl
   have this:DataW.trod enc Tryz.prog W 0 (fun _=>true) true n 3 (([c0,c1,c2,c3,c4,c5].drop 0).take (Tryz.prog.cellsOf 3))=xs[0]?:=hf 0 _ rfl
   rw[k]at this
   exact this
  rw[List.getElem?_eq_getElem (by rw[hxl];decide)]at e0
  have e1:DataW.trod enc Tryz.prog W 0 (fun _=>true) true n 3 [c1]=xs[1]?:=by
   have k:Tryz.prog.cellsOf 3=1:=by kernel_rfl
   have this:DataW.trod enc Tryz.prog W 0 (fun _=>true) true n 3 (([c0,c1,c2,c3,c4,c5].drop 1).take (Tryz.prog.cellsOf 3))=xs[1]?:=hf 1 _ rfl
   rw[k]at this
   exact this
  rw[List.getElem?_eq_getElem (by rw[hxl];decide)]at e1
  have e2:DataW.trod enc Tryz.prog W 0 (fun _=>true) true n 84 [c2,c3]=xs[2]?:=by
   have k:Tryz.prog.cellsOf 84=2:=by kernel_rfl
   have this:DataW.trod enc Tryz.prog W 0 (fun _=>true) true n 84 (([c0,c1,c2,c3,c4,c5].drop 2).take (Tryz.prog.cellsOf 84))=xs[2]?:=hf 2 _ rfl
   rw[k]at this
   exact this
  rw[List.getElem?_eq_getElem (by rw[hxl];decide)]at e2
  have e3:DataW.trod enc Tryz.prog W 0 (fun _=>true) true n 41 [c4]=xs[3]?:=by
   have k:Tryz.prog.cellsOf 41=1:=by kernel_rfl
   have this:DataW.trod enc Tryz.prog W 0 (fun _=>true) true n 41 (([c0,c1,c2,c3,c4,c5].drop 4).take (Tryz.prog.cellsOf 41))=xs[3]?:=hf 3 _ rfl
   rw[k]at this
   exact this
  rw[List.getElem?_eq_getElem (by rw[hxl];decide)]at e3
  have e4:DataW.trod enc Tryz.prog W 0 (fun _=>true) true n 174 [c5]=xs[4]?:=by
   have k:Tryz.prog.cellsOf 174=1:=by kernel_rfl
   have this:DataW.trod enc Tryz.prog W 0 (fun _=>true) true n 174 (([c0,c1,c2,c3,c4,c5].drop 5).take (Tryz.prog.cellsOf 174))=xs[4]?:=hf 4 _ rfl
   rw[k]at this
   exact this
  rw[List.getElem?_eq_getElem (by rw[hxl];decide)]at e4
  obtain⟨z0,rfl,g0⟩:=trod_int Tryz.underlying3 e0
  obtain⟨z1,rfl,g1⟩:=trod_int Tryz.underlying3 e1
  obtain⟨z2k,z2n,hq2⟩:=open_ty e2
  obtain⟨rfl,rfl⟩:c2=.int .i64 z2k∧c3=.int .i64 z2n:=by simpa using hq2
  obtain⟨v3,s3,hq3,b3⟩:=open_bytes e3
  obtain rfl:c4=v3:=by simpa using hq3
  obtain⟨l4,v4,hq4,g4,b4⟩:=open_list Tryz.underlying174 (show Tryz.prog.cellsOf 230=6 by kernel_rfl) (by decide) Ex.dat (Ex.good) e4 (fun m cs y hm h=>IH m (by omega) m cs y (Nat.le_refl _) h)
  obtain rfl:c5=v4:=by simpa using hq4
  rw[←Ex.dats_map]at b4
  exact⟨.mk z0 z1 z2k z2n s3 l4,by rw[Ex.good];exact⟨g1,Ex.goods_of g4⟩,Ex.unview (x:=.mk z0 z1 z2k z2n s3 l4) b3 b4⟩
theorem openEx {fuel:Nat}{cs:List Value}{y:DataW H × List MemPlace}(h:DataW.trod enc Tryz.prog W 0 (fun _=>true) true fuel 230 cs=some y):∃ x:Ex,Ex.good x∧RdD W x.dat cs:=openEx_all fuel fuel cs y (Nat.le_refl _) h
theorem openSt_all (N:Nat):∀ (fuel:Nat) (cs:List Value) (y:DataW H × List MemPlace),fuel≤N→DataW.trod enc Tryz.prog W 0 (fun _=>true) true fuel 176 cs=some y→∃ x:St,St.good x∧RdD W x.dat cs:=by
 induction N using Nat.strongRecOn with
 | _ N IH =>
 intro fuel cs y hN h
 obtain⟨xs,n,rfl,_,hlen,hxl,hf⟩:=DataW.trod_struct Tryz.underlying176 h
 have kk:Tryz.prog.cellsOf 176=8:=by kernel_rfl
 rw[kk]at hlen
 match cs,hlen with
 | [c0,c1,c2,c3,c4,c5,c6,c7],_ =>
  have e0:DataW.trod enc Tryz.prog W 0 (fun _=>true) true n 3 [c0]=xs[0]?:=by
   have k:Tryz.prog.cellsOf 3=1:=by kernel_rfl
   have this:DataW.trod enc Tryz.prog W 0 (fun _=>true) true n 3 (([c0,c1,c2,c3,c4,c5,c6,c7].drop 0).take (Tryz.prog.cellsOf 3))=xs[0]?:=hf 0 _ rfl
   rw[k]at this
   exact this
  rw[List.getElem?_eq_getElem (by rw[hxl];decide)]at e0
  have e1:DataW.trod enc Tryz.prog W 0 (fun _=>true) true n 3 [c1]=xs[1]?:=by
   have k:Tryz.prog.cellsOf 3=1:=by kernel_rfl
   have this:DataW.trod enc Tryz.prog W 0 (fun _=>true) true n 3 (([c0,c1,c2,c3,c4,c5,c6,c7].drop 1).take (Tryz.prog.cellsOf 3))=xs[1]?:=hf 1 _ rfl
   rw[k]at this
   exact this
  rw[List.getElem?_eq_getElem (by rw[hxl];decide)]at e1
  have e2:DataW.trod enc Tryz.prog W 0 (fun _=>true) true n 84 [c2,c3]=xs[2]?:=by
   have k:Tryz.prog.cellsOf 84=2:=by kernel_rfl
   have this:DataW.trod enc Tryz.prog W 0 (fun _=>true) true n 84 (([c0,c1,c2,c3,c4,c5,c6,c7].drop 2).take (Tryz.prog.cellsOf 84))=xs[2]?:=hf 2 _ rfl
   rw[k]at this
   exact this
  rw[List.getElem?_eq_getElem (by rw[hxl];decide)]at e2
  have e3:DataW.trod enc Tryz.prog W 0 (fun _=>true) true n 41 [c4]=xs[3]?:=by
   have k:Tryz.prog.cellsOf 41=1:=by kernel_rfl
   have this:DataW.trod enc Tryz.prog W 0 (fun _=>true) true n 41 (([c0,c1,c2,c3,c4,c5,c6,c7].drop 4).take (Tryz.prog.cellsOf 41))=xs[3]?:=hf 3 _ rfl
   rw[k]at this
   exact this
  rw[List.getElem?_eq_getElem (by rw[hxl];decide)]at e3
  have e4:DataW.trod enc Tryz.prog W 0 (fun _=>true) true n 174 [c5]=xs[4]?:=by
   have k:Tryz.prog.cellsOf 174=1:=by kernel_rfl
   have this:DataW.trod enc Tryz.prog W 0 (fun _=>true) true n 174 (([c0,c1,c2,c3,c4,c5,c6,c7].drop 5).take (Tryz.prog.cellsOf 174))=xs[4]?:=hf 4 _ rfl
   rw[k]at this
   exact this
  rw[List.getElem?_eq_getElem (by rw[hxl];decide)]at e4
  have e5:DataW.trod enc Tryz.prog W 0 (fun _=>true) true n 85 [c6]=xs[5]?:=by
   have k:Tryz.prog.cellsOf 85=1:=by kernel_rfl
   have this:DataW.trod enc Tryz.prog W 0 (fun _=>true) true n 85 (([c0,c1,c2,c3,c4,c5,c6,c7].drop 6).take (Tryz.prog.cellsOf 85))=xs[5]?:=hf 5 _ rfl
   rw[k]at this
   exact this
  rw[List.getElem?_eq_getElem (by rw[hxl];decide)]at e5
  have e6:DataW.trod enc Tryz.prog W 0 (fun _=>true) true n 85 [c7]=xs[6]?:=by
   have k:Tryz.prog.cellsOf 85=1:=by kernel_rfl
   have this:DataW.trod enc Tryz.prog W 0 (fun _=>true) true n 85 (([c0,c1,c2,c3,c4,c5,c6,c7].drop 7).take (Tryz.prog.cellsOf 85))=xs[6]?:=hf 6 _ rfl
   rw[k]at this
   exact this
  rw[List.getElem?_eq_getElem (by rw[hxl];decide)]at e6
  obtain⟨z0,rfl,g0⟩:=trod_int Tryz.underlying3 e0
  obtain⟨z1,rfl,g1⟩:=trod_int Tryz.underlying3 e1
  obtain⟨z2k,z2n,hq2⟩:=open_ty e2
  obtain⟨rfl,rfl⟩:c2=.int .i64 z2k∧c3=.int .i64 z2n:=by simpa using hq2
  obtain⟨v3,s3,hq3,b3⟩:=open_bytes e3
  obtain rfl:c4=v3:=by simpa using hq3
  obtain⟨l4,v4,hq4,g4,b4⟩:=open_list Tryz.underlying174 (show Tryz.prog.cellsOf 230=6 by kernel_rfl) (by decide) Ex.dat (Ex.good) e4 (fun n cs y _ h=>openEx h)
  obtain rfl:c5=v4:=by simpa using hq4
  rw[←Ex.dats_map]at b4
  obtain⟨l5,v5,hq5,g5,b5⟩:=open_list Tryz.underlying85 (show Tryz.prog.cellsOf 176=8 by kernel_rfl) (by decide) St.dat (St.good) e5 (fun m cs y hm h=>IH m (by omega) m cs y (Nat.le_refl _) h)
  obtain rfl:c6=v5:=by simpa using hq5
  rw[←St.dats_map]at b5
  obtain⟨l6,v6,hq6,g6,b6⟩:=open_list Tryz.underlying85 (show Tryz.prog.cellsOf 176=8 by kernel_rfl) (by decide) St.dat (St.good) e6 (fun m cs y hm h=>IH m (by omega) m cs y (Nat.le_refl _) h)
  obtain rfl:c7=v6:=by simpa using hq6
  rw[←St.dats_map]at b6
  exact⟨.mk z0 z1 z2k z2n s3 l4 l5 l6,by rw[St.good];exact⟨g1,Ex.goods_of g4,St.goods_of g5,St.goods_of g6⟩,St.unview (x:=.mk z0 z1 z2k z2n s3 l4 l5 l6) b3 b4 b5 b6⟩
theorem openSt {fuel:Nat}{cs:List Value}{y:DataW H × List MemPlace}(h:DataW.trod enc Tryz.prog W 0 (fun _=>true) true fuel 176 cs=some y):∃ x:St,St.good x∧RdD W x.dat cs:=openSt_all fuel fuel cs y (Nat.le_refl _) h
theorem openFu {fuel:Nat}{cs:List Value}{y:DataW H × List MemPlace}(h:DataW.trod enc Tryz.prog W 0 (fun _=>true) true fuel 87 cs=some y):∃ x:Fu,Fu.good x∧RdD W x.dat cs:=by
 obtain⟨xs,n,rfl,_,hlen,hxl,hf⟩:=DataW.trod_struct Tryz.underlying87 h
 have kk:Tryz.prog.cellsOf 87=5:=by kernel_rfl
 rw[kk]at hlen
 match cs,hlen with
 | [c0,c1,c2,c3,c4],_ =>
  have e0:DataW.trod enc Tryz.prog W 0 (fun _=>true) true n 41 [c0]=xs[0]?:=by
   have k:Tryz.prog.cellsOf 41=1:=by kernel_rfl
   have this:DataW.trod enc Tryz.prog W 0 (fun _=>true) true n 41 (([c0,c1,c2,c3,c4].drop 0).take (Tryz.prog.cellsOf 41))=xs[0]?:=hf 0 _ rfl
   rw[k]at this
   exact this
  rw[List.getElem?_eq_getElem (by rw[hxl];decide)]at e0
  have e1:DataW.trod enc Tryz.prog W 0 (fun _=>true) true n 80 [c1]=xs[1]?:=by
   have k:Tryz.prog.cellsOf 80=1:=by kernel_rfl
   have this:DataW.trod enc Tryz.prog W 0 (fun _=>true) true n 80 (([c0,c1,c2,c3,c4].drop 1).take (Tryz.prog.cellsOf 80))=xs[1]?:=hf 1 _ rfl
   rw[k]at this
   exact this
  rw[List.getElem?_eq_getElem (by rw[hxl];decide)]at e1
  have e2:DataW.trod enc Tryz.prog W 0 (fun _=>true) true n 84 [c2,c3]=xs[2]?:=by
   have k:Tryz.prog.cellsOf 84=2:=by kernel_rfl
   have this:DataW.trod enc Tryz.prog W 0 (fun _=>true) true n 84 (([c0,c1,c2,c3,c4].drop 2).take (Tryz.prog.cellsOf 84))=xs[2]?:=hf 2 _ rfl
   rw[k]at this
   exact this
  rw[List.getElem?_eq_getElem (by rw[hxl];decide)]at e2
  have e3:DataW.trod enc Tryz.prog W 0 (fun _=>true) true n 85 [c4]=xs[3]?:=by
   have k:Tryz.prog.cellsOf 85=1:=by kernel_rfl
   have this:DataW.trod enc Tryz.prog W 0 (fun _=>true) true n 85 (([c0,c1,c2,c3,c4].drop 4).take (Tryz.prog.cellsOf 85))=xs[3]?:=hf 3 _ rfl
   rw[k]at this
   exact this
  rw[List.getElem?_eq_getElem (by rw[hxl];decide)]at e3
  obtain⟨v0,s0,hq0,b0⟩:=open_bytes e0
  obtain rfl:c0=v0:=by simpa using hq0
  obtain⟨l1,v1,hq1,g1,b1⟩:=open_list Tryz.underlying80 (show Tryz.prog.cellsOf 172=3 by kernel_rfl) (by decide) Pa.dat (fun _=>True) e1 (fun n cs y _ h=>openPa h)
  obtain rfl:c1=v1:=by simpa using hq1
  rw[←Pa.dats_map]at b1
  obtain⟨z2k,z2n,hq2⟩:=open_ty e2
  obtain⟨rfl,rfl⟩:c2=.int .i64 z2k∧c3=.int .i64 z2n:=by simpa using hq2
  obtain⟨l3,v3,hq3,g3,b3⟩:=open_list Tryz.underlying85 (show Tryz.prog.cellsOf 176=8 by kernel_rfl) (by decide) St.dat (St.good) e3 (fun n cs y _ h=>openSt h)
  obtain rfl:c4=v3:=by simpa using hq3
  rw[←St.dats_map]at b3
  exact⟨.mk s0 l1 z2k z2n l3,St.goods_of g3,Fu.unview (x:=.mk s0 l1 z2k z2n l3) b0 b1 b3⟩
theorem openSo {fuel:Nat}{cs:List Value}{y:DataW H × List MemPlace}(h:DataW.trod enc Tryz.prog W 0 (fun _=>true) true fuel 25 cs=some y):∃ (x:So) (v0 v1:Value),cs=[v0,v1]∧Fu.goods x.funcs∧RdL W 2 v0 (Sc.dats x.structs)∧RdL W 5 v1 (Fu.dats x.funcs):=by
 obtain⟨xs,n,rfl,_,hlen,hxl,hf⟩:=DataW.trod_struct Tryz.underlying25 h
 have kk:Tryz.prog.cellsOf 25=2:=by kernel_rfl
 rw[kk]at hlen
 match cs,hlen with
 | [c0,c1],_ =>
  have e0:DataW.trod enc Tryz.prog W 0 (fun _=>true) true n 22 [c0]=xs[0]?:=by
   have k:Tryz.prog.cellsOf 22=1:=by kernel_rfl
   have this:DataW.trod enc Tryz.prog W 0 (fun _=>true) true n 22 (([c0,c1].drop 0).take (Tryz.prog.cellsOf 22))=xs[0]?:=hf 0 _ rfl
   rw[k]at this
   exact this
  rw[List.getElem?_eq_getElem (by rw[hxl];decide)]at e0
  have e1:DataW.trod enc Tryz.prog W 0 (fun _=>true) true n 23 [c1]=xs[1]?:=by
   have k:Tryz.prog.cellsOf 23=1:=by kernel_rfl
   have this:DataW.trod enc Tryz.prog W 0 (fun _=>true) true n 23 (([c0,c1].drop 1).take (Tryz.prog.cellsOf 23))=xs[1]?:=hf 1 _ rfl
   rw[k]at this
   exact this
  rw[List.getElem?_eq_getElem (by rw[hxl];decide)]at e1
  obtain⟨l0,v0,hq0,g0,b0⟩:=open_list Tryz.underlying22 (show Tryz.prog.cellsOf 82=2 by kernel_rfl) (by decide) Sc.dat (fun _=>True) e0 (fun n cs y _ h=>openSc h)
  obtain rfl:c0=v0:=by simpa using hq0
  rw[←Sc.dats_map]at b0
  obtain⟨l1,v1,hq1,g1,b1⟩:=open_list Tryz.underlying23 (show Tryz.prog.cellsOf 87=5 by kernel_rfl) (by decide) Fu.dat (Fu.good) e1 (fun n cs y _ h=>openFu h)
  obtain rfl:c1=v1:=by simpa using hq1
  rw[←Fu.dats_map]at b1
  exact⟨.mk l0 l1,_,_,rfl,g1,b0,b1⟩
end
end Go.Proofs.YtmdejbphoafjlaaGreatDoor
