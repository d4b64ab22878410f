import Derived.Test.YtjnpncefkigcbaaGreatIo
import Derived.Test.YtjnpncefkigcbaaGreatHr
set_option maxHeartbeats 100000000
set_option maxRecDepth 100000
namespace Go.Proofs.YtjnpncefkigcbaaGreat
open Go.RowKit Go.Lib Go.Maps
theorem Mv.inp {C:Mx}(hC:MxI C) {w:World}{s:Vm}{q:Mq}{iv iv' ov:Value}(h:Mv C w s q iv ov) {l:List Int}(hr:RdL w 1 iv' (In.dats l)) (hb:∀ a n c,iv'=.slice (some a) n c→a.block=C.IB):Mv C (w.setCell ⟨C.K,15,none⟩ iv') { s with inp:=l } q iv' ov :=
 ⟨h.lat.setNew hC.p1 _ _,(h.box.set (by decide:15<24) iv').agree (map_ext rfl),h.wd.far hC.d1 _ _,h.sd.far hC.d2 _ _,h.rd.far hC.d3 _ _,rdin_kept hr hb (by rw[World.size_setCell];exact Nat.le_refl _) (fun _=>Below.heap_setCell _ _ _ _ hC.i1),hb,own_kept h.op (fun b hb=>Below.heap_setCell _ _ _ _ (fun z:b=C.K=>h.on.1 (z ▸ hb))),h.on⟩
theorem set_set {s:Vm}{a:Int}{y z:Int}:(s.set a y).set a z=s.set a z:=by
 unfold Vm.set
 have:fset (fset s.rg a.toNat y) a.toNat z=fset s.rg a.toNat z:=by
  funext b
  unfold fset;split <;> rfl
 simp only[this]
theorem Mv.grown {C:Mx}(hC:MxI C) {w w9:World}{s:Vm}{q:Mq}{iv ov ov':Value}(h:Mv C w s q iv ov) (hIB:C.IB<C.K) {k n:Int}(ho:w9.ownsRow C.w0.heap.size 125 2 ov' (s.out.length+1) (itemsL s.out++[.int .i64 k,.int .i64 n])) (hg:w.grownBy w9 ov.ownBlock) (hl:ov'.ownBlock=ov.ownBlock∨ov'.ownBlock=some w.heap.size) :
  Mv C (w9.setCell ⟨C.K,18,none⟩ ov') { s with out:=s.out++[(k,n)] } q iv ov':=by
 have hne:∀ b,ov.ownBlock=some b→C.w0.heap.size≤b:=fun b hb=>(h.op.lt b hb).1;obtain⟨l1,l2,l3,l4⟩:=h.lts
 have hn:ov'.ownBlock≠some C.K∧ov'.ownBlock≠some C.WB∧ov'.ownBlock≠some C.SB∧ov'.ownBlock≠some C.RB∧ov'.ownBlock≠some C.IB:=by
  rcases hl with q|q
  ·rw[q];exact h.on
  ·rw[q];refine⟨fun z=>?_,fun z=>?_,fun z=>?_,fun z=>?_,fun z=>?_⟩ <;> (have:=Option.some.inj z;omega)
 have lat:Later C.w0 w9:=⟨hg.os.trans h.lat.os,hg.tape.trans h.lat.tape,hg.output.trans h.lat.output,Nat.le_trans h.lat.size hg.size,fun b hb=>by rw[hg.block b (Nat.lt_of_lt_of_le hb h.lat.size) (fun q=>by have:=hne b q.symm;omega)];exact h.lat.block b hb⟩
 have bx:=h.box.kept hg.size (hg.block _ h.box.lt (fun q=>h.on.1 q.symm));have wd:=h.wd.kept hg.size (hg.block _ h.wd.lt (fun q=>h.on.2.1 q.symm));have sd:=h.sd.kept hg.size (hg.block _ h.sd.lt (fun q=>h.on.2.2.1 q.symm));have rd:=h.rd.kept hg.size (hg.block _ h.rd.lt (fun q=>h.on.2.2.2.1 q.symm));have ip:RdL w9 1 iv (In.dats s.inp):=rdin_kept h.ip h.ib hg.size (fun hlt=>hg.block _ hlt (fun q=>h.on.2.2.2.2 q.symm));refine⟨lat.setNew hC.p1 _ _,(bx.set (by decide:18<24) ov').agree (map_ext rfl),wd.far hC.d1 _ _,sd.far hC.d2 _ _,rd.far hC.d3 _ _,rdin_kept ip h.ib (by rw[World.size_setCell];exact Nat.le_refl _) (fun _=>Below.heap_setCell _ _ _ _ hC.i1),h.ib,?_,hn⟩;show World.ownsRow _ _ _ _ _ (s.out++[(k,n)]).length (itemsL (s.out++[(k,n)]));rw[items_app,List.length_append];exact own_kept ho (fun b hb=>Below.heap_setCell _ _ _ _ (fun q:b=C.K=>hn.1 (q ▸ hb)))
theorem step_append_at {P:Program}{ops:Array Oper}{o:Oper}{a:Act}{w:World}{K:Act→World→Prop}{Q:Exit→Act→World→Prop}{E:Prop}
  (hg:o.guard=none) (s x:Operand) (t:TypeId) (hop:o.op=Op.call { callee:=Callee.builtin Builtin.append,args:=#[s,x],argTypes:=#[t,t] })
  (base:Nat) (e:TypeId) (i:TypeInfo) (z:Value) (size bytes:Nat) (ht:P.underlying t=some (.slice e)) (hi:P.info? e=some i) (hz:i.zero=some z)
  (hsize:i.size=size) (hby:i.bytes=bytes) (hzs:z.cells.size=size) (hsz:0<size)
  (v:Value) (n:Nat) (xs:List Value) (hs:a.eval s=v) (hown:w.ownsRow base e size v n xs)
  (ad:Addr) (m c:Nat) (news:List Value) (hx:a.eval x=.slice (some ad) m c) (hl:news.length=m*size) (hnews:∀ j u,news[j]?=some u→w.cell? (ad.add j)=some u) (h1:∀ u∈news,u.oneCell'=true)
  (h63:n+m≤maxLen) (hbytes:(n+m)*bytes≤140737488355328) (hbase:base≤w.heap.size)
  (h:∀ v' w',w'.ownsRow base e size v' (n+m) (xs++news)→w.grownBy w' v.ownBlock→(v'.ownBlock=v.ownBlock∨v'.ownBlock=some w.heap.size)→K (a.put o.dst v') w') :
  if Region.wanted o (yielded ops a.tmps)=true then Oper.wp P o a w K Q else E:=by
 have hw:Region.wanted o (yielded ops a.tmps)=true:=by simp[Region.wanted,hg]
 rw[if_pos hw];obtain⟨v',w',hr,h2,h3,_,h5⟩:=run_append_own_at (P:=P) w base t o.type e i z size bytes ht hi hz hsize hby hzs hsz v n xs hown ad m c news hl hnews h1 h63 hbytes hbase;unfold Oper.wp execOp;simp only[hop,resolve,invoke,builtin,Sem.run_bind,Sem.run_pure,Result.andThen_ok,List.map_toArray,List.map_cons,List.map_nil,hs,hx,hr];exact h v' w' h2 h3 h5
theorem mo20_any {C:Mx}(hC:MxI C) {w:World}{s:Vm}{q:Mq}{iv ov:Value}(h:Al C w s q iv ov) (hpc:q.pc+1=(s.pc:Int)) (hpb:s.pc≤6000) {A:Nat}(hA:A<16) (fr:Int) (v1 v2 v3:Value) (b c n:Int) :
  Calls Tryz.prog 53 #[.pointer (some ⟨C.K,0,none⟩),.agg #[.int .i64 fr,v1,v2,v3],.agg #[.int .i64 20,.int .i64 (A:Int),.int .i64 b,.int .i64 c,.int .i64 n]] w (StM C q.ev (.go { s.set (A:Int) (s.inp.headD 0) with inp:=s.inp.tail })):=by
 have c14:=h.mv.c14.1;obtain⟨k1,k2,k3,k4⟩:=h.mv.lts;have hlx:Later w ((w.alloc (Obj.cells #[.int .i64 fr,v1,v2,v3] 61)).alloc (Obj.cells #[.int .i64 20,.int .i64 (A:Int),.int .i64 b,.int .i64 c,.int .i64 n] 97)):=(later_a _ _).trans (later_a _ _)
 have HB:Hid (Bx2 C w.heap.size (w.heap.size+1) fr 20 (A:Int) b c n ((w.alloc (Obj.cells #[.int .i64 fr,v1,v2,v3] 61)).alloc (Obj.cells #[.int .i64 20,.int .i64 (A:Int),.int .i64 b,.int .i64 c,.int .i64 n] 97))∧Al C ((w.alloc (Obj.cells #[.int .i64 fr,v1,v2,v3] 61)).alloc (Obj.cells #[.int .i64 20,.int .i64 (A:Int),.int .i64 b,.int .i64 c,.int .i64 n] 97)) s q iv ov):=⟨by simpa using bx2_new h.mv 61 97 fr 20 (A:Int) b c n v1 v2 v3,h.kept hlx⟩
 generalize hQ:StM C q.ev (.go { s.set (A:Int) (s.inp.headD 0) with inp:=s.inp.tail })=Q at *
 have HQ:Hid (Q=StM C q.ev (.go { s.set (A:Int) (s.inp.headD 0) with inp:=s.inp.tail })):=hQ.symm
 have HP:Hid (q.pc+1=(s.pc:Int)∧s.pc≤6000):=⟨hpc,hpb⟩
 clear h hpc hpb hlx hQ;go_enter Tryz.func53,Tryz.ntmps53;go_upto_if 21 with fail
 revert HB
 generalize ((w.alloc (Obj.cells #[.int .i64 fr,v1,v2,v3] 61)).alloc (Obj.cells #[.int .i64 20,.int .i64 (A:Int),.int .i64 b,.int .i64 c,.int .i64 n] 97))=wx
 generalize w.heap.size+1=B2
 generalize w.heap.size=B1
 intro HB;have bx:=HB.out.1;have al:=HB.out.2;have hQ:=HQ.out;have hP:=HP.out;have i12:=al.mv.c12.1;have z12:=al.mv.c12.2;clear c14 k1 k2 k3 k4 HQ HP HB;have p1:=hP.1;have p2:=hP.2;have p3:(s.pc:Int)≤6000:=by omega
 have p4:-10≤q.pc:=by omega
 have p5:q.pc≤6000:=by omega
 have nK:¬ B2=C.K:=bx.n2.1;have nR:¬ B2=C.RB:=bx.n2.2.2.2;have nW:¬ B2=C.WB:=bx.n2.2.1;obtain⟨rA,zA⟩:=al.mv.reg hA;have xA:(A:Int)<16:=by omega
 have ba:=bx.a;have bb:=bx.b;have bc:=bx.c;have bn:=bx.n;obtain⟨ra,rc,rfl,hrl⟩:=In.slice al.mv.ip;have x3:=hC.d3;obtain⟨c15,z15⟩:=al.mv.c15
 cases hi:s.inp with
 | nil =>
  have HZ:Hid (∀ w'',Later ((wx.setCell ⟨C.RB,A,none⟩ (.int .i64 0)).setCell ⟨C.K,12,none⟩ (.int .i64 (s.pc:Int))) w''→Q unitE w''):=fun w'' l=>by
   rw[hQ]
   have e:{ s.set (A:Int) (s.inp.headD 0) with inp:=s.inp.tail }=s.set (A:Int) 0:=by
    rw[hi];show { s.set (A:Int) 0 with inp:=[] }=s.set (A:Int) 0;rw[←hi];rfl
   rw[e];exact (al.reg1 hC hA 0).go1 hC rfl rfl (Nat.le_succ _) l
  rw[hi]at c15;clear al bx hQ hP;unfold unitE at HZ;go_wp2_with fail
  first|exact HZ.out _ (by first|exact Later.refl _|exact Later.drew _|exact (Later.drew _).trans (Later.drew _)|exact Later.drewN' _ _)|(go_end0;exact HZ.out _ (by first|exact Later.refl _|exact Later.drew _|exact (Later.drew _).trans (Later.drew _)|exact Later.drewN' _ _))
 | cons z l =>
  have hip:=al.mv.ip;rw[hi]at hip c15;obtain⟨g,off,rfl,hg,hcz⟩:=In.elem hip 0 (by simp);obtain⟨hl1,hcap,ht⟩:=In.tail hip;have hgB:g=C.IB:=al.mv.ib _ _ _ rfl;have d1:wx.cell? ⟨g,off,none⟩=some (.int .i64 z):=hcz;have hgR:¬ g=C.RB:=by rw[hgB];exact hC.i4
  have HA1:Hid (∀ w',Later ((wx.setCell ⟨C.RB,A,none⟩ (.int .i64 0)).setCell ⟨C.RB,A,none⟩ (.int .i64 z)) w'→Al C w' (s.set (A:Int) z) q (.slice (some ⟨g,off,none⟩) s.inp.length rc) ov):=fun w' l=>by
   have:=(al.reg1 hC hA 0).reg1 hC hA z;rw[set_set]at this;exact this.kept l
  have HA2:Hid (∀ w',Later (wx.setCell ⟨C.RB,A,none⟩ (.int .i64 z)) w'→Al C w' (s.set (A:Int) z) q (.slice (some ⟨g,off,none⟩) s.inp.length rc) ov):=fun w' l=>(al.reg1 hC hA z).kept l
  have HZ:Hid (∀ v,v=Value.slice (if rc=1 then some (⟨g,off,none⟩:Addr) else some ⟨g,off+1,none⟩) l.length (rc - 1)→∀ w' w'',Al C w' (s.set (A:Int) z) q (.slice (some ⟨g,off,none⟩) s.inp.length rc) ov→Later ((w'.setCell ⟨C.K,15,none⟩ v).setCell ⟨C.K,12,none⟩ (.int .i64 (s.pc:Int))) w''→Q unitE w''):=fun v hv w' w'' a l2=>by
   rw[hQ];have hip':=a.mv.ip;have hip2:RdL w' 1 (.slice (some ⟨g,off,none⟩) s.inp.length rc) (In.dats s.inp):=hip';rw[hi]at hip2;obtain⟨_,_,ht'⟩:=In.tail hip2
   have m2:=a.mv.inp hC (iv':=v) (l:=l) (by rw[hv];exact ht') (fun b n c e=>by
    rw[hv]at e;split at e
    ·cases e;exact hgB
    ·cases e;exact hgB)
   have a2:Al C (w'.setCell ⟨C.K,15,none⟩ v) { s.set (A:Int) z with inp:=l } q v ov:=⟨m2,a.ag,a.iv.alike rfl,a.en,a.cd,a.orc⟩
   have e:{ s.set (A:Int) (s.inp.headD 0) with inp:=s.inp.tail }={ s.set (A:Int) z with inp:=l }:=by rw[hi];rfl
   rw[e];exact a2.go1 hC rfl rfl (Nat.le_succ _) l2
  rw[List.length_cons]at c15 hcap;have k1:(1:Int)≤(rc:Int):=by omega
  obtain⟨n1,hn1⟩:∃ n1,n1=l.length+1:=⟨_,rfl⟩
  have k4:n1 - 1=l.length:=by omega
  rw[←hn1]at c15 hcap;have k5:(1:Int)≤(n1:Int):=by omega
  have k2:(0:Int)<(n1:Int):=by omega
  have k6:(n1:Int)≤(rc:Int):=by omega
  clear al bx hQ hP hip ht hcz hn1 hl1 hi hgB;unfold unitE at HZ;by_cases hrc:rc=1
  ·subst hrc;have HZ1:=HZ.out (.slice (some ⟨g,off,none⟩) l.length 0) (by rw[if_pos rfl]);have HZ2:Hid (∀ w' w'',Al C w' (s.set (A:Int) z) q (.slice (some ⟨g,off,none⟩) s.inp.length 1) ov→Later ((w'.setCell ⟨C.K,15,none⟩ (.slice (some ⟨g,off,none⟩) l.length 0)).setCell ⟨C.K,12,none⟩ (.int .i64 (s.pc:Int))) w''→Q (.returned (.tuple #[])) w''):=HZ1;clear HZ HZ1;go_wp2_with fail
   go_region
   go_wp2_with fail
   first|exact HZ2.out _ _ (HA1.out _ (by first|exact Later.refl _|exact Later.drew _|exact (Later.drew _).trans (Later.drew _)|exact Later.drewN' _ _)) (by first|exact Later.refl _|exact Later.drew _|exact (Later.drew _).trans (Later.drew _)|exact Later.drewN' _ _)|exact HZ2.out _ _ (HA2.out _ (by first|exact Later.refl _|exact Later.drew _|exact (Later.drew _).trans (Later.drew _)|exact Later.drewN' _ _)) (by first|exact Later.refl _|exact Later.drew _|exact (Later.drew _).trans (Later.drew _)|exact Later.drewN' _ _)|(go_end0;first|exact HZ2.out _ _ (HA1.out _ (by first|exact Later.refl _|exact Later.drew _|exact (Later.drew _).trans (Later.drew _)|exact Later.drewN' _ _)) (by first|exact Later.refl _|exact Later.drew _|exact (Later.drew _).trans (Later.drew _)|exact Later.drewN' _ _)|exact HZ2.out _ _ (HA2.out _ (by first|exact Later.refl _|exact Later.drew _|exact (Later.drew _).trans (Later.drew _)|exact Later.drewN' _ _)) (by first|exact Later.refl _|exact Later.drew _|exact (Later.drew _).trans (Later.drew _)|exact Later.drewN' _ _))
  ·have HZ1:=HZ.out (.slice (some ⟨g,off+1,none⟩) l.length (rc - 1)) (by rw[if_neg hrc]);have HZ2:Hid (∀ w' w'',Al C w' (s.set (A:Int) z) q (.slice (some ⟨g,off,none⟩) s.inp.length rc) ov→Later ((w'.setCell ⟨C.K,15,none⟩ (.slice (some ⟨g,off+1,none⟩) l.length (rc - 1))).setCell ⟨C.K,12,none⟩ (.int .i64 (s.pc:Int))) w''→Q (.returned (.tuple #[])) w''):=HZ1;clear HZ HZ1;go_wp2_with fail
   go_region
   go_wp2_with fail
   first|exact HZ2.out _ _ (HA1.out _ (by first|exact Later.refl _|exact Later.drew _|exact (Later.drew _).trans (Later.drew _)|exact Later.drewN' _ _)) (by first|exact Later.refl _|exact Later.drew _|exact (Later.drew _).trans (Later.drew _)|exact Later.drewN' _ _)|exact HZ2.out _ _ (HA2.out _ (by first|exact Later.refl _|exact Later.drew _|exact (Later.drew _).trans (Later.drew _)|exact Later.drewN' _ _)) (by first|exact Later.refl _|exact Later.drew _|exact (Later.drew _).trans (Later.drew _)|exact Later.drewN' _ _)|(go_end0;first|exact HZ2.out _ _ (HA1.out _ (by first|exact Later.refl _|exact Later.drew _|exact (Later.drew _).trans (Later.drew _)|exact Later.drewN' _ _)) (by first|exact Later.refl _|exact Later.drew _|exact (Later.drew _).trans (Later.drew _)|exact Later.drewN' _ _)|exact HZ2.out _ _ (HA2.out _ (by first|exact Later.refl _|exact Later.drew _|exact (Later.drew _).trans (Later.drew _)|exact Later.drewN' _ _)) (by first|exact Later.refl _|exact Later.drew _|exact (Later.drew _).trans (Later.drew _)|exact Later.drewN' _ _))
theorem mo21_any {C:Mx}(hC:MxI C) {w:World}{s:Vm}{q:Mq}{iv ov:Value}(h:Al C w s q iv ov) (hpc:q.pc+1=(s.pc:Int)) (hpb:s.pc≤6000) {A:Nat}(hA:A<16) (hIB:C.IB<C.K) (hs:s.out.length≤1000000) (fr:Int) (v1 v2 v3:Value) (b c n:Int) :
  Calls Tryz.prog 53 #[.pointer (some ⟨C.K,0,none⟩),.agg #[.int .i64 fr,v1,v2,v3],.agg #[.int .i64 21,.int .i64 (A:Int),.int .i64 b,.int .i64 c,.int .i64 n]] w (StM C q.ev (.go { s with out:=s.out++[(n,s.rg A)] })):=by
 have c14:=h.mv.c14.1;obtain⟨k1,k2,k3,k4⟩:=h.mv.lts;have hlx:Later w ((w.alloc (Obj.cells #[.int .i64 fr,v1,v2,v3] 61)).alloc (Obj.cells #[.int .i64 21,.int .i64 (A:Int),.int .i64 b,.int .i64 c,.int .i64 n] 97)):=(later_a _ _).trans (later_a _ _)
 have HB:Hid (Bx2 C w.heap.size (w.heap.size+1) fr 21 (A:Int) b c n ((w.alloc (Obj.cells #[.int .i64 fr,v1,v2,v3] 61)).alloc (Obj.cells #[.int .i64 21,.int .i64 (A:Int),.int .i64 b,.int .i64 c,.int .i64 n] 97))∧Al C ((w.alloc (Obj.cells #[.int .i64 fr,v1,v2,v3] 61)).alloc (Obj.cells #[.int .i64 21,.int .i64 (A:Int),.int .i64 b,.int .i64 c,.int .i64 n] 97)) s q iv ov):=⟨by simpa using bx2_new h.mv 61 97 fr 21 (A:Int) b c n v1 v2 v3,h.kept hlx⟩
 have HOB:Hid (ov.ownBlock≠some (w.heap.size+1)):=fun q=>by have:=(h.mv.op.lt _ q).2;omega
 generalize hQ:StM C q.ev (.go { s with out:=s.out++[(n,s.rg A)] })=Q at *
 have HQ:Hid (Q=StM C q.ev (.go { s with out:=s.out++[(n,s.rg A)] })):=hQ.symm
 have HP:Hid (q.pc+1=(s.pc:Int)∧s.pc≤6000):=⟨hpc,hpb⟩
 clear h hpc hpb hlx hQ;go_enter Tryz.func53,Tryz.ntmps53;go_upto_if 21 with fail
 revert HB HOB
 generalize ((w.alloc (Obj.cells #[.int .i64 fr,v1,v2,v3] 61)).alloc (Obj.cells #[.int .i64 21,.int .i64 (A:Int),.int .i64 b,.int .i64 c,.int .i64 n] 97))=wx
 generalize w.heap.size+1=B2
 generalize w.heap.size=B1
 intro HB HOB;have bx:=HB.out.1;have al:=HB.out.2;have hQ:=HQ.out;have hP:=HP.out;have i12:=al.mv.c12.1;have z12:=al.mv.c12.2;clear c14 k1 k2 k3 k4 HQ HP HB;have p1:=hP.1;have p2:=hP.2;have p3:(s.pc:Int)≤6000:=by omega
 have p4:-10≤q.pc:=by omega
 have p5:q.pc≤6000:=by omega
 have nK:¬ B2=C.K:=bx.n2.1;have nR:¬ B2=C.RB:=bx.n2.2.2.2;have nW:¬ B2=C.WB:=bx.n2.2.1;obtain⟨rA,zA⟩:=al.mv.reg hA;have xA:(A:Int)<16:=by omega
 have ba:=bx.a;have bb:=bx.b;have bc:=bx.c;have bn:=bx.n;have x1:=hC.d1;have x3:=hC.d3;have hkx:C.K<wx.heap.size:=al.mv.box.lt
 have HSl:Hid (∀ w',Later wx w'→w'.cell? ⟨B2,4,none⟩=some (.int .i64 n)∧w'.cell? ⟨B2,1,none⟩=some (.int .i64 (A:Int))∧w'.cell? ⟨C.RB,A,none⟩=some (.int .i64 (s.rg A))):=fun w' l=>⟨(bx.kept l).n,(bx.kept l).a,((al.mv.kept l).reg hA).1⟩
 have HPU:Hid (∀ w1 v9 w9,Later wx w1→w9.ownsRow C.w0.heap.size 125 2 v9 (s.out.length+1) (itemsL s.out++[.int .i64 n,.int .i64 (s.rg A)])→w1.grownBy w9 ov.ownBlock→(v9.ownBlock=ov.ownBlock∨v9.ownBlock=some w1.heap.size)→(∀ w'',Later ((w9.setCell ⟨C.K,18,none⟩ v9).setCell ⟨C.K,12,none⟩ (.int .i64 (s.pc:Int))) w''→Q unitE w'')∧(w9.cell? ⟨B2,4,none⟩=some (.int .i64 n)∧w9.cell? ⟨B2,1,none⟩=some (.int .i64 (A:Int))∧w9.cell? ⟨C.RB,A,none⟩=some (.int .i64 (s.rg A)))∧(w9.cell? ⟨C.K,12,none⟩=some (.int .i64 q.pc)∧w9.frozen? ⟨C.K,12,none⟩=false)∧(∃ u,w9.cell? ⟨C.K,18,none⟩=some u)∧w9.frozen? ⟨C.K,18,none⟩=false):=fun w1 v9 w9 l1 o9 g9 h9=>by
  have a1:=al.kept l1;have b1:=bx.kept l1;have m:=a1.mv.grown hC hIB o9 g9 h9;have kb:=a1.mv.box.kept g9.size (g9.block _ a1.mv.box.lt (fun q=>a1.mv.on.1 q.symm));have rb:=a1.mv.rd.kept g9.size (g9.block _ a1.mv.rd.lt (fun q=>a1.mv.on.2.2.2.1 q.symm));have e2:=g9.block B2 b1.l2 (fun q=>HOB.out q.symm);refine⟨fun w'' l=>?_,⟨?_,?_,(rb.cell A hA).1⟩,kb.cell 12 (by decide),⟨_,(kb.cell 18 (by decide)).1⟩,(kb.cell 18 (by decide)).2⟩
  ·rw[hQ]
   have a2:Al C (w9.setCell ⟨C.K,18,none⟩ v9) { s with out:=s.out++[(n,s.rg A)] } q iv v9:=⟨m,a1.ag,a1.iv.alike rfl,a1.en,a1.cd,a1.orc⟩
   exact a2.go1 hC rfl rfl (Nat.le_succ _) l
  ·exact (World.cell?_of_block e2).trans b1.n
  ·exact (World.cell?_of_block e2).trans b1.a
 have HRw:Hid (∀ w',Later wx w'→w'.ownsRow C.w0.heap.size 125 2 ov s.out.length (itemsL s.out)):=fun w' l=>(al.mv.kept l).op;have HSz:Hid (∀ w',Later wx w'→C.w0.heap.size≤w'.heap.size):=fun w' l=>(al.mv.kept l).lat.size;obtain⟨c18,z18⟩:=al.mv.c18;have hS0:=HSl.out _ (Later.drew wx);obtain⟨i0,hi,hz0,hz1,hz2⟩:=info_parts (P:=Tryz.prog) (e:=125) (z:=.agg #[.int .i64 0,.int .i64 0]) (size:=2) (bytes:=16) (by kernel_rfl);have hrow0:=al.mv.op;obtain⟨m,hm⟩:=hidx s.out.length;rw[←hm.out]at HRw HPU hs hrow0;obtain⟨xs,hx⟩:=hidx (itemsL s.out);rw[←hx.out]at HRw HPU hrow0;obtain⟨ra,rc,rfl⟩:=row_form hrow0;clear al bx hQ hP hm hx hrow0;unfold unitE at HPU;go_wp2_with fail
 refine wp_region_held_drew (S:=fun w'=>w'.cell? ⟨B2,4,none⟩=some (.int .i64 n)∧w'.cell? ⟨B2,1,none⟩=some (.int .i64 (A:Int))∧w'.cell? ⟨C.RB,A,none⟩=some (.int .i64 (s.rg A))) (by kernel_rfl) (by exact hS0) (fun hHeld=>?_);refine tk 0 (.pointer (some ⟨C.K,0,none⟩)) rfl ?_;(try go_simp);refine tk 1 (.pointer (some ⟨C.K,0,none⟩)) rfl ?_;(try go_simp);refine tk 2 (.pointer (some ⟨C.K,0,none⟩)) rfl ?_;(try go_simp);refine tk 3 (.pointer (some ⟨C.K,18,none⟩)) rfl ?_;(try go_simp);refine tk 5 (.pointer (some ⟨B2,4,none⟩)) rfl ?_;(try go_simp);refine tk 6 (.int .i64 (n)) rfl ?_;(try go_simp);refine tk 7 (.slice (some ⟨C.RB,0,none⟩) 16 16) rfl ?_;(try go_simp);refine tk 8 (.pointer (some ⟨B2,1,none⟩)) rfl ?_;(try go_simp);refine tk 9 (.int .i64 ((A:Int))) rfl ?_;(try go_simp);refine tk 10 (.pointer (some ⟨C.RB,A,none⟩)) rfl ?_;(try go_simp);refine tk 11 (.int .i64 (s.rg A)) rfl ?_;(try go_simp);refine tk 12 (.agg #[.int .i64 n,.int .i64 (s.rg A)]) rfl ?_;(try go_simp);refine wpAnyH_ready (rs:=[4,13]) (by kernel_rfl) (by simp) ?_;refine (AllReadyH.cons rfl (fun K hK=>?_) (AllReadyH.cons rfl (fun K hK=>?_) AllReadyH.nil))
 ·go_simp;refine hK.out _ _ ?_ (fun hHeld=>?_)
  ·first|assumption|(go_keep;done)|exact hS2|exact HSl.out _ ((Later.drew _).trans (later_a _ _))|exact hS3.out _
  clear hK K;(try go_simp);refine rd1 13 rfl fun K hK=>?_;go_simp;refine hK.out _ _ ?_ (fun hHeld=>?_)
  ·first|assumption|(go_keep;done)|exact hS2|exact HSl.out _ ((Later.drew _).trans (later_a _ _))|exact hS3.out _
  clear hK K;(try go_simp);refine rd1 14 rfl fun K hK=>?_;refine step_append_at rfl _ _ 31 rfl C.w0.heap.size 125 i0 (.agg #[.int .i64 0,.int .i64 0]) 2 16 Tryz.underlying31 hi hz0 hz1 hz2 rfl (by decide) _ _ _ rfl (HRw.out _ ((Later.drew _).trans (later_a _ _))) _ 1 1 [.int .i64 n,.int .i64 (s.rg A)] rfl rfl (new_row _ _ _ (by simp)) (by simp[Value.oneCell']) (by unfold maxLen;omega) (by omega) (HSz.out _ ((Later.drew _).trans (later_a _ _))) ?_;intro v9 w9 o9 g9 h9;obtain⟨HP,hS2,⟨j12,y12⟩,⟨u9,e9⟩,f9⟩:=HPU.out _ _ _ ((Later.drew _).trans (later_a _ _)) o9 g9 h9;obtain⟨a9,p9,hv9⟩:=row_form o9;subst hv9;obtain⟨hq1,hq2,hq3⟩:=hS2
  have hS2:w9.cell? ⟨B2,4,none⟩=some (.int .i64 n)∧w9.cell? ⟨B2,1,none⟩=some (.int .i64 (A:Int))∧w9.cell? ⟨C.RB,A,none⟩=some (.int .i64 (s.rg A)):=⟨hq1,hq2,hq3⟩
  have HP2:Hid (∀ w'',Later ((w9.setCell ⟨C.K,18,none⟩ (.slice a9 (m+1) p9)).setCell ⟨C.K,12,none⟩ (.int .i64 (s.pc:Int))) w''→Q (.returned (.tuple #[])) w''):=HP;clear o9 g9 h9 HP
  have hS3:Hid (∀ v,(w9.setCell ⟨C.K,18,none⟩ v).cell? ⟨B2,4,none⟩=some (.int .i64 n)∧(w9.setCell ⟨C.K,18,none⟩ v).cell? ⟨B2,1,none⟩=some (.int .i64 (A:Int))∧(w9.setCell ⟨C.K,18,none⟩ v).cell? ⟨C.RB,A,none⟩=some (.int .i64 (s.rg A))):=fun v=>⟨(set_far' (fun q=>nK q.symm)).trans hq1,(set_far' (fun q=>nK q.symm)).trans hq2,(set_far' x3).trans hq3⟩
  refine hK.out _ _ ?_ (fun hHeld=>?_)
  ·first|assumption|(go_keep;done)|exact hS2|exact HSl.out _ ((Later.drew _).trans (later_a _ _))|exact hS3.out _
  clear hK K;(try go_simp);refine tk 15 (.pointer (some ⟨C.K,0,none⟩)) rfl ?_;(try go_simp);refine tk 16 (.pointer (some ⟨C.K,18,none⟩)) rfl ?_;(try go_simp);refine rd1 17 rfl fun K hK=>?_;go_simp;refine hK.out _ _ ?_ (fun hHeld=>?_)
  ·first|assumption|(go_keep;done)|exact hS2|exact HSl.out _ ((Later.drew _).trans (later_a _ _))|exact hS3.out _
  clear hK K;(try go_simp);refine wpAnyH_done (by kernel_rfl) ?_ _;clear HPU HRw HSz HSl hS0 rA zA i12 z12 c18 z18;go_wp2_with fail
  first|exact HP2.out _ (by first|exact Later.refl _|exact Later.drew _|exact (Later.drew _).trans (Later.drew _)|exact Later.drewN' _ _)|(go_end0;exact HP2.out _ (by first|exact Later.refl _|exact Later.drew _|exact (Later.drew _).trans (Later.drew _)|exact Later.drewN' _ _))
 ·go_simp;refine hK.out _ _ ?_ (fun hHeld=>?_)
  ·first|assumption|(go_keep;done)|exact hS2|exact HSl.out _ ((Later.drew _).trans (later_a _ _))|exact hS3.out _
  clear hK K;(try go_simp);refine rd1 4 rfl fun K hK=>?_;go_simp;refine hK.out _ _ ?_ (fun hHeld=>?_)
  ·first|assumption|(go_keep;done)|exact hS2|exact HSl.out _ ((Later.drew _).trans (later_a _ _))|exact hS3.out _
  clear hK K;(try go_simp);refine rd1 14 rfl fun K hK=>?_;refine step_append_at rfl _ _ 31 rfl C.w0.heap.size 125 i0 (.agg #[.int .i64 0,.int .i64 0]) 2 16 Tryz.underlying31 hi hz0 hz1 hz2 rfl (by decide) _ _ _ rfl (HRw.out _ ((Later.drew _).trans (later_a _ _))) _ 1 1 [.int .i64 n,.int .i64 (s.rg A)] rfl rfl (new_row _ _ _ (by simp)) (by simp[Value.oneCell']) (by unfold maxLen;omega) (by omega) (HSz.out _ ((Later.drew _).trans (later_a _ _))) ?_;intro v9 w9 o9 g9 h9;obtain⟨HP,hS2,⟨j12,y12⟩,⟨u9,e9⟩,f9⟩:=HPU.out _ _ _ ((Later.drew _).trans (later_a _ _)) o9 g9 h9;obtain⟨a9,p9,hv9⟩:=row_form o9;subst hv9;obtain⟨hq1,hq2,hq3⟩:=hS2
  have hS2:w9.cell? ⟨B2,4,none⟩=some (.int .i64 n)∧w9.cell? ⟨B2,1,none⟩=some (.int .i64 (A:Int))∧w9.cell? ⟨C.RB,A,none⟩=some (.int .i64 (s.rg A)):=⟨hq1,hq2,hq3⟩
  have HP2:Hid (∀ w'',Later ((w9.setCell ⟨C.K,18,none⟩ (.slice a9 (m+1) p9)).setCell ⟨C.K,12,none⟩ (.int .i64 (s.pc:Int))) w''→Q (.returned (.tuple #[])) w''):=HP;clear o9 g9 h9 HP
  have hS3:Hid (∀ v,(w9.setCell ⟨C.K,18,none⟩ v).cell? ⟨B2,4,none⟩=some (.int .i64 n)∧(w9.setCell ⟨C.K,18,none⟩ v).cell? ⟨B2,1,none⟩=some (.int .i64 (A:Int))∧(w9.setCell ⟨C.K,18,none⟩ v).cell? ⟨C.RB,A,none⟩=some (.int .i64 (s.rg A))):=fun v=>⟨(set_far' (fun q=>nK q.symm)).trans hq1,(set_far' (fun q=>nK q.symm)).trans hq2,(set_far' x3).trans hq3⟩
  refine hK.out _ _ ?_ (fun hHeld=>?_)
  ·first|assumption|(go_keep;done)|exact hS2|exact HSl.out _ ((Later.drew _).trans (later_a _ _))|exact hS3.out _
  clear hK K;(try go_simp);refine tk 15 (.pointer (some ⟨C.K,0,none⟩)) rfl ?_;(try go_simp);refine tk 16 (.pointer (some ⟨C.K,18,none⟩)) rfl ?_;(try go_simp);refine rd1 17 rfl fun K hK=>?_;go_simp;refine hK.out _ _ ?_ (fun hHeld=>?_)
  ·first|assumption|(go_keep;done)|exact hS2|exact HSl.out _ ((Later.drew _).trans (later_a _ _))|exact hS3.out _
  clear hK K;(try go_simp);refine wpAnyH_done (by kernel_rfl) ?_ _;clear HPU HRw HSz HSl hS0 rA zA i12 z12 c18 z18;go_wp2_with fail
  first|exact HP2.out _ (by first|exact Later.refl _|exact Later.drew _|exact (Later.drew _).trans (Later.drew _)|exact Later.drewN' _ _)|(go_end0;exact HP2.out _ (by first|exact Later.refl _|exact Later.drew _|exact (Later.drew _).trans (Later.drew _)|exact Later.drewN' _ _))
end Go.Proofs.YtjnpncefkigcbaaGreat
