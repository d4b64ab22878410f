import Derived.Test.YtjnpncefkigcbaaGreatHk
import Derived.Test.YtjnpncefkigcbaaGreatHi
import Derived.Test.YtjnpncefkigcbaaGreatHt
set_option maxHeartbeats 100000000
set_option maxRecDepth 100000
namespace Go.Proofs.YtjnpncefkigcbaaGreat
open Go.RowKit Go.Lib Go.Maps
theorem iarith_any {k a b:Int}(h0:0≤k) (h6:k≤6) (hb:b=0→¬ k=3∧¬ k=4) (w:World) :
  Calls Tryz.prog 129 #[.int .i64 k,.int .i64 a,.int .i64 b] w fun e w'=>e=.returned (.int .i64 (arI k a b))∧w'=w:=by
 have hc:k=0∨k=1∨k=2∨k=3∨k=4∨k=5∨k=6:=by omega
 clear h0 h6;rcases hc with rfl|rfl|rfl|rfl|rfl|rfl|rfl
 ·clear hb;go_enter Tryz.func129,Tryz.ntmps129;go_wp2_with fail
  go_ret;exact⟨rfl,rfl⟩
 ·clear hb;go_enter Tryz.func129,Tryz.ntmps129;go_wp2_with fail
  go_ret;exact⟨rfl,rfl⟩
 ·clear hb;go_enter Tryz.func129,Tryz.ntmps129;go_wp2_with fail
  go_ret;exact⟨rfl,rfl⟩
 ·have hb0:¬ b=0:=fun q=>(hb q).1 rfl;have hb1:(b==0)=false:=by simp[hb0]
  clear hb;go_enter Tryz.func129,Tryz.ntmps129;go_wp2_with fail
  go_ret;exact⟨rfl,rfl⟩
 ·have hb0:¬ b=0:=fun q=>(hb q).2 rfl;have hb1:(b==0)=false:=by simp[hb0]
  clear hb;go_enter Tryz.func129,Tryz.ntmps129;go_wp2_with fail
  go_ret;exact⟨rfl,rfl⟩
 ·clear hb;go_enter Tryz.func129,Tryz.ntmps129;go_wp2_with fail
  refine (oneif_any _ _).mono ?_;rintro e1 w1 ⟨rfl,rfl⟩;go_wp2_with fail
  go_ret;exact⟨rfl,rfl⟩
 ·clear hb;go_enter Tryz.func129,Tryz.ntmps129;go_wp2_with fail
  refine (oneif_any _ _).mono ?_;rintro e1 w1 ⟨rfl,rfl⟩;go_wp2_with fail
  go_ret;exact⟨rfl,rfl⟩
theorem maysize_b {z:Int}{b:Bool}(hb:plB z 101=b) (w:World):Calls Tryz.prog 136 #[.int .i64 z] w fun e w'=>e=.returned (.bool b)∧w'=w:=by
 go_enter Tryz.func136,Tryz.ntmps136;go_wp2_with fail
 refine (place_b hb _).mono ?_;rintro e1 w1 ⟨rfl,rfl⟩;go_wp2_with fail
 go_ret;exact⟨rfl,rfl⟩
theorem box_at' (w:World) (t:TypeId) {cs:Array Value}{k:Nat}{v:Value}(h:cs[k]?=some v):(w.alloc (Obj.cells cs t)).cell? ⟨w.heap.size,k,none⟩=some v:=box_at w t h
theorem box_lt' (w:World) (o:Obj):w.heap.size<(w.alloc o).heap.size:=box_lt w o
theorem later_an (w:World) (o:Obj) (k:Nat):Later w ((w.alloc o).drewN k):=(later_a w o).trans (Later.drewN' _ _)
theorem en_doArith:Enters Tryz.prog 129:=enters_of Tryz.func129 (by kernel_rfl) (by kernel_rfl)
theorem doArith_any {C:Cx}(hC:CxI C) {w:World}{s:Vm}{iv ov rv:Value}(h:Pv C w s (s.top C.x) (codeP C s.fn) iv ov rv) {A B D:Nat}(hA:A<16) (hB:B<16) (hD:D<16) (op n:Int) (n0:0≤n) (n6:n≤6) :
  Calls Tryz.prog 93 #[.pointer (some ⟨C.P,0,none⟩),.agg #[.int .i64 op,.int .i64 (A:Int),.int .i64 (B:Int),.int .i64 (D:Int),.int .i64 n]] w (StQ C ov (if s.rg D=0∧(n=3∨n=4) then .fin 7 0 s else .go (s.set (A:Int) (arI n (s.rg B) (s.rg D))))):=by
 obtain⟨crA,zrA⟩:=h.reg hA;have iA:(A:Int)<16:=by omega
 obtain⟨crB,zrB⟩:=h.reg hB;have iB:(B:Int)<16:=by omega
 obtain⟨crD,zrD⟩:=h.reg hD;have iD:(D:Int)<16:=by omega
 have hlt:=h.box.lt;have hlt2:=h.wd.lt;have hlt3:=h.pp.lt;have hP:¬ C.P=w.heap.size:=by omega
 have hW:¬ C.WB=w.heap.size:=by omega
 have lA:Later w (w.alloc (Obj.cells #[.int .i64 op,.int .i64 (A:Int),.int .i64 (B:Int),.int .i64 (D:Int),.int .i64 n] 97)):=later_a _ _
 by_cases hst:s.rg D=0∧(n=3∨n=4)
 ·rw[if_pos hst]
  have HZ:Hid (∀ w',Later w w'→StQ C ov (.fin 7 0 s) (finP 7 0) w'):=fun w' l=>⟨rfl,s,_,_,iv,rv,h.kept l,rfl,rfl,rfl,rfl⟩
  generalize StQ C ov (.fin 7 0 s)=Q at *
  obtain⟨hz,h34⟩:=hst;rw[hz]at crD;clear h hz n0 n6 lA;rcases h34 with rfl|rfl
  all_goals
   go_enter Tryz.func93,Tryz.ntmps93;go_wp2_with fail
   go_quiet (fail)
   go_wp2_with fail
   refine (stuck_no _).mono ?_;rintro n2 w2 ⟨rfl,l2⟩;have HP:=HZ.out w2 ((later_an _ _ _).trans l2);clear HZ;unfold finP at HP ⊢;go_wp2_with fail
   exact⟨rfl,HP⟩
 ·rw[if_neg hst]
  have hcase:(s.rg D != 0)=true∨((s.rg D != 0)=false∧(n != 3)=true∧(n != 4)=true):=by
   by_cases q:s.rg D=0
   ·refine .inr ⟨by simp[q],?_,?_⟩
    ·simp;exact fun z=>hst ⟨q,.inl z⟩
    ·simp;exact fun z=>hst ⟨q,.inr z⟩
   ·exact .inl (by simp[q])
  have HL:Hid (∀ w',Calls Tryz.prog 129 #[.int .i64 n,.int .i64 (s.rg B),.int .i64 (s.rg D)] w' (fun e w''=>∃ v,e=.returned v∧v=.int .i64 (arI n (s.rg B) (s.rg D))∧w''=w')):=fun w'=>(iarith_any n0 n6 (fun q=>⟨fun z=>hst ⟨q,.inl z⟩,fun z=>hst ⟨q,.inr z⟩⟩) w').mono (fun e w'' q=>⟨_,q.1,rfl,q.2⟩)
  have HF:Hid (∀ w',Later w w'→w'.cell? ⟨C.P,10+A,none⟩=some (.int .i64 (s.rg A))∧w'.frozen? ⟨C.P,10+A,none⟩=false∧True):=fun w' l=>⟨((h.kept l).reg hA).1,((h.kept l).reg hA).2,trivial⟩
  have HZ:Hid (∀ w' w'',Later w w'→Later (w'.setCell ⟨C.P,10+A,none⟩ (.int .i64 (arI n (s.rg B) (s.rg D)))) w''→StQ C ov (.go (s.set (A:Int) (arI n (s.rg B) (s.rg D)))) unitE w''):=fun w' w'' l l'=>st_go ((h.kept l).setReg hC hA _) l'
  generalize StQ C ov (.go (s.set (A:Int) (arI n (s.rg B) (s.rg D))))=Q at *
  generalize arI n (s.rg B) (s.rg D)=Z at *
  have HB0:Hid (∀ k v,(#[.int .i64 op,.int .i64 (A:Int),.int .i64 (B:Int),.int .i64 (D:Int),.int .i64 n]:Array Value)[k]?=some v→(w.alloc (Obj.cells #[.int .i64 op,.int .i64 (A:Int),.int .i64 (B:Int),.int .i64 (D:Int),.int .i64 n] 97)).cell? ⟨w.heap.size,k,none⟩=some v):=fun k v hk=>box_at' w _ hk
  have HBx:Hid (∀ w',Later (w.alloc (Obj.cells #[.int .i64 op,.int .i64 (A:Int),.int .i64 (B:Int),.int .i64 (D:Int),.int .i64 n] 97)) w'→w'.cell? ⟨w.heap.size,1,none⟩=some (.int .i64 (A:Int))∧w'.cell? ⟨w.heap.size,4,none⟩=some (.int .i64 n)):=fun w' l=>⟨(Below.cell l (p:=⟨w.heap.size,1,none⟩) (box_lt' w _)).trans (HB0.out 1 _ rfl),(Below.cell l (p:=⟨w.heap.size,4,none⟩) (box_lt' w _)).trans (HB0.out 4 _ rfl)⟩
  have HBs:Hid (∀ w' bq oq vq,bq≠w.heap.size→Later (w.alloc (Obj.cells #[.int .i64 op,.int .i64 (A:Int),.int .i64 (B:Int),.int .i64 (D:Int),.int .i64 n] 97)) w'→(w'.setCell ⟨bq,oq,none⟩ vq).cell? ⟨w.heap.size,1,none⟩=some (.int .i64 (A:Int))∧(w'.setCell ⟨bq,oq,none⟩ vq).cell? ⟨w.heap.size,4,none⟩=some (.int .i64 n)):=fun w' bq oq vq hb l=>⟨(set_far' hb).trans (HBx.out _ l).1,(set_far' hb).trans (HBx.out _ l).2⟩
  clear HB0;clear h hst n0 n6;unfold unitE at HZ;rcases hcase with hc1|⟨hc1,hc2,hc3⟩
  all_goals
   go_enter Tryz.func93,Tryz.ntmps93;go_wp2_with fail
   go_quiet (fail)
   go_wp2_with fail
   refine (stuck_yes _).mono ?_;rintro n2 w2 ⟨rfl,l2⟩;have l2a:Later (w.alloc (Obj.cells #[.int .i64 op,.int .i64 (A:Int),.int .i64 (B:Int),.int .i64 (D:Int),.int .i64 n] 97)) w2:=(Later.drewN' _ _).trans l2;have l2b:=l2a.trans (Later.drew w2);obtain⟨f1,f2,_⟩:=HF.out w2 (lA.trans l2a);have hB2:=HBx.out _ l2b;clear crA crB crD zrA zrB zrD l2;unfold unitE;go_wp2_with fail
   refine wp_region_held_drew (S:=fun w'=>w'.cell? ⟨w.heap.size,1,none⟩=some (.int .i64 (A:Int))∧w'.cell? ⟨w.heap.size,4,none⟩=some (.int .i64 n)) (by kernel_rfl) (by first|exact hB2|exact HBx.out _ l2a) (fun hHeld=>?_);refine tk 0 (.pointer (some ⟨C.P,0,none⟩)) rfl ?_;(try go_simp);refine tk 1 (.pointer (some ⟨w.heap.size,1,none⟩)) rfl ?_;(try go_simp);refine tk 2 (.int .i64 ((A:Int))) rfl ?_;(try go_simp);refine tk 3 (.pointer (some ⟨w.heap.size,4,none⟩)) rfl ?_;(try go_simp);refine tk 4 (.int .i64 (n)) rfl ?_;(try go_simp);refine tk 5 (.int .i64 (s.rg B)) rfl ?_;(try go_simp);refine tk 6 (.int .i64 (s.rg D)) rfl ?_;(try go_simp);refine tk 8 (.pointer (some ⟨C.P,0,none⟩)) rfl ?_;(try go_simp);refine tk 9 (.pointer (some ⟨C.P,10,none⟩)) rfl ?_;(try go_simp);refine rd1 7 rfl fun K hK=>?_;refine step_call rfl 129 en_doArith _ _ rfl [.int .i64 n,.int .i64 (s.rg B),.int .i64 (s.rg D)] rfl (fun v w''=>v=.int .i64 Z∧w''=w2.drew) (HL.out _) ?_;intro u3 w3 hc3;obtain⟨rfl,rfl⟩:=hc3;refine hK.out _ _ ?_ (fun hHeld=>?_)
   ·first|assumption|(go_keep;done)|exact HBs.out _ _ _ _ hP l2a|exact HBs.out _ _ _ _ hP l2b
   clear hK K;(try go_simp);refine tk 10 (.pointer (some ⟨C.P,10+A,none⟩)) rfl ?_;(try go_simp);refine rd1 11 rfl fun K hK=>?_;go_simp;refine hK.out _ _ ?_ (fun hHeld=>?_)
   ·first|assumption|(go_keep;done)|exact HBs.out _ _ _ _ hP l2a|exact HBs.out _ _ _ _ hP l2b
   clear hK K;(try go_simp);refine wpAnyH_done (by kernel_rfl) ?_ _;go_wp2_with fail
   go_end0;exact HZ.out w2 _ (lA.trans l2a) (by first|exact Later.drew _|exact Later.refl _)
theorem rdy2_fp {x:Im}(hx:ImI x) {H:Nat}{s t:Vm}{n:Nat}(hI:Iv x H s) (hs:SafeAt x s.fn ((s.pc:Int) - 1)) (e:s.rdy2 x H n=.go t):t.fp=s.fp∧t.fn=s.fn:=by
 unfold Vm.rdy2 at e;split at e
 ·cases e;exact⟨rfl,rfl⟩
 ·cases hc:s.coll x H with
  | none=>rw[hc]at e;cases e
  | some u =>
   rw[hc]at e;simp only at e;obtain⟨_,cw⟩:=hI.coll hx hs hc;split at e
   ·cases e
    rw[cw.eq];exact⟨rfl,rfl⟩
   ·cases e
theorem rdy_fp {x:Im}(hx:ImI x) {H:Nat}{s t:Vm}{n:Nat}(hI:Iv x H s) (hs:SafeAt x s.fn ((s.pc:Int) - 1)) (e:s.rdy x H n=.go t):t.fp=s.fp∧t.fn=s.fn:=by
 unfold Vm.rdy at e;split at e
 ·cases hc:s.next.coll x H with
  | none=>rw[hc]at e;cases e
  | some u =>
   rw[hc]at e;obtain⟨i,cw⟩:=hI.next.coll hx hs hc
   have e1:u.fp=s.fp∧u.fn=s.fn∧u.pc=s.pc:=by rw[cw.eq];exact⟨rfl,rfl,rfl⟩
   have:=rdy2_fp hx i (by rw[e1.2.1,e1.2.2];exact hs) e;exact⟨this.1.trans e1.1,this.2.trans e1.2.1⟩
 ·exact rdy2_fp (s:=s.next) hx hI.next hs e
theorem put_st {C:Cx}(hC:CxI C) {w w':World}{s t:Vm}{iv ov rv:Value}{hd:Int}{L A:Nat}(hA:A<16) (hf:t.fp=s.fp∧t.fn=s.fn) (p:Pv C w (t.put0 hd L) (s.top C.x) (codeP C s.fn) iv ov rv) (l:Later (w.setCell ⟨C.P,10+A,none⟩ (.int .i64 (t.free:Int))) w'):StQ C ov (.go (t.put hd L A)) unitE w':=by
 have q:=(p.setReg hC hA (t.free:Int)).kept l
 have e1:(t.put hd L A).top C.x=s.top C.x:=by
  show t.fp+frN C.x t.fn=s.fp+frN C.x s.fn;rw[hf.1,hf.2]
 refine⟨rfl,iv,ov,rv,?_⟩;rw[e1];show Pv C w' _ _ (codeP C t.fn) _ _ _;rw[hf.2];exact q
theorem en_doNew:Enters Tryz.prog 135:=enters_of Tryz.func135 (by kernel_rfl) (by kernel_rfl)
theorem doNew_any {C:Cx}(hC:CxI C) (hMV:IMove C) {w:World}{s:Vm}{iv ov rv:Value}(h:Pv C w s (s.top C.x) (codeP C s.fn) iv ov rv) (hI:Iv C.x C.H s) (hs:SafeAt C.x s.fn ((s.pc:Int) - 1)) (hpc:s.pc≤6000) (hmv:s.moves≤999990) {A N N8:Nat}(hA:A<16) (hN:N<C.x.structs.length) (h8:N8=N*8) (op b c:Int) :
  Calls Tryz.prog 99 #[.pointer (some ⟨C.P,0,none⟩),.agg #[.int .i64 op,.int .i64 (A:Int),.int .i64 b,.int .i64 c,.int .i64 (N:Int)]] w (StQ C ov (s.take C.x C.H (N8:Int) (stAt C.x N).length A)):=by
 obtain⟨crA,zrA⟩:=h.reg hA;have iA:(A:Int)<16:=by omega
 have hlt:=h.box.lt;have hlt2:=h.wd.lt;have hlt3:=h.pp.lt;have hP:¬ C.P=w.heap.size:=by omega
 have hW:¬ C.WB=w.heap.size:=by omega
 have hPb:¬ C.PB=w.heap.size:=by omega
 have lA:Later w (w.alloc (Obj.cells #[.int .i64 op,.int .i64 (A:Int),.int .i64 b,.int .i64 c,.int .i64 (N:Int)] 97)):=later_a _ _;have hns:=hC.xi.ns
 have hL5:(stAt C.x N).length≤5:=by
  unfold stAt;rw[List.getD_eq_getElem?_getD,List.getElem?_eq_getElem hN,Option.getD_some];exact hC.xi.st _ (List.getElem_mem hN)
 obtain⟨g,off,sc,va,vc,hsv,hcs⟩:=st_len hC hN;have iN:(N:Int)<(C.x.structs.length:Int):=by omega
 have i8:(N:Int)*8=(N8:Int):=by omega
 have i9:(N8:Int)≤100:=by omega
 have i10:IntKind.i64.wrap (N8:Int)=(N8:Int):=by rw[IntKind.wrap_i64];omega
 clear h8
 have HSv:Hid (∀ w' t e' cp' iv' ov' rv',Pv C w' t e' cp' iv' ov' rv'→w'.cell? ⟨C.P,5,none⟩=some (.slice (some ⟨g,off,none⟩) C.x.structs.length sc)∧w'.cell? ⟨g,off+N,none⟩=some (.slice va (stAt C.x N).length vc)):=fun w' t e' cp' iv' ov' rv' p=>⟨by rw[←hsv];exact p.c5.1,hcs w' p.lat⟩
 have HTk:=fun w' l=>itake_any hC hMV (w:=w') (h.kept l) hI hs hpc hmv (hd:=(N8:Int)) (n:=(stAt C.x N).length) (by omega);have HSw:Hid (∀ w',Later w w'→w'.cell? ⟨C.P,5,none⟩=some (.slice (some ⟨g,off,none⟩) C.x.structs.length sc)∧w'.cell? ⟨g,off+N,none⟩=some (.slice va (stAt C.x N).length vc)):=fun w' l=>HSv.out _ _ _ _ _ _ _ (h.kept l);have hs5:=HSw.out _ (lA.trans (Later.drew _));rw[take_rdy];clear hcs hsv;have HB0:Hid (∀ k v,(#[.int .i64 op,.int .i64 (A:Int),.int .i64 b,.int .i64 c,.int .i64 (N:Int)]:Array Value)[k]?=some v→(w.alloc (Obj.cells #[.int .i64 op,.int .i64 (A:Int),.int .i64 b,.int .i64 c,.int .i64 (N:Int)] 97)).cell? ⟨w.heap.size,k,none⟩=some v):=fun k v hk=>box_at' w _ hk
 have HBx:Hid (∀ w',OnlyM C (w.alloc (Obj.cells #[.int .i64 op,.int .i64 (A:Int),.int .i64 b,.int .i64 c,.int .i64 (N:Int)] 97)) w'→w'.cell? ⟨w.heap.size,1,none⟩=some (.int .i64 (A:Int))∧w'.cell? ⟨w.heap.size,4,none⟩=some (.int .i64 (N:Int))):=fun w' l=>⟨box_only l (box_lt' w _) (by omega) (by omega) (by omega) (HB0.out 1 _ rfl),box_only l (box_lt' w _) (by omega) (by omega) (by omega) (HB0.out 4 _ rfl)⟩
 have HBs:Hid (∀ w' bq oq vq,bq≠w.heap.size→OnlyM C (w.alloc (Obj.cells #[.int .i64 op,.int .i64 (A:Int),.int .i64 b,.int .i64 c,.int .i64 (N:Int)] 97)) w'→(w'.setCell ⟨bq,oq,none⟩ vq).cell? ⟨w.heap.size,1,none⟩=some (.int .i64 (A:Int))∧(w'.setCell ⟨bq,oq,none⟩ vq).cell? ⟨w.heap.size,4,none⟩=some (.int .i64 (N:Int))):=fun w' bq oq vq hb l=>⟨(set_far' hb).trans (HBx.out _ l).1,(set_far' hb).trans (HBx.out _ l).2⟩
 clear HB0
 cases hr:s.rdy C.x C.H (stAt C.x N).length with
 | fin ea ec t =>
  have HL:Hid (∀ w',Later w w'→Calls Tryz.prog 135 #[.pointer (some ⟨C.P,0,none⟩),.int .i64 (N8:Int),.int .i64 ((stAt C.x N).length:Int)] w' (PanQ C t ov ea ec)):=fun w' l=>by
   have:=HTk w' l;unfold TakeQ at this;rw[hr]at this;exact this
  have HZ:Hid (∀ m w',PanQ C t ov ea ec m w'→StQ C ov (.fin ea ec t) m w'):=fun _ _ p=>p;show Calls _ _ _ _ (StQ C ov (.fin ea ec t))
  generalize StQ C ov (.fin ea ec t)=Q at *
  clear h hI hr HTk HSv hs hL5
  generalize (stAt C.x N).length=L at *
  go_enter Tryz.func99,Tryz.ntmps99;go_wp2_with fail
  refine wp_region_held_drew (S:=fun w'=>w'.cell? ⟨w.heap.size,1,none⟩=some (.int .i64 (A:Int))∧w'.cell? ⟨w.heap.size,4,none⟩=some (.int .i64 (N:Int))∧w'.cell? ⟨C.P,5,none⟩=some (.slice (some ⟨g,off,none⟩) C.x.structs.length sc)∧w'.cell? ⟨g,off+N,none⟩=some (.slice va L vc)) (by kernel_rfl) (by
   exact⟨(HBx.out _ (OnlyM.of_later (Later.drew _))).1,(HBx.out _ (OnlyM.of_later (Later.drew _))).2,hs5.1,hs5.2⟩) (fun hHeld=>?_)
  refine tk 0 (.pointer (some ⟨C.P,0,none⟩)) rfl ?_;(try go_simp);refine tk 1 (.pointer (some ⟨w.heap.size,1,none⟩)) rfl ?_;(try go_simp);refine tk 2 (.int .i64 ((A:Int))) rfl ?_;(try go_simp);refine tk 3 (.pointer (some ⟨C.P,0,none⟩)) rfl ?_;(try go_simp);refine tk 4 (.pointer (some ⟨w.heap.size,4,none⟩)) rfl ?_;(try go_simp);refine tk 5 (.int .i64 ((N:Int))) rfl ?_;(try go_simp);refine tk 6 (.int .i64 ((N8:Int))) rfl ?_;(try go_simp);refine tk 7 (.int .i64 ((N8:Int))) rfl ?_;(try go_simp);refine tk 8 (.pointer (some ⟨C.P,0,none⟩)) rfl ?_;(try go_simp);refine tk 9 (.pointer (some ⟨C.P,0,none⟩)) rfl ?_;(try go_simp);refine tk 10 (.pointer (some ⟨C.P,5,none⟩)) rfl ?_;(try go_simp);refine tk 11 (.pointer (some ⟨C.P,5,none⟩)) rfl ?_;(try go_simp);refine tk 12 (.slice (some ⟨g,off,none⟩) C.x.structs.length sc) rfl ?_;(try go_simp);refine tk 13 (.pointer (some ⟨w.heap.size,4,none⟩)) rfl ?_;(try go_simp);refine tk 14 (.int .i64 ((N:Int))) rfl ?_;(try go_simp);refine tk 15 (.pointer (some ⟨g,off+N,none⟩)) rfl ?_;(try go_simp);refine tk 16 (.slice va L vc) rfl ?_;(try go_simp);refine tk 17 (.int .i64 ((L:Int))) rfl ?_;(try go_simp);refine tk 19 (.pointer (some ⟨C.P,0,none⟩)) rfl ?_;(try go_simp);refine tk 20 (.pointer (some ⟨C.P,10,none⟩)) rfl ?_;(try go_simp);refine rd1 18 rfl fun K hK=>?_;refine step_callP rfl 135 en_doNew _ _ rfl [.pointer (some ⟨C.P,0,none⟩),.int .i64 (N8:Int),.int .i64 (L:Int)] rfl (fun _ _=>False) (fun ch w'=>ch=[{ v:=.iface 118 (.agg #[.int .i64 ea,.int .i64 ec]),recovered:=false }]∧Q (.panicked [{ v:=.iface 118 (.agg #[.int .i64 ea,.int .i64 ec]),recovered:=false }]) w') ((HL.out _ (lA.trans (Later.drew _))).mono (fun e1 w1 hq=>by obtain⟨rfl,hx⟩:=hq;exact Or.inr ⟨_,rfl,rfl,HZ.out _ _ ⟨rfl,hx⟩⟩)) ?_ ?_
  ·intro ch w2 hp;obtain⟨rfl,hp⟩:=hp;first|exact⟨rfl,hp⟩|(go_simp;exact⟨rfl,hp⟩)
  ·intro u2 w2 hf;exact hf.elim
 | go t =>
  have hfp:=rdy_fp hC.xi hI hs hr
  have HL:Hid (∀ w',Later w w'→Calls Tryz.prog 135 #[.pointer (some ⟨C.P,0,none⟩),.int .i64 (N8:Int),.int .i64 ((stAt C.x N).length:Int)] w' (fun e w''=>∃ v,e=.returned v∧v=.int .i64 (t.free:Int)∧∃ rv',Pv C w'' (t.put0 (N8:Int) (stAt C.x N).length) (s.top C.x) (codeP C s.fn) iv ov rv'∧OnlyM C w' w'')):=fun w' l=>by
   have:=HTk w' l;unfold TakeQ at this;rw[hr]at this;exact this.mono (fun e w'' q=>⟨_,q.1,rfl,q.2⟩)
  show Calls _ _ _ _ (StQ C ov (.go (t.put (N8:Int) (stAt C.x N).length A)))
  have HF:Hid (∀ w' rv',Pv C w' (t.put0 (N8:Int) (stAt C.x N).length) (s.top C.x) (codeP C s.fn) iv ov rv'→((∃ u,w'.cell? ⟨C.P,10+A,none⟩=some u)∧w'.frozen? ⟨C.P,10+A,none⟩=false)∧StQ C ov (.go (t.put (N8:Int) (stAt C.x N).length A)) unitE (w'.setCell ⟨C.P,10+A,none⟩ (.int .i64 (t.free:Int)))∧(w'.cell? ⟨C.P,5,none⟩=some (.slice (some ⟨g,off,none⟩) C.x.structs.length sc)∧w'.cell? ⟨g,off+N,none⟩=some (.slice va (stAt C.x N).length vc))∧((w'.setCell ⟨C.P,10+A,none⟩ (.int .i64 (t.free:Int))).cell? ⟨C.P,5,none⟩=some (.slice (some ⟨g,off,none⟩) C.x.structs.length sc)∧(w'.setCell ⟨C.P,10+A,none⟩ (.int .i64 (t.free:Int))).cell? ⟨g,off+N,none⟩=some (.slice va (stAt C.x N).length vc))):=fun w' rv' p=>⟨⟨⟨_,(p.reg hA).1⟩,(p.reg hA).2⟩,put_st hC hA hfp p (Later.refl _),HSv.out _ _ _ _ _ _ _ p,HSv.out _ _ _ _ _ _ _ (p.setReg hC hA _)⟩
  generalize StQ C ov (.go (t.put (N8:Int) (stAt C.x N).length A))=Q at *
  clear h hI hr HTk HSv hs hfp hL5
  generalize (stAt C.x N).length=L at *
  unfold unitE at HF;go_enter Tryz.func99,Tryz.ntmps99;go_wp2_with fail
  refine wp_region_held_drew (S:=fun w'=>w'.cell? ⟨w.heap.size,1,none⟩=some (.int .i64 (A:Int))∧w'.cell? ⟨w.heap.size,4,none⟩=some (.int .i64 (N:Int))∧w'.cell? ⟨C.P,5,none⟩=some (.slice (some ⟨g,off,none⟩) C.x.structs.length sc)∧w'.cell? ⟨g,off+N,none⟩=some (.slice va L vc)) (by kernel_rfl) (by
   exact⟨(HBx.out _ (OnlyM.of_later (Later.drew _))).1,(HBx.out _ (OnlyM.of_later (Later.drew _))).2,hs5.1,hs5.2⟩) (fun hHeld=>?_)
  refine tk 0 (.pointer (some ⟨C.P,0,none⟩)) rfl ?_;(try go_simp);refine tk 1 (.pointer (some ⟨w.heap.size,1,none⟩)) rfl ?_;(try go_simp);refine tk 2 (.int .i64 ((A:Int))) rfl ?_;(try go_simp);refine tk 3 (.pointer (some ⟨C.P,0,none⟩)) rfl ?_;(try go_simp);refine tk 4 (.pointer (some ⟨w.heap.size,4,none⟩)) rfl ?_;(try go_simp);refine tk 5 (.int .i64 ((N:Int))) rfl ?_;(try go_simp);refine tk 6 (.int .i64 ((N8:Int))) rfl ?_;(try go_simp);refine tk 7 (.int .i64 ((N8:Int))) rfl ?_;(try go_simp);refine tk 8 (.pointer (some ⟨C.P,0,none⟩)) rfl ?_;(try go_simp);refine tk 9 (.pointer (some ⟨C.P,0,none⟩)) rfl ?_;(try go_simp);refine tk 10 (.pointer (some ⟨C.P,5,none⟩)) rfl ?_;(try go_simp);refine tk 11 (.pointer (some ⟨C.P,5,none⟩)) rfl ?_;(try go_simp);refine tk 12 (.slice (some ⟨g,off,none⟩) C.x.structs.length sc) rfl ?_;(try go_simp);refine tk 13 (.pointer (some ⟨w.heap.size,4,none⟩)) rfl ?_;(try go_simp);refine tk 14 (.int .i64 ((N:Int))) rfl ?_;(try go_simp);refine tk 15 (.pointer (some ⟨g,off+N,none⟩)) rfl ?_;(try go_simp);refine tk 16 (.slice va L vc) rfl ?_;(try go_simp);refine tk 17 (.int .i64 ((L:Int))) rfl ?_;(try go_simp);refine tk 19 (.pointer (some ⟨C.P,0,none⟩)) rfl ?_;(try go_simp);refine tk 20 (.pointer (some ⟨C.P,10,none⟩)) rfl ?_;(try go_simp);refine rd1 18 rfl fun K hK=>?_;refine step_call rfl 135 en_doNew _ _ rfl [.pointer (some ⟨C.P,0,none⟩),.int .i64 (N8:Int),.int .i64 (L:Int)] rfl (fun v w''=>v=.int .i64 (t.free:Int)∧∃ rv',Pv C w'' (t.put0 (N8:Int) L) (s.top C.x) (codeP C s.fn) iv ov rv'∧OnlyM C (w.alloc (Obj.cells #[.int .i64 op,.int .i64 (A:Int),.int .i64 b,.int .i64 c,.int .i64 (N:Int)] 97)).drew w'') (HL.out _ (lA.trans (Later.drew _))) ?_;intro u2 w2 hc2;obtain⟨rfl,rv2,p2,o2⟩:=hc2;obtain⟨⟨⟨uA,f1⟩,f2⟩,HP,hS1,hS2⟩:=HF.out w2 rv2 p2;have o2a:=(OnlyM.of_later (C:=C) (Later.drew (w.alloc (Obj.cells #[.int .i64 op,.int .i64 (A:Int),.int .i64 b,.int .i64 c,.int .i64 (N:Int)] 97)))).trans o2;have hb1:=HBx.out _ o2a;have hb2:=HBs.out _ _ (10+A) (.int .i64 (t.free:Int)) hP o2a;clear p2;refine hK.out _ _ ?_ (fun hHeld=>?_)
  ·first|assumption|(go_keep;done)|exact⟨hb1.1,hb1.2,hS1.1,hS1.2⟩|exact⟨hb2.1,hb2.2,hS2.1,hS2.2⟩
  clear hK K;(try go_simp);refine tk 21 (.pointer (some ⟨C.P,10+A,none⟩)) rfl ?_;(try go_simp);refine rd1 22 rfl fun K hK=>?_;go_simp;refine hK.out _ _ ?_ (fun hHeld=>?_)
  ·first|assumption|(go_keep;done)|exact⟨hb1.1,hb1.2,hS1.1,hS1.2⟩|exact⟨hb2.1,hb2.2,hS2.1,hS2.2⟩
  clear hK K;(try go_simp);refine wpAnyH_done (by kernel_rfl) ?_ _;go_wp2_with fail
  go_end0;exact HP
end Go.Proofs.YtjnpncefkigcbaaGreat
