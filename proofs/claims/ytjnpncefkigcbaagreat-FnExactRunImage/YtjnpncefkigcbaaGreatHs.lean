import Derived.Test.YtjnpncefkigcbaaGreatHr
set_option maxHeartbeats 100000000
set_option maxRecDepth 100000
namespace Go.Proofs.YtjnpncefkigcbaaGreat
open Go.RowKit Go.Lib Go.Maps
theorem box_at (w:World) (t:TypeId) {cs:Array Value}{k:Nat}{v:Value}(h:cs[k]?=some v):(w.alloc (Obj.cells cs t)).drew.cell? ⟨w.heap.size,k,none⟩=some v:=by
 rw[World.cell?_drew];have:=World.cell?_alloc_new w cs t k;rw[this];exact h
theorem box_lt (w:World) (o:Obj):w.heap.size<(w.alloc o).drew.heap.size:=by
 show w.heap.size<(w.alloc o).heap.size;simp
theorem set_far' {w:World}{b o c k:Nat}{v:Value}(h:b≠c):(w.setCell ⟨b,o,none⟩ v).cell? ⟨c,k,none⟩=w.cell? ⟨c,k,none⟩:=World.cell?_setCell_far w ⟨b,o,none⟩ ⟨c,k,none⟩ v h
theorem en_doLen:Enters Tryz.prog 134:=enters_of Tryz.func134 (by kernel_rfl) (by kernel_rfl)
theorem doLen_any {C:Cx}(hC:CxI C) {w:World}{s:Vm}{iv ov rv:Value}(h:Pv C w s (s.top C.x) (codeP C s.fn) iv ov rv) (hI:Iv C.x C.H s) {A B:Nat}(hA:A<16) (hB:B<16) (op c n:Int) (r:St) (h0:s.len C.H (s.rg B)=none→r=.fin 7 0 s) (h1:∀ a,s.len C.H (s.rg B)=some a→r=.go (s.set (A:Int) a)) :
  Calls Tryz.prog 98 #[.pointer (some ⟨C.P,0,none⟩),.agg #[.int .i64 op,.int .i64 (A:Int),.int .i64 (B:Int),.int .i64 c,.int .i64 n]] w (StQ C ov r):=by
 obtain⟨crA,zrA⟩:=h.reg hA;have iA:(A:Int)<16:=by omega
 obtain⟨crB,zrB⟩:=h.reg hB;have iB:(B:Int)<16:=by omega
 have hlt:=h.box.lt;have hlt2:=h.wd.lt;have hlt3:=h.pp.lt;have hP:¬ C.P=w.heap.size:=by omega
 have hW:¬ C.WB=w.heap.size:=by omega
 cases hl:s.len C.H (s.rg B) with
 | none =>
  obtain rfl:=h0 hl;clear h0 h1
  have HL:Hid (∀ w',Later w w'→Calls Tryz.prog 134 #[.pointer (some ⟨C.P,0,none⟩),.int .i64 (s.rg B)] w' (PanQ C s ov 7 0)):=fun w' l=>by
   have:=ilen_any hC (h.kept l) hI (s.rg B);rw[hl]at this;exact this
  have HZ:Hid (∀ m w',PanQ C s ov 7 0 m w'→StQ C ov (.fin 7 0 s) m w'):=fun _ _ p=>p
  generalize StQ C ov (.fin 7 0 s)=Q at *
  clear h hI hl;go_enter Tryz.func98,Tryz.ntmps98;go_wp2_with fail
  refine wp_region_held_drew (S:=fun w'=>w'.cell? ⟨w.heap.size,1,none⟩=some (.int .i64 (A:Int))∧w'.cell? ⟨w.heap.size,2,none⟩=some (.int .i64 (B:Int))) (by kernel_rfl) (by go_keep) (fun hHeld=>?_);refine tk 0 (.pointer (some ⟨C.P,0,none⟩)) rfl ?_;(try go_simp);refine tk 1 (.pointer (some ⟨w.heap.size,1,none⟩)) rfl ?_;(try go_simp);refine tk 2 (.int .i64 ((A:Int))) rfl ?_;(try go_simp);refine tk 3 (.pointer (some ⟨C.P,0,none⟩)) rfl ?_;(try go_simp);refine tk 4 (.pointer (some ⟨C.P,0,none⟩)) rfl ?_;(try go_simp);refine tk 5 (.pointer (some ⟨w.heap.size,2,none⟩)) rfl ?_;(try go_simp);refine tk 6 (.int .i64 ((B:Int))) rfl ?_;(try go_simp);refine tk 7 (.pointer (some ⟨C.P,0,none⟩)) rfl ?_;(try go_simp);refine tk 8 (.pointer (some ⟨C.P,10,none⟩)) rfl ?_;(try go_simp);refine tk 9 (.pointer (some ⟨C.P,10+B,none⟩)) rfl ?_;(try go_simp);refine tk 12 (.pointer (some ⟨C.P,0,none⟩)) rfl ?_;(try go_simp);refine tk 13 (.pointer (some ⟨C.P,10,none⟩)) rfl ?_;(try go_simp);refine rd1 10 rfl fun K hK=>?_;go_simp;refine hK.out _ _ ?_ (fun hHeld=>?_)
  ·first|assumption|(go_keep;done)
  clear hK K;(try go_simp);refine rd1 11 rfl fun K hK=>?_;refine step_callP rfl 134 en_doLen _ _ rfl [.pointer (some ⟨C.P,0,none⟩),.int .i64 (s.rg B)] rfl (fun _ _=>False) (fun ch w'=>ch=[{ v:=.iface 118 (.agg #[.int .i64 7,.int .i64 0]),recovered:=false }]∧Q (.panicked [{ v:=.iface 118 (.agg #[.int .i64 7,.int .i64 0]),recovered:=false }]) w') ((HL.out _ (later_ad _ _)).mono (fun e1 w1 hq=>by obtain⟨rfl,hx⟩:=hq;exact Or.inr ⟨_,rfl,rfl,HZ.out _ _ ⟨rfl,hx⟩⟩)) ?_ ?_
  ·intro ch w2 hp;obtain⟨rfl,hp⟩:=hp;first|exact⟨rfl,hp⟩|(go_simp;exact⟨rfl,hp⟩)
  ·intro u2 w2 hf;exact hf.elim
 | some a =>
  obtain rfl:=h1 a hl;clear h0 h1
  have HL:Hid (∀ w',Later w w'→Calls Tryz.prog 134 #[.pointer (some ⟨C.P,0,none⟩),.int .i64 (s.rg B)] w' (fun e w''=>∃ v,e=.returned v∧v=.int .i64 a∧Later w' w'')):=fun w' l=>by
   have:=ilen_any hC (h.kept l) hI (s.rg B);rw[hl]at this;exact this.mono (fun e w'' q=>⟨_,q.1,rfl,q.2⟩)
  have HF:Hid (∀ w',Later w w'→w'.cell? ⟨C.P,10+A,none⟩=some (.int .i64 (s.rg A))∧w'.frozen? ⟨C.P,10+A,none⟩=false∧True):=fun w' l=>⟨((h.kept l).reg hA).1,((h.kept l).reg hA).2,trivial⟩
  have HZ:Hid (∀ w',Later w w'→StQ C ov (.go (s.set (A:Int) a)) unitE (w'.setCell ⟨C.P,10+A,none⟩ (.int .i64 a))):=fun w' l=>st_go ((h.kept l).setReg hC hA _) (Later.refl _)
  generalize StQ C ov (.go (s.set (A:Int) a))=Q at *
  have HB0:Hid (∀ k v,(#[.int .i64 op,.int .i64 (A:Int),.int .i64 (B:Int),.int .i64 c,.int .i64 n]:Array Value)[k]?=some v→(w.alloc (Obj.cells #[.int .i64 op,.int .i64 (A:Int),.int .i64 (B:Int),.int .i64 c,.int .i64 n] 97)).drew.cell? ⟨w.heap.size,k,none⟩=some v):=fun k v hk=>box_at w _ hk
  have HBx:Hid (∀ w',Later (w.alloc (Obj.cells #[.int .i64 op,.int .i64 (A:Int),.int .i64 (B:Int),.int .i64 c,.int .i64 n] 97)).drew w'→w'.cell? ⟨w.heap.size,1,none⟩=some (.int .i64 (A:Int))∧w'.cell? ⟨w.heap.size,2,none⟩=some (.int .i64 (B:Int))):=fun w' l=>⟨(Below.cell l (p:=⟨w.heap.size,1,none⟩) (box_lt w _)).trans (HB0.out 1 _ rfl),(Below.cell l (p:=⟨w.heap.size,2,none⟩) (box_lt w _)).trans (HB0.out 2 _ rfl)⟩
  have HBs:Hid (∀ w' bq oq vq,bq≠w.heap.size→Later (w.alloc (Obj.cells #[.int .i64 op,.int .i64 (A:Int),.int .i64 (B:Int),.int .i64 c,.int .i64 n] 97)).drew w'→(w'.setCell ⟨bq,oq,none⟩ vq).cell? ⟨w.heap.size,1,none⟩=some (.int .i64 (A:Int))∧(w'.setCell ⟨bq,oq,none⟩ vq).cell? ⟨w.heap.size,2,none⟩=some (.int .i64 (B:Int))):=fun w' bq oq vq hb l=>⟨(set_far' hb).trans (HBx.out _ l).1,(set_far' hb).trans (HBx.out _ l).2⟩
  clear HB0;clear h hI hl;unfold unitE at HZ;go_enter Tryz.func98,Tryz.ntmps98;go_wp2_with fail
  refine wp_region_held_drew (S:=fun w'=>w'.cell? ⟨w.heap.size,1,none⟩=some (.int .i64 (A:Int))∧w'.cell? ⟨w.heap.size,2,none⟩=some (.int .i64 (B:Int))) (by kernel_rfl) (by go_keep) (fun hHeld=>?_);refine tk 0 (.pointer (some ⟨C.P,0,none⟩)) rfl ?_;(try go_simp);refine tk 1 (.pointer (some ⟨w.heap.size,1,none⟩)) rfl ?_;(try go_simp);refine tk 2 (.int .i64 ((A:Int))) rfl ?_;(try go_simp);refine tk 3 (.pointer (some ⟨C.P,0,none⟩)) rfl ?_;(try go_simp);refine tk 4 (.pointer (some ⟨C.P,0,none⟩)) rfl ?_;(try go_simp);refine tk 5 (.pointer (some ⟨w.heap.size,2,none⟩)) rfl ?_;(try go_simp);refine tk 6 (.int .i64 ((B:Int))) rfl ?_;(try go_simp);refine tk 7 (.pointer (some ⟨C.P,0,none⟩)) rfl ?_;(try go_simp);refine tk 8 (.pointer (some ⟨C.P,10,none⟩)) rfl ?_;(try go_simp);refine tk 9 (.pointer (some ⟨C.P,10+B,none⟩)) rfl ?_;(try go_simp);refine tk 12 (.pointer (some ⟨C.P,0,none⟩)) rfl ?_;(try go_simp);refine tk 13 (.pointer (some ⟨C.P,10,none⟩)) rfl ?_;(try go_simp);refine rd1 10 rfl fun K hK=>?_;go_simp;refine hK.out _ _ ?_ (fun hHeld=>?_)
  ·first|assumption|(go_keep;done)|exact HBx.out _ l2|exact HBs.out _ _ _ _ hP l2|exact HBs.out _ _ _ _ hW l2
  clear hK K;(try go_simp);refine rd1 11 rfl fun K hK=>?_;refine step_call rfl 134 en_doLen _ _ rfl [.pointer (some ⟨C.P,0,none⟩),.int .i64 (s.rg B)] rfl (fun v w'=>v=.int .i64 a∧Later (w.alloc (Obj.cells #[.int .i64 op,.int .i64 (A:Int),.int .i64 (B:Int),.int .i64 c,.int .i64 n] 97)).drew w') (HL.out _ (later_ad _ _)) ?_;intro u2 w2 hc2;obtain⟨rfl,l2⟩:=hc2;have l2':Later w w2:=(later_ad _ _).trans l2;have hf2:=HF.out w2 l2';obtain⟨f1,f2,f3⟩:=hf2;refine hK.out _ _ ?_ (fun hHeld=>?_)
  ·first|assumption|(go_keep;done)|exact HBx.out _ l2|exact HBs.out _ _ _ _ hP l2|exact HBs.out _ _ _ _ hW l2
  clear hK K;(try go_simp);refine tk 14 (.pointer (some ⟨C.P,10+A,none⟩)) rfl ?_;(try go_simp);refine rd1 15 rfl fun K hK=>?_;go_simp;refine hK.out _ _ ?_ (fun hHeld=>?_)
  ·first|assumption|(go_keep;done)|exact HBx.out _ l2|exact HBs.out _ _ _ _ hP l2|exact HBs.out _ _ _ _ hW l2
  clear hK K;(try go_simp);refine wpAnyH_done (by kernel_rfl) ?_ _;go_wp2_with fail
  go_end0;exact HZ.out _ l2'
theorem en_doGetF:Enters Tryz.prog 137:=enters_of Tryz.func137 (by kernel_rfl) (by kernel_rfl)
theorem doGetF_any {C:Cx}(hC:CxI C) {w:World}{s:Vm}{iv ov rv:Value}(h:Pv C w s (s.top C.x) (codeP C s.fn) iv ov rv) (hI:Iv C.x C.H s) {A B N:Nat}(hA:A<16) (hB:B<16) (hN:N≤4) (op c:Int) (r:St) (h0:s.fld C.x C.H (s.rg B) (N:Int)=none→r=.fin 7 0 s) (h1:∀ a,s.fld C.x C.H (s.rg B) (N:Int)=some a→r=.go (s.set (A:Int) (s.W a))) :
  Calls Tryz.prog 102 #[.pointer (some ⟨C.P,0,none⟩),.agg #[.int .i64 op,.int .i64 (A:Int),.int .i64 (B:Int),.int .i64 c,.int .i64 (N:Int)]] w (StQ C ov r):=by
 obtain⟨crA,zrA⟩:=h.reg hA;have iA:(A:Int)<16:=by omega
 obtain⟨crB,zrB⟩:=h.reg hB;have iB:(B:Int)<16:=by omega
 have hlt:=h.box.lt;have hlt2:=h.wd.lt;have hlt3:=h.pp.lt;have hP:¬ C.P=w.heap.size:=by omega
 have hW:¬ C.WB=w.heap.size:=by omega
 cases hl:s.fld C.x C.H (s.rg B) (N:Int) with
 | none =>
  obtain rfl:=h0 hl;clear h0 h1
  have HL:Hid (∀ w',Later w w'→Calls Tryz.prog 137 #[.pointer (some ⟨C.P,0,none⟩),.int .i64 (s.rg B),.int .i64 (N:Int)] w' (PanQ C s ov 7 0)):=fun w' l=>by
   have:=ifld_any hC (h.kept l) hI (s.rg B) N hN;rw[hl]at this;exact this
  have HZ:Hid (∀ m w',PanQ C s ov 7 0 m w'→StQ C ov (.fin 7 0 s) m w'):=fun _ _ p=>p
  generalize StQ C ov (.fin 7 0 s)=Q at *
  clear h hI hl;go_enter Tryz.func102,Tryz.ntmps102;go_wp2_with fail
  refine wp_region_held_drew (S:=fun w'=>w'.cell? ⟨w.heap.size,1,none⟩=some (.int .i64 (A:Int))∧w'.cell? ⟨w.heap.size,2,none⟩=some (.int .i64 (B:Int))∧w'.cell? ⟨w.heap.size,4,none⟩=some (.int .i64 (N:Int))) (by kernel_rfl) (by go_keep) (fun hHeld=>?_);refine tk 0 (.pointer (some ⟨C.P,0,none⟩)) rfl ?_;(try go_simp);refine tk 1 (.pointer (some ⟨w.heap.size,1,none⟩)) rfl ?_;(try go_simp);refine tk 2 (.int .i64 ((A:Int))) rfl ?_;(try go_simp);refine tk 3 (.pointer (some ⟨C.P,0,none⟩)) rfl ?_;(try go_simp);refine tk 4 (.pointer (some ⟨C.P,0,none⟩)) rfl ?_;(try go_simp);refine tk 5 (.pointer (some ⟨w.heap.size,2,none⟩)) rfl ?_;(try go_simp);refine tk 6 (.int .i64 ((B:Int))) rfl ?_;(try go_simp);refine tk 7 (.pointer (some ⟨C.P,0,none⟩)) rfl ?_;(try go_simp);refine tk 8 (.pointer (some ⟨C.P,10,none⟩)) rfl ?_;(try go_simp);refine tk 9 (.pointer (some ⟨C.P,10+B,none⟩)) rfl ?_;(try go_simp);refine tk 11 (.pointer (some ⟨w.heap.size,4,none⟩)) rfl ?_;(try go_simp);refine tk 12 (.int .i64 ((N:Int))) rfl ?_;(try go_simp);refine tk 16 (.pointer (some ⟨C.P,0,none⟩)) rfl ?_;(try go_simp);refine tk 17 (.pointer (some ⟨C.P,10,none⟩)) rfl ?_;(try go_simp);refine rd1 10 rfl fun K hK=>?_;go_simp;refine hK.out _ _ ?_ (fun hHeld=>?_)
  ·first|assumption|(go_keep;done)
  clear hK K;(try go_simp);refine rd1 13 rfl fun K hK=>?_;refine step_callP rfl 137 en_doGetF _ _ rfl [.pointer (some ⟨C.P,0,none⟩),.int .i64 (s.rg B),.int .i64 (N:Int)] rfl (fun _ _=>False) (fun ch w'=>ch=[{ v:=.iface 118 (.agg #[.int .i64 7,.int .i64 0]),recovered:=false }]∧Q (.panicked [{ v:=.iface 118 (.agg #[.int .i64 7,.int .i64 0]),recovered:=false }]) w') ((HL.out _ (later_ad _ _)).mono (fun e1 w1 hq=>by obtain⟨rfl,hx⟩:=hq;exact Or.inr ⟨_,rfl,rfl,HZ.out _ _ ⟨rfl,hx⟩⟩)) ?_ ?_
  ·intro ch w2 hp;obtain⟨rfl,hp⟩:=hp;first|exact⟨rfl,hp⟩|(go_simp;exact⟨rfl,hp⟩)
  ·intro u2 w2 hf;exact hf.elim
 | some a =>
  obtain rfl:=h1 a hl;clear h0 h1
  have HL:Hid (∀ w',Later w w'→Calls Tryz.prog 137 #[.pointer (some ⟨C.P,0,none⟩),.int .i64 (s.rg B),.int .i64 (N:Int)] w' (fun e w''=>∃ v,e=.returned v∧v=wordP C a∧Later w' w'')):=fun w' l=>by
   have:=ifld_any hC (h.kept l) hI (s.rg B) N hN;rw[hl]at this;exact this.mono (fun e w'' q=>⟨_,q.1,rfl,q.2⟩)
  have haN:a<C.N:=by
   have hCN:=hC.hN;have hC4:=hC.h4;obtain⟨ho,rfl,hk⟩:=Vm.fld_ok (x:=C.x) (by omega) hl;obtain⟨_,hfr,_,_⟩:=hI.obj hC.xi ho;have hfe:=hI.fe;have hu:=hI.u;omega
  have HF:Hid (∀ w',Later w w'→(w'.cell? ⟨C.P,10+A,none⟩=some (.int .i64 (s.rg A))∧w'.frozen? ⟨C.P,10+A,none⟩=false)∧w'.cell? ⟨C.WB,a,none⟩=some (.int .i64 (s.W a))∧True):=fun w' l=>⟨(h.kept l).reg hA,((h.kept l).word haN).1,trivial⟩
  have HZ:Hid (∀ w',Later w w'→StQ C ov (.go (s.set (A:Int) (s.W a))) unitE (w'.setCell ⟨C.P,10+A,none⟩ (.int .i64 (s.W a)))):=fun w' l=>st_go ((h.kept l).setReg hC hA _) (Later.refl _)
  generalize StQ C ov (.go (s.set (A:Int) (s.W a)))=Q at *
  have HB0:Hid (∀ k v,(#[.int .i64 op,.int .i64 (A:Int),.int .i64 (B:Int),.int .i64 c,.int .i64 (N:Int)]:Array Value)[k]?=some v→(w.alloc (Obj.cells #[.int .i64 op,.int .i64 (A:Int),.int .i64 (B:Int),.int .i64 c,.int .i64 (N:Int)] 97)).drew.cell? ⟨w.heap.size,k,none⟩=some v):=fun k v hk=>box_at w _ hk
  have HBx:Hid (∀ w',Later (w.alloc (Obj.cells #[.int .i64 op,.int .i64 (A:Int),.int .i64 (B:Int),.int .i64 c,.int .i64 (N:Int)] 97)).drew w'→w'.cell? ⟨w.heap.size,1,none⟩=some (.int .i64 (A:Int))∧w'.cell? ⟨w.heap.size,2,none⟩=some (.int .i64 (B:Int))∧w'.cell? ⟨w.heap.size,4,none⟩=some (.int .i64 (N:Int))):=fun w' l=>⟨(Below.cell l (p:=⟨w.heap.size,1,none⟩) (box_lt w _)).trans (HB0.out 1 _ rfl),(Below.cell l (p:=⟨w.heap.size,2,none⟩) (box_lt w _)).trans (HB0.out 2 _ rfl),(Below.cell l (p:=⟨w.heap.size,4,none⟩) (box_lt w _)).trans (HB0.out 4 _ rfl)⟩
  have HBs:Hid (∀ w' bq oq vq,bq≠w.heap.size→Later (w.alloc (Obj.cells #[.int .i64 op,.int .i64 (A:Int),.int .i64 (B:Int),.int .i64 c,.int .i64 (N:Int)] 97)).drew w'→(w'.setCell ⟨bq,oq,none⟩ vq).cell? ⟨w.heap.size,1,none⟩=some (.int .i64 (A:Int))∧(w'.setCell ⟨bq,oq,none⟩ vq).cell? ⟨w.heap.size,2,none⟩=some (.int .i64 (B:Int))∧(w'.setCell ⟨bq,oq,none⟩ vq).cell? ⟨w.heap.size,4,none⟩=some (.int .i64 (N:Int))):=fun w' bq oq vq hb l=>⟨(set_far' hb).trans (HBx.out _ l).1,(set_far' hb).trans (HBx.out _ l).2.1,(set_far' hb).trans (HBx.out _ l).2.2⟩
  clear HB0;clear h hI hl;unfold unitE at HZ;unfold wordP at HL;go_enter Tryz.func102,Tryz.ntmps102;go_wp2_with fail
  refine wp_region_held_drew (S:=fun w'=>w'.cell? ⟨w.heap.size,1,none⟩=some (.int .i64 (A:Int))∧w'.cell? ⟨w.heap.size,2,none⟩=some (.int .i64 (B:Int))∧w'.cell? ⟨w.heap.size,4,none⟩=some (.int .i64 (N:Int))) (by kernel_rfl) (by go_keep) (fun hHeld=>?_);refine tk 0 (.pointer (some ⟨C.P,0,none⟩)) rfl ?_;(try go_simp);refine tk 1 (.pointer (some ⟨w.heap.size,1,none⟩)) rfl ?_;(try go_simp);refine tk 2 (.int .i64 ((A:Int))) rfl ?_;(try go_simp);refine tk 3 (.pointer (some ⟨C.P,0,none⟩)) rfl ?_;(try go_simp);refine tk 4 (.pointer (some ⟨C.P,0,none⟩)) rfl ?_;(try go_simp);refine tk 5 (.pointer (some ⟨w.heap.size,2,none⟩)) rfl ?_;(try go_simp);refine tk 6 (.int .i64 ((B:Int))) rfl ?_;(try go_simp);refine tk 7 (.pointer (some ⟨C.P,0,none⟩)) rfl ?_;(try go_simp);refine tk 8 (.pointer (some ⟨C.P,10,none⟩)) rfl ?_;(try go_simp);refine tk 9 (.pointer (some ⟨C.P,10+B,none⟩)) rfl ?_;(try go_simp);refine tk 11 (.pointer (some ⟨w.heap.size,4,none⟩)) rfl ?_;(try go_simp);refine tk 12 (.int .i64 ((N:Int))) rfl ?_;(try go_simp);refine tk 16 (.pointer (some ⟨C.P,0,none⟩)) rfl ?_;(try go_simp);refine tk 17 (.pointer (some ⟨C.P,10,none⟩)) rfl ?_;(try go_simp);refine rd1 10 rfl fun K hK=>?_;go_simp;refine hK.out _ _ ?_ (fun hHeld=>?_)
  ·first|assumption|(go_keep;done)|exact HBx.out _ l2|exact HBs.out _ _ _ _ hP l2|exact HBs.out _ _ _ _ hW l2
  clear hK K;(try go_simp);refine rd1 13 rfl fun K hK=>?_;refine step_call rfl 137 en_doGetF _ _ rfl [.pointer (some ⟨C.P,0,none⟩),.int .i64 (s.rg B),.int .i64 (N:Int)] rfl (fun v w'=>v=.pointer (some ⟨C.WB,a,none⟩)∧Later (w.alloc (Obj.cells #[.int .i64 op,.int .i64 (A:Int),.int .i64 (B:Int),.int .i64 c,.int .i64 (N:Int)] 97)).drew w') (HL.out _ (later_ad _ _)) ?_;intro u2 w2 hc2;obtain⟨rfl,l2⟩:=hc2;have l2':Later w w2:=(later_ad _ _).trans l2;have hf2:=HF.out w2 l2';obtain⟨⟨f1,f2⟩,f3,_⟩:=hf2;refine hK.out _ _ ?_ (fun hHeld=>?_)
  ·first|assumption|(go_keep;done)|exact HBx.out _ l2|exact HBs.out _ _ _ _ hP l2|exact HBs.out _ _ _ _ hW l2
  clear hK K;(try go_simp);refine tk 14 (.pointer (some ⟨C.WB,a,none⟩)) rfl ?_;(try go_simp);refine rd1 15 rfl fun K hK=>?_;go_simp;refine hK.out _ _ ?_ (fun hHeld=>?_)
  ·first|assumption|(go_keep;done)|exact HBx.out _ l2|exact HBs.out _ _ _ _ hP l2|exact HBs.out _ _ _ _ hW l2
  clear hK K;(try go_simp);refine tk 18 (.pointer (some ⟨C.P,10+A,none⟩)) rfl ?_;(try go_simp);refine rd1 19 rfl fun K hK=>?_;go_simp;refine hK.out _ _ ?_ (fun hHeld=>?_)
  ·first|assumption|(go_keep;done)|exact HBx.out _ l2|exact HBs.out _ _ _ _ hP l2|exact HBs.out _ _ _ _ hW l2
  clear hK K;(try go_simp);refine wpAnyH_done (by kernel_rfl) ?_ _;go_wp2_with fail
  go_end0;exact HZ.out _ l2'
theorem en_doGetE:Enters Tryz.prog 138:=enters_of Tryz.func138 (by kernel_rfl) (by kernel_rfl)
theorem doGetE_any {C:Cx}(hC:CxI C) {w:World}{s:Vm}{iv ov rv:Value}(h:Pv C w s (s.top C.x) (codeP C s.fn) iv ov rv) (hI:Iv C.x C.H s) {A B D:Nat}(hA:A<16) (hB:B<16) (hD:D<16) (op n:Int) (r:St) (h0:s.elm C.H (s.rg B) (s.rg D)=none→r=.fin 7 0 s) (h1:∀ a,s.elm C.H (s.rg B) (s.rg D)=some a→r=.go (s.set (A:Int) (s.W a))) :
  Calls Tryz.prog 104 #[.pointer (some ⟨C.P,0,none⟩),.agg #[.int .i64 op,.int .i64 (A:Int),.int .i64 (B:Int),.int .i64 (D:Int),.int .i64 n]] w (StQ C ov r):=by
 obtain⟨crA,zrA⟩:=h.reg hA;have iA:(A:Int)<16:=by omega
 obtain⟨crB,zrB⟩:=h.reg hB;have iB:(B:Int)<16:=by omega
 obtain⟨crD,zrD⟩:=h.reg hD;have iD:(D:Int)<16:=by omega
 have hlt:=h.box.lt;have hlt2:=h.wd.lt;have hlt3:=h.pp.lt;have hP:¬ C.P=w.heap.size:=by omega
 have hW:¬ C.WB=w.heap.size:=by omega
 cases hl:s.elm C.H (s.rg B) (s.rg D) with
 | none =>
  obtain rfl:=h0 hl;clear h0 h1
  have HL:Hid (∀ w',Later w w'→Calls Tryz.prog 138 #[.pointer (some ⟨C.P,0,none⟩),.int .i64 (s.rg B),.int .i64 (s.rg D)] w' (PanQ C s ov 7 0)):=fun w' l=>by
   have:=ielm_any hC (h.kept l) hI (s.rg B) (s.rg D);rw[hl]at this;exact this
  have HZ:Hid (∀ m w',PanQ C s ov 7 0 m w'→StQ C ov (.fin 7 0 s) m w'):=fun _ _ p=>p
  generalize StQ C ov (.fin 7 0 s)=Q at *
  clear h hI hl;go_enter Tryz.func104,Tryz.ntmps104;go_wp2_with fail
  refine wp_region_held_drew (S:=fun w'=>w'.cell? ⟨w.heap.size,1,none⟩=some (.int .i64 (A:Int))∧w'.cell? ⟨w.heap.size,2,none⟩=some (.int .i64 (B:Int))∧w'.cell? ⟨w.heap.size,3,none⟩=some (.int .i64 (D:Int))) (by kernel_rfl) (by go_keep) (fun hHeld=>?_);refine tk 0 (.pointer (some ⟨C.P,0,none⟩)) rfl ?_;(try go_simp);refine tk 1 (.pointer (some ⟨w.heap.size,1,none⟩)) rfl ?_;(try go_simp);refine tk 2 (.int .i64 ((A:Int))) rfl ?_;(try go_simp);refine tk 3 (.pointer (some ⟨C.P,0,none⟩)) rfl ?_;(try go_simp);refine tk 4 (.pointer (some ⟨C.P,0,none⟩)) rfl ?_;(try go_simp);refine tk 5 (.pointer (some ⟨w.heap.size,2,none⟩)) rfl ?_;(try go_simp);refine tk 6 (.int .i64 ((B:Int))) rfl ?_;(try go_simp);refine tk 7 (.pointer (some ⟨C.P,0,none⟩)) rfl ?_;(try go_simp);refine tk 8 (.pointer (some ⟨C.P,10,none⟩)) rfl ?_;(try go_simp);refine tk 9 (.pointer (some ⟨C.P,10+B,none⟩)) rfl ?_;(try go_simp);refine tk 11 (.pointer (some ⟨C.P,0,none⟩)) rfl ?_;(try go_simp);refine tk 12 (.pointer (some ⟨w.heap.size,3,none⟩)) rfl ?_;(try go_simp);refine tk 13 (.int .i64 ((D:Int))) rfl ?_;(try go_simp);refine tk 14 (.pointer (some ⟨C.P,0,none⟩)) rfl ?_;(try go_simp);refine tk 15 (.pointer (some ⟨C.P,10,none⟩)) rfl ?_;(try go_simp);refine tk 16 (.pointer (some ⟨C.P,10+D,none⟩)) rfl ?_;(try go_simp);refine tk 21 (.pointer (some ⟨C.P,0,none⟩)) rfl ?_;(try go_simp);refine tk 22 (.pointer (some ⟨C.P,10,none⟩)) rfl ?_;(try go_simp);refine wpAnyH_ready (rs:=[10,17]) (by kernel_rfl) (by simp) ?_;refine (AllReadyH.cons rfl (fun K hK=>?_) (AllReadyH.cons rfl (fun K hK=>?_) AllReadyH.nil))
  ·go_simp;refine hK.out _ _ ?_ (fun hHeld=>?_)
   ·first|assumption|(go_keep;done)
   clear hK K;(try go_simp);refine rd1 17 rfl fun K hK=>?_;go_simp;refine hK.out _ _ ?_ (fun hHeld=>?_)
   ·first|assumption|(go_keep;done)
   clear hK K;(try go_simp);refine rd1 18 rfl fun K hK=>?_;refine step_callP rfl 138 en_doGetE _ _ rfl [.pointer (some ⟨C.P,0,none⟩),.int .i64 (s.rg B),.int .i64 (s.rg D)] rfl (fun _ _=>False) (fun ch w'=>ch=[{ v:=.iface 118 (.agg #[.int .i64 7,.int .i64 0]),recovered:=false }]∧Q (.panicked [{ v:=.iface 118 (.agg #[.int .i64 7,.int .i64 0]),recovered:=false }]) w') ((HL.out _ (later_ad _ _)).mono (fun e1 w1 hq=>by obtain⟨rfl,hx⟩:=hq;exact Or.inr ⟨_,rfl,rfl,HZ.out _ _ ⟨rfl,hx⟩⟩)) ?_ ?_
   ·intro ch w2 hp;obtain⟨rfl,hp⟩:=hp;first|exact⟨rfl,hp⟩|(go_simp;exact⟨rfl,hp⟩)
   ·intro u2 w2 hf;exact hf.elim
  ·go_simp;refine hK.out _ _ ?_ (fun hHeld=>?_)
   ·first|assumption|(go_keep;done)
   clear hK K;(try go_simp);refine rd1 10 rfl fun K hK=>?_;go_simp;refine hK.out _ _ ?_ (fun hHeld=>?_)
   ·first|assumption|(go_keep;done)
   clear hK K;(try go_simp);refine rd1 18 rfl fun K hK=>?_;refine step_callP rfl 138 en_doGetE _ _ rfl [.pointer (some ⟨C.P,0,none⟩),.int .i64 (s.rg B),.int .i64 (s.rg D)] rfl (fun _ _=>False) (fun ch w'=>ch=[{ v:=.iface 118 (.agg #[.int .i64 7,.int .i64 0]),recovered:=false }]∧Q (.panicked [{ v:=.iface 118 (.agg #[.int .i64 7,.int .i64 0]),recovered:=false }]) w') ((HL.out _ (later_ad _ _)).mono (fun e1 w1 hq=>by obtain⟨rfl,hx⟩:=hq;exact Or.inr ⟨_,rfl,rfl,HZ.out _ _ ⟨rfl,hx⟩⟩)) ?_ ?_
   ·intro ch w2 hp;obtain⟨rfl,hp⟩:=hp;first|exact⟨rfl,hp⟩|(go_simp;exact⟨rfl,hp⟩)
   ·intro u2 w2 hf;exact hf.elim
 | some a =>
  obtain rfl:=h1 a hl;clear h0 h1
  have HL:Hid (∀ w',Later w w'→Calls Tryz.prog 138 #[.pointer (some ⟨C.P,0,none⟩),.int .i64 (s.rg B),.int .i64 (s.rg D)] w' (fun e w''=>∃ v,e=.returned v∧v=wordP C a∧Later w' w'')):=fun w' l=>by
   have:=ielm_any hC (h.kept l) hI (s.rg B) (s.rg D);rw[hl]at this;exact this.mono (fun e w'' q=>⟨_,q.1,rfl,q.2⟩)
  have haN:a<C.N:=by
   have hCN:=hC.hN;have hC4:=hC.h4;obtain⟨ho,rfl,hk⟩:=Vm.elm_ok (x:=C.x) hl;obtain⟨_,hfr,_,_⟩:=hI.obj hC.xi ho;have hfe:=hI.fe;have hu:=hI.u;omega
  have HF:Hid (∀ w',Later w w'→(w'.cell? ⟨C.P,10+A,none⟩=some (.int .i64 (s.rg A))∧w'.frozen? ⟨C.P,10+A,none⟩=false)∧w'.cell? ⟨C.WB,a,none⟩=some (.int .i64 (s.W a))∧True):=fun w' l=>⟨(h.kept l).reg hA,((h.kept l).word haN).1,trivial⟩
  have HZ:Hid (∀ w',Later w w'→StQ C ov (.go (s.set (A:Int) (s.W a))) unitE (w'.setCell ⟨C.P,10+A,none⟩ (.int .i64 (s.W a)))):=fun w' l=>st_go ((h.kept l).setReg hC hA _) (Later.refl _)
  generalize StQ C ov (.go (s.set (A:Int) (s.W a)))=Q at *
  have HB0:Hid (∀ k v,(#[.int .i64 op,.int .i64 (A:Int),.int .i64 (B:Int),.int .i64 (D:Int),.int .i64 n]:Array Value)[k]?=some v→(w.alloc (Obj.cells #[.int .i64 op,.int .i64 (A:Int),.int .i64 (B:Int),.int .i64 (D:Int),.int .i64 n] 97)).drew.cell? ⟨w.heap.size,k,none⟩=some v):=fun k v hk=>box_at w _ hk
  have HBx:Hid (∀ w',Later (w.alloc (Obj.cells #[.int .i64 op,.int .i64 (A:Int),.int .i64 (B:Int),.int .i64 (D:Int),.int .i64 n] 97)).drew w'→w'.cell? ⟨w.heap.size,1,none⟩=some (.int .i64 (A:Int))∧w'.cell? ⟨w.heap.size,2,none⟩=some (.int .i64 (B:Int))∧w'.cell? ⟨w.heap.size,3,none⟩=some (.int .i64 (D:Int))):=fun w' l=>⟨(Below.cell l (p:=⟨w.heap.size,1,none⟩) (box_lt w _)).trans (HB0.out 1 _ rfl),(Below.cell l (p:=⟨w.heap.size,2,none⟩) (box_lt w _)).trans (HB0.out 2 _ rfl),(Below.cell l (p:=⟨w.heap.size,3,none⟩) (box_lt w _)).trans (HB0.out 3 _ rfl)⟩
  have HBs:Hid (∀ w' bq oq vq,bq≠w.heap.size→Later (w.alloc (Obj.cells #[.int .i64 op,.int .i64 (A:Int),.int .i64 (B:Int),.int .i64 (D:Int),.int .i64 n] 97)).drew w'→(w'.setCell ⟨bq,oq,none⟩ vq).cell? ⟨w.heap.size,1,none⟩=some (.int .i64 (A:Int))∧(w'.setCell ⟨bq,oq,none⟩ vq).cell? ⟨w.heap.size,2,none⟩=some (.int .i64 (B:Int))∧(w'.setCell ⟨bq,oq,none⟩ vq).cell? ⟨w.heap.size,3,none⟩=some (.int .i64 (D:Int))):=fun w' bq oq vq hb l=>⟨(set_far' hb).trans (HBx.out _ l).1,(set_far' hb).trans (HBx.out _ l).2.1,(set_far' hb).trans (HBx.out _ l).2.2⟩
  clear HB0;clear h hI hl;unfold unitE at HZ;unfold wordP at HL;go_enter Tryz.func104,Tryz.ntmps104;go_wp2_with fail
  refine wp_region_held_drew (S:=fun w'=>w'.cell? ⟨w.heap.size,1,none⟩=some (.int .i64 (A:Int))∧w'.cell? ⟨w.heap.size,2,none⟩=some (.int .i64 (B:Int))∧w'.cell? ⟨w.heap.size,3,none⟩=some (.int .i64 (D:Int))) (by kernel_rfl) (by go_keep) (fun hHeld=>?_);refine tk 0 (.pointer (some ⟨C.P,0,none⟩)) rfl ?_;(try go_simp);refine tk 1 (.pointer (some ⟨w.heap.size,1,none⟩)) rfl ?_;(try go_simp);refine tk 2 (.int .i64 ((A:Int))) rfl ?_;(try go_simp);refine tk 3 (.pointer (some ⟨C.P,0,none⟩)) rfl ?_;(try go_simp);refine tk 4 (.pointer (some ⟨C.P,0,none⟩)) rfl ?_;(try go_simp);refine tk 5 (.pointer (some ⟨w.heap.size,2,none⟩)) rfl ?_;(try go_simp);refine tk 6 (.int .i64 ((B:Int))) rfl ?_;(try go_simp);refine tk 7 (.pointer (some ⟨C.P,0,none⟩)) rfl ?_;(try go_simp);refine tk 8 (.pointer (some ⟨C.P,10,none⟩)) rfl ?_;(try go_simp);refine tk 9 (.pointer (some ⟨C.P,10+B,none⟩)) rfl ?_;(try go_simp);refine tk 11 (.pointer (some ⟨C.P,0,none⟩)) rfl ?_;(try go_simp);refine tk 12 (.pointer (some ⟨w.heap.size,3,none⟩)) rfl ?_;(try go_simp);refine tk 13 (.int .i64 ((D:Int))) rfl ?_;(try go_simp);refine tk 14 (.pointer (some ⟨C.P,0,none⟩)) rfl ?_;(try go_simp);refine tk 15 (.pointer (some ⟨C.P,10,none⟩)) rfl ?_;(try go_simp);refine tk 16 (.pointer (some ⟨C.P,10+D,none⟩)) rfl ?_;(try go_simp);refine tk 21 (.pointer (some ⟨C.P,0,none⟩)) rfl ?_;(try go_simp);refine tk 22 (.pointer (some ⟨C.P,10,none⟩)) rfl ?_;(try go_simp);refine wpAnyH_ready (rs:=[10,17]) (by kernel_rfl) (by simp) ?_;refine (AllReadyH.cons rfl (fun K hK=>?_) (AllReadyH.cons rfl (fun K hK=>?_) AllReadyH.nil))
  ·go_simp;refine hK.out _ _ ?_ (fun hHeld=>?_)
   ·first|assumption|(go_keep;done)|exact HBx.out _ l2|exact HBs.out _ _ _ _ hP l2|exact HBs.out _ _ _ _ hW l2
   clear hK K;(try go_simp);refine rd1 17 rfl fun K hK=>?_;go_simp;refine hK.out _ _ ?_ (fun hHeld=>?_)
   ·first|assumption|(go_keep;done)|exact HBx.out _ l2|exact HBs.out _ _ _ _ hP l2|exact HBs.out _ _ _ _ hW l2
   clear hK K;(try go_simp);refine rd1 18 rfl fun K hK=>?_;refine step_call rfl 138 en_doGetE _ _ rfl [.pointer (some ⟨C.P,0,none⟩),.int .i64 (s.rg B),.int .i64 (s.rg D)] rfl (fun v w'=>v=.pointer (some ⟨C.WB,a,none⟩)∧Later (w.alloc (Obj.cells #[.int .i64 op,.int .i64 (A:Int),.int .i64 (B:Int),.int .i64 (D:Int),.int .i64 n] 97)).drew w') (HL.out _ (later_ad _ _)) ?_;intro u2 w2 hc2;obtain⟨rfl,l2⟩:=hc2;have l2':Later w w2:=(later_ad _ _).trans l2;have hf2:=HF.out w2 l2';obtain⟨⟨f1,f2⟩,f3,_⟩:=hf2;refine hK.out _ _ ?_ (fun hHeld=>?_)
   ·first|assumption|(go_keep;done)|exact HBx.out _ l2|exact HBs.out _ _ _ _ hP l2|exact HBs.out _ _ _ _ hW l2
   clear hK K;(try go_simp);refine tk 19 (.pointer (some ⟨C.WB,a,none⟩)) rfl ?_;(try go_simp);refine rd1 20 rfl fun K hK=>?_;go_simp;refine hK.out _ _ ?_ (fun hHeld=>?_)
   ·first|assumption|(go_keep;done)|exact HBx.out _ l2|exact HBs.out _ _ _ _ hP l2|exact HBs.out _ _ _ _ hW l2
   clear hK K;(try go_simp);refine tk 23 (.pointer (some ⟨C.P,10+A,none⟩)) rfl ?_;(try go_simp);refine rd1 24 rfl fun K hK=>?_;go_simp;refine hK.out _ _ ?_ (fun hHeld=>?_)
   ·first|assumption|(go_keep;done)|exact HBx.out _ l2|exact HBs.out _ _ _ _ hP l2|exact HBs.out _ _ _ _ hW l2
   clear hK K;(try go_simp);refine wpAnyH_done (by kernel_rfl) ?_ _;go_wp2_with fail
   go_end0;exact HZ.out _ l2'
  ·go_simp;refine hK.out _ _ ?_ (fun hHeld=>?_)
   ·first|assumption|(go_keep;done)|exact HBx.out _ l2|exact HBs.out _ _ _ _ hP l2|exact HBs.out _ _ _ _ hW l2
   clear hK K;(try go_simp);refine rd1 10 rfl fun K hK=>?_;go_simp;refine hK.out _ _ ?_ (fun hHeld=>?_)
   ·first|assumption|(go_keep;done)|exact HBx.out _ l2|exact HBs.out _ _ _ _ hP l2|exact HBs.out _ _ _ _ hW l2
   clear hK K;(try go_simp);refine rd1 18 rfl fun K hK=>?_;refine step_call rfl 138 en_doGetE _ _ rfl [.pointer (some ⟨C.P,0,none⟩),.int .i64 (s.rg B),.int .i64 (s.rg D)] rfl (fun v w'=>v=.pointer (some ⟨C.WB,a,none⟩)∧Later (w.alloc (Obj.cells #[.int .i64 op,.int .i64 (A:Int),.int .i64 (B:Int),.int .i64 (D:Int),.int .i64 n] 97)).drew w') (HL.out _ (later_ad _ _)) ?_;intro u2 w2 hc2;obtain⟨rfl,l2⟩:=hc2;have l2':Later w w2:=(later_ad _ _).trans l2;have hf2:=HF.out w2 l2';obtain⟨⟨f1,f2⟩,f3,_⟩:=hf2;refine hK.out _ _ ?_ (fun hHeld=>?_)
   ·first|assumption|(go_keep;done)|exact HBx.out _ l2|exact HBs.out _ _ _ _ hP l2|exact HBs.out _ _ _ _ hW l2
   clear hK K;(try go_simp);refine tk 19 (.pointer (some ⟨C.WB,a,none⟩)) rfl ?_;(try go_simp);refine rd1 20 rfl fun K hK=>?_;go_simp;refine hK.out _ _ ?_ (fun hHeld=>?_)
   ·first|assumption|(go_keep;done)|exact HBx.out _ l2|exact HBs.out _ _ _ _ hP l2|exact HBs.out _ _ _ _ hW l2
   clear hK K;(try go_simp);refine tk 23 (.pointer (some ⟨C.P,10+A,none⟩)) rfl ?_;(try go_simp);refine rd1 24 rfl fun K hK=>?_;go_simp;refine hK.out _ _ ?_ (fun hHeld=>?_)
   ·first|assumption|(go_keep;done)|exact HBx.out _ l2|exact HBs.out _ _ _ _ hP l2|exact HBs.out _ _ _ _ hW l2
   clear hK K;(try go_simp);refine wpAnyH_done (by kernel_rfl) ?_ _;go_wp2_with fail
   go_end0;exact HZ.out _ l2'
end Go.Proofs.YtjnpncefkigcbaaGreat
