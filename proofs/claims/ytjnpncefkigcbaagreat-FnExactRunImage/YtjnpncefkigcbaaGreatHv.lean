import Derived.Test.YtjnpncefkigcbaaGreatHu
set_option maxHeartbeats 100000000
set_option maxRecDepth 100000
namespace Go.Proofs.YtjnpncefkigcbaaGreat
open Go.RowKit Go.Lib Go.Maps
theorem doMake_any {C:Cx}(hC:CxI C) (hMV:IMove C) {w:World}{s:Vm}{iv ov rv:Value}(h:Pv C w s (s.top C.x) (codeP C s.fn) iv ov rv) (hI:Iv C.x C.H s) (hs:SafeAt C.x s.fn ((s.pc:Int) - 1)) (hpc:s.pc≤6000) (hmv:s.moves≤999990) {A B N:Nat}(hA:A<16) (hB:B<16) (hN:N≤2) (op c:Int) (r:St) (h0:¬ (0≤s.rg B∧s.rg B≤100)→r=.fin 7 0 s) (h1:∀ k K:Nat,s.rg B=(k:Int)→K=k*8+1+N→k≤100→r=s.take C.x C.H (K:Int) k A) :
  Calls Tryz.prog 100 #[.pointer (some ⟨C.P,0,none⟩),.agg #[.int .i64 op,.int .i64 (A:Int),.int .i64 (B:Int),.int .i64 c,.int .i64 (N:Int)]] w (StQ C ov r):=by
 obtain⟨crA,zrA⟩:=h.reg hA;have iA:(A:Int)<16:=by omega
 obtain⟨crB,zrB⟩:=h.reg hB;have iB:(B:Int)<16:=by omega
 have hlt:=h.box.lt;have hlt2:=h.wd.lt;have hlt3:=h.pp.lt;have hP:¬ C.P=w.heap.size:=by omega
 have hW:¬ C.WB=w.heap.size:=by omega
 have hPb:¬ C.PB=w.heap.size:=by omega
 have lA:Later w (w.alloc (Obj.cells #[.int .i64 op,.int .i64 (A:Int),.int .i64 (B:Int),.int .i64 c,.int .i64 (N:Int)] 97)):=later_a _ _;by_cases hout:¬ (0≤s.rg B∧s.rg B≤100)
 ·obtain rfl:=h0 hout;have hpb:plB (s.rg B) 101=false:=by unfold plB;simp only[Bool.and_eq_false_iff,decide_eq_false_iff_not];omega
  have HZ:Hid (∀ w',Later w w'→StQ C ov (.fin 7 0 s) (finP 7 0) w'):=fun w' l=>⟨rfl,s,_,_,iv,rv,h.kept l,rfl,rfl,rfl,rfl⟩
  generalize StQ C ov (.fin 7 0 s)=Q at *
  clear h hI hs h0 h1 hout
  generalize s.rg B=zB at *
  go_enter Tryz.func100,Tryz.ntmps100;go_wp2_with fail
  go_quiet (fail)
  go_wp2_with fail
  refine (maysize_b hpb _).mono ?_;rintro e1 w1 ⟨rfl,rfl⟩;go_wp2_with fail
  refine (stuck_no _).mono ?_;rintro n2 w2 ⟨rfl,l2⟩;have HP:=HZ.out w2 ((later_an _ _ _).trans l2);clear HZ;unfold finP at HP ⊢;go_wp2_with fail
  exact⟨rfl,HP⟩
 have hin:0≤s.rg B∧s.rg B≤100:=Decidable.not_not.1 hout;clear hout;have hpb:plB (s.rg B) 101=true:=by unfold plB;simp;omega
 obtain⟨k,hk⟩:∃ k:Nat,s.rg B=(k:Int):=⟨(s.rg B).toNat,by omega⟩
 obtain⟨K1,hK1⟩:∃ K1,K1=k*8:=⟨_,rfl⟩
 obtain⟨K2,hK2⟩:∃ K2,K2=k*8+1:=⟨_,rfl⟩
 obtain⟨K3,hK3⟩:∃ K3,K3=k*8+1+N:=⟨_,rfl⟩
 have hk100:k≤100:=by omega
 obtain rfl:=h1 k K3 hk hK3 hk100;have HTk:=fun w' l=>itake_any hC hMV (w:=w') (h.kept l) hI hs hpc hmv (hd:=(K3:Int)) (n:=k) (by omega);rw[hk]at crB hpb;have q1:(k:Int)*8=(K1:Int):=by omega
 have q2:(K1:Int)+1=(K2:Int):=by omega
 have q3:(K2:Int)+(N:Int)=(K3:Int):=by omega
 have q4:IntKind.i64.wrap (K1:Int)=(K1:Int):=by rw[IntKind.wrap_i64];omega
 have q5:IntKind.i64.wrap (K2:Int)=(K2:Int):=by rw[IntKind.wrap_i64];omega
 have q6:IntKind.i64.wrap (K3:Int)=(K3:Int):=by rw[IntKind.wrap_i64];omega
 clear h0 h1 hin hk hK1 hK2 hK3;rw[take_rdy];have HB0:Hid (∀ k v,(#[.int .i64 op,.int .i64 (A:Int),.int .i64 (B:Int),.int .i64 c,.int .i64 (N:Int)]:Array Value)[k]?=some v→(w.alloc (Obj.cells #[.int .i64 op,.int .i64 (A:Int),.int .i64 (B:Int),.int .i64 c,.int .i64 (N:Int)] 97)).cell? ⟨w.heap.size,k,none⟩=some v):=fun k v hk=>box_at' w _ hk
 have HBx:Hid (∀ w',OnlyM C (w.alloc (Obj.cells #[.int .i64 op,.int .i64 (A:Int),.int .i64 (B:Int),.int .i64 c,.int .i64 (N:Int)] 97)) w'→w'.cell? ⟨w.heap.size,1,none⟩=some (.int .i64 (A:Int))∧w'.cell? ⟨w.heap.size,4,none⟩=some (.int .i64 (N:Int))):=fun w' l=>⟨box_only l (box_lt' w _) (by omega) (by omega) (by omega) (HB0.out 1 _ rfl),box_only l (box_lt' w _) (by omega) (by omega) (by omega) (HB0.out 4 _ rfl)⟩
 have HBs:Hid (∀ w' bq oq vq,bq≠w.heap.size→OnlyM C (w.alloc (Obj.cells #[.int .i64 op,.int .i64 (A:Int),.int .i64 (B:Int),.int .i64 c,.int .i64 (N:Int)] 97)) w'→(w'.setCell ⟨bq,oq,none⟩ vq).cell? ⟨w.heap.size,1,none⟩=some (.int .i64 (A:Int))∧(w'.setCell ⟨bq,oq,none⟩ vq).cell? ⟨w.heap.size,4,none⟩=some (.int .i64 (N:Int))):=fun w' bq oq vq hb l=>⟨(set_far' hb).trans (HBx.out _ l).1,(set_far' hb).trans (HBx.out _ l).2⟩
 clear HB0
 cases hr:s.rdy C.x C.H k with
 | fin ea ec t =>
  have HL:Hid (∀ w',Later w w'→Calls Tryz.prog 135 #[.pointer (some ⟨C.P,0,none⟩),.int .i64 (K3:Int),.int .i64 (k:Int)] w' (PanQ C t ov ea ec)):=fun w' l=>by
   have:=HTk w' l;unfold TakeQ at this;rw[hr]at this;exact this
  have HZ:Hid (∀ m w',PanQ C t ov ea ec m w'→StQ C ov (.fin ea ec t) m w'):=fun _ _ p=>p;show Calls _ _ _ _ (StQ C ov (.fin ea ec t))
  generalize StQ C ov (.fin ea ec t)=Q at *
  clear h hI hr HTk hs;go_enter Tryz.func100,Tryz.ntmps100;go_wp2_with fail
  go_quiet (fail)
  go_wp2_with fail
  refine (maysize_b hpb _).mono ?_;rintro e1 w1 ⟨rfl,rfl⟩;go_wp2_with fail
  refine (stuck_yes _).mono ?_;rintro n2 w2 ⟨rfl,l2⟩;have l2a:Later (w.alloc (Obj.cells #[.int .i64 op,.int .i64 (A:Int),.int .i64 (B:Int),.int .i64 c,.int .i64 (N:Int)] 97)) w2:=(Later.drewN' _ _).trans l2;have l2b:=l2a.trans (Later.drew w2);have hb0:=HBx.out _ (OnlyM.of_later l2b);clear crB crA zrA zrB l2;unfold unitE;go_wp2_with fail
  refine wp_region_held_drew (S:=fun w'=>w'.cell? ⟨w.heap.size,1,none⟩=some (.int .i64 (A:Int))∧w'.cell? ⟨w.heap.size,4,none⟩=some (.int .i64 (N:Int))) (by kernel_rfl) (by first|exact hb0|exact HBx.out _ (OnlyM.of_later l2a)) (fun hHeld=>?_);refine tk 0 (.pointer (some ⟨C.P,0,none⟩)) rfl ?_;(try go_simp);refine tk 1 (.pointer (some ⟨w.heap.size,1,none⟩)) rfl ?_;(try go_simp);refine tk 2 (.int .i64 ((A:Int))) rfl ?_;(try go_simp);refine tk 3 (.pointer (some ⟨C.P,0,none⟩)) rfl ?_;(try go_simp);refine tk 4 (.int .i64 ((k:Int))) rfl ?_;(try go_simp);refine tk 5 (.int .i64 ((K1:Int))) rfl ?_;(try go_simp);refine tk 6 (.int .i64 ((K2:Int))) rfl ?_;(try go_simp);refine tk 7 (.pointer (some ⟨w.heap.size,4,none⟩)) rfl ?_;(try go_simp);refine tk 8 (.int .i64 ((N:Int))) rfl ?_;(try go_simp);refine tk 9 (.int .i64 ((K3:Int))) rfl ?_;(try go_simp);refine tk 10 (.int .i64 ((k:Int))) rfl ?_;(try go_simp);refine tk 12 (.pointer (some ⟨C.P,0,none⟩)) rfl ?_;(try go_simp);refine tk 13 (.pointer (some ⟨C.P,10,none⟩)) rfl ?_;(try go_simp);refine rd1 11 rfl fun K hK=>?_;refine step_callP rfl 135 en_doNew _ _ rfl [.pointer (some ⟨C.P,0,none⟩),.int .i64 (K3:Int),.int .i64 (k:Int)] rfl (fun _ _=>False) (fun ch w'=>ch=[{ v:=.iface 118 (.agg #[.int .i64 ea,.int .i64 ec]),recovered:=false }]∧Q (.panicked [{ v:=.iface 118 (.agg #[.int .i64 ea,.int .i64 ec]),recovered:=false }]) w') ((HL.out _ (lA.trans l2b)).mono (fun e1 w1 hq=>by obtain⟨rfl,hx⟩:=hq;exact Or.inr ⟨_,rfl,rfl,HZ.out _ _ ⟨rfl,hx⟩⟩)) ?_ ?_
  ·intro ch w2 hp;obtain⟨rfl,hp⟩:=hp;first|exact⟨rfl,hp⟩|(go_simp;exact⟨rfl,hp⟩)
  ·intro u2 w2 hf;exact hf.elim
 | go t =>
  have hfp:=rdy_fp hC.xi hI hs hr
  have HL:Hid (∀ w',Later w w'→Calls Tryz.prog 135 #[.pointer (some ⟨C.P,0,none⟩),.int .i64 (K3:Int),.int .i64 (k:Int)] w' (fun e w''=>∃ v,e=.returned v∧v=.int .i64 (t.free:Int)∧∃ rv',Pv C w'' (t.put0 (K3:Int) k) (s.top C.x) (codeP C s.fn) iv ov rv'∧OnlyM C w' w'')):=fun w' l=>by
   have:=HTk w' l;unfold TakeQ at this;rw[hr]at this;exact this.mono (fun e w'' q=>⟨_,q.1,rfl,q.2⟩)
  show Calls _ _ _ _ (StQ C ov (.go (t.put (K3:Int) k A)))
  have HF:Hid (∀ w' rv',Pv C w' (t.put0 (K3:Int) k) (s.top C.x) (codeP C s.fn) iv ov rv'→((∃ u,w'.cell? ⟨C.P,10+A,none⟩=some u)∧w'.frozen? ⟨C.P,10+A,none⟩=false)∧StQ C ov (.go (t.put (K3:Int) k A)) unitE (w'.setCell ⟨C.P,10+A,none⟩ (.int .i64 (t.free:Int)))):=fun w' rv' p=>⟨⟨⟨_,(p.reg hA).1⟩,(p.reg hA).2⟩,put_st hC hA hfp p (Later.refl _)⟩
  generalize StQ C ov (.go (t.put (K3:Int) k A))=Q at *
  clear h hI hr HTk hs hfp;unfold unitE at HF;go_enter Tryz.func100,Tryz.ntmps100;go_wp2_with fail
  go_quiet (fail)
  go_wp2_with fail
  refine (maysize_b hpb _).mono ?_;rintro e1 w1 ⟨rfl,rfl⟩;go_wp2_with fail
  refine (stuck_yes _).mono ?_;rintro n2 w2 ⟨rfl,l2⟩;have l2a:Later (w.alloc (Obj.cells #[.int .i64 op,.int .i64 (A:Int),.int .i64 (B:Int),.int .i64 c,.int .i64 (N:Int)] 97)) w2:=(Later.drewN' _ _).trans l2;have l2b:=l2a.trans (Later.drew w2);have hb0:=HBx.out _ (OnlyM.of_later l2b);clear crB crA zrA zrB l2;unfold unitE;go_wp2_with fail
  refine wp_region_held_drew (S:=fun w'=>w'.cell? ⟨w.heap.size,1,none⟩=some (.int .i64 (A:Int))∧w'.cell? ⟨w.heap.size,4,none⟩=some (.int .i64 (N:Int))) (by kernel_rfl) (by first|exact hb0|exact HBx.out _ (OnlyM.of_later l2a)) (fun hHeld=>?_);refine tk 0 (.pointer (some ⟨C.P,0,none⟩)) rfl ?_;(try go_simp);refine tk 1 (.pointer (some ⟨w.heap.size,1,none⟩)) rfl ?_;(try go_simp);refine tk 2 (.int .i64 ((A:Int))) rfl ?_;(try go_simp);refine tk 3 (.pointer (some ⟨C.P,0,none⟩)) rfl ?_;(try go_simp);refine tk 4 (.int .i64 ((k:Int))) rfl ?_;(try go_simp);refine tk 5 (.int .i64 ((K1:Int))) rfl ?_;(try go_simp);refine tk 6 (.int .i64 ((K2:Int))) rfl ?_;(try go_simp);refine tk 7 (.pointer (some ⟨w.heap.size,4,none⟩)) rfl ?_;(try go_simp);refine tk 8 (.int .i64 ((N:Int))) rfl ?_;(try go_simp);refine tk 9 (.int .i64 ((K3:Int))) rfl ?_;(try go_simp);refine tk 10 (.int .i64 ((k:Int))) rfl ?_;(try go_simp);refine tk 12 (.pointer (some ⟨C.P,0,none⟩)) rfl ?_;(try go_simp);refine tk 13 (.pointer (some ⟨C.P,10,none⟩)) rfl ?_;(try go_simp);refine rd1 11 rfl fun K hK=>?_;refine step_call rfl 135 en_doNew _ _ rfl [.pointer (some ⟨C.P,0,none⟩),.int .i64 (K3:Int),.int .i64 (k:Int)] rfl (fun v w''=>v=.int .i64 (t.free:Int)∧∃ rv',Pv C w'' (t.put0 (K3:Int) k) (s.top C.x) (codeP C s.fn) iv ov rv'∧OnlyM C w2.drew w'') (HL.out _ (lA.trans l2b)) ?_;intro u3 w3 hc3;obtain⟨rfl,rv3,p3,o3⟩:=hc3;obtain⟨⟨⟨uA,f1⟩,f2⟩,HP⟩:=HF.out w3 rv3 p3;have o3a:=(OnlyM.of_later (C:=C) l2b).trans o3;have hb1:=HBx.out _ o3a;have hb2:=HBs.out _ _ (10+A) (.int .i64 (t.free:Int)) hP o3a;clear p3;refine hK.out _ _ ?_ (fun hHeld=>?_)
  ·first|assumption|(go_keep;done)
  clear hK K;(try go_simp);refine tk 14 (.pointer (some ⟨C.P,10+A,none⟩)) rfl ?_;(try go_simp);refine rd1 15 rfl fun K hK=>?_;go_simp;refine hK.out _ _ ?_ (fun hHeld=>?_)
  ·first|assumption|(go_keep;done)
  clear hK K;(try go_simp);refine wpAnyH_done (by kernel_rfl) ?_ _;go_wp2_with fail
  go_end0;exact HP
theorem doNil_any {C:Cx}{w:World}{s:Vm}{iv ov rv:Value}(h:Pv C w s (s.top C.x) (codeP C s.fn) iv ov rv) {A:Nat}(hA:A<16) (b c n:Int) :
  Calls Tryz.prog 101 #[.pointer (some ⟨C.P,0,none⟩),.agg #[.int .i64 12,.int .i64 (A:Int),.int .i64 b,.int .i64 c,.int .i64 n]] w (StQ C ov (if s.rg A=0 then .fin 3 1 s else .go s)):=by
 obtain⟨crA,zrA⟩:=h.reg hA;have iA:(A:Int)<16:=by omega
 have hlt:=h.box.lt;have hP:¬ C.P=w.heap.size:=by omega
 by_cases hz:s.rg A=0
 ·rw[if_pos hz]
  have HZ:Hid (∀ w',Later w w'→StQ C ov (.fin 3 1 s) (finP 3 1) w'):=fun w' l=>⟨rfl,s,_,_,iv,rv,h.kept l,rfl,rfl,rfl,rfl⟩
  generalize StQ C ov (.fin 3 1 s)=Q at *
  rw[hz]at crA;clear h hz;go_enter Tryz.func101,Tryz.ntmps101;go_wp2_with fail
  go_quiet (fail)
  go_wp2_with fail
  refine (must_no 3 1 _).mono ?_;rintro n2 w2 ⟨rfl,l2⟩;have HP:=HZ.out w2 ((later_an _ _ _).trans l2);clear HZ;unfold finP at HP ⊢;go_wp2_with fail
  exact⟨rfl,HP⟩
 ·rw[if_neg hz];have HZ:Hid (∀ w',Later w w'→StQ C ov (.go s) unitE w'):=fun w' l=>st_go h l
  generalize StQ C ov (.go s)=Q at *
  have hne:(s.rg A != 0)=true:=by simp[hz]
  clear h hz;unfold unitE at HZ;go_enter Tryz.func101,Tryz.ntmps101;go_wp2_with fail
  go_quiet (fail)
  go_wp2_with fail
  refine (must_yes 3 1 _).mono ?_;rintro n2 w2 ⟨rfl,l2⟩;have HP:=HZ.out w2 ((later_an _ _ _).trans l2);clear HZ;unfold unitE;go_wp2_with fail
  first|exact HP|(go_end0;exact HP)
theorem doZero_any {C:Cx}{w:World}{s:Vm}{iv ov rv:Value}(h:Pv C w s (s.top C.x) (codeP C s.fn) iv ov rv) {A:Nat}(hA:A<16) (b c n:Int) :
  Calls Tryz.prog 101 #[.pointer (some ⟨C.P,0,none⟩),.agg #[.int .i64 14,.int .i64 (A:Int),.int .i64 b,.int .i64 c,.int .i64 n]] w (StQ C ov (if s.rg A=0 then .fin 3 3 s else .go s)):=by
 obtain⟨crA,zrA⟩:=h.reg hA;have iA:(A:Int)<16:=by omega
 have hlt:=h.box.lt;have hP:¬ C.P=w.heap.size:=by omega
 by_cases hz:s.rg A=0
 ·rw[if_pos hz]
  have HZ:Hid (∀ w',Later w w'→StQ C ov (.fin 3 3 s) (finP 3 3) w'):=fun w' l=>⟨rfl,s,_,_,iv,rv,h.kept l,rfl,rfl,rfl,rfl⟩
  generalize StQ C ov (.fin 3 3 s)=Q at *
  rw[hz]at crA;clear h hz;go_enter Tryz.func101,Tryz.ntmps101;go_wp2_with fail
  go_quiet (fail)
  go_wp2_with fail
  refine (must_no 3 3 _).mono ?_;rintro n2 w2 ⟨rfl,l2⟩;have HP:=HZ.out w2 ((later_an _ _ _).trans l2);clear HZ;unfold finP at HP ⊢;go_wp2_with fail
  exact⟨rfl,HP⟩
 ·rw[if_neg hz];have HZ:Hid (∀ w',Later w w'→StQ C ov (.go s) unitE w'):=fun w' l=>st_go h l
  generalize StQ C ov (.go s)=Q at *
  have hne:(s.rg A != 0)=true:=by simp[hz]
  clear h hz;unfold unitE at HZ;go_enter Tryz.func101,Tryz.ntmps101;go_wp2_with fail
  go_quiet (fail)
  go_wp2_with fail
  refine (must_yes 3 3 _).mono ?_;rintro n2 w2 ⟨rfl,l2⟩;have HP:=HZ.out w2 ((later_an _ _ _).trans l2);clear HZ;unfold unitE;go_wp2_with fail
  first|exact HP|(go_end0;exact HP)
theorem doSize_any {C:Cx}{w:World}{s:Vm}{iv ov rv:Value}(h:Pv C w s (s.top C.x) (codeP C s.fn) iv ov rv) {A:Nat}(hA:A<16) (b c n:Int) :
  Calls Tryz.prog 101 #[.pointer (some ⟨C.P,0,none⟩),.agg #[.int .i64 15,.int .i64 (A:Int),.int .i64 b,.int .i64 c,.int .i64 n]] w (StQ C ov (if 0≤s.rg A∧s.rg A≤100 then .go s else .fin 3 4 s)):=by
 obtain⟨crA,zrA⟩:=h.reg hA;have iA:(A:Int)<16:=by omega
 have hlt:=h.box.lt;have hP:¬ C.P=w.heap.size:=by omega
 by_cases hz:¬ (0≤s.rg A∧s.rg A≤100)
 ·rw[if_neg hz]
  have HZ:Hid (∀ w',Later w w'→StQ C ov (.fin 3 4 s) (finP 3 4) w'):=fun w' l=>⟨rfl,s,_,_,iv,rv,h.kept l,rfl,rfl,rfl,rfl⟩
  generalize StQ C ov (.fin 3 4 s)=Q at *
  have hpb:plB (s.rg A) 101=false:=by unfold plB;simp only[Bool.and_eq_false_iff,decide_eq_false_iff_not];omega
  clear h hz;go_enter Tryz.func101,Tryz.ntmps101;go_wp2_with fail
  go_quiet (fail)
  go_wp2_with fail
  refine (maysize_b hpb _).mono ?_;rintro e1 w1 ⟨rfl,rfl⟩;go_wp2_with fail
  refine (must_no 3 4 _).mono ?_;rintro n2 w2 ⟨rfl,l2⟩;have HP:=HZ.out w2 ((later_an _ _ _).trans l2);clear HZ;unfold finP at HP ⊢;go_wp2_with fail
  exact⟨rfl,HP⟩
 ·rw[if_pos (Decidable.not_not.1 hz)];have HZ:Hid (∀ w',Later w w'→StQ C ov (.go s) unitE w'):=fun w' l=>st_go h l
  generalize StQ C ov (.go s)=Q at *
  have hpb:plB (s.rg A) 101=true:=by have:=Decidable.not_not.1 hz;unfold plB;simp;omega
  clear h hz;unfold unitE at HZ;go_enter Tryz.func101,Tryz.ntmps101;go_wp2_with fail
  go_quiet (fail)
  go_wp2_with fail
  refine (maysize_b hpb _).mono ?_;rintro e1 w1 ⟨rfl,rfl⟩;go_wp2_with fail
  refine (must_yes 3 4 _).mono ?_;rintro n2 w2 ⟨rfl,l2⟩;have HP:=HZ.out w2 ((later_an _ _ _).trans l2);clear HZ;unfold unitE;go_wp2_with fail
  first|exact HP|(go_end0;exact HP)
theorem en_isPlace:Enters Tryz.prog 56:=enters_of Tryz.func56 (by kernel_rfl) (by kernel_rfl)
theorem en_mustHold:Enters Tryz.prog 115:=enters_of Tryz.func115 (by kernel_rfl) (by kernel_rfl)
theorem doIndex_any {C:Cx}(hC:CxI C) {w:World}{s:Vm}{iv ov rv:Value}(h:Pv C w s (s.top C.x) (codeP C s.fn) iv ov rv) (hI:Iv C.x C.H s) {A B:Nat}(hA:A<16) (hB:B<16) (c n:Int) (r:St) (h0:s.len C.H (s.rg A)=none→r=.fin 7 0 s) (h1:∀ a,s.len C.H (s.rg A)=some a→r=if 0≤s.rg B∧s.rg B<a then .go s else .fin 3 2 s) :
  Calls Tryz.prog 101 #[.pointer (some ⟨C.P,0,none⟩),.agg #[.int .i64 13,.int .i64 (A:Int),.int .i64 (B:Int),.int .i64 c,.int .i64 n]] w (StQ C ov r):=by
 obtain⟨crA,zrA⟩:=h.reg hA;have iA:(A:Int)<16:=by omega
 obtain⟨crB,zrB⟩:=h.reg hB;have iB:(B:Int)<16:=by omega
 have hlt:=h.box.lt;have hlt2:=h.wd.lt;have hlt3:=h.pp.lt;have hP:¬ C.P=w.heap.size:=by omega
 have hW:¬ C.WB=w.heap.size:=by omega
 have lA:Later w (w.alloc (Obj.cells #[.int .i64 13,.int .i64 (A:Int),.int .i64 (B:Int),.int .i64 c,.int .i64 n] 97)):=later_a _ _;have HB0:Hid (∀ k v,(#[.int .i64 13,.int .i64 (A:Int),.int .i64 (B:Int),.int .i64 c,.int .i64 n]:Array Value)[k]?=some v→(w.alloc (Obj.cells #[.int .i64 13,.int .i64 (A:Int),.int .i64 (B:Int),.int .i64 c,.int .i64 n] 97)).cell? ⟨w.heap.size,k,none⟩=some v):=fun k v hk=>box_at' w _ hk;have HBx:Hid (∀ w',Later (w.alloc (Obj.cells #[.int .i64 13,.int .i64 (A:Int),.int .i64 (B:Int),.int .i64 c,.int .i64 n] 97)) w'→w'.cell? ⟨w.heap.size,2,none⟩=some (.int .i64 (B:Int))):=fun w' l=>(Below.cell l (p:=⟨w.heap.size,2,none⟩) (box_lt' w _)).trans (HB0.out 2 _ rfl);have HBs:Hid (∀ w' bq oq vq,bq≠w.heap.size→Later (w.alloc (Obj.cells #[.int .i64 13,.int .i64 (A:Int),.int .i64 (B:Int),.int .i64 c,.int .i64 n] 97)) w'→(w'.setCell ⟨bq,oq,none⟩ vq).cell? ⟨w.heap.size,2,none⟩=some (.int .i64 (B:Int))):=fun w' bq oq vq hb l=>(set_far' hb).trans (HBx.out _ l);clear HB0
 have HSx:Hid (∀ w',Later (w.alloc (Obj.cells #[.int .i64 13,.int .i64 (A:Int),.int .i64 (B:Int),.int .i64 c,.int .i64 n] 97)) w'→w'.cell? ⟨w.heap.size,2,none⟩=some (.int .i64 (B:Int))∧w'.cell? ⟨C.P,10+B,none⟩=some (.int .i64 (s.rg B))):=fun w' l=>⟨HBx.out _ l,((h.kept (lA.trans l)).reg hB).1⟩
 clear HBx HBs
 cases hl:s.len C.H (s.rg A) with
 | none =>
  obtain rfl:=h0 hl
  have HL:Hid (∀ w',Later (w.alloc (Obj.cells #[.int .i64 13,.int .i64 (A:Int),.int .i64 (B:Int),.int .i64 c,.int .i64 n] 97)) w'→Calls Tryz.prog 134 #[.pointer (some ⟨C.P,0,none⟩),.int .i64 (s.rg A)] w' (PanQ C s ov 7 0)):=fun w' l=>by
   have:=ilen_any hC (h.kept (lA.trans l)) hI (s.rg A);rw[hl]at this;exact this
  have HZ:Hid (∀ m w',PanQ C s ov 7 0 m w'→StQ C ov (.fin 7 0 s) m w'):=fun _ _ p=>p
  generalize StQ C ov (.fin 7 0 s)=Q at *
  clear h hI hl h0 h1;go_enter Tryz.func101,Tryz.ntmps101;go_wp2_with fail
  go_quiet (fail)
  go_wp2_with fail
  refine wp_region_held_drew (S:=fun w'=>w'.cell? ⟨w.heap.size,2,none⟩=some (.int .i64 (B:Int))∧w'.cell? ⟨C.P,10+B,none⟩=some (.int .i64 (s.rg B))) (by kernel_rfl) (HSx.out _ (by first|exact (Later.drewN' _ _).trans (Later.drew _)|exact Later.drewN' _ _)) (fun hHeld=>?_);refine tk 0 (.pointer (some ⟨C.P,0,none⟩)) rfl ?_;(try go_simp);refine tk 1 (.pointer (some ⟨w.heap.size,2,none⟩)) rfl ?_;(try go_simp);refine tk 2 (.int .i64 ((B:Int))) rfl ?_;(try go_simp);refine tk 3 (.pointer (some ⟨C.P,0,none⟩)) rfl ?_;(try go_simp);refine tk 4 (.pointer (some ⟨C.P,10,none⟩)) rfl ?_;(try go_simp);refine tk 5 (.pointer (some ⟨C.P,10+B,none⟩)) rfl ?_;(try go_simp);refine tk 6 (.int .i64 (s.rg B)) rfl ?_;(try go_simp);refine tk 7 (.pointer (some ⟨C.P,0,none⟩)) rfl ?_;(try go_simp);refine tk 8 (.int .i64 (s.rg A)) rfl ?_;(try go_simp);refine tk 11 (.agg #[.int .i64 3,.int .i64 2]) rfl ?_;(try go_simp);refine rd1 9 rfl fun K hK=>?_;refine step_callP rfl 134 en_doLen _ _ rfl [.pointer (some ⟨C.P,0,none⟩),.int .i64 (s.rg A)] rfl (fun _ _=>False) (fun ch w'=>ch=[{ v:=.iface 118 (.agg #[.int .i64 7,.int .i64 0]),recovered:=false }]∧Q (.panicked [{ v:=.iface 118 (.agg #[.int .i64 7,.int .i64 0]),recovered:=false }]) w') ((HL.out _ (by first|exact (Later.drewN' _ _).trans (Later.drew _)|exact Later.drewN' _ _)).mono (fun e1 w1 hq=>by obtain⟨rfl,hx⟩:=hq;exact Or.inr ⟨_,rfl,rfl,HZ.out _ _ ⟨rfl,hx⟩⟩)) ?_ ?_
  ·intro ch w2 hp;obtain⟨rfl,hp⟩:=hp;first|exact⟨rfl,hp⟩|(go_simp;exact⟨rfl,hp⟩)
  ·intro u2 w2 hf;exact hf.elim
 | some a =>
  have hr:=h1 a hl
  have HL:Hid (∀ w',Later (w.alloc (Obj.cells #[.int .i64 13,.int .i64 (A:Int),.int .i64 (B:Int),.int .i64 c,.int .i64 n] 97)) w'→Calls Tryz.prog 134 #[.pointer (some ⟨C.P,0,none⟩),.int .i64 (s.rg A)] w' (fun e w''=>∃ v,e=.returned v∧v=.int .i64 a∧Later (w.alloc (Obj.cells #[.int .i64 13,.int .i64 (A:Int),.int .i64 (B:Int),.int .i64 c,.int .i64 n] 97)) w'')):=fun w' l=>by
   have:=ilen_any hC (h.kept (lA.trans l)) hI (s.rg A);rw[hl]at this;exact this.mono (fun e w'' q=>⟨_,q.1,rfl,l.trans q.2⟩)
  by_cases hin:0≤s.rg B∧s.rg B<a
  ·rw[if_pos hin]at hr;subst hr;have hpb:plB (s.rg B) a=true:=by unfold plB;simp[hin]
   have HZ:Hid (∀ w',Later w w'→StQ C ov (.go s) unitE w'):=fun w' l=>st_go h l
   generalize StQ C ov (.go s)=Q at *
   clear h hI hl h0 h1 hin;unfold unitE at HZ;go_enter Tryz.func101,Tryz.ntmps101;go_wp2_with fail
   go_quiet (fail)
   go_wp2_with fail
   refine wp_region_held_drew (S:=fun w'=>w'.cell? ⟨w.heap.size,2,none⟩=some (.int .i64 (B:Int))∧w'.cell? ⟨C.P,10+B,none⟩=some (.int .i64 (s.rg B))) (by kernel_rfl) (HSx.out _ (by first|exact (Later.drewN' _ _).trans (Later.drew _)|exact Later.drewN' _ _)) (fun hHeld=>?_);refine tk 0 (.pointer (some ⟨C.P,0,none⟩)) rfl ?_;(try go_simp);refine tk 1 (.pointer (some ⟨w.heap.size,2,none⟩)) rfl ?_;(try go_simp);refine tk 2 (.int .i64 ((B:Int))) rfl ?_;(try go_simp);refine tk 3 (.pointer (some ⟨C.P,0,none⟩)) rfl ?_;(try go_simp);refine tk 4 (.pointer (some ⟨C.P,10,none⟩)) rfl ?_;(try go_simp);refine tk 5 (.pointer (some ⟨C.P,10+B,none⟩)) rfl ?_;(try go_simp);refine tk 6 (.int .i64 (s.rg B)) rfl ?_;(try go_simp);refine tk 7 (.pointer (some ⟨C.P,0,none⟩)) rfl ?_;(try go_simp);refine tk 8 (.int .i64 (s.rg A)) rfl ?_;(try go_simp);refine tk 11 (.agg #[.int .i64 3,.int .i64 2]) rfl ?_;(try go_simp);refine rd1 9 rfl fun K hK=>?_;refine step_call rfl 134 en_doLen _ _ rfl [.pointer (some ⟨C.P,0,none⟩),.int .i64 (s.rg A)] rfl (fun v w'=>v=.int .i64 a∧Later (w.alloc (Obj.cells #[.int .i64 13,.int .i64 (A:Int),.int .i64 (B:Int),.int .i64 c,.int .i64 n] 97)) w') (HL.out _ (by first|exact (Later.drewN' _ _).trans (Later.drew _)|exact Later.drewN' _ _)) ?_;intro u2 w2 hc2;obtain⟨rfl,l2⟩:=hc2;refine hK.out _ _ ?_ (fun hHeld=>?_)
   ·first|assumption|(go_keep;done)|exact HSx.out _ l4|exact HSx.out _ l2
   clear hK K;(try go_simp);refine rd1 10 rfl fun K hK=>?_;refine step_call rfl 56 en_isPlace _ _ rfl [.int .i64 (s.rg B),.int .i64 a] rfl (fun v w'=>v=.bool true∧w'=w2) ((place_b hpb _).mono (by rintro e1 w1 ⟨rfl,rfl⟩;exact⟨_,rfl,rfl,rfl⟩)) ?_;intro u3 w3 hc3;obtain⟨rfl,rfl⟩:=hc3;refine hK.out _ _ ?_ (fun hHeld=>?_)
   ·first|assumption|(go_keep;done)|exact HSx.out _ l4|exact HSx.out _ l2
   clear hK K;(try go_simp);refine rd1 12 rfl fun K hK=>?_;refine step_call rfl 115 en_mustHold _ _ rfl [.bool true,.agg #[.int .i64 3,.int .i64 2]] rfl (fun v w'=>v=.tuple #[]∧Later (w.alloc (Obj.cells #[.int .i64 13,.int .i64 (A:Int),.int .i64 (B:Int),.int .i64 c,.int .i64 n] 97)) w') ((must_yes 3 2 _).mono (by rintro e1 w1 ⟨rfl,l1⟩;exact⟨_,rfl,rfl,l2.trans l1⟩)) ?_;intro u4 w4 hc4;obtain⟨rfl,l4⟩:=hc4;refine hK.out _ _ ?_ (fun hHeld=>?_)
   ·first|assumption|(go_keep;done)|exact HSx.out _ l4|exact HSx.out _ l2
   clear hK K;(try go_simp);refine wpAnyH_done (by kernel_rfl) ?_ _;go_wp2_with fail
   go_end0;exact HZ.out _ (lA.trans l4)
  ·rw[if_neg hin]at hr;subst hr;have hpb:plB (s.rg B) a=false:=by unfold plB;simp only[Bool.and_eq_false_iff,decide_eq_false_iff_not];omega
   have HZ:Hid (∀ w',Later w w'→StQ C ov (.fin 3 2 s) (.panicked [{ v:=.iface 118 (.agg #[.int .i64 3,.int .i64 2]),recovered:=false }]) w'):=fun w' l=>⟨rfl,s,_,_,iv,rv,h.kept l,rfl,rfl,rfl,rfl⟩
   generalize StQ C ov (.fin 3 2 s)=Q at *
   clear h hI hl h0 h1 hin;go_enter Tryz.func101,Tryz.ntmps101;go_wp2_with fail
   go_quiet (fail)
   go_wp2_with fail
   refine wp_region_held_drew (S:=fun w'=>w'.cell? ⟨w.heap.size,2,none⟩=some (.int .i64 (B:Int))∧w'.cell? ⟨C.P,10+B,none⟩=some (.int .i64 (s.rg B))) (by kernel_rfl) (HSx.out _ (by first|exact (Later.drewN' _ _).trans (Later.drew _)|exact Later.drewN' _ _)) (fun hHeld=>?_);refine tk 0 (.pointer (some ⟨C.P,0,none⟩)) rfl ?_;(try go_simp);refine tk 1 (.pointer (some ⟨w.heap.size,2,none⟩)) rfl ?_;(try go_simp);refine tk 2 (.int .i64 ((B:Int))) rfl ?_;(try go_simp);refine tk 3 (.pointer (some ⟨C.P,0,none⟩)) rfl ?_;(try go_simp);refine tk 4 (.pointer (some ⟨C.P,10,none⟩)) rfl ?_;(try go_simp);refine tk 5 (.pointer (some ⟨C.P,10+B,none⟩)) rfl ?_;(try go_simp);refine tk 6 (.int .i64 (s.rg B)) rfl ?_;(try go_simp);refine tk 7 (.pointer (some ⟨C.P,0,none⟩)) rfl ?_;(try go_simp);refine tk 8 (.int .i64 (s.rg A)) rfl ?_;(try go_simp);refine tk 11 (.agg #[.int .i64 3,.int .i64 2]) rfl ?_;(try go_simp);refine rd1 9 rfl fun K hK=>?_;refine step_call rfl 134 en_doLen _ _ rfl [.pointer (some ⟨C.P,0,none⟩),.int .i64 (s.rg A)] rfl (fun v w'=>v=.int .i64 a∧Later (w.alloc (Obj.cells #[.int .i64 13,.int .i64 (A:Int),.int .i64 (B:Int),.int .i64 c,.int .i64 n] 97)) w') (HL.out _ (by first|exact (Later.drewN' _ _).trans (Later.drew _)|exact Later.drewN' _ _)) ?_;intro u2 w2 hc2;obtain⟨rfl,l2⟩:=hc2;refine hK.out _ _ ?_ (fun hHeld=>?_)
   ·first|assumption|(go_keep;done)|exact HSx.out _ l2
   clear hK K;(try go_simp);refine rd1 10 rfl fun K hK=>?_;refine step_call rfl 56 en_isPlace _ _ rfl [.int .i64 (s.rg B),.int .i64 a] rfl (fun v w'=>v=.bool false∧w'=w2) ((place_b hpb _).mono (by rintro e1 w1 ⟨rfl,rfl⟩;exact⟨_,rfl,rfl,rfl⟩)) ?_;intro u3 w3 hc3;obtain⟨rfl,rfl⟩:=hc3;refine hK.out _ _ ?_ (fun hHeld=>?_)
   ·first|assumption|(go_keep;done)|exact HSx.out _ l2
   clear hK K;(try go_simp);refine rd1 12 rfl fun K hK=>?_;refine step_callP rfl 115 en_mustHold _ _ rfl [.bool false,.agg #[.int .i64 3,.int .i64 2]] rfl (fun _ _=>False) (fun ch w'=>ch=[{ v:=.iface 118 (.agg #[.int .i64 3,.int .i64 2]),recovered:=false }]∧Q (.panicked [{ v:=.iface 118 (.agg #[.int .i64 3,.int .i64 2]),recovered:=false }]) w') ((must_no 3 2 _).mono (fun e1 w1 hq=>by obtain⟨rfl,hx⟩:=hq;exact Or.inr ⟨_,rfl,rfl,HZ.out _ (lA.trans (l2.trans hx))⟩)) ?_ ?_
   ·intro ch w2 hp;obtain⟨rfl,hp⟩:=hp;first|exact⟨rfl,hp⟩|(go_simp;exact⟨rfl,hp⟩)
   ·intro u2 w2 hf;exact hf.elim
end Go.Proofs.YtjnpncefkigcbaaGreat
