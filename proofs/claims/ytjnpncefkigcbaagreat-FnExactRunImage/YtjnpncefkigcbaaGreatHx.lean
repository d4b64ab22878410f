import Derived.Test.YtjnpncefkigcbaaGreatHw
set_option maxHeartbeats 100000000
set_option maxRecDepth 100000
namespace Go.Proofs.YtjnpncefkigcbaaGreat
open Go.RowKit Go.Lib Go.Maps
def zeroV (e:Se):Vm:={ W:=fun _=>0,pl:=fun _=>0,rg:=fun _=>0,used:=12000,free:=12000,base:=1,size:=e.stack.toNat,fp:=0,fn:=0,pc:=0,calls:=0,inp:=e.input,orc:=e.oracle,out:=[],steps:=0,moves:=0,copies:=0 }
def RunQ (C:Cx) (R:Int × Int × Vm) (n:Ending) (w':World):Prop:=∃ ov,PanQ C R.2.2 ov R.1 R.2.1 n w'
structure Rnd (C:Cx) (R:Int × Int × Vm) (wr:World) (s:Vm) (iv ov rv:Value):Prop where
 pv:Pv C wr s (s.top C.x) (codeP C s.fn) iv ov rv
 iv:Iv C.x C.H s
 st:s.steps≤C.fuel
 mv:s.moves≤2*s.steps
 cp:s.copies≤2*s.steps+1
 ou:s.out.length≤s.steps
 rn:runV C.x C.H (C.fuel - s.steps) s=R
def stepM (C:Cx) (wr:World):Nat:=match wr.cell? ⟨C.P,2,none⟩ with
 | some (.int _ z)=>C.fuel - z.toNat
 | _=>0
theorem stepM_at {C:Cx}{wr:World}{s:Vm}{e:Nat}{cp iv ov rv:Value}(h:Pv C wr s e cp iv ov rv):stepM C wr=C.fuel - s.steps:=by
 unfold stepM;rw[h.c2.1];rfl
theorem enter_start {C:Cx}(hC:CxI C) {e:Se}(s1:16≤e.stack.toNat) (s2:e.stack.toNat≤2000) (hH:C.H=e.half.toNat) (hF:C.fuel=e.fuel.toNat) {w w':World}{G:Nat}{iv ov rv:Value}{n:Ending}(hG:G=growS 10 e.stack.toNat (1 - 1+frN C.x C.x.main.toNat+7)) (h:EnQ C w (zeroV e) 1 C.x.main.toNat G iv ov rv n w') :
  (n=unitE∧∃ s,Rnd C (runI C.x e) w' s iv ov rv)∨(n=finP 6 0∧RunQ C (runI C.x e) n w'):=by
 have hG2:G=growS 10 e.stack.toNat (frN C.x C.x.main.toNat+7):=by rw[hG,Nat.sub_self,Nat.zero_add]
 clear hG;have hfr:=(hC.xi.at hC.xi.mn).fr;have hge:e.stack.toNat≤G:=by rw[hG2];exact growS_ge _ _ _
 have hok:frN C.x C.x.main.toNat+7≤G:=by rw[hG2];exact grow10 s1 (by omega)
 have hle:G≤e.stack.toNat∨G≤2*(frN C.x C.x.main.toNat+7):=by rw[hG2];exact growS_le _ _ _
 have hR:runI C.x e=if G=e.stack.toNat then runV C.x C.H C.fuel (startV C.x e 1 G 0) else if 12000<1+e.stack.toNat+G then (6,0,startV C.x e 1 e.stack.toNat 0) else runV C.x C.H C.fuel (startV C.x e (1+e.stack.toNat) G 1):=by
  unfold runI;rw[←hG2,hH,hF]
 have hm0:=hC.xi.m0;unfold EnQ Vm.roomy at h;rw[show (zeroV e).size=e.stack.toNat from rfl]at h;by_cases g1:G=e.stack.toNat
 ·rw[if_pos g1]at h hR;obtain⟨rfl,p,_⟩:=h;refine .inl ⟨rfl,startV C.x e 1 G 0,?_,startV_iv hC.xi hC.h8 hC.h4 (by omega) (by omega) (by omega) hok,Nat.zero_le _,Nat.zero_le _,Nat.zero_le _,Nat.le_refl _,?_⟩
  ·refine p.conv (s':=startV C.x e 1 G 0) (fun a=>?_) (fun a=>rfl) (by rw[g1];rfl);show fset (fun _=>0) (1+2) C.x.main a=if a=1 then ((0:Nat):Int) else if a=1+1 then ((0:Nat):Int) else if a=1+2 then (C.x.main.toNat:Int) else if _ then 0 else 0
   unfold fset;split
   ·rename_i q;rw[if_neg (by omega),if_neg (by omega)];omega
   ·skip
    split
    ·rfl
    ·split
     ·rfl
     ·split <;> rfl
  ·rw[hR];rfl
 ·rw[if_neg g1]at h hR
  have hcb:cpB (zeroV e) G=1+e.stack.toNat:=by
   unfold cpB;rw[if_neg (by show ¬ 1+G≤1;omega)];rfl
  rw[hcb]at h;by_cases g2:12000<1+e.stack.toNat+G
  ·rw[if_pos g2]at h hR;have h':PanQ C (zeroV e) ov 6 0 n w':=h;refine .inr ⟨h'.1,ov,?_⟩;rw[hR];exact h'.of rfl rfl rfl rfl
  ·rw[if_neg g2]at h hR;obtain⟨rfl,p,_⟩:=h;refine .inl ⟨rfl,startV C.x e (1+e.stack.toNat) G 1,?_,startV_iv hC.xi hC.h8 hC.h4 (by omega) (by omega) (by omega) hok,Nat.zero_le _,Nat.zero_le _,Nat.le_refl _,Nat.le_refl _,?_⟩
   ·refine p.conv (s':=startV C.x e (1+e.stack.toNat) G 1) (fun a=>?_) (fun a=>rfl) rfl;show fset (fun _=>0) (1+e.stack.toNat+2) C.x.main a=if a=1+e.stack.toNat then ((0:Nat):Int) else if a=1+e.stack.toNat+1 then ((0:Nat):Int) else if a=1+e.stack.toNat+2 then (C.x.main.toNat:Int) else if _ then 0 else (zeroV e).cpW 1 (1+e.stack.toNat) 0 a
    have hz:(zeroV e).cpW 1 (1+e.stack.toNat) 0 a=0:=by
     rw[cpW_zero];split <;> rfl
    rw[hz];unfold fset;split
    ·rename_i q;rw[if_neg (by omega),if_neg (by omega)];omega
    ·skip
     split
     ·rfl
     ·split
      ·rfl
      ·split <;> rfl
   ·rw[hR];rfl
theorem Rnd.next {C:Cx}(hC:CxI C) {R:Int × Int × Vm}{wr w':World}{s t:Vm}{iv ov rv iv' ov' rv':Value}(h:Rnd C R wr s iv ov rv) (hlt:s.steps<C.fuel) {i:Is}(hi:(cdAt C.x s.fn).ins[s.pc]?=some i) (e:s.tick.ins C.x C.H i=.go t) (p:Pv C w' t (t.top C.x) (codeP C t.fn) iv' ov' rv'):Rnd C R w' t iv' ov' rv':=by
 obtain⟨c1,c2,c3,c4⟩:=ins_cnt hC.xi h.iv.tick rfl hi e
 have e1:s.tick.steps=s.steps+1∧s.tick.moves=s.moves∧s.tick.copies=s.copies∧s.tick.out=s.out:=⟨rfl,rfl,rfl,rfl⟩
 have h1:=h.mv;have h2:=h.cp;have h3:=h.ou;refine⟨p,h.iv.tick.ins hC.xi rfl hi e,by omega,by omega,by omega,by rw[e1.2.2.2]at c4;omega,?_⟩;have:=h.rn;rw[show C.fuel - s.steps=(C.fuel - t.steps)+1 by omega,runV,hi]at this;simp only[e]at this;exact this
theorem Rnd.fin {C:Cx}{R:Int × Int × Vm}{wr w':World}{s t:Vm}{iv ov rv:Value}(h:Rnd C R wr s iv ov rv) (hlt:s.steps<C.fuel) {i:Is}(hi:(cdAt C.x s.fn).ins[s.pc]?=some i) {a c:Int}(e:s.tick.ins C.x C.H i=.fin a c t) {n:Ending}(p:PanQ C t ov a c n w'):RunQ C R n w':=by
 have:=h.rn;rw[show C.fuel - s.steps=(C.fuel - (s.steps+1))+1 by omega,runV,hi]at this;simp only[e]at this;rw[←this];exact⟨ov,p⟩
theorem Rnd.stuck {C:Cx}{R:Int × Int × Vm}{wr w':World}{s:Vm}{iv ov rv:Value}(h:Rnd C R wr s iv ov rv) (hlt:s.steps<C.fuel) (hi:(cdAt C.x s.fn).ins[s.pc]?=none) (l:Later wr w'):RunQ C R (finP 7 0) w':=by
 have:=h.rn;rw[show C.fuel - s.steps=(C.fuel - (s.steps+1))+1 by omega,runV,hi]at this;rw[←this];exact⟨ov,rfl,s,_,_,iv,rv,h.pv.kept l,rfl,rfl,rfl,rfl⟩
theorem Rnd.over {C:Cx}{R:Int × Int × Vm}{wr w':World}{s:Vm}{iv ov rv:Value}(h:Rnd C R wr s iv ov rv) (hlt:¬ s.steps<C.fuel) (l:Later wr w'):RunQ C R (finP 4 0) w':=by
 have:=h.rn;rw[show C.fuel - s.steps=0 by have:=h.st;omega,runV]at this;rw[←this];exact⟨ov,rfl,s,_,_,iv,rv,h.pv.kept l,rfl,rfl,rfl,rfl⟩
theorem Pv.tick {C:Cx}(hC:CxI C) {w:World}{s:Vm}{e:Nat}{cp iv ov rv:Value}(h:Pv C w s e cp iv ov rv) {p1 t1:Nat}(hp:p1=s.pc+1) (ht:t1=s.steps+1):Pv C ((w.setCell ⟨C.P,59,none⟩ (.int .i64 (p1:Int))).setCell ⟨C.P,2,none⟩ (.int .i64 (t1:Int))) s.tick e cp iv ov rv:=by
 subst hp ht;have a:=h.setP hC (s':={ s with pc:=s.pc+1 }) (o:=59) (v:=.int .i64 ((s.pc+1:Nat):Int)) (by decide) (e':=e) (cp':=cp) (map_ext rfl) rfl rfl rfl rfl rfl;exact a.setP hC (s':=s.tick) (o:=2) (v:=.int .i64 ((s.steps+1:Nat):Int)) (by decide) (e':=e) (cp':=cp) (map_ext rfl) rfl rfl rfl rfl rfl
theorem en_orStuck:Enters Tryz.prog 66:=enters_of Tryz.func66 (by kernel_rfl) (by kernel_rfl)
theorem irun_any {C:Cx}(hC:CxI C) (hMV:IMove C) {e:Se}(s1:16≤e.stack.toNat) (s2:e.stack.toNat≤2000) (hH:C.H=e.half.toNat) (hF:C.fuel=e.fuel.toNat) {w:World}{iv rv:Value}(h:Pv C w (zeroV e) 1 (.pointer none) iv (.slice none 0 0) rv) :
  Calls Tryz.prog 32 #[.pointer (some ⟨C.P,0,none⟩)] w (RunQ C (runI C.x e)):=by
 have hm0:=hC.xi.m0
 have HEn:Hid (Calls Tryz.prog 65 #[.pointer (some ⟨C.P,0,none⟩),.int .i64 C.x.main] w (EnQ C w (zeroV e) 1 C.x.main.toNat (growS 10 e.stack.toNat (1 - 1+frN C.x C.x.main.toNat+7)) iv (.slice none 0 0) rv)):=by
  have:=ienter_any hC h (s:=zeroV e) (e:=1) ⟨Nat.le_refl _,Nat.le_refl _,by show 1+7≤1+e.stack.toNat;omega,by show 1+e.stack.toNat≤12000;omega,.inl ⟨rfl,rfl⟩,Nat.zero_le _⟩ s1 hC.xi.mn (Nat.zero_le _) (Nat.zero_le _) rfl;rw[show ((C.x.main.toNat:Nat):Int)=C.x.main by omega]at this;exact this
 have HSt:Hid (∀ n w',EnQ C w (zeroV e) 1 C.x.main.toNat (growS 10 e.stack.toNat (1 - 1+frN C.x C.x.main.toNat+7)) iv (.slice none 0 0) rv n w'→(n=unitE∧∃ s,Rnd C (runI C.x e) w' s iv (.slice none 0 0) rv)∨(n=finP 6 0∧RunQ C (runI C.x e) n w')):=fun n w' q=>enter_start hC s1 s2 hH hF rfl q;obtain⟨c7,_⟩:=h.c7
 generalize runI C.x e=R at *
 have HQ:Hid (∀ n w',RunQ C R n w'→RunQ C R n w'):=fun _ _ q=>q
 generalize hQ:RunQ C R=Q at HQ ⊢
 rw[←hQ]at HQ;have HQ2:Hid (∀ n w',RunQ C R n w'→Q n w'):=by rw[hQ];exact fun _ _ q=>q
 clear HQ hQ h hH hF
 generalize EnQ C w (zeroV e) 1 C.x.main.toNat (growS 10 e.stack.toNat (1 - 1+frN C.x C.x.main.toNat+7)) iv (.slice none 0 0) rv=EQ at *
 go_enter Tryz.func32,Tryz.ntmps32;go_wp2_with fail
 refine HEn.out.mono ?_;intro n1 w1 hq1;clear c7;rcases HSt.out n1 w1 hq1 with ⟨rfl,s0,r0⟩|⟨rfl,hP⟩
 ·unfold unitE;have R0:Hid (Rnd C R w1 s0 iv (.slice none 0 0) rv):=r0;clear r0 hq1 HSt HEn;go_wp2_with fail
  go_loopw [] (fun wr=>∃ s iv ov rv,Hid (Rnd C R wr s iv ov rv)) (fun wr=>stepM C wr)
  case atStart=>exact⟨s0,_,_,_,R0⟩
  case round =>
   obtain⟨s,iv2,ov2,rv2,HR⟩:=hrel;clear R0;have hp:=HR.out.pv;obtain⟨c1,_⟩:=hp.c1;obtain⟨c2,_⟩:=hp.c2;have hst:=HR.out.st;have hfu:=hC.fu;by_cases hlt:s.steps<C.fuel
   ·have i1:(s.steps:Int)<(C.fuel:Int):=by omega
    obtain⟨ia,ic,hcs,hci⟩:=code_cells hC HR.out.iv.fn;have hi6:=(hC.xi.at HR.out.iv.fn).i6
    have hcg:C.cg<C.w0.heap.size:=by
     obtain⟨g,off,v0,v1,e1,hg,_⟩:=Cd.elem hC.cd _ HR.out.iv.fn
     cases e1
     exact hg
    have HS2:Hid (∀ w',Later wr w'→w'.cell? ⟨C.P,59,none⟩=some (.int .i64 (s.pc:Int))∧w'.cell? ⟨C.P,60,none⟩=some (.pointer (some ⟨C.cg,C.co+s.fn*4,none⟩))∧w'.cell? ⟨C.cg,C.co+s.fn*4+2,none⟩=some (.slice ia (cdAt C.x s.fn).ins.length ic)):=fun w' l=>⟨(hp.kept l).c59.1,(hp.kept l).c60.1,hcs w' (hp.lat.trans l)⟩
    cases hi:(cdAt C.x s.fn).ins[s.pc]? with
    | none =>
     have HZ:Hid (∀ w',Later wr w'→Q (.panicked [{ v:=.iface 118 (.agg #[.int .i64 7,.int .i64 0]),recovered:=false }]) w'):=fun w' l=>HQ2.out _ _ (HR.out.stuck hlt hi l)
     have hge:(cdAt C.x s.fn).ins.length≤s.pc:=by
      rcases Nat.lt_or_ge s.pc (cdAt C.x s.fn).ins.length with k|k
      ·rw[List.getElem?_eq_getElem k]at hi;cases hi
      ·exact k
     have i2:¬ ((s.pc:Int)<((cdAt C.x s.fn).ins.length:Int)):=by omega
     have i3:decide ((s.pc:Int)<((cdAt C.x s.fn).ins.length:Int))=false:=decide_eq_false i2
     generalize (cdAt C.x s.fn).ins.length=L at *
     clear hp HR hcs hci hi HQ2;go_wp2_with fail
     go_quiet (fail)
     go_wp2_with fail
     refine wp_region_held_drew (S:=fun w'=>w'.cell? ⟨C.P,59,none⟩=some (.int .i64 (s.pc:Int))∧w'.cell? ⟨C.P,60,none⟩=some (.pointer (some ⟨C.cg,C.co+s.fn*4,none⟩))∧w'.cell? ⟨C.cg,C.co+s.fn*4+2,none⟩=some (.slice ia L ic)) (by kernel_rfl) (HS2.out _ (by first|exact (Later.drewN' _ _).trans (Later.drew _)|exact Later.drewN' _ _)) (fun hHeld=>?_);refine tk 0 (.pointer (some ⟨C.P,0,none⟩)) rfl ?_;(try go_simp);refine tk 1 (.pointer (some ⟨C.P,0,none⟩)) rfl ?_;(try go_simp);refine tk 2 (.pointer (some ⟨C.P,59,none⟩)) rfl ?_;(try go_simp);refine tk 3 (.int .i64 ((s.pc:Int))) rfl ?_;(try go_simp);refine tk 4 (.pointer (some ⟨C.P,0,none⟩)) rfl ?_;(try go_simp);refine tk 5 (.pointer (some ⟨C.P,0,none⟩)) rfl ?_;(try go_simp);refine tk 6 (.pointer (some ⟨C.P,60,none⟩)) rfl ?_;(try go_simp);refine tk 7 (.pointer (some ⟨C.cg,C.co+s.fn*4,none⟩)) rfl ?_;(try go_simp);refine tk 8 (.pointer (some ⟨C.cg,C.co+s.fn*4,none⟩)) rfl ?_;(try go_simp);refine tk 9 (.pointer (some ⟨C.cg,C.co+s.fn*4+2,none⟩)) rfl ?_;(try go_simp);refine tk 10 (.slice ia L ic) rfl ?_;(try go_simp);refine tk 11 (.int .i64 ((L:Int))) rfl ?_;(try go_simp);refine tk 12 (.bool false) rfl ?_;(try go_simp);refine rd1 13 rfl fun K hK=>?_;refine step_callP rfl 66 en_orStuck _ _ rfl [.bool false] rfl (fun _ _=>False) (fun ch w'=>ch=[{ v:=.iface 118 (.agg #[.int .i64 7,.int .i64 0]),recovered:=false }]∧Q (.panicked [{ v:=.iface 118 (.agg #[.int .i64 7,.int .i64 0]),recovered:=false }]) w') ((stuck_no _).mono (fun e1 w1 hq=>by obtain⟨rfl,hx⟩:=hq;exact Or.inr ⟨_,rfl,rfl,HZ.out _ (Later.trans (by first|exact (Later.drewN' _ _).trans (Later.drew _)|exact Later.drewN' _ _) hx)⟩)) ?_ ?_
     ·intro ch w2 hp;obtain⟨rfl,hp⟩:=hp;first|exact⟨rfl,hp⟩|(go_simp;exact⟨rfl,hp⟩)
     ·intro u2 w2 hf;exact hf.elim
    | some i =>
     obtain⟨ig,io,rfl,hig,hcells⟩:=hci s.pc i hi
     have hpl:s.pc<(cdAt C.x s.fn).ins.length:=by
      rcases Nat.lt_or_ge s.pc (cdAt C.x s.fn).ins.length with k|k
      ·exact k
      ·rw[List.getElem?_eq_none k]at hi;cases hi
     have i2:(s.pc:Int)<((cdAt C.x s.fn).ins.length:Int):=by omega
     have i3:decide ((s.pc:Int)<((cdAt C.x s.fn).ins.length:Int))=true:=decide_eq_true i2;have hmv:=HR.out.mv;have hcp:=HR.out.cp;have hou:=HR.out.ou;have hii:=(hC.xi.at HR.out.iv.fn).insI hi;have ho0:=hii.o0;have ho27:=hii.o27;have HIns:Hid (∀ w',Pv C w' s.tick (s.top C.x) (codeP C s.fn) iv2 ov2 rv2→Calls Tryz.prog (deedN i.op.toNat) #[.pointer (some ⟨C.P,0,none⟩),isV i] w' (StQ C ov2 (s.tick.ins C.x C.H i))):=fun w' p=>ins_any hC hMV p HR.out.iv.tick rfl hi (by show s.moves≤999990;omega) (by show s.copies≤999000;omega) (by show s.out.length≤1000000;omega)
     have HC3:Hid (∀ w',Later wr w'→(w'.cell? ⟨ig,io+s.pc*5,none⟩=some (.int .i64 i.op)∧w'.cell? ⟨ig,io+s.pc*5+1,none⟩=some (.int .i64 i.a)∧w'.cell? ⟨ig,io+s.pc*5+2,none⟩=some (.int .i64 i.b)∧w'.cell? ⟨ig,io+s.pc*5+3,none⟩=some (.int .i64 i.c)∧w'.cell? ⟨ig,io+s.pc*5+4,none⟩=some (.int .i64 i.n))∧C.P<w'.heap.size∧ig<w'.heap.size∧C.cg<w'.heap.size):=fun w' l=>⟨hcells w' (hp.lat.trans l),Nat.lt_of_lt_of_le hp.box.lt l.size,Nat.lt_of_lt_of_le hig (hp.lat.trans l).size,Nat.lt_of_lt_of_le hcg (hp.lat.trans l).size⟩
     have HPv:Hid (∀ w',Later wr w'→Pv C w' s (s.top C.x) (codeP C s.fn) iv2 ov2 rv2):=fun w' l=>hp.kept l
     generalize (cdAt C.x s.fn).ins.length=L at *
     clear hp hcs hci hcells hii;go_wp2_with fail
     go_quiet (fail)
     go_wp2_with fail
     refine wp_region_held_drew (S:=fun w'=>w'.cell? ⟨C.P,59,none⟩=some (.int .i64 (s.pc:Int))∧w'.cell? ⟨C.P,60,none⟩=some (.pointer (some ⟨C.cg,C.co+s.fn*4,none⟩))∧w'.cell? ⟨C.cg,C.co+s.fn*4+2,none⟩=some (.slice (some ⟨ig,io,none⟩) L ic)) (by kernel_rfl) (HS2.out _ (by first|exact (Later.drewN' _ _).trans (Later.drew _)|exact Later.drewN' _ _)) (fun hHeld=>?_);refine tk 0 (.pointer (some ⟨C.P,0,none⟩)) rfl ?_;(try go_simp);refine tk 1 (.pointer (some ⟨C.P,0,none⟩)) rfl ?_;(try go_simp);refine tk 2 (.pointer (some ⟨C.P,59,none⟩)) rfl ?_;(try go_simp);refine tk 3 (.int .i64 ((s.pc:Int))) rfl ?_;(try go_simp);refine tk 4 (.pointer (some ⟨C.P,0,none⟩)) rfl ?_;(try go_simp);refine tk 5 (.pointer (some ⟨C.P,0,none⟩)) rfl ?_;(try go_simp);refine tk 6 (.pointer (some ⟨C.P,60,none⟩)) rfl ?_;(try go_simp);refine tk 7 (.pointer (some ⟨C.cg,C.co+s.fn*4,none⟩)) rfl ?_;(try go_simp);refine tk 8 (.pointer (some ⟨C.cg,C.co+s.fn*4,none⟩)) rfl ?_;(try go_simp);refine tk 9 (.pointer (some ⟨C.cg,C.co+s.fn*4+2,none⟩)) rfl ?_;(try go_simp);refine tk 10 (.slice (some ⟨ig,io,none⟩) L ic) rfl ?_;(try go_simp);refine tk 11 (.int .i64 ((L:Int))) rfl ?_;(try go_simp);refine tk 12 (.bool true) rfl ?_;(try go_simp);refine rd1 13 rfl fun K hK=>?_;refine step_call rfl 66 en_orStuck _ _ rfl [.bool true] rfl (fun v w'=>v=.tuple #[]∧Later wr w') ((stuck_yes _).mono (by rintro e1 w1 ⟨rfl,l1⟩;exact⟨_,rfl,rfl,Later.trans (by first|exact (Later.drewN' _ _).trans (Later.drew _)|exact Later.drewN' _ _) l1⟩)) ?_;intro u2 w2 hc2;obtain⟨rfl,l2⟩:=hc2;refine hK.out _ _ ?_ (fun hHeld=>?_)
     ·first|assumption|(go_keep;done)|exact HS2.out _ l2
     clear hK K;(try go_simp);refine wpAnyH_done (by kernel_rfl) ?_ _;obtain⟨⟨k0,k1,k2,k3,k4⟩,z1,z2,z3⟩:=HC3.out w2 l2;obtain⟨d59,d60,dh⟩:=HS2.out w2 l2;clear c1 c2 HS2 HC3;go_wp2_with fail
     go_region
     obtain⟨w3,hw3⟩:=hidx (w2.alloc (Obj.cells #[.int .i64 i.op,.int .i64 i.a,.int .i64 i.b,.int .i64 i.c,.int .i64 i.n] 97)).drew;rw[←hw3.out];have l23:Later w2 w3:=by rw[hw3.out];exact later_ad _ _
     have hb3:∀ j v,(#[.int .i64 i.op,.int .i64 i.a,.int .i64 i.b,.int .i64 i.c,.int .i64 i.n]:Array Value)[j]?=some v→w3.cell? ⟨w2.heap.size,j,none⟩=some v:=fun j v hj=>by rw[hw3.out];exact box_at w2 _ hj
     have p3:=HPv.out w3 (l2.trans l23);have hP2:C.P≠w2.heap.size:=by omega
     obtain⟨p1,hp1⟩:∃ p1,p1=s.pc+1:=⟨_,rfl⟩
     obtain⟨t1,ht1⟩:∃ t1,t1=s.steps+1:=⟨_,rfl⟩
     obtain⟨w4,hw4⟩:=hidx ((w3.setCell ⟨C.P,59,none⟩ (.int .i64 (p1:Int))).setCell ⟨C.P,2,none⟩ (.int .i64 (t1:Int)));have p4:Pv C w4 s.tick (s.top C.x) (codeP C s.fn) iv2 ov2 rv2:=by rw[hw4.out];exact p3.tick hC hp1 ht1
     have hb4:∀ j v,(#[.int .i64 i.op,.int .i64 i.a,.int .i64 i.b,.int .i64 i.c,.int .i64 i.n]:Array Value)[j]?=some v→w4.cell? ⟨w2.heap.size,j,none⟩=some v:=fun j v hj=>by rw[hw4.out,set_far' hP2,set_far' hP2];exact hb3 j v hj
     obtain⟨e59,f59⟩:=p3.c59;obtain⟨e2,f2⟩:=p3.c2;have j1:(s.pc:Int)+1=(p1:Int):=by omega
     have j2:(s.steps:Int)+1=(t1:Int):=by omega
     have j3:(p1:Int)≤10000:=by omega
     have j4:(t1:Int)≤1000000:=by omega
     obtain⟨k,hk⟩:∃ k:Nat,i.op=(k:Int):=⟨i.op.toNat,by omega⟩
     have hk27:k≤27:=by omega
     have hkt:i.op.toNat=k:=by omega
     have b0:=hb4 0 _ rfl;have b1:=hb4 1 _ rfl;have b2:=hb4 2 _ rfl;have b3:=hb4 3 _ rfl;have b4:=hb4 4 _ rfl;have bd:w4.cell? ⟨C.P,26+k,none⟩=some (.func (.func (deedN k)) #[] #[]):=(p4.at (26+k) (by omega) (by unfold boxF;rw[if_neg (by omega),if_pos ⟨by omega,by omega⟩,Nat.add_sub_cancel_left];rfl)).1
     have HIns2:Hid (∀ w',Later w4 w'→Calls Tryz.prog (deedN k) #[.pointer (some ⟨C.P,0,none⟩),.agg #[.int .i64 (k:Int),.int .i64 i.a,.int .i64 i.b,.int .i64 i.c,.int .i64 i.n]] w' (fun n w''=>(∃ v,n=.returned v∧v=.tuple #[]∧(∃ s iv ov rv,Hid (Rnd C R w'' s iv ov rv))∧stepM C w''<stepM C wr)∨(∃ ch,n=.panicked ch∧Q (.panicked ch) w''))):=fun w' l=>by
      have hc:=HIns.out w' (p4.kept l);rw[hkt]at hc;unfold isV at hc;rw[hk]at hc;refine hc.mono (fun n w'' q=>?_)
      cases hs:s.tick.ins C.x C.H i with
      | go t =>
       rw[hs]at q;obtain⟨rfl,iv5,ov5,rv5,p5⟩:=q;have hn5:=HR.out.next hC hlt hi hs p5
       have hc5:=(ins_cnt hC.xi HR.out.iv.tick rfl hi hs).1;have hts:s.tick.steps=s.steps+1:=rfl;refine .inl ⟨_,rfl,rfl,⟨t,iv5,ov5,rv5,hn5⟩,?_⟩;rw[stepM_at p5,stepM_at HR.out.pv];omega
      | fin ea ec t =>
       rw[hs]at q;have hq:=HQ2.out _ _ (HR.out.fin hlt hi hs q);obtain⟨rfl,_⟩:=q;exact .inr ⟨_,rfl,hq⟩
     rw[hk]at b0;clear hb3 hb4 p3 p4 HIns HPv HR HQ2 l2 l23 hw3 k0 k1 k2 k3 k4 d59 d60 dh hi hk hkt hmv hcp hou ho0 ho27 hp1 ht1;have iK:(k:Int)<28:=by omega
     generalize i.a=ia5 at *
     generalize i.b=ib5 at *
     generalize i.c=ic5 at *
     generalize i.n=in5 at *
     go_wp2_with fail
     rw[←hw4.out];clear hw4 e59 f59 e2 f2;refine wp_region_held_drew (S:=fun w'=>True) (by kernel_rfl) (trivial) (fun hHeld=>?_);refine tk 0 (.pointer (some ⟨C.P,0,none⟩)) rfl ?_;(try go_simp);refine tk 1 (.pointer (some ⟨w2.heap.size,0,none⟩)) rfl ?_;(try go_simp);refine tk 3 (.pointer (some ⟨C.P,0,none⟩)) rfl ?_;(try go_simp);refine tk 4 (.pointer (some ⟨C.P,26,none⟩)) rfl ?_;(try go_simp);refine tk 7 (.pointer (some ⟨C.P,0,none⟩)) rfl ?_;(try go_simp);refine wpAnyH_ready (rs:=[2,8]) (by kernel_rfl) (by simp) ?_;refine (AllReadyH.cons rfl (fun K hK=>?_) (AllReadyH.cons rfl (fun K hK=>?_) AllReadyH.nil))
     ·go_simp;refine hK.out _ _ ?_ (fun hHeld=>?_)
      ·trivial
      clear hK K;(try go_simp);refine tk 5 (.pointer (some ⟨C.P,26+k,none⟩)) rfl ?_;(try go_simp);refine wpAnyH_ready (rs:=[6,8]) (by kernel_rfl) (by simp) ?_;refine (AllReadyH.cons rfl (fun K hK=>?_) (AllReadyH.cons rfl (fun K hK=>?_) AllReadyH.nil))
      ·go_simp;refine hK.out _ _ ?_ (fun hHeld=>?_)
       ·trivial
       clear hK K;(try go_simp);refine rd1 8 rfl fun K hK=>?_;go_simp;refine hK.out _ _ ?_ (fun hHeld=>?_)
       ·trivial
       clear hK K;(try go_simp);refine rd1 9 rfl fun K hK=>?_;refine step_callPV rfl (deedN k) (en_deed k hk27) _ rfl _ _ rfl [.pointer (some ⟨C.P,0,none⟩),.agg #[.int .i64 (k:Int),.int .i64 ia5,.int .i64 ib5,.int .i64 ic5,.int .i64 in5]] rfl (fun v w'=>v=.tuple #[]∧(∃ s iv ov rv,Hid (Rnd C R w' s iv ov rv))∧stepM C w'<stepM C wr) (fun ch w'=>Q (.panicked ch) w') (HIns2.out _ (Later.drew _)) (fun ch w' hq=>?_) ?_
       ·first|exact⟨rfl,hq⟩|(go_simp;exact⟨rfl,hq⟩)
       intro u5 w5 hc5;obtain⟨rfl,hR5,hM5⟩:=hc5;refine hK.out _ _ ?_ (fun hHeld=>?_)
       ·trivial
       clear hK K;(try go_simp);refine wpAnyH_done (by kernel_rfl) ?_ _;clear HIns2;go_wp2_with fail
       go_roundw
       case rel=>exact hR5
       case measure=>exact hM5
      ·go_simp;refine hK.out _ _ ?_ (fun hHeld=>?_)
       ·trivial
       clear hK K;(try go_simp);refine rd1 6 rfl fun K hK=>?_;go_simp;refine hK.out _ _ ?_ (fun hHeld=>?_)
       ·trivial
       clear hK K;(try go_simp);refine rd1 9 rfl fun K hK=>?_;refine step_callPV rfl (deedN k) (en_deed k hk27) _ rfl _ _ rfl [.pointer (some ⟨C.P,0,none⟩),.agg #[.int .i64 (k:Int),.int .i64 ia5,.int .i64 ib5,.int .i64 ic5,.int .i64 in5]] rfl (fun v w'=>v=.tuple #[]∧(∃ s iv ov rv,Hid (Rnd C R w' s iv ov rv))∧stepM C w'<stepM C wr) (fun ch w'=>Q (.panicked ch) w') (HIns2.out _ (Later.drew _)) (fun ch w' hq=>?_) ?_
       ·first|exact⟨rfl,hq⟩|(go_simp;exact⟨rfl,hq⟩)
       intro u5 w5 hc5;obtain⟨rfl,hR5,hM5⟩:=hc5;refine hK.out _ _ ?_ (fun hHeld=>?_)
       ·trivial
       clear hK K;(try go_simp);refine wpAnyH_done (by kernel_rfl) ?_ _;clear HIns2;go_wp2_with fail
       go_roundw
       case rel=>exact hR5
       case measure=>exact hM5
     ·go_simp;refine hK.out _ _ ?_ (fun hHeld=>?_)
      ·trivial
      clear hK K;(try go_simp);refine rd1 2 rfl fun K hK=>?_;go_simp;refine hK.out _ _ ?_ (fun hHeld=>?_)
      ·trivial
      clear hK K;(try go_simp);refine tk 5 (.pointer (some ⟨C.P,26+k,none⟩)) rfl ?_;(try go_simp);refine rd1 6 rfl fun K hK=>?_;go_simp;refine hK.out _ _ ?_ (fun hHeld=>?_)
      ·trivial
      clear hK K;(try go_simp);refine rd1 9 rfl fun K hK=>?_;refine step_callPV rfl (deedN k) (en_deed k hk27) _ rfl _ _ rfl [.pointer (some ⟨C.P,0,none⟩),.agg #[.int .i64 (k:Int),.int .i64 ia5,.int .i64 ib5,.int .i64 ic5,.int .i64 in5]] rfl (fun v w'=>v=.tuple #[]∧(∃ s iv ov rv,Hid (Rnd C R w' s iv ov rv))∧stepM C w'<stepM C wr) (fun ch w'=>Q (.panicked ch) w') (HIns2.out _ (Later.drew _)) (fun ch w' hq=>?_) ?_
      ·first|exact⟨rfl,hq⟩|(go_simp;exact⟨rfl,hq⟩)
      intro u5 w5 hc5;obtain⟨rfl,hR5,hM5⟩:=hc5;refine hK.out _ _ ?_ (fun hHeld=>?_)
      ·trivial
      clear hK K;(try go_simp);refine wpAnyH_done (by kernel_rfl) ?_ _;clear HIns2;go_wp2_with fail
      go_roundw
      case rel=>exact hR5
      case measure=>exact hM5
   ·have i1:¬ (s.steps:Int)<(C.fuel:Int):=by omega
    have i2:decide ((s.steps:Int)<(C.fuel:Int))=false:=decide_eq_false i1;have HZ:Hid (∀ w',Later wr w'→Q (.panicked [{ v:=.iface 118 (.agg #[.int .i64 4,.int .i64 0]),recovered:=false }]) w'):=fun w' l=>HQ2.out _ _ (HR.out.over hlt l);clear hp HR HQ2;go_wp2_with fail
    go_quiet (fail)
    go_wp2_with fail
    exact⟨rfl,HZ.out _ (Later.drewN' wr _)⟩
 ·have HP:=HQ2.out _ _ hP;clear HSt HEn hq1 hP HQ2;unfold finP at HP ⊢;go_wp2_with fail
  exact⟨rfl,HP⟩
end Go.Proofs.YtjnpncefkigcbaaGreat
