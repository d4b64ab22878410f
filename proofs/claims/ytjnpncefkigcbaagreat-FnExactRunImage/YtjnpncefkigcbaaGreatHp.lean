import Derived.Test.YtjnpncefkigcbaaGreatHo
set_option maxHeartbeats 100000000
set_option maxRecDepth 100000
namespace Go.Proofs.YtjnpncefkigcbaaGreat
open Go.RowKit Go.Lib Go.Maps
theorem step_clear0 {P:Program}{ops:Array Oper}{o:Oper}{a:Act}{w:World}{K:Act→World→Prop}{Q:Exit→Act→World→Prop}{E:Prop}(hgd:o.guard=none) (d:Operand) (dT:TypeId)
  (ho:o.op=.call { callee:=.builtin .clear,args:=#[d],argTypes:=#[dT] }) (e:TypeId) (hu:P.underlying dT=some (.slice e)) (p:Addr) (c:Nat) (hd:a.eval d=.slice (some p) 0 c)
  (h:K (a.put o.dst (.tuple #[])) w) :
  if Region.wanted o (yielded ops a.tmps)=true then Oper.wp P o a w K Q else E:=by
 have hw:Region.wanted o (yielded ops a.tmps)=true:=by simp[Region.wanted,hgd]
 rw[if_pos hw];have hrun:(Builtin.clear_ #[dT] o.type #[.slice (some p) 0 c]).run P w=.ok (.tuple #[]) w:=by simp[Builtin.clear_,run_underlying hu]
 unfold Oper.wp;simp[execOp,ho,resolve,invoke,builtin,hd,hrun,Result.andThen];exact h
def Vm.fram (x:Im) (s:Vm) (e n:Nat):Vm:={ s with
 W:=fun a=>if a=e then s.fp else if a=e+1 then s.pc else if a=e+2 then n else if e+(3+(cdAt x n).params.toNat)≤a∧a<e+frN x n then 0 else s.W a,
 fp:=e,fn:=n,pc:=0,calls:=s.calls+1 }
def Vm.roomy (s:Vm) (e z:Nat):Option (Vm × Nat) :=
 if z=s.size then some (s,e) else if 12000<cpB s z+z then none else some (s.cpS e (cpB s z) z s.calls (cpF s (cpB s z)),cpB s z+(e - s.base))
def EnQ (C:Cx) (w:World) (s:Vm) (e n G:Nat) (iv ov rv:Value) (m:Ending) (w':World):Prop :=
 match s.roomy e G with
 | none=>PanQ C s ov 6 0 m w'
 | some (t,e2)=>MvQ C w unitE (t.fram C.x e2 n) (e2+frN C.x n) (codeP C n) iv ov rv m w'
def RoQ (C:Cx) (w:World) (s:Vm) (cp iv ov rv:Value) (o:Option (Vm × Nat)) (m:Ending) (w':World):Prop :=
 match o with
 | none=>PanQ C s ov 6 0 m w'
 | some (t,e2)=>MvQ C w unitE t e2 cp iv ov rv m w'
theorem RmQ.of {C:Cx}{w:World}{s:Vm}{e n G:Nat}{cp iv ov rv:Value}{m:Ending}{w':World}(hG:G=growS 10 s.size (e - s.base+frN C.x n+7)) (h:RmQ C w s e (frN C.x n) cp iv ov rv m w'):RoQ C w s cp iv ov rv (s.roomy e G) m w':=by
 unfold RmQ at h;rw[←hG]at h;clear hG;unfold Vm.roomy;split at h
 ·rename_i q
  rw[if_pos q];exact h
 ·rename_i q
  rw[if_neg q];split at h
  ·rename_i q2
   rw[if_pos q2];exact h
  ·rename_i q2
   rw[if_neg q2];exact h
theorem roomy_ok {C:Cx}{s t:Vm}{e e2 f G:Nat}(hI:CpI C s e) (h16:16≤s.size) (hf:f≤1000) (hG:G=growS 10 s.size (e - s.base+f+7)) (h:s.roomy e G=some (t,e2)):1≤e2∧e2+f+7≤12000∧t.fp≤12000∧t.pc=s.pc∧t.calls=s.calls∧t.fn=s.fn:=by
 have q1:=hI.b1;have q2:=hI.be;have q3:=hI.es;have q4:=hI.bs;have hgn:=grow10 (need:=e - s.base+f+7) h16 (by omega);rw[←hG]at hgn;clear hG;have hfp:s.fp≤e:=by rcases hI.ch with q|q <;> omega
 unfold Vm.roomy at h;split at h
 ·cases h
  exact⟨by omega,by omega,by omega,rfl,rfl,rfl⟩
 ·split at h
  ·cases h
  ·rename_i q5 q6
   have hB:1≤cpB s G:=by unfold cpB;split <;> omega
   cases h
   refine⟨by omega,by omega,?_,rfl,rfl,rfl⟩;show cpF s (cpB s G)≤12000;unfold cpF;split
   ·omega
   ·omega
theorem ienter_any {C:Cx}(hC:CxI C) {w:World}{s:Vm}{e:Nat}{cp iv ov rv:Value}(h:Pv C w s e cp iv ov rv) (hI:CpI C s e) (h16:16≤s.size) {n:Nat}(hn:n<C.x.codes.length) (hcl:s.calls≤1000) (_hpc:s.pc≤10000) {G:Nat}(hG:G=growS 10 s.size (e - s.base+frN C.x n+7)) :
  Calls Tryz.prog 65 #[.pointer (some ⟨C.P,0,none⟩),.int .i64 (n:Int)] w (EnQ C w s e n G iv ov rv):=by
 have hci:=hC.xi.at hn;have hfr:=hci.fr;have hp0:=hci.p0;have hf3:=hci.f3;have hN:=hC.hN;obtain⟨v0,v1,hcs,_,_⟩:=cd_at hC hn
 have HCd:Hid (∀ w',Later C.w0 w'→w'.cell? ⟨C.cg,C.co+n*4,none⟩=some (.int .i64 (frN C.x n:Int))∧w'.cell? ⟨C.cg,C.co+n*4+1,none⟩=some (.int .i64 ((cdAt C.x n).params.toNat:Int))):=fun w' l=>by
  have:=hcs w' l;refine⟨by rw[hfr.1];exact this.1,?_⟩;rw[show (((cdAt C.x n).params.toNat:Nat):Int)=(cdAt C.x n).params by omega];exact this.2.1
 obtain⟨c6,_⟩:=h.c6;have hlat:=h.lat;obtain⟨cf,cpp⟩:=HCd.out w hlat;have HOk:=fun t e2=>roomy_ok (t:=t) (e2:=e2) hI h16 hfr.2.2 hG;have i1:(n:Int)<(C.x.codes.length:Int):=by omega
 have HQn:Hid (∀ m w',s.roomy e G=none→PanQ C s ov 6 0 m w'→EnQ C w s e n G iv ov rv m w'):=fun m w' q p=>by unfold EnQ;rw[q];exact p
 have HQs:Hid (∀ t e2 w',s.roomy e G=some (t,e2)→Pv C w' (t.fram C.x e2 n) (e2+frN C.x n) (codeP C n) iv ov rv→OnlyM C w w'→EnQ C w s e n G iv ov rv unitE w'):=fun t e2 w' q p o=>by unfold EnQ;rw[q];exact⟨rfl,p,o⟩
 have HRm2:Hid (Calls Tryz.prog 114 #[.pointer (some ⟨C.P,0,none⟩),.int .i64 (frN C.x n:Int)] w (RoQ C w s cp iv ov rv (s.roomy e G))):=(imroom_any hC h hI h16 hfr.2.2).mono (fun m w' q=>RmQ.of hG q)
 generalize EnQ C w s e n G iv ov rv=Q at *
 clear hG
 generalize s.roomy e G=RO at *
 have HNum:Hid (3+(cdAt C.x n).params.toNat≤frN C.x n∧frN C.x n≤1000∧(cdAt C.x n).params.toNat≤4):=⟨by omega,by omega,by have:=hci.p4;omega⟩
 have HFm:Hid (∀ t e2,Vm.fram C.x t e2 n={ t with W:=fun a=>if a=e2 then t.fp else if a=e2+1 then t.pc else if a=e2+2 then n else if e2+(3+(cdAt C.x n).params.toNat)≤a∧a<e2+frN C.x n then 0 else t.W a,fp:=e2,fn:=n,pc:=0,calls:=t.calls+1 }):=fun _ _=>rfl;clear h hI hcs hfr hf3 hp0 hci
 generalize (cdAt C.x n).params.toNat=PN at *
 generalize frN C.x n=FN at *
 go_enter Tryz.func65,Tryz.ntmps65;go_wp2_with fail
 refine HRm2.out.mono ?_;intro m1 w1 hq2;clear HRm2
 cases RO with
 | none =>
  have HP:=HQn.out m1 w1 rfl hq2;obtain⟨rfl,_⟩:=hq2;clear HQn HQs HCd HOk c6 cf cpp;unfold finP at HP ⊢;go_wp2_with fail
  exact⟨rfl,HP⟩
 | some te =>
  obtain⟨t,e2⟩:=te;obtain⟨rfl,p1,o1⟩:=hq2;obtain⟨r1,r2,r3,r4,r5,r6⟩:=HOk t e2 rfl;have hnum:=HNum.out;have hHN:12000≤C.N:=by omega
  have HP3:Hid (∀ w',w'=((w1.drew.setCell ⟨C.WB,e2,none⟩ (.int .i64 (t.fp:Int))).drew.setCell ⟨C.WB,e2+1,none⟩ (.int .i64 (t.pc:Int))).setCell ⟨C.WB,e2+2,none⟩ (.int .i64 (n:Int))→Pv C w' { t with W:=fset (fset (fset t.W e2 t.fp) (e2+1) t.pc) (e2+2) n } e2 cp iv ov rv∧OnlyM C w w'):=fun w' hw'=>by
   subst hw';have a1:=(p1.kept (Later.drew w1)).setW hC (a:=e2) (by omega) (t.fp:Int);have a2:=(a1.kept (Later.drew _)).setW hC (a:=e2+1) (by omega) (t.pc:Int);exact⟨a2.setW hC (a:=e2+2) (by omega) (n:Int),(((o1.drew.setW _ _).drew.setW _ _).setW _ _)⟩
  obtain⟨lo,hlo⟩:∃ lo,lo=e2+(3+PN):=⟨_,rfl⟩
  obtain⟨hi,hhi⟩:∃ hi,hi=e2+FN:=⟨_,rfl⟩
  have HZ:Hid (∀ w7,Pv C w7 { t with W:=fun a=>if lo≤a∧a<hi then 0 else fset (fset (fset t.W e2 t.fp) (e2+1) t.pc) (e2+2) n a } e2 cp iv ov rv→OnlyM C w w7→Q unitE (((((w7.setCell ⟨C.P,57,none⟩ (.int .i64 (e2:Int))).setCell ⟨C.P,58,none⟩ (.int .i64 (hi:Int))).setCell ⟨C.P,59,none⟩ (.int .i64 0)).setCell ⟨C.P,60,none⟩ (codeP C n)).setCell ⟨C.P,56,none⟩ (.int .i64 ((t.calls+1:Nat):Int)))):=fun w7 p o=>by
   refine HQs.out t e2 _ rfl ?_ (((((o.setP _ _).setP _ _).setP _ _).setP _ _).setP _ _);have b1:=p.setP hC (s':={ t with W:=fun a=>if lo≤a∧a<hi then 0 else fset (fset (fset t.W e2 t.fp) (e2+1) t.pc) (e2+2) n a,fp:=e2 }) (o:=57) (v:=.int .i64 (e2:Int)) (by decide) (e':=e2) (cp':=cp) (map_ext rfl) rfl rfl rfl rfl rfl;have b2:=b1.setP hC (s':={ t with W:=fun a=>if lo≤a∧a<hi then 0 else fset (fset (fset t.W e2 t.fp) (e2+1) t.pc) (e2+2) n a,fp:=e2 }) (o:=58) (v:=.int .i64 (hi:Int)) (by decide) (e':=hi) (cp':=cp) (map_ext rfl) rfl rfl rfl rfl rfl;have b3:=b2.setP hC (s':={ t with W:=fun a=>if lo≤a∧a<hi then 0 else fset (fset (fset t.W e2 t.fp) (e2+1) t.pc) (e2+2) n a,fp:=e2,pc:=0 }) (o:=59) (v:=.int .i64 0) (by decide) (e':=hi) (cp':=cp) (map_ext rfl) rfl rfl rfl rfl rfl;have b4:=b3.setP hC (s':={ t with W:=fun a=>if lo≤a∧a<hi then 0 else fset (fset (fset t.W e2 t.fp) (e2+1) t.pc) (e2+2) n a,fp:=e2,pc:=0,fn:=n }) (o:=60) (v:=codeP C n) (by decide) (e':=hi) (cp':=codeP C n) (map_ext rfl) rfl rfl rfl rfl rfl;have b5:=b4.setP hC (s':={ t with W:=fun a=>if lo≤a∧a<hi then 0 else fset (fset (fset t.W e2 t.fp) (e2+1) t.pc) (e2+2) n a,fp:=e2,pc:=0,fn:=n,calls:=t.calls+1 }) (o:=56) (v:=.int .i64 ((t.calls+1:Nat):Int)) (by decide) (e':=hi) (cp':=codeP C n) (map_ext rfl) rfl rfl rfl rfl rfl;rw[HFm.out t e2,← hhi];refine b5.conv (fun a=>?_) (fun _=>rfl) rfl;show (if a=e2 then (t.fp:Int) else if a=e2+1 then (t.pc:Int) else if a=e2+2 then (n:Int) else if e2+(3+PN)≤a∧a<hi then 0 else t.W a)=if lo≤a∧a<hi then 0 else fset (fset (fset t.W e2 t.fp) (e2+1) t.pc) (e2+2) n a
   rw[←hlo];unfold fset;by_cases c1:a=e2
   ·rw[if_pos c1,if_neg (by omega),if_neg (by omega),if_neg (by omega),if_pos c1]
   ·rw[if_neg c1];by_cases c2:a=e2+1
    ·rw[if_pos c2,if_neg (by omega),if_neg (by omega),if_pos c2]
    ·rw[if_neg c2];by_cases c3:a=e2+2
     ·rw[if_pos c3,if_neg (by omega),if_pos c3]
     ·rw[if_neg c3];split
      ·rfl
      ·rfl
  obtain⟨c58,_⟩:=p1.c58;obtain⟨c9,_⟩:=p1.c9;obtain⟨c57,_⟩:=p1.c57;obtain⟨c59,_⟩:=p1.c59;obtain⟨x0,y0⟩:=p1.word (a:=e2) (by omega);obtain⟨x1,y1⟩:=p1.word (a:=e2+1) (by omega);obtain⟨x2,y2⟩:=p1.word (a:=e2+2) (by omega);have d1:=hC.d1
  have HX:Hid (∀ w4,Pv C w4 { t with W:=fset (fset (fset t.W e2 t.fp) (e2+1) t.pc) (e2+2) n } e2 cp iv ov rv→∀ w',Later w4 w'→(w'.cell? ⟨C.P,9,none⟩=some (.slice (some ⟨C.WB,0,none⟩) C.N C.N)∧w'.cell? ⟨C.cg,C.co+n*4,none⟩=some (.int .i64 (FN:Int))∧w'.cell? ⟨C.cg,C.co+n*4+1,none⟩=some (.int .i64 (PN:Int)))):=fun w4 p w' l=>⟨(p.kept l).c9.1,(HCd.out w' (p.kept l).lat).1,(HCd.out w' (p.kept l).lat).2⟩
  have HCl:Hid (∀ w4,Pv C w4 { t with W:=fset (fset (fset t.W e2 t.fp) (e2+1) t.pc) (e2+2) n } e2 cp iv ov rv→Pv C (w4.setCells C.WB lo (List.replicate (hi - lo) (.int .i64 0))) { t with W:=fun a=>if lo≤a∧a<hi then 0 else fset (fset (fset t.W e2 t.fp) (e2+1) t.pc) (e2+2) n a } e2 cp iv ov rv):=fun w4 p=>by
   rw[repl_range];refine (p.setWs hC (o:=lo) (m:=hi - lo) (by omega) (fun _=>0)).conv (fun a=>?_) (fun _=>rfl) rfl;show (if lo≤a∧a<hi then 0 else _)=if lo≤a∧a<lo+(hi - lo) then 0 else _
   rw[show lo+(hi - lo)=hi by omega]
  have HCC:Hid (∀ w4,Pv C w4 { t with W:=fset (fset (fset t.W e2 t.fp) (e2+1) t.pc) (e2+2) n } e2 cp iv ov rv→∀ j,j<hi - lo→(w4.cell? ⟨C.WB,lo+j,none⟩).isSome=true∧w4.frozen? ⟨C.WB,lo+j,none⟩=false):=fun w4 p j hj=>by
   have:=p.word (a:=lo+j) (by omega);exact⟨by rw[this.1];rfl,this.2⟩
  have HD7:Hid (∀ w7,Pv C w7 { t with W:=fun a=>if lo≤a∧a<hi then 0 else fset (fset (fset t.W e2 t.fp) (e2+1) t.pc) (e2+2) n a } e2 cp iv ov rv→(w7.cell? ⟨C.P,9,none⟩=some (.slice (some ⟨C.WB,0,none⟩) C.N C.N)∧w7.cell? ⟨C.cg,C.co+n*4,none⟩=some (.int .i64 (FN:Int))∧w7.cell? ⟨C.cg,C.co+n*4+1,none⟩=some (.int .i64 (PN:Int)))∧(∃ u,w7.cell? ⟨C.P,57,none⟩=some u)∧w7.frozen? ⟨C.P,57,none⟩=false∧(∃ u,w7.cell? ⟨C.P,58,none⟩=some u)∧w7.frozen? ⟨C.P,58,none⟩=false∧(∃ u,w7.cell? ⟨C.P,59,none⟩=some u)∧w7.frozen? ⟨C.P,59,none⟩=false∧(∃ u,w7.cell? ⟨C.P,60,none⟩=some u)∧w7.frozen? ⟨C.P,60,none⟩=false∧w7.cell? ⟨C.P,56,none⟩=some (.int .i64 (t.calls:Int))∧w7.frozen? ⟨C.P,56,none⟩=false∧C.cg≠C.P):=fun w7 p=>by
   refine⟨⟨p.c9.1,(HCd.out w7 p.lat).1,(HCd.out w7 p.lat).2⟩,⟨_,p.c57.1⟩,p.c57.2,⟨_,p.c58.1⟩,p.c58.2,⟨_,p.c59.1⟩,p.c59.2,⟨_,p.c60.1⟩,p.c60.2,p.c56.1,p.c56.2,?_⟩;have:=hC.p1;obtain⟨g,off,_,_,eq,hg,_⟩:=Cd.elem hC.cd n hn
   cases eq
   omega
  obtain⟨a1,ha1⟩:∃ a1,a1=e2+1:=⟨_,rfl⟩
  obtain⟨a2,ha2⟩:∃ a2,a2=e2+2:=⟨_,rfl⟩
  obtain⟨a3,ha3⟩:∃ a3,a3=e2+3:=⟨_,rfl⟩
  rw[←ha1,← ha2]at HP3 HX HCl HCC HD7 HZ;rw[←ha1]at x1 y1;rw[←ha2]at x2 y2;have g0:(e2:Int)<(C.N:Int):=by omega
  have g1:(e2:Int)+1=(a1:Int):=by omega
  have g2:(e2:Int)+2=(a2:Int):=by omega
  have g3:(a1:Int)<(C.N:Int):=by omega
  have g4:(a2:Int)<(C.N:Int):=by omega
  have g5:(a2:Int)≤12000:=by omega
  have g6:(a1:Int)≤12000:=by omega
  have g7:(e2:Int)≤12000:=by omega
  have n01:¬ a1=e2:=by omega
  have n02:¬ a2=e2:=by omega
  have n12:¬ a2=a1:=by omega
  have g8:(e2:Int)+3=(a3:Int):=by omega
  have g9:(a3:Int)+(PN:Int)=(lo:Int):=by omega
  have g10:(e2:Int)+(FN:Int)=(hi:Int):=by omega
  have g11:(hi:Int)≤(C.N:Int):=by omega
  have g12:lo≤hi:=by omega
  have g13:¬ C.N=lo:=by omega
  have g14:(hi:Int)≤12000:=by omega
  have g15:(a3:Int)≤12000:=by omega
  have g16:(lo:Int)≤12000:=by omega
  have g17:(t.calls:Int)+1=((t.calls+1:Nat):Int):=by omega
  have g18:((t.calls+1:Nat):Int)≤2000:=by omega
  generalize t.calls+1=cn at *
  have w1':IntKind.i64.wrap (a3:Int)=(a3:Int):=by rw[IntKind.wrap_i64];omega
  have w2':IntKind.i64.wrap (lo:Int)=(lo:Int):=by rw[IntKind.wrap_i64];omega
  have w3':IntKind.i64.wrap (hi:Int)=(hi:Int):=by rw[IntKind.wrap_i64];omega
  clear p1 o1 r1 r2 r3 r4 r5 r6 HQn HQs HOk HFm hN cf cpp c6 ha1 ha2 ha3 hlo hhi hnum hHN;unfold unitE;go_wp2_with fail
  go_region
  go_wp2_with fail
  go_region
  go_wp2_with fail
  have HW:=HP3.out ((((w1.setCell ⟨C.WB,e2,none⟩ (.int .i64 (t.fp:Int))).setCell ⟨C.WB,a1,none⟩ (.int .i64 (t.pc:Int))).setCell ⟨C.WB,a2,none⟩ (.int .i64 (n:Int))).drew.drew) rfl
  generalize (((w1.setCell ⟨C.WB,e2,none⟩ (.int .i64 (t.fp:Int))).setCell ⟨C.WB,a1,none⟩ (.int .i64 (t.pc:Int))).setCell ⟨C.WB,a2,none⟩ (.int .i64 (n:Int))).drew.drew=w4 at *
  obtain⟨p4,o4⟩:=HW;have HS4:=HX.out w4 p4;clear HP3 x0 x1 x2 y0 y1 y2 c58 c9 c57 c59 g1 g2 g3 g4 n01 n02 n12;by_cases hle:lo=hi
  ·have k0:hi - lo=0:=by omega
   subst hle
   go_region_held_law (fun w'=>w'.cell? ⟨C.P,9,none⟩=some (.slice (some ⟨C.WB,0,none⟩) C.N C.N)∧w'.cell? ⟨C.cg,C.co+n*4,none⟩=some (.int .i64 (FN:Int))∧w'.cell? ⟨C.cg,C.co+n*4+1,none⟩=some (.int .i64 (PN:Int))) (first|exact HS4 _ (Later.drew _)|assumption) (first
    | (refine step_clear0 rfl _ 26 rfl 3 Tryz.underlying26 ⟨C.WB,lo,none⟩ _ (by rfl) ?_))
   have p7:Pv C w4.drew { t with W:=fun a=>if lo≤a∧a<lo then 0 else fset (fset (fset t.W e2 t.fp) a1 t.pc) a2 n a } e2 cp iv ov rv:=(p4.kept (Later.drew _)).conv (fun a=>by show (if lo≤a∧a<lo then _ else _)=_;rw[if_neg (by omega)]) (fun _=>rfl) rfl;have o7:=o4.drew
   generalize w4.drew=w7 at *
   obtain⟨⟨e9,ef,ep⟩,⟨u1,m57⟩,f57,⟨u2,m58⟩,f58,⟨u3,m59⟩,f59,⟨u4,m60⟩,f60,m56,f56,ncg⟩:=HD7.out w7 p7;have HZ7:=HZ.out w7 p7 o7;clear HD7 HZ p7 o7 HX HCl HCC HCd;unfold codeP unitE at HZ7;go_wp2_with fail
   first|exact HZ7|(go_end0;exact HZ7)
  ·have k0:0<hi - lo:=by omega
   go_region_held_law (fun w'=>w'.cell? ⟨C.P,9,none⟩=some (.slice (some ⟨C.WB,0,none⟩) C.N C.N)∧w'.cell? ⟨C.cg,C.co+n*4,none⟩=some (.int .i64 (FN:Int))∧w'.cell? ⟨C.cg,C.co+n*4+1,none⟩=some (.int .i64 (PN:Int))) (first|exact HS4 _ (Later.drew _)|assumption) (first
    | (refine step_clearC rfl _ 26 rfl 3 Tryz.underlying26 (.int .i64 0) zero_int rfl rfl C.WB lo (hi - lo) _ (by rfl) k0 (HCC.out _ (p4.kept (Later.drew _))) ?_;intro w7 hw7;have p7:=HCl.out _ (p4.kept (Later.drew w4));rw[←hw7.out]at p7;have dS:=(HD7.out w7 p7).1))
   have o7:OnlyM C w w7:=by rw[hw7.out];exact (o4.drew).setWs _ _
   clear dS hw7;obtain⟨⟨e9,ef,ep⟩,⟨u1,m57⟩,f57,⟨u2,m58⟩,f58,⟨u3,m59⟩,f59,⟨u4,m60⟩,f60,m56,f56,ncg⟩:=HD7.out w7 p7;have HZ7:=HZ.out w7 p7 o7;clear HD7 HZ p7 o7 HX HCl HCC HCd;unfold codeP unitE at HZ7;go_wp2_with fail
   first|exact HZ7|(go_end0;exact HZ7)
def StQ (C:Cx) (ov:Value) (r:St) (n:Ending) (w':World):Prop :=
 match r with
 | .go t=>n=unitE∧∃ iv ov' rv,Pv C w' t (t.top C.x) (codeP C t.fn) iv ov' rv
 | .fin e c t=>PanQ C t ov e c n w'
def isV (i:Is):Value:=.agg #[.int .i64 i.op,.int .i64 i.a,.int .i64 i.b,.int .i64 i.c,.int .i64 i.n]
theorem later_a (w:World) (o:Obj):Later w (w.alloc o):=Below.alloc (Later.refl w) (Nat.le_refl _) o
theorem later_ad (w:World) (o:Obj):Later w (w.alloc o).drew:=Later.trans (later_a w o) (Later.drew _)
theorem st_go {C:Cx}{w w':World}{t:Vm}{iv ov rv:Value}(h:Pv C w t (t.top C.x) (codeP C t.fn) iv ov rv) (l:Later w w'):StQ C ov (.go t) unitE w':=⟨rfl,iv,ov,rv,h.kept l⟩
theorem doInt_any {C:Cx}(hC:CxI C) {w:World}{s:Vm}{iv ov rv:Value}(h:Pv C w s (s.top C.x) (codeP C s.fn) iv ov rv) {A:Nat}(hA:A<16) (op b c n:Int) :
  Calls Tryz.prog 89 #[.pointer (some ⟨C.P,0,none⟩),.agg #[.int .i64 op,.int .i64 (A:Int),.int .i64 b,.int .i64 c,.int .i64 n]] w (StQ C ov (.go (s.set (A:Int) n))):=by
 obtain⟨cr,zr⟩:=h.reg hA;have i1:(A:Int)<16:=by omega
 have HZ:Hid (∀ w',Later (w.setCell ⟨C.P,10+A,none⟩ (.int .i64 n)) w'→StQ C ov (.go (s.set (A:Int) n)) unitE w'):=fun w' l=>st_go (h.setReg hC hA n) l
 generalize StQ C ov (.go (s.set (A:Int) n))=Q at *
 have hlt:=h.box.lt;have hP:¬ C.P=w.heap.size:=by omega
 have hlt2:=h.wd.lt;have hP2:¬ C.WB=w.heap.size:=by omega
 clear h;unfold unitE at HZ;go_enter Tryz.func89,Tryz.ntmps89;go_wp2_with fail
 go_region
 go_wp2_with fail
 go_end0;exact HZ.out _ (by first|exact later_ad _ _|exact later_a _ _)
theorem doCopy_any {C:Cx}(hC:CxI C) {w:World}{s:Vm}{iv ov rv:Value}(h:Pv C w s (s.top C.x) (codeP C s.fn) iv ov rv) {A B:Nat}(hA:A<16) (hB:B<16) (op c n:Int) :
  Calls Tryz.prog 90 #[.pointer (some ⟨C.P,0,none⟩),.agg #[.int .i64 op,.int .i64 (A:Int),.int .i64 (B:Int),.int .i64 c,.int .i64 n]] w (StQ C ov (.go (s.set (A:Int) (s.rg B)))):=by
 obtain⟨cr,zr⟩:=h.reg hA;obtain⟨cb,_⟩:=h.reg hB;have i1:(A:Int)<16:=by omega
 have i2:(B:Int)<16:=by omega
 have HZ:Hid (∀ w',Later (w.setCell ⟨C.P,10+A,none⟩ (.int .i64 (s.rg B))) w'→StQ C ov (.go (s.set (A:Int) (s.rg B))) unitE w'):=fun w' l=>st_go (h.setReg hC hA (s.rg B)) l
 generalize StQ C ov (.go (s.set (A:Int) (s.rg B)))=Q at *
 have hlt:=h.box.lt;have hP:¬ C.P=w.heap.size:=by omega
 have hlt2:=h.wd.lt;have hP2:¬ C.WB=w.heap.size:=by omega
 clear h;unfold unitE at HZ;go_enter Tryz.func90,Tryz.ntmps90;go_wp2_with fail
 go_region
 go_wp2_with fail
 go_end0;exact HZ.out _ (by first|exact later_ad _ _|exact later_a _ _)
theorem doLoad_any {C:Cx}(hC:CxI C) {w:World}{s:Vm}{iv ov rv:Value}(h:Pv C w s (s.top C.x) (codeP C s.fn) iv ov rv) {A N ad:Nat}(hA:A<16) (had:ad=s.fp+N) (hN:ad<12000) (op b c:Int) :
  Calls Tryz.prog 91 #[.pointer (some ⟨C.P,0,none⟩),.agg #[.int .i64 op,.int .i64 (A:Int),.int .i64 b,.int .i64 c,.int .i64 (N:Int)]] w (StQ C ov (.go (s.set (A:Int) (s.W ad)))):=by
 have hCN:=hC.hN;obtain⟨cr,zr⟩:=h.reg hA;obtain⟨c9,_⟩:=h.c9;obtain⟨c57,_⟩:=h.c57;obtain⟨cw,_⟩:=h.word (a:=ad) (by omega);have i1:(A:Int)<16:=by omega
 have i2:(s.fp:Int)+(N:Int)=(ad:Int):=by omega
 have i3:(ad:Int)<(C.N:Int):=by omega
 have i4:(ad:Int)≤12000:=by omega
 clear had hCN;have HZ:Hid (∀ w',Later (w.setCell ⟨C.P,10+A,none⟩ (.int .i64 (s.W ad))) w'→StQ C ov (.go (s.set (A:Int) (s.W ad))) unitE w'):=fun w' l=>st_go (h.setReg hC hA (s.W ad)) l
 generalize StQ C ov (.go (s.set (A:Int) (s.W ad)))=Q at *
 have hlt:=h.box.lt;have hP:¬ C.P=w.heap.size:=by omega
 have hlt2:=h.wd.lt;have hP2:¬ C.WB=w.heap.size:=by omega
 clear h;unfold unitE at HZ;go_enter Tryz.func91,Tryz.ntmps91;go_wp2_with fail
 go_region
 go_wp2_with fail
 go_end0;exact HZ.out _ (by first|exact later_ad _ _|exact later_a _ _)
theorem doStore_any {C:Cx}(hC:CxI C) {w:World}{s:Vm}{iv ov rv:Value}(h:Pv C w s (s.top C.x) (codeP C s.fn) iv ov rv) {A N ad:Nat}(hA:A<16) (had:ad=s.fp+N) (hN:ad<12000) (op b c:Int) :
  Calls Tryz.prog 92 #[.pointer (some ⟨C.P,0,none⟩),.agg #[.int .i64 op,.int .i64 (A:Int),.int .i64 b,.int .i64 c,.int .i64 (N:Int)]] w (StQ C ov (.go { s with W:=fset s.W ad (s.rg A) })):=by
 have hCN:=hC.hN;obtain⟨cr,zr⟩:=h.reg hA;obtain⟨c9,_⟩:=h.c9;obtain⟨c57,_⟩:=h.c57;have haN:ad<C.N:=by omega
 obtain⟨cw,zw⟩:=h.word haN;have i1:(A:Int)<16:=by omega
 have i2:(s.fp:Int)+(N:Int)=(ad:Int):=by omega
 have i3:(ad:Int)<(C.N:Int):=by omega
 have i4:(ad:Int)≤12000:=by omega
 have d1:=hC.d1;clear had hCN;have HZ:Hid (∀ w',Later (w.setCell ⟨C.WB,ad,none⟩ (.int .i64 (s.rg A))) w'→StQ C ov (.go { s with W:=fset s.W ad (s.rg A) }) unitE w'):=fun w' l=>st_go (h.setW hC haN (s.rg A)) l
 generalize StQ C ov (.go { s with W:=fset s.W ad (s.rg A) })=Q at *
 have hlt:=h.box.lt;have hP:¬ C.P=w.heap.size:=by omega
 have hlt2:=h.wd.lt;have hP2:¬ C.WB=w.heap.size:=by omega
 clear h;unfold unitE at HZ;go_enter Tryz.func92,Tryz.ntmps92;go_wp2_with fail
 go_region
 go_wp2_with fail
 go_end0;exact HZ.out _ (by first|exact later_ad _ _|exact later_a _ _)
theorem doJump_any {C:Cx}(hC:CxI C) {w:World}{s:Vm}{iv ov rv:Value}(h:Pv C w s (s.top C.x) (codeP C s.fn) iv ov rv) {N:Nat}(op a b c:Int) :
  Calls Tryz.prog 112 #[.pointer (some ⟨C.P,0,none⟩),.agg #[.int .i64 op,.int .i64 a,.int .i64 b,.int .i64 c,.int .i64 (N:Int)]] w (StQ C ov (.go { s with pc:=N })):=by
 obtain⟨c59,z59⟩:=h.c59;have HZ:Hid (∀ w',Later (w.setCell ⟨C.P,59,none⟩ (.int .i64 (N:Int))) w'→StQ C ov (.go { s with pc:=N }) unitE w'):=fun w' l=>st_go (h.setP hC (s':={ s with pc:=N }) (o:=59) (v:=.int .i64 (N:Int)) (by decide) (e':=s.top C.x) (cp':=codeP C s.fn) (map_ext rfl) rfl rfl rfl rfl rfl) l
 generalize StQ C ov (.go { s with pc:=N })=Q at *
 have hlt:=h.box.lt;have hP:¬ C.P=w.heap.size:=by omega
 have hlt2:=h.wd.lt;have hP2:¬ C.WB=w.heap.size:=by omega
 clear h;unfold unitE at HZ;go_enter Tryz.func112,Tryz.ntmps112;go_wp2_with fail
 first|go_region|skip
 go_wp2_with fail
 go_end0;exact HZ.out _ (by first|exact later_ad _ _|exact later_a _ _)
theorem doIf_any {C:Cx}(hC:CxI C) {w:World}{s:Vm}{iv ov rv:Value}(h:Pv C w s (s.top C.x) (codeP C s.fn) iv ov rv) {A N:Nat}(hA:A<16) (op b c:Int) :
  Calls Tryz.prog 113 #[.pointer (some ⟨C.P,0,none⟩),.agg #[.int .i64 op,.int .i64 (A:Int),.int .i64 b,.int .i64 c,.int .i64 (N:Int)]] w (StQ C ov (if s.rg A=0 then .go { s with pc:=N } else .go s)):=by
 obtain⟨cr,zr⟩:=h.reg hA;obtain⟨c59,z59⟩:=h.c59;have i1:(A:Int)<16:=by omega
 have hlt:=h.box.lt;have hP:¬ C.P=w.heap.size:=by omega
 by_cases hz:s.rg A=0
 ·rw[if_pos hz];have HZ:Hid (∀ w',Later w w'→StQ C ov (.go { s with pc:=N }) unitE (w'.setCell ⟨C.P,59,none⟩ (.int .i64 (N:Int)))):=fun w' l=>st_go ((h.kept l).setP hC (s':={ s with pc:=N }) (o:=59) (v:=.int .i64 (N:Int)) (by decide) (e':=s.top C.x) (cp':=codeP C s.fn) (map_ext rfl) rfl rfl rfl rfl rfl) (Later.refl _)
  generalize StQ C ov (.go { s with pc:=N })=Q at *
  rw[hz]at cr;clear h;unfold unitE at HZ;go_enter Tryz.func113,Tryz.ntmps113;go_wp2_with fail
  go_quiet (fail)
  go_wp2_with fail
  go_end0;exact HZ.out _ (Later.trans (later_a _ _) (Later.drewN' _ _))
 ·rw[if_neg hz];have hne:(s.rg A==0)=false:=by simp[hz]
  have HZ:Hid (∀ w',Later w w'→StQ C ov (.go s) unitE w'):=fun w' l=>st_go h l
  generalize StQ C ov (.go s)=Q at *
  clear h;unfold unitE at HZ;go_enter Tryz.func113,Tryz.ntmps113;go_wp2_with fail
  go_quiet (fail)
  go_wp2_with fail
  go_end0;exact HZ.out _ (Later.trans (later_a _ _) (Later.drewN' _ _))
theorem doPanic_any {C:Cx}{w:World}{s:Vm}{iv ov rv:Value}(h:Pv C w s (s.top C.x) (codeP C s.fn) iv ov rv) {A:Nat}(hA:A<16) (op b c n:Int) :
  Calls Tryz.prog 111 #[.pointer (some ⟨C.P,0,none⟩),.agg #[.int .i64 op,.int .i64 (A:Int),.int .i64 b,.int .i64 c,.int .i64 n]] w (StQ C ov (.fin 2 (s.rg A) s)):=by
 obtain⟨cr,zr⟩:=h.reg hA;have i1:(A:Int)<16:=by omega
 have hlt:=h.box.lt;have hP:¬ C.P=w.heap.size:=by omega
 have HZ:Hid (∀ w',Later w w'→StQ C ov (.fin 2 (s.rg A) s) (finP 2 (s.rg A)) w'):=fun w' l=>⟨rfl,s,_,_,iv,rv,h.kept l,rfl,rfl,rfl,rfl⟩
 generalize StQ C ov (.fin 2 (s.rg A) s)=Q at *
 clear h;unfold finP at HZ;go_enter Tryz.func111,Tryz.ntmps111;go_wp2_with fail
 refine wp_region_held_drew (S:=fun w'=>w'.cell? ⟨w.heap.size,1,none⟩=some (.int .i64 (A:Int))∧w'.cell? ⟨C.P,10+A,none⟩=some (.int .i64 (s.rg A))) (by kernel_rfl) (by go_keep) (fun hHeld=>?_);refine tk 0 (.pointer (some ⟨C.P,0,none⟩)) rfl ?_;(try go_simp);refine tk 1 (.pointer (some ⟨w.heap.size,1,none⟩)) rfl ?_;(try go_simp);refine tk 2 (.int .i64 (A:Int)) rfl ?_;(try go_simp);refine tk 3 (.pointer (some ⟨C.P,0,none⟩)) rfl ?_;(try go_simp);refine tk 4 (.pointer (some ⟨C.P,10,none⟩)) rfl ?_;(try go_simp);refine tk 5 (.pointer (some ⟨C.P,10+A,none⟩)) rfl ?_;(try go_simp);refine tk 6 (.int .i64 (s.rg A)) rfl ?_;(try go_simp);refine tk 7 (.agg #[.int .i64 2,.int .i64 (s.rg A)]) rfl ?_;(try go_simp);refine tk 8 (.iface 118 (.agg #[.int .i64 2,.int .i64 (s.rg A)])) rfl ?_;(try go_simp);refine rd1 9 rfl fun K hK=>?_;go_simp;exact⟨rfl,HZ.out _ (later_ad _ _)⟩
theorem doPass_any {C:Cx}(hC:CxI C) {w:World}{s:Vm}{iv ov rv:Value}(h:Pv C w s (s.top C.x) (codeP C s.fn) iv ov rv) {A N ad:Nat}(hA:A<16) (had:ad=s.top C.x+3+N) (hN:ad<12000) (op b c:Int) :
  Calls Tryz.prog 108 #[.pointer (some ⟨C.P,0,none⟩),.agg #[.int .i64 op,.int .i64 (A:Int),.int .i64 b,.int .i64 c,.int .i64 (N:Int)]] w (StQ C ov (.go { s with W:=fset s.W ad (s.rg A) })):=by
 have hCN:=hC.hN;obtain⟨cr,zr⟩:=h.reg hA;obtain⟨c9,_⟩:=h.c9;obtain⟨c58,_⟩:=h.c58;have haN:ad<C.N:=by omega
 obtain⟨cw,zw⟩:=h.word haN
 obtain⟨a3,ha3⟩:∃ a3,a3=s.top C.x+3:=⟨_,rfl⟩
 have i1:(A:Int)<16:=by omega
 have i2:(s.top C.x:Int)+3=(a3:Int):=by omega
 have i5:(a3:Int)+(N:Int)=(ad:Int):=by omega
 have i3:(ad:Int)<(C.N:Int):=by omega
 have i4:(ad:Int)≤12000:=by omega
 have i6:(a3:Int)≤12000:=by omega
 have d1:=hC.d1;have HZ:Hid (∀ w',Later (w.setCell ⟨C.WB,ad,none⟩ (.int .i64 (s.rg A))) w'→StQ C ov (.go { s with W:=fset s.W ad (s.rg A) }) unitE w'):=fun w' l=>st_go (h.setW hC haN (s.rg A)) l
 generalize StQ C ov (.go { s with W:=fset s.W ad (s.rg A) })=Q at *
 have hlt:=h.box.lt;have hP:¬ C.P=w.heap.size:=by omega
 have hlt2:=h.wd.lt;have hP2:¬ C.WB=w.heap.size:=by omega
 clear h had hCN ha3
 generalize s.top C.x=TP at *
 unfold unitE at HZ;go_enter Tryz.func108,Tryz.ntmps108;go_wp2_with fail
 go_region
 go_wp2_with fail
 go_end0;exact HZ.out _ (by first|exact later_ad _ _|exact later_a _ _)
end Go.Proofs.YtjnpncefkigcbaaGreat
