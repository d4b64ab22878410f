import Derived.Test.YtgaddpkkjebekaaGreatDoorZ17
set_option maxHeartbeats 100000000
set_option maxRecDepth 100000
namespace Go.Proofs.YtgaddpkkjebekaaGreatDoor
open Go.RowKit Go.Maps
def QC (x:St):Prop:=∀ w K bf bd bs fs all seen g o v0 v1 v2 v3 G0 G1 G2 G3,SIn w K bf bd bs fs all seen x g o v0 v1 v2 v3 G0 G1 G2 G3->bd≠0/\bd≠1/\bs≠0/\bs≠1->all.length+x.num<=700000->x.noK->Calls Tryz.prog 58 #[.pointer (some ⟨K,0,none⟩),stV x.kind g o] w (SPt w K bf bd bs fs all seen x g o v1 v2 v3 G1 G2 G3)
theorem SIn.apart {w:World}{K bf bd bs:Nat}{fs all seen:List (List Int)}{x:St}{g o:Nat}{v0 v1 v2 v3:Value}{G0 G1 G2 G3:List Nat}(h:SIn w K bf bd bs fs all seen x g o v0 v1 v2 v3 G0 G1 G2 G3):g∉bd::bs::(G1++G2++G3)/\g∉G1/\(G1++G2++G3).Nodup/\(∀ b∈G1++G2++G3,Sp K bf bd bs b)/\(∀ b∈g::(G1++G2++G3),b∉[bd,bs])/\g∉G1++G2++G3:=by
 have nd:=List.nodup_cons.1 h.nd;have hsub:∀ b∈G1++G2++G3,b∈G0++G1++G2++G3:=fun b q=>by simp only[List.mem_append]at q ⊢;rcases q with (q|q)|q <;> simp[q]
 have hg:g∉G1++G2++G3:=fun q=>nd.1 (hsub g q);have sg:=h.sep g (List.mem_cons_self ..);have sG:∀ b∈G1++G2++G3,Sp K bf bd bs b:=fun b q=>h.sep b (List.mem_cons_of_mem _ (hsub b q));refine⟨fun q=>?_,fun q=>hg (by simp[q]),?_,sG,fun b q=>?_,hg⟩
 ·rcases List.mem_cons.1 q with e|q
  ·exact sg.2.2.1 e
  ·rcases List.mem_cons.1 q with e|q
   ·exact sg.2.2.2.1 e
   ·exact hg q
 ·have:(G0++(G1++G2++G3)).Nodup:=by simpa[List.append_assoc] using nd.2
  exact (List.nodup_append.1 this).2.1
 ·rcases List.mem_cons.1 q with e|q
  ·subst e;simp[sg.2.2.1,sg.2.2.2.1]
  ·simp[(sG b q).2.2.1,(sG b q).2.2.2.1]
theorem DL (x:St) (hE:∀ j (hj:j<x.kids.length),oq x.kids[j]) (hBo:mO x.body) (hEl:mO x.els) (h0:x.kind≠0):QC x:=by
 intro w K bf bd bs fs all seen g o v0 v1 v2 v3 G0 G1 G2 G3 h hm hz hn;obtain⟨hP,hV⟩:=zL x.kind g o;have hV:=hV h0;have ad:=hV.d;have au:=hV.u;have ac:=hV.c;obtain⟨hg,hg1,hnd,hsp,_,_⟩:=h.apart;have hnk:=(St.OT x).1 hn;have hW:=FT x.kids x.body x.els hE hBo hEl w K bf bd bs fs all seen g o v1 v2 v3 G1 G2 G3 (stT x.kind) (.agg #[.pointer (some ⟨g,o,none⟩)]) h.ng h.ty h.lt (h.cells 5 _ rfl).1 (h.cells 6 _ rfl).1 (h.cells 7 _ rfl).1 h.kids h.body h.els hg1 hnd hsp hm (by rw[St.D6]at hz;omega) hnk.2.1 hnk.2.2 hP;have hown:x.jQ=[]:=by unfold St.jQ jk;rw[if_neg h0]
 have HE:Hid (∀ b w',b=(Ex.bM fs seen x.kids&&St.bP fs all seen x.body&&St.bP fs (all++St.decls x.body) seen x.els)->ay (bd::bs::(G1++G2++G3)) w w'->(b=true->ai w' (.list 6 (Ex.ah (Ex.nbs fs all seen x.kids))) [v1] G1/\ai w' (.list 8 (St.ah (St.nbl fs all seen x.body))) [v2] G2/\ai w' (.list 8 (St.ah (St.nbl fs (all++St.decls x.body) seen x.els))) [v3] G3/\Ng w' K bf bd bs fs (all++St.decls x.body++St.decls x.els) seen)->SPt w K bf bd bs fs all seen x g o v1 v2 v3 G1 G2 G3 (.returned (.bool b)) w'):=fun b w' hb o1 hk=>by
  refine⟨b,rfl,?_,OnlyC.iw o1 hg h.lt,fun q=>⟨?_,?_⟩⟩
  ·have hl0:jk x.kind x.name=[]:=hown;have hk0:(x.kind==0)=false:=by simpa using h0
   rw[St.Bg,hb,hl0,List.append_nil,List.append_nil,hk0,Bool.not_false,Bool.true_or,Bool.and_true]
  ·rw[if_neg h0,(aj (o1.block g h.lt hg)).1];exact (h.cells 1 _ rfl).1
  ·have hl0:jk x.kind x.name=[]:=hown;rw[hown,St.Ep,hl0,List.append_nil,List.append_nil,List.nil_append,<- List.append_assoc];exact hk q
 unfold stV
 generalize stT x.kind=T at *
 generalize hQ:SPt w K bf bd bs fs all seen x g o v1 v2 v3 G1 G2 G3=Q at *
 clear hQ h hP hV hnk hown hn hz;go_enter Tryz.func58,Tryz.ntmps58;go_wp2_with fail
 refine hW.mono ?_;rintro e w1 ⟨b,rfl,hb,o1,hk⟩;have HZ:=HE.out b w1 hb o1 hk;clear hW HE hb o1 hk;go_wp2_with fail
 exact HZ
def VD (wd:World) (K bf bd bs:Nat) (fs all seen:List (List Int)) (z:List Int) (u:Value) (w':World):Prop :=
 ∃ nv bb,u=.tuple #[.int .i64 nv,.bool bb]/\ay [bd,bs] wd w'/\(bb=true->z∉all/\nv=(all.length:Int)/\Ng w' K bf bd bs fs (all++[z]) (seen++[z]))/\(bb=false->z∈all)
theorem idecR (w:World) (K bf bd bs:Nat) (fs all seen:List (List Int)) (z:List Int) (h:Ng w K bf bd bs fs all seen) (hz:Nm z) (hl:all.length<=800000) :
  Calls Tryz.prog 87 #[.pointer (some ⟨K,0,none⟩),.string (strOfNums z)] w fun e w'=>∃ u,e=.returned u/\VD w K bf bd bs fs all seen z u w':=by
 refine (Ef w K bf bd bs fs all seen z h hz hl).mono ?_;rintro e w' (⟨hm,rfl,rfl⟩|⟨hm,rfl,hn,ho⟩)
 ·exact⟨_,rfl,0,false,rfl,ay.refl _ _,fun q=>(by cases q),fun _=>hm⟩
 ·exact⟨_,rfl,(all.length:Int),true,rfl,ho,fun _=>⟨hm,rfl,hn⟩,fun q=>(by cases q)⟩
theorem Tu:Enters Tryz.prog 87:=enters_of Tryz.func87 (by kernel_rfl) (by kernel_rfl)
theorem SIn.put {w w5:World}{K bf bd bs:Nat}{fs all seen all' seen':List (List Int)}{x:St}{g o:Nat}{v0 v1 v2 v3:Value}{G0 G1 G2 G3:List Nat}(h:SIn w K bf bd bs fs all seen x g o v0 v1 v2 v3 G0 G1 G2 G3) (hm:bd≠0/\bd≠1/\bs≠0/\bs≠1) (l:ay [bd,bs] w w5) (N:Int) :
  OnlyC g (o+1) (bd::bs::(G1++G2++G3)) w (w5.setCell ⟨g,o+1,none⟩ (.int .i64 N))/\(Ng w5 K bf bd bs fs all' seen'->Ng (w5.setCell ⟨g,o+1,none⟩ (.int .i64 N)) K bf bd bs fs all' seen')/\TyE (w5.setCell ⟨g,o+1,none⟩ (.int .i64 N))/\(∀ m u,m≠1->[.int .i64 x.kind,.int .i64 x.n,.int .i64 x.tk,.int .i64 x.tn,v0,v1,v2,v3][m]?=some u->(w5.setCell ⟨g,o+1,none⟩ (.int .i64 N)).cell? ⟨g,o+m,none⟩=some u)/\ai (w5.setCell ⟨g,o+1,none⟩ (.int .i64 N)) (.list 6 (Ex.ah x.kids)) [v1] G1/\ai (w5.setCell ⟨g,o+1,none⟩ (.int .i64 N)) (.list 8 (St.ah x.body)) [v2] G2/\ai (w5.setCell ⟨g,o+1,none⟩ (.int .i64 N)) (.list 8 (St.ah x.els)) [v3] G3/\(w5.setCell ⟨g,o+1,none⟩ (.int .i64 N)).cell? ⟨g,o+1,none⟩=some (.int .i64 N)/\g<(w5.setCell ⟨g,o+1,none⟩ (.int .i64 N)).heap.size/\(w5.cell? ⟨g,o+1,none⟩=some (.int .i64 x.n)/\w5.frozen? ⟨g,o+1,none⟩=false):=by
 obtain⟨hg,hg1,hnd,hsp,hbb,hgG⟩:=h.apart;have hgb:=l.block g h.lt (hbb g (List.mem_cons_self ..));have hS:ay [g] w5 (w5.setCell ⟨g,o+1,none⟩ (.int .i64 N)):=ay.set (ay.refl _ _) _ (List.mem_singleton.2 rfl);have hsg:∀ b∈[g],Sp K bf bd bs b:=fun b q=>h.sep b (by rw[List.mem_singleton.1 q];exact List.mem_cons_self ..);have c1:=h.cells 1 _ rfl;have c15:w5.cell? ⟨g,o+1,none⟩=some (.int .i64 x.n):=by rw[(aj hgb).1];exact c1.1
 have own2:∀ {d:Dat}{cs:List Value}{G:List Nat},ai w d cs G->(∀ b∈G,b∈G1++G2++G3)->ai (w5.setCell ⟨g,o+1,none⟩ (.int .i64 N)) d cs G:=fun hd hG=>ai.only (ai.only hd l (fun b q=>hbb b (List.mem_cons_of_mem _ (hG b q)))) hS (fun b q e=>hgG (by rw[<-List.mem_singleton.1 e];exact hG b q));refine⟨⟨hS.os.trans l.os,hS.tape.trans l.tape,hS.output.trans l.output,Nat.le_trans l.size hS.size,fun b hb hn hbg=>?_,fun y hy=>?_,fun y=>?_⟩,fun hn=>hn.wO hS hsg,(h.ty.JK (F:=[]) (K:=K) (bf:=bf) l (fun b q=>by cases q) hm).wO hS hsg,fun m u hm1 hu=>?_,own2 h.kids (fun b q=>by simp[q]),own2 h.body (fun b q=>by simp[q]),own2 h.els (fun b q=>by simp[q]),jo c15,by rw[World.size_setCell];exact Nat.lt_of_lt_of_le h.lt l.size,c15,by rw[(aj hgb).2];exact c1.2⟩
 ·rw[hS.block b (Nat.lt_of_lt_of_le hb l.size) (by simpa using hbg),l.block b hb (fun q=>hn (by simp only[List.mem_cons]at q ⊢;rcases q with q|q|q <;> simp_all))]
 ·rw[World.cell?_setCell_other w5 _ _ _ (by simp;try omega),(aj hgb).1]
 ·rw[World.frozen?_setCell,(aj hgb).2]
 ·rw[World.cell?_setCell_other w5 _ _ _ (by simp;try omega),(aj hgb).1];exact (h.cells m u hu).1
theorem EM (x:St) (hE0:∀ j (hj:j<x.kids.length),oq x.kids[j]) (hBo:mO x.body) (hEl:mO x.els) (h0:x.kind=0):QC x:=by
 intro w K bf bd bs fs all seen g o v0 v1 v2 v3 G0 G1 G2 G3 h hm hz hn;have eT:stV x.kind g o=.iface 141 (.agg #[.pointer (some ⟨g,o,none⟩)]):=by rw[h0];rfl
 rw[eT];have ad:=lM (.agg #[.pointer (some ⟨g,o,none⟩)]);obtain⟨hg,hg1,hnd,hsp,_,hgG⟩:=h.apart;have hnk:=(St.OT x).1 hn;have hk0:=hnk.1 h0;obtain⟨wb,hwb⟩:=hidx (w.alloc (.cells #[.pointer (some ⟨g,o,none⟩)] 141));have lb:Later w wb:=by rw[hwb.out];exact ae _ _
 have lb2:Later w wb.drew:=lb.trans (Later.drew _);have hbx:Bxx wb.drew w.heap.size [.pointer (some ⟨g,o,none⟩)]:=by rw[hwb.out];exact (Bxx.new _ _ _).later (Later.drew _)
 have hE:=h.later lb2;have x0:=(hbx.cell 0 _ rfl).1;have hNm:Nm x.name:=by have:=h.nm;rw[ai]at this;obtain⟨_,_,_,q1,q2,_⟩:=this;exact⟨q2,q1.1⟩
 have hrd:RdN wb.drew v0 x.name:=by obtain⟨u,hu,hr⟩:=RdN.iff.1 (ai.rd _ hE.nm);cases hu;exact hr
 have hcv:=eH hrd.rd;have c4:=(hE.cells 4 _ rfl).1;obtain⟨y0,q0,rfl,_⟩:=hrd.slice;have HD:Hid (Calls Tryz.prog 87 #[.pointer (some ⟨K,0,none⟩),.string (strOfNums x.name)] wb.drew fun e w'=>∃ u,e=.returned u/\VD wb.drew K bf bd bs fs all seen x.name u w'):=idecR wb.drew K bf bd bs fs all seen x.name hE.ng hNm (by have:=St.Si x;omega);have hbd:bd<w.heap.size:=h.ng.md.lt;have hbs:bs<w.heap.size:=by obtain⟨_,_,q⟩:=h.ng.ms;exact q.lt
 have HX:Hid (∀ w5,ay [bd,bs] wb.drew w5->w5.cell? ⟨w.heap.size,0,none⟩=some (.pointer (some ⟨g,o,none⟩))/\w5.cell? ⟨g,o+1,none⟩=some (.int .i64 x.n)/\w5.frozen? ⟨g,o+1,none⟩=false):=fun w5 o5=>by
  have hb:=o5.block w.heap.size hbx.lt (by simp;omega);obtain⟨_,_,_,_,_,_,_,_,_,q1,q2⟩:=hE.put (all':=all) (seen':=seen) hm o5 0;exact⟨by rw[(aj hb).1];exact x0,q1,q2⟩
 have HF:Hid (∀ w5 nv,ay [bd,bs] wb.drew w5->x.name∈all->SPt w K bf bd bs fs all seen x g o v1 v2 v3 G1 G2 G3 (.returned (.bool false)) (w5.setCell ⟨g,o+1,none⟩ (.int .i64 nv))):=fun w5 nv o5 hm1=>by
  obtain⟨oc,_⟩:=hE.put (all':=all) (seen':=seen) hm o5 nv;refine⟨false,rfl,?_,(OnlyC.iw (ay.of_later lb2) hg h.lt).trans oc,fun q=>by cases q⟩;rw[St.Bg,h0];simp[hm1]
 have hown:jk x.kind x.name=[x.name]:=by unfold jk;rw[if_pos h0]
 have HW:Hid (∀ w5 nv,ay [bd,bs] wb.drew w5->Ng w5 K bf bd bs fs (all++[x.name]) (seen++[x.name])->Calls Tryz.prog 88 #[.pointer (some ⟨K,0,none⟩),.iface 141 (.agg #[.pointer (some ⟨g,o,none⟩)])] (w5.setCell ⟨g,o+1,none⟩ (.int .i64 nv)) (SWi (w5.setCell ⟨g,o+1,none⟩ (.int .i64 nv)) K bf bd bs fs (all++[x.name]) (seen++[x.name]) x.kids x.body x.els v1 v2 v3 G1 G2 G3)):=fun w5 nv o5 hng=>by
  obtain⟨oc,hn5,hty5,hc5,k5,b5,e5,_,hl5,_,_⟩:=hE.put (all':=all++[x.name]) (seen':=seen++[x.name]) hm o5 nv;exact FT x.kids x.body x.els hE0 hBo hEl _ K bf bd bs fs (all++[x.name]) (seen++[x.name]) g o v1 v2 v3 G1 G2 G3 141 (.agg #[.pointer (some ⟨g,o,none⟩)]) (hn5 hng) hty5 hl5 (hc5 5 _ (by decide) rfl) (hc5 6 _ (by decide) rfl) (hc5 7 _ (by decide) rfl) k5 b5 e5 hg1 hnd hsp hm (by rw[St.D6]at hz;simp;omega) hnk.2.1 hnk.2.2 ⟨fun w=>iY _ w,fun w=>gY _ w⟩
 have HT:Hid (∀ w5 b w',ay [bd,bs] wb.drew w5->x.name∉all->b=(Ex.bM fs (seen++[x.name]) x.kids&&St.bP fs (all++[x.name]) (seen++[x.name]) x.body&&St.bP fs (all++[x.name]++St.decls x.body) (seen++[x.name]) x.els)->ay (bd::bs::(G1++G2++G3)) (w5.setCell ⟨g,o+1,none⟩ (.int .i64 (all.length:Int))) w'->(b=true->ai w' (.list 6 (Ex.ah (Ex.nbs fs (all++[x.name]) (seen++[x.name]) x.kids))) [v1] G1/\ai w' (.list 8 (St.ah (St.nbl fs (all++[x.name]) (seen++[x.name]) x.body))) [v2] G2/\ai w' (.list 8 (St.ah (St.nbl fs (all++[x.name]++St.decls x.body) (seen++[x.name]) x.els))) [v3] G3/\Ng w' K bf bd bs fs (all++[x.name]++St.decls x.body++St.decls x.els) (seen++[x.name]))->SPt w K bf bd bs fs all seen x g o v1 v2 v3 G1 G2 G3 (.returned (.bool b)) w'):=fun w5 b w' o5 hnm hb o1 hk=>by
  obtain⟨oc,_,_,_,_,_,_,hcell,hl5,_,_⟩:=hE.put (all':=all) (seen':=seen) hm o5 (all.length:Int);refine⟨b,rfl,?_,((OnlyC.iw (ay.of_later lb2) hg h.lt).trans oc).trans (OnlyC.iw o1 hg hl5),fun q=>⟨?_,?_⟩⟩
  ·rw[St.Bg,hb,hown,hk0,Ex.bM,Ex.bM,h0];simp[hnm]
  ·rw[if_pos h0,(aj (o1.block g hl5 hg)).1];exact hcell
  ·have e2:x.jQ=[x.name]:=hown;rw[e2,St.Ep,hown,<- List.append_assoc,<- List.append_assoc];exact hk q
 have hl:w.heap.size<wb.drew.heap.size:=hbx.lt;have hgl:=hE.lt;have hKl:=hE.ng.box.lt
 generalize hQ:SPt w K bf bd bs fs all seen x g o v1 v2 v3 G1 G2 G3=Q at *
 clear hQ eT hE hbx hrd h hnk hn hz hNm hown hk0 lb lb2 hE0 hBo hEl hm;go_enter Tryz.func58,Tryz.ntmps58;go_wp2_with fail
 rw[<-hwb.out]
 go_region_law (first
  | (refine eG rfl 87 Tu _ _ rfl [.pointer (some ⟨K,0,none⟩),.string (strOfNums x.name)] rfl (fun u w'=>VD wb.drew K bf bd bs fs all seen x.name u w') HD.out ?_;intro u5 w5 hd5;obtain⟨nv,bb,rfl,o5,hyes,hno⟩:=hd5;obtain⟨z0,z1,z2⟩:=HX.out w5 o5)
  | fail "none")
 all_goals
  have HY:Hid _:=hyes;have HN:Hid _:=hno;clear hyes hno x0 hcv c4 hl hgl hKl hwb z0 z1 z2 HX HD
  cases bb with
  | false =>
   have HZ:=HF.out w5 nv o5 (HN.out rfl);clear HF HT HW HY HN o5
   generalize w5.setCell ⟨g,o+1,none⟩ (.int .i64 nv)=W2 at *
   go_wp2_with fail
   exact HZ
  | true =>
   obtain⟨hm1,rfl,hng5⟩:=HY.out rfl;have hW:=HW.out w5 (all.length:Int) o5 hng5;have HT1:=fun b w'=>HT.out w5 b w' o5 hm1;have HT2:Hid _:=HT1;clear HT1;clear HF HT HW HY HN o5 hng5 hm1
   generalize w5.setCell ⟨g,o+1,none⟩ (.int .i64 (all.length:Int))=W2 at *
   go_wp2_with fail
   refine hW.mono ?_;rintro e w1 ⟨b,rfl,hb,o1,hk⟩;have HZ:=HT2.out b w1 hb o1 hk;clear hW HT2 hb o1 hk;go_wp2_with fail
   exact HZ
theorem St.Bf (fs:List (List Int)) (l r:List St):∀ all seen,St.bP fs all seen (l++r)=(St.bP fs all seen l&&St.bP fs (all++St.decls l) (seen++St.bU l) r):=by
 induction l with
 | nil=>intro all seen;rw[List.nil_append,St.bP,Bool.true_and,St.decls,St.bU,List.append_nil,List.append_nil]
 | cons x l ih=>intro all seen;rw[List.cons_append,St.bP,St.bP,ih,Bool.and_assoc,St.decls,St.bU,List.append_assoc,List.append_assoc]
theorem St.yK {fs all seen:List (List Int)}{l:List St}{j:Nat}(h:j<l.length):St.bP fs all seen (l.take (j+1))=(St.bP fs all seen (l.take j)&&St.Bi fs (all++St.decls (l.take j)) (seen++St.bU (l.take j)) l[j]):=by rw[List.take_succ_eq_append_getElem h,St.Bf,St.bP,St.bP,Bool.and_true]
theorem St.Ji {fs all seen:List (List Int)}{l:List St}{j:Nat}(h:j<l.length) (hb:St.Bi fs (all++St.decls (l.take j)) (seen++St.bU (l.take j)) l[j]=false):St.bP fs all seen l=false:=by
 have e:=List.take_append_drop (j+1) l;rw[<-e,St.Bf,St.yK h,hb,Bool.and_false,Bool.false_and]
theorem St.CE:∀ (l:List St),(St.bU l).Sublist (St.decls l)
 | []=>List.Sublist.refl _
 | x::r=>by
  rw[St.bU,St.decls,St.Ep];exact ((List.sublist_append_left (jk x.kind x.name) (St.decls x.body)).trans (List.sublist_append_left _ (St.decls x.els))).append (St.CE r)
theorem St.Il {l:List St}{j:Nat}(h:j<l.length):St.bU (l.drop j)=l[j].jQ++St.bU (l.drop (j+1)):=by rw[List.drop_eq_getElem_cons h,St.bU]
theorem St.Ik (l:List St) (j:Nat):(St.bU (l.drop j)).Sublist (St.bU l):=by
 have e:=St.CG (l.take j) (l.drop j);rw[List.take_append_drop]at e;rw[e];exact List.sublist_append_right _ _
theorem Qx {w:World}{fs all seen:List (List Int)}{l:List St}{v:Value}{G:List Nat}(h:ai w (.list 8 (St.ah l)) [v] G):∃ a cap,v=.slice a l.length cap/\l.length<=1048576/\(0<l.length->∃ g F,a=some ⟨g,0,none⟩/\G=g::F/\g<w.heap.size/\ax w 8 g 0 (St.ah l) F) /\
  (∀ w',w.heap.size<=w'.heap.size->(∀ g F,G=g::F->0<l.length->ax w' 8 g 0 (St.ah (St.nbl fs all seen l)) F)->ai w' (.list 8 (St.ah (St.nbl fs all seen l))) [v] G):=by
 rw[ai]at h;obtain⟨a,cap,hc,⟨h1,h2,h3⟩,hp,hz⟩:=h;have hv:v=.slice a (St.ah l).length cap:=by simpa using hc
 rw[St.az]at *;subst hv;refine⟨a,cap,rfl,h1,hp,fun w' hs hA=>?_⟩;rw[ai,St.az,St.oN];refine⟨a,cap,rfl,⟨h1,h2,h3⟩,fun q=>?_,hz⟩;obtain⟨g,F,e1,e2,e3,_⟩:=hp q;exact⟨g,F,e1,e2,by omega,hA g F e2 q⟩
theorem St.OV (fs:List (List Int)):∀ (l:List St) (all seen:List (List Int)) (j:Nat) (h:j<l.length),∃ a' s',(St.nbl fs all seen l)[j]'(by rw[St.oN];exact h)=St.nb fs a' s' l[j]
 | x::r,all,seen,0,_=>⟨all,seen,by simp only[St.nbl];rfl⟩
 | x::r,all,seen,j+1,h=>by
  obtain⟨a',s',e⟩:=St.OV fs r (all++x.decl) (seen++x.jQ) j (Nat.lt_of_succ_lt_succ h);exact⟨a',s',by simp only[St.nbl,List.getElem_cons_succ];exact e⟩
theorem yO {w:World}{z:List Int}{v:Value}{G:List Nat}(h:ai w (.bytes z) [v] G):∃ a c,v=.slice a z.length c:=by
 rw[ai]at h;obtain⟨a,c,e,_⟩:=h;exact⟨a,c,by simpa using e⟩
theorem Ng.cut {w w':World}{K bf bd bs n':Nat}{fs all seen r:List (List Int)}{z:List Int}(h:Ng w K bf bd bs fs all (seen++(z::r))) (hz:z∉seen++r) (hM:Mp w' bs n' (cut (jO all (seen++(z::r))) z)) (hn:n'<=all.length) (ht:w.mapTurned w' bs):Ng w' K bf bd bs fs all (seen++r)/\ay [bs] w w':=by
 obtain⟨hb1,hs1,ho1,hta1,hou1⟩:=iP ht;obtain⟨m,_,hms⟩:=h.ms;have hKs:=Iq h.box hms;obtain⟨nf,hf⟩:=h.mf;refine⟨⟨h.box.kept (by omega) (hb1 K hKs),⟨nf,hf.kept (hb1 bf h.ne.2.2)⟩,h.md.kept (hb1 bd h.ne.1),⟨n',hn,hM.congr fun y _=>?_⟩,h.ne,h.nd,fun y hy=>h.sub y (by simp only[List.mem_append,List.mem_cons]at hy ⊢;rcases hy with hy|hy <;> simp[hy])⟩,⟨ho1,hta1,hou1,by omega,fun b _ hn=>hb1 b (by simpa using hn)⟩⟩;unfold Go.Proofs.YtgaddpkkjebekaaGreatDoor.cut jO;by_cases e:y=z
 ·subst e;rw[if_pos rfl,if_neg hz]
 ·rw[if_neg e];by_cases hy:y∈seen++r
  ·rw[if_pos hy,if_pos (by simp only[List.mem_append,List.mem_cons]at hy ⊢;rcases hy with hy|hy <;> simp[hy])]
  ·rw[if_neg hy,if_neg (fun q=>hy (by simp only[List.mem_append,List.mem_cons]at q ⊢;rcases q with q|q|q;exact .inl q;exact absurd q e;exact .inr q))]
theorem Nb (l:List St) (hP:∀ j (hj:j<l.length),QC l[j]):mO l:=by
 intro w K bf bd bs fs all seen v G hng hty hk hnd hsp hz hno hm;obtain⟨a,cap,rfl,hlen,hpos,hback⟩:=Qx (fs:=fs) (all:=all) (seen:=seen) hk
 have HF:Hid (∀ w' j,(hj:j<l.length)->ay (bd::bs::G) w w'->St.Bi fs (all++St.decls (l.take j)) (seen++St.bU (l.take j)) l[j]=false->SBl w K bf bd bs fs all seen l (.slice a l.length cap) G (.returned (.bool false)) w'):=fun w' j hj o1 hb=>⟨false,rfl,(St.Ji hj hb).symm,o1,fun h=>by cases h⟩
 have HT:Hid (∀ w',ay (bd::bs::G) w w'->(∀ g F,G=g::F->0<l.length->ax w' 8 g 0 (St.ah (St.nbl fs all seen l)) F)->St.bP fs all seen l=true->Ng w' K bf bd bs fs (all++St.decls l) seen->SBl w K bf bd bs fs all seen l (.slice a l.length cap) G (.returned (.bool true)) w'):=fun w' o1 hA hu hn=>⟨true,rfl,hu.symm,o1,fun _=>⟨hback w' o1.size hA,hn⟩⟩
 have HS:Hid (∀ g F,G=g::F->0<l.length->ax w 8 g 0 (St.ah (eQ fs all seen l 0)) F):=fun g' F e q=>by
  obtain⟨g2,F2,_,e2,_,hA⟩:=hpos q;rw[e]at e2
  cases e2
  rw[DJ];exact hA
 have HP:Hid (0<l.length->∃ g F,a=some ⟨g,0,none⟩/\G=g::F/\g<w.heap.size):=fun q=>by obtain⟨g2,F2,e1,e2,e3,_⟩:=hpos q;exact⟨g2,F2,e1,e2,e3⟩
 have hI':Hid _:=hP
 have Hz:Hid (∀ j (hj:j<l.length),(all++St.decls (l.take j)).length+l[j].num<=700000):=fun j hj=>by
  have:=St.Ae hj;have:=St.jJ (l.take j);rw[List.length_append];omega
 have HSub:Hid (∀ z∈seen,z∈all):=hng.sub;have Hm:Hid _:=hm;have Hno:Hid _:=hno;have Hsp:Hid _:=hsp;have Hnd:Hid _:=hnd;have Hty:Hid (∀ w',ay (bd::bs::G) w w'->TyE w'):=fun w' o=>hty.JK o hsp hm;have hng0:Ng w K bf bd bs fs (all++St.decls (l.take 0)) (seen++St.bU (l.take 0)):=by rw[List.take_zero,St.decls,St.bU,List.append_nil,List.append_nil];exact hng
 clear hback hpos hk hP hty hng hm hno hsp hnd hz
 generalize hQ:SBl w K bf bd bs fs all seen l (.slice a l.length cap) G=Q at *
 clear hQ;go_enter Tryz.func27,Tryz.ntmps27;go_wp2_with fail
 go_loopw [10] (fun i wr=>∃ (j:Nat),i=.int .i64 (j:Int)/\j<=l.length/\ay (bd::bs::G) w wr/\(∀ g F,G=g::F->0<l.length->ax wr 8 g 0 (St.ah (eQ fs all seen l j)) F)/\Ng wr K bf bd bs fs (all++St.decls (l.take j)) (seen++St.bU (l.take j))/\Hid (St.bP fs all seen (l.take j)=true)) (fun i _=>l.length - (intOf i).toNat)
 case atStart=>exact⟨0,rfl,Nat.zero_le _,ay.refl _ _,HS.out,hng0,by unfold Hid;rw[List.take_zero,St.bP]⟩
 case round =>
  obtain⟨j,rfl,hj,oR,hA,hngR,HU⟩:=hrel;clear hng0 HS;by_cases hlt:j<l.length
  ·obtain⟨gk,F,rfl,rfl,hgk⟩:=HP.out (by omega);have i1:(j:Int)<(l.length:Int):=by omega
   obtain⟨u0,u1,u2,u3,H0,H1,H2,H3,hE,HK⟩:=Ri hngR (Hty.out _ oR) hgk oR (hA _ _ rfl (by omega)) Hnd.out Hsp.out hlt;have hP1:=wY l[j].kind gk (j*8) wr (hE.cells 0 _ rfl).1;have hP2:=fun w' (q:Later wr w')=>hI'.out j hlt w' K bf bd bs fs _ _ gk (j*8) u0 u1 u2 u3 H0 H1 H2 H3 (hE.later q) Hm.out (Hz.out j hlt) (St.JM l Hno.out j hlt);have HK':Hid _:=HK;have hgw:=hE.lt;clear HK hE hA oR hngR;go_wp2_with fail
   refine hP1.mono ?_;rintro e w2 ⟨rfl,l2⟩;have hP3:=hP2 w2 l2;clear hP1 hP2
   generalize hxv:stV l[j].kind gk (j*8)=xv at *
   clear hxv;go_wp2_with fail
   refine hP3.mono ?_;rintro e w3 ⟨b,rfl,hb,oc,hok⟩;obtain⟨o3,HA⟩:=HK'.out w2 w3 l2 oc;obtain⟨e1,e2,e3,e4,e5,e6,e7,e8⟩:=St.Fh fs (all++St.decls (l.take j)) (seen++St.bU (l.take j)) l[j]
   have HB2:Hid (b=true->ax w3 8 gk 0 (St.ah (eQ fs all seen l (j+1))) F/\Ng w3 K bf bd bs fs (all++St.decls (l.take (j+1))) (seen++St.bU (l.take (j+1)))):=fun q=>by
    obtain⟨k1,k2,k3,k4,k5⟩:=hok q;refine⟨HA (by rw[e2];exact k1) (by rw[e6];exact k2) (by rw[e7];exact k3) (by rw[e8];exact k4),?_⟩;rw[St.Jk hlt,St.Ij hlt,<- List.append_assoc,<- List.append_assoc];exact k5
   have HU2:Hid (b=true->St.bP fs all seen (l.take (j+1))=true):=fun q=>by rw[St.yK hlt,HU.out,<- hb,q];rfl
   have HF2:Hid (b=false->Q (.returned (.bool false)) w3):=fun q=>HF.out w3 j hlt o3 (by rw[<-hb,q]);clear hP3 hok HA HK' oc hb HU e1 e2 e3 e4 e5 e6 e7 e8
   cases b with
   | false =>
    have HF3:=HF2.out rfl;clear HF2 HU2 HB2;go_wp2_with fail
    exact HF3
   | true =>
    obtain⟨hA3,hn3⟩:=HB2.out rfl;have HU3:Hid (St.bP fs all seen (l.take (j+1))=true):=HU2.out rfl;clear HF2 HU2 HB2;go_wp2_with fail
    go_roundw
    case rel=>exact⟨j+1,by go_num,by omega,o3,fun g' F' e _=>by cases e;exact hA3,hn3,HU3⟩
    case measure=>simp[intOf];omega
  ·have i1:¬ (j:Int)<(l.length:Int):=by omega
   have i2:decide ((j:Int)<(l.length:Int))=false:=decide_eq_false i1;have hjj:j=l.length:=by omega
   subst hjj;rw[EL]at hA;rw[List.take_length]at hngR HU;have HA:Hid _:=hA;have hng1:Ng wr K bf bd bs fs (all++St.decls l) (seen++St.bU (l.drop 0)):=by rw[List.drop_zero];exact hngR
   clear hA hngR HF hI' Hz Hno i1 i2;have Hfin:Hid (∀ w',ay (bd::bs::G) w w'->(∀ g F,G=g::F->0<l.length->ax w' 8 g 0 (St.ah (St.nbl fs all seen l)) F)->Ng w' K bf bd bs fs (all++St.decls l) (seen++St.bU (l.drop l.length))->Q (.returned (.bool true)) w'):=fun w' o' hA' hn=>HT.out w' o' hA' HU.out (by rw[List.drop_length,St.bU,List.append_nil]at hn;exact hn);clear HT HU
   generalize wr=wo at *
   go_wp2_with fail
   go_loopw [23] (fun i wr=>∃ (j:Nat),i=.int .i64 (j:Int)/\j<=l.length/\ay (bd::bs::G) w wr/\(∀ g F,G=g::F->0<l.length->ax wr 8 g 0 (St.ah (St.nbl fs all seen l)) F)/\Ng wr K bf bd bs fs (all++St.decls l) (seen++St.bU (l.drop j))) (fun i _=>l.length - (intOf i).toNat)
   case atStart=>exact⟨0,rfl,Nat.zero_le _,oR,HA.out,hng1⟩
   case round =>
    obtain⟨j,rfl,hj,oR,hA,hngR⟩:=hrel;clear hng1 HA;by_cases hlt:j<l.length
    ·obtain⟨gk,F,rfl,rfl,hgk⟩:=HP.out (by omega);have i1:(j:Int)<(l.length:Int):=by omega
     have hA1:=hA _ _ rfl (by omega);have hjl:j<(St.ah (St.nbl fs all seen l)).length:=by rw[St.az,St.oN];exact hlt
     obtain⟨cs,F1,Fj,F2,eF,_,hc,hd,_⟩:=ax.lens _ j hjl hA1;rw[St.dP _ j (by rw[St.oN];exact hlt)]at hd;obtain⟨a',s',enb⟩:=St.OV fs l all seen j hlt;rw[enb]at hd;obtain⟨u0,u1,u2,u3,H0,H1,H2,H3,rfl,_,hn,hkd,hbd,hel⟩:=St.iO hd;obtain⟨e1,e2,e3,e4,e5,e6,e7,e8⟩:=St.Fh fs a' s' l[j];rw[Nat.zero_add,e1,e3,e4]at hc;rw[e5]at hn;have hgw:gk<wr.heap.size:=Nat.lt_of_lt_of_le hgk oR.size;have c0:wr.cell? ⟨gk,j*8,none⟩=some (.int .i64 l[j].kind):=(hc 0 _ rfl).1;have c1:=(hc 1 _ rfl).1;have c2:=(hc 2 _ rfl).1;have c3:=(hc 3 _ rfl).1;have c4:=(hc 4 _ rfl).1;have c5:=(hc 5 _ rfl).1;have c6:=(hc 6 _ rfl).1;have c7:=(hc 7 _ rfl).1;obtain⟨s0,t0,rfl⟩:=yO hn;obtain⟨s1,r1,t1,rfl⟩:=dI hkd;obtain⟨s2,r2,t2,rfl⟩:=dI hbd;obtain⟨s3,r3,t3,rfl⟩:=dI hel;clear e1 e2 e3 e4 e5 e6 e7 e8 hkd hbd hel hd hc enb
     generalize (St.nb fs a' s' l[j]).n=nn at *
     obtain⟨wb,hwb⟩:=hidx (wr.alloc (.cells #[.int .i64 l[j].kind,.int .i64 nn,.int .i64 l[j].tk,.int .i64 l[j].tn,.slice s0 l[j].name.length t0,.slice s1 r1 t1,.slice s2 r2 t2,.slice s3 r3 t3] 110));have lb:Later wr wb:=by rw[hwb.out];exact ae _ _
     have lb2:Later wr wb.drew:=lb.trans (Later.drew _);have hbx:Bxx wb wr.heap.size [.int .i64 l[j].kind,.int .i64 nn,.int .i64 l[j].tk,.int .i64 l[j].tn,.slice s0 l[j].name.length t0,.slice s1 r1 t1,.slice s2 r2 t2,.slice s3 r3 t3]:=by rw[hwb.out];exact Bxx.new _ _ _
     have hdrop:=St.Il hlt
     have HOa:Hid (∀ w',ay [bs] wr w'->∀ g' F',gk::F=g'::F'->0<l.length->ax w' 8 g' 0 (St.ah (St.nbl fs all seen l)) F'):=fun w' o' g' F' e _=>by
      cases e
      exact ax.agree o'.size _ hA1 (o'.block gk hgw (by have:=(Hsp.out gk (List.mem_cons_self ..)).2.2.2.1;simpa using this)) (fun b q=>o'.block b (ax.lt _ hA1 b q) (by have:=(Hsp.out b (List.mem_cons_of_mem _ q)).2.2.2.1;simpa using this))
     by_cases h0:l[j].kind=0
     ·have hown:l[j].jQ=[l[j].name]:=by unfold St.jQ jk;rw[if_pos h0]
      rw[hdrop,hown,List.singleton_append]at hngR;have hNm:Nm l[j].name:=by have:=hn;rw[ai]at this;obtain⟨_,_,_,q1,q2,_⟩:=this;exact⟨q2,q1.1⟩
      have hngD:=hngR.later lb2
      have hnin:l[j].name∉seen++St.bU (l.drop (j+1)):=fun q=>by
       have hall:=hngR.nd;have hsubl:(St.bU (l.drop j)).Sublist (St.decls l):=(St.Ik l j).trans (St.CE l);rw[hdrop,hown]at hsubl
       have hndl:=(List.nodup_append.1 hall)
       have hnd1:=hsubl.nodup hndl.2.1;rcases List.mem_append.1 q with q|q
       ·exact hndl.2.2 _ (HSub.out _ q) _ (hsubl.subset (List.mem_append_left _ (List.mem_singleton.2 rfl))) rfl
       ·exact (List.nodup_cons.1 hnd1).1 q
      obtain⟨m,hm1,hms⟩:=hngD.ms;obtain⟨w5,n5,hrun,hM5,hn5,ht5⟩:=hms.del hNm 0;obtain⟨hng5,o5⟩:=hngD.cut hnin hM5 (Nat.le_trans hn5 hm1) ht5;have O5:ay (bd::bs::gk::F) w w5:=(oR.trans (ay.of_later lb2)).trans (o5.mono (fun b q=>by rw[List.mem_singleton.1 q];simp));have hA5:=HOa.out w5 ((ay.of_later lb2).trans o5);have x2:=(hngD.box.cell 2 _ rfl).1;have hKl:=hngD.box.lt;have hrd:RdN wb.drew (.slice s0 l[j].name.length t0) l[j].name:=by obtain⟨u,hu,hr⟩:=RdN.iff.1 (ai.rd _ (bz hn lb2));cases hu;exact hr
      have hcv:=eH hrd.rd;have b4:wb.drew.cell? ⟨wr.heap.size,4,none⟩=some (.slice s0 l[j].name.length t0):=((hbx.later (Later.drew _)).cell 4 _ rfl).1;rw[h0]at c0 hwb;clear hA hA1 hngR HOa hn hrd hnin hms hM5 hn5 ht5 hngD hbx hdrop hown hNm lb lb2 o5 Hfin;go_wp2_with fail
      rw[<-hwb.out];clear hwb;go_region_law fail
      all_goals
       go_wp2_with fail
       go_roundw
       case rel=>exact⟨j+1,by go_num,by omega,O5,hA5,hng5⟩
       case measure=>simp[intOf];omega
     ·have hown:l[j].jQ=[]:=by unfold St.jQ jk;rw[if_neg h0]
      rw[hdrop,hown,List.nil_append]at hngR;have hng5:=hngR.later lb;have O5:ay (bd::bs::gk::F) w wb:=oR.trans (ay.of_later lb);have hA5:=HOa.out wb (ay.of_later lb);have m0:=neb h0;clear hA hA1 hngR HOa hn hbx hdrop hown lb lb2 Hfin h0;go_wp2_with fail
      rw[<-hwb.out];go_roundw
      case rel=>exact⟨j+1,by go_num,by omega,O5,hA5,hng5⟩
      case measure=>simp[intOf];omega
    ·have i1:¬ (j:Int)<(l.length:Int):=by omega
     have i2:decide ((j:Int)<(l.length:Int))=false:=decide_eq_false i1;have hjj:j=l.length:=by omega
     subst hjj;have HZ:=Hfin.out wr oR hA hngR;clear Hfin hA hngR oR;go_wp2_with fail
     exact HZ
end Go.Proofs.YtgaddpkkjebekaaGreatDoor
