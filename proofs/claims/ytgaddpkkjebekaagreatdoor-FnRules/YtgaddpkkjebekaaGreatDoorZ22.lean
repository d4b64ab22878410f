import Derived.Test.YtgaddpkkjebekaaGreatDoorZ12
import Derived.Test.YtgaddpkkjebekaaGreatDoorZ21
set_option maxHeartbeats 100000000
set_option maxRecDepth 100000
namespace Go.Proofs.YtgaddpkkjebekaaGreatDoor
open Go.RowKit Go.Maps
theorem exV3 (n:Int) (g o:Nat):exV 3 n g o=.iface 146 (.agg #[.pointer (some ⟨g,o,none⟩)]):=rfl
theorem exV6 (n:Int) (g o:Nat):exV 6 n g o=.iface 149 (.agg #[.pointer (some ⟨g,o,none⟩)]):=rfl
theorem OnlyC.cell {g y:Nat}{F:List Nat}{w w':World}(h:ay F w w') (hg:g∉F) (hl:g<w.heap.size) {u:Value}(hc:w.cell? ⟨g,y,none⟩=some u):w'.cell? ⟨g,y,none⟩=some u:=by rw[(aj (h.block g hl hg)).1];exact hc
theorem EIn.put {w wd:World}{K bf bd bs:Nat}{fs all seen:List (List Int)}{x:Ex}{g o:Nat}{v0 v1:Value}{G0 G1:List Nat}(h:EIn w K bf bd bs fs all seen x g o v0 v1 G0 G1) (l:Later w wd) (N:Int) :
  OnlyC g (o+1) G1 w (wd.setCell ⟨g,o+1,none⟩ (.int .i64 N))/\Ng (wd.setCell ⟨g,o+1,none⟩ (.int .i64 N)) K bf bd bs fs all seen/\TyE (wd.setCell ⟨g,o+1,none⟩ (.int .i64 N))/\(wd.setCell ⟨g,o+1,none⟩ (.int .i64 N)).cell? ⟨g,o+5,none⟩=some v1/\ai (wd.setCell ⟨g,o+1,none⟩ (.int .i64 N)) (.list 6 (Ex.ah x.kids)) [v1] G1/\(wd.setCell ⟨g,o+1,none⟩ (.int .i64 N)).cell? ⟨g,o+1,none⟩=some (.int .i64 N)/\g<(wd.setCell ⟨g,o+1,none⟩ (.int .i64 N)).heap.size:=by
 have hd:=h.later l;have nd:=List.nodup_cons.1 h.nd;have hS:ay [g] wd (wd.setCell ⟨g,o+1,none⟩ (.int .i64 N)):=ay.set (ay.refl _ _) _ (List.mem_singleton.2 rfl);have hsp:∀ b∈[g],Sp K bf bd bs b:=fun b q=>h.sep b (by rw[List.mem_singleton.1 q];exact List.mem_cons_self ..)
 have h5:(wd.setCell ⟨g,o+1,none⟩ (.int .i64 N)).cell? ⟨g,o+5,none⟩=some v1:=by
  rw[World.cell?_setCell_other wd _ _ _ (by simp)];exact (hd.cells 5 _ rfl).1
 refine⟨⟨hS.os.trans l.os,hS.tape.trans l.tape,hS.output.trans l.output,Nat.le_trans l.size hS.size,fun b hb hn hg=>?_,fun y hy=>?_,fun y=>?_⟩,hd.ng.wO hS hsp,hd.ty.wO hS hsp,h5,ai.only hd.kids hS (fun b q e=>nd.1 (by rw[<-List.mem_singleton.1 e];exact List.mem_append_right _ q)),jo (hd.cells 1 _ rfl).1,by rw[World.size_setCell];exact hd.lt⟩
 ·rw[hS.block b (Nat.lt_of_lt_of_le hb l.size) (by simpa using hg),l.block b hb]
 ·rw[World.cell?_setCell_other wd _ _ _ (by simp;try omega),(aj (l.block g h.lt)).1]
 ·rw[World.frozen?_setCell,(aj (l.block g h.lt)).2]
theorem Gx (w:World) (a:Addr) (v:Value):w.drew.setCell a v=(w.setCell a v).drew:=by rfl
theorem EPt.made {w W2 w':World}{fs all seen:List (List Int)}{x:Ex}{g o:Nat}{v1:Value}{G1:List Nat}{b:Bool}(oc:OnlyC g (o+1) G1 w W2) (hc:W2.cell? ⟨g,o+1,none⟩=some (.int .i64 (nbN fs all seen x.kind x.n x.name))) (hg:g∉G1) (hl:g<W2.heap.size) (hb:b=Ex.bM fs seen x.kids) (o1:ay G1 W2 w') (hk:b=true->ai w' (.list 6 (Ex.ah (Ex.nbs fs all seen x.kids))) [v1] G1) (hu:x.lN fs seen=Ex.bM fs seen x.kids):EPt w fs all seen x g o v1 G1 (.returned (.bool b)) w' :=
 ⟨b,rfl,by rw[hu,hb],oc.trans (OnlyC.iw o1 hg hl),fun q=>⟨OnlyC.cell o1 hg hl hc,hk q⟩⟩
theorem EPt.bad {w W2:World}{fs all seen:List (List Int)}{x:Ex}{g o:Nat}{v1:Value}{G1:List Nat}(oc:OnlyC g (o+1) G1 w W2) (hu:x.lN fs seen=false):EPt w fs all seen x g o v1 G1 (.returned (.bool false)) W2:=⟨false,rfl,hu.symm,oc,fun q=>by cases q⟩
theorem Lj {w:World}{K bf bd bs:Nat}{fs all seen:List (List Int)}(h:Ng w K bf bd bs fs all seen) {z:List Int}(hz:z∈seen):(jO all seen z).isSome=true:=by
 unfold jO;rw[if_pos hz];exact (kH all all.length z (Nat.le_refl _)).2 (by rw[List.take_length];exact h.sub z hz)
theorem seen_none {all seen:List (List Int)}{z:List Int}(hz:z∉seen):jO all seen z=none:=by unfold jO;rw[if_neg hz]
theorem FY (x:Ex) (hI:∀ j (hj:j<x.kids.length),oq x.kids[j]) (h3:x.kind≠3) (h6:x.kind≠6):oq x:=by
 intro w K bf bd bs fs all seen g o v0 v1 G0 G1 h;obtain⟨T,pv,e,hP,hV⟩:=Ql x.kind x.n g o;have hV:=hV h3 h6;have ad:=hV.d;have au:=hV.u;have ac:=hV.c;have nd:=List.nodup_cons.1 h.nd;have n2:=List.nodup_append.1 nd.2;have hg1:g∉G1:=fun q=>nd.1 (List.mem_append_right _ q);have hW:=Au x.kids hI w K bf bd bs fs all seen g o v1 G1 T pv h.ng h.ty (h.cells 5 _ rfl).1 h.kids n2.2.1 (fun b q=>h.sep b (List.mem_cons_of_mem _ (List.mem_append_right _ q))) hP
 have HE:Hid (∀ b w',b=Ex.bM fs seen x.kids->ay G1 w w'->(b=true->ai w' (.list 6 (Ex.ah (Ex.nbs fs all seen x.kids))) [v1] G1)->EPt w fs all seen x g o v1 G1 (.returned (.bool b)) w'):=fun b w' hb o1 hk=>by
  refine⟨b,rfl,?_,OnlyC.iw o1 hg1 h.lt,fun q=>⟨?_,hk q⟩⟩
  ·rw[Ex.qP,hb];simp[h3,h6]
  ·unfold nbN;rw[if_neg h3,if_neg h6];exact OnlyC.cell o1 hg1 h.lt (h.cells 1 _ rfl).1
 rw[e]
 generalize hQ:EPt w fs all seen x g o v1 G1=Q at *
 clear hQ h hP hV nd n2;go_enter Tryz.func58,Tryz.ntmps58;go_wp2_with fail
 refine hW.mono ?_;rintro e w1 ⟨b,rfl,hb,o1,hk⟩;have HZ:=HE.out b w1 hb o1 hk;clear hW HE hb o1 hk;go_wp2_with fail
 exact HZ
theorem MS (x:Ex) (hI:∀ j (hj:j<x.kids.length),oq x.kids[j]) (h3:x.kind=3):oq x:=by
 intro w K bf bd bs fs all seen g o v0 v1 G0 G1 h;rw[h3,exV3];have nd:=List.nodup_cons.1 h.nd;have n2:=List.nodup_append.1 nd.2;have hg1:g∉G1:=fun q=>nd.1 (List.mem_append_right _ q);have ad:=qB (.agg #[.pointer (some ⟨g,o,none⟩)]);have au:=xm (.agg #[.pointer (some ⟨g,o,none⟩)]);obtain⟨wb,hwb⟩:=hidx (w.alloc (.cells #[.pointer (some ⟨g,o,none⟩)] 146));have lb:Later w wb:=by rw[hwb.out];exact ae _ _
 have lb2:Later w wb.drew:=lb.trans (Later.drew _);have hbx:Bxx wb.drew w.heap.size [.pointer (some ⟨g,o,none⟩)]:=by rw[hwb.out];exact (Bxx.new _ _ _).later (Later.drew _)
 have hE:=h.later lb2;have x0:=(hbx.cell 0 _ rfl).1;have x2:=(hE.ng.box.cell 2 _ rfl).1;obtain⟨m,_,hms⟩:=hE.ng.ms;have hNm:Nm x.name:=by have:=h.nm;rw[ai]at this;obtain⟨_,_,_,q1,q2,_⟩:=this;exact⟨q2,q1.1⟩
 have hlk:=hms.look hNm;have hrd:RdN wb.drew v0 x.name:=by obtain⟨u,hu,hr⟩:=RdN.iff.1 (ai.rd _ hE.nm);cases hu;exact hr
 have hcv:=eH hrd.rd;have c1:=(hE.cells 1 _ rfl).1;have f1:=(hE.cells 1 _ rfl).2;have c4:=(hE.cells 4 _ rfl).1;obtain⟨y0,q0,rfl,_⟩:=hrd.slice;have hl:w.heap.size<wb.drew.heap.size:=hbx.lt;have hgl:=hE.lt;have hKl:=hE.ng.box.lt;have hnb:nbN fs all seen x.kind x.n x.name=((jO all seen) x.name).getD 0:=by unfold nbN;rw[if_pos h3]
 have HU:Hid (((jO all seen) x.name).isSome=true->x.lN fs seen=Ex.bM fs seen x.kids):=fun q=>by
  have hm:x.name∈seen:=by
   by_cases e:x.name∈seen
   ·exact e
   ·rw[seen_none e]at q;cases q
  rw[Ex.qP,h3];simp[hm]
 have HN:Hid (((jO all seen) x.name).isSome=false->x.lN fs seen=false):=fun q=>by
  have hm:x.name∉seen:=by intro e;rw[Lj h.ng e]at q;cases q
  rw[Ex.qP,h3];simp[hm]
 have Hnb:Hid _:=hnb;clear hnb
 generalize ((jO all seen) x.name).isSome=sb at *
 generalize ((jO all seen) x.name).getD 0=sv at *
 have hput:=h.put lb2 sv;rw[Gx]at hput;obtain⟨oc,hng2,hty2,h52,hk2,hc2,hl2⟩:=hput;obtain⟨W2,hW2⟩:=hidx (wb.setCell ⟨g,o+1,none⟩ (.int .i64 sv)).drew;rw[<-hW2.out]at oc hng2 hty2 h52 hk2 hc2 hl2;have hW:=Au x.kids hI W2 K bf bd bs fs all seen g o v1 G1 146 (.agg #[.pointer (some ⟨g,o,none⟩)]) hng2 hty2 h52 hk2 n2.2.1 (fun b q=>h.sep b (List.mem_cons_of_mem _ (List.mem_append_right _ q))) ⟨fun w=>kX _ w,fun w=>jF _ w⟩;have HE:Hid (sb=true->∀ b w',b=Ex.bM fs seen x.kids->ay G1 W2 w'->(b=true->ai w' (.list 6 (Ex.ah (Ex.nbs fs all seen x.kids))) [v1] G1)->EPt w fs all seen x g o v1 G1 (.returned (.bool b)) w'):=fun q b w' hb o1 hk=>EPt.made oc (by rw[Hnb.out];exact hc2) hg1 hl2 hb o1 hk (HU.out q);have HB:Hid (sb=false->EPt w fs all seen x g o v1 G1 (.returned (.bool false)) W2):=fun q=>EPt.bad oc (HN.out q);have HW:Hid _:=hW
 generalize hQ:EPt w fs all seen x g o v1 G1=Q at *
 clear hQ Hnb HU HN oc hng2 hty2 h52 hk2 hc2 hl2 hE hms hrd hbx h nd n2 hNm hI lb lb2 hW;go_enter Tryz.func58,Tryz.ntmps58;go_wp2_with fail
 rw[<-hwb.out];go_region_law fail
 all_goals
  rw[<-hW2.out];have hW:Calls Tryz.prog 88 #[.pointer (some ⟨K,0,none⟩),.iface 146 (.agg #[.pointer (some ⟨g,o,none⟩)])] W2 (EWi W2 fs all seen x.kids v1 G1):=HW.out;clear HW x0 x2 hlk hcv c1 f1 c4 hl hgl hKl hwb hW2
  cases sb with
  | false =>
   have HZ:=HB.out rfl;clear HB HE hW;go_wp2_with fail
   exact HZ
  | true =>
   have HE':=HE.out rfl;have HE2:Hid _:=HE';clear HE HB HE';go_wp2_with fail
   refine hW.mono ?_;rintro e w1 ⟨b,rfl,hb,o1,hk⟩;have HZ:=HE2.out b w1 hb o1 hk;clear hW HE2 hb o1 hk;go_wp2_with fail
   exact HZ
theorem IM (x:Ex) (hI:∀ j (hj:j<x.kids.length),oq x.kids[j]) (h3:x.kind=6):oq x:=by
 intro w K bf bd bs fs all seen g o v0 v1 G0 G1 h;rw[h3,exV6];have nd:=List.nodup_cons.1 h.nd;have n2:=List.nodup_append.1 nd.2;have hg1:g∉G1:=fun q=>nd.1 (List.mem_append_right _ q);have ad:=pJ (.agg #[.pointer (some ⟨g,o,none⟩)]);have au:=vK (.agg #[.pointer (some ⟨g,o,none⟩)]);have ac:=uC (.agg #[.pointer (some ⟨g,o,none⟩)]);obtain⟨wb,hwb⟩:=hidx (w.alloc (.cells #[.pointer (some ⟨g,o,none⟩)] 149));have lb:Later w wb:=by rw[hwb.out];exact ae _ _
 have lb2:Later w wb.drew:=lb.trans (Later.drew _);have hbx:Bxx wb.drew w.heap.size [.pointer (some ⟨g,o,none⟩)]:=by rw[hwb.out];exact (Bxx.new _ _ _).later (Later.drew _)
 have hE:=h.later lb2;have x0:=(hbx.cell 0 _ rfl).1;have x2:=(hE.ng.box.cell 0 _ rfl).1;obtain⟨m,hms⟩:=hE.ng.mf;have hNm:Nm x.name:=by have:=h.nm;rw[ai]at this;obtain⟨_,_,_,q1,q2,_⟩:=this;exact⟨q2,q1.1⟩
 have hlk:=hms.look hNm;have hrd:RdN wb.drew v0 x.name:=by obtain⟨u,hu,hr⟩:=RdN.iff.1 (ai.rd _ hE.nm);cases hu;exact hr
 have hcv:=eH hrd.rd;have c1:=(hE.cells 1 _ rfl).1;have f1:=(hE.cells 1 _ rfl).2;have c4:=(hE.cells 4 _ rfl).1;obtain⟨y0,q0,rfl,_⟩:=hrd.slice;have hl:w.heap.size<wb.drew.heap.size:=hbx.lt;have hgl:=hE.lt;have hKl:=hE.ng.box.lt;have hnb:nbN fs all seen x.kind x.n x.name=((plc fs) x.name).getD 0:=by unfold nbN;rw[if_neg (by rw[h3];decide),if_pos h3]
 have HU:Hid (((plc fs) x.name).isSome=true->x.lN fs seen=Ex.bM fs seen x.kids):=fun q=>by
  have hm:x.name∈fs:=by
   by_cases e:x.name∈fs
   ·exact e
   ·rw[zX e]at q;cases q
  rw[Ex.qP,h3];simp[hm]
 have HN:Hid (((plc fs) x.name).isSome=false->x.lN fs seen=false):=fun q=>by
  have hm:x.name∉fs:=by intro e;rw[show (plc fs x.name).isSome=true from (kH fs fs.length x.name (Nat.le_refl _)).2 (by rw[List.take_length];exact e)]at q;cases q
  rw[Ex.qP,h3];simp[hm]
 have Hnb:Hid _:=hnb;clear hnb
 generalize ((plc fs) x.name).isSome=sb at *
 generalize ((plc fs) x.name).getD 0=sv at *
 have hput:=h.put lb2 sv;rw[Gx]at hput;obtain⟨oc,hng2,hty2,h52,hk2,hc2,hl2⟩:=hput;obtain⟨W2,hW2⟩:=hidx (wb.setCell ⟨g,o+1,none⟩ (.int .i64 sv)).drew;rw[<-hW2.out]at oc hng2 hty2 h52 hk2 hc2 hl2;have hW:=Au x.kids hI W2 K bf bd bs fs all seen g o v1 G1 149 (.agg #[.pointer (some ⟨g,o,none⟩)]) hng2 hty2 h52 hk2 n2.2.1 (fun b q=>h.sep b (List.mem_cons_of_mem _ (List.mem_append_right _ q))) ⟨fun w=>jZ _ w,fun w=>jq _ w⟩;have HE:Hid (sb=true->∀ b w',b=Ex.bM fs seen x.kids->ay G1 W2 w'->(b=true->ai w' (.list 6 (Ex.ah (Ex.nbs fs all seen x.kids))) [v1] G1)->EPt w fs all seen x g o v1 G1 (.returned (.bool b)) w'):=fun q b w' hb o1 hk=>EPt.made oc (by rw[Hnb.out];exact hc2) hg1 hl2 hb o1 hk (HU.out q);have HB:Hid (sb=false->EPt w fs all seen x g o v1 G1 (.returned (.bool false)) W2):=fun q=>EPt.bad oc (HN.out q);have HW:Hid _:=hW
 generalize hQ:EPt w fs all seen x g o v1 G1=Q at *
 clear hQ Hnb HU HN oc hng2 hty2 h52 hk2 hc2 hl2 hE hms hrd hbx h nd n2 hNm hI lb lb2 hW;go_enter Tryz.func58,Tryz.ntmps58;go_wp2_with fail
 rw[<-hwb.out];go_region_law fail
 all_goals
  rw[<-hW2.out];have hW:Calls Tryz.prog 88 #[.pointer (some ⟨K,0,none⟩),.iface 149 (.agg #[.pointer (some ⟨g,o,none⟩)])] W2 (EWi W2 fs all seen x.kids v1 G1):=HW.out;clear HW x0 x2 hlk hcv c1 f1 c4 hl hgl hKl hwb hW2
  cases sb with
  | false =>
   have HZ:=HB.out rfl;clear HB HE hW;go_wp2_with fail
   exact HZ
  | true =>
   have HE':=HE.out rfl;have HE2:Hid _:=HE';clear HE HB HE';go_wp2_with fail
   refine hW.mono ?_;rintro e w1 ⟨b,rfl,hb,o1,hk⟩;have HZ:=HE2.out b w1 hb o1 hk;clear hW HE2 hb o1 hk;go_wp2_with fail
   exact HZ
theorem MV (N:Nat):∀ (x:Ex),x.sz<=N->oq x:=by
 induction N using Nat.strongRecOn with
 | _ N IH =>
 intro x hN;have hI:∀ j (hj:j<x.kids.length),oq x.kids[j]:=fun j hj=>IH x.kids[j].sz (by have:=Ex.dW x.kids j hj;have:=Ex.oP x;have:=Ex.jD x.kids;omega) x.kids[j] (Nat.le_refl _);by_cases h3:x.kind=3
 ·exact MS x hI h3
 ·by_cases h6:x.kind=6
  ·exact IM x hI h6
  ·exact FY x hI h3 h6
theorem St.in_le (x:St):St.szs x.body<=x.sz/\St.szs x.els<=x.sz:=by
 obtain⟨k,n,tk,tn,nm,ks,bo,el⟩:=x;simp only[St.sz,St.body,St.els];omega
theorem Ja (N:Nat):∀ (l:List St),St.szs l<=N->mO l:=by
 induction N using Nat.strongRecOn with
 | _ N IH =>
 intro l hN;refine Nb l fun j hj=>?_;have h1:=St.dW l j hj;have h2:=St.in_le l[j];have hE:∀ i (hi:i<l[j].kids.length),oq l[j].kids[i]:=fun i hi=>MV _ _ (Nat.le_refl _);have hB:mO l[j].body:=IH (St.szs l[j].body) (by omega) _ (Nat.le_refl _);have hL:mO l[j].els:=IH (St.szs l[j].els) (by omega) _ (Nat.le_refl _);by_cases h0:l[j].kind=0
 ·exact EM l[j] hE hB hL h0
 ·exact DL l[j] hE hB hL h0
end Go.Proofs.YtgaddpkkjebekaaGreatDoor
