import Derived.Test.YtgholpilmdebmaaGreatDoorZ48
set_option maxHeartbeats 100000000
set_option maxRecDepth 100000
namespace Go.Proofs.YtgholpilmdebmaaGreatDoor
open Go.RowKit Go.Maps
theorem notin_of {g N O:Nat}{G:List Nat}(h:∀ b∈G,b=g∨N≤b) (hl:O<N) (hne:O≠g):O∉G:=fun q=>by rcases h _ q with e|e <;> omega
def OwE (x:Ex) (w:World) (v:Value) (w':World):Prop:=∃ a0 n0 c0 a1 n1 c1 F,v=.agg #[.int .i64 x.kind,.int .i64 x.n,.int .i64 x.tk,.int .i64 x.tn,.slice a0 n0 c0,.slice a1 n1 c1]∧Own w.heap.size w' x.dat [.int .i64 x.kind,.int .i64 x.n,.int .i64 x.tk,.int .i64 x.tn,.slice a0 n0 c0,.slice a1 n1 c1] F∧Later w w'
theorem en_ownE:Enters Tryz.prog 101:=zai Tryz.func101 (by kernel_rfl) (by kernel_rfl)
theorem sownE_all (N:Nat):∀ (x:Ex) (u0 u1:Value) (w:World),x.sz≤N→x.sz≤1048576→RdN w u0 x.name→RdL w 6 u1 (Ex.dats x.kids)→Calls Tryz.prog 101 #[.agg #[.int .i64 x.kind,.int .i64 x.n,.int .i64 x.tk,.int .i64 x.tn,u0,u1]] w fun e w'=>∃ v,e=.returned v∧OwE x w v w':=by
 induction N using Nat.strongRecOn with
 | _ N IH =>
 intro x u0 u1 w hN hM r0 r1;obtain⟨y0,q0,rfl,_⟩:=r0.slice;obtain⟨y1,q1,rfl,hl⟩:=Ex.slice r1;obtain⟨i0,hi,hz0,hz1,hz2⟩:=info_parts Tryz.info89;obtain⟨j0,hj,hy0,hy1,hy2⟩:=info_parts Tryz.info5;have hnm:x.name.length≤1048576:=by have:=Ex.name_le x;omega
 have hkl:x.kids.length≤1048576:=by have:=Ex.kids_le2 x;have:=Ex.szs_ge x.kids;omega
 obtain⟨wa,hwa⟩:=hidx (w.alloc (.cells #[.int .i64 x.kind,.int .i64 x.n,.int .i64 x.tk,.int .i64 x.tn,.slice y0 x.name.length q0,.slice y1 x.kids.length q1] 89));obtain⟨wb,hwb⟩:=hidx (wa.alloc (.cells #[.int .i64 0,.int .i64 0,.int .i64 0,.int .i64 0,.slice none 0 0,.slice none 0 0] 89));have la:Later w wa:=by rw[hwa.out];exact later1 _ _
 have lb:Later wa wb:=by rw[hwb.out];exact later1 _ _
 have lwb:=la.trans lb
 have bA:Bxx wb w.heap.size [.int .i64 x.kind,.int .i64 x.n,.int .i64 x.tk,.int .i64 x.tn,.slice y0 x.name.length q0,.slice y1 x.kids.length q1]:=by
  have z:Bxx wa w.heap.size [.int .i64 x.kind,.int .i64 x.n,.int .i64 x.tk,.int .i64 x.tn,.slice y0 x.name.length q0,.slice y1 x.kids.length q1]:=by rw[hwa.out];exact Bxx.new _ _ _
  exact z.later lb
 have bR:Bxx wb wa.heap.size [.int .i64 0,.int .i64 0,.int .i64 0,.int .i64 0,.slice none 0 0,.slice none 0 0]:=by rw[hwb.out];exact Bxx.new _ _ _
 have hwz:wa.heap.size=w.heap.size+1:=by rw[hwa.out,World.size_alloc]
 have hbz:wb.heap.size=w.heap.size+1+1:=by rw[hwb.out,World.size_alloc,hwz]
 have HS:Hid (∀ w',Later wb w'→w'.cell? ⟨w.heap.size,0,none⟩=some (.int .i64 x.kind)∧w'.cell? ⟨w.heap.size,1,none⟩=some (.int .i64 x.n)∧w'.cell? ⟨w.heap.size,2,none⟩=some (.int .i64 x.tk)∧w'.cell? ⟨w.heap.size,3,none⟩=some (.int .i64 x.tn)∧w'.cell? ⟨w.heap.size,4,none⟩=some (.slice y0 x.name.length q0)):=fun w' ll=>⟨((bA.later ll).cell 0 _ rfl).1,((bA.later ll).cell 1 _ rfl).1,((bA.later ll).cell 2 _ rfl).1,((bA.later ll).cell 3 _ rfl).1,((bA.later ll).cell 4 _ rfl).1⟩
 have HN:Hid (∀ w',Later wb w'→RdN w' (.slice y0 x.name.length q0) x.name):=fun w' ll=>r0.later (lwb.trans ll);go_enter Tryz.func101,Tryz.ntmps101;go_upto_region 1 with fail
 rw[←hwa.out,← hwz,← hwb.out]
 have HZ1:Hid (wa.heap.size=w.heap.size+1∧wb.heap.size=w.heap.size+1+1):=⟨hwz,hbz⟩
 have hne1:w.heap.size≠wa.heap.size:=by omega
 have hlt1:w.heap.size<wb.heap.size:=by omega
 clear hwz hbz;obtain⟨ba,baf⟩:=bA.cell 0 _ rfl;obtain⟨k0,k1,k2,k3,k4⟩:=HS.out wb (Later.refl _);have kl:=bA.lt;go_cut [3] from 5 (fun s3 wx=>∃ (O:Nat) (a3:Option Addr) (p3:Nat) (G:List Nat),s3=.pointer (some ⟨O,0,none⟩)∧Later wb wx∧wb.heap.size≤O∧O∉G∧Bxx wx O [.int .i64 x.kind,.int .i64 x.n,.int .i64 x.tk,.int .i64 x.tn,.slice a3 x.name.length p3,.slice none 0 0]∧Own wb.heap.size wx (.bytes x.name) [.slice a3 x.name.length p3] G)
 case first =>
  have E0:∀ (X:World) (o:Obj),(X.alloc o).heap[X.heap.size]?=some o:=fun X o=>(MapKept.heap_alloc X o).1;have E1:∀ (X:World) (o:Obj) (b:Nat),b<X.heap.size→(X.alloc o).heap[b]?=X.heap[b]?:=fun X o b hb=>(later1 X o).block b hb
  have G2:NmW wb ((wb.alloc (.cells #[] 5)).drew) wb.heap.size (.slice y0 x.name.length q0) x.name:=⟨(later1 _ _).trans (Later.drew _),by rw[(Later.drew _).block _ (by rw[World.size_alloc];omega)];exact E0 _ _,Nat.le_refl _,r0.later lwb,hnm⟩
  have G7:NmW wb (((wb.alloc (.cells #[.int .i64 0,.int .i64 0,.int .i64 0,.int .i64 0,.slice none 0 0,.slice none 0 0] 89)).alloc (.cells #[] 5)).drew) (wb.heap.size+1) (.slice y0 x.name.length q0) x.name:=⟨((later1 _ _).trans (later1 _ _)).trans (Later.drew _),by rw[(Later.drew _).block _ (by rw[World.size_alloc,World.size_alloc];omega)];have:=E0 (wb.alloc (.cells #[.int .i64 0,.int .i64 0,.int .i64 0,.int .i64 0,.slice none 0 0,.slice none 0 0] 89)) (.cells #[] 5);rw[World.size_alloc]at this;exact this,Nat.le_succ _,r0.later lwb,hnm⟩
  have G8:NmW wb (((wb.alloc (.cells #[] 5)).alloc (.cells #[.int .i64 0,.int .i64 0,.int .i64 0,.int .i64 0,.slice none 0 0,.slice none 0 0] 89)).drew) wb.heap.size (.slice y0 x.name.length q0) x.name:=⟨((later1 _ _).trans (later1 _ _)).trans (Later.drew _),by rw[(Later.drew _).block _ (by rw[World.size_alloc,World.size_alloc];omega),E1 _ _ _ (by rw[World.size_alloc];omega)];exact E0 _ _,Nat.le_refl _,r0.later lwb,hnm⟩
  have L1:Hid (Later wb wb.drew):=Later.drew _;have L2:Hid (Later wb ((wb.alloc (.cells #[] 5)).drew)):=G2.later;have L2':Hid (Later wb ((wb.alloc (.cells #[.int .i64 0,.int .i64 0,.int .i64 0,.int .i64 0,.slice none 0 0,.slice none 0 0] 89)).drew)):=(later1 _ _).trans (Later.drew _);have L7:Hid (Later wb (((wb.alloc (.cells #[.int .i64 0,.int .i64 0,.int .i64 0,.int .i64 0,.slice none 0 0,.slice none 0 0] 89)).alloc (.cells #[] 5)).drew)):=G7.later;have L8:Hid (Later wb (((wb.alloc (.cells #[] 5)).alloc (.cells #[.int .i64 0,.int .i64 0,.int .i64 0,.int .i64 0,.slice none 0 0,.slice none 0 0] 89)).drew)):=G8.later;have H7b:Hid (Bxx (((wb.alloc (.cells #[.int .i64 0,.int .i64 0,.int .i64 0,.int .i64 0,.slice none 0 0,.slice none 0 0] 89)).alloc (.cells #[] 5)).drew) wb.heap.size [.int .i64 0,.int .i64 0,.int .i64 0,.int .i64 0,.slice none 0 0,.slice none 0 0]):=((Bxx.new wb #[.int .i64 0,.int .i64 0,.int .i64 0,.int .i64 0,.slice none 0 0,.slice none 0 0] 89).later (later1 _ _)).later (Later.drew _)
  have H8b:Hid (Bxx (((wb.alloc (.cells #[] 5)).alloc (.cells #[.int .i64 0,.int .i64 0,.int .i64 0,.int .i64 0,.slice none 0 0,.slice none 0 0] 89)).drew) (wb.heap.size+1) [.int .i64 0,.int .i64 0,.int .i64 0,.int .i64 0,.slice none 0 0,.slice none 0 0]):=by
   have z:=(Bxx.new (wb.alloc (.cells #[] 5)) #[.int .i64 0,.int .i64 0,.int .i64 0,.int .i64 0,.slice none 0 0,.slice none 0 0] 89).later (Later.drew _);rw[World.size_alloc]at z;exact z
  have HS3:Hid (∀ (w3:World) (O:Nat) (v0 v1 v2 v3 v4 v5:Value),Later wb w3→w.heap.size≠O→(((((((w3.setCell ⟨O,0,none⟩ v0).setCell ⟨O,1,none⟩ v1).setCell ⟨O,2,none⟩ v2).setCell ⟨O,3,none⟩ v3).setCell ⟨O,4,none⟩ v4).setCell ⟨O,5,none⟩ v5).cell? ⟨w.heap.size,0,none⟩=some (.int .i64 x.kind)∧((((((w3.setCell ⟨O,0,none⟩ v0).setCell ⟨O,1,none⟩ v1).setCell ⟨O,2,none⟩ v2).setCell ⟨O,3,none⟩ v3).setCell ⟨O,4,none⟩ v4).setCell ⟨O,5,none⟩ v5).cell? ⟨w.heap.size,1,none⟩=some (.int .i64 x.n)∧((((((w3.setCell ⟨O,0,none⟩ v0).setCell ⟨O,1,none⟩ v1).setCell ⟨O,2,none⟩ v2).setCell ⟨O,3,none⟩ v3).setCell ⟨O,4,none⟩ v4).setCell ⟨O,5,none⟩ v5).cell? ⟨w.heap.size,2,none⟩=some (.int .i64 x.tk)∧((((((w3.setCell ⟨O,0,none⟩ v0).setCell ⟨O,1,none⟩ v1).setCell ⟨O,2,none⟩ v2).setCell ⟨O,3,none⟩ v3).setCell ⟨O,4,none⟩ v4).setCell ⟨O,5,none⟩ v5).cell? ⟨w.heap.size,3,none⟩=some (.int .i64 x.tn)∧((((((w3.setCell ⟨O,0,none⟩ v0).setCell ⟨O,1,none⟩ v1).setCell ⟨O,2,none⟩ v2).setCell ⟨O,3,none⟩ v3).setCell ⟨O,4,none⟩ v4).setCell ⟨O,5,none⟩ v5).cell? ⟨w.heap.size,4,none⟩=some (.slice y0 x.name.length q0))):=fun w3 O v0 v1 v2 v3 v4 v5 l hne=>by
   have z:=HS.out w3 l;have bb:Bxx ((((((w3.setCell ⟨O,0,none⟩ v0).setCell ⟨O,1,none⟩ v1).setCell ⟨O,2,none⟩ v2).setCell ⟨O,3,none⟩ v3).setCell ⟨O,4,none⟩ v4).setCell ⟨O,5,none⟩ v5) w.heap.size [.int .i64 x.kind,.int .i64 x.n,.int .i64 x.tk,.int .i64 x.tn,.slice y0 x.name.length q0,.slice y1 x.kids.length q1]:=(bA.later l).kept (by simp only[World.size_setCell];exact Nat.le_refl _) (by rw[Below.heap_setCell _ _ _ _ hne,Below.heap_setCell _ _ _ _ hne,Below.heap_setCell _ _ _ _ hne,Below.heap_setCell _ _ _ _ hne,Below.heap_setCell _ _ _ _ hne,Below.heap_setCell _ _ _ _ hne]);exact⟨(bb.cell 0 _ rfl).1,(bb.cell 1 _ rfl).1,(bb.cell 2 _ rfl).1,(bb.cell 3 _ rfl).1,(bb.cell 4 _ rfl).1⟩
  go_region_held3 (fun w'=>w'.cell? ⟨w.heap.size,0,none⟩=some (.int .i64 x.kind)∧w'.cell? ⟨w.heap.size,1,none⟩=some (.int .i64 x.n)∧w'.cell? ⟨w.heap.size,2,none⟩=some (.int .i64 x.tk)∧w'.cell? ⟨w.heap.size,3,none⟩=some (.int .i64 x.tn)∧w'.cell? ⟨w.heap.size,4,none⟩=some (.slice y0 x.name.length q0)) (first|with_reducible exact HS3.out _ _ _ _ _ _ _ _ l3 (by omega)|with_reducible exact HS.out _ L1.out|with_reducible exact HS.out _ L2.out|with_reducible exact HS.out _ L2'.out|with_reducible exact HS.out _ L7.out|with_reducible exact HS.out _ L8.out|with_reducible exact HS.out _ l3|with_reducible exact HS.out _ (l3.trans (later1 _ _))|fail) (((first|refine zbn rfl _ _ rfl rfl rfl G2 ?_|(refine zbn rfl _ _ rfl rfl rfl G8 ?_;have hob:=H8b.out)|(refine zbn rfl _ _ rfl rfl rfl G7 ?_;have hob:=H7b.out));rintro u3 w3 ⟨a3,p3,G3,rfl,hO3,l3,b3,s3,g3⟩;try (have hOG:=notin_of g3 hob.lt (by omega);have hob:=hob.kept s3 (b3 _ hob.lt (by omega));obtain⟨⟨⟨z0,zf0⟩,⟨z1,zf1⟩,⟨z2,zf2⟩,⟨z3,zf3⟩,⟨z4,zf4⟩,⟨z5,zf5⟩⟩,zl⟩:=hob.six)))
  ·go_wp2_with fail
   go_meet
   case rel=>exact⟨w3.heap.size,a3,p3,G3,rfl,l3.trans (later1 _ _),l3.size,fun q=>Nat.lt_irrefl _ (hO3.fresh _ q).2,Bxx.new _ _ _,hO3.later (later1 _ _)⟩
  all_goals
   go_wp2_with fail
   go_meet
   case rel=>exact⟨_,a3,p3,G3,rfl,(((((l3.setAt (by omega) 0 _).setAt (by omega) 1 _).setAt (by omega) 2 _).setAt (by omega) 3 _).setAt (by omega) 4 _).setAt (by omega) 5 _,by omega,hOG,(((((hob.set 0 _ (by simp)).set 1 _ (by simp)).set 2 _ (by simp)).set 3 _ (by simp)).set 4 _ (by simp)).set 5 _ (by simp),(((((hO3.setAt hOG 0 _).setAt hOG 1 _).setAt hOG 2 _).setAt hOG 3 _).setAt hOG 4 _).setAt hOG 5 _⟩
 case rest =>
  obtain⟨O,a3,p3,G,rfl,lx,hO,hOG,bO,oN⟩:=hcut
  generalize wc=wx at *
  have hz1:=HZ1.out;have hRO:wa.heap.size≠O:=by omega
  clear hz1;have hOl:=bO.lt;have lxx:=lwb.trans lx
  have HB:Hid (∀ w',OnlyK O wx w'→w'.cell? ⟨w.heap.size,5,none⟩=some (.slice y1 x.kids.length q1)∧w.heap.size<w'.heap.size):=fun w' o=>⟨(((bA.later lx).only o (by omega)).cell 5 _ rfl).1,((bA.later lx).only o (by omega)).lt⟩
  have HRd:Hid (∀ w',OnlyK O wx w'→Later w w'):=fun w' o=>⟨o.os.trans lxx.os,o.tape.trans lxx.tape,o.output.trans lxx.output,Nat.le_trans lxx.size o.size,fun b hb=>by rw[o.block b (Nat.lt_of_lt_of_le hb lxx.size) (by omega)];exact lxx.block b hb⟩
  have HRR:Hid (∀ w',OnlyK O wx w'→Bxx w' wa.heap.size [.int .i64 0,.int .i64 0,.int .i64 0,.int .i64 0,.slice none 0 0,.slice none 0 0]):=fun w' o=>(bR.later lx).only o hRO;go_wp2_with fail
  go_loopw [4] (fun i wr=>∃ (j:Nat) (xs:List Value) (F:List Nat) (rv:Value),i=.int .i64 (j:Int)∧j≤x.kids.length∧OnlyK O wx wr∧Bxx wr O [.int .i64 x.kind,.int .i64 x.n,.int .i64 x.tk,.int .i64 x.tn,.slice a3 x.name.length p3,rv]∧Bd wx.heap.size wr 89 6 rv (Ex.dats (x.kids.take j)) xs F) (fun i _=>x.kids.length - (intOf i).toNat)
  case atStart=>exact⟨0,[],[],_,rfl,Nat.zero_le _,OnlyK.refl _ _,bO,by rw[List.take_zero,Ex.dats];exact Bd.nil _ _ _ _⟩
  case round =>
   obtain⟨j,xs,F,rv,rfl,hj',oK,bO',hB⟩:=hrel;obtain⟨kk,kkl⟩:=HB.out wr oK;clear k0 k1 k2 k3 k4 kl;by_cases hlt:j<x.kids.length
   ·obtain⟨g,off,v0,v1,rfl,hgs,c0,c1,c2,c3,c4,c5,r00,r11⟩:=Ex.elem r1 j hlt;have i1:(j:Int)<(x.kids.length:Int):=by omega
    have lr:=HRd.out wr oK;have hlx:(Ex.dats (x.kids.take j)).length=j:=by rw[Ex.dats_len,List.length_take];omega
    have hrow:=hB.row;rw[hlx]at hrow;obtain⟨ra,rc,hra⟩:=zac hrow;have hkz:=Ex.sz_at x.kids j hlt;have hkz2:=Ex.kids_le2 x;have HC:Hid (∀ w',Later wr w'→Calls Tryz.prog 101 #[.agg #[.int .i64 x.kids[j].kind,.int .i64 x.kids[j].n,.int .i64 x.kids[j].tk,.int .i64 x.kids[j].tn,v0,v1]] w' fun e w2=>∃ v,e=.returned v∧OwE x.kids[j] w' v w2):=fun w' l=>IH x.kids[j].sz (by omega) x.kids[j] v0 v1 w' (Nat.le_refl _) (by omega) (r00.later (lr.trans l)) (RdL.later (lr.trans l) r11);have HRow:Hid (∀ w',Later wr w'→w'.ownsRow wx.heap.size 89 6 rv j xs):=fun w' l=>zbs hrow (l.kept _);have hbs:wx.heap.size≤wr.heap.size:=oK.size
    have HBx:Hid (∀ w',Later wr w'→w'.cell? ⟨O,5,none⟩=some rv∧w'.frozen? ⟨O,5,none⟩=false∧O<w'.heap.size):=fun w' l=>⟨((bO'.later l).cell 5 _ rfl).1,((bO'.later l).cell 5 _ rfl).2,(bO'.later l).lt⟩
    have HW:Hid (∀ wd w6 w' v' cs G6 A,Later wr wd→wr.heap.size≤wd.heap.size→cs.length=6→Later wd w6→Own wd.heap.size w6 x.kids[j].dat cs G6→(w6.alloc A).grownBy w' rv.ownBlock→w'.ownsRow wx.heap.size 89 6 v' (j+1) (xs++cs)→(v'.ownBlock=rv.ownBlock∨v'.ownBlock=some (w6.alloc A).heap.size)→OnlyK O wx (w'.setCell ⟨O,5,none⟩ v')∧Bxx (w'.setCell ⟨O,5,none⟩ v') O [.int .i64 x.kind,.int .i64 x.n,.int .i64 x.tk,.int .i64 x.tn,.slice a3 x.name.length p3,v']∧Bd wx.heap.size (w'.setCell ⟨O,5,none⟩ v') 89 6 v' (Ex.dats (x.kids.take (j+1))) (xs++cs) (F++G6)∧Bxx w' O [.int .i64 x.kind,.int .i64 x.n,.int .i64 x.tk,.int .i64 x.tn,.slice a3 x.name.length p3,rv]):=fun wd w6 w' v' cs G6 A ld hls hcs l6 h6 hg ho hloc=>by
     have e:Ex.dats (x.kids.take (j+1))=Ex.dats (x.kids.take j)++[x.kids[j].dat]:=by rw[Ex.datsMap,takeSnoc hlt,← Ex.datsMap]
     rw[e];exact zdu oK bO' (by simp) hB hOl hcs (ld.trans l6) (h6.mono hls) (by rw[hlx];exact ho) hg hloc
    have hC:=fun o=>(show wr.cell? ⟨g,o,none⟩=w.cell? ⟨g,o,none⟩ from Below.cell lr (p:=⟨g,o,none⟩) hgs)
    rw[←hC]at c0 c1 c2 c3 c4 c5;have hgw:=Nat.lt_of_lt_of_le hgs lr.size;obtain⟨k5,kf5,kl5⟩:=HBx.out wr (Later.refl _);obtain⟨y2,q2,rfl,_⟩:=r00.slice;obtain⟨y3,q3,rfl,_⟩:=Ex.slice r11;have hjM:j<1048576:=by omega
    generalize x.kids[j].kind=z_k at *
    generalize x.kids[j].n=z_n at *
    generalize x.kids[j].tk=z_tk at *
    generalize x.kids[j].tn=z_tn at *
    clear IH hB bO' r00 r11 r0 r1 hrow hC bA bR oN HS HN HRR HZ1;subst hra;go_wp2_with fail
    go_region_law (first
     | (refine zaa rfl 101 en_ownE _ _ rfl [.agg #[.int .i64 z_k,.int .i64 z_n,.int .i64 z_tk,.int .i64 z_tn,.slice y2 x.kids[j].name.length q2,.slice y3 x.kids[j].kids.length q3]] rfl _ (HC.out _ (Later.drew _)) ?_;rintro u6 w6 ⟨b0,m0,d0,b1,m1,d1,G6,rfl,o6,l6⟩;have l6':=(Later.drew _).trans l6;obtain⟨k6,kf6,kl6⟩:=HBx.out w6 l6')
     | (refine zae rfl _ _ 87 rfl wx.heap.size 89 i0 (.agg #[.int .i64 0,.int .i64 0,.int .i64 0,.int .i64 0,.slice none 0 0,.slice none 0 0]) 6 80 Tryz.underlying87 hi hz0 hz1 hz2 rfl (by decide) _ _ _ rfl ((HRow.out _ l6').alloc _) _ 1 1 [.int .i64 x.kids[j].kind,.int .i64 x.kids[j].n,.int .i64 x.kids[j].tk,.int .i64 x.kids[j].tn,.slice b0 m0 d0,.slice b1 m1 d1] rfl rfl (zao _ _ _ rfl) (by simp[Value.oneCell']) (by unfold maxLen;omega) (by omega) (Nat.le_trans hbs (Nat.le_trans l6'.size (later1 _ _).size)) ?_;intro v7 w7 o7 g7 h7;have HPW:=HW.out _ _ _ _ _ _ _ (Later.drew _) (Nat.le_refl _) rfl l6 o6 g7 o7 h7;obtain⟨k7,kf7⟩:=HPW.2.2.2.cell 5 _ rfl;have kl7:=HPW.2.2.2.lt;obtain⟨a7,p7,hv7⟩:=zac o7;rw[hv7]at HPW ⊢))
    all_goals
     obtain⟨P1,P2,P3,_⟩:=HPW;go_wp2_with fail
     go_roundw
     case rel=>exact⟨j+1,_,_,_,by go_num,by omega,P1,P2,P3⟩
     case measure=>simp[intOf];omega
   ·have i1:¬ (j:Int)<(x.kids.length:Int):=by omega
    have i2:decide ((j:Int)<(x.kids.length:Int))=false:=decide_eq_false i1;have hjj:j=x.kids.length:=by omega
    rw[hjj,List.take_length]at hB;obtain⟨G2,hG2⟩:=hB.done (by rw[Ex.dats_len];exact hkl);obtain⟨ra,rc,hra⟩:=zac hB.row;rw[Ex.dats_len]at hra;subst hra;have lr:=HRd.out wr oK;have hbr:=HRR.out wr oK;have oN':=oN.only oK hOG;have hz1:=HZ1.out;have hGw:wa.heap.size∉G:=fun q=>by have:=(oN.fresh _ q).1;omega
    have hGw2:wa.heap.size∉G2:=fun q=>by have:=(hG2.fresh _ q).1;have:=lx.size;omega
    obtain⟨W,hW⟩:=hidx ((((((wr.setCell ⟨wa.heap.size,0,none⟩ (.int .i64 x.kind)).setCell ⟨wa.heap.size,1,none⟩ (.int .i64 x.n)).setCell ⟨wa.heap.size,2,none⟩ (.int .i64 x.tk)).setCell ⟨wa.heap.size,3,none⟩ (.int .i64 x.tn)).setCell ⟨wa.heap.size,4,none⟩ (.slice a3 x.name.length p3)).setCell ⟨wa.heap.size,5,none⟩ (.slice ra x.kids.length rc));have bW:Bxx W wa.heap.size [.int .i64 x.kind,.int .i64 x.n,.int .i64 x.tk,.int .i64 x.tn,.slice a3 x.name.length p3,.slice ra x.kids.length rc]:=by rw[hW.out];exact (((((hbr.set 0 _ (by simp)).set 1 _ (by simp)).set 2 _ (by simp)).set 3 _ (by simp)).set 4 _ (by simp)).set 5 _ (by simp)
    have nW:Own wb.heap.size W (.bytes x.name) [.slice a3 x.name.length p3] G:=by rw[hW.out];exact (((((oN'.setAt hGw 0 _).setAt hGw 1 _).setAt hGw 2 _).setAt hGw 3 _).setAt hGw 4 _).setAt hGw 5 _
    have kW:Own wx.heap.size W (.list 6 (Ex.dats x.kids)) [.slice ra x.kids.length rc] G2:=by rw[hW.out];exact (((((hG2.setAt hGw2 0 _).setAt hGw2 1 _).setAt hGw2 2 _).setAt hGw2 3 _).setAt hGw2 4 _).setAt hGw2 5 _
    have lW:Later w W:=by rw[hW.out];exact (((((lr.setAt (by omega) 0 _).setAt (by omega) 1 _).setAt (by omega) 2 _).setAt (by omega) 3 _).setAt (by omega) 4 _).setAt (by omega) 5 _
    have hGx:∀ b∈G,b<wx.heap.size:=fun b q=>(oN.fresh b q).2;have sW:wx.heap.size≤W.heap.size:=by have:=oK.size;have e:W.heap.size=wr.heap.size:=by { rw[hW.out];simp only[World.size_setCell] };omega
    have HZ9:OwE x w (.agg #[.int .i64 x.kind,.int .i64 x.n,.int .i64 x.tk,.int .i64 x.tn,.slice a3 x.name.length p3,.slice ra x.kids.length rc]) W:=⟨_,_,_,_,_,_,G++G2,rfl,Own.mk' (Ex.own nW.own kW.own) (Fr.app (mid:=wx.heap.size) ⟨nW.nodup,fun b q=>⟨by have:=(oN.fresh b q).1;omega,hGx b q⟩⟩ kW.fr lxx.size sW),lW⟩
    obtain⟨⟨⟨e0,ef0⟩,⟨e1,ef1⟩,⟨e2,ef2⟩,⟨e3,ef3⟩,⟨e4,ef4⟩,⟨e5,ef5⟩⟩,el⟩:=bO'.six;obtain⟨⟨⟨s0,sf0⟩,⟨s1,sf1⟩,⟨s2,sf2⟩,⟨s3,sf3⟩,⟨s4,sf4⟩,⟨s5,sf5⟩⟩,sl⟩:=hbr.six;obtain⟨⟨⟨t0,_⟩,⟨t1,_⟩,⟨t2,_⟩,⟨t3,_⟩,⟨t4,_⟩,⟨t5,_⟩⟩,_⟩:=bW.six;clear IH r0 r1 hB bO' hG2 oN oN' nW kW bA bR HS HN hz1 HZ1;go_wp2_with fail
    rw[←hW.out];exact bodyPost_ret (v:=.agg #[.int .i64 x.kind,.int .i64 x.n,.int .i64 x.tk,.int .i64 x.tn,.slice a3 x.name.length p3,.slice ra x.kids.length rc]) (by simp[results,Tryz.results101,go_sem,t0,t1,t2,t3,t4,t5]) rfl ⟨_,rfl,HZ9⟩
theorem en_ownB:Enters Tryz.prog 67:=zai Tryz.func67 (by kernel_rfl) (by kernel_rfl)
theorem OwnD.keep {w w':World}{d:Dat}{cs:List Value}{F:List Nat}(h:OwnD w d cs F) (hs:w.heap.size≤w'.heap.size) (hb:∀ b∈F,w'.heap[b]?=w.heap[b]?):OwnD w' d cs F:=OwnD.agree hs d h hb
def pu8 (w:World) (O:Nat) (v0 v1 v2 v3 v4 v5 v6 v7:Value):World:=((((((((w).setCell ⟨O,0,none⟩ v0).setCell ⟨O,1,none⟩ v1).setCell ⟨O,2,none⟩ v2).setCell ⟨O,3,none⟩ v3).setCell ⟨O,4,none⟩ v4).setCell ⟨O,5,none⟩ v5).setCell ⟨O,6,none⟩ v6).setCell ⟨O,7,none⟩ v7
theorem pu8_size (w:World) (O:Nat) (v0 v1 v2 v3 v4 v5 v6 v7:Value):(pu8 w O v0 v1 v2 v3 v4 v5 v6 v7).heap.size=w.heap.size:=by unfold pu8;simp only[World.size_setCell]
theorem pu8_block (w:World) (O:Nat) (v0 v1 v2 v3 v4 v5 v6 v7:Value) {b:Nat}(h:b≠O):(pu8 w O v0 v1 v2 v3 v4 v5 v6 v7).heap[b]?=w.heap[b]?:=by
 unfold pu8;rw[Below.heap_setCell _ _ _ _ h,Below.heap_setCell _ _ _ _ h,Below.heap_setCell _ _ _ _ h,Below.heap_setCell _ _ _ _ h,Below.heap_setCell _ _ _ _ h,Below.heap_setCell _ _ _ _ h,Below.heap_setCell _ _ _ _ h,Below.heap_setCell _ _ _ _ h]
theorem pu8_later {w w':World}(h:Later w w') {O:Nat}(hO:w.heap.size≤O) (v0 v1 v2 v3 v4 v5 v6 v7:Value):Later w (pu8 w' O v0 v1 v2 v3 v4 v5 v6 v7):=by
 unfold pu8;exact (((((((h.setAt hO 0 _).setAt hO 1 _).setAt hO 2 _).setAt hO 3 _).setAt hO 4 _).setAt hO 5 _).setAt hO 6 _).setAt hO 7 _
theorem pu8_box {w:World}{O:Nat}{a b c d e f g i:Value}(h:Bxx w O [a,b,c,d,e,f,g,i]) (v0 v1 v2 v3 v4 v5 v6 v7:Value):Bxx (pu8 w O v0 v1 v2 v3 v4 v5 v6 v7) O [v0,v1,v2,v3,v4,v5,v6,v7]:=by
 unfold pu8;exact (((((((h.set 0 _ (by simp)).set 1 _ (by simp)).set 2 _ (by simp)).set 3 _ (by simp)).set 4 _ (by simp)).set 5 _ (by simp)).set 6 _ (by simp)).set 7 _ (by simp)
theorem cut_new {wr w5:World}{nm:List Int}{bo el:List St}{k n tk tn:Value}{a3 p3 a4 n4 p4 a5 n5 p5} {G0 G1 G2:List Nat}(l5:Later wr w5) (h0:OwnD w5 (.bytes nm) [.slice a3 nm.length p3] G0) (h1:OwnD w5 (.list 8 (St.dats bo)) [.slice a4 n4 p4] G1) (h2:OwnD w5 (.list 8 (St.dats el)) [.slice a5 n5 p5] G2) (hf:Fr wr.heap.size w5.heap.size (G0++(G1++G2))) (T:TypeId) :
  Later wr (w5.alloc (.cells #[k,n,tk,tn,.slice a3 nm.length p3,.slice none 0 0,.slice a4 n4 p4,.slice a5 n5 p5] T))∧wr.heap.size≤w5.heap.size∧w5.heap.size∉G0++(G1++G2)∧Bxx (w5.alloc (.cells #[k,n,tk,tn,.slice a3 nm.length p3,.slice none 0 0,.slice a4 n4 p4,.slice a5 n5 p5] T)) w5.heap.size [k,n,tk,tn,.slice a3 nm.length p3,.slice none 0 0,.slice a4 n4 p4,.slice a5 n5 p5]∧OwnD (w5.alloc (.cells #[k,n,tk,tn,.slice a3 nm.length p3,.slice none 0 0,.slice a4 n4 p4,.slice a5 n5 p5] T)) (.bytes nm) [.slice a3 nm.length p3] G0∧OwnD (w5.alloc (.cells #[k,n,tk,tn,.slice a3 nm.length p3,.slice none 0 0,.slice a4 n4 p4,.slice a5 n5 p5] T)) (.list 8 (St.dats bo)) [.slice a4 n4 p4] G1∧OwnD (w5.alloc (.cells #[k,n,tk,tn,.slice a3 nm.length p3,.slice none 0 0,.slice a4 n4 p4,.slice a5 n5 p5] T)) (.list 8 (St.dats el)) [.slice a5 n5 p5] G2∧Fr wr.heap.size (w5.alloc (.cells #[k,n,tk,tn,.slice a3 nm.length p3,.slice none 0 0,.slice a4 n4 p4,.slice a5 n5 p5] T)).heap.size (G0++(G1++G2)):=by
 have lt:∀ b∈G0++(G1++G2),b<w5.heap.size:=fun b hb=>(hf.2 b hb).2;have L:=later1 w5 (.cells #[k,n,tk,tn,.slice a3 nm.length p3,.slice none 0 0,.slice a4 n4 p4,.slice a5 n5 p5] T);refine⟨l5.trans L,l5.size,fun q=>Nat.lt_irrefl _ (lt _ q),Bxx.new _ _ _,h0.keep L.size (fun b hb=>L.block b (lt b (List.mem_append_left _ hb))),h1.keep L.size (fun b hb=>L.block b (lt b (List.mem_append_right _ (List.mem_append_left _ hb)))),h2.keep L.size (fun b hb=>L.block b (lt b (List.mem_append_right _ (List.mem_append_right _ hb)))),hf.mono (Nat.le_refl _) L.size⟩
theorem cut_old {wr w5:World}{nm:List Int}{bo el:List St}{k n tk tn:Value}{a3 p3 a4 n4 p4 a5 n5 p5} {G0 G1 G2:List Nat}{O:Nat}{a b c d e f g i:Value}(l5:Later wr w5) (h0:OwnD w5 (.bytes nm) [.slice a3 nm.length p3] G0) (h1:OwnD w5 (.list 8 (St.dats bo)) [.slice a4 n4 p4] G1) (h2:OwnD w5 (.list 8 (St.dats el)) [.slice a5 n5 p5] G2) (hf:Fr wr.heap.size w5.heap.size (G0++(G1++G2))) (hb:Bxx w5 O [a,b,c,d,e,f,g,i]) (hO:wr.heap.size≤O) (hn:O∉G0++(G1++G2)) :
  Later wr (pu8 w5 O k n tk tn (.slice a3 nm.length p3) (.slice none 0 0) (.slice a4 n4 p4) (.slice a5 n5 p5))∧wr.heap.size≤O∧O∉G0++(G1++G2)∧Bxx (pu8 w5 O k n tk tn (.slice a3 nm.length p3) (.slice none 0 0) (.slice a4 n4 p4) (.slice a5 n5 p5)) O [k,n,tk,tn,.slice a3 nm.length p3,.slice none 0 0,.slice a4 n4 p4,.slice a5 n5 p5]∧OwnD (pu8 w5 O k n tk tn (.slice a3 nm.length p3) (.slice none 0 0) (.slice a4 n4 p4) (.slice a5 n5 p5)) (.bytes nm) [.slice a3 nm.length p3] G0∧OwnD (pu8 w5 O k n tk tn (.slice a3 nm.length p3) (.slice none 0 0) (.slice a4 n4 p4) (.slice a5 n5 p5)) (.list 8 (St.dats bo)) [.slice a4 n4 p4] G1∧OwnD (pu8 w5 O k n tk tn (.slice a3 nm.length p3) (.slice none 0 0) (.slice a4 n4 p4) (.slice a5 n5 p5)) (.list 8 (St.dats el)) [.slice a5 n5 p5] G2∧Fr wr.heap.size (pu8 w5 O k n tk tn (.slice a3 nm.length p3) (.slice none 0 0) (.slice a4 n4 p4) (.slice a5 n5 p5)).heap.size (G0++(G1++G2)):=by
 have bk:∀ x∈G0++(G1++G2),(pu8 w5 O k n tk tn (.slice a3 nm.length p3) (.slice none 0 0) (.slice a4 n4 p4) (.slice a5 n5 p5)).heap[x]?=w5.heap[x]?:=fun x hx=>pu8_block _ _ _ _ _ _ _ _ _ _ (fun e=>hn (by rw[←e];exact hx));have sz:=pu8_size w5 O k n tk tn (.slice a3 nm.length p3) (.slice none 0 0) (.slice a4 n4 p4) (.slice a5 n5 p5);refine⟨pu8_later l5 hO _ _ _ _ _ _ _ _,hO,hn,pu8_box hb _ _ _ _ _ _ _ _,h0.keep (by rw[sz];exact Nat.le_refl _) (fun b hb=>bk b (List.mem_append_left _ hb)),h1.keep (by rw[sz];exact Nat.le_refl _) (fun b hb=>bk b (List.mem_append_right _ (List.mem_append_left _ hb))),h2.keep (by rw[sz];exact Nat.le_refl _) (fun b hb=>bk b (List.mem_append_right _ (List.mem_append_right _ hb))),by rw[sz];exact hf⟩
theorem Fr.three {a b c d:Nat}{F G H:List Nat}(hF:Fr a b F) (hG:Fr b c G) (hH:Fr c d H) (h1:a≤b) (h2:b≤c) (h3:c≤d):Fr a d (F++(G++H)):=Fr.app (mid:=b) hF (Fr.app (mid:=c) hG hH h2 h3) h1 (Nat.le_trans h2 h3)
theorem Fr.ins {a b c:Nat}{F G H:List Nat}(h:Fr a b (F++H)) (k:Fr b c G) (h1:a≤b) (h2:b≤c):Fr a c (F++(G++H)):=by
 obtain⟨nF,nH,d⟩:=List.nodup_append.1 h.1;refine⟨List.nodup_append.2 ⟨nF,List.nodup_append.2 ⟨k.1,nH,fun x hx y hy e=>?_⟩,fun x hx y hy e=>?_⟩,fun x hx=>?_⟩
 ·have:=(k.2 x hx).1;have:=(h.2 y (List.mem_append_right _ hy)).2;omega
 ·rcases List.mem_append.1 hy with hy|hy
  ·have:=(k.2 y hy).1;have:=(h.2 x (List.mem_append_left _ hx)).2;omega
  ·exact d x hx y hy e
 ·rcases List.mem_append.1 hx with hx|hx
  ·have:=h.2 x (List.mem_append_left _ hx);omega
  ·rcases List.mem_append.1 hx with hx|hx
   ·have:=k.2 x hx;omega
   ·have:=h.2 x (List.mem_append_right _ hx);omega
theorem notin_lo {lo hi O:Nat}{F:List Nat}(f:Fr lo hi F) (h:O<lo):O∉F:=fun q=>by have:=(f.2 _ q).1;omega
theorem notin_hi {lo hi O:Nat}{F:List Nat}(f:Fr lo hi F) (h:hi≤O):O∉F:=fun q=>by have:=(f.2 _ q).2;omega
theorem notin3 {O:Nat}{F G H:List Nat}(h0:O∉F) (h1:O∉G) (h2:O∉H):O∉F++(G++H):=fun q=>by
 rcases List.mem_append.1 q with q|q
 ·exact h0 q
 ·rcases List.mem_append.1 q with q|q
  ·exact h1 q
  ·exact h2 q
theorem fr_up {w:World}{o:Obj}{hi:Nat}{F:List Nat}(f:Fr (w.alloc o).heap.size hi F):Fr w.heap.size hi F∧w.heap.size∉F:=⟨f.mono (later1 _ _).size (Nat.le_refl _),notin_lo f (by rw[World.size_alloc];omega)⟩
end Go.Proofs.YtgholpilmdebmaaGreatDoor
