import Derived.Test.YtgholpilmdebmaaGreatDoorZ11
import Derived.Laws.OwnMore
set_option maxHeartbeats 100000000
set_option maxRecDepth 100000
namespace Go.Proofs.YtgholpilmdebmaaGreatDoor
open Go.RowKit Go.Lib
theorem tailL_app (x y:List (List Int)):tailL (x++y)=tailL x++tailL y:=by
 induction x with
 | nil=>rfl
 | cons a r ih=>rw[List.cons_append,tailL,tailL,ih];simp only[List.append_assoc]
theorem zap (ts:List (List Int)) (j:Nat) (h:j<ts.length):joinL (ts.take (j+1))=joinL (ts.take j)++(if j=0 then [] else [32,44])++ts[j]:=by
 cases ts with
 | nil=>simp at h
 | cons x r =>
  cases j with
  | zero=>simp[joinL,tailL]
  | succ j =>
   have hj:j<r.length:=by simpa using h
   rw[List.take_succ_cons,List.take_succ_cons,joinL,joinL,List.take_add_one,tailL_app,List.getElem?_eq_getElem hj];simp[tailL]
theorem joinL_pre (ts:List (List Int)) (j:Nat):(joinL (ts.take j)).length≤(joinL ts).length:=by
 have h:∀ x y:List (List Int),(joinL x).length≤(joinL (x++y)).length:=by
  intro x y
  cases x with
  | nil=>simp[joinL]
  | cons a r=>rw[List.cons_append,joinL,joinL,tailL_app];simp only[List.length_append];omega
 have:=h (ts.take j) (ts.drop j)
 rwa [List.take_append_drop]at this
theorem zcm (ts:List (List Int)) (j:Nat) (h:j<ts.length):(joinL (ts.take j)).length+(if j=0 then 0 else 2)+ts[j].length≤(joinL ts).length:=by
 have h1:=joinL_pre ts (j+1);rw[zap ts j h]at h1;by_cases h0:j=0
 ·rw[if_pos h0]at h1 ⊢;simp only[List.length_append,List.length_nil]at h1;omega
 ·rw[if_neg h0]at h1 ⊢;simp only[List.length_append,List.length_cons,List.length_nil]at h1;omega
def Kids (W:World) (sv v1:Value) (ts:List (List Int)):Prop:=∃ a1 cap1,v1=.slice a1 ts.length cap1∧∀ (j:Nat) (hj:j<ts.length),Kid W sv (.slice a1 ts.length cap1) ts.length j ts[j]
theorem say_9 (A W w:World) (v sv v0 v1:Value) (zs:List Int) (n tk tn:Int) (h:Bf A W w v zs) (ts:List (List Int)) (hks:Kids W sv v1 ts) (hts:ts.length≤1000) (hb:zs.length+4+2+(joinL ts).length+2≤1000000) :
  Calls Tryz.prog 55 #[v,.agg #[.int .i64 9,.int .i64 n,.int .i64 tk,.int .i64 tn,v0,v1],sv] w (SayP A W (zs++([32,108,101,110]++[32,40]++joinL ts++[32,41]))):=by
 obtain⟨i0,hi,hz0,hz1,hz2⟩:=info_parts Tryz.info5;obtain⟨a,cap,rfl⟩:=h.shape;obtain⟨a1,cap1,rfl,hks⟩:=hks
 obtain⟨w1,hw1⟩:∃ w1,Hid (w1=w.alloc (.cells #[.int .i64 9,.int .i64 n,.int .i64 tk,.int .i64 tn,v0,.slice a1 ts.length cap1] 89)):=⟨_,rfl⟩
 have hA:Bf A W w1 (.slice a zs.length cap) zs:=by rw[hw1.out];exact h.alloc _
 have hbx:BxT w.heap.size w1 [.int .i64 9,.int .i64 n,.int .i64 tk,.int .i64 tn,v0,.slice a1 ts.length cap1] 89:=by rw[hw1.out];exact BxT.new w _ _
 have HF:Hid (∀ v' w',Bf w1 W w' v' (zs++([32,108,101,110]++[32,40]++joinL ts++[32,41]))→SayP A W (zs++([32,108,101,110]++[32,40]++joinL ts++[32,41])) (.returned v') w'):=fun v' w' h=>⟨v',rfl,h.back hA.3⟩
 have hA1:=hA.from
 clear hA h
 generalize hQ:SayP A W (zs++([32,108,101,110]++[32,40]++joinL ts++[32,41]))=Q
 rw[hQ]at HF;have HQ:Hid (∀ w',K8 w1 w'→w'.cell? ⟨w.heap.size,5,none⟩=some (.slice a1 ts.length cap1)):=hbx.at (by decide) 5 _ rfl;have HKs:Hid _:=hks;have hl1:zs.length=zs.length:=rfl;clear hbx hks;have hw1':=hw1;rw[hw1.out]at hA1;go_enter Tryz.func55,Tryz.ntmps55;go_wp2_with (first|((have _g:=hbH);(at_builtin;refine Go.Lib.wpList_append_own_string _ rfl _ _ 22 9 rfl W.heap.size 5 i0 Tryz.underlying22 Tryz.underlying9 hi hz0 hz1 hz2 (.slice aH MH pH) _ _ rfl hbH.1 _ rfl (by rw[hlH];show _+2≤maxLen;unfold maxLen;omega) (by rw[hlH];show _+2≤_;omega) hbH.2.size ?_;intro v5 w5 o5 g5 _;have hb5:=hbH.put o5 (ts:=[32,40]) rfl rfl g5;have hl5:((zs++[32,108,101,110])++[32,40]).length=zs.length+4+2:=(by rw[List.length_append,hlH];rfl);obtain⟨a5,M5,p5,rfl,hM5⟩:=hb5.shape2))|(at_builtin;refine Go.Lib.wpList_append_own_string _ rfl _ _ 22 9 rfl W.heap.size 5 i0 Tryz.underlying22 Tryz.underlying9 hi hz0 hz1 hz2 (.slice a zs.length cap) _ _ rfl hA1.1 _ rfl (by rw[hl1];show _+4≤maxLen;unfold maxLen;omega) (by rw[hl1];show _+4≤_;omega) hA1.2.size ?_;intro v3 w3 o3 g3 _;have hb3:=hA1.put o3 (ts:=[32,108,101,110]) rfl rfl g3;have hbH:Bf w1 W w3 v3 (zs++[32,108,101,110]):=(by rw[hw1'.out];exact hb3);have hlH:(zs++[32,108,101,110]).length=zs.length+4:=(by simp);obtain⟨aH,MH,pH,rfl,hMH⟩:=hbH.shape2))
 go_loopw [0,7] (fun b i wr=>∃ j:Nat,i=.int .i64 (j:Int)∧j≤ts.length∧Bf w1 W wr b ((zs++[32,108,101,110])++[32,40]++joinL (ts.take j))) (fun _ i _=>ts.length - (intOf i).toNat)
 case atStart=>exact⟨0,rfl,Nat.zero_le _,by simpa[joinL] using hb5⟩
 case round =>
  obtain⟨j,rfl,hj,hbr⟩:=hrel;have qr:=HQ.out _ hbr.3;obtain⟨ar,Mr,pr,rfl,hMr⟩:=hbr.shape2;by_cases hlt:j<ts.length
  ·obtain⟨_,g,off,cap',k,n',tk',tn',y0,y1,e1,_,hcl,hcall⟩:=HKs.out j hlt;have HCL:Hid _:=hcl
   cases e1
   have hat:=zcm ts j hlt;have i1:(j:Int)<(ts.length:Int):=by omega
   have hlr:((zs++[32,108,101,110])++[32,40]++joinL (ts.take j)).length=zs.length+4+2+(joinL (ts.take j)).length:=by rw[List.length_append,hl5]
   clear hcl;by_cases h0:j=0
   ·rw[if_pos h0]at hat;have h0':Hid (j=0):=h0;obtain⟨d0,d1,d2,d3,d4,d5⟩:=HCL.out _ hbr.2;have i2:¬ (0:Int)<(j:Int):=by omega
    clear h0;go_wp2_with fail
    refine (hcall _ _ _ _ hbr (by rw[hlr];omega)).mono ?_;rintro e wn ⟨vn,rfl,hbn⟩;have hbn':Bf w1 W wn vn ((zs++[32,108,101,110])++[32,40]++joinL (ts.take (j+1))):=by rw[zap ts j hlt,if_pos h0'.out];simpa only[List.append_assoc,List.nil_append,List.append_nil] using hbn
    go_wp2_with fail
    go_roundw
    case rel=>exact⟨j+1,by go_num,by omega,hbn'⟩
    case measure=>simp[intOf];omega
   ·rw[if_neg h0]at hat;have i2:(0:Int)<(j:Int):=by omega
    go_wp2_with (at_builtin;refine Go.Lib.wpList_append_own_string _ rfl _ _ 22 9 rfl W.heap.size 5 i0 Tryz.underlying22 Tryz.underlying9 hi hz0 hz1 hz2 (.slice ar Mr pr) _ _ rfl hbr.1 _ rfl (by rw[hlr];show _+2≤maxLen;unfold maxLen;omega) (by rw[hlr];show _+2≤_;omega) hbr.2.size ?_;intro v8 w8 o8 g8 _;have hb8:=hbr.put o8 (ts:=[32,44]) rfl rfl g8;have q8:=HQ.out _ hb8.3;obtain⟨d0,d1,d2,d3,d4,d5⟩:=HCL.out _ hb8.2;have hl8:((zs++[32,108,101,110])++[32,40]++joinL (ts.take j)++[32,44]).length=zs.length+4+2+(joinL (ts.take j)).length+2:=(by rw[List.length_append,hlr];rfl);obtain⟨a8,M8,p8,rfl,hM8⟩:=hb8.shape2)
    refine (hcall _ _ _ _ hb8 (by rw[hl8];omega)).mono ?_;rintro e wn ⟨vn,rfl,hbn⟩;have hbn':Bf w1 W wn vn ((zs++[32,108,101,110])++[32,40]++joinL (ts.take (j+1))):=by rw[zap ts j hlt,if_neg h0];simpa only[List.append_assoc,List.nil_append,List.append_nil] using hbn
    go_wp2_with fail
    go_roundw
    case rel=>exact⟨j+1,by go_num,by omega,hbn'⟩
    case measure=>simp[intOf];omega
  ·have hje:j=ts.length:=by omega
   have i1:¬ (j:Int)<(ts.length:Int):=by omega
   have hte:ts.take j=ts:=by rw[hje];exact List.take_length
   have hlr:((zs++[32,108,101,110])++[32,40]++joinL (ts.take j)).length=zs.length+4+2+(joinL (ts.take j)).length:=by rw[List.length_append,hl5]
   rw[hte]at hbr hlr hMr;go_wp2_with (at_builtin;refine Go.Lib.wpList_append_own_string _ rfl _ _ 22 9 rfl W.heap.size 5 i0 Tryz.underlying22 Tryz.underlying9 hi hz0 hz1 hz2 (.slice ar Mr pr) _ _ rfl hbr.1 _ rfl (by rw[hlr];show _+2≤maxLen;unfold maxLen;omega) (by rw[hlr];show _+2≤_;omega) hbr.2.size ?_;intro v9 w9 o9 g9 _;have hb9:=hbr.put o9 (ts:=[32,41]) rfl rfl g9)
   rw[show (zs++[32,108,101,110])++[32,40]++joinL ts++[32,41]=zs++([32,108,101,110]++[32,40]++joinL ts++[32,41]) by simp only[List.append_assoc]]at hb9;exact HF.out _ _ hb9
theorem say_12 (A W w:World) (v sv v0 v1:Value) (zs:List Int) (n tk tn:Int) (h:Bf A W w v zs) (ts:List (List Int)) (hks:Kids W sv v1 ts) (hts:ts.length≤1000) (hb:zs.length+4+2+(joinL ts).length+2≤1000000) :
  Calls Tryz.prog 55 #[v,.agg #[.int .i64 12,.int .i64 n,.int .i64 tk,.int .i64 tn,v0,v1],sv] w (SayP A W (zs++([32,105,110,116]++[32,40]++joinL ts++[32,41]))):=by
 obtain⟨i0,hi,hz0,hz1,hz2⟩:=info_parts Tryz.info5;obtain⟨a,cap,rfl⟩:=h.shape;obtain⟨a1,cap1,rfl,hks⟩:=hks
 obtain⟨w1,hw1⟩:∃ w1,Hid (w1=w.alloc (.cells #[.int .i64 12,.int .i64 n,.int .i64 tk,.int .i64 tn,v0,.slice a1 ts.length cap1] 89)):=⟨_,rfl⟩
 have hA:Bf A W w1 (.slice a zs.length cap) zs:=by rw[hw1.out];exact h.alloc _
 have hbx:BxT w.heap.size w1 [.int .i64 12,.int .i64 n,.int .i64 tk,.int .i64 tn,v0,.slice a1 ts.length cap1] 89:=by rw[hw1.out];exact BxT.new w _ _
 have HF:Hid (∀ v' w',Bf w1 W w' v' (zs++([32,105,110,116]++[32,40]++joinL ts++[32,41]))→SayP A W (zs++([32,105,110,116]++[32,40]++joinL ts++[32,41])) (.returned v') w'):=fun v' w' h=>⟨v',rfl,h.back hA.3⟩
 have hA1:=hA.from
 clear hA h
 generalize hQ:SayP A W (zs++([32,105,110,116]++[32,40]++joinL ts++[32,41]))=Q
 rw[hQ]at HF;have HQ:Hid (∀ w',K8 w1 w'→w'.cell? ⟨w.heap.size,5,none⟩=some (.slice a1 ts.length cap1)):=hbx.at (by decide) 5 _ rfl;have HKs:Hid _:=hks;have hl1:zs.length=zs.length:=rfl;clear hbx hks;have hw1':=hw1;rw[hw1.out]at hA1;go_enter Tryz.func55,Tryz.ntmps55;go_wp2_with (first|((have _g:=hbH);(at_builtin;refine Go.Lib.wpList_append_own_string _ rfl _ _ 22 9 rfl W.heap.size 5 i0 Tryz.underlying22 Tryz.underlying9 hi hz0 hz1 hz2 (.slice aH MH pH) _ _ rfl hbH.1 _ rfl (by rw[hlH];show _+2≤maxLen;unfold maxLen;omega) (by rw[hlH];show _+2≤_;omega) hbH.2.size ?_;intro v5 w5 o5 g5 _;have hb5:=hbH.put o5 (ts:=[32,40]) rfl rfl g5;have hl5:((zs++[32,105,110,116])++[32,40]).length=zs.length+4+2:=(by rw[List.length_append,hlH];rfl);obtain⟨a5,M5,p5,rfl,hM5⟩:=hb5.shape2))|(at_builtin;refine Go.Lib.wpList_append_own_string _ rfl _ _ 22 9 rfl W.heap.size 5 i0 Tryz.underlying22 Tryz.underlying9 hi hz0 hz1 hz2 (.slice a zs.length cap) _ _ rfl hA1.1 _ rfl (by rw[hl1];show _+4≤maxLen;unfold maxLen;omega) (by rw[hl1];show _+4≤_;omega) hA1.2.size ?_;intro v3 w3 o3 g3 _;have hb3:=hA1.put o3 (ts:=[32,105,110,116]) rfl rfl g3;have hbH:Bf w1 W w3 v3 (zs++[32,105,110,116]):=(by rw[hw1'.out];exact hb3);have hlH:(zs++[32,105,110,116]).length=zs.length+4:=(by simp);obtain⟨aH,MH,pH,rfl,hMH⟩:=hbH.shape2))
 go_loopw [0,7] (fun b i wr=>∃ j:Nat,i=.int .i64 (j:Int)∧j≤ts.length∧Bf w1 W wr b ((zs++[32,105,110,116])++[32,40]++joinL (ts.take j))) (fun _ i _=>ts.length - (intOf i).toNat)
 case atStart=>exact⟨0,rfl,Nat.zero_le _,by simpa[joinL] using hb5⟩
 case round =>
  obtain⟨j,rfl,hj,hbr⟩:=hrel;have qr:=HQ.out _ hbr.3;obtain⟨ar,Mr,pr,rfl,hMr⟩:=hbr.shape2;by_cases hlt:j<ts.length
  ·obtain⟨_,g,off,cap',k,n',tk',tn',y0,y1,e1,_,hcl,hcall⟩:=HKs.out j hlt;have HCL:Hid _:=hcl
   cases e1
   have hat:=zcm ts j hlt;have i1:(j:Int)<(ts.length:Int):=by omega
   have hlr:((zs++[32,105,110,116])++[32,40]++joinL (ts.take j)).length=zs.length+4+2+(joinL (ts.take j)).length:=by rw[List.length_append,hl5]
   clear hcl;by_cases h0:j=0
   ·rw[if_pos h0]at hat;have h0':Hid (j=0):=h0;obtain⟨d0,d1,d2,d3,d4,d5⟩:=HCL.out _ hbr.2;have i2:¬ (0:Int)<(j:Int):=by omega
    clear h0;go_wp2_with fail
    refine (hcall _ _ _ _ hbr (by rw[hlr];omega)).mono ?_;rintro e wn ⟨vn,rfl,hbn⟩;have hbn':Bf w1 W wn vn ((zs++[32,105,110,116])++[32,40]++joinL (ts.take (j+1))):=by rw[zap ts j hlt,if_pos h0'.out];simpa only[List.append_assoc,List.nil_append,List.append_nil] using hbn
    go_wp2_with fail
    go_roundw
    case rel=>exact⟨j+1,by go_num,by omega,hbn'⟩
    case measure=>simp[intOf];omega
   ·rw[if_neg h0]at hat;have i2:(0:Int)<(j:Int):=by omega
    go_wp2_with (at_builtin;refine Go.Lib.wpList_append_own_string _ rfl _ _ 22 9 rfl W.heap.size 5 i0 Tryz.underlying22 Tryz.underlying9 hi hz0 hz1 hz2 (.slice ar Mr pr) _ _ rfl hbr.1 _ rfl (by rw[hlr];show _+2≤maxLen;unfold maxLen;omega) (by rw[hlr];show _+2≤_;omega) hbr.2.size ?_;intro v8 w8 o8 g8 _;have hb8:=hbr.put o8 (ts:=[32,44]) rfl rfl g8;have q8:=HQ.out _ hb8.3;obtain⟨d0,d1,d2,d3,d4,d5⟩:=HCL.out _ hb8.2;have hl8:((zs++[32,105,110,116])++[32,40]++joinL (ts.take j)++[32,44]).length=zs.length+4+2+(joinL (ts.take j)).length+2:=(by rw[List.length_append,hlr];rfl);obtain⟨a8,M8,p8,rfl,hM8⟩:=hb8.shape2)
    refine (hcall _ _ _ _ hb8 (by rw[hl8];omega)).mono ?_;rintro e wn ⟨vn,rfl,hbn⟩;have hbn':Bf w1 W wn vn ((zs++[32,105,110,116])++[32,40]++joinL (ts.take (j+1))):=by rw[zap ts j hlt,if_neg h0];simpa only[List.append_assoc,List.nil_append,List.append_nil] using hbn
    go_wp2_with fail
    go_roundw
    case rel=>exact⟨j+1,by go_num,by omega,hbn'⟩
    case measure=>simp[intOf];omega
  ·have hje:j=ts.length:=by omega
   have i1:¬ (j:Int)<(ts.length:Int):=by omega
   have hte:ts.take j=ts:=by rw[hje];exact List.take_length
   have hlr:((zs++[32,105,110,116])++[32,40]++joinL (ts.take j)).length=zs.length+4+2+(joinL (ts.take j)).length:=by rw[List.length_append,hl5]
   rw[hte]at hbr hlr hMr;go_wp2_with (at_builtin;refine Go.Lib.wpList_append_own_string _ rfl _ _ 22 9 rfl W.heap.size 5 i0 Tryz.underlying22 Tryz.underlying9 hi hz0 hz1 hz2 (.slice ar Mr pr) _ _ rfl hbr.1 _ rfl (by rw[hlr];show _+2≤maxLen;unfold maxLen;omega) (by rw[hlr];show _+2≤_;omega) hbr.2.size ?_;intro v9 w9 o9 g9 _;have hb9:=hbr.put o9 (ts:=[32,41]) rfl rfl g9)
   rw[show (zs++[32,105,110,116])++[32,40]++joinL ts++[32,41]=zs++([32,105,110,116]++[32,40]++joinL ts++[32,41]) by simp only[List.append_assoc]]at hb9;exact HF.out _ _ hb9
theorem say_13 (A W w:World) (v sv v0 v1:Value) (zs:List Int) (n tk tn:Int) (h:Bf A W w v zs) (ts:List (List Int)) (hks:Kids W sv v1 ts) (hts:ts.length≤1000) (hb:zs.length+6+2+(joinL ts).length+2≤1000000) :
  Calls Tryz.prog 55 #[v,.agg #[.int .i64 13,.int .i64 n,.int .i64 tk,.int .i64 tn,v0,v1],sv] w (SayP A W (zs++([32,102,108,111,97,116]++[32,40]++joinL ts++[32,41]))):=by
 obtain⟨i0,hi,hz0,hz1,hz2⟩:=info_parts Tryz.info5;obtain⟨a,cap,rfl⟩:=h.shape;obtain⟨a1,cap1,rfl,hks⟩:=hks
 obtain⟨w1,hw1⟩:∃ w1,Hid (w1=w.alloc (.cells #[.int .i64 13,.int .i64 n,.int .i64 tk,.int .i64 tn,v0,.slice a1 ts.length cap1] 89)):=⟨_,rfl⟩
 have hA:Bf A W w1 (.slice a zs.length cap) zs:=by rw[hw1.out];exact h.alloc _
 have hbx:BxT w.heap.size w1 [.int .i64 13,.int .i64 n,.int .i64 tk,.int .i64 tn,v0,.slice a1 ts.length cap1] 89:=by rw[hw1.out];exact BxT.new w _ _
 have HF:Hid (∀ v' w',Bf w1 W w' v' (zs++([32,102,108,111,97,116]++[32,40]++joinL ts++[32,41]))→SayP A W (zs++([32,102,108,111,97,116]++[32,40]++joinL ts++[32,41])) (.returned v') w'):=fun v' w' h=>⟨v',rfl,h.back hA.3⟩
 have hA1:=hA.from
 clear hA h
 generalize hQ:SayP A W (zs++([32,102,108,111,97,116]++[32,40]++joinL ts++[32,41]))=Q
 rw[hQ]at HF;have HQ:Hid (∀ w',K8 w1 w'→w'.cell? ⟨w.heap.size,5,none⟩=some (.slice a1 ts.length cap1)):=hbx.at (by decide) 5 _ rfl;have HKs:Hid _:=hks;have hl1:zs.length=zs.length:=rfl;clear hbx hks;have hw1':=hw1;rw[hw1.out]at hA1;go_enter Tryz.func55,Tryz.ntmps55;go_wp2_with (first|((have _g:=hbH);(at_builtin;refine Go.Lib.wpList_append_own_string _ rfl _ _ 22 9 rfl W.heap.size 5 i0 Tryz.underlying22 Tryz.underlying9 hi hz0 hz1 hz2 (.slice aH MH pH) _ _ rfl hbH.1 _ rfl (by rw[hlH];show _+2≤maxLen;unfold maxLen;omega) (by rw[hlH];show _+2≤_;omega) hbH.2.size ?_;intro v5 w5 o5 g5 _;have hb5:=hbH.put o5 (ts:=[32,40]) rfl rfl g5;have hl5:((zs++[32,102,108,111,97,116])++[32,40]).length=zs.length+6+2:=(by rw[List.length_append,hlH];rfl);obtain⟨a5,M5,p5,rfl,hM5⟩:=hb5.shape2))|(at_builtin;refine Go.Lib.wpList_append_own_string _ rfl _ _ 22 9 rfl W.heap.size 5 i0 Tryz.underlying22 Tryz.underlying9 hi hz0 hz1 hz2 (.slice a zs.length cap) _ _ rfl hA1.1 _ rfl (by rw[hl1];show _+6≤maxLen;unfold maxLen;omega) (by rw[hl1];show _+6≤_;omega) hA1.2.size ?_;intro v3 w3 o3 g3 _;have hb3:=hA1.put o3 (ts:=[32,102,108,111,97,116]) rfl rfl g3;have hbH:Bf w1 W w3 v3 (zs++[32,102,108,111,97,116]):=(by rw[hw1'.out];exact hb3);have hlH:(zs++[32,102,108,111,97,116]).length=zs.length+6:=(by simp);obtain⟨aH,MH,pH,rfl,hMH⟩:=hbH.shape2))
 go_loopw [0,7] (fun b i wr=>∃ j:Nat,i=.int .i64 (j:Int)∧j≤ts.length∧Bf w1 W wr b ((zs++[32,102,108,111,97,116])++[32,40]++joinL (ts.take j))) (fun _ i _=>ts.length - (intOf i).toNat)
 case atStart=>exact⟨0,rfl,Nat.zero_le _,by simpa[joinL] using hb5⟩
 case round =>
  obtain⟨j,rfl,hj,hbr⟩:=hrel;have qr:=HQ.out _ hbr.3;obtain⟨ar,Mr,pr,rfl,hMr⟩:=hbr.shape2;by_cases hlt:j<ts.length
  ·obtain⟨_,g,off,cap',k,n',tk',tn',y0,y1,e1,_,hcl,hcall⟩:=HKs.out j hlt;have HCL:Hid _:=hcl
   cases e1
   have hat:=zcm ts j hlt;have i1:(j:Int)<(ts.length:Int):=by omega
   have hlr:((zs++[32,102,108,111,97,116])++[32,40]++joinL (ts.take j)).length=zs.length+6+2+(joinL (ts.take j)).length:=by rw[List.length_append,hl5]
   clear hcl;by_cases h0:j=0
   ·rw[if_pos h0]at hat;have h0':Hid (j=0):=h0;obtain⟨d0,d1,d2,d3,d4,d5⟩:=HCL.out _ hbr.2;have i2:¬ (0:Int)<(j:Int):=by omega
    clear h0;go_wp2_with fail
    refine (hcall _ _ _ _ hbr (by rw[hlr];omega)).mono ?_;rintro e wn ⟨vn,rfl,hbn⟩;have hbn':Bf w1 W wn vn ((zs++[32,102,108,111,97,116])++[32,40]++joinL (ts.take (j+1))):=by rw[zap ts j hlt,if_pos h0'.out];simpa only[List.append_assoc,List.nil_append,List.append_nil] using hbn
    go_wp2_with fail
    go_roundw
    case rel=>exact⟨j+1,by go_num,by omega,hbn'⟩
    case measure=>simp[intOf];omega
   ·rw[if_neg h0]at hat;have i2:(0:Int)<(j:Int):=by omega
    go_wp2_with (at_builtin;refine Go.Lib.wpList_append_own_string _ rfl _ _ 22 9 rfl W.heap.size 5 i0 Tryz.underlying22 Tryz.underlying9 hi hz0 hz1 hz2 (.slice ar Mr pr) _ _ rfl hbr.1 _ rfl (by rw[hlr];show _+2≤maxLen;unfold maxLen;omega) (by rw[hlr];show _+2≤_;omega) hbr.2.size ?_;intro v8 w8 o8 g8 _;have hb8:=hbr.put o8 (ts:=[32,44]) rfl rfl g8;have q8:=HQ.out _ hb8.3;obtain⟨d0,d1,d2,d3,d4,d5⟩:=HCL.out _ hb8.2;have hl8:((zs++[32,102,108,111,97,116])++[32,40]++joinL (ts.take j)++[32,44]).length=zs.length+6+2+(joinL (ts.take j)).length+2:=(by rw[List.length_append,hlr];rfl);obtain⟨a8,M8,p8,rfl,hM8⟩:=hb8.shape2)
    refine (hcall _ _ _ _ hb8 (by rw[hl8];omega)).mono ?_;rintro e wn ⟨vn,rfl,hbn⟩;have hbn':Bf w1 W wn vn ((zs++[32,102,108,111,97,116])++[32,40]++joinL (ts.take (j+1))):=by rw[zap ts j hlt,if_neg h0];simpa only[List.append_assoc,List.nil_append,List.append_nil] using hbn
    go_wp2_with fail
    go_roundw
    case rel=>exact⟨j+1,by go_num,by omega,hbn'⟩
    case measure=>simp[intOf];omega
  ·have hje:j=ts.length:=by omega
   have i1:¬ (j:Int)<(ts.length:Int):=by omega
   have hte:ts.take j=ts:=by rw[hje];exact List.take_length
   have hlr:((zs++[32,102,108,111,97,116])++[32,40]++joinL (ts.take j)).length=zs.length+6+2+(joinL (ts.take j)).length:=by rw[List.length_append,hl5]
   rw[hte]at hbr hlr hMr;go_wp2_with (at_builtin;refine Go.Lib.wpList_append_own_string _ rfl _ _ 22 9 rfl W.heap.size 5 i0 Tryz.underlying22 Tryz.underlying9 hi hz0 hz1 hz2 (.slice ar Mr pr) _ _ rfl hbr.1 _ rfl (by rw[hlr];show _+2≤maxLen;unfold maxLen;omega) (by rw[hlr];show _+2≤_;omega) hbr.2.size ?_;intro v9 w9 o9 g9 _;have hb9:=hbr.put o9 (ts:=[32,41]) rfl rfl g9)
   rw[show (zs++[32,102,108,111,97,116])++[32,40]++joinL ts++[32,41]=zs++([32,102,108,111,97,116]++[32,40]++joinL ts++[32,41]) by simp only[List.append_assoc]]at hb9;exact HF.out _ _ hb9
theorem say_6 (A W w:World) (v sv v0 v1:Value) (zs:List Int) (n tk tn:Int) (h:Bf A W w v zs) (ts:List (List Int)) (nm:List Int) (hks:Kids W sv v1 ts) (hts:ts.length≤1000) (hv0:RdN W v0 nm) (hn1:1≤nm.length) (hb:zs.length+1+nm.length+2+(joinL ts).length+2≤1000000) :
  Calls Tryz.prog 55 #[v,.agg #[.int .i64 6,.int .i64 n,.int .i64 tk,.int .i64 tn,v0,v1],sv] w (SayP A W (zs++([32]++nm++[32,40]++joinL ts++[32,41]))):=by
 obtain⟨i0,hi,hz0,hz1,hz2⟩:=info_parts Tryz.info5;obtain⟨a,cap,rfl⟩:=h.shape;obtain⟨a1,cap1,rfl,hks⟩:=hks;obtain⟨g0,off0,q,rfl,hg0,hcells⟩:=zbm hv0 hn1
 obtain⟨w1,hw1⟩:∃ w1,Hid (w1=w.alloc (.cells #[.int .i64 6,.int .i64 n,.int .i64 tk,.int .i64 tn,.slice (some ⟨g0,off0,none⟩) nm.length q,.slice a1 ts.length cap1] 89)):=⟨_,rfl⟩
 have hA:Bf A W w1 (.slice a zs.length cap) zs:=by rw[hw1.out];exact h.alloc _
 have hbx:BxT w.heap.size w1 [.int .i64 6,.int .i64 n,.int .i64 tk,.int .i64 tn,.slice (some ⟨g0,off0,none⟩) nm.length q,.slice a1 ts.length cap1] 89:=by rw[hw1.out];exact BxT.new w _ _
 have HF:Hid (∀ v' w',Bf w1 W w' v' (zs++([32]++nm++[32,40]++joinL ts++[32,41]))→SayP A W (zs++([32]++nm++[32,40]++joinL ts++[32,41])) (.returned v') w'):=fun v' w' h=>⟨v',rfl,h.back hA.3⟩
 have hA1:=hA.from
 clear hA h
 generalize hQ:SayP A W (zs++([32]++nm++[32,40]++joinL ts++[32,41]))=Q
 rw[hQ]at HF;have HQ:Hid (∀ w',K8 w1 w'→w'.cell? ⟨w.heap.size,5,none⟩=some (.slice a1 ts.length cap1)):=hbx.at (by decide) 5 _ rfl;have HKs:Hid _:=hks;have HQ4:Hid (∀ w',K8 w1 w'→w'.cell? ⟨w.heap.size,4,none⟩=some (.slice (some ⟨g0,off0,none⟩) nm.length q)):=hbx.at (by decide) 4 _ rfl;have HC:Hid _:=hcells;have q1:=HQ4.out w1.drew (Later.drew _).k8;have q1':=HQ4.out (w1.alloc (.cells #[.int .u8 32] 5)).drew ((later1 _ _).trans (Later.drew _)).k8;have hB1:=(hA1.alloc (.cells #[.int .u8 32] 5)).later (Later.drew _);have hS1:=Later.ones (Later.drew (w1.alloc (.cells #[.int .u8 32] 5))) (g:=w1.heap.size) (by simp) (zaq w1 32)
 obtain⟨X,hX⟩:∃ X,Hid (X=nm.map (Value.int .u8)):=⟨_,rfl⟩
 have hXl:X.length=nm.length:=by rw[hX.out];simp
 have hX1:∀ u∈X,u.oneCell'=true:=by rw[hX.out];exact zbe nm
 rw[←hX.out]at HC;clear hbx hcells hv0 hks;go_enter Tryz.func55,Tryz.ntmps55;go_wp2_with fail
 rw[←hw1.out]
 go_region_law (first
  | (have _g:=hbf3;(refine zab rfl _ _ 22 rfl W.heap.size 5 i0 (.int .u8 0) 1 1 Tryz.underlying22 hi hz0 hz1 hz2 rfl (by decide) (.slice a3 M3 p3) _ _ rfl hbf3.1 ⟨g0,off0,none⟩ nm.length q X rfl (by rw[hXl,Nat.mul_one]) (HC.out _ hbf3.2) hX1 (by rw[hl3];unfold maxLen;omega) (by rw[hl3];omega) hbf3.2.size ?_;intro v5 w5 o5 g5;have hbH:=hbf3.put o5 rfl hX.out g5))
  | (refine zab rfl _ _ 22 rfl W.heap.size 5 i0 (.int .u8 0) 1 1 Tryz.underlying22 hi hz0 hz1 hz2 rfl (by decide) (.slice a zs.length cap) _ _ rfl hB1.1 ⟨_,0,none⟩ 1 1 [.int .u8 32] rfl rfl hS1 (by simp[Value.oneCell']) (by unfold maxLen;omega) (by omega) hB1.2.size ?_;intro v3 w3 o3 g3;have hbf3:Bf w1 W w3 v3 (zs++[32]):=hB1.put o3 rfl rfl g3;have hl3:(zs++[32]).length=zs.length+1:=(by simp);have q3:=HQ4.out _ hbf3.3;obtain⟨a3,M3,p3,rfl,hM3⟩:=hbf3.shape2)
  | fail "none")
 all_goals
  have hlH:(zs++[32]++nm).length=zs.length+1+nm.length:=by simp;omega
  obtain⟨aH,MH,pH,rfl,hMH⟩:=hbH.shape2;go_wp2_with (at_builtin;refine Go.Lib.wpList_append_own_string _ rfl _ _ 22 9 rfl W.heap.size 5 i0 Tryz.underlying22 Tryz.underlying9 hi hz0 hz1 hz2 (.slice aH MH pH) _ _ rfl hbH.1 _ rfl (by rw[hlH];show _+2≤maxLen;unfold maxLen;omega) (by rw[hlH];show _+2≤_;omega) hbH.2.size ?_;intro v5 w5 o5 g5 _;have hb5:=hbH.put o5 (ts:=[32,40]) rfl rfl g5;have hl5:((zs++[32]++nm)++[32,40]).length=zs.length+1+nm.length+2:=(by rw[List.length_append,hlH];rfl);obtain⟨a5,M5,p5,rfl,hM5⟩:=hb5.shape2)
  go_loopw [0,7] (fun b i wr=>∃ j:Nat,i=.int .i64 (j:Int)∧j≤ts.length∧Bf w1 W wr b ((zs++[32]++nm)++[32,40]++joinL (ts.take j))) (fun _ i _=>ts.length - (intOf i).toNat)
  case atStart=>exact⟨0,rfl,Nat.zero_le _,by simpa[joinL] using hb5⟩
  case round =>
   obtain⟨j,rfl,hj,hbr⟩:=hrel;have qr:=HQ.out _ hbr.3;obtain⟨ar,Mr,pr,rfl,hMr⟩:=hbr.shape2;by_cases hlt:j<ts.length
   ·obtain⟨_,g,off,cap',k,n',tk',tn',y0,y1,e1,_,hcl,hcall⟩:=HKs.out j hlt;have HCL:Hid _:=hcl
    cases e1
    have hat:=zcm ts j hlt;have i1:(j:Int)<(ts.length:Int):=by omega
    have hlr:((zs++[32]++nm)++[32,40]++joinL (ts.take j)).length=zs.length+1+nm.length+2+(joinL (ts.take j)).length:=by rw[List.length_append,hl5]
    clear hcl;by_cases h0:j=0
    ·rw[if_pos h0]at hat;have h0':Hid (j=0):=h0;obtain⟨d0,d1,d2,d3,d4,d5⟩:=HCL.out _ hbr.2;have i2:¬ (0:Int)<(j:Int):=by omega
     clear h0;go_wp2_with fail
     refine (hcall _ _ _ _ hbr (by rw[hlr];omega)).mono ?_;rintro e wn ⟨vn,rfl,hbn⟩;have hbn':Bf w1 W wn vn ((zs++[32]++nm)++[32,40]++joinL (ts.take (j+1))):=by rw[zap ts j hlt,if_pos h0'.out];simpa only[List.append_assoc,List.nil_append,List.append_nil] using hbn
     go_wp2_with fail
     go_roundw
     case rel=>exact⟨j+1,by go_num,by omega,hbn'⟩
     case measure=>simp[intOf];omega
    ·rw[if_neg h0]at hat;have i2:(0:Int)<(j:Int):=by omega
     go_wp2_with (at_builtin;refine Go.Lib.wpList_append_own_string _ rfl _ _ 22 9 rfl W.heap.size 5 i0 Tryz.underlying22 Tryz.underlying9 hi hz0 hz1 hz2 (.slice ar Mr pr) _ _ rfl hbr.1 _ rfl (by rw[hlr];show _+2≤maxLen;unfold maxLen;omega) (by rw[hlr];show _+2≤_;omega) hbr.2.size ?_;intro v8 w8 o8 g8 _;have hb8:=hbr.put o8 (ts:=[32,44]) rfl rfl g8;have q8:=HQ.out _ hb8.3;obtain⟨d0,d1,d2,d3,d4,d5⟩:=HCL.out _ hb8.2;have hl8:((zs++[32]++nm)++[32,40]++joinL (ts.take j)++[32,44]).length=zs.length+1+nm.length+2+(joinL (ts.take j)).length+2:=(by rw[List.length_append,hlr];rfl);obtain⟨a8,M8,p8,rfl,hM8⟩:=hb8.shape2)
     refine (hcall _ _ _ _ hb8 (by rw[hl8];omega)).mono ?_;rintro e wn ⟨vn,rfl,hbn⟩;have hbn':Bf w1 W wn vn ((zs++[32]++nm)++[32,40]++joinL (ts.take (j+1))):=by rw[zap ts j hlt,if_neg h0];simpa only[List.append_assoc,List.nil_append,List.append_nil] using hbn
     go_wp2_with fail
     go_roundw
     case rel=>exact⟨j+1,by go_num,by omega,hbn'⟩
     case measure=>simp[intOf];omega
   ·have hje:j=ts.length:=by omega
    have i1:¬ (j:Int)<(ts.length:Int):=by omega
    have hte:ts.take j=ts:=by rw[hje];exact List.take_length
    have hlr:((zs++[32]++nm)++[32,40]++joinL (ts.take j)).length=zs.length+1+nm.length+2+(joinL (ts.take j)).length:=by rw[List.length_append,hl5]
    rw[hte]at hbr hlr hMr;go_wp2_with (at_builtin;refine Go.Lib.wpList_append_own_string _ rfl _ _ 22 9 rfl W.heap.size 5 i0 Tryz.underlying22 Tryz.underlying9 hi hz0 hz1 hz2 (.slice ar Mr pr) _ _ rfl hbr.1 _ rfl (by rw[hlr];show _+2≤maxLen;unfold maxLen;omega) (by rw[hlr];show _+2≤_;omega) hbr.2.size ?_;intro v9 w9 o9 g9 _;have hb9:=hbr.put o9 (ts:=[32,41]) rfl rfl g9)
    rw[show (zs++[32]++nm)++[32,40]++joinL ts++[32,41]=zs++([32]++nm++[32,40]++joinL ts++[32,41]) by simp only[List.append_assoc]]at hb9;exact HF.out _ _ hb9
theorem say_5 (A W w:World) (v sv v0 v1:Value) (zs:List Int) (n tk tn:Int) (h:Bf A W w v zs) (l:List Sc) (hl:RdL W 2 sv (Sc.dats l)) (hk:tk=3∨tk=6→0≤tn∧tn<l.length) (hnm:∀ x∈l,1≤x.name.length∧x.name.length≤1000) (ts:List (List Int)) (hks:Kids W sv v1 ts) (hts:ts.length≤1000) (hb:zs.length+5+(sayTy l tk tn).length+2+(joinL ts).length+2≤1000000) :
  Calls Tryz.prog 55 #[v,.agg #[.int .i64 5,.int .i64 n,.int .i64 tk,.int .i64 tn,v0,v1],sv] w (SayP A W (zs++([32,109,97,107,101]++sayTy l tk tn++[32,40]++joinL ts++[32,41]))):=by
 obtain⟨i0,hi,hz0,hz1,hz2⟩:=info_parts Tryz.info5;obtain⟨a,cap,rfl⟩:=h.shape;obtain⟨a1,cap1,rfl,hks⟩:=hks
 obtain⟨w1,hw1⟩:∃ w1,Hid (w1=w.alloc (.cells #[.int .i64 5,.int .i64 n,.int .i64 tk,.int .i64 tn,v0,.slice a1 ts.length cap1] 89)):=⟨_,rfl⟩
 have hA:Bf A W w1 (.slice a zs.length cap) zs:=by rw[hw1.out];exact h.alloc _
 have hbx:BxT w.heap.size w1 [.int .i64 5,.int .i64 n,.int .i64 tk,.int .i64 tn,v0,.slice a1 ts.length cap1] 89:=by rw[hw1.out];exact BxT.new w _ _
 have HF:Hid (∀ v' w',Bf w1 W w' v' (zs++([32,109,97,107,101]++sayTy l tk tn++[32,40]++joinL ts++[32,41]))→SayP A W (zs++([32,109,97,107,101]++sayTy l tk tn++[32,40]++joinL ts++[32,41])) (.returned v') w'):=fun v' w' h=>⟨v',rfl,h.back hA.3⟩
 have hA1:=hA.from
 clear hA h
 generalize hQ:SayP A W (zs++([32,109,97,107,101]++sayTy l tk tn++[32,40]++joinL ts++[32,41]))=Q
 rw[hQ]at HF;have HQ:Hid (∀ w',K8 w1 w'→w'.cell? ⟨w.heap.size,5,none⟩=some (.slice a1 ts.length cap1)):=hbx.at (by decide) 5 _ rfl;have HKs:Hid _:=hks;have HT:Hid (∀ A w v zs,Bf A W w v zs→zs.length≤1000000→Calls Tryz.prog 36 #[v,.agg #[.int .i64 tk,.int .i64 tn],sv] w (SayP A W (zs++sayTy l tk tn))):=fun A w v zs h hb=>sayTy_any A W w v zs l tk tn sv h hb hl hk hnm;have HQ2:Hid (∀ w',K8 w1 w'→w'.cell? ⟨w.heap.size,2,none⟩=some (.int .i64 tk)):=hbx.at (by decide) 2 _ rfl;have HQ3:Hid (∀ w',K8 w1 w'→w'.cell? ⟨w.heap.size,3,none⟩=some (.int .i64 tn)):=hbx.at (by decide) 3 _ rfl
 generalize sayTy l tk tn=ty at *
 have hB0:=hA1.later (Later.drew _);have q2:=HQ2.out w1.drew hB0.3;have q3:=HQ3.out w1.drew hB0.3;clear hbx hks hl hk hnm;go_enter Tryz.func55,Tryz.ntmps55;go_wp2_with fail
 rw[←hw1.out]
 go_region_law (first
  | ((have _g:=hb3);(refine zaa rfl 36 en_ty _ _ rfl [.slice a3 M3 p3,.agg #[.int .i64 tk,.int .i64 tn],sv] rfl (fun v w'=>Bf w1 W w' v (zs++[32,109,97,107,101]++ty)) (HT.out _ _ _ _ hb3 (by rw[hl3];omega)) ?_;intro v4 w4 hbH))
  | (refine zad rfl _ _ 22 9 rfl W.heap.size 5 i0 Tryz.underlying22 Tryz.underlying9 hi hz0 hz1 hz2 (.slice a zs.length cap) _ _ rfl hB0.1 _ rfl (by show _+5≤maxLen;unfold maxLen;omega) (by show _+5≤_;omega) hB0.2.size ?_;intro v3 w3 o3 g3;have hb3:Bf w1 W w3 v3 (zs++[32,109,97,107,101]):=hB0.put o3 rfl rfl g3;have hl3:(zs++[32,109,97,107,101]).length=zs.length+5:=(by simp);have q4:=HQ2.out _ hb3.3;have q5:=HQ3.out _ hb3.3;obtain⟨a3,M3,p3,rfl,hM3⟩:=hb3.shape2)
  | fail "none")
 all_goals
  have hlH:(zs++[32,109,97,107,101]++ty).length=zs.length+5+ty.length:=by simp;omega
  obtain⟨aH,MH,pH,rfl,hMH⟩:=hbH.shape2;go_wp2_with (at_builtin;refine Go.Lib.wpList_append_own_string _ rfl _ _ 22 9 rfl W.heap.size 5 i0 Tryz.underlying22 Tryz.underlying9 hi hz0 hz1 hz2 (.slice aH MH pH) _ _ rfl hbH.1 _ rfl (by rw[hlH];show _+2≤maxLen;unfold maxLen;omega) (by rw[hlH];show _+2≤_;omega) hbH.2.size ?_;intro v5 w5 o5 g5 _;have hb5:=hbH.put o5 (ts:=[32,40]) rfl rfl g5;have hl5:((zs++[32,109,97,107,101]++ty)++[32,40]).length=zs.length+5+ty.length+2:=(by rw[List.length_append,hlH];rfl);obtain⟨a5,M5,p5,rfl,hM5⟩:=hb5.shape2)
  go_loopw [0,7] (fun b i wr=>∃ j:Nat,i=.int .i64 (j:Int)∧j≤ts.length∧Bf w1 W wr b ((zs++[32,109,97,107,101]++ty)++[32,40]++joinL (ts.take j))) (fun _ i _=>ts.length - (intOf i).toNat)
  case atStart=>exact⟨0,rfl,Nat.zero_le _,by simpa[joinL] using hb5⟩
  case round =>
   obtain⟨j,rfl,hj,hbr⟩:=hrel;have qr:=HQ.out _ hbr.3;obtain⟨ar,Mr,pr,rfl,hMr⟩:=hbr.shape2;by_cases hlt:j<ts.length
   ·obtain⟨_,g,off,cap',k,n',tk',tn',y0,y1,e1,_,hcl,hcall⟩:=HKs.out j hlt;have HCL:Hid _:=hcl
    cases e1
    have hat:=zcm ts j hlt;have i1:(j:Int)<(ts.length:Int):=by omega
    have hlr:((zs++[32,109,97,107,101]++ty)++[32,40]++joinL (ts.take j)).length=zs.length+5+ty.length+2+(joinL (ts.take j)).length:=by rw[List.length_append,hl5]
    clear hcl;by_cases h0:j=0
    ·rw[if_pos h0]at hat;have h0':Hid (j=0):=h0;obtain⟨d0,d1,d2,d3,d4,d5⟩:=HCL.out _ hbr.2;have i2:¬ (0:Int)<(j:Int):=by omega
     clear h0;go_wp2_with fail
     refine (hcall _ _ _ _ hbr (by rw[hlr];omega)).mono ?_;rintro e wn ⟨vn,rfl,hbn⟩;have hbn':Bf w1 W wn vn ((zs++[32,109,97,107,101]++ty)++[32,40]++joinL (ts.take (j+1))):=by rw[zap ts j hlt,if_pos h0'.out];simpa only[List.append_assoc,List.nil_append,List.append_nil] using hbn
     go_wp2_with fail
     go_roundw
     case rel=>exact⟨j+1,by go_num,by omega,hbn'⟩
     case measure=>simp[intOf];omega
    ·rw[if_neg h0]at hat;have i2:(0:Int)<(j:Int):=by omega
     go_wp2_with (at_builtin;refine Go.Lib.wpList_append_own_string _ rfl _ _ 22 9 rfl W.heap.size 5 i0 Tryz.underlying22 Tryz.underlying9 hi hz0 hz1 hz2 (.slice ar Mr pr) _ _ rfl hbr.1 _ rfl (by rw[hlr];show _+2≤maxLen;unfold maxLen;omega) (by rw[hlr];show _+2≤_;omega) hbr.2.size ?_;intro v8 w8 o8 g8 _;have hb8:=hbr.put o8 (ts:=[32,44]) rfl rfl g8;have q8:=HQ.out _ hb8.3;obtain⟨d0,d1,d2,d3,d4,d5⟩:=HCL.out _ hb8.2;have hl8:((zs++[32,109,97,107,101]++ty)++[32,40]++joinL (ts.take j)++[32,44]).length=zs.length+5+ty.length+2+(joinL (ts.take j)).length+2:=(by rw[List.length_append,hlr];rfl);obtain⟨a8,M8,p8,rfl,hM8⟩:=hb8.shape2)
     refine (hcall _ _ _ _ hb8 (by rw[hl8];omega)).mono ?_;rintro e wn ⟨vn,rfl,hbn⟩;have hbn':Bf w1 W wn vn ((zs++[32,109,97,107,101]++ty)++[32,40]++joinL (ts.take (j+1))):=by rw[zap ts j hlt,if_neg h0];simpa only[List.append_assoc,List.nil_append,List.append_nil] using hbn
     go_wp2_with fail
     go_roundw
     case rel=>exact⟨j+1,by go_num,by omega,hbn'⟩
     case measure=>simp[intOf];omega
   ·have hje:j=ts.length:=by omega
    have i1:¬ (j:Int)<(ts.length:Int):=by omega
    have hte:ts.take j=ts:=by rw[hje];exact List.take_length
    have hlr:((zs++[32,109,97,107,101]++ty)++[32,40]++joinL (ts.take j)).length=zs.length+5+ty.length+2+(joinL (ts.take j)).length:=by rw[List.length_append,hl5]
    rw[hte]at hbr hlr hMr;go_wp2_with (at_builtin;refine Go.Lib.wpList_append_own_string _ rfl _ _ 22 9 rfl W.heap.size 5 i0 Tryz.underlying22 Tryz.underlying9 hi hz0 hz1 hz2 (.slice ar Mr pr) _ _ rfl hbr.1 _ rfl (by rw[hlr];show _+2≤maxLen;unfold maxLen;omega) (by rw[hlr];show _+2≤_;omega) hbr.2.size ?_;intro v9 w9 o9 g9 _;have hb9:=hbr.put o9 (ts:=[32,41]) rfl rfl g9)
    rw[show (zs++[32,109,97,107,101]++ty)++[32,40]++joinL ts++[32,41]=zs++([32,109,97,107,101]++ty++[32,40]++joinL ts++[32,41]) by simp only[List.append_assoc]]at hb9;exact HF.out _ _ hb9
structure NodeOk (l:List Sc) (k n tk tn:Int) (name:List Int) (m:Nat):Prop where
 k0:0≤k
 k13:k≤13
 n64:InR n
 many:m≤1000
 short:name.length≤1000
 st:k=2∨k=4→0≤n∧n<l.length
 op:k=10→0≤n∧n<7
 nm:k=3∨k=6∨k=7→1≤name.length
 one:k=7∨k=8∨k=10→1≤m
 two:k=8∨k=10→2≤m
 ty:k=5→tk=3∨tk=6→0≤tn∧tn<l.length
inductive Ex.Fine (l:List Sc):Ex→Prop
 | mk {k n tk tn:Int}{name:List Int}{kids:List Ex}(h:NodeOk l k n tk tn name kids.length) (hs:∀ x∈kids,Ex.Fine l x):Ex.Fine l (.mk k n tk tn name kids)
def NamesFit (l:List Sc):Prop:=∀ x∈l,1≤x.name.length∧x.name.length≤1000
theorem kid_of {W:World}{l:List Sc}{sv:Value}{a:Option Addr}{n cap:Nat}{kids:List Ex}(h1:RdL W 6 (.slice a n cap) (Ex.dats kids)) (j:Nat) (hj:j<kids.length) (hn:n=kids.length)
  (ih:∀ A w v v0 v1 zs,RdN W v0 kids[j].name→RdL W 6 v1 (Ex.dats kids[j].kids)→Bf A W w v zs→zs.length+(Ex.say l kids[j]).length≤1000000→Calls Tryz.prog 55 #[v,.agg #[.int .i64 kids[j].kind,.int .i64 kids[j].n,.int .i64 kids[j].tk,.int .i64 kids[j].tn,v0,v1],sv] w (SayP A W (zs++Ex.say l kids[j]))) :
  Kid W sv (.slice a n cap) kids.length j (Ex.say l kids[j]):=by
 obtain⟨g,off,u0,u1,rfl,hgs,c0,c1,c2,c3,c4,c5,r0,r1⟩:=Ex.elem h1 j hj;refine⟨hj,g,off,cap,_,_,_,_,u0,u1,by rw[hn],hgs,fun w' hw=>?_,fun A w v zs hB hl=>ih A w v u0 u1 zs r0 r1 hB hl⟩;exact⟨by rw[hw.cell (p:=⟨g,off+j*6,none⟩) hgs];exact c0,by rw[hw.cell (p:=⟨g,off+j*6+1,none⟩) hgs];exact c1,by rw[hw.cell (p:=⟨g,off+j*6+2,none⟩) hgs];exact c2,by rw[hw.cell (p:=⟨g,off+j*6+3,none⟩) hgs];exact c3,by rw[hw.cell (p:=⟨g,off+j*6+4,none⟩) hgs];exact c4,by rw[hw.cell (p:=⟨g,off+j*6+5,none⟩) hgs];exact c5⟩
theorem says_get (l:List Sc) (xs:List Ex) (j:Nat) (h:j<(Ex.says l xs).length) (h':j<xs.length):(Ex.says l xs)[j]=Ex.say l xs[j]:=by
 have:=Ex.says_at l xs j h';unfold kidL at this;rw[List.getD_eq_getElem?_getD,List.getElem?_eq_getElem h]at this;exact this
theorem fourteen {k:Int}(h0:0≤k) (h1:k≤13):k=0∨k=1∨k=2∨k=3∨k=4∨k=5∨k=6∨k=7∨k=8∨k=9∨k=10∨k=11∨k=12∨k=13:=by omega
theorem say_all {W:World}{l:List Sc}{sv:Value}(hl:RdL W 2 sv (Sc.dats l)) (hnm:NamesFit l) (N:Nat):∀ (x:Ex),x.sz<N→Ex.Fine l x→∀ A w v v0 v1 zs,RdN W v0 x.name→RdL W 6 v1 (Ex.dats x.kids)→Bf A W w v zs→zs.length+(Ex.say l x).length≤1000000 →
  Calls Tryz.prog 55 #[v,.agg #[.int .i64 x.kind,.int .i64 x.n,.int .i64 x.tk,.int .i64 x.tn,v0,v1],sv] w (SayP A W (zs++Ex.say l x)):=by
 induction N with
 | zero =>
  intro x hx;exact absurd hx (Nat.not_lt_zero _)
 | succ N ih =>
  intro x hx hf A w v v0 v1 zs h0 h1 hB hb
  cases hf with
  | @mk k n tk tn name kids h hs =>
  replace h0:RdN W v0 name:=h0
  replace h1:RdL W 6 v1 (Ex.dats kids):=h1
  show Calls Tryz.prog 55 #[v,.agg #[.int .i64 k,.int .i64 n,.int .i64 tk,.int .i64 tn,v0,v1],sv] w (SayP A W (zs++Ex.say l (.mk k n tk tn name kids)));obtain⟨a1,cap1,rfl,hsl⟩:=Ex.slice h1
  have hsz:∀ (j:Nat) (hj:j<kids.length),kids[j].sz<N:=fun j hj=>by
   have:=Ex.sz_at kids j hj;rw[Ex.sz]at hx;omega
  have hK:∀ (j:Nat) (hj:j<kids.length),Kid W sv (.slice a1 kids.length cap1) kids.length j (Ex.say l kids[j]):=fun j hj=>kid_of h1 j hj rfl (ih kids[j] (hsz j hj) (hs _ (List.getElem_mem hj)))
  have hKs:Kids W sv (.slice a1 kids.length cap1) (Ex.says l kids):=⟨a1,cap1,by rw[Ex.says_len],fun j hj=>by
   have hj':j<kids.length:=by rw[←Ex.says_len l];exact hj
   rw[says_get l kids j hj hj',Ex.says_len]
   exact hK j hj'⟩
  have hm:(Ex.says l kids).length≤1000:=by rw[Ex.says_len];exact h.many
  have hk0:∀ (hj:0<kids.length),kidL (Ex.says l kids) 0=Ex.say l kids[0]:=fun hj=>Ex.says_at l kids 0 hj;have hk1:∀ (hj:1<kids.length),kidL (Ex.says l kids) 1=Ex.say l kids[1]:=fun hj=>Ex.says_at l kids 1 hj;rw[Ex.say]at hb ⊢
  generalize Ex.says l kids=ts at *
  have hbz:zs.length≤1000000:=by omega
  have hsh:=h.short;obtain rfl|rfl|rfl|rfl|rfl|rfl|rfl|rfl|rfl|rfl|rfl|rfl|rfl|rfl:=fourteen h.k0 h.k13
  ·exact say_0 A W w v sv v0 _ zs n tk tn hB hbz h.n64
  ·exact say_1 A W w v sv v0 _ zs n tk tn hB hbz
  ·exact say_2 A W w v sv v0 _ zs n tk tn hB hbz l hl (h.st (.inl rfl)).1 (h.st (.inl rfl)).2 hnm
  ·exact say_3 A W w v sv v0 _ zs n tk tn hB hbz name h0 (h.nm (.inl rfl)) hsh
  ·exact say_4 A W w v sv v0 _ zs n tk tn hB hbz l hl (h.st (.inr rfl)).1 (h.st (.inr rfl)).2 hnm
  ·have e:exL l 5 n tk tn name ts=[32,109,97,107,101]++sayTy l tk tn++[32,40]++joinL ts++[32,41]:=rfl;rw[e]at hb ⊢;exact say_5 A W w v sv v0 _ zs n tk tn hB l hl (h.ty rfl) hnm ts hKs hm (by simp only[List.length_append,List.length_cons,List.length_nil]at hb;omega)
  ·have e:exL l 6 n tk tn name ts=[32]++name++[32,40]++joinL ts++[32,41]:=rfl;rw[e]at hb ⊢;exact say_6 A W w v sv v0 _ zs n tk tn hB ts name hKs hm h0 (h.nm (.inr (.inl rfl))) (by simp only[List.length_append,List.length_cons,List.length_nil]at hb;omega)
  ·have hj:0<kids.length:=h.one (.inl rfl);have e:exL l 7 n tk tn name ts=Ex.say l kids[0]++[32,46,32]++name:=by rw[←hk0 hj];rfl
   rw[e]at hb ⊢;exact say_7 A W w v sv v0 _ zs n tk tn hB _ _ name (hK 0 hj) h0 (h.nm (.inr (.inr rfl))) (by simp only[List.length_append,List.length_cons,List.length_nil]at hb;omega)
  ·have hj:1<kids.length:=h.two (.inl rfl);have e:exL l 8 n tk tn name ts=Ex.say l kids[0]++([32,91]:List Int)++Ex.say l kids[1]++([32,93]:List Int):=by rw[←hk0 (by omega),← hk1 hj];rfl
   rw[e]at hb ⊢;exact say_8 A W w v sv v0 _ zs n tk tn hB _ _ _ (hK 0 (by omega)) (hK 1 hj) (by simp only[List.length_append,List.length_cons,List.length_nil]at hb;omega)
  ·have e:exL l 9 n tk tn name ts=[32,108,101,110]++[32,40]++joinL ts++[32,41]:=rfl;rw[e]at hb ⊢;exact say_9 A W w v sv v0 _ zs n tk tn hB ts hKs hm (by simp only[List.length_append,List.length_cons,List.length_nil]at hb;omega)
  ·have hj:1<kids.length:=h.two (.inr rfl);have e:exL l 10 n tk tn name ts=([32,40]:List Int)++Ex.say l kids[0]++(32::opL n)++Ex.say l kids[1]++([32,41]:List Int):=by rw[←hk0 (by omega),← hk1 hj];rfl
   rw[e]at hb ⊢;exact say_10 A W w v sv v0 _ zs n tk tn hB _ _ _ (hK 0 (by omega)) (hK 1 hj) (h.op rfl).1 (h.op rfl).2 (by simp only[List.length_append,List.length_cons,List.length_nil]at hb;omega)
  ·exact say_11 A W w v sv v0 _ zs n tk tn hB hbz
  ·have e:exL l 12 n tk tn name ts=[32,105,110,116]++[32,40]++joinL ts++[32,41]:=rfl;rw[e]at hb ⊢;exact say_12 A W w v sv v0 _ zs n tk tn hB ts hKs hm (by simp only[List.length_append,List.length_cons,List.length_nil]at hb;omega)
  ·have e:exL l 13 n tk tn name ts=[32,102,108,111,97,116]++[32,40]++joinL ts++[32,41]:=rfl;rw[e]at hb ⊢;exact say_13 A W w v sv v0 _ zs n tk tn hB ts hKs hm (by simp only[List.length_append,List.length_cons,List.length_nil]at hb;omega)
theorem say_any {W:World}{l:List Sc}{sv:Value}(hl:RdL W 2 sv (Sc.dats l)) (hnm:NamesFit l) (x:Ex) (hf:Ex.Fine l x) (A w:World) (v v0 v1:Value) (zs:List Int) (h0:RdN W v0 x.name) (h1:RdL W 6 v1 (Ex.dats x.kids)) (hB:Bf A W w v zs) (hb:zs.length+(Ex.say l x).length≤1000000) :
  Calls Tryz.prog 55 #[v,.agg #[.int .i64 x.kind,.int .i64 x.n,.int .i64 x.tk,.int .i64 x.tn,v0,v1],sv] w (SayP A W (zs++Ex.say l x)) :=
 say_all hl hnm _ x (Nat.lt_succ_self _) hf A w v v0 v1 zs h0 h1 hB hb
def setL:List Value→Nat→List Value→List Value
 | xs,_,[]=>xs
 | xs,o,v::r=>setL (xs.set o v) (o+1) r
theorem setL_len (vs:List Value):∀ (xs:List Value) (o:Nat),(setL xs o vs).length=xs.length:=by
 induction vs with
 | nil=>intro xs o;rfl
 | cons v r ih=>intro xs o;rw[setL,ih,List.length_set]
theorem setL_take (vs:List Value):∀ (xs:List Value) (o:Nat),o+vs.length≤xs.length→(setL xs o vs).take (o+vs.length)=xs.take o++vs:=by
 induction vs with
 | nil=>intro xs o _;simp[setL]
 | cons v r ih =>
  intro xs o h;rw[List.length_cons]at h;have h1:=ih (xs.set o v) (o+1) (by rw[List.length_set];omega);rw[setL,List.length_cons,show o+(r.length+1)=o+1+r.length by omega,h1]
  have h2:(xs.set o v).take (o+1)=xs.take o++[v]:=by
   rw[List.take_add_one,List.take_set_of_le (Nat.le_refl _),List.getElem?_set_self (by omega)];rfl
  rw[h2,List.append_assoc];rfl
theorem stored_many (vs:List Value):∀ (w:World) (base e g n cap o:Nat) (xs:List Value),w.ownsRow base e 1 (.slice (some ⟨g,0,none⟩) n cap) n xs →
  (w.setCells g o vs).ownsRow base e 1 (.slice (some ⟨g,0,none⟩) n cap) n (setL xs o vs)∧w.grownBy (w.setCells g o vs) (some g):=by
 induction vs with
 | nil=>intro w base e g n cap o xs h;exact⟨h,rfl,rfl,rfl,Nat.le_refl _,fun _ _ _=>rfl⟩
 | cons v r ih =>
  intro w base e g n cap o xs h;obtain⟨h1,g1⟩:=h.stored o v;obtain⟨h2,g2⟩:=ih _ base e g n cap (o+1) _ h1;refine⟨h2,g2.os.trans g1.os,g2.tape.trans g1.tape,g2.output.trans g1.output,Nat.le_trans g1.size g2.size,fun k hk hne=>?_⟩;rw[World.setCells,g2.block k (Nat.lt_of_lt_of_le hk g1.size) hne,g1.block k hk hne]
theorem own_take {w:World}{base e g n cap:Nat}{xs:List Value}(h:w.ownsRow base e 1 (.slice (some ⟨g,0,none⟩) n cap) n xs) (m:Nat) (hm:m≤n):w.ownsRow base e 1 (.slice (some ⟨g,0,none⟩) m cap) m (xs.take m):=by
 have hl:=h.1;rcases h.2 with ⟨h',_⟩|⟨g',cap',cur,h',hb,hg,hnc,hcm,hcs,htake⟩
 ·simp at h'
 ·simp only[Value.slice.injEq,Option.some.injEq,Addr.mk.injEq,and_true,true_and]at h';obtain⟨rfl,rfl⟩:=h';refine⟨by rw[List.length_take];omega,.inr ⟨g,cap,cur,rfl,hb,hg,by omega,hcm,hcs,?_⟩⟩;rw[←htake,List.take_take,Nat.mul_one,Nat.mul_one,Nat.min_eq_left hm]
theorem cut_row {A W w:World}{g n cap k:Nat}{zs ts:List Int}{c:Int}(h:Bf A W w (.slice (some ⟨g,0,none⟩) n cap) (zs++c::ts)) (hn:n=zs.length+1+ts.length) (hk:k=zs.length) :
  Bf A W (w.setCells g (0+k*1) (ts.map (Value.int .u8))) (.slice (some ⟨g,0,none⟩) (k+ts.length) cap) (zs++ts):=by
 subst hk;have hl:(zs++c::ts).length=n:=by rw[List.length_append,List.length_cons];omega
 have h0:=h.1;rw[hl]at h0;obtain⟨h1,g1⟩:=stored_many (ts.map (Value.int .u8)) w _ _ g n cap (0+zs.length*1) _ h0;have h2:=own_take h1 (zs.length+ts.length) (by omega);have h3:=setL_take (ts.map (Value.int .u8)) ((zs++c::ts).map (Value.int .u8)) (0+zs.length*1) (by simp)
 have e:((zs++c::ts).map (Value.int .u8)).take (0+zs.length*1)=zs.map (Value.int .u8):=by
  rw[List.map_append,Nat.zero_add,Nat.mul_one];exact List.take_left' (by simp)
 rw[e,List.length_map,Nat.zero_add,Nat.mul_one]at h3;rw[Nat.zero_add,Nat.mul_one]at h2;rw[h3,← List.map_append]at h2;refine⟨?_,h.2.trans' (v:=.slice (some ⟨g,0,none⟩) n cap) g1 (zdv h.1),h.3.trans (K8.grown h.1 g1)⟩;rw[List.length_append,Nat.zero_add,Nat.mul_one];exact h2
end Go.Proofs.YtgholpilmdebmaaGreatDoor
