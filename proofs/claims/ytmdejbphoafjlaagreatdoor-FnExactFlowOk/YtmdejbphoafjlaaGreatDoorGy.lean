import Derived.Test.YtmdejbphoafjlaaGreatDoorGw
import Derived.Test.YtmdejbphoafjlaaGreatDoorGx
import Derived.Test.YtmdejbphoafjlaaGreatDoorGn
set_option maxHeartbeats 100000000
set_option maxRecDepth 100000
namespace Go.Proofs.YtmdejbphoafjlaaGreatDoor
open Go.RowKit Go.Lib
def So.ok (x:So):Bool:=x.run.isSome&&decide (x.text.length≤6000)
theorem env_of {W:World}(nm:String) (hname:nm= "internal/strconv.uint64pow10") (hT:TabIs Tryz.prog W nm .u64 pow10Tab) (hb:7<W.heap.size) (hc:W.cell? ⟨7,15,none⟩=some (.int .u8 4)) (ho:2<W.heap.size) (hs:∀ i:Nat,i<7→∃ s,W.cell? ⟨2,i,none⟩=some (.string s)∧bytesOf s=opL i):Env W where
 ito:=fun n w hn hw=>ito_any nm hname n w hn (tabBelow_of_tabIs hT w hw)
 flo:=fun n w _ hw=>flo_any n w (Nat.lt_of_lt_of_le hb hw.size) (by rw[hw.cell (p:=⟨7,15,none⟩) hb];exact hc)
 ops:=hs
 big:=ho
theorem Env.later {W w:World}(h:Env W) (hw:Later W w):Env w where
 ito:=fun n w' hn hw'=>h.ito n w' hn (hw.trans hw')
 flo:=fun n w' hn hw'=>h.flo n w' hn (hw.trans hw')
 ops:=fun i hi=>by
  obtain⟨s,h1,h2⟩:=h.ops i hi
  exact⟨s,by rw[hw.cell (p:=⟨2,i,none⟩) h.big];exact h1,h2⟩
 big:=Nat.lt_of_lt_of_le h.big hw.size
def OkP (b:Bool) (w:World) (e:Ending) (w':World):Prop:=e=.returned (.bool b)∧Later w w'
theorem iok_any (x:So) (v0 v1:Value) (w:World) (hE:Env w) (hg:Fu.goods x.funcs) (h0:RdL w 2 v0 (Sc.dats x.structs)) (h1:RdL w 5 v1 (Fu.dats x.funcs)) :
  Calls Tryz.prog 29 #[.agg #[v0,v1]] w (OkP x.ok w):=by
 have hP:=fun w' (l:Later w w')=>iprint_any x v0 v1 w' (hE.later l) hg (h0.later l) (h1.later l)
 obtain⟨sa,scap,rfl,hsl⟩:=Sc.slice h0
 obtain⟨fa,fcap,rfl,hfl⟩:=Fu.slice h1
 have HY:Hid (∀ w',Later w w'→x.run.isSome=true→x.text.length≤6000→OkP x.ok w (.returned (.bool true)) w'):=fun w' l a b=>⟨by unfold So.ok;rw[a,decide_eq_true b];rfl,l⟩
 have HN:Hid (∀ w',Later w w'→¬ (x.run.isSome=true∧x.text.length≤6000)→OkP x.ok w (.returned (.bool false)) w'):=fun w' l a=>⟨by
  have:x.ok=false:=by
   unfold So.ok
   cases h:x.run.isSome
   ·rfl
   ·rw[Bool.true_and,decide_eq_false (fun q=>a ⟨h,q⟩)]
  rw[this],l⟩
 generalize hQ:OkP x.ok w=Q at *
 clear hQ h0 h1 hsl hfl
 go_enter Tryz.func29,Tryz.ntmps29
 go_wp2_with fail
 refine (hP _ (later1 _ _)).mono ?_
 rintro e w2 ⟨hl,⟨hr,h6,v,rfl,_⟩|⟨hn,rfl⟩⟩
 ·have HA:=HY.out w2 ((later1 _ _).trans hl) hr h6
  clear HY HN hP
  go_wp2_with fail
  exact HA
 ·have HA:=HN.out w2 ((later1 _ _).trans hl) hn
  clear HY HN hP
  go_wp2_with fail
  exact HA
theorem sok_any (x:So) (v0 v1:Value) (w:World) (hg:Fu.goods x.funcs) (h0:RdL w 2 v0 (Sc.dats x.structs)) (h1:RdL w 5 v1 (Fu.dats x.funcs)) :
  Calls Tryz.prog 22 #[.agg #[v0,v1]] w (OkP x.ok w):=by
 have hP:=fun w' (l:Later w w')=>sparts_any x v0 v1 w' hg (h0.later l) (h1.later l)
 have hT:=fun w' (l:Later w w') (hf:SoFine x)=>print_any x hf w' w' v0 v1 (Later.refl _) (h0.later l) (h1.later l)
 have hfine:x.run.isSome=true→SoFineI x:=fun h=>by
  cases e:So.run x with
  | none=>rw[e]at h;cases h
  | some q=>exact So.run_fine hg e
 obtain⟨sa,scap,rfl,hsl⟩:=Sc.slice h0
 obtain⟨fa,fcap,rfl,hfl⟩:=Fu.slice h1
 have hbx:BxT w.heap.size (w.alloc (.cells #[.slice sa x.structs.length scap,.slice fa x.funcs.length fcap] 31)) [.slice sa x.structs.length scap,.slice fa x.funcs.length fcap] 31:=BxT.new w _ _
 obtain⟨w1,hw1⟩:=hid_ex (w.alloc (.cells #[.slice sa x.structs.length scap,.slice fa x.funcs.length fcap] 31))
 rw[←hw1.out]at hbx
 have hL1:Later w w1:=by rw[hw1.out];exact later1 _ _
 have hz1:w.heap.size<w1.heap.size:=by rw[hw1.out];simp
 cases hr:So.run x with
 | none =>
  have hleft:=So.left_no hr
  have HA:Hid (∀ w',Later w w'→OkP x.ok w (.returned (.bool false)) w'):=fun w' l=>⟨by unfold So.ok;rw[hr];rfl,l⟩
  generalize hQ:OkP x.ok w=Q at *
  clear hQ h0 h1 hsl hfl hfine hT hbx
  go_enter Tryz.func22,Tryz.ntmps22
  go_wp2_with fail
  rw[←hw1.out]
  refine (hP _ hL1).mono ?_
  rintro e w2 ⟨rfl,l2⟩
  rw[hleft]
  have HB:=HA.out w2 (hL1.trans l2)
  clear HA hP
  go_wp2_with fail
  exact HB
 | some q =>
  have hleft:=So.left_yes hr
  have hq:0≤q∧q≤400:=by
   have h:=hr
   unfold So.run at h
   split at h
   ·have:=Fu.runs_le _ _ _ _ h
    exact⟨this.2 (by omega),this.1⟩
   ·cases h
  have hF:=(hfine (by rw[hr];rfl)).fine
  have HA:Hid (∀ w' b,Later w w'→b=decide (x.text.length≤6000)→OkP x.ok w (.returned (.bool b)) w'):=fun w' b l hb=>⟨by unfold So.ok;rw[hr,hb];rfl,l⟩
  have hll:=hF.len
  generalize hQ:OkP x.ok w=Q at *
  clear hQ h0 h1 hsl hfl hfine
  go_enter Tryz.func22,Tryz.ntmps22
  go_wp2_with fail
  rw[←hw1.out]
  refine (hP _ hL1).mono ?_
  rintro e w2 ⟨rfl,l2⟩
  rw[hleft]
  have L2:=hL1.trans l2
  have hbx2:BxT w.heap.size w2 [.slice sa x.structs.length scap,.slice fa x.funcs.length fcap] 31:=by unfold BxT at hbx ⊢;rw[l2.block _ hz1];exact hbx
  have y0:=hbx2.cell 0 _ rfl
  have y1:=hbx2.cell 1 _ rfl
  have hT2:=hT w2 L2 hF
  obtain⟨L,hL⟩:=hid_ex ((400:Int) - q)
  rw[←hL.out]
  have i1:(0:Int)≤L:=by rw[hL.out];omega
  clear hP hT hbx hbx2 hleft hq
  go_wp2_with fail
  refine hT2.mono ?_
  rintro e w3 ⟨v,rfl,hB⟩
  have L3:=L2.trans hB.lat
  obtain⟨a,M,cap,rfl,hM⟩:=hB.shape2
  have HB:=HA.out w3 (decide ((M:Int)≤6000)) L3 (by rw[hM.out];exact decide_eq_decide.2 (by omega))
  clear HA
  go_wp2_with fail
  exact HB
end Go.Proofs.YtmdejbphoafjlaaGreatDoor
