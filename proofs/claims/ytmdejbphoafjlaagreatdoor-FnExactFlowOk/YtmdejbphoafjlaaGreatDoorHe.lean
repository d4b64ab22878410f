/- My texts N10, N11 in one. -/
import Derived.Test.YtmdejbphoafjlaaGreatDoorHd
import Derived.Test.YtmdejbphoafjlaaGreatDoorHc
import Derived.Shelf.SlMaps.Clone
set_option maxHeartbeats 100000000
set_option maxRecDepth 100000
namespace Go.Proofs.YtmdejbphoafjlaaGreatDoor
open Go.RowKit Go.Maps
theorem mclone_raw (b:Nat) (es:Array MapEntry) (clock:Nat) (w:World) (hb:w.heap[b]?=some (.map es clock)) :
  Calls Tryz.prog 62 #[.map (some b)] w fun e w'=>e=.returned (.map (some w.heap.size))∧w'=w.alloc (.map es clock):=by
 have hq:=fun (w:World)=>run_eql_map_nil_sl (P:=Tryz.prog) w 101 _ _ (some b) Tryz.underlying101
 go_enter Tryz.func62,Tryz.ntmps62
 go_wp2
 rw[run_callFunc_extern Tryz.func107 (by kernel_rfl) (by kernel_rfl) (by kernel_rfl) (e:=Extern.MapsClone.clone) (by kernel_rfl),run_maps_clone_sl w 101 hb]
 simp only[Result.andThen]
 rw[Oper.upon_value]
 go_wp2
 rw[run_typeAssert_map_sl _ 101 _ _ _ _ Tryz.underlying101]
 simp only[Result.andThen]
 rw[Oper.upon_value]
 go_wp2
 go_ret
 exact⟨rfl,rfl⟩
theorem mclone_any (b n:Nat) (f:List Int→Option Int) (w:World) (h:Mp w b n f):Calls Tryz.prog 62 #[.map (some b)] w fun e w'=>e=.returned (.map (some w.heap.size))∧Mp w' w.heap.size n f∧Later w w':=by
 obtain⟨D,⟨es,clock,hb,F,hs,hD⟩,h2⟩:=h
 refine (mclone_raw b es clock w hb).mono ?_
 rintro e w' ⟨rfl,rfl⟩
 exact⟨rfl,⟨D,⟨es,clock,(MapKept.heap_alloc w _).1,F,hs,hD⟩,h2⟩,later1 _ _⟩
theorem plcs_pre (l r:List (List Int)):∀ j,j≤l.length→plcs (l++r) j=plcs l j
 | 0,_=>rfl
 | j+1,h=>by
  rw[plcs,plcs,plcs_pre l r j (by omega)]
  have:(l++r).getD j []=l.getD j []:=by
   rw[List.getD_eq_getElem?_getD,List.getD_eq_getElem?_getD,List.getElem?_append_left (by omega)]
  rw[this]
theorem plc_snoc (l:List (List Int)) (z:List Int):plc (l++[z])=upd (plc l) z l.length:=by
 unfold plc
 rw[List.length_append,List.length_singleton,plcs,plcs_pre l [z] _ (Nat.le_refl _)]
 have:(l++[z]).getD l.length []=z:=by rw[List.getD_eq_getElem?_getD,List.getElem?_append_right (Nat.le_refl _),Nat.sub_self];rfl
 rw[this]
def seenF (all seen:List (List Int)):List Int→Option Int:=fun z=>if z∈seen then plc all z else none
structure Ng (w:World) (K bf bd bs:Nat) (fs all seen:List (List Int)):Prop where
 box:Bxx w K [.map (some bf),.map (some bd),.map (some bs)]
 mf:∃ n,Mp w bf n (plc fs)
 md:Mp w bd all.length (plc all)
 ms:∃ n,n≤all.length∧Mp w bs n (seenF all seen)
 ne:bd≠bs∧bf≠bd∧bf≠bs
 nd:all.Nodup
 sub:∀ z∈seen,z∈all
theorem Ng.kept {w w':World}{K bf bd bs:Nat}{fs all seen:List (List Int)}(h:Ng w K bf bd bs fs all seen) (hs:w.heap.size≤w'.heap.size) (hb:∀ b,b=K∨b=bf∨b=bd∨b=bs→w'.heap[b]?=w.heap[b]?):Ng w' K bf bd bs fs all seen:=by
 obtain⟨h1,⟨n,h2⟩,h3,⟨m,hm,h4⟩,h5,h6,h7⟩:=h
 exact⟨h1.kept hs (hb K (.inl rfl)),⟨n,h2.kept (hb bf (.inr (.inl rfl)))⟩,h3.kept (hb bd (.inr (.inr (.inl rfl)))),⟨m,hm,h4.kept (hb bs (.inr (.inr (.inr rfl))))⟩,h5,h6,h7⟩
theorem map_ne {w:World}{K b n:Nat}{f:List Int→Option Int}{u:Value}{xs:List Value}(h1:Bxx w K (u::xs)) (h2:Mp w b n f):K≠b:=by
 intro e
 subst e
 obtain⟨D,⟨es,clock,hb,_⟩,_⟩:=h2
 have:=(h1.cell 0 u rfl).1
 unfold World.cell? at this
 simp only[hb]at this
 cases this
def DecP (w:World) (K bf bd bs:Nat) (fs all seen:List (List Int)) (z:List Int) (e:Ending) (w':World):Prop :=
 (z∈all∧e=.returned (.tuple #[.int .i64 0,.bool false])∧w'=w)∨(z∉all∧e=.returned (.tuple #[.int .i64 all.length,.bool true])∧Ng w' K bf bd bs fs (all++[z]) (seen++[z])∧OnlyF [bd,bs] w w')
theorem ideclare_any (w:World) (K bf bd bs:Nat) (fs all seen:List (List Int)) (z:List Int) (h:Ng w K bf bd bs fs all seen) (hz:Nm z) (hl:all.length≤800000) :
  Calls Tryz.prog 144 #[.pointer (some ⟨K,0,none⟩),.string (strOfNums z)] w (DecP w K bf bd bs fs all seen z):=by
 have x1:=(h.box.cell 1 _ rfl).1
 have x2:=(h.box.cell 2 _ rfl).1
 have hlk:=h.md.look hz
 have hKd:=map_ne h.box h.md
 obtain⟨m,hm,hms⟩:=h.ms
 have hKs:=map_ne h.box hms
 by_cases hz1:z∈all
 ·have HA:Hid (DecP w K bf bd bs fs all seen z (.returned (.tuple #[.int .i64 0,.bool false])) w):=.inl ⟨hz1,rfl,rfl⟩
  have hs:(plc all z).isSome=true:=(plcs_some all all.length z (Nat.le_refl _)).2 (by rw[List.take_length];exact hz1)
  rw[hs]at hlk
  generalize (plc all z).getD 0=pv at *
  generalize hQ:DecP w K bf bd bs fs all seen z=Q at *
  clear hQ h hms hs
  go_enter Tryz.func144,Tryz.ntmps144
  go_wp2_with fail
  exact HA.out
 ·have hp:plc all z=none:=plc_none hz1
  rw[hp]at hlk
  have hlen:=fun ty=>h.md.len ty
  obtain⟨w1,hu1,hM1,ht1⟩:=h.md.put (by omega) hz (wf_nat (j:=all.length) (by omega))
  obtain⟨hb1,hs1,ho1,hta1,hou1⟩:=mapTurned_block ht1
  rw[hp]at hM1
  have hms1:=hms.kept (hb1 bs (Ne.symm h.ne.1))
  obtain⟨w2,hu2,hM2,ht2⟩:=hms1.put (by omega) hz (wf_nat (j:=all.length) (by omega))
  obtain⟨hb2,hs2,ho2,hta2,hou2⟩:=mapTurned_block ht2
  have hsn:seenF all seen z=none:=by unfold seenF;split;exact hp;rfl
  rw[hsn]at hM2
  have x2':w1.cell? ⟨K,2,none⟩=some (.map (some bs)):=by rw[World.cell?_of_block (w:=w) (w':=w1) (a:=⟨K,2,none⟩) (hb1 K hKd)];exact x2
  have x1':w1.cell? ⟨K,1,none⟩=some (.map (some bd)):=by rw[World.cell?_of_block (w:=w) (w':=w1) (a:=⟨K,1,none⟩) (hb1 K hKd)];exact x1
  have HA:Hid (DecP w K bf bd bs fs all seen z (.returned (.tuple #[.int .i64 all.length,.bool true])) w2):=by
   refine .inr ⟨hz1,rfl,⟨?_,?_,?_,⟨m+1,?_,?_⟩,h.ne,?_,fun y hy=>?_⟩,⟨ho2.trans ho1,hta2.trans hta1,hou2.trans hou1,by omega,fun b _ hn=>?_⟩⟩
   ·exact h.box.kept (by omega) (by rw[hb2 K hKs,hb1 K hKd])
   ·obtain⟨n,hf⟩:=h.mf
    exact⟨n,hf.kept (by rw[hb2 bf h.ne.2.2,hb1 bf h.ne.2.1])⟩
   ·rw[List.length_append,plc_snoc]
    exact hM1.kept (hb2 bd h.ne.1)
   ·rw[List.length_append];exact Nat.succ_le_succ hm
   ·refine hM2.congr fun y hy=>?_
    unfold upd seenF
    rw[plc_snoc]
    unfold upd
    by_cases e:y=z
    ·subst e;simp
    ·simp[e]
   ·rw[List.nodup_append]
    exact⟨h.nd,by simp,fun a ha b hb e=>hz1 (by rw[List.mem_singleton.1 hb]at e;rw[←e];exact ha)⟩
   ·rw[List.mem_append]at hy ⊢
    exact hy.imp (h.sub y) id
   ·simp at hn
    rw[hb2 b hn.2,hb1 b hn.1]
  generalize hQ:DecP w K bf bd bs fs all seen z=Q at *
  generalize all.length=AL at *
  clear hQ h hms hms1 hM1 hM2 hb1 hb2
  go_enter Tryz.func144,Tryz.ntmps144
  go_wp2_with fail
  exact HA.out
theorem ltCell {w:World}{b o:Nat}{v:Value}(h:w.cell? ⟨b,o,none⟩=some v):b<w.heap.size:=by
 unfold World.cell? at h
 rcases Nat.lt_or_ge b w.heap.size with q|q
 ·exact q
 ·rw[Array.getElem?_eq_none q]at h;cases h
structure TyE (w:World):Prop where
 i0:w.cell? ⟨0,0,none⟩=some (.int .i64 1)
 i1:w.cell? ⟨0,1,none⟩=some (.int .i64 0)
 f0:w.cell? ⟨1,0,none⟩=some (.int .i64 2)
 f1:w.cell? ⟨1,1,none⟩=some (.int .i64 0)
theorem TyE.later {w w':World}(h:TyE w) (hl:Later w w'):TyE w' :=
 ⟨by rw[Below.cell hl (p:=⟨0,0,none⟩) (ltCell h.i0)];exact h.i0,by rw[Below.cell hl (p:=⟨0,1,none⟩) (ltCell h.i1)];exact h.i1,by rw[Below.cell hl (p:=⟨1,0,none⟩) (ltCell h.f0)];exact h.f0,by rw[Below.cell hl (p:=⟨1,1,none⟩) (ltCell h.f1)];exact h.f1⟩
def stT (k:Int):TypeId:=if k=0 then 190 else if k=1 then 198 else if k=2 then 199 else if k=3 then 200 else if k=4 then 201 else if k=5 then 202 else if k=6 then 203 else if k=7 then 204 else 188
def stV (k:Int) (g o:Nat):Value:=.iface (stT k) (.agg #[.pointer (some ⟨g,o,none⟩)])
def exV (k n:Int) (g o:Nat):Value:=if k=0 then .iface 243 (.agg #[.pointer (some ⟨g,o,none⟩),.int .i64 1,.int .i64 0]) else if k=1 then .iface 243 (.agg #[.pointer (some ⟨g,o,none⟩),.int .i64 2,.int .i64 0]) else if k=2 then .iface 243 (.agg #[.pointer (some ⟨g,o,none⟩),.int .i64 3,.int .i64 n]) else if k=3 then .iface 196 (.agg #[.pointer (some ⟨g,o,none⟩)]) else if k=4 then .iface 243 (.agg #[.pointer (some ⟨g,o,none⟩),.int .i64 3,.int .i64 n]) else if k=5 then .iface 244 (.agg #[.pointer (some ⟨g,o,none⟩)]) else if k=6 then .iface 197 (.agg #[.pointer (some ⟨g,o,none⟩)]) else if k=7 then .iface 245 (.agg #[.pointer (some ⟨g,o,none⟩)]) else if k=8 then .iface 246 (.agg #[.pointer (some ⟨g,o,none⟩)]) else if k=9 then .iface 247 (.agg #[.pointer (some ⟨g,o,none⟩)]) else if k=10 then .iface 250 (.agg #[.pointer (some ⟨g,o,none⟩)]) else if k=11 then .iface 243 (.agg #[.pointer (some ⟨g,o,none⟩),.int .i64 1,.int .i64 0]) else if k=12 then .iface 249 (.agg #[.pointer (some ⟨g,o,none⟩),.int .i64 2,.int .i64 0,.int .i64 1,.int .i64 0]) else if k=13 then .iface 249 (.agg #[.pointer (some ⟨g,o,none⟩),.int .i64 1,.int .i64 0,.int .i64 2,.int .i64 0]) else .iface 194 (.agg #[.pointer (some ⟨g,o,none⟩)])
theorem ipst_any (k:Int) (g o:Nat) (w:World) (h:w.cell? ⟨g,o,none⟩=some (.int .i64 k)):Calls Tryz.prog 109 #[.pointer (some ⟨g,o,none⟩)] w fun e w'=>e=.returned (stV k g o)∧Later w w':=by
 have hg:g<w.heap.size:=ltCell h
 unfold stV stT
 rcases formS_cases k with (rfl|rfl|rfl|rfl|rfl|rfl|rfl|rfl)|⟨n0,n1,n2,n3,n4,n5,n6,n7⟩
 ·go_enter Tryz.func109,Tryz.ntmps109
  go_wp2_with fail
  go_ret
  exact⟨rfl,later1 _ _⟩
 ·go_enter Tryz.func109,Tryz.ntmps109
  go_wp2_with fail
  go_ret
  exact⟨rfl,later1 _ _⟩
 ·go_enter Tryz.func109,Tryz.ntmps109
  go_wp2_with fail
  go_ret
  exact⟨rfl,later1 _ _⟩
 ·go_enter Tryz.func109,Tryz.ntmps109
  go_wp2_with fail
  go_ret
  exact⟨rfl,later1 _ _⟩
 ·go_enter Tryz.func109,Tryz.ntmps109
  go_wp2_with fail
  go_ret
  exact⟨rfl,later1 _ _⟩
 ·go_enter Tryz.func109,Tryz.ntmps109
  go_wp2_with fail
  go_ret
  exact⟨rfl,later1 _ _⟩
 ·go_enter Tryz.func109,Tryz.ntmps109
  go_wp2_with fail
  go_ret
  exact⟨rfl,later1 _ _⟩
 ·go_enter Tryz.func109,Tryz.ntmps109
  go_wp2_with fail
  go_ret
  exact⟨rfl,later1 _ _⟩
 ·rw[if_neg n0,if_neg n1,if_neg n2,if_neg n3,if_neg n4,if_neg n5,if_neg n6,if_neg n7]
  have m0:=neb n0
  have m1:=neb n1
  have m2:=neb n2
  have m3:=neb n3
  have m4:=neb n4
  have m5:=neb n5
  have m6:=neb n6
  have m7:=neb n7
  clear n0 n1 n2 n3 n4 n5 n6 n7
  go_enter Tryz.func109,Tryz.ntmps109
  go_wp2_with fail
  go_ret
  exact⟨rfl,later1 _ _⟩
theorem ipex_any (k n:Int) (g o:Nat) (w:World) (hE:TyE w) (h:w.cell? ⟨g,o,none⟩=some (.int .i64 k)) (hn:w.cell? ⟨g,o+1,none⟩=some (.int .i64 n)):Calls Tryz.prog 169 #[.pointer (some ⟨g,o,none⟩)] w fun e w'=>e=.returned (exV k n g o)∧Later w w':=by
 have hg:g<w.heap.size:=ltCell h
 have i0:=hE.i0
 have i1:=hE.i1
 have f0:=hE.f0
 have f1:=hE.f1
 have gi:=ltCell i0
 have gf:=ltCell f0
 clear hE
 unfold exV
 rcases formE_cases k with (rfl|rfl|rfl|rfl|rfl|rfl|rfl|rfl|rfl|rfl|rfl|rfl|rfl|rfl)|⟨n0,n1,n2,n3,n4,n5,n6,n7,n8,n9,n10,n11,n12,n13⟩
 ·go_enter Tryz.func169,Tryz.ntmps169
  go_wp2_with fail
  go_ret
  exact⟨rfl,by first|exact later1 _ _|exact later2 _ _ _|exact (later1 _ _).trans (later1 _ _)⟩
 ·go_enter Tryz.func169,Tryz.ntmps169
  go_wp2_with fail
  go_ret
  exact⟨rfl,by first|exact later1 _ _|exact later2 _ _ _|exact (later1 _ _).trans (later1 _ _)⟩
 ·go_enter Tryz.func169,Tryz.ntmps169
  go_wp2_with fail
  go_region_law fail
  all_goals
   go_wp2_with fail
   go_ret
   exact⟨rfl,by first|exact later1 _ _|exact later2 _ _ _|exact (later1 _ _).trans (later1 _ _)|exact (later1 _ _).trans (Later.drew _)|exact ((later1 _ _).trans (Later.drew _)).trans (later1 _ _)|exact (later2 _ _ _).trans (Later.drew _)⟩
 ·go_enter Tryz.func169,Tryz.ntmps169
  go_wp2_with fail
  go_ret
  exact⟨rfl,by first|exact later1 _ _|exact later2 _ _ _|exact (later1 _ _).trans (later1 _ _)⟩
 ·go_enter Tryz.func169,Tryz.ntmps169
  go_wp2_with fail
  go_region_law fail
  all_goals
   go_wp2_with fail
   go_ret
   exact⟨rfl,by first|exact later1 _ _|exact later2 _ _ _|exact (later1 _ _).trans (later1 _ _)|exact (later1 _ _).trans (Later.drew _)|exact ((later1 _ _).trans (Later.drew _)).trans (later1 _ _)|exact (later2 _ _ _).trans (Later.drew _)⟩
 ·go_enter Tryz.func169,Tryz.ntmps169
  go_wp2_with fail
  go_ret
  exact⟨rfl,by first|exact later1 _ _|exact later2 _ _ _|exact (later1 _ _).trans (later1 _ _)⟩
 ·go_enter Tryz.func169,Tryz.ntmps169
  go_wp2_with fail
  go_ret
  exact⟨rfl,by first|exact later1 _ _|exact later2 _ _ _|exact (later1 _ _).trans (later1 _ _)⟩
 ·go_enter Tryz.func169,Tryz.ntmps169
  go_wp2_with fail
  go_ret
  exact⟨rfl,by first|exact later1 _ _|exact later2 _ _ _|exact (later1 _ _).trans (later1 _ _)⟩
 ·go_enter Tryz.func169,Tryz.ntmps169
  go_wp2_with fail
  go_ret
  exact⟨rfl,by first|exact later1 _ _|exact later2 _ _ _|exact (later1 _ _).trans (later1 _ _)⟩
 ·go_enter Tryz.func169,Tryz.ntmps169
  go_wp2_with fail
  go_ret
  exact⟨rfl,by first|exact later1 _ _|exact later2 _ _ _|exact (later1 _ _).trans (later1 _ _)⟩
 ·go_enter Tryz.func169,Tryz.ntmps169
  go_wp2_with fail
  go_ret
  exact⟨rfl,by first|exact later1 _ _|exact later2 _ _ _|exact (later1 _ _).trans (later1 _ _)⟩
 ·go_enter Tryz.func169,Tryz.ntmps169
  go_wp2_with fail
  go_ret
  exact⟨rfl,by first|exact later1 _ _|exact later2 _ _ _|exact (later1 _ _).trans (later1 _ _)⟩
 ·go_enter Tryz.func169,Tryz.ntmps169
  go_wp2_with fail
  go_ret
  exact⟨rfl,by first|exact later1 _ _|exact later2 _ _ _|exact (later1 _ _).trans (later1 _ _)⟩
 ·go_enter Tryz.func169,Tryz.ntmps169
  go_wp2_with fail
  go_ret
  exact⟨rfl,by first|exact later1 _ _|exact later2 _ _ _|exact (later1 _ _).trans (later1 _ _)⟩
 ·rw[if_neg n0,if_neg n1,if_neg n2,if_neg n3,if_neg n4,if_neg n5,if_neg n6,if_neg n7,if_neg n8,if_neg n9,if_neg n10,if_neg n11,if_neg n12,if_neg n13]
  have m0:=neb n0
  have m1:=neb n1
  have m2:=neb n2
  have m3:=neb n3
  have m4:=neb n4
  have m5:=neb n5
  have m6:=neb n6
  have m7:=neb n7
  have m8:=neb n8
  have m9:=neb n9
  have m10:=neb n10
  have m11:=neb n11
  have m12:=neb n12
  have m13:=neb n13
  clear n0 n1 n2 n3 n4 n5 n6 n7 n8 n9 n10 n11 n12 n13
  go_enter Tryz.func169,Tryz.ntmps169
  go_wp2_with fail
  go_ret
  exact⟨rfl,later1 _ _⟩
theorem ikidE (g o:Nat) (a:Option Addr) (n c:Nat) (w:World) (h:w.cell? ⟨g,o+5,none⟩=some (.slice a n c)):Calls Tryz.prog 255 #[.agg #[.pointer (some ⟨g,o,none⟩)]] w fun e w'=>e=.returned (.slice a n c)∧Later w w':=by
 have hg:g<w.heap.size:=ltCell h
 go_enter Tryz.func255,Tryz.ntmps255
 go_wp2_with fail
 go_ret
 exact⟨rfl,later1 _ _⟩
theorem ikidS (g o:Nat) (a:Option Addr) (n c:Nat) (w:World) (h:w.cell? ⟨g,o+5,none⟩=some (.slice a n c)):Calls Tryz.prog 253 #[.agg #[.pointer (some ⟨g,o,none⟩)]] w fun e w'=>e=.returned (.slice a n c)∧Later w w':=by
 have hg:g<w.heap.size:=ltCell h
 go_enter Tryz.func253,Tryz.ntmps253
 go_wp2_with fail
 go_ret
 exact⟨rfl,later1 _ _⟩
theorem iblkE (v:Value) (w:World) (hv:∃ p,v=.agg #[.pointer p]):Calls Tryz.prog 254 #[v] w fun e w'=>e=.returned (.slice none 0 0)∧Later w w':=by
 obtain⟨p,rfl⟩:=hv
 go_enter Tryz.func254,Tryz.ntmps254
 go_wp2_with fail
 go_ret
 exact⟨rfl,by first|exact Later.refl _|exact later1 _ _⟩
def Two (w0 w:World) (v u1 u2:Value):Prop:=∃ B,v=.slice (some ⟨B,0,none⟩) 2 2∧w0.heap.size≤B∧B<w.heap.size∧w.cell? ⟨B,0,none⟩=some u1∧w.cell? ⟨B,1,none⟩=some u2
theorem iblkS (g o:Nat) (a a':Option Addr) (n c n' c':Nat) (w:World) (h:w.cell? ⟨g,o+6,none⟩=some (.slice a n c)) (h':w.cell? ⟨g,o+7,none⟩=some (.slice a' n' c')):Calls Tryz.prog 252 #[.agg #[.pointer (some ⟨g,o,none⟩)]] w fun e w'=>∃ v,e=.returned v∧Two w w' v (.slice a n c) (.slice a' n' c')∧Later w w':=by
 have hg:g<w.heap.size:=ltCell h
 go_enter Tryz.func252,Tryz.ntmps252
 go_wp2_with fail
 go_region
 all_goals
  go_wp2_with fail
  go_ret
  refine⟨_,rfl,⟨_,rfl,?_,?_,?_,?_⟩,?_⟩
 all_goals first|(simp;done)|(simp;omega)|exact (later1 _ _).trans ((Later.drew _).trans (later1 _ _))|exact ((later1 _ _).trans (later1 _ _)).trans (Later.drew _)|exact (later2 _ _ _).trans (Later.drew _)|trace_state
end Go.Proofs.YtmdejbphoafjlaaGreatDoor
