/- My texts S5, N24 in one. -/
import Derived.Test.YtmdejbphoafjlaaGreatDoorHg
import Derived.Test.YtmdejbphoafjlaaGreatDoorGy
import Derived.Test.YtmdejbphoafjlaaGreatDoorHm
set_option maxHeartbeats 100000000
set_option maxRecDepth 100000
namespace Go.Proofs.YtmdejbphoafjlaaGreatDoor
open Go.RowKit Go.Maps
mutual
theorem St.run_num (s:Int):∀ (x:St) (d l l':Int),St.run s d l x=some l'→(x.num:Int)≤l - l'
 | .mk k n tk tn nm ks bo el,d,l,l',h=>by
  rw[St.run]at h
  split at h
  ·cases h
  ·rename_i hc
   cases h1:Ex.runs s (d+1) (l - 1) ks with
   | none=>rw[h1]at h;cases h
   | some l1 =>
    rw[h1]at h
    cases h2:St.runs s (d+1) l1 bo with
    | none=>simp only[h2]at h;cases h
    | some l2 =>
     simp only[h2]at h
     have a:=(Ex.runs_le s ks _ _ _ h1).1
     have b:=St.runs_num s bo _ _ _ h2
     have c:=St.runs_num s el _ _ _ h
     rw[St.num]
     omega
theorem St.runs_num (s:Int):∀ (xs:List St) (d l l':Int),St.runs s d l xs=some l'→(St.nums xs:Int)≤l - l'
 | [],d,l,l',h=>by rw[St.runs]at h;cases h;rw[St.nums];omega
 | x::r,d,l,l',h=>by
  rw[St.runs]at h
  cases h1:St.run s d l x with
  | none=>rw[h1]at h;cases h
  | some l1 =>
   rw[h1]at h
   have a:=St.run_num s x _ _ _ h1
   have b:=St.runs_num s r _ _ _ h
   rw[St.nums]
   omega
end
theorem Fu.runs_each {s:Int}:∀ (xs:List Fu) (l l':Int),Fu.runs s l xs=some l'→∀ f∈xs,f.params.length≤4∧(St.nums f.body:Int)≤l - l'
 | x::r,l,l',h,f,hf=>by
  rw[Fu.runs]at h
  cases h1:Fu.run s l x with
  | none=>rw[h1]at h;cases h
  | some l1 =>
   rw[h1]at h
   have hx:=h1
   unfold Fu.run at hx
   split at hx
   ·rename_i hc
    have a:=St.runs_num s _ _ _ _ hx
    have b:=(Fu.runs_le s r _ _ h).1
    have c:=(St.runs_le s _ _ _ _ hx).1
    rcases List.mem_cons.1 hf with rfl|hf
    ·refine⟨?_,by omega⟩
     unfold headF paramB at hc
     simp only[Bool.and_eq_true,decide_eq_true_eq]at hc
     omega
    ·have:=Fu.runs_each r _ _ h f hf
     exact⟨this.1,by omega⟩
   ·cases hx
theorem So.ok_each {x:So}(h:x.ok=true):x.structs.length≤6∧x.funcs.length≤8∧(∀ f∈x.funcs,f.params.length≤4∧St.nums f.body≤400)∧structB x.structs=true:=by
 unfold So.ok at h
 rw[Bool.and_eq_true]at h
 cases hr:So.run x with
 | none=>rw[hr]at h;cases h.1
 | some q =>
  unfold So.run at hr
  split at hr
  ·rename_i hc
   rw[Bool.and_eq_true,decide_eq_true_eq]at hc
   have hle:=Fu.runs_le _ _ _ _ hr
   refine⟨((structB_iff _).1 hc.1).1,hc.2,fun f hf=>?_,hc.1⟩
   have:=Fu.runs_each _ _ _ hr f hf
   have:=hle.2 (by decide)
   exact⟨by omega,by omega⟩
  ·cases hr
def Fu.namesB (fs:List (List Int)) (f:Fu):Bool:=uniq (paNames f.params)&&St.fineBs fs (paNames f.params) (paNames f.params) f.body
def So.namesB (x:So):Bool:=x.ok&&x.structs.all (fun s=>uniq (paNames s.fields))&&fplB x.funcs&&x.funcs.all (Fu.namesB (fuNames x.funcs))
theorem uniq_snoc (l:List (List Int)) (z:List Int):uniq (l++[z])=(uniq l&&!(decide (z∈l))):=by
 rw[Bool.eq_iff_iff,uniq_iff,List.nodup_append,Bool.and_eq_true,uniq_iff,Bool.not_eq_true',decide_eq_false_iff_not]
 constructor
 ·rintro ⟨a,_,c⟩
  exact⟨a,fun hm=>c z hm z (List.mem_singleton.2 rfl) rfl⟩
 ·rintro ⟨a,b⟩
  exact⟨a,by simp,fun y hy u hu e=>b (by rw[List.mem_singleton.1 hu]at e;rw[←e];exact hy)⟩
theorem paNames_take {l:List Pa}{j:Nat}(h:j<l.length):paNames (l.take (j+1))=paNames (l.take j)++[l[j].name]:=by unfold paNames;rw[List.take_succ_eq_append_getElem h,List.map_append];rfl
theorem uniq_fst {l:List (List Int)}:uniq l=true↔∀ i (hi:i<l.length),fstI l l[i]=(i:Int):=by
 constructor
 ·intro h i hi
  have hn:=(uniq_iff l).1 h
  exact fstI_at hi rfl (fun k hk hki e=>by have:=(List.getElem_inj hn).1 e;omega)
 ·intro h
  refine uniq_yes fun i hi k hk e=>?_
  have h1:=h i hi
  have h2:=h k (by omega)
  rw[e,h2]at h1
  omega
theorem fst_plc {l:List (List Int)}(h:uniq l=true) (z:List Int):(plc l z).getD (-1)=fstI l z:=by
 have hn:=(uniq_iff l).1 h
 by_cases hm:z∈l
 ·obtain⟨i,hi,rfl⟩:=List.mem_iff_getElem.1 hm
  rw[plc_at hn hi,uniq_fst.1 h i hi]
  rfl
 ·rw[plc_none hm,fstI_none (fun k hk e=>hm (by rw[←e];exact List.getElem_mem hk))]
  rfl
theorem new_rowF (w:World) (cs:Array Value) (t:TypeId) (fr:Nat × Nat) (j:Nat) (x:Value) (h:cs.toList[j]?=some x):(w.alloc (.cells cs t fr)).cell? ⟨w.heap.size,j,none⟩=some x:=by
 have h':cs[j]?=some x:=by simpa using h
 have e:(w.alloc (.cells cs t fr)).heap[w.heap.size]?=some (.cells cs t fr):=(MapKept.heap_alloc w _).1
 unfold World.cell?
 simp only[e]
 exact h'
theorem main_rd (w:World) (fr:Nat × Nat):RdN (w.alloc (.cells #[.int .u8 109,.int .u8 97,.int .u8 105,.int .u8 110] 5 fr)) (.slice (some ⟨w.heap.size,0,none⟩) 4 4) mainL:=by
 refine⟨⟨_,4,rfl,by decide,main_nm.1,fun j hj=>⟨w.heap.size,0,rfl,by simp,?_⟩⟩,⟨_,4,rfl,by decide,by unfold maxLen;decide⟩⟩
 rw[Nat.zero_add]
 have hj':j<4:=hj
 match j,hj' with
 | 0,_=>exact new_rowF w _ _ fr 0 _ rfl
 | 1,_=>exact new_rowF w _ _ fr 1 _ rfl
 | 2,_=>exact new_rowF w _ _ fr 2 _ rfl
 | 3,_=>exact new_rowF w _ _ fr 3 _ rfl
theorem fpl_no {l:List Fu}{i:Nat}(hi:i<l.length) (hf:fstI (fuNames l) mainL=(i:Int)) (h:¬ (l[i].params.length=0∧l[i].rk=0)):fplB l=false:=by
 unfold fplB
 cases hu:uniq (fuNames l) with
 | false=>rfl
 | true =>
  have:=fst_plc hu mainL
  rw[hf]at this
  cases hp:plc (fuNames l) mainL with
  | none=>rfl
  | some m =>
   rw[hp]at this
   simp only[Option.getD_some]at this
   subst this
   unfold beginB
   simp[hi]
   intro q
   exact fun q'=>h ⟨by simpa using q,q'⟩
theorem fpl_none {l:List Fu}(hf:fstI (fuNames l) mainL<0):fplB l=false:=by
 unfold fplB
 rw[plc_none ((fst_neg _ _).1 hf)]
 simp
theorem fpl_yes {l:List Fu}{i:Nat}(hi:i<l.length) (hf:fstI (fuNames l) mainL=(i:Int)) (h:l[i].params.length=0∧l[i].rk=0):fplB l=uniq (fuNames l):=by
 unfold fplB
 cases hu:uniq (fuNames l) with
 | false=>rfl
 | true =>
  have:=fst_plc hu mainL
  rw[hf]at this
  cases hp:plc (fuNames l) mainL with
  | none=>rw[hp]at this;simp at this;try omega
  | some m =>
   rw[hp]at this
   simp only[Option.getD_some]at this
   subst this
   unfold beginB
   simp[hi,h.1,h.2]
theorem fst_place (l:List (List Int)) (z:List Int):fstI l z<0∨∃ i,i<l.length∧fstI l z=(i:Int):=by
 unfold fstI
 cases h:l.findIdx? (fun y=>decide (y=z)) with
 | none=>exact .inl (by decide)
 | some i =>
  rw[List.findIdx?_eq_some_iff_getElem]at h
  exact .inr ⟨i,h.1,rfl⟩
theorem Nn.new {w0 w:World}{v0 v1:Value}(hl:Later w0 w):Nn w0 (w.alloc (.cells #[v0,v1,.slice none 0 0,.slice none 0 0,.bool false] 54)) w.heap.size v0 v1 [] [] false :=
 ⟨⟨.slice none 0 0,.slice none 0 0,[],[],Bxx.new w #[v0,v1,.slice none 0 0,.slice none 0 0,.bool false] _,World.ownsRow_nil _ _ _ _,World.ownsRow_nil _ _ _ _,fun j hj=>absurd hj (Nat.not_lt_zero _),fun j hj=>absurd hj (Nat.not_lt_zero _),fun b hb=>by cases hb⟩,hl.trans (later1 _ _),hl.size⟩
theorem snames_any (x:So) (v0 v1:Value) (w:World) (hg:Fu.goods x.funcs) (h0:RdL w 2 v0 (Sc.dats x.structs)) (h1:RdL w 5 v1 (Fu.dats x.funcs)) :
  Calls Tryz.prog 8 #[.agg #[v0,v1]] w (OkP x.namesB w):=by
 have hSO:=fun w' (l:Later w w')=>sok_any x v0 v1 w' hg (h0.later l) (h1.later l)
 have hv0:∃ a n c,v0=.slice a n c:=by obtain⟨a,c,e,_⟩:=Sc.slice h0;exact⟨a,_,c,e⟩
 have hFn:=fun (u:Value) (z:List Int) w' (l:Later w w') (hu:RdN w' u z) (hl:x.funcs.length≤8)=>sfunc_any x.funcs v0 v1 u z w' hv0 (h1.later l) hu (by omega)
 obtain⟨sa,sc,rfl,hsl⟩:=Sc.slice h0
 obtain⟨fa,fc,rfl,hfl⟩:=Fu.slice h1
 have HF:Hid (∀ w',Later w w'→x.namesB=false→OkP x.namesB w (.returned (.bool false)) w'):=fun w' l h=>⟨by rw[h],l⟩
 have HT:Hid (∀ w',Later w w'→x.namesB=true→OkP x.namesB w (.returned (.bool true)) w'):=fun w' l h=>⟨by rw[h],l⟩
 generalize hQ:OkP x.namesB w=Q at *
 clear hQ
 obtain⟨w1,hw1⟩:=hidx (w.alloc (.cells #[.slice sa x.structs.length sc,.slice fa x.funcs.length fc] 31))
 have L1:Later w w1:=by rw[hw1.out];exact later1 _ _
 have hb1:Bxx w1 w.heap.size [.slice sa x.structs.length sc,.slice fa x.funcs.length fc]:=by rw[hw1.out];exact Bxx.new _ _ _
 go_enter Tryz.func8,Tryz.ntmps8
 go_wp2_with fail
 rw[←hw1.out]
 refine (hSO w1 L1).mono ?_
 rintro e w2 ⟨rfl,l2⟩
 have L2:=L1.trans l2
 have hb2:=hb1.later l2
 cases hok:x.ok with
 | false =>
  have HA:=HF.out w2 L2 (by unfold So.namesB;rw[hok];rfl)
  clear hSO HF HT hFn
  go_wp2_with fail
  exact HA
 | true =>
 obtain⟨hs6,hf8,heach,hstr⟩:=So.ok_each hok
 have HNB:Hid (x.namesB=(x.structs.all (fun s=>uniq (paNames s.fields))&&fplB x.funcs&&x.funcs.all (Fu.namesB (fuNames x.funcs)))):=by unfold Hid So.namesB;rw[hok];rfl
 clear hSO
 go_wp2_with fail
 go_loopw [3] (fun i wr=>∃ (j:Nat),i=.int .i64 (j:Int)∧j≤x.structs.length∧Later w wr∧Bxx wr w.heap.size [.slice sa x.structs.length sc,.slice fa x.funcs.length fc]∧Hid (∀ i (hi:i<x.structs.length),i<j→uniq (paNames x.structs[i].fields)=true)) (fun i _=>x.structs.length - (intOf i).toNat)
 case atStart=>exact⟨0,rfl,Nat.zero_le _,L2,hb2,fun i _ hj=>absurd hj (Nat.not_lt_zero _)⟩
 case round =>
  obtain⟨j,rfl,hj,lr,hbr,HA⟩:=hrel
  have b0:=(hbr.cell 0 _ rfl).1
  by_cases hlt:j<x.structs.length
  ·obtain⟨g,off,u0,u1,rfl,hgs,c0,c1,r0,r1⟩:=Sc.elem (RdL.later lr h0) j hlt
   have i1:(j:Int)<(x.structs.length:Int):=by omega
   have hU:=sunlike_any u1 x.structs[j].fields wr r1 (by
    have h3:=((structB_iff _).1 hstr).2 j hlt
    unfold oneB paramB at h3
    simp only[Bool.and_eq_true,decide_eq_true_eq]at h3
    omega)
   have HB:Hid (uniq (paNames x.structs[j].fields)=false→x.namesB=false):=fun hf=>by rw[HNB.out,allN (f:=fun s=>uniq (paNames s.fields)) hlt hf];rfl
   have HG:Hid (uniq (paNames x.structs[j].fields)=true→∀ i (hi:i<x.structs.length),i<j+1→uniq (paNames x.structs[i].fields)=true):=fun hf i hi hij=>by
    rcases Nat.lt_or_ge i j with a|a
    ·exact HA.out i hi a
    ·have:i=j:=by omega
     subst this
     exact hf
   obtain⟨y1,q1,rfl,_⟩:=Pa.slice r1
   generalize uniq (paNames x.structs[j].fields)=ub at *
   clear r0 r1 HA h0 h1 c0 hFn heach
   go_wp2_with fail
   refine hU.mono ?_
   rintro e w3 ⟨rfl,l3⟩
   have L3:=lr.trans l3
   have hb3:=hbr.later l3
   cases ub with
   | false =>
    have HZ:=HF.out w3 L3 (HB.out rfl)
    clear HB HG hU HF HT
    go_wp2_with fail
    exact HZ
   | true =>
    have hn:Hid _:=HG.out rfl
    clear HB HG hU
    go_wp2_with fail
    go_roundw
    case rel=>exact⟨j+1,by go_num,by omega,L3,hb3,hn⟩
    case measure=>simp[intOf];omega
  ·have i1:¬ (j:Int)<(x.structs.length:Int):=by omega
   have i2:decide ((j:Int)<(x.structs.length:Int))=false:=decide_eq_false i1
   have HNB2:Hid (x.namesB=(fplB x.funcs&&x.funcs.all (Fu.namesB (fuNames x.funcs)))):=by
    unfold Hid
    rw[HNB.out,allY (f:=fun s=>uniq (paNames s.fields)) (fun i hi=>HA.out i hi (by omega)),Bool.true_and]
   have b1:=(hbr.cell 1 _ rfl).1
   clear HA HNB
   generalize wr=wE at *
   obtain⟨wM,hwM⟩:=hidx (wE.alloc (.cells #[.int .u8 109,.int .u8 97,.int .u8 105,.int .u8 110] 5 (4,5)))
   have lM:Later wE wM:=by rw[hwM.out];exact later1 _ _
   have hM:=hFn (.slice (some ⟨wE.heap.size,0,none⟩) 4 4) mainL wM (lr.trans lM) (by rw[hwM.out];exact main_rd wE (4,5)) hf8
   have hcv:(convert 41 41 (.slice (some ⟨wE.heap.size,0,none⟩) 4 4)).run Tryz.prog (wE.alloc (.cells #[.int .u8 109,.int .u8 97,.int .u8 105,.int .u8 110] 5))=.ok (.slice (some ⟨wE.heap.size,0,none⟩) 4 4) (wE.alloc (.cells #[.int .u8 109,.int .u8 97,.int .u8 105,.int .u8 110] 5 (4,5))):=Lib.run_convert_bytes_const (P:=Tryz.prog) wE 41 5 _ 4 4 Tryz.underlying41 Tryz.underlying5
   go_wp2_with fail
   rw[←hwM.out]
   refine hM.mono ?_
   rintro e w5 ⟨rfl,l5⟩
   have L5:=lr.trans (lM.trans l5)
   have hb5:=hbr.later (lM.trans l5)
   have b1':=(hb5.cell 1 _ rfl).1
   have h1':=RdL.later L5 h1
   clear hM hcv b0 b1
   rcases fst_place (fuNames x.funcs) mainL with hneg|⟨i,hi,hfi⟩
   ·have HZ:=HF.out w5 L5 (by rw[HNB2.out,fpl_none hneg];rfl)
    have hneg':decide (fstI (fuNames x.funcs) mainL<0)=true:=decide_eq_true hneg
    clear HF HT HNB2 hFn h0 h1 h1'
    generalize fstI (fuNames x.funcs) mainL=fz at *
    go_wp2_with fail
    exact HZ
   ·rw[fuNames_len]at hi
    obtain⟨g,off,u0,u1,u2,hfa,hgs,c0,c1,c2,c3,c4,r0,r1,r2⟩:=Fu.elem h1' i hi
    have i3:(i:Int)<(x.funcs.length:Int):=by omega
    have i4:¬ (i:Int)<0:=by omega
    have i5:decide ((i:Int)<0)=false:=decide_eq_false i4
    rw[hfi]
    obtain⟨y1,q1,rfl,_⟩:=Pa.slice r1
    by_cases hbeg:x.funcs[i].params.length=0∧x.funcs[i].rk=0
    ·have HNB3:Hid (x.namesB=(uniq (fuNames x.funcs)&&x.funcs.all (Fu.namesB (fuNames x.funcs)))):=by unfold Hid;rw[HNB2.out,fpl_yes hi hfi hbeg]
     have n1:((x.funcs[i].params.length:Nat):Int)=0:=by rw[hbeg.1];rfl
     have n2:¬ (0:Int)<((x.funcs[i].params.length:Nat):Int):=by omega
     have n3:decide ((0:Int)<((x.funcs[i].params.length:Nat):Int))=false:=decide_eq_false n2
     rw[hbeg.2]at c2
     clear HNB2 n1 hbeg hfi r0 r1 r2 c0 c3 c4
     generalize x.funcs[i].params.length=PL at *
     subst hfa
     go_wp2_with fail
     go_loopw [5] (fun i wr=>∃ (j:Nat),i=.int .i64 (j:Int)∧j≤x.funcs.length∧Later w wr∧Bxx wr w.heap.size [.slice sa x.structs.length sc,.slice (some ⟨g,off,none⟩) x.funcs.length fc]∧Hid (∀ i (hi:i<x.funcs.length),i<j→fstI (fuNames x.funcs) x.funcs[i].name=(i:Int)∧Fu.namesB (fuNames x.funcs) x.funcs[i]=true)) (fun i _=>x.funcs.length - (intOf i).toNat)
     case atStart=>exact⟨0,rfl,Nat.zero_le _,L5,hb5,fun i _ hj=>absurd hj (Nat.not_lt_zero _)⟩
     case round =>
      obtain⟨j,rfl,hj,lr2,hbr2,HA⟩:=hrel
      have bb0:=(hbr2.cell 0 _ rfl).1
      have bb1:=(hbr2.cell 1 _ rfl).1
      have hB1s:=hbr2.lt
      by_cases hlt:j<x.funcs.length
      ·obtain⟨g',off',e0,e1,e2,hfa',hgs',d0,d1,d2,d3,d4,s0,s1,s2⟩:=Fu.elem h1 j hlt
       cases hfa'
       have j1:(j:Int)<(x.funcs.length:Int):=by omega
       have hgl:g<wr.heap.size:=Nat.lt_of_lt_of_le hgs' lr2.size
       have HD:Hid (∀ w',Later w w'→w'.cell? ⟨g,off+j*5,none⟩=some e0∧w'.cell? ⟨g,off+j*5+1,none⟩=some e1∧w'.cell? ⟨g,off+j*5+4,none⟩=some e2):=fun w' ll=>⟨by rw[Below.cell ll (p:=⟨g,off+j*5,none⟩) hgs'];exact d0,by rw[Below.cell ll (p:=⟨g,off+j*5+1,none⟩) hgs'];exact d1,by rw[Below.cell ll (p:=⟨g,off+j*5+4,none⟩) hgs'];exact d4⟩
       have HSX:Hid (∀ w',Later wr w'→w'.cell? ⟨w.heap.size,0,none⟩=some (.slice sa x.structs.length sc)∧w'.cell? ⟨w.heap.size,1,none⟩=some (.slice (some ⟨g,off,none⟩) x.funcs.length fc)∧w'.cell? ⟨g,off+j*5,none⟩=some e0):=fun w' ll=>⟨((hbr2.later ll).cell 0 _ rfl).1,((hbr2.later ll).cell 1 _ rfl).1,(HD.out w' (lr2.trans ll)).1⟩
       have hFj:=fun w' (ll:Later wr w')=>hFn e0 x.funcs[j].name w' (lr2.trans ll) (s0.later (lr2.trans ll)) hf8
       have hmem:=List.getElem_mem hlt
       obtain⟨hp4,hn4⟩:=heach _ hmem
       have hDe:=fun (k:Nat) (hk:k<x.funcs[j].params.length) (u:Value) (P:Nat) (wk:World) (b:Bool) (hu:RdN w u x.funcs[j].params[k].name) (hn:Nn w wk P (.slice sa x.structs.length sc) (.slice (some ⟨g,off,none⟩) x.funcs.length fc) (paNames (x.funcs[j].params.take k)) (paNames (x.funcs[j].params.take k)) b)=>sdecl_any w wk P _ _ u _ _ b x.funcs[j].params[k].name hn hu (by unfold paNames;rw[List.length_map,List.length_take];omega) (by unfold paNames;rw[List.length_map,List.length_take];omega)
       have hBl:=fun (P:Nat) (wk:World) (b:Bool) (hn:Nn w wk P (.slice sa x.structs.length sc) (.slice (some ⟨g,off,none⟩) x.funcs.length fc) (paNames x.funcs[j].params) (paNames x.funcs[j].params) b)=>snblock_all _ x.funcs[j].body e2 w wk P _ _ x.funcs _ _ b (Nat.le_refl _) s2 hv0 h1 (by omega) (by unfold paNames;rw[List.length_map];omega) (Nat.le_refl _) hn
       have HNo:Hid (fstI (fuNames x.funcs) x.funcs[j].name≠(j:Int)→x.namesB=false):=fun hne=>by
        rw[HNB3.out]
        have:uniq (fuNames x.funcs)=false:=by
         rw[←Bool.not_eq_true]
         intro hu
         have:=uniq_fst.1 hu j (by rw[fuNames_len];exact hlt)
         rw[fuNames_at x.funcs hlt]at this
         exact hne this
        rw[this]
        rfl
       have HNf:Hid (Fu.namesB (fuNames x.funcs) x.funcs[j]=false→x.namesB=false):=fun hf=>by rw[HNB3.out,allN (f:=Fu.namesB (fuNames x.funcs)) hlt hf,Bool.and_false]
       have HGo:Hid (fstI (fuNames x.funcs) x.funcs[j].name=(j:Int)→Fu.namesB (fuNames x.funcs) x.funcs[j]=true→∀ i (hi:i<x.funcs.length),i<j+1→fstI (fuNames x.funcs) x.funcs[i].name=(i:Int)∧Fu.namesB (fuNames x.funcs) x.funcs[i]=true):=fun h1 h2 i hi hij=>by
        rcases Nat.lt_or_ge i j with a|a
        ·exact HA.out i hi a
        ·have:i=j:=by omega
         subst this
         exact⟨h1,h2⟩
       have HFu:Hid (Fu.namesB (fuNames x.funcs) x.funcs[j]=(uniq (paNames x.funcs[j].params)&&St.fineBs (fuNames x.funcs) (paNames x.funcs[j].params) (paNames x.funcs[j].params) x.funcs[j].body)):=rfl
       obtain⟨z0,m0,rfl,_⟩:=s0.slice
       obtain⟨z1,m1,rfl,_⟩:=Pa.slice s1
       obtain⟨z2,m2,rfl,_⟩:=St.slice s2
       clear HA h0 h1 h1' s0 s2 d0 d1 d2 d3 d4 HNB3 hFn hmem heach
       go_wp2_with fail
       go_region_held3 (fun w'=>w'.cell? ⟨w.heap.size,0,none⟩=some (.slice sa x.structs.length sc)∧w'.cell? ⟨w.heap.size,1,none⟩=some (.slice (some ⟨g,off,none⟩) x.funcs.length fc)∧w'.cell? ⟨g,off+j*5,none⟩=some (.slice z0 x.funcs[j].name.length m0)) (first|exact HSX.out _ (Later.drew _)|exact HSX.out _ ((Later.drew _).trans l6)) ((go_at_call 24;refine (hFj _ (Later.drew _)).mono ?_;rintro e w6 ⟨rfl,l6⟩))
       have L6:=lr2.trans ((Later.drew _).trans l6)
       have hb6:=hbr2.later ((Later.drew _).trans l6)
       clear hFj HSX bb0 bb1
       by_cases heq:fstI (fuNames x.funcs) x.funcs[j].name=(j:Int)
       ·have HGo2:Hid _:=HGo.out heq
        rw[heq,show ((j:Int) != (j:Int))=false from by simp]
        clear heq HGo HNo
        have q0:=(hb6.cell 0 _ rfl).1
        have q1:=(hb6.cell 1 _ rfl).1
        have hs6:=hb6.lt
        obtain⟨wP,hwP⟩:=hidx (w6.alloc (.cells #[.slice sa x.structs.length sc,.slice (some ⟨g,off,none⟩) x.funcs.length fc,.slice none 0 0,.slice none 0 0,.bool false] 54))
        have hNP:Nn w wP w6.heap.size (.slice sa x.structs.length sc) (.slice (some ⟨g,off,none⟩) x.funcs.length fc) [] [] false:=by rw[hwP.out];exact Nn.new L6
        have lP:Later w6 wP:=by rw[hwP.out];exact later1 _ _
        have hbP:=hb6.later lP
        go_wp2_with fail
        rw[←hwP.out]
        go_loopw [7] (fun i wk=>∃ (k:Nat) (b:Bool),i=.int .i64 (k:Int)∧k≤x.funcs[j].params.length∧Nn w wk w6.heap.size (.slice sa x.structs.length sc) (.slice (some ⟨g,off,none⟩) x.funcs.length fc) (paNames (x.funcs[j].params.take k)) (paNames (x.funcs[j].params.take k)) b∧Bxx wk w.heap.size [.slice sa x.structs.length sc,.slice (some ⟨g,off,none⟩) x.funcs.length fc]∧Hid (b=!uniq (paNames (x.funcs[j].params.take k)))) (fun i _=>x.funcs[j].params.length - (intOf i).toNat)
        case atStart=>exact⟨0,false,rfl,Nat.zero_le _,hNP,hbP,rfl⟩
        case round =>
         obtain⟨k,b,rfl,hk,hNk,hbk,HK⟩:=hrel
         have lk:=hNk.lat
         obtain⟨v0',v1',v2'⟩:=HD.out wr lk
         have o1:=(hbk.cell 1 _ rfl).1
         by_cases hkt:k<x.funcs[j].params.length
         ·obtain⟨gp,op,n0,rfl,hgp,t0,t1,t2,n0r⟩:=Pa.elem s1 k hkt
          have k1:(k:Int)<(x.funcs[j].params.length:Int):=by omega
          have t0:wr.cell? ⟨gp,op+k*3,none⟩=some n0:=by rw[Below.cell lk (p:=⟨gp,op+k*3,none⟩) hgp];exact t0
          have hD1:=hDe k hkt n0 w6.heap.size wr b n0r hNk
          have HKn:Hid ((b||decide (x.funcs[j].params[k].name∈paNames (x.funcs[j].params.take k)))=!uniq (paNames (x.funcs[j].params.take (k+1)))):=by
           unfold Hid
           rw[paNames_take hkt,uniq_snoc,HK.out]
           cases uniq (paNames (x.funcs[j].params.take k)) <;> cases decide (x.funcs[j].params[k].name∈paNames (x.funcs[j].params.take k)) <;> rfl
          rw[←paNames_take hkt]at hD1
          obtain⟨p0,p1,rfl,_⟩:=n0r.slice
          clear HK s1 hNk t1 t2 n0r hDe hBl HNf HGo2 HFu
          generalize decide (x.funcs[j].params[k].name∈paNames (x.funcs[j].params.take k))=db at *
          go_wp2_with fail
          refine hD1.mono ?_
          rintro e w7 ⟨rfl,hN7,b7⟩
          have hb7:Bxx w7 w.heap.size [.slice sa x.structs.length sc,.slice (some ⟨g,off,none⟩) x.funcs.length fc]:=hbk.kept b7.size (b7.block _ hs6)
          clear hD1
          go_wp2_with fail
          go_roundw
          case rel=>exact⟨k+1,_,by go_num,by omega,hN7,hb7,HKn⟩
          case measure=>simp[intOf];omega
         ·have k1:¬ (k:Int)<(x.funcs[j].params.length:Int):=by omega
          have k2:decide ((k:Int)<(x.funcs[j].params.length:Int))=false:=decide_eq_false k1
          have hkk:k=x.funcs[j].params.length:=by omega
          rw[hkk,List.take_length]at hNk HK
          have hB1:=hBl w6.heap.size wr b hNk
          have hLk:=hNk.lat
          clear hDe hBl hkk s1 hNk
          go_wp2_with fail
          refine hB1.mono ?_
          rintro e w7 ⟨rfl,hN7,b7⟩
          have hb7:Bxx w7 w.heap.size [.slice sa x.structs.length sc,.slice (some ⟨g,off,none⟩) x.funcs.length fc]:=hbk.kept b7.size (b7.block _ hs6)
          have L7:=hN7.lat
          obtain⟨⟨_,_,_,_,hP7,_⟩,_⟩:=hN7
          have hbad:=(hP7.cell 4 _ rfl).1
          have HBad:Hid ((b||!St.fineBs (fuNames x.funcs) (paNames x.funcs[j].params) (paNames x.funcs[j].params) x.funcs[j].body)=!Fu.namesB (fuNames x.funcs) x.funcs[j]):=by
           unfold Hid
           rw[HFu.out,HK.out]
           cases uniq (paNames x.funcs[j].params) <;> cases St.fineBs (fuNames x.funcs) (paNames x.funcs[j].params) (paNames x.funcs[j].params) x.funcs[j].body <;> rfl
          rw[HBad.out]at hbad
          clear hB1 HBad HK HFu hP7
          cases hnb:Fu.namesB (fuNames x.funcs) x.funcs[j] with
          | false =>
           rw[hnb]at hbad
           have HZ:=HF.out w7 L7 (HNf.out hnb)
           clear HF HT HNf HGo2 hnb
           go_wp2_with fail
           exact HZ
          | true =>
           rw[hnb]at hbad
           have hn:Hid _:=HGo2.out hnb
           clear HNf HGo2 hnb
           go_wp2_with fail
           go_roundw
           case rel=>exact⟨j+1,by go_num,by omega,L7,hb7,hn⟩
           case measure=>simp[intOf];omega
       ·have HZ:=HF.out w6 L6 (HNo.out heq)
        have heq':(fstI (fuNames x.funcs) x.funcs[j].name==(j:Int))=false:=neb heq
        clear HF HT HNo HGo HNf HFu hDe hBl heq s1
        generalize fstI (fuNames x.funcs) x.funcs[j].name=fz at *
        go_wp2_with fail
        exact HZ
      ·have j1:¬ (j:Int)<(x.funcs.length:Int):=by omega
       have j2:decide ((j:Int)<(x.funcs.length:Int))=false:=decide_eq_false j1
       have HZ:=HT.out wr lr2 (by
        rw[HNB3.out,uniq_fst.2 (fun i hi=>by rw[fuNames_len]at hi;rw[fuNames_at x.funcs hi];exact (HA.out i hi (by omega)).1),allY (f:=Fu.namesB (fuNames x.funcs)) (fun i hi=>(HA.out i hi (by omega)).2)]
        rfl)
       clear HA HF HT HNB3 h0 h1 h1' hFn
       go_wp2_with fail
       exact HZ
    ·have HZ:=HF.out w5 L5 (by rw[HNB2.out,fpl_no hi hfi hbeg];rfl)
     clear HF HT HNB2 hFn h0 h1 h1' r0 r1 r2 c0 c3 c4 hfi
     subst hfa
     by_cases hp:x.funcs[i].params.length=0
     ·have hr:¬ x.funcs[i].rk=0:=fun q=>hbeg ⟨hp,q⟩
      have hr':=neb hr
      have n2:¬ (0:Int)<((x.funcs[i].params.length:Nat):Int):=by omega
      have n3:decide ((0:Int)<((x.funcs[i].params.length:Nat):Int))=false:=decide_eq_false n2
      clear hbeg hp hr
      generalize x.funcs[i].params.length=PL at *
      generalize x.funcs[i].rk=RK at *
      go_wp2_with fail
      exact HZ
     ·have n2:(0:Int)<((x.funcs[i].params.length:Nat):Int):=by omega
      clear hbeg hp
      generalize x.funcs[i].params.length=PL at *
      go_wp2_with fail
      exact HZ
theorem hereE_bare {s k n tk tn:Int}{nm:List Int}{m:Nat}(h:hereE s k n tk tn nm m=true):((k=3∨k=6∨k=7)→n=0)∧(k≠5→tk=0∧tn=0):=by
 unfold hereE at h
 rcases formE_cases k with (rfl|rfl|rfl|rfl|rfl|rfl|rfl|rfl|rfl|rfl|rfl|rfl|rfl|rfl)|⟨n0,n1,n2,n3,n4,n5,n6,n7,n8,n9,n10,n11,n12,n13⟩
 case inr=>unfold formE at h;simp[n0,n1,n2,n3,n4,n5,n6,n7,n8,n9,n10,n11,n12,n13]at h
 all_goals
  simp only[formE]at h
  simp[fitsB,numB,typB]at h ⊢
  try (first|exact h.2|omega|(obtain⟨h1,h2⟩:=h;omega)|trace_state)
theorem nameL_le {nm:List Int}(h:nameL nm=true):nm.length≤8:=by
 unfold nameL wordL at h
 simp only[Bool.and_eq_true,decide_eq_true_eq]at h
 omega
theorem fits_len {f:Form}{n tk tn:Int}{nm:List Int}{m:Nat}{s:Int}(h:fitsB f n tk tn nm m s=true):nm.length≤8:=by
 unfold fitsB at h
 simp only[Bool.and_eq_true]at h
 have h1:=h.1.1.2
 split at h1
 ·exact nameL_le h1
 ·have:=of_decide_eq_true h1
  omega
theorem hereE_len {s k n tk tn:Int}{nm:List Int}{m:Nat}(h:hereE s k n tk tn nm m=true):nm.length≤8:=by
 unfold hereE at h
 split at h
 ·exact fits_len h
 ·cases h
theorem hereS_bare {s k n tk tn:Int}{nm:List Int}{ks:List Ex}{b e:Nat}(h:hereS s k n tk tn nm ks b e=true):nm.length≤8∧(k=0→n=0∧ks=[]):=by
 unfold hereS at h
 split at h
 ·rename_i f hf
  simp only[Bool.and_eq_true]at h
  refine⟨fits_len h.1.1.1,fun hk=>?_⟩
  subst hk
  have e0:f=(0,0,0,1,true,false,false):=by simp[formS]at hf;exact hf.symm
  subst e0
  have h1:=h.1.1.1
  simp[fitsB,numB]at h1
  exact⟨h1.1.2,h1.1.1.1⟩
 ·cases h
mutual
theorem Ex.run_bare (s:Int):∀ (x:Ex) (d l l':Int),Ex.run s d l x=some l'→x.bare=x∧Ex.cp d (400 - l) x=some (400 - l')
 | .mk k n tk tn nm ks,d,l,l',h=>by
  rw[Ex.run]at h
  split at h
  ·cases h
  ·rename_i hc
   have hh:hereE s k n tk tn nm ks.length=true:=by
    cases e:hereE s k n tk tn nm ks.length
    ·exact absurd (.inr (.inr e)) hc
    ·rfl
   have hl:¬ l - 1<0:=fun q=>hc (.inl q)
   have hd:¬ 30<d:=fun q=>hc (.inr (.inl q))
   obtain⟨b1,b2⟩:=Ex.runs_bare s ks (d+1) (l - 1) l' h
   obtain⟨e1,e2⟩:=hereE_bare hh
   refine⟨?_,?_⟩
   ·rw[Ex.bare,b1]
    by_cases q5:k=5
    ·rw[if_pos q5,if_pos q5,if_neg (by omega)]
    ·rw[if_neg q5,if_neg q5,(e2 q5).1,(e2 q5).2]
     by_cases q3:k=3∨k=6∨k=7
     ·rw[if_pos q3,e1 q3]
     ·rw[if_neg q3]
   ·rw[Ex.cp,if_pos ⟨by omega,by omega,hereE_len hh⟩,show 400 - l+1=400 - (l - 1) by omega]
    exact b2
theorem Ex.runs_bare (s:Int):∀ (xs:List Ex) (d l l':Int),Ex.runs s d l xs=some l'→Ex.bares xs=xs∧Ex.cps d (400 - l) xs=some (400 - l')
 | [],d,l,l',h=>by
  rw[Ex.runs]at h
  cases h
  exact⟨by rw[Ex.bares],by rw[Ex.cps]⟩
 | x::r,d,l,l',h=>by
  rw[Ex.runs]at h
  cases hx:Ex.run s d l x with
  | none=>rw[hx]at h;cases h
  | some q =>
   rw[hx]at h
   obtain⟨a1,a2⟩:=Ex.run_bare s x d l q hx
   obtain⟨b1,b2⟩:=Ex.runs_bare s r d q l' h
   exact⟨by rw[Ex.bares,a1,b1],by rw[Ex.cps,a2];exact b2⟩
end
mutual
theorem St.run_bare (s:Int):∀ (x:St) (d l l':Int),St.run s d l x=some l'→x.bare=x∧St.cp d (400 - l) x=some (400 - l')∧x.noK
 | .mk k n tk tn nm ks bo el,d,l,l',h=>by
  rw[St.run]at h
  split at h
  ·cases h
  ·rename_i hc
   have hh:hereS s k n tk tn nm ks bo.length el.length=true:=by
    cases e:hereS s k n tk tn nm ks bo.length el.length
    ·exact absurd (.inr (.inr e)) hc
    ·rfl
   have hl:¬ l - 1<0:=fun q=>hc (.inl q)
   have hd:¬ 30<d:=fun q=>hc (.inr (.inl q))
   obtain⟨e1,e2⟩:=hereS_bare hh
   cases hk:Ex.runs s (d+1) (l - 1) ks with
   | none=>rw[hk]at h;cases h
   | some l1 =>
    rw[hk]at h
    cases hb:St.runs s (d+1) l1 bo with
    | none=>simp only[hb]at h;cases h
    | some l2 =>
     simp only[hb]at h
     obtain⟨a1,a2⟩:=Ex.runs_bare s ks (d+1) (l - 1) l1 hk
     obtain⟨b1,b2,b3⟩:=St.runs_bare s bo (d+1) l1 l2 hb
     obtain⟨c1,c2,c3⟩:=St.runs_bare s el (d+1) l2 l' h
     refine⟨?_,?_,?_⟩
     ·rw[St.bare,a1,b1,c1]
      by_cases q0:k=0
      ·rw[if_pos q0,(e2 q0).1]
      ·rw[if_neg q0]
     ·rw[St.cp,if_pos ⟨by omega,by omega,e1⟩,show 400 - l+1=400 - (l - 1) by omega,a2]
      simp only[b2]
      exact c2
     ·rw[St.noK]
      exact⟨fun q=>(e2 q).2,b3,c3⟩
theorem St.runs_bare (s:Int):∀ (xs:List St) (d l l':Int),St.runs s d l xs=some l'→St.bares xs=xs∧St.cps d (400 - l) xs=some (400 - l')∧St.noKs xs
 | [],d,l,l',h=>by
  rw[St.runs]at h
  cases h
  exact⟨by rw[St.bares],by rw[St.cps],by rw[St.noKs];trivial⟩
 | x::r,d,l,l',h=>by
  rw[St.runs]at h
  cases hx:St.run s d l x with
  | none=>rw[hx]at h;cases h
  | some q =>
   rw[hx]at h
   obtain⟨a1,a2,a3⟩:=St.run_bare s x d l q hx
   obtain⟨b1,b2,b3⟩:=St.runs_bare s r d q l' h
   exact⟨by rw[St.bares,a1,b1],by rw[St.cps,a2];exact b2,by rw[St.noKs];exact⟨a3,b3⟩⟩
end
theorem Fu.runs_bare (s:Int):∀ (xs:List Fu) (l l':Int),Fu.runs s l xs=some l'→xs.map Fu.bare=xs∧Fu.cps (400 - l) xs=some (400 - l')∧xs.all (Fu.head s)=true∧∀ f∈xs,St.noKs f.body
 | [],l,l',h=>by
  rw[Fu.runs]at h
  cases h
  exact⟨rfl,by rw[Fu.cps],rfl,fun f q=>by cases q⟩
 | x::r,l,l',h=>by
  rw[Fu.runs]at h
  cases hx:Fu.run s l x with
  | none=>rw[hx]at h;cases h
  | some q =>
   rw[hx]at h
   obtain⟨b1,b2,b3,b4⟩:=Fu.runs_bare s r q l' h
   unfold Fu.run at hx
   split at hx
   ·rename_i hc
    simp only[Bool.and_eq_true]at hc
    obtain⟨a1,a2,a3⟩:=St.runs_bare s x.body 1 l q hx
    refine⟨?_,?_,?_,fun f hf=>?_⟩
    ·rw[List.map_cons,b1]
     congr 1
     unfold Fu.bare
     rw[a1]
     cases x
     rfl
    ·rw[Fu.cps,a2]
     exact b2
    ·rw[List.all_cons,b3,Bool.and_true]
     exact hc.1
    ·rcases List.mem_cons.1 hf with rfl|hf
     ·exact a3
     ·exact b4 f hf
   ·cases hx
theorem So.run_bare (x:So) (h:x.run.isSome=true):So.wo x=true∧So.bare x=x∧∀ f∈x.funcs,St.noKs f.body:=by
 cases hr:x.run with
 | none=>rw[hr]at h;cases h
 | some l =>
  unfold So.run at hr
  split at hr
  ·rename_i hc
   obtain⟨b1,b2,b3,b4⟩:=Fu.runs_bare _ _ _ _ hr
   refine⟨?_,?_,b4⟩
   ·unfold So.wo
    rw[hc,b3,show (0:Int)=400 - 400 by decide,b2]
    rfl
   ·unfold So.bare
    rw[b1]
    cases x
    rfl
  ·cases hr
end Go.Proofs.YtmdejbphoafjlaaGreatDoor
