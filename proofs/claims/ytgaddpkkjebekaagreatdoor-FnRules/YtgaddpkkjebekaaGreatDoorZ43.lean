import Derived.Test.YtgaddpkkjebekaaGreatDoorZ42
set_option maxHeartbeats 100000000
set_option maxRecDepth 100000
namespace Go.Proofs.YtgaddpkkjebekaaGreatDoor
open Go.RowKit Go.Maps
theorem LP {E:ak}{g j:Nat}{x:Ex}(q:E.txt j=[46]):fP E (g+1) x j=PR.andThen (eX E (j+1)) fun a i=>fP E g (.mk 7 0 0 0 a [x]) i:=by rw[fP,if_pos q]
theorem Ot {E:ak}{g j:Nat}{x:Ex}(q:E.txt j=[91]):fP E (g+1) x j=PR.andThen (pE E g (j+1)) fun k i=>PR.andThen (aG E [93] i) fun _ i=>fP E g (.mk 8 0 0 0 [] [x,k]) i:=by rw[fP,if_neg (by rw[q];decide),if_pos q]
theorem LM {E:ak}{g j:Nat}{x:Ex}(q:E.txt j≠[46]) (q2:E.txt j≠[91]):fP E (g+1) x j=.ok (x,j):=by rw[fP,if_neg q,if_neg q2]
structure TlP (E:ak) (TX:Nat->Value) (TB:Nat->List Nat) (en:Int) (S:List Sc) (K:Nat) (tv sv fv:Value) (w:World) (i B:Nat) (wr:World) (j:Nat) (x:Ex):Prop where
  pz:Pz E TX TB en S K tv sv fv wr j
  only:af K w wr
  res:Bxx wr w.heap.size [.int .i64 0,.int .i64 0,.int .i64 0,.int .i64 0,.slice none 0 0,.slice none 0 0]
  lt:w.heap.size<B
  ij:i<=j
  box:∃ a0 n0 c0 a1 n1 c1 F,Bxx wr B [.int .i64 x.kind,.int .i64 x.n,.int .i64 x.tk,.int .i64 x.tn,.slice a0 n0 c0,.slice a1 n1 c1]/\ai wr x.dat [.int .i64 x.kind,.int .i64 x.n,.int .i64 x.tk,.int .i64 x.tn,.slice a0 n0 c0,.slice a1 n1 c1] F/\aJ TB (w.heap.size+1) i j F/\B∉F
theorem TlP.go {E:ak}{TX:Nat->Value}{TB:Nat->List Nat}{en:Int}{S:List Sc}{K:Nat}{tv sv fv:Value}{w:World}{i B:Nat}{wr w':World}{j j':Nat}{x:Ex}(h0:Pz E TX TB en S K tv sv fv w i) (h:TlP E TX TB en S K tv sv fv w i B wr j x) (o:af K wr w') (p:Ps E TX TB en S K tv sv fv w' j') (hj:j<=j'):TlP E TX TB en S K tv sv fv w i B w' j' x:=by
  have hKl:=h0.ps.box.lt;have hlt:=h.lt;obtain⟨a0,n0,c0,a1,n1,c1,F,hb,ho,fp,hn⟩:=h.box;exact⟨h.pz.go o p,h.only.trans o,h.res.only o (by omega),hlt,Nat.le_trans h.ij hj,a0,n0,c0,a1,n1,c1,F,hb.only o (by omega),aI ho o (fp.iy (by omega) h0.kt),fp.mono (Nat.le_refl _) (Nat.le_refl _) hj,hn⟩
theorem TlP.put {E:ak}{TX:Nat->Value}{TB:Nat->List Nat}{en:Int}{S:List Sc}{K:Nat}{tv sv fv:Value}{w:World}{i B:Nat}{wr W:World}{j j':Nat}{x y:Ex}(h0:Pz E TX TB en S K tv sv fv w i) (h:TlP E TX TB en S K tv sv fv w i B wr j x) (k1:ay [K,B] wr W) (bK:Bxx W K [tv,.int .i64 (j':Int),.int .i64 en,sv,fv]) (hj:j<=j') (hl:j'<=E.l.length) {a0:Option Addr}{n0 c0:Nat}{a1:Option Addr}{n1 c1:Nat}{F:List Nat}(hb:Bxx W B [.int .i64 y.kind,.int .i64 y.n,.int .i64 y.tk,.int .i64 y.tn,.slice a0 n0 c0,.slice a1 n1 c1]) (ho:ai W y.dat [.int .i64 y.kind,.int .i64 y.n,.int .i64 y.tk,.int .i64 y.tn,.slice a0 n0 c0,.slice a1 n1 c1] F) (fp:aJ TB (w.heap.size+1) i j' F) (hn:B∉F):TlP E TX TB en S K tv sv fv w i B W j' y:=by
  have hKl:=h0.ps.box.lt;have hlt:=h.lt
  have oK:af K w W:=⟨k1.os.trans h.only.os,k1.tape.trans h.only.tape,k1.output.trans h.only.output,Nat.le_trans h.only.size k1.size,fun b hbl hne=>by rw[k1.block b (Nat.lt_of_lt_of_le hbl h.only.size) (by simp;omega)];exact h.only.block b hbl hne⟩
  exact⟨h0.adv oK bK hl,oK,h.res.kept k1.size (k1.block _ h.res.lt (by simp;omega)),hlt,Nat.le_trans h.ij hj,a0,n0,c0,a1,n1,c1,F,hb,ho,fp,hn⟩
theorem ay.alloc {F:List Nat}{a b:World}(h:ay F a b) (o:Obj):ay F a (b.alloc o):=h.trans ⟨rfl,rfl,rfl,(ae b o).size,fun x hx _=>(ae b o).block x hx⟩
theorem ay.ofK {F:List Nat}{K:Nat}{a b:World}(h:af K a b) (hk:K∈F):ay F a b:=⟨h.os,h.tape,h.output,h.size,fun x hx hn=>h.block x hx (fun e=>hn (e ▸ hk))⟩
theorem aJ.field {TB:Nat->List Nat}{B i j g M:Nat}{F:List Nat}(hT:BF TB B) (h:aJ TB (B+1) i (j+1) F) (hl:∀ b∈F,b<M) (hg:M<=g) (hM:B<M) (hij:i<=j):aJ TB (B+1) i (j+2) (TB (j+1)++g::F):=by
  refine⟨List.nodup_append.2 ⟨hT.one _,List.nodup_cons.2 ⟨fun q=>by have:=hl g q;omega,h.one⟩,fun a ha b hb e=>?_⟩,fun b q=>?_⟩
  · subst e
    have:=hT.lt _ a ha;rcases List.mem_cons.1 hb with rfl|q
    · omega
    · rcases h.whr a q with c|⟨k,c1,c2,c3⟩
      · omega
      · have:=hT.apart _ _ a c3 ha;omega
  · rcases List.mem_append.1 q with q|q
    · exact .inr ⟨j+1,by omega,by omega,q⟩
    · rcases List.mem_cons.1 q with rfl|q
      · exact .inl (by omega)
      · rcases h.whr b q with c|⟨k,c1,c2,c3⟩
        · exact .inl c
        · exact .inr ⟨k,c1,by omega,c3⟩
theorem TlP.done {E:ak}{TX:Nat->Value}{TB:Nat->List Nat}{en:Int}{S:List Sc}{K:Nat}{tv sv fv:Value}{w:World}{i B:Nat}{wr:World}{j:Nat}{x:Ex}(h0:Pz E TX TB en S K tv sv fv w i) (h:TlP E TX TB en S K tv sv fv w i B wr j x) {r:PR Ex}(hr:r=.ok (x,j)):∃ a0 n0 c0 a1 n1 c1 W,Bxx wr B [.int .i64 x.kind,.int .i64 x.n,.int .i64 x.tk,.int .i64 x.tn,.slice a0 n0 c0,.slice a1 n1 c1]/\Hid (W=(((((wr.setCell ⟨w.heap.size,0,none⟩ (.int .i64 x.kind)).setCell ⟨w.heap.size,1,none⟩ (.int .i64 x.n)).setCell ⟨w.heap.size,2,none⟩ (.int .i64 x.tk)).setCell ⟨w.heap.size,3,none⟩ (.int .i64 x.tn)).setCell ⟨w.heap.size,4,none⟩ (.slice a0 n0 c0)).setCell ⟨w.heap.size,5,none⟩ (.slice a1 n1 c1))/\Bxx W w.heap.size [.int .i64 x.kind,.int .i64 x.n,.int .i64 x.tk,.int .i64 x.tn,.slice a0 n0 c0,.slice a1 n1 c1]/\Hid (PcP E TX TB en S K tv sv fv w r (jl TB w.heap.size i) (.returned (.agg #[.int .i64 x.kind,.int .i64 x.n,.int .i64 x.tk,.int .i64 x.tn,.slice a0 n0 c0,.slice a1 n1 c1])) W):=by
  obtain⟨a0,n0,c0,a1,n1,c1,F,hb,ho,fp,hn⟩:=h.box;obtain⟨W,hW,hX,HZ⟩:=En h0 hr h.only h.pz.ps h.res ho fp;exact⟨a0,n0,c0,a1,n1,c1,W,hb,hW,hX,HZ⟩
theorem UB {w3:World}{B:Nat}{c0 c1 c2 c3 c4 c5:Value}(hb:Bxx w3 B [c0,c1,c2,c3,c4,c5]) (a b c d e f:Value):∃ W,Hid (W=(((((w3.setCell ⟨B,0,none⟩ a).setCell ⟨B,1,none⟩ b).setCell ⟨B,2,none⟩ c).setCell ⟨B,3,none⟩ d).setCell ⟨B,4,none⟩ e).setCell ⟨B,5,none⟩ f)/\af B w3 W/\Bxx W B [a,b,c,d,e,f]/\W.heap.size=w3.heap.size :=
  ⟨_,rfl,((((((af.refl _ w3).set 0 _).set 1 _).set 2 _).set 3 _).set 4 _).set 5 _,(((((hb.set 0 _ (by simp)).set 1 _ (by simp)).set 2 _ (by simp)).set 3 _ (by simp)).set 4 _ (by simp)).set 5 _ (by simp),by simp[World.size_setCell]⟩
theorem TlP.onlyK {E:ak}{TX:Nat->Value}{TB:Nat->List Nat}{en:Int}{S:List Sc}{K:Nat}{tv sv fv:Value}{w:World}{i B:Nat}{wr W:World}{j:Nat}{x:Ex}(h:TlP E TX TB en S K tv sv fv w i B wr j x) (k1:ay [K,B] wr W):af K w W:=by
  have hlt:=h.lt;exact⟨k1.os.trans h.only.os,k1.tape.trans h.only.tape,k1.output.trans h.only.output,Nat.le_trans h.only.size k1.size,fun b hbl hne=>by rw[k1.block b (Nat.lt_of_lt_of_le hbl h.only.size) (by simp;omega)];exact h.only.block b hbl hne⟩
theorem DY {w W:World}{d:Dat}{cs:List Value}{F:List Nat}{K B:Nat}(h:ai w d cs F) (k1:ay [K,B] w W) (hK:K∉F) (hB:B∉F):ai W d cs F:=h.only k1 fun b hb q=>by
  simp at q;rcases q with rfl|rfl
  · exact hK hb
  · exact hB hb
theorem TlP.field {E:ak}{TX:Nat->Value}{TB:Nat->List Nat}{en:Int}{S:List Sc}{K:Nat}{tv sv fv:Value}{w:World}{i B:Nat}{wr w3 W:World}{j g:Nat}{x:Ex}{a0:Option Addr}{n0 c0:Nat}{a1:Option Addr}{n1 c1:Nat}{F:List Nat}{xa:Option Addr}{xn xc:Nat}(h0:Pz E TX TB en S K tv sv fv w i) (h:TlP E TX TB en S K tv sv fv w i B wr (j+1) x) (hb:Bxx wr B [.int .i64 x.kind,.int .i64 x.n,.int .i64 x.tk,.int .i64 x.tn,.slice a0 n0 c0,.slice a1 n1 c1]) (ho:ai wr x.dat [.int .i64 x.kind,.int .i64 x.n,.int .i64 x.tk,.int .i64 x.tn,.slice a0 n0 c0,.slice a1 n1 c1] F) (fp:aJ TB (w.heap.size+1) i (j+1) F) (hij:i<=j) (hn:B∉F) (o3:af K wr w3) (hi:j+1<E.l.length) (hx:TX (j+1)=.slice xa xn xc) (kW:ay [K,B] w3 W) (bB:Bxx W B [.int .i64 7,.int .i64 0,.int .i64 0,.int .i64 0,.slice xa xn xc,.slice (some ⟨g,0,none⟩) 1 1]) (bK:Bxx W K [tv,.int .i64 ((j+2:Nat):Int),.int .i64 en,sv,fv]) (hg:Bxx W g [.int .i64 x.kind,.int .i64 x.n,.int .i64 x.tk,.int .i64 x.tn,.slice a0 n0 c0,.slice a1 n1 c1]) (hM:wr.heap.size<=g):TlP E TX TB en S K tv sv fv w i B W (j+2) (.mk 7 0 0 0 (E.txt (j+1)) [x]):=by
  have hKl:=h0.ps.box.lt;have hlt:=h.lt;have hBl:=hb.lt;have k1:ay [K,B] wr W:=(ay.ofK o3 (by simp)).trans kW;have hoW:=DY ho k1 (fp.iy (by omega) h0.kt) hn;have hnm:=(h0.adv (h.onlyK k1) bK hi).ps.nameAt hi;rw[hx]at hnm;refine h.put h0 k1 bK (by omega) hi (y:=Ex.mk 7 0 0 0 (E.txt (j+1)) [x]) bB (Ex.own (x:=Ex.mk 7 0 0 0 (E.txt (j+1)) [x]) hnm (by show ai W (.list 6 (Ex.ah [x])) _ _;rw[Ex.ah,Ex.ah];exact xW hg rfl hoW)) (aJ.field h0.tb fp (ai.lt _ ho) hM (by omega) hij) fun q=>?_;rcases List.mem_append.1 q with q|q
  · have:=h0.tb.lt _ _ q;omega
  · rcases List.mem_cons.1 q with q|q
    · omega
    · exact hn q
theorem TlP.index {E:ak}{TX:Nat->Value}{TB:Nat->List Nat}{en:Int}{S:List Sc}{K:Nat}{tv sv fv:Value}{w:World}{i B:Nat}{wr w2 w3 W:World}{j j2 g:Nat}{x k:Ex}{a0:Option Addr}{n0 c0:Nat}{a1:Option Addr}{n1 c1:Nat}{F:List Nat}{b0:Option Addr}{m0 d0:Nat}{b1:Option Addr}{m1 d1:Nat}{G:List Nat}(h0:Pz E TX TB en S K tv sv fv w i) (h:TlP E TX TB en S K tv sv fv w i B wr (j+1) x) (hb:Bxx wr B [.int .i64 x.kind,.int .i64 x.n,.int .i64 x.tk,.int .i64 x.tn,.slice a0 n0 c0,.slice a1 n1 c1]) (ho:ai wr x.dat [.int .i64 x.kind,.int .i64 x.n,.int .i64 x.tk,.int .i64 x.tn,.slice a0 n0 c0,.slice a1 n1 c1] F) (fp:aJ TB (w.heap.size+1) i (j+1) F) (hij:i<=j) (hn:B∉F) (o3:af K wr w3) (hk:ai w3 k.dat [.int .i64 k.kind,.int .i64 k.n,.int .i64 k.tk,.int .i64 k.tn,.slice b0 m0 d0,.slice b1 m1 d1] G) (fk:aJ TB w2.heap.size (j+1) j2 G) (s2:wr.heap.size<=w2.heap.size) (hj2:j+1<=j2) (hl:j2<=E.l.length) (kW:ay [K,B] w3 W) (bB:Bxx W B [.int .i64 8,.int .i64 0,.int .i64 0,.int .i64 0,.slice none 0 0,.slice (some ⟨g,0,none⟩) 2 2]) (bK:Bxx W K [tv,.int .i64 (j2:Int),.int .i64 en,sv,fv]) (hg:Bxx W g ([.int .i64 x.kind,.int .i64 x.n,.int .i64 x.tk,.int .i64 x.tn,.slice a0 n0 c0,.slice a1 n1 c1]++[.int .i64 k.kind,.int .i64 k.n,.int .i64 k.tk,.int .i64 k.tn,.slice b0 m0 d0,.slice b1 m1 d1])) (hM:w3.heap.size<=g):TlP E TX TB en S K tv sv fv w i B W j2 (.mk 8 0 0 0 [] [x,k]):=by
  have hKl:=h0.ps.box.lt;have hlt:=h.lt;have hBl:=hb.lt;have s3:=o3.size;have k1:ay [K,B] wr W:=(ay.ofK o3 (by simp)).trans kW;have hoW:=DY ho k1 (fp.iy (by omega) h0.kt) hn;have hKG:K∉G:=fk.iy (by omega) h0.kt
  have hBG:B∉G:=fun q=>by
    rcases fk.whr _ q with a|⟨m,_,_,a⟩
    · omega
    · have:=h0.tb.lt m _ a;omega
  have hkW:=DY hk kW hKG hBG;have hlF:=ai.lt _ ho;have hlG:=ai.lt _ hk
  have fa:aJ TB (w.heap.size+1) i j2 (g::(F++G)):=by
    refine aJ.cons (aJ.app (h0.tb.mono (Nat.le_succ _)) fp (M:=w2.heap.size) (fun b q=>by have:=hlF b q;omega) (by omega) fk (by omega) (by omega) (by omega)) (fun b q=>?_) (by omega);rcases List.mem_append.1 q with q|q
    · have:=hlF b q;omega
    · have:=hlG b q;omega
  refine h.put h0 k1 bK (by omega) hl (y:=Ex.mk 8 0 0 0 [] [x,k]) bB (Ex.own (x:=Ex.mk 8 0 0 0 [] [x,k]) (F0:=[]) (gu W) (by show ai W (.list 6 (Ex.ah [x,k])) _ _;rw[Ex.ah,Ex.ah,Ex.ah];exact xU hg rfl rfl hoW hkW)) fa fun q=>?_;rcases List.mem_cons.1 q with q|q
  · omega
  · rcases List.mem_append.1 q with q|q
    · exact hn q
    · exact hBG q
theorem IL {f:Nat}(H:∀ g,g<=f+2->ExC g):ExC (f+3):=by
  intro E TX TB en S K tv sv fv w i h hf;have HNo:Hid (∀ k w',pE E (f+3) i=.error k->af K w w'->PcP E TX TB en S K tv sv fv w (pE E (f+3) i) (jl TB w.heap.size i) (.panicked [{ v:=.iface 36 (.int .i64 (E.pos en k)),recovered:=false }]) w'):=fun k w' e o=>PcP.no e o
  generalize hr:pE E (f+3) i=r at *
  have HR:Hid _:=hr;clear hr;obtain⟨wa,hwa⟩:=hidx (w.alloc (.cells #[.int .i64 0,.int .i64 0,.int .i64 0,.int .i64 0,.slice none 0 0,.slice none 0 0] 148));have la:Later w wa:=by rw[hwa.out];exact ae _ _
  have ha:=h.later la;have hbx:Bxx wa w.heap.size [.int .i64 0,.int .i64 0,.int .i64 0,.int .i64 0,.slice none 0 0,.slice none 0 0]:=by rw[hwa.out];exact Bxx.new _ _ _
  have hs:=hbx.lt;have oa:af K w wa:=af.of_later la;have hKl:=h.ps.box.lt;have hK:w.heap.size≠K:=by omega
  have hE:pE E (f+3) i=PR.andThen (pO E (f+2) i) fun e i=>fP E (f+2) e i:=by rw[pE]
  go_enter Tryz.func105,Tryz.ntmps105;go_wp2_with fail
  rw[<-hwa.out];have hO:=SL (f:=f) (fun g q=>H g (by omega)) E TX TB en S K tv sv fv wa i ha (by omega)
  cases qo:pO E (f+2) i with
  | error k =>
    refine (kT hO qo).mono ?_;rintro e w1 ⟨rfl,o1⟩;have HZ:=HNo.out _ w1 (by rw[<-HR.out,hE,qo];rfl) (oa.trans o1);go_wp2_with fail
    exact⟨rfl,HZ⟩
  | ok y =>
    obtain⟨x,j⟩:=y;refine (DV ha hO qo).mono ?_;rintro e w1 ⟨a0,n0,c0,a1,n1,c1,F,rfl,o1,h1,ho,fp⟩;have hadv:=(gX h.fit (f+2)).2.2.1 _ _ _ qo;obtain⟨wb,hwb⟩:=hidx (w1.alloc (.cells #[.int .i64 x.kind,.int .i64 x.n,.int .i64 x.tk,.int .i64 x.tn,.slice a0 n0 c0,.slice a1 n1 c1] 148));have lb:Later w1 wb:=by rw[hwb.out];exact ae _ _
    have hbe:Bxx wb w1.heap.size [.int .i64 x.kind,.int .i64 x.n,.int .i64 x.tk,.int .i64 x.tn,.slice a0 n0 c0,.slice a1 n1 c1]:=by rw[hwb.out];exact Bxx.new _ _ _
    have HA:Hid (TlP E TX TB en S K tv sv fv w i w1.heap.size wb j x):=⟨h1.later lb,(oa.trans o1).trans (af.of_later lb),(hbx.only o1 hK).later lb,Nat.lt_of_lt_of_le hs o1.size,by omega,a0,n0,c0,a1,n1,c1,F,hbe,fE ho lb,fp.mono hs (Nat.le_refl _) (Nat.le_refl _),fun q=>Nat.lt_irrefl _ (ai.lt _ ho _ q)⟩
    have HT:Hid (fP E (f+2) x j=r/\f+2<=f+2/\4*(E.l.length - j)+2<=f+2):=⟨by rw[<-HR.out,hE,qo];rfl,Nat.le_refl _,by omega⟩
    have hB0:w.heap.size<w1.heap.size:=Nat.lt_of_lt_of_le hs o1.size
    generalize hBB:w1.heap.size=B at *
    clear hE hO qo ho fp h1 hbe HR hadv;go_wp2_with fail
    rw[<-hwb.out];clear hwb lb o1 hBB;go_loopw [] (fun wr=>∃ (g j:Nat) (x:Ex),TlP E TX TB en S K tv sv fv w i B wr j x/\Hid (fP E g x j=r/\g<=f+2/\4*(E.l.length - j)+2<=g)) (fun wr=>E.l.length - nxt K wr)
    case atStart=>exact⟨f+2,j,x,HA.out,HT⟩
    case round =>
      clear HA HT;obtain⟨g,j',x',hT,HT⟩:=hrel
      obtain⟨g,rfl⟩:∃ g',g=g'+1:=⟨g - 1,by have:=HT.out;omega⟩
      have HJ:Hid (nxt K wr=j'):=hT.pz.ps.nxt;have hjl:=hT.pz.ps.le;have hij:=hT.ij;go_wp2_with fail
      by_cases q1:E.txt j'=[46]
      · have hil:=ak.aX (E:=E) (i:=j') (by rw[q1];decide)
        refine (bG hT.pz.ps _ _ JX (by decide) q1).mono ?_;rintro e w2 ⟨rfl,o2,p2⟩;have hT2:=hT.go h o2 p2 (Nat.le_succ _);have ht:(PR.andThen (eX E (j'+1)) fun a i=>fP E g (.mk 7 0 0 0 a [x']) i)=r:=(LP q1).symm.trans HT.out.1;obtain⟨b0,m0,d0,b1,m1,d1,F',hb,ho,fp,hn⟩:=hT2.box;have HB:Hid (∀ w',af K w2 w'->Bxx w' B [.int .i64 x'.kind,.int .i64 x'.n,.int .i64 x'.tk,.int .i64 x'.tn,.slice b0 m0 d0,.slice b1 m1 d1]):=fun w' o=>hb.only o (by omega);have hM:=hb.lt;obtain⟨⟨⟨z0,y0⟩,⟨z1,y1⟩,⟨z2,y2⟩,⟨z3,y3⟩,⟨z4,y4⟩,⟨z5,y5⟩⟩,_⟩:=hb.six;clear hT o2 p2;go_wp2_with fail
        by_cases q2:aQ (E.txt (j'+1))=true
        · have hi2:=ak.aX (E:=E) (i:=j'+1) (fun e=>by rw[e]at q2;revert q2;decide)
          obtain⟨xa,xc,hx⟩:=jb (hT2.pz.ps.nameAt hi2)
          have HT2:Hid (fP E g (.mk 7 0 0 0 (E.txt (j'+1)) [x']) (j'+2)=r/\g<=f+2/\4*(E.l.length - (j'+2))+2<=g):=⟨by rw[<-ht,nz h.nm q2];rfl,by have:=HT.out;omega,by have:=HT.out;omega⟩
          have HC:Hid (∀ w',Later w2 w'->Calls Tryz.prog 44 #[.pointer (some ⟨K,0,none⟩)] w' fun e w3=>e=.returned (.slice xa (E.txt (j'+1)).length xc)/\af K w2 w3/\af K w' w3/\Pz E TX TB en S K tv sv fv w3 (j'+2)):=fun w' l=>(sK (hT2.pz.later l) q2).mono fun e w3 q=>⟨by rw[q.1,hx],(af.of_later l).trans q.2.1,q.2.1,q.2.2⟩
          have HF:Hid (∀ w3 W g',af K w2 w3->ay [K,B] w3 W->Bxx W B [.int .i64 7,.int .i64 0,.int .i64 0,.int .i64 0,.slice xa (E.txt (j'+1)).length xc,.slice (some ⟨g',0,none⟩) 1 1]->Bxx W K [tv,.int .i64 ((j'+2:Nat):Int),.int .i64 en,sv,fv]->Bxx W g' [.int .i64 x'.kind,.int .i64 x'.n,.int .i64 x'.tk,.int .i64 x'.tn,.slice b0 m0 d0,.slice b1 m1 d1]->w2.heap.size<=g'->TlP E TX TB en S K tv sv fv w i B W (j'+2) (.mk 7 0 0 0 (E.txt (j'+1)) [x'])):=fun w3 W g' o3 kW bB bK hg hM=>TlP.field h hT2 hb ho fp hij hn o3 hi2 hx kW bB bK hg hM;clear hb ho fp hn hT2 ht HNo H HT hx
          generalize (E.txt (j'+1)).length=xn at *
          go_region_with (go_at_call 44;refine (HC.out _ ?hl).mono ?_;(case hl=>(first|exact Later.drew _|exact (Later.drew _).trans (ae _ _)|exact (ae _ _).trans (Later.drew _)));rintro e w3 ⟨rfl,o3,o4,h3⟩;obtain⟨⟨⟨x0,f0⟩,⟨x1,f1⟩,⟨x2,f2⟩,⟨x3,f3⟩,⟨x4,f4⟩,⟨x5,f5⟩⟩,xl⟩:=(HB.out w3 o3).six)
          all_goals
            have bK:=h3.ps.box;have hb3:=HB.out w3 o3;have hg3:w2.heap.size<=w3.heap.size:=o3.size
            first
            | (obtain⟨W0,hW0,oW,bW,sW⟩:=UB hb3 (.int .i64 7) (.int .i64 0) (.int .i64 0) (.int .i64 0) (.slice xa xn xc) (.slice (some ⟨w3.heap.size,0,none⟩) 1 1)
               have HRel:=HF.out w3 (W0.alloc (.cells #[.int .i64 x'.kind,.int .i64 x'.n,.int .i64 x'.tk,.int .i64 x'.tn,.slice b0 m0 d0,.slice b1 m1 d1] 148)) w3.heap.size o3 ((ay.ofK oW (by simp)).alloc _) (bW.alloc _) ((bK.only oW (by omega)).alloc _) (by have hh:=Bxx.new W0 #[.int .i64 x'.kind,.int .i64 x'.n,.int .i64 x'.tk,.int .i64 x'.tn,.slice b0 m0 d0,.slice b1 m1 d1] 148;rw[sW]at hh;exact hh) hg3;go_wp2_with fail
               go_roundw
               (case rel=>rw[<-hW0.out];exact⟨g,j'+2,_,HRel,HT2⟩)
               (case measure=>rw[<-hW0.out,HRel.pz.ps.nxt,HJ.out];omega))
            | (obtain⟨W0,hW0,oW,bW,sW⟩:=UB hb3 (.int .i64 7) (.int .i64 0) (.int .i64 0) (.int .i64 0) (.slice xa xn xc) (.slice (some ⟨w2.heap.size,0,none⟩) 1 1)
               have hnew:Bxx w3 w2.heap.size [.int .i64 x'.kind,.int .i64 x'.n,.int .i64 x'.tk,.int .i64 x'.tn,.slice b0 m0 d0,.slice b1 m1 d1]:=by
                 first
                 | exact ((Bxx.new w2 #[.int .i64 x'.kind,.int .i64 x'.n,.int .i64 x'.tk,.int .i64 x'.tn,.slice b0 m0 d0,.slice b1 m1 d1] 148).later (Later.drew _)).only o4 (by omega)
                 | exact (Bxx.new w2.drew #[.int .i64 x'.kind,.int .i64 x'.n,.int .i64 x'.tk,.int .i64 x'.tn,.slice b0 m0 d0,.slice b1 m1 d1] 148).only o4 (by show w2.heap.size≠K;omega)
               have HRel:=HF.out w3 W0 w2.heap.size o3 (ay.ofK oW (by simp)) bW (bK.only oW (by omega)) (hnew.only oW (by omega)) (Nat.le_refl _);go_wp2_with fail
               go_roundw
               (case rel=>rw[<-hW0.out];exact⟨g,j'+2,_,HRel,HT2⟩)
               (case measure=>rw[<-hW0.out,HRel.pz.ps.nxt,HJ.out];omega))
        · have HC:Hid (∀ w',Later w2 w'->Calls Tryz.prog 44 #[.pointer (some ⟨K,0,none⟩)] w' fun e w3=>e=.panicked [{ v:=.iface 36 (.int .i64 (E.pos en (j'+1))),recovered:=false }]/\af K w2 w3):=fun w' l=>(ww (hT2.pz.later l) q2).mono fun e w3 q=>⟨q.1,(af.of_later l).trans q.2⟩
          have HP:Hid (∀ w',af K w2 w'->PcP E TX TB en S K tv sv fv w r (jl TB w.heap.size i) (.panicked [{ v:=.iface 36 (.int .i64 (E.pos en (j'+1))),recovered:=false }]) w'):=fun w' o=>HNo.out _ w' (by rw[<-ht,wM h.nm q2];rfl) (hT2.only.trans o);clear HNo H ht HT hb ho fp hn hT2 HB;refine wp_region_any (by kernel_rfl) ?_;(try (change wpAny _ _ _ _ _ _ _ (World.drew _)));refine wpAny_ready (rs:=[0,2]) (by kernel_rfl) (List.cons_ne_nil _ _) ?_;refine (AllReady.cons rfl (fun KK hKK=>?_) (AllReady.cons rfl (fun KK hKK=>?_) AllReady.nil))
          · go_simp
            refine hKK _ _ ?_;clear hKK KK;refine wpAny_ready (rs:=[1,2]) (by kernel_rfl) (List.cons_ne_nil _ _) ?_;refine (AllReady.cons rfl (fun KK hKK=>?_) (AllReady.cons rfl (fun KK hKK=>?_) AllReady.nil))
            · go_simp
              go_wp2_with (go_at_call 44;refine (HC.out _ ?hl).mono ?_;(case hl=>(first|exact Later.drew _|exact (Later.drew _).trans (ae _ _)|exact (ae _ _).trans (Later.drew _)));rintro e w3 ⟨rfl,o3⟩)
              exact⟨rfl,HP.out w3 o3⟩
            · go_simp
              refine hKK _ _ ?_;clear hKK KK;refine wpAny_ready (rs:=[1,3]) (by kernel_rfl) (List.cons_ne_nil _ _) ?_;refine (AllReady.cons rfl (fun KK hKK=>?_) (AllReady.cons rfl (fun KK hKK=>?_) AllReady.nil))
              · go_simp
                go_wp2_with (go_at_call 44;refine (HC.out _ ?hl).mono ?_;(case hl=>(first|exact Later.drew _|exact (Later.drew _).trans (ae _ _)|exact (ae _ _).trans (Later.drew _)));rintro e w3 ⟨rfl,o3⟩)
                exact⟨rfl,HP.out w3 o3⟩
              · go_simp
                refine hKK _ _ ?_;clear hKK KK;refine wpAny_ready (rs:=[1]) (by kernel_rfl) (List.cons_ne_nil _ _) ?_;refine (AllReady.cons rfl (fun KK hKK=>?_) AllReady.nil);go_simp;go_wp2_with (go_at_call 44;refine (HC.out _ ?hl).mono ?_;(case hl=>(first|exact Later.drew _|exact (Later.drew _).trans (ae _ _)|exact (ae _ _).trans (Later.drew _)));rintro e w3 ⟨rfl,o3⟩)
                exact⟨rfl,HP.out w3 o3⟩
          · go_simp
            refine hKK _ _ ?_;clear hKK KK;refine wpAny_ready (rs:=[0,3]) (by kernel_rfl) (List.cons_ne_nil _ _) ?_;refine (AllReady.cons rfl (fun KK hKK=>?_) (AllReady.cons rfl (fun KK hKK=>?_) AllReady.nil))
            · go_simp
              refine hKK _ _ ?_;clear hKK KK;refine wpAny_ready (rs:=[1,3]) (by kernel_rfl) (List.cons_ne_nil _ _) ?_;refine (AllReady.cons rfl (fun KK hKK=>?_) (AllReady.cons rfl (fun KK hKK=>?_) AllReady.nil))
              · go_simp
                go_wp2_with (go_at_call 44;refine (HC.out _ ?hl).mono ?_;(case hl=>(first|exact Later.drew _|exact (Later.drew _).trans (ae _ _)|exact (ae _ _).trans (Later.drew _)));rintro e w3 ⟨rfl,o3⟩)
                exact⟨rfl,HP.out w3 o3⟩
              · go_simp
                refine hKK _ _ ?_;clear hKK KK;refine wpAny_ready (rs:=[1]) (by kernel_rfl) (List.cons_ne_nil _ _) ?_;refine (AllReady.cons rfl (fun KK hKK=>?_) AllReady.nil);go_simp;go_wp2_with (go_at_call 44;refine (HC.out _ ?hl).mono ?_;(case hl=>(first|exact Later.drew _|exact (Later.drew _).trans (ae _ _)|exact (ae _ _).trans (Later.drew _)));rintro e w3 ⟨rfl,o3⟩)
                exact⟨rfl,HP.out w3 o3⟩
            · go_simp
              refine hKK _ _ ?_;clear hKK KK;refine wpAny_ready (rs:=[0]) (by kernel_rfl) (List.cons_ne_nil _ _) ?_;refine (AllReady.cons rfl (fun KK hKK=>?_) AllReady.nil);go_simp;refine hKK _ _ ?_;clear hKK KK;refine wpAny_ready (rs:=[1]) (by kernel_rfl) (List.cons_ne_nil _ _) ?_;refine (AllReady.cons rfl (fun KK hKK=>?_) AllReady.nil);go_simp;go_wp2_with (go_at_call 44;refine (HC.out _ ?hl).mono ?_;(case hl=>(first|exact Later.drew _|exact (Later.drew _).trans (ae _ _)|exact (ae _ _).trans (Later.drew _)));rintro e w3 ⟨rfl,o3⟩)
              exact⟨rfl,HP.out w3 o3⟩
      refine (bT hT.pz.ps _ _ JX (by decide) q1).mono ?_;rintro e w2 ⟨rfl,o2,p2⟩;have hT2:=hT.go h o2 p2 (Nat.le_refl _);clear hT o2 p2;go_wp2_with fail
      by_cases q2:E.txt j'=[91]
      · have hil:=ak.aX (E:=E) (i:=j') (by rw[q2];decide)
        refine (bG hT2.pz.ps _ _ Am (by decide) q2).mono ?_;rintro e w3 ⟨rfl,o3,p3⟩;have hT3:=hT2.go h o3 p3 (Nat.le_succ _);have ht:(PR.andThen (pE E g (j'+1)) fun k i=>PR.andThen (aG E [93] i) fun _ i=>fP E g (.mk 8 0 0 0 [] [x',k]) i)=r:=(Ot q2).symm.trans HT.out.1;have hgf:g<=f+2/\4*(E.l.length - (j'+1))+3<=g:=by have:=HT.out;omega
        obtain⟨b0,m0,d0,b1,m1,d1,F',hb,ho,fp,hn⟩:=hT3.box;have HB:Hid (∀ w',af K w3 w'->Bxx w' B [.int .i64 x'.kind,.int .i64 x'.n,.int .i64 x'.tk,.int .i64 x'.tn,.slice b0 m0 d0,.slice b1 m1 d1]):=fun w' o=>hb.only o (by omega);obtain⟨⟨⟨z0,y0⟩,⟨z1,y1⟩,⟨z2,y2⟩,⟨z3,y3⟩,⟨z4,y4⟩,⟨z5,y5⟩⟩,_⟩:=hb.six;have hM:=hb.lt;clear hT2 o3 p3;go_wp2_with fail
        cases q3:pE E g (j'+1) with
        | error k =>
          have HC:Hid (∀ w',Later w3 w'->Calls Tryz.prog 105 #[.pointer (some ⟨K,0,none⟩)] w' fun e w4=>e=.panicked [{ v:=.iface 36 (.int .i64 (E.pos en k)),recovered:=false }]/\af K w3 w4):=fun w' l=>(Du (H g hgf.1) (hT3.pz.later l) hgf.2 q3).mono fun e w4 q=>⟨q.1,(af.of_later l).trans q.2⟩
          have HP:Hid (∀ w',af K w3 w'->PcP E TX TB en S K tv sv fv w r (jl TB w.heap.size i) (.panicked [{ v:=.iface 36 (.int .i64 (E.pos en k)),recovered:=false }]) w'):=fun w' o=>HNo.out _ w' (by rw[<-ht,q3];rfl) (hT3.only.trans o);clear HNo H ht HT hb ho fp hn hT3 HB q3;refine wp_region_any (by kernel_rfl) ?_;(try (change wpAny _ _ _ _ _ _ _ (World.drew _)));refine wpAny_ready (rs:=[0,1]) (by kernel_rfl) (List.cons_ne_nil _ _) ?_;refine (AllReady.cons rfl (fun KK hKK=>?_) (AllReady.cons rfl (fun KK hKK=>?_) AllReady.nil))
          · go_simp
            refine hKK _ _ ?_;clear hKK KK;refine wpAny_ready (rs:=[1]) (by kernel_rfl) (List.cons_ne_nil _ _) ?_;refine (AllReady.cons rfl (fun KK hKK=>?_) AllReady.nil);go_simp;refine hKK _ _ ?_;clear hKK KK;refine wpAny_ready (rs:=[2]) (by kernel_rfl) (List.cons_ne_nil _ _) ?_;refine (AllReady.cons rfl (fun KK hKK=>?_) AllReady.nil);go_simp;go_wp2_with (go_at_call 105;refine (HC.out _ ?hl).mono ?_;(case hl=>(first|exact Later.drew _|exact (Later.drew _).trans (ae _ _)|exact (ae _ _).trans (Later.drew _)));rintro e w4 ⟨rfl,o4⟩)
            exact⟨rfl,HP.out w4 o4⟩
          · go_simp
            refine hKK _ _ ?_;clear hKK KK;refine wpAny_ready (rs:=[0,2]) (by kernel_rfl) (List.cons_ne_nil _ _) ?_;refine (AllReady.cons rfl (fun KK hKK=>?_) (AllReady.cons rfl (fun KK hKK=>?_) AllReady.nil))
            · go_simp
              refine hKK _ _ ?_;clear hKK KK;refine wpAny_ready (rs:=[2]) (by kernel_rfl) (List.cons_ne_nil _ _) ?_;refine (AllReady.cons rfl (fun KK hKK=>?_) AllReady.nil);go_simp;go_wp2_with (go_at_call 105;refine (HC.out _ ?hl).mono ?_;(case hl=>(first|exact Later.drew _|exact (Later.drew _).trans (ae _ _)|exact (ae _ _).trans (Later.drew _)));rintro e w4 ⟨rfl,o4⟩)
              exact⟨rfl,HP.out w4 o4⟩
            · go_simp
              go_wp2_with (go_at_call 105;refine (HC.out _ ?hl).mono ?_;(case hl=>(first|exact Later.drew _|exact (Later.drew _).trans (ae _ _)|exact (ae _ _).trans (Later.drew _)));rintro e w4 ⟨rfl,o4⟩)
              exact⟨rfl,HP.out w4 o4⟩
        | ok y =>
          obtain⟨k,j2⟩:=y;have hadv:=(gX h.fit g).1 _ _ _ q3
          have HC:Hid (∀ w',Later w3 w'->Calls Tryz.prog 105 #[.pointer (some ⟨K,0,none⟩)] w' fun e w4=>∃ e0 l0 g0 e1 l1 g1 G,e=.returned (.agg #[.int .i64 k.kind,.int .i64 k.n,.int .i64 k.tk,.int .i64 k.tn,.slice e0 l0 g0,.slice e1 l1 g1])/\af K w3 w4/\Pz E TX TB en S K tv sv fv w4 j2/\ai w4 k.dat [.int .i64 k.kind,.int .i64 k.n,.int .i64 k.tk,.int .i64 k.tn,.slice e0 l0 g0,.slice e1 l1 g1] G/\aJ TB w3.heap.size (j'+1) j2 G):=fun w' l=>(yh (H g hgf.1) (hT3.pz.later l) hgf.2 q3).mono fun e w4 q=>by
            obtain⟨u0,u1,G,e1,o4,h4,ho4,f4⟩:=q;obtain⟨e0,l0,g0,e1',l1,g1,rfl,rfl⟩:=iU ho4;exact⟨e0,l0,g0,e1',l1,g1,G,e1,(af.of_later l).trans o4,h4,ho4,f4.mono l.size (Nat.le_refl _) (Nat.le_refl _)⟩
          have ht2:(PR.andThen (aG E [93] j2) fun _ i=>fP E g (.mk 8 0 0 0 [] [x',k]) i)=r:=by rw[<-ht,q3];rfl
          have HF:Hid (∀ w4 W e0 l0 g0 e1 l1 g1 G g',af K w3 w4->ai w4 k.dat [.int .i64 k.kind,.int .i64 k.n,.int .i64 k.tk,.int .i64 k.tn,.slice e0 l0 g0,.slice e1 l1 g1] G->aJ TB w3.heap.size (j'+1) j2 G->j2<=E.l.length->ay [K,B] w4 W->Bxx W B [.int .i64 8,.int .i64 0,.int .i64 0,.int .i64 0,.slice none 0 0,.slice (some ⟨g',0,none⟩) 2 2]->Bxx W K [tv,.int .i64 (j2:Int),.int .i64 en,sv,fv]->Bxx W g' ([.int .i64 x'.kind,.int .i64 x'.n,.int .i64 x'.tk,.int .i64 x'.tn,.slice b0 m0 d0,.slice b1 m1 d1]++[.int .i64 k.kind,.int .i64 k.n,.int .i64 k.tk,.int .i64 k.tn,.slice e0 l0 g0,.slice e1 l1 g1])->w4.heap.size<=g'->TlP E TX TB en S K tv sv fv w i B W j2 (.mk 8 0 0 0 [] [x',k])):=fun w4 W e0 l0 g0 e1 l1 g1 G g' o4 hk fk hl kW bB bK hg hM=>TlP.index h hT3 hb ho fp hij hn o4 hk fk (Nat.le_refl _) (by omega) hl kW bB bK hg hM;clear hb ho fp hn hT3 ht q3;go_region_with (go_at_call 105;refine (HC.out _ ?hl).mono ?_;(case hl=>(first|exact Later.drew _|exact (Later.drew _).trans (ae _ _)|exact (ae _ _).trans (Later.drew _)));rintro e w4 ⟨e0,l0,g0,e1,l1,g1,G,rfl,o4,h4,ho4,fq4⟩;obtain⟨⟨⟨x0,f0⟩,⟨x1,f1⟩,⟨x2,f2⟩,⟨x3,f3⟩,⟨x4,f4⟩,⟨x5,f5⟩⟩,xl⟩:=(HB.out w4 o4).six)
          all_goals
            obtain⟨W0,hW0,oW,bW,sW⟩:=UB (HB.out w4 o4) (.int .i64 8) (.int .i64 0) (.int .i64 0) (.int .i64 0) (.slice none 0 0) (.slice (some ⟨w4.heap.size,0,none⟩) 2 2);obtain⟨W1,hW1⟩:=hidx (W0.alloc (.cells #[.int .i64 x'.kind,.int .i64 x'.n,.int .i64 x'.tk,.int .i64 x'.tn,.slice b0 m0 d0,.slice b1 m1 d1,.int .i64 k.kind,.int .i64 k.n,.int .i64 k.tk,.int .i64 k.tn,.slice e0 l0 g0,.slice e1 l1 g1] 148))
            have HRel:TlP E TX TB en S K tv sv fv w i B W1 j2 (.mk 8 0 0 0 [] [x',k]):=by
              rw[hW1.out];exact HF.out w4 (W0.alloc (.cells #[.int .i64 x'.kind,.int .i64 x'.n,.int .i64 x'.tk,.int .i64 x'.tn,.slice b0 m0 d0,.slice b1 m1 d1,.int .i64 k.kind,.int .i64 k.n,.int .i64 k.tk,.int .i64 k.tn,.slice e0 l0 g0,.slice e1 l1 g1] 148)) e0 l0 g0 e1 l1 g1 G w4.heap.size o4 ho4 fq4 h4.ps.le ((ay.ofK oW (by simp)).alloc _) (bW.alloc _) ((h4.ps.box.only oW (by omega)).alloc _) (by have hh:=Bxx.new W0 #[.int .i64 x'.kind,.int .i64 x'.n,.int .i64 x'.tk,.int .i64 x'.tn,.slice b0 m0 d0,.slice b1 m1 d1,.int .i64 k.kind,.int .i64 k.n,.int .i64 k.tk,.int .i64 k.tn,.slice e0 l0 g0,.slice e1 l1 g1] 148;rw[sW]at hh;exact hh) (Nat.le_refl _)
            clear HF HC HB ho4 fq4 bW oW sW;go_wp2_with fail
            rw[<-hW0.out,<- hW1.out];clear hW0 hW1 h4 o4 x0 f0 x1 f1 x2 f2 x3 f3 x4 f4 x5 f5 xl;by_cases q4:E.txt j2=[93]
            · refine (df HRel.pz.ps _ _ Eb (by decide) q4).mono ?_
              rintro e w5 ⟨rfl,o5,p5⟩;have HRel2:=HRel.go h o5 p5 (Nat.le_succ _)
              have HT2:Hid (fP E g (.mk 8 0 0 0 [] [x',k]) (j2+1)=r/\g<=f+2/\4*(E.l.length - (j2+1))+2<=g):=⟨by rw[<-ht2];unfold aG;rw[if_pos q4];rfl,hgf.1,by omega⟩
              have hl5:=p5.le;go_wp2_with fail
              go_roundw
              (case rel=>exact⟨g,j2+1,_,HRel2,HT2⟩)
              (case measure=>rw[HRel2.pz.ps.nxt,HJ.out];omega)
            · refine (dN HRel.pz.ps _ _ Eb (by decide) q4).mono ?_
              rintro e w5 ⟨rfl,o5⟩;have HZ:=HNo.out _ w5 (by rw[<-ht2];unfold aG;rw[if_neg q4];rfl) (HRel.only.trans o5);go_wp2_with fail
              exact⟨rfl,HZ⟩
      refine (bT hT2.pz.ps _ _ Am (by decide) q2).mono ?_;rintro e w3 ⟨rfl,o3,p3⟩;have hT3:=hT2.go h o3 p3 (Nat.le_refl _);obtain⟨b0,m0,d0,b1,m1,d1,W,hb,hW,hXW,HZ⟩:=hT3.done h (r:=r) (HT.out.1.symm.trans (LM q1 q2));obtain⟨⟨⟨z0,y0⟩,⟨z1,y1⟩,⟨z2,y2⟩,⟨z3,y3⟩,⟨z4,y4⟩,⟨z5,y5⟩⟩,zl⟩:=hb.six;obtain⟨⟨⟨x0,f0⟩,⟨x1,f1⟩,⟨x2,f2⟩,⟨x3,f3⟩,⟨x4,f4⟩,⟨x5,f5⟩⟩,xl⟩:=hT3.res.six;obtain⟨⟨⟨e0,_⟩,⟨e1,_⟩,⟨e2,_⟩,⟨e3,_⟩,⟨e4,_⟩,⟨e5,_⟩⟩,_⟩:=hXW.six;clear HNo H HT hb hXW hT3 hT2;go_wp2_with fail
      rw[<-hW.out];exact bodyPost_ret (v:=.agg #[.int .i64 x'.kind,.int .i64 x'.n,.int .i64 x'.tk,.int .i64 x'.tn,.slice b0 m0 d0,.slice b1 m1 d1]) (by simp[results,Tryz.results105,go_sem,e0,e1,e2,e3,e4,e5]) rfl HZ.out
theorem Kv:∀ f,ExC f:=by
  intro f
  induction f using Nat.strongRecOn with
  | _ f IH =>
    match f with
    | 0=>exact fun E TX TB en S K tv sv fv w i _ hf=>by omega
    | 1=>exact fun E TX TB en S K tv sv fv w i _ hf=>by omega
    | 2=>exact fun E TX TB en S K tv sv fv w i _ hf=>by omega
    | f+3=>exact IL fun g q=>IH g (by omega)
end Go.Proofs.YtgaddpkkjebekaaGreatDoor
