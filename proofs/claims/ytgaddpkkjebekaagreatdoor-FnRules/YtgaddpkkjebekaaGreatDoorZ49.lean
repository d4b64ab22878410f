import Derived.Test.YtgaddpkkjebekaaGreatDoorZ48
import Derived.Test.YtgaddpkkjebekaaGreatDoorZ38
import Derived.Test.YtgaddpkkjebekaaGreatDoorZ24
import Derived.Test.YtgaddpkkjebekaaGreatDoorZ33
set_option maxHeartbeats 100000000
set_option maxRecDepth 100000
namespace Go.Proofs.YtgaddpkkjebekaaGreatDoor
open Go.RowKit Go.Maps
def uH (l:List PTk) (ss:List Sc) (x:PR (List Fu)):Except Nat So:=match x with
 | .error e=>.error e
 | .ok (fs,j)=>if j<l.length then .error j else .ok (.mk ss fs)
def Dy (l:List PTk) (f:Nat) (x:PR (List Sc)):Except Nat So:=match x with
 | .error e=>.error e
 | .ok (ss,i)=>uH l ss (fK (aC l (ss.map Sc.name)) f [] i)
theorem RS (l:List PTk) (f:Nat):uo (fun t=>aY t true) aQ l f=Dy l f (dS (fun t=>aY t true) l aQ f [] 0):=by
 unfold uo Dy
 cases dS (fun t=>aY t true) l aQ f [] 0 with
 | error e=>rfl
 | ok y =>
  obtain⟨ss,i⟩:=y;show (match fK (aC l (ss.map Sc.name)) f [] i with|.error e=>_|.ok (fs,j)=>_)=uH l ss (fK (aC l (ss.map Sc.name)) f [] i)
  cases fK (aC l (ss.map Sc.name)) f [] i with
  | error e=>rfl
  | ok y=>rfl
theorem DX {l:List PTk}{g i:Nat}{S:List Sc}(q:(aC l []).txt i≠[116,121,112,101]):dS (fun t=>aY t true) l aQ (g+1) S i=.ok (S,i):=by
 rw[dS];exact if_neg q
theorem E8 {l:List PTk}{g i:Nat}{S:List Sc}(q:(aC l []).txt i=[116,121,112,101]):dS (fun t=>aY t true) l aQ (g+1) S i=PR.andThen (wJ l g S (i+1)) fun x k=>dS (fun t=>aY t true) l aQ g (S++[x]) k:=by
 rw[dS];refine (if_pos q).trans ?_;unfold wJ Aa;have e:(S++[Sc.mk ((aC l []).txt (i+1)) []]).map Sc.name=S.map Sc.name++[(aC l []).txt (i+1)]:=by rw[List.map_append];rfl
 rw[e];by_cases q1:aY ((aC l []).txt (i+1)) true=true/\(aC l []).txt (i+1)∉S.map Sc.name
 ·refine (if_pos q1).trans ?_;rw[if_pos (show aY ((aC l (S.map Sc.name)).txt (i+1)) true=true/\(aC l (S.map Sc.name)).txt (i+1)∉(aC l (S.map Sc.name)).ns from q1)];show PR.andThen (aG (aC l []) [115,116,114,117,99,116] (i+2)) _=PR.andThen (PR.andThen (aG (aC l []) [115,116,114,117,99,116] (i+1+1)) _) _
  cases aG (aC l []) [115,116,114,117,99,116] (i+1+1) with
  | error k=>rfl
  | ok y =>
   obtain⟨_,k⟩:=y;show PR.andThen (aG (aC l []) [123] k) _=PR.andThen (PR.andThen (aG (aC l []) [123] k) _) _
   cases aG (aC l []) [123] k with
   | error k=>rfl
   | ok y =>
    obtain⟨_,k⟩:=y;show PR.andThen (dK (aC l (S.map Sc.name++[(aC l []).txt (i+1)])) g [] k) _=PR.andThen (PR.andThen (dK (aC l (S.map Sc.name++[(aC l []).txt (i+1)])) g [] k) _) _
    cases dK (aC l (S.map Sc.name++[(aC l []).txt (i+1)])) g [] k with
    | error k=>rfl
    | ok y=>rfl
 ·refine (if_neg q1).trans ?_;rw[if_neg (show ¬ (aY ((aC l (S.map Sc.name)).txt (i+1)) true=true/\(aC l (S.map Sc.name)).txt (i+1)∉(aC l (S.map Sc.name)).ns) from q1)];rfl
theorem Ou {l:List PTk}{g i j:Nat}{S:List Sc}{x:Sc}(hS:∀ x∈S.map Sc.name,aY x true=true) (h:wJ l g S i=.ok (x,j)):i<j/\j<=l.length:=by
 unfold wJ at h;obtain⟨a,i1,q1,h1⟩:=PR.got h;obtain⟨_,i2,q2,h2⟩:=PR.got h1;obtain⟨_,i3,q3,h3⟩:=PR.got h2;obtain⟨ps,i4,q4,h4⟩:=PR.got h3;clear h h1 h2 h3;have a2:=bV (by simp) q2;have a3:=bV (by simp) q3;unfold Aa at q1;split at q1
 ·next q =>
  cases q1
  have a4:=Fe (Gw (l:=l) (ns:=(S++[Sc.mk ((aC l []).txt i) []]).map Sc.name) (fun y hy=>by
   rw[List.map_append,List.mem_append]at hy;rcases hy with hy|hy
   ·exact hS y hy
   ·simp[Sc.name]at hy;rw[hy]
    exact q.1)).fit _ _ _ _ _ q4
  cases h4
  exact⟨by omega,a4.2⟩
 ·cases q1
theorem Ig {E:ak}{g i:Nat}{fs:List Fu}(q:E.txt i≠[102,117,110,99]):fK E (g+1) fs i=.ok (fs,i):=by rw[fK,if_neg q]
theorem Me {E:ak}{g i:Nat}{fs:List Fu}(q:E.txt i=[102,117,110,99]):fK E (g+1) fs i=PR.andThen (lU E g (i+1)) fun x k=>fK E g (fs++[x]) k:=by rw[fK,if_pos q]
theorem Fu.jU (l:List Fu):Fu.ah l=l.map Fu.dat:=by induction l with|nil=>rw[Fu.ah];rfl|cons x r ih=>rw[Fu.ah,ih];rfl
theorem Fu.gq (ks:List Fu) (x:Fu):Fu.ah (ks++[x])=Fu.ah ks++[x.dat]:=by rw[Fu.jU,Fu.jU,List.map_append];rfl
theorem Np {w:World}{x:Fu}{u0 u1 u2:Value}{F:List Nat}(h:ai w x.dat [u0,u1,.int .i64 x.rk,.int .i64 x.rn,u2] F):∃ a0 n0 c0 a1 n1 c1 a2 n2 c2,u0=.slice a0 n0 c0/\u1=.slice a1 n1 c1/\u2=.slice a2 n2 c2:=by
 obtain⟨name,params,rk,rn,body⟩:=x;rw[Fu.dat,ai]at h;simp only[aA,ai]at h;obtain⟨c1,c2,F1,F2,e,-,⟨a0,p0,rfl,-⟩,d1,d2,G1,G2,e2,-,⟨a1,p1,rfl,-⟩,d3,d4,G3,G4,e3,-,⟨rfl,-⟩,d5,d6,G5,G6,e4,-,⟨rfl,-⟩,d7,d8,G7,G8,e5,-,⟨a2,p2,rfl,-⟩,rfl,-⟩:=h;subst e5 e4 e3 e2;simp only[List.cons_append,List.nil_append,List.cons.injEq]at e;exact⟨_,_,_,_,_,_,_,_,_,e.1,e.2.1,e.2.2.2.2.1⟩
theorem PA.goF {l:List PTk}{TX:Nat->Value}{TB:Nat->List Nat}{en:Int}{K:Nat}{tv:Value}{w0 w w':World}{i j:Nat}{S:List Sc}{sv fv fv':Value}{xs:List Value}{F:List Nat}(b:Pb l TX TB K tv w0) (h:PA l TX TB en K tv w0 w i S sv fv xs F) (o:af K w w') (bK:Bxx w' K [tv,.int .i64 (j:Int),.int .i64 en,sv,fv']) (hl:j<=l.length) (hij:i<=j):PA l TX TB en K tv w0 w' j S sv fv' xs F :=
 ⟨bK,h.only.trans o,hl,(h.ss.only o b.kl b.kt).mono (Nat.le_refl _) hij,h.gr⟩
theorem Tt:Enters Tryz.prog 18:=enters_of Tryz.func18 (by kernel_rfl) (by kernel_rfl)
structure PtP (l:List PTk) (TB:Nat->List Nat) (en:Int) (K:Nat) (tv:Value) (w0:World) (r:Except Nat So) (e:Ending) (w':World):Prop where
 only:af K w0 w'
 well:∀ x,r=.ok x->e=.returned (.tuple #[])/\∃ (j:Nat) (sv fv:Value) (F G:List Nat),Bxx w' K [tv,.int .i64 (j:Int),.int .i64 en,sv,fv]/\ai w' (.list 2 (Sc.ah x.structs)) [sv] F/\ai w' (.list 5 (Fu.ah x.funcs)) [fv] G/\aJ TB w0.heap.size 0 j (F++G)
 bad:∀ k,r=.error k->e=.panicked [{ v:=.iface 36 (.int .i64 ((aC l []).pos en k)),recovered:=false }]
theorem FW {f:Nat}(l:List PTk) (TX:Nat->Value) (TB:Nat->List Nat) (en:Int) (K:Nat) (tv:Value) (w0:World) (b:Pb l TX TB K tv w0) (hbK:Bxx w0 K [tv,.int .i64 0,.int .i64 en,.slice none 0 0,.slice none 0 0]) (hf:4*l.length+7<=f):Calls Tryz.prog 9 #[.pointer (some ⟨K,0,none⟩)] w0 (PtP l TB en K tv w0 (uo (fun t=>aY t true) aQ l f)):=by
 have HNo:Hid (∀ k w',uo (fun t=>aY t true) aQ l f=.error k->af K w0 w'->PtP l TB en K tv w0 (uo (fun t=>aY t true) aQ l f) (.panicked [{ v:=.iface 36 (.int .i64 ((aC l []).pos en k)),recovered:=false }]) w'):=fun k w' e o=>⟨o,fun x q=>(by rw[e]at q;cases q),fun k' q=>(by rw[e]at q;cases q;rfl)⟩
 have HY:Hid (∀ x w' j sv fv F G,uo (fun t=>aY t true) aQ l f=.ok x->af K w0 w'->Bxx w' K [tv,.int .i64 ((j:Nat):Int),.int .i64 en,sv,fv]->ai w' (.list 2 (Sc.ah x.structs)) [sv] F->ai w' (.list 5 (Fu.ah x.funcs)) [fv] G->aJ TB w0.heap.size 0 j (F++G)->PtP l TB en K tv w0 (uo (fun t=>aY t true) aQ l f) (.returned (.tuple #[])) w'):=fun x w' j sv fv F G e o h1 h2 h3 h4=>⟨o,fun x' q=>(by rw[e]at q;cases q;exact⟨rfl,j,sv,fv,F,G,h1,h2,h3,h4⟩),fun k q=>(by rw[e]at q;cases q)⟩
 generalize hr:uo (fun t=>aY t true) aQ l f=r at *
 rw[RS]at hr
 generalize PtP l TB en K tv w0 r=Q at *
 obtain⟨i0,hi,hz0,hz1,hz2⟩:=info_parts Tryz.PG;have hkl:=b.kl;have hfew:l.length<=6000:=(b.tks w0 (af.refl _ _)).few
 have HA:Hid (Dy l f (dS (fun t=>aY t true) l aQ f [] 0)=r/\f<=f/\4*(l.length - 0)+7<=f/\([]:List Sc).length<=0):=⟨hr,Nat.le_refl _,by omega,Nat.le_refl _⟩
 have hA:PA l TX TB en K tv w0 w0 0 [] (.slice none 0 0) (.slice none 0 0) [] []:=⟨hbK,af.refl _ _,Nat.zero_le _,by rw[Sc.ah];exact Bp.nil _ _ _ _ _ _ _,fun x q=>by cases q⟩
 clear hr hbK;go_enter Tryz.func9,Tryz.ntmps9;go_wp2_with fail
 go_loopw [] (fun wr=>∃ (g i:Nat) (S:List Sc) (sv:Value) (xs:List Value) (F:List Nat),PA l TX TB en K tv w0 wr i S sv (.slice none 0 0) xs F/\Hid (Dy l f (dS (fun t=>aY t true) l aQ g S i)=r/\g<=f/\4*(l.length - i)+7<=g/\S.length<=i)) (fun wr=>l.length - nxt K wr)
 case atStart=>exact⟨f,0,[],_,_,_,hA,HA⟩
 case round =>
  clear HA hA;obtain⟨g,i,S,sv,xs,F,hR,HR⟩:=hrel
  obtain⟨g,rfl⟩:∃ g',g=g'+1:=⟨g - 1,by have:=HR.out;omega⟩
  have hz:=hR.pz b;have hle:=hR.le;have HM:Hid (nxt K wr=i):=hz.ps.nxt;go_wp2_with fail
  by_cases q1:(aC l []).txt i=[116,121,112,101]
  ·have hil:i<l.length:=ak.aX (E:=aC l []) (i:=i) (by rw[q1];decide);refine (bG hz.ps _ _ Fz (by decide) q1).mono ?_;rintro e w1 ⟨rfl,o1,p1⟩;have hR1:=hR.go b o1 p1 (Nat.le_succ _);have hS:=MQ (f:=g) l TX TB en K tv w0 w1 (i+1) S sv (.slice none 0 0) xs F b hR1 (by have:=HR.out;omega) (by have:=HR.out;omega);have hin:Dy l f (PR.andThen (wJ l g S (i+1)) fun x k=>dS (fun t=>aY t true) l aQ g (S++[x]) k)=r:=by rw[<-HR.out.1,E8 q1]
   have hgf:=HR.out.2;clear HR;go_wp2_with fail
   cases q2:wJ l g S (i+1) with
   | error k =>
    refine hS.mono ?_;rintro e w2 ⟨o2,-,hbad⟩;obtain rfl:=hbad k q2;have HZ:=HNo.out _ w2 (by rw[<-hin,q2];rfl) o2;go_wp2_with fail
    exact⟨rfl,HZ⟩
   | ok y =>
    obtain⟨x,j⟩:=y;refine hS.mono ?_;rintro e w2 ⟨o2,hwell,-⟩;obtain⟨rfl,sv2,xs2,F2,hR2⟩:=hwell x j q2;have hadv:=Ou hR.gr q2
    have H2:Hid (Dy l f (dS (fun t=>aY t true) l aQ g (S++[x]) j)=r/\g<=f/\4*(l.length - j)+7<=g/\(S++[x]).length<=j):=⟨by rw[<-hin,q2];rfl,by omega,by omega,by simp;omega⟩
    clear hin q2 hS;go_wp2_with fail
    go_roundw
    case rel=>exact⟨g,j,S++[x],sv2,xs2,F2,hR2,H2⟩
    case measure =>
     rw[(hR2.pz b).ps.nxt,HM.out];omega
  ·refine (bT hz.ps _ _ Fz (by decide) q1).mono ?_;rintro e w1 ⟨rfl,o1,p1⟩;have hA1:=hR.go b o1 p1 (Nat.le_refl _);have HF:Hid (uH l S (fK (aC l (S.map Sc.name)) f [] i)=r):=by have:=HR.out.1;rw[DX q1]at this;exact this
   have HB:Hid (uH l S (fK (aC l (S.map Sc.name)) f [] i)=r/\f<=f/\4*(l.length - i)+7<=f/\([]:List Fu).length<=i/\i<=i):=⟨HF.out,Nat.le_refl _,by have:=HR.out;omega,Nat.zero_le _,Nat.le_refl _⟩
   have hSi:S.length<=i:=HR.out.2.2.2;clear HR hR hz o1 p1 HF HM;have hK1:=hA1.box.lt;have hs1:=hA1.only.size;go_wp2_with fail
   go_loopw [] (fun wi=>∃ (g j:Nat) (fs:List Fu) (fv:Value) (ys:List Value) (D:List Nat),af K w1 wi/\Bxx wi K [tv,.int .i64 (j:Int),.int .i64 en,sv,fv]/\j<=l.length/\Bp TB w1.heap.size i j wi 55 5 fv (Fu.ah fs) ys D/\Hid (uH l S (fK (aC l (S.map Sc.name)) g fs j)=r/\g<=f/\4*(l.length - j)+7<=g/\fs.length<=j/\i<=j)) (fun wi=>l.length - nxt K wi)
   case atStart=>exact⟨f,i,[],_,[],[],af.refl _ _,hA1.box,hle,by rw[Fu.ah];exact Bp.nil _ _ _ _ _ _ _,HB⟩
   case round =>
    clear HB;obtain⟨g,j,fs,fv,ys,D,oR,bR,hjl,hB,HR⟩:=hrel
    obtain⟨g,rfl⟩:∃ g',g=g'+1:=⟨g - 1,by have:=HR.out;omega⟩
    have hij:=HR.out.2.2.2.2;have hA2:=hA1.goF b oR bR hjl hij;have hz:=hA2.pz b;have HM:Hid (nxt K wr=j):=hz.ps.nxt;go_wp2_with fail
    by_cases q2:(aC l []).txt j=[102,117,110,99]
    ·have hil:j<l.length:=ak.aX (E:=aC l []) (i:=j) (by rw[q2];decide);refine (bG hz.ps _ _ FD (by decide) q2).mono ?_;rintro e w4 ⟨rfl,o4,p4⟩;have h4:=hz.go o4 p4;have hrow:=hB.row;rw[Fu.az]at hrow;obtain⟨ra,rc,rfl⟩:=aP hrow;have hlt:=hrow.lt;have hin:uH l S (PR.andThen (lU (aC l (S.map Sc.name)) g (j+1)) fun x k=>fK (aC l (S.map Sc.name)) g (fs++[x]) k)=r:=by rw[<-HR.out.1,Me (E:=(aC l (S.map Sc.name))) q2]
     have hgf:=HR.out.2;have k4:=(p4.box.cell 4 _ rfl).1;have kf4:=(p4.box.cell 4 _ rfl).2;have kl4:=p4.box.lt;have HRow:Hid (∀ w',af K w4 w'->w'.ownsRow w1.heap.size 55 5 (.slice ra fs.length rc) fs.length ys):=fun w' o=>cu hrow (iq (o4.trans o) hK1);have hs4:=(oR.trans o4).size;have hFn:=fun w' (lt:Later w4 w')=>IK (f:=g) (aC l (S.map Sc.name)) TX TB en S K tv sv (.slice ra fs.length rc) w' (j+1) (h4.later lt) (by show 4*(l.length - (j+1))+3<=g;omega);go_wp2_with fail
     cases q3:lU (aC l (S.map Sc.name)) g (j+1) with
     | error k =>
      have HC:Hid (∀ w',Later w4 w'->Calls Tryz.prog 18 #[.pointer (some ⟨K,0,none⟩)] w' fun e w6=>e=.panicked [{ v:=.iface 36 (.int .i64 ((aC l []).pos en k)),recovered:=false }]/\af K w4 w6):=fun w' lt=>(kT (hFn w' lt) q3).mono fun e w6 q=>⟨q.1,(af.of_later lt).trans q.2⟩
      have HP:Hid (∀ w',af K w4 w'->Q (.panicked [{ v:=.iface 36 (.int .i64 ((aC l []).pos en k)),recovered:=false }]) w'):=fun w' o=>HNo.out _ w' (by rw[<-hin,q3];rfl) ((hA2.only.trans o4).trans o);clear HNo HY hFn hz q3 HRow HR hin h4 p4 hB hA2
      generalize fs.length=n at *
      refine wp_region_any (by kernel_rfl) ?_;(try (change wpAny _ _ _ _ _ _ _ (World.drew _)));refine wpAny_take (i:=0) (v:=.pointer (some ⟨K,0,none⟩)) rfl (by kernel_rfl) (by kernel_rfl) (by kernel_rfl) (fun _ _ _ h=>h) (Or.inl ⟨by rfl,?_⟩) ?_
      ·intro w9;first|(go_simp;done)|(go_simp;with_reducible rfl)
      refine wpAny_take (i:=1) (v:=.pointer (some ⟨K,0,none⟩)) rfl (by kernel_rfl) (by kernel_rfl) (by kernel_rfl) (fun _ _ _ h=>h) (Or.inl ⟨by rfl,?_⟩) ?_
      ·intro w9;first|(go_simp;done)|(go_simp;with_reducible rfl)
      refine wpAny_take (i:=6) (v:=.pointer (some ⟨K,0,none⟩)) rfl (by kernel_rfl) (by kernel_rfl) (by kernel_rfl) (fun _ _ _ h=>h) (Or.inl ⟨by rfl,?_⟩) ?_
      ·intro w9;first|(go_simp;done)|(go_simp;with_reducible rfl)
      refine wpAny_take (i:=2) (v:=.pointer (some ⟨K,0,none⟩)) rfl (by kernel_rfl) (by kernel_rfl) (by kernel_rfl) (fun _ _ _ h=>h) (Or.inl ⟨by rfl,?_⟩) ?_
      ·intro w9;first|(go_simp;done)|(go_simp;with_reducible rfl)
      refine wpAny_take (i:=3) (v:=.pointer (some ⟨K,3,none⟩)) rfl (by kernel_rfl) (by kernel_rfl) (by kernel_rfl) (fun _ _ _ h=>h) (Or.inl ⟨by rfl,?_⟩) ?_
      ·intro w9;first|(go_simp;done)|(go_simp;with_reducible rfl)
      refine wpAny_take (i:=4) (v:=.pointer (some ⟨K,4,none⟩)) rfl (by kernel_rfl) (by kernel_rfl) (by kernel_rfl) (fun _ _ _ h=>h) (Or.inl ⟨by rfl,?_⟩) ?_
      ·intro w9;first|(go_simp;done)|(go_simp;with_reducible rfl)
      refine wpAny_ready (rs:=[5,7]) (by kernel_rfl) (List.cons_ne_nil _ _) ?_;refine (AllReady.cons rfl (fun KK hKK=>?_) (AllReady.cons rfl (fun KK hKK=>?_) AllReady.nil))
      ·go_simp;refine hKK _ _ ?_;clear hKK KK;refine wpAny_ready (rs:=[7]) (by kernel_rfl) (List.cons_ne_nil _ _) ?_;refine (AllReady.cons rfl (fun KK hKK=>?_) AllReady.nil);go_simp;go_wp2_with (go_at_call 18;refine (HC.out _ ?hl).mono ?_;(case hl=>(first|exact Later.drew _|exact (Later.drew _).trans (ae _ _)|exact (ae _ _).trans (Later.drew _)));rintro e w6 ⟨rfl,o6⟩)
       exact⟨rfl,HP.out w6 o6⟩
      ·go_simp;go_wp2_with (go_at_call 18;refine (HC.out _ ?hl).mono ?_;(case hl=>(first|exact Later.drew _|exact (Later.drew _).trans (ae _ _)|exact (ae _ _).trans (Later.drew _)));rintro e w6 ⟨rfl,o6⟩)
       exact⟨rfl,HP.out w6 o6⟩
     | ok y =>
      obtain⟨x,j2⟩:=y;have hadv:j+1<j2/\j2<=l.length:=MB h4.fit q3
      have HC:Hid (∀ w',Later w4 w'->Calls Tryz.prog 18 #[.pointer (some ⟨K,0,none⟩)] w' fun e w6=>∃ v,e=.returned v/\(∃ a0 n0 c0 a1 n1 c1 a2 n2 c2 H,v=.agg #[.slice a0 n0 c0,.slice a1 n1 c1,.int .i64 x.rk,.int .i64 x.rn,.slice a2 n2 c2]/\af K w4 w6/\Pz (aC l (S.map Sc.name)) TX TB en S K tv sv (.slice ra fs.length rc) w6 j2/\ai w6 x.dat [.slice a0 n0 c0,.slice a1 n1 c1,.int .i64 x.rk,.int .i64 x.rn,.slice a2 n2 c2] H/\aJ TB w4.heap.size (j+1) j2 H)):=fun w' lt=>(hFn w' lt).mono fun e w6 q=>by
       obtain⟨v,e1,p,u0,u1,u2,H,e2,o,fp⟩:=q.well x j2 q3;obtain⟨a0,n0,c0,a1,n1,c1,a2,n2,c2,rfl,rfl,rfl⟩:=Np o;exact⟨v,e1,a0,n0,c0,a1,n1,c1,a2,n2,c2,H,e2,(af.of_later lt).trans q.only,(h4.later lt).go q.only p,o,fp.mono lt.size (Nat.le_refl _) (Nat.le_refl _)⟩
      have HK:Hid (∀ w6 wz w',Pz (aC l (S.map Sc.name)) TX TB en S K tv sv (.slice ra fs.length rc) w6 j2->Later w6 wz->wz.grownBy w' (Value.slice ra fs.length rc).ownBlock->Bxx w' K [tv,.int .i64 (j2:Int),.int .i64 en,sv,.slice ra fs.length rc]):=fun w6 wz w' p6 lz hg=>by
       have hb:=p6.ps.box.later lz;exact hb.kept hg.size (hg.block K hb.lt fun e=>by have:=(hlt K e.symm).1;omega)
      have HW:Hid (∀ w6 wz w' v' a0 n0 c0 a1 n1 c1 a2 n2 c2 H,af K w4 w6->Pz (aC l (S.map Sc.name)) TX TB en S K tv sv (.slice ra fs.length rc) w6 j2->ai w6 x.dat [.slice a0 n0 c0,.slice a1 n1 c1,.int .i64 x.rk,.int .i64 x.rn,.slice a2 n2 c2] H->aJ TB w4.heap.size (j+1) j2 H->Later w6 wz->wz.grownBy w' (Value.slice ra fs.length rc).ownBlock->w'.ownsRow w1.heap.size 55 5 v' (fs.length+1) (ys++[.slice a0 n0 c0,.slice a1 n1 c1,.int .i64 x.rk,.int .i64 x.rn,.slice a2 n2 c2])->(v'.ownBlock=(Value.slice ra fs.length rc).ownBlock\/v'.ownBlock=some wz.heap.size)->af K w1 (w'.setCell ⟨K,4,none⟩ v')/\Bxx (w'.setCell ⟨K,4,none⟩ v') K [tv,.int .i64 (j2:Int),.int .i64 en,sv,v']/\Bp TB w1.heap.size i j2 (w'.setCell ⟨K,4,none⟩ v') 55 5 v' (Fu.ah (fs++[x])) (ys++[.slice a0 n0 c0,.slice a1 n1 c1,.int .i64 x.rk,.int .i64 x.rn,.slice a2 n2 c2]) (D++H)):=fun w6 wz w' v' a0 n0 c0 a1 n1 c1 a2 n2 c2 H o6 p6 ho6 fp6 lz hg ho hloc=>by
       have oo:=o4.trans o6;refine⟨(kK oR oo lz hg hlt rfl).set 4 _,(HK.out w6 wz w' p6 lz hg).set 4 _ (by simp),?_⟩;rw[Fu.gq];exact (hB.push (b.tb.mono hs1) rfl oo hK1 b.kt oR.size ho6 (fp6.mono o4.size (Nat.le_refl _) (Nat.le_refl _)) lz (by omega) (by omega) (by omega) (by rw[Fu.az];exact ho) hg hloc).only ((af.refl K w').set 4 _) hK1 b.kt
      have H2:Hid (uH l S (fK (aC l (S.map Sc.name)) g (fs++[x]) j2)=r/\g<=f/\4*(l.length - j2)+7<=g/\(fs++[x]).length<=j2/\i<=j2):=⟨by rw[<-hin,q3];rfl,by omega,by omega,by simp;omega,by omega⟩
      have hn6:fs.length<=6000:=by omega
      clear HNo HY hFn hz q3 HR hin h4 p4 hB hA2 hrow
      generalize fs.length=n at *
      go_region_law (first
       | (refine eG rfl 18 Tt _ _ rfl [.pointer (some ⟨K,0,none⟩)] rfl (fun v w6=>∃ a0 n0 c0 a1 n1 c1 a2 n2 c2 H,v=.agg #[.slice a0 n0 c0,.slice a1 n1 c1,.int .i64 x.rk,.int .i64 x.rn,.slice a2 n2 c2]/\af K w4 w6/\Pz (aC l (S.map Sc.name)) TX TB en S K tv sv (.slice ra n rc) w6 j2/\ai w6 x.dat [.slice a0 n0 c0,.slice a1 n1 c1,.int .i64 x.rk,.int .i64 x.rn,.slice a2 n2 c2] H/\aJ TB w4.heap.size (j+1) j2 H) (HC.out _ (Later.drew _)) ?_;intro u6 w6 hc6;obtain⟨a0,n0,c0,a1,n1,c1,a2,n2,c2,H,rfl,o6,p6,ho6,fp6⟩:=hc6;obtain⟨k64,kf64⟩:=p6.ps.box.cell 4 _ rfl;have kl6:=p6.ps.box.lt)
       | (refine gQ rfl _ _ 26 rfl w1.heap.size 55 i0 (.agg #[.slice none 0 0,.slice none 0 0,.int .i64 0,.int .i64 0,.slice none 0 0]) 5 88 Tryz.underlying26 hi hz0 hz1 hz2 rfl (by decide) _ _ _ rfl ((HRow.out _ o6).alloc _) _ 1 1 [.slice a0 n0 c0,.slice a1 n1 c1,.int .i64 x.rk,.int .i64 x.rn,.slice a2 n2 c2] rfl rfl (fA _ _ _ rfl) (by simp[Value.oneCell']) (by unfold maxLen;omega) (by omega) (Nat.le_trans hs4 (Nat.le_trans o6.size (ae _ _).size)) ?_;intro v7 w7 o7 g7 h7;have hk7:=HK.out _ _ _ p6 (ae _ _) g7;obtain⟨k74,kf74⟩:=hk7.cell 4 _ rfl;have kl7:=hk7.lt;have HPW:=HW.out _ _ _ _ _ _ _ _ _ _ _ _ _ _ o6 p6 ho6 fp6 (ae _ _) g7 o7 h7;obtain⟨a7,p7,hv7⟩:=aP o7;rw[hv7]at HPW ⊢))
      all_goals
       obtain⟨P1,P2,P3⟩:=HPW;have P4:=P2.cell 1 _ rfl;go_wp2_with fail
       go_roundw
       case rel=>exact⟨g,j2,fs++[x],_,_,_,P1,P2,hadv.2,P3,H2⟩
       case measure =>
        unfold nxt;rw[P4.1];have:=HM.out;unfold nxt at this;rw[this];simp;omega
    ·refine (bT hz.ps _ _ FD (by decide) q2).mono ?_;rintro e w4 ⟨rfl,o4,p4⟩;have hA4:=hA2.goF b o4 p4.box p4.le (Nat.le_refl _);have hz4:=hA4.pz b;have hin:uH l S (.ok (fs,j))=r:=by rw[<-HR.out.1,Ig (E:=(aC l (S.map Sc.name))) q2]
     have hfs:fs.length<=j:=HR.out.2.2.2.1;have hSl:=hA4.ss;obtain⟨a,cap,htv,_⟩:=(hz4.ps.tks w4 (af.refl _ _)).row;have htv:tv=.slice a l.length cap:=htv;have k1:=(hA4.box.cell 1 _ rfl).1;have k0:=(hA4.box.cell 0 _ rfl).1;have kl4:=hA4.box.lt;obtain⟨F1,hF1,fF1⟩:=hA1.ss.done (by rw[Sc.az];omega);obtain⟨G1,hG1,fG1⟩:=(hB.only o4 hK1 b.kt).done (by rw[Fu.az];omega);have o14:=oR.trans o4;have fa:aJ TB w0.heap.size 0 j (F1++G1):=aJ.app b.tb fF1 (ai.lt _ hF1) hs1 fG1 (Nat.le_refl _) (Nat.zero_le _) hij;have hF4:=aI hF1 o14 (fF1.iy hkl b.kt);have HNo2:Hid (∀ w',j<l.length->Later w4 w'->Q (.panicked [{ v:=.iface 36 (.int .i64 ((aC l []).pos en j)),recovered:=false }]) w'):=fun w' q lt=>HNo.out j w' (by rw[<-hin];unfold uH;exact if_pos q) (hA4.only.trans (af.of_later lt));have HY2:Hid (∀ w',¬ j<l.length->Later w4 w'->Q (.returned (.tuple #[])) w'):=fun w' q lt=>HY.out (.mk S fs) w' j sv fv F1 G1 (by rw[<-hin];unfold uH;exact if_neg q) (hA4.only.trans (af.of_later lt)) (hA4.box.later lt) (fE hF4 lt) (fE hG1 lt) fa;have HPk:Hid (∀ w',Later w4 w'->Calls Tryz.prog 19 #[.pointer (some ⟨K,0,none⟩)] w' fun e w''=>e=.returned (tkV (aC l (S.map Sc.name)) TX en j)/\Later w' w''):=fun w' lt=>gm (aC l (S.map Sc.name)) TX TB en S K tv sv fv w' j (hz4.ps.later lt);subst htv;clear HR hz hA2 hF4 hG1 hF1 HNo HY hA4 hz4 hA1 hB p4;go_wp2_with fail
     by_cases hj:j<l.length
     ·have hj':(j:Int)<(l.length:Int):=by omega
      have hfd:=Hr;go_quiet (fail)
      all_goals
       go_wp2_with fail
       refine (HPk.out _ (bg (Later.refl w4) _)).mono ?_;rintro e w5 ⟨rfl,l5⟩;have HZ:=HNo2.out w5 hj ((bg (Later.refl w4) _).trans l5);unfold tkV;go_wp2_with fail
       exact⟨rfl,HZ⟩
     ·have hj':¬ (j:Int)<(l.length:Int):=by omega
      go_quiet (fail)
      all_goals
       go_wp2_with fail
       go_end0;exact HY2.out _ hj (bg (Later.refl w4) _)
def PrG {α:Type}(P:α->Prop) (x:PR α):Prop:=∀ a j,x=.ok (a,j)->P a
theorem PrG.bind {α β:Type}{P:α->Prop}{Q:β->Prop}{x:PR α}{k:α->Nat->PR β}(h:PrG P x) (hk:∀ a i,P a->PrG Q (k a i)):PrG Q (PR.andThen x k):=fun b j e=>by
 cases x with
 | error q=>cases e
 | ok y =>
  obtain⟨a,i⟩:=y;exact hk a i (h a i rfl) b j e
theorem PrG.any {α β:Type}{Q:β->Prop}{x:PR α}{k:α->Nat->PR β}(hk:∀ a i,PrG Q (k a i)):PrG Q (PR.andThen x k):=PrG.bind (P:=fun _=>True) (fun _ _ _=>trivial) fun a i _=>hk a i
theorem PrG.ok {α:Type}{P:α->Prop}{a:α}{i:Nat}(h:P a):PrG P (.ok (a,i)):=fun b j e=>by cases e;exact h
theorem PrG.error {α:Type}{P:α->Prop}{i:Nat}:PrG P (.error i):=fun b j e=>by cases e
theorem PrG.ite {α:Type}{P:α->Prop}{c:Prop} [Decidable c] {x y:PR α}(h:PrG P x) (h2:PrG P y):PrG P (if c then x else y):=by split <;> assumption
structure TQ (E:ak):Prop where
 num:∀ i,InR (E.num i)
 ns:E.ns.length<=9223372036854775807
theorem InR.zero:InR 0:=by unfold InR;decide
theorem JJ {E:ak}(h:TQ E) (i:Nat):PrG InR (kV E i):=fun n j e=>by
 unfold kV at e;split at e
 next m q =>
  cases e
  have:=(List.findIdx?_eq_some_iff_getElem.1 q).1;have:=h.ns;unfold InR;omega
 next=>cases e
theorem UL (E:ak) (i:Nat):PrG InR (pOp E i):=fun n j e=>by
 unfold pOp at e;split at e
 next m q =>
  cases e
  unfold RV at q
  repeat (split at q;(· cases q;unfold InR;decide))
  cases q
 next=>cases e
theorem Ex.good1 {k n tk tn:Int}{nm:List Int}{ks:List Ex}(h:InR n) (hk:Ex.aZ ks):(Ex.mk k n tk tn nm ks).good:=by rw[Ex.good];exact⟨h,hk⟩
theorem Ex.gy:Ex.aZ []:=by rw[Ex.aZ];trivial
theorem Ex.mM {x:Ex}{r:List Ex}(h:x.good) (hr:Ex.aZ r):Ex.aZ (x::r):=by rw[Ex.aZ];exact⟨h,hr⟩
theorem Ex.ja {x:Ex}(h:x.good):∀ {l:List Ex},Ex.aZ l->Ex.aZ (l++[x])
 | [],_=>Ex.mM h Ex.gy
 | y::r,hl=>by rw[Ex.aZ]at hl;exact Ex.mM hl.1 (Ex.ja h hl.2)
theorem RP {E:ak}(hE:TQ E):∀ f:Nat,(∀ i,PrG Ex.good (pE E f i))/\(∀ e i,e.good->PrG Ex.good (fP E f e i))/\(∀ i,PrG Ex.good (pO E f i))/\(∀ i,PrG Ex.good (iH E f i))/\(∀ i,PrG Ex.aZ (nG E f i))/\(∀ ks i,Ex.aZ ks->PrG Ex.aZ (iJ E f ks i)):=by
 intro f
 induction f with
 | zero=>exact⟨fun i=>by rw[pE];exact PrG.error,fun e i _=>by rw[fP];exact PrG.error,fun i=>by rw[pO];exact PrG.error,fun i=>by rw[iH];exact PrG.error,fun i=>by rw[nG];exact PrG.error,fun ks i _=>by rw[iJ];exact PrG.error⟩
 | succ f ih =>
  obtain⟨hX,hT,hO,hN,hA,hM⟩:=ih;have hz:=InR.zero;have h1:∀ {k:Int}{nm:List Int}{t:Int × Int}{x:Ex},x.good->(Ex.mk k 0 t.1 t.2 nm [x]).good:=fun hx=>Ex.good1 hz (Ex.mM hx Ex.gy);have h0:∀ {k n:Int}{nm:List Int},InR n->(Ex.mk k n 0 0 nm []).good:=fun hn=>Ex.good1 hn Ex.gy;have hone:∀ (k:Int) (i:Nat),PrG Ex.good (PR.andThen (iH E f i) fun c i=>.ok (.mk k 0 0 0 [] [c],i)):=fun k i=>PrG.bind (hN i) fun c i hc=>PrG.ok (h1 (t:=(0,0)) hc);refine⟨fun i=>?_,fun e i he=>?_,fun i=>?_,fun i=>?_,fun i=>?_,fun ks i hk=>?_⟩
  ·rw[pE];exact PrG.bind (hO i) fun e i he=>hT e i he
  ·rw[fP];refine PrG.ite (PrG.any fun a i=>hT _ i (h1 (t:=(0,0)) he)) (PrG.ite (PrG.bind (hX _) fun k i hk=>PrG.any fun _ i=>hT _ i (Ex.good1 hz (Ex.mM he (Ex.mM hk Ex.gy)))) (PrG.ok he))
  ·rw[pO];refine PrG.ite (PrG.ok (h0 (hE.num i))) (PrG.ite (PrG.ok (h0 (hE.num i))) (PrG.ite ?_ (PrG.ite ?_ (PrG.ite ?_ (PrG.ite ?_ (PrG.ite ?_ (PrG.ite ?_ (PrG.ite ?_ (PrG.ite ?_ ?_)))))))))
   ·exact PrG.bind (hX _) fun a i ha=>PrG.bind (UL E i) fun n i hn=>PrG.bind (hX _) fun b i hb=>PrG.any fun _ i=>PrG.ok (Ex.good1 hn (Ex.mM ha (Ex.mM hb Ex.gy)))
   ·exact PrG.bind (JJ hE _) fun n i hn=>PrG.ok (h0 hn)
   ·exact PrG.bind (JJ hE _) fun n i hn=>PrG.ok (h0 hn)
   ·exact PrG.ok (h0 hz)
   ·exact PrG.any fun t i=>PrG.bind (hN i) fun k i hk=>PrG.ok (h1 hk)
   ·exact hone 9 _
   ·exact hone 12 _
   ·exact hone 13 _
   ·exact PrG.any fun a i=>PrG.ite (PrG.bind (hA _) fun ks i hk=>PrG.ok (Ex.good1 hz hk)) (PrG.ok (h0 hz))
  ·rw[iH];exact PrG.any fun _ i=>PrG.bind (hX i) fun k i hk=>PrG.any fun _ i=>PrG.ok hk
  ·rw[nG];exact PrG.ite (PrG.ok Ex.gy) (PrG.bind (hX i) fun k i hk=>hM _ i (Ex.mM hk Ex.gy))
  ·rw[iJ];exact PrG.ite (PrG.ok hk) (PrG.any fun _ i=>PrG.bind (hX i) fun k i hk2=>hM _ i (Ex.ja hk2 hk))
theorem St.good1 {k n tk tn:Int}{nm:List Int}{ks:List Ex}{bo el:List St}(h:InR n) (hk:Ex.aZ ks) (hb:St.aZ bo) (he:St.aZ el):(St.mk k n tk tn nm ks bo el).good:=by rw[St.good];exact⟨h,hk,hb,he⟩
theorem St.gy:St.aZ []:=by rw[St.aZ];trivial
theorem St.ja {x:St}(h:x.good):∀ {l:List St},St.aZ l->St.aZ (l++[x])
 | [],_=>by show St.aZ [x];rw[St.aZ];exact⟨h,St.gy⟩
 | y::r,hl=>by rw[St.aZ]at hl;show St.aZ (y::(r++[x]));rw[St.aZ];exact⟨hl.1,St.ja h hl.2⟩
theorem kJ {E:ak}{k:Int}{ks:List Ex}{i:Nat}(h:Ex.aZ ks):PrG St.good (gI E k ks i):=by
 unfold gI;exact PrG.any fun _ i=>PrG.ok (St.good1 InR.zero h St.gy St.gy)
theorem Ry {E:ak}(hE:TQ E):∀ f:Nat,(∀ i,PrG St.good (pS E f i))/\(∀ i,PrG St.aZ (pB E f i))/\(∀ ss i,St.aZ ss->PrG St.aZ (pBs E f ss i)):=by
 intro f
 induction f with
 | zero=>exact⟨fun i=>by rw[pS];exact PrG.error,fun i=>by rw[pB];exact PrG.error,fun ss i _=>by rw[pBs];exact PrG.error⟩
 | succ f ih =>
  obtain⟨hS,hB,hBs⟩:=ih;have hX:=(RP hE f).1;have hz:=InR.zero;have g1:∀ {x:Ex},x.good->Ex.aZ [x]:=fun h=>Ex.mM h Ex.gy;refine⟨fun i=>?_,fun i=>?_,fun ss i hs=>?_⟩
  ·rw[pS];refine PrG.ite ?_ (PrG.ite ?_ (PrG.ite ?_ (PrG.ite ?_ (PrG.ite ?_ (PrG.ite ?_ (PrG.ite ?_ ?_))))))
   ·exact PrG.any fun a i=>PrG.any fun t i=>PrG.any fun _ i=>PrG.ok (St.good1 hz Ex.gy St.gy St.gy)
   ·exact PrG.bind (hX _) fun c i hc=>PrG.bind (hB i) fun b i hb=>PrG.any fun _ i=>PrG.bind (hB i) fun d i hd=>PrG.ok (St.good1 hz (g1 hc) hb hd)
   ·exact PrG.bind (hX _) fun c i hc=>PrG.bind (hB i) fun b i hb=>PrG.ok (St.good1 hz (g1 hc) hb St.gy)
   ·exact PrG.ite (kJ Ex.gy) (PrG.bind (hX _) fun c i hc=>kJ (g1 hc))
   ·exact PrG.bind (hX _) fun c i hc=>kJ (g1 hc)
   ·exact PrG.bind (hX _) fun c i hc=>kJ (g1 hc)
   ·exact PrG.bind (hX _) fun c i hc=>PrG.ite (kJ (g1 hc)) PrG.error
   ·exact PrG.bind (hX _) fun c i hc=>PrG.ite (PrG.any fun _ i=>PrG.bind (hX _) fun d i hd=>kJ (Ex.mM hc (g1 hd))) PrG.error
  ·rw[pB];exact PrG.any fun _ i=>hBs [] i St.gy
  ·rw[pBs];exact PrG.ite (PrG.ok hs) (PrG.bind (hS i) fun s i h=>hBs _ i (St.ja h hs))
theorem wI (gr:List Int->Bool) (l:List PTk) (nm:List Int->Bool):∀ (f:Nat) (ss:List Sc) (i:Nat),PrG (fun x=>x.length<=ss.length+f) (dS gr l nm f ss i)
 | 0,ss,i=>by rw[dS];exact PrG.error
 | f+1,ss,i=>by
  rw[dS];refine PrG.ite (PrG.ite (PrG.any fun _ k=>PrG.any fun _ k=>PrG.any fun ps k=>?_) PrG.error) (PrG.ok (by omega));intro x j e;have:=wI gr l nm f _ k x j e;rw[List.length_append]at this;simp at this;omega
theorem Fu.ja {x:Fu}{l:List Fu}(h:x.good) (hl:Fu.aZ l):Fu.aZ (l++[x]):=fun j hj=>by
 rcases Nat.lt_or_ge j l.length with q|q
 ·rw[List.getElem_append_left q];exact hl j q
 ·rw[List.length_append]at hj;have:j=l.length:=by simp at hj;omega
  subst this;rw[List.getElem_append_right (Nat.le_refl _)];simpa using h
theorem yF {E:ak}(hE:TQ E):∀ (f:Nat) (fs:List Fu) (i:Nat),Fu.aZ fs->PrG Fu.aZ (fK E f fs i)
 | 0,fs,i,_=>by rw[fK];exact PrG.error
 | f+1,fs,i,h=>by
  rw[fK];refine PrG.ite (PrG.bind (P:=Fu.good) ?_ fun x i hx=>yF hE f _ i (Fu.ja hx h)) (PrG.ok h);unfold lU;exact PrG.any fun a i=>PrG.any fun ps i=>PrG.any fun t i=>PrG.bind ((Ry hE f).2.1 i) fun b i hb=>PrG.ok hb
theorem Cm {gr nm:List Int->Bool}{l:List PTk}{f:Nat}{x:So}(hN:TkN l) (hf:f<=1000000000) (h:uo gr nm l f=.ok x):Fu.aZ x.funcs:=by
 unfold uo at h;split at h
 next=>cases h
 next ss i e =>
  split at h
  next=>cases h
  next fs j e2 =>
   split at h
   next=>cases h
   next =>
    cases h
    have hl:=wI gr l nm f [] 0 ss i e;refine yF (E:=ak.mk l nm (ss.map Sc.name)) ⟨fun k=>?_,?_⟩ f [] i (fun j hj=>by cases hj) fs j e2
    ·unfold ak.num;split
     next t q=>exact hN t (List.mem_of_getElem? q)
     next=>exact InR.zero
    ·show (ss.map Sc.name).length<=_;rw[List.length_map];simp at hl;omega
end Go.Proofs.YtgaddpkkjebekaaGreatDoor
