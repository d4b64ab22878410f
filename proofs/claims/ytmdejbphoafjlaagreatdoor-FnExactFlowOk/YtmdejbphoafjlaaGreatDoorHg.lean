/- My texts S4, N12, N13, N14, N15 in one. -/
import Derived.Test.YtmdejbphoafjlaaGreatDoorHf
import Derived.Test.YtmdejbphoafjlaaGreatDoorGi
import Derived.Test.YtmdejbphoafjlaaGreatDoorHe
import Derived.Test.YtmdejbphoafjlaaGreatDoorHb
set_option maxHeartbeats 100000000
set_option maxRecDepth 100000
namespace Go.Proofs.YtmdejbphoafjlaaGreatDoor
open Go.RowKit Go.Maps
def ownL (k:Int) (nm:List Int):List (List Int):=if k=0 then [nm] else []
def St.ownN (x:St):List (List Int):=ownL x.kind x.name
def St.ownNs:List St→List (List Int)
 | []=>[]
 | x::r=>x.ownN++St.ownNs r
mutual
def St.decl:St→List (List Int)
 | .mk k _ _ _ nm _ bo el=>ownL k nm++St.decls bo++St.decls el
def St.decls:List St→List (List Int)
 | []=>[]
 | x::r=>x.decl++St.decls r
end
mutual
def St.fineB (fs:List (List Int)):List (List Int)→List (List Int)→St→Bool
 | all,seen,.mk k _ _ _ nm ks bo el=>Ex.usesBs fs seen ks&&(!(k==0)||!(decide (nm∈all)))&&St.fineBs fs (all++ownL k nm) (seen++ownL k nm) bo&&St.fineBs fs (all++ownL k nm++St.decls bo) (seen++ownL k nm) el
def St.fineBs (fs:List (List Int)):List (List Int)→List (List Int)→List St→Bool
 | _,_,[]=>true
 | all,seen,x::r=>St.fineB fs all seen x&&St.fineBs fs (all++x.decl) (seen++x.ownN) r
end
mutual
def St.num:St→Nat
 | .mk _ _ _ _ _ _ bo el=>1+St.nums bo+St.nums el
def St.nums:List St→Nat
 | []=>0
 | x::r=>x.num+St.nums r
end
theorem St.decl_eq (x:St):x.decl=ownL x.kind x.name++St.decls x.body++St.decls x.els:=by obtain⟨k,n,tk,tn,nm,ks,bo,el⟩:=x;rw[St.decl];rfl
theorem St.num_eq (x:St):x.num=1+St.nums x.body+St.nums x.els:=by obtain⟨k,n,tk,tn,nm,ks,bo,el⟩:=x;rw[St.num];rfl
theorem St.fineB_eq (fs all seen:List (List Int)) (x:St):St.fineB fs all seen x=(Ex.usesBs fs seen x.kids&&(!(x.kind==0)||!(decide (x.name∈all)))&&St.fineBs fs (all++ownL x.kind x.name) (seen++ownL x.kind x.name) x.body&&St.fineBs fs (all++ownL x.kind x.name++St.decls x.body) (seen++ownL x.kind x.name) x.els):=by obtain⟨k,n,tk,tn,nm,ks,bo,el⟩:=x;rw[St.fineB];rfl
theorem St.fineBs_cons (fs all seen:List (List Int)) (x:St) (r:List St):St.fineBs fs all seen (x::r)=(St.fineB fs all seen x&&St.fineBs fs (all++x.decl) (seen++x.ownN) r):=by rw[St.fineBs]
theorem St.decls_app (l r:List St):St.decls (l++r)=St.decls l++St.decls r:=by induction l with|nil=>rw[List.nil_append,St.decls,List.nil_append]|cons x l ih=>rw[List.cons_append,St.decls,St.decls,ih,List.append_assoc]
theorem St.ownNs_app (l r:List St):St.ownNs (l++r)=St.ownNs l++St.ownNs r:=by induction l with|nil=>rfl|cons x l ih=>rw[List.cons_append,St.ownNs,St.ownNs,ih,List.append_assoc]
theorem St.nums_app (l r:List St):St.nums (l++r)=St.nums l+St.nums r:=by induction l with|nil=>rw[List.nil_append,St.nums,Nat.zero_add]|cons x l ih=>rw[List.cons_append,St.nums,St.nums,ih];omega
theorem St.decls_take {l:List St}{j:Nat}(h:j<l.length):St.decls (l.take (j+1))=St.decls (l.take j)++l[j].decl:=by rw[List.take_succ_eq_append_getElem h,St.decls_app,St.decls,St.decls,List.append_nil]
theorem St.ownNs_take {l:List St}{j:Nat}(h:j<l.length):St.ownNs (l.take (j+1))=St.ownNs (l.take j)++l[j].ownN:=by rw[List.take_succ_eq_append_getElem h,St.ownNs_app,St.ownNs,St.ownNs,List.append_nil]
theorem ownL_len (k:Int) (nm:List Int):(ownL k nm).length≤1:=by unfold ownL;split <;> simp
mutual
theorem St.decl_len:∀ (x:St),x.decl.length≤x.num
 | .mk k n tk tn nm ks bo el=>by
  rw[St.decl,St.num,List.length_append,List.length_append]
  have:=ownL_len k nm
  have:=St.decls_len bo
  have:=St.decls_len el
  omega
theorem St.decls_len:∀ (l:List St),(St.decls l).length≤St.nums l
 | []=>by rw[St.decls];exact Nat.le_refl _
 | x::r=>by
  rw[St.decls,St.nums,List.length_append]
  have:=St.decl_len x
  have:=St.decls_len r
  omega
end
theorem St.num_pos (x:St):1≤x.num:=by rw[St.num_eq];omega
theorem St.nums_split {l:List St}{j:Nat}(h:j<l.length):St.nums l=St.nums (l.take j)+l[j].num+St.nums (l.drop (j+1)):=by
 have e:l=l.take j++(l[j]::l.drop (j+1)):=by rw[←List.drop_eq_getElem_cons h,List.take_append_drop]
 conv=>lhs;rw[e]
 rw[St.nums_app,St.nums]
 omega
theorem St.ownNs_le (l:List St):(St.ownNs l).length≤(St.decls l).length:=by
 induction l with
 | nil=>rw[St.ownNs,St.decls];exact Nat.le_refl _
 | cons x r ih =>
  rw[St.ownNs,St.decls,St.decl_eq,List.length_append,List.length_append,List.length_append,List.length_append]
  unfold St.ownN
  omega
theorem row_take {w:World}{base:Nat}{t:TypeId}{a:Option Addr}{L cap n:Nat}{xs:List Value}(h:w.ownsRow base t 1 (.slice a L cap) L xs) (hn:n≤L):w.ownsRow base t 1 (.slice a n cap) n (xs.take n)∧n≤cap∧cap≤maxLen:=by
 obtain⟨h1,h2⟩:=h
 rcases h2 with ⟨h0,rfl⟩|⟨g,cap',cur,hv,hg,hh,hn',hcap,hsz,ht⟩
 ·cases h0
  obtain rfl:n=0:=by omega
  exact⟨⟨by simp,.inl ⟨rfl,rfl⟩⟩,Nat.le_refl _,by unfold maxLen;omega⟩
 ·cases hv
  refine⟨⟨by rw[List.length_take];omega,.inr ⟨g,cap,cur,rfl,hg,hh,by omega,hcap,hsz,?_⟩⟩,by omega,hcap⟩
  rw[←ht,List.take_take,Nat.min_eq_left (by omega),Nat.mul_one]
theorem snblock_all (N:Nat):∀ (l:List St) (v:Value) (w0 w:World) (P:Nat) (v0 v1:Value) (fs:List Fu) (all seen:List (List Int)) (bad:Bool),St.szs l≤N→RdL w0 8 v (St.dats l)→(∃ a n c,v0=.slice a n c)→RdL w0 5 v1 (Fu.dats fs)→fs.length≤1000→all.length+St.nums l≤900000→seen.length≤all.length→Nn w0 w P v0 v1 all seen bad →
  Calls Tryz.prog 26 #[.pointer (some ⟨P,0,none⟩),v] w (NnP w0 w P v0 v1 (all++St.decls l) seen (bad||!St.fineBs (fuNames fs) all seen l)):=by
 induction N using Nat.strongRecOn with
 | _ N IH =>
 intro l v w0 w P v0 v1 fs all seen bad hN h hv0 hv1 hfl hal hsa hNn
 obtain⟨a,cap,rfl,hl⟩:=St.slice h
 have hPw:=hNn.lt
 have hbig:=hNn.big
 have HQ:Hid (∀ wr b va vs xa xs ax cx,Below P w wr→Bxx wr P [v0,v1,va,.slice ax (seen++St.ownNs l).length cx,.bool b]→Nn w0 wr P v0 v1 (all++St.decls l) (seen++St.ownNs l) b→vs=.slice ax (seen++St.ownNs l).length cx→wr.ownsRow (P+1) 41 1 va (all++St.decls l).length xa→wr.ownsRow (P+1) 41 1 vs (seen++St.ownNs l).length xs→(∀ j (hj:j<(all++St.decls l).length),∃ u,xa[j]?=some u∧RdN w0 u (all++St.decls l)[j])→(∀ j (hj:j<(seen++St.ownNs l).length),∃ u,xs[j]?=some u∧RdN w0 u (seen++St.ownNs l)[j])→(∀ b,va.ownBlock=some b→vs.ownBlock≠some b)→b=(bad||!St.fineBs (fuNames fs) all seen l)→NnP w0 w P v0 v1 (all++St.decls l) seen (bad||!St.fineBs (fuNames fs) all seen l) (.returned (.tuple #[])) (wr.setCell ⟨P,3,none⟩ (.slice ax seen.length cx))):=by
  intro wr b va vs xa xs ax cx bl hbx hn hvs ra rs ta ts hsep hb
  subst hvs
  have hle:seen.length≤(seen++St.ownNs l).length:=by rw[List.length_append];omega
  have k:Kept (P+1) wr (wr.setCell ⟨P,3,none⟩ (.slice ax seen.length cx)):=Kept.setAt (Kept.refl _ _) (by omega) 3 _
  have bl2:Below P wr (wr.setCell ⟨P,3,none⟩ (.slice ax seen.length cx)):=Below.setCell (Below.refl _ _) (Nat.le_refl P) _
  refine⟨rfl,⟨⟨va,.slice ax seen.length cx,xa,xs.take seen.length,?_,row_kept ra k,row_kept (row_take rs hle).1 k,ta,fun j hj=>?_,fun b hb e=>hsep b hb (by cases ax <;> exact e)⟩,later_below hn.lat bl2 hbig,hbig⟩,Below.setCell bl (Nat.le_refl _) _⟩
  ·rw[←hb];exact hbx.set 3 _ (Nat.lt_of_sub_eq_succ rfl)
  ·obtain⟨u,e1,e2⟩:=ts j (by omega)
   refine⟨u,by rw[List.getElem?_take_of_lt hj];exact e1,?_⟩
   rw[List.getElem_append_left hj]at e2
   exact e2
 generalize hQ:NnP w0 w P v0 v1 (all++St.decls l) seen (bad||!St.fineBs (fuNames fs) all seen l)=Q at *
 clear hQ
 obtain⟨va0,vs0,xa0,xs0,hbx0,hra0,hrs0,_⟩:=hNn.box
 obtain⟨ax0,cx0,hvs0⟩:=row_form hrs0
 have p3:=(hbx0.cell 3 _ rfl).1
 rw[hvs0]at p3
 have hsl:(seen.length:Int)≤900000:=by omega
 clear hra0 hrs0 hbx0 hvs0
 go_enter Tryz.func26,Tryz.ntmps26
 go_wp2_with fail
 go_loopw [5] (fun i wr=>∃ (j:Nat) (b:Bool),i=.int .i64 (j:Int)∧j≤l.length∧Nn w0 wr P v0 v1 (all++St.decls (l.take j)) (seen++St.ownNs (l.take j)) b∧Below P w wr∧Hid ((b||!St.fineBs (fuNames fs) (all++St.decls (l.take j)) (seen++St.ownNs (l.take j)) (l.drop j))=(bad||!St.fineBs (fuNames fs) all seen l))) (fun i _=>l.length - (intOf i).toNat)
 case atStart=>exact⟨0,bad,rfl,Nat.zero_le _,by rw[List.take_zero,St.decls,St.ownNs,List.append_nil,List.append_nil];exact hNn,Below.refl _ _,by rw[List.take_zero,St.decls,St.ownNs,List.append_nil,List.append_nil,List.drop_zero];rfl⟩
 case round =>
  obtain⟨j,b,rfl,hj,hNr,bR,HS⟩:=hrel
  by_cases hlt:j<l.length
  ·obtain⟨g,off,k0,k1,k2,k3,rfl,hgs,c0,c1,c2,c3,c4,c5,c6,c7,r0,r1,r2,r3⟩:=St.elem h j hlt
   have i1:(j:Int)<(l.length:Int):=by omega
   have hszj:=St.sz_at l j hlt
   have hkle:=St.kids_le l[j]
   have hsplit:=St.nums_split hlt
   have hnum:=St.num_eq l[j]
   have hdl:=St.decls_len (l.take j)
   have hol:=St.ownNs_le (l.take j)
   have howl:=ownL_len l[j].kind l[j].name
   obtain⟨A,hA⟩:=hidx (all++St.decls (l.take j))
   obtain⟨S,hS⟩:=hidx (seen++St.ownNs (l.take j))
   have hAl:A.length+l[j].num≤900000:=by rw[hA.out,List.length_append];omega
   have hSA:S.length≤A.length:=by rw[hS.out,hA.out,List.length_append,List.length_append];omega
   rw[←hA.out,← hS.out]at hNr HS
   have hUs:=fun (k:Nat) (hk:k<l[j].kids.length) (e0 e1:Value) (w':World) (b':Bool) (q0:RdN w0 e0 l[j].kids[k].name) (q1:RdL w0 6 e1 (Ex.dats l[j].kids[k].kids)) (hn:Nn w0 w' P v0 v1 A S b')=>suses_all l[j].kids[k].sz l[j].kids[k] e0 e1 w0 w' P v0 v1 fs A S b' (Nat.le_refl _) q0 q1 hv0 hv1 hfl (by omega) hn
   have hDe:=fun (w':World) (b':Bool) (hn:Nn w0 w' P v0 v1 A S b')=>sdecl_any w0 w' P v0 v1 k0 A S b' l[j].name hn r0 (by omega) (by omega)
   have hBo:=fun (w':World) (b':Bool) (hn:Nn w0 w' P v0 v1 (A++ownL l[j].kind l[j].name) (S++ownL l[j].kind l[j].name) b')=>IH (St.szs l[j].body) (by omega) l[j].body k2 w0 w' P v0 v1 fs _ _ b' (Nat.le_refl _) r2 hv0 hv1 hfl (by rw[List.length_append];omega) (by rw[List.length_append,List.length_append];omega) hn
   have hEl:=fun (w':World) (b':Bool) (hn:Nn w0 w' P v0 v1 (A++ownL l[j].kind l[j].name++St.decls l[j].body) (S++ownL l[j].kind l[j].name) b')=>IH (St.szs l[j].els) (by omega) l[j].els k3 w0 w' P v0 v1 fs _ _ b' (Nat.le_refl _) r3 hv0 hv1 hfl (by have:=St.decls_len l[j].body;rw[List.length_append,List.length_append];omega) (by rw[List.length_append,List.length_append,List.length_append];omega) hn
   have HEND:Hid (∀ w' bk bd bb be,bk=(b||!Ex.usesBs (fuNames fs) S l[j].kids)→bd=(bk||((l[j].kind==0)&&decide (l[j].name∈A)))→bb=(bd||!St.fineBs (fuNames fs) (A++ownL l[j].kind l[j].name) (S++ownL l[j].kind l[j].name) l[j].body)→be=(bb||!St.fineBs (fuNames fs) (A++ownL l[j].kind l[j].name++St.decls l[j].body) (S++ownL l[j].kind l[j].name) l[j].els)→Nn w0 w' P v0 v1 (A++ownL l[j].kind l[j].name++St.decls l[j].body++St.decls l[j].els) (S++ownL l[j].kind l[j].name) be→Nn w0 w' P v0 v1 (all++St.decls (l.take (j+1))) (seen++St.ownNs (l.take (j+1))) be∧Hid ((be||!St.fineBs (fuNames fs) (all++St.decls (l.take (j+1))) (seen++St.ownNs (l.take (j+1))) (l.drop (j+1)))=(bad||!St.fineBs (fuNames fs) all seen l))):=by
    intro w' bk bd bb be e1 e2 e3 e4 hn
    have q1:all++St.decls (l.take (j+1))=A++ownL l[j].kind l[j].name++St.decls l[j].body++St.decls l[j].els:=by rw[St.decls_take hlt,St.decl_eq,hA.out];simp[List.append_assoc]
    have q2:seen++St.ownNs (l.take (j+1))=S++ownL l[j].kind l[j].name:=by rw[St.ownNs_take hlt,hS.out];unfold St.ownN;simp[List.append_assoc]
    rw[q1,q2]
    refine⟨hn,?_⟩
    have h:=HS.out
    rw[List.drop_eq_getElem_cons hlt,St.fineBs_cons,St.fineB_eq,show A++l[j].decl=A++ownL l[j].kind l[j].name++St.decls l[j].body++St.decls l[j].els from by rw[St.decl_eq];simp[List.append_assoc],show l[j].ownN=ownL l[j].kind l[j].name from rfl]at h
    unfold Hid
    rw[←h,e4,e3,e2,e1]
    generalize St.fineBs (fuNames fs) (A++ownL l[j].kind l[j].name++St.decls l[j].body++St.decls l[j].els) _ _=f1
    generalize St.fineBs (fuNames fs) (A++ownL l[j].kind l[j].name++St.decls l[j].body) _ _=f2
    generalize St.fineBs (fuNames fs) (A++ownL l[j].kind l[j].name) _ _=f3
    generalize Ex.usesBs (fuNames fs) S l[j].kids=f4
    cases b <;> cases f1 <;> cases f2 <;> cases f3 <;> cases f4 <;> cases (l[j].kind==0) <;> cases decide (l[j].name∈A) <;> rfl
   obtain⟨z0,d0,rfl,_⟩:=r0.slice
   obtain⟨z1,d1,rfl,hkl⟩:=Ex.slice r1
   obtain⟨z2,d2,rfl,_⟩:=St.slice r2
   obtain⟨z3,d3,rfl,_⟩:=St.slice r3
   clear HQ IH HS hszj hkle hsplit hnum hdl hol howl hNn h r2 r3 r0 hA hS p3 c1 c2 c3
   go_wp2_with fail
   have HN1:Hid (Nn w0 wr P v0 v1 A S b):=hNr
   have bR1:=bR
   generalize wr=wo at *
   go_loopw [6] (fun i wk=>∃ (k:Nat) (b':Bool),i=.int .i64 (k:Int)∧k≤l[j].kids.length∧Nn w0 wk P v0 v1 A S b'∧Below P w wk∧Hid ((b'||!Ex.usesBs (fuNames fs) S (l[j].kids.drop k))=(b||!Ex.usesBs (fuNames fs) S l[j].kids))) (fun i _=>l[j].kids.length - (intOf i).toNat)
   case atStart=>exact⟨0,b,rfl,Nat.zero_le _,HN1.out,bR1,rfl⟩
   case round =>
    obtain⟨k,b',rfl,hk,hNk,bK,HK⟩:=hrel
    have lk:=hNk.lat
    have x0:wr.cell? ⟨g,off+j*8,none⟩=some (.int .i64 l[j].kind):=by rw[Below.cell lk (p:=⟨g,off+j*8,none⟩) hgs];exact c0
    have x4:wr.cell? ⟨g,off+j*8+4,none⟩=some (.slice z0 l[j].name.length d0):=by rw[Below.cell lk (p:=⟨g,off+j*8+4,none⟩) hgs];exact c4
    have x5:wr.cell? ⟨g,off+j*8+5,none⟩=some (.slice z1 l[j].kids.length d1):=by rw[Below.cell lk (p:=⟨g,off+j*8+5,none⟩) hgs];exact c5
    have x6:wr.cell? ⟨g,off+j*8+6,none⟩=some (.slice z2 l[j].body.length d2):=by rw[Below.cell lk (p:=⟨g,off+j*8+6,none⟩) hgs];exact c6
    have x7:wr.cell? ⟨g,off+j*8+7,none⟩=some (.slice z3 l[j].els.length d3):=by rw[Below.cell lk (p:=⟨g,off+j*8+7,none⟩) hgs];exact c7
    by_cases hkt:k<l[j].kids.length
    ·obtain⟨g',off',m0,m1,rfl,hgs',t0,t1,t2,t3,t4,t5,s0,s1⟩:=Ex.elem r1 k hkt
     have i2:(k:Int)<(l[j].kids.length:Int):=by omega
     have t0:wr.cell? ⟨g',off'+k*6,none⟩=some (.int .i64 l[j].kids[k].kind):=by rw[Below.cell lk (p:=⟨g',off'+k*6,none⟩) hgs'];exact t0
     have t1:wr.cell? ⟨g',off'+k*6+1,none⟩=some (.int .i64 l[j].kids[k].n):=by rw[Below.cell lk (p:=⟨g',off'+k*6+1,none⟩) hgs'];exact t1
     have t2:wr.cell? ⟨g',off'+k*6+2,none⟩=some (.int .i64 l[j].kids[k].tk):=by rw[Below.cell lk (p:=⟨g',off'+k*6+2,none⟩) hgs'];exact t2
     have t3:wr.cell? ⟨g',off'+k*6+3,none⟩=some (.int .i64 l[j].kids[k].tn):=by rw[Below.cell lk (p:=⟨g',off'+k*6+3,none⟩) hgs'];exact t3
     have t4:wr.cell? ⟨g',off'+k*6+4,none⟩=some (m0):=by rw[Below.cell lk (p:=⟨g',off'+k*6+4,none⟩) hgs'];exact t4
     have t5:wr.cell? ⟨g',off'+k*6+5,none⟩=some (m1):=by rw[Below.cell lk (p:=⟨g',off'+k*6+5,none⟩) hgs'];exact t5
     have hR:=hUs k hkt m0 m1 wr b' s0 s1 hNk
     have HKn:Hid (((b'||!l[j].kids[k].usesB (fuNames fs) S)||!Ex.usesBs (fuNames fs) S (l[j].kids.drop (k+1)))=(b||!Ex.usesBs (fuNames fs) S l[j].kids)):=by
      have h:=HK.out
      rw[List.drop_eq_getElem_cons hkt,Ex.usesBs_cons]at h
      unfold Hid
      rw[←h]
      cases b' <;> cases l[j].kids[k].usesB (fuNames fs) S <;> simp
     obtain⟨n0,o0,rfl,_⟩:=s0.slice
     obtain⟨n1,o1,rfl,_⟩:=Ex.slice s1
     clear s0 s1 HK r1 hNk hUs hDe hBo hEl HEND HN1
     generalize l[j].kids[k].usesB (fuNames fs) S=ub at *
     generalize l[j].kids[k].kind=e_k at *
     generalize l[j].kids[k].n=e_n at *
     generalize l[j].kids[k].tk=e_tk at *
     generalize l[j].kids[k].tn=e_tn at *
     go_wp2_with fail
     refine hR.mono ?_
     rintro e w3 ⟨rfl,hN3,o3⟩
     have b3:Below P w w3:=Below.trans bK (o3.below (Nat.le_refl _) (by have:=bK.size;omega))
     clear hR
     go_wp2_with fail
     go_roundw
     case rel=>exact⟨k+1,_,by go_num,by omega,hN3,b3,HKn⟩
     case measure=>simp[intOf];omega
    ·have i2:¬ (k:Int)<(l[j].kids.length:Int):=by omega
     have i3:decide ((k:Int)<(l[j].kids.length:Int))=false:=decide_eq_false i2
     have hkk:k=l[j].kids.length:=by omega
     have HB1:Hid (b'=(b||!Ex.usesBs (fuNames fs) S l[j].kids)):=by have h:=HK.out;rw[hkk,List.drop_length,Ex.usesBs,Bool.not_true,Bool.or_false]at h;exact h
     have hD1:=hDe wr b' hNk
     have HN2:Hid (Nn w0 wr P v0 v1 A S b'):=hNk
     clear HK hUs HN1 hDe hkk hNk
     by_cases hk0:l[j].kind=0
     ·have HK0:Hid (l[j].kind=0):=hk0
      rw[hk0]at x0
      clear hk0
      go_wp2_with fail
      refine hD1.mono ?_
      rintro e w3 ⟨rfl,hN3,bl3⟩
      have hB1:=hBo w3 _ (by rw[HK0.out,show ownL 0 l[j].name=[l[j].name] from rfl];exact hN3)
      have l3:=hN3.lat
      have b3:Below P w w3:=Below.trans bK bl3
      have y6:w3.cell? ⟨g,off+j*8+6,none⟩=some (.slice z2 l[j].body.length d2):=by rw[Below.cell l3 (p:=⟨g,off+j*8+6,none⟩) hgs];exact c6
      have y7:w3.cell? ⟨g,off+j*8+7,none⟩=some (.slice z3 l[j].els.length d3):=by rw[Below.cell l3 (p:=⟨g,off+j*8+7,none⟩) hgs];exact c7
      have HB2:Hid ((b'||decide (l[j].name∈A))=(b'||((l[j].kind==0)&&decide (l[j].name∈A)))):=by unfold Hid;rw[HK0.out];rfl
      clear hD1 hBo
      go_wp2_with fail
      refine hB1.mono ?_
      rintro e w4 ⟨rfl,hN4,bl4⟩
      have hE1:=hEl w4 _ hN4
      have l4:=hN4.lat
      have b4:Below P w w4:=Below.trans b3 bl4
      have e7:w4.cell? ⟨g,off+j*8+7,none⟩=some (.slice z3 l[j].els.length d3):=by rw[Below.cell l4 (p:=⟨g,off+j*8+7,none⟩) hgs];exact c7
      clear hB1 hEl
      go_wp2_with fail
      refine hE1.mono ?_
      rintro e w5 ⟨rfl,hN5,bl5⟩
      have b5:Below P w w5:=Below.trans b4 bl5
      obtain⟨hN6,HS6⟩:=HEND.out w5 _ _ _ _ HB1.out HB2.out rfl rfl hN5
      clear hE1 HEND HB1 HB2
      go_wp2_with fail
      go_roundw
      case rel=>exact⟨j+1,_,by go_num,by omega,hN6,b5,HS6⟩
      case measure=>simp[intOf];omega
     ·have HK0:Hid (l[j].kind≠0):=hk0
      have n0:=neb hk0
      clear hk0 hD1
      have hB1:=hBo wr b' (by rw[show ownL l[j].kind l[j].name=[] from by unfold ownL;rw[if_neg HK0.out],List.append_nil,List.append_nil];exact HN2.out)
      have b3:Below P w wr:=bK
      have l3:=lk
      have HB2:Hid (b'=(b'||((l[j].kind==0)&&decide (l[j].name∈A)))):=by unfold Hid;rw[neb HK0.out];simp
      clear hBo
      generalize l[j].kind=kd at *
      go_wp2_with fail
      refine hB1.mono ?_
      rintro e w4 ⟨rfl,hN4,bl4⟩
      have hE1:=hEl w4 _ hN4
      have l4:=hN4.lat
      have b4:Below P w w4:=Below.trans b3 bl4
      have e7:w4.cell? ⟨g,off+j*8+7,none⟩=some (.slice z3 l[j].els.length d3):=by rw[Below.cell l4 (p:=⟨g,off+j*8+7,none⟩) hgs];exact c7
      clear hB1 hEl
      go_wp2_with fail
      refine hE1.mono ?_
      rintro e w5 ⟨rfl,hN5,bl5⟩
      have b5:Below P w w5:=Below.trans b4 bl5
      obtain⟨hN6,HS6⟩:=HEND.out w5 _ _ _ _ HB1.out HB2.out rfl rfl hN5
      clear hE1 HEND HB1 HB2
      go_wp2_with fail
      go_roundw
      case rel=>exact⟨j+1,_,by go_num,by omega,hN6,b5,HS6⟩
      case measure=>simp[intOf];omega
  ·have i1:¬ (j:Int)<(l.length:Int):=by omega
   have i2:decide ((j:Int)<(l.length:Int))=false:=decide_eq_false i1
   have hjj:j=l.length:=by omega
   rw[hjj,List.take_length]at hNr
   have hb:b=(bad||!St.fineBs (fuNames fs) all seen l):=by have h:=HS.out;rw[hjj,List.drop_length,St.fineBs,Bool.not_true,Bool.or_false]at h;exact h
   obtain⟨va,vs,xa,xs,hbx,hra,hrs,hta,hts,hsep⟩:=hNr.box
   obtain⟨ax,cx,hvs⟩:=row_form hrs
   have hle:seen.length≤(seen++St.ownNs l).length:=by rw[List.length_append];omega
   have hcap:=(row_take (by rw[hvs]at hrs;exact hrs) hle).2
   have HZ:=HQ.out wr b va vs xa xs ax cx bR (by rw[←hvs];exact hbx) hNr hvs hra hrs hta hts hsep hb
   have q3:=(hbx.cell 3 _ rfl).1
   have f3:=(hbx.cell 3 _ rfl).2
   rw[hvs]at q3
   have n1:(seen.length:Int)≤(cx:Int):=by omega
   have n2:(0:Int)≤(seen.length:Int):=by omega
   have n3:seen.length≤cx:=hcap.1
   clear h HQ HS hNr hjj hra hrs hta hts hsep hbx hNn IH hb hcap hle hvs
   generalize (seen++St.ownNs l).length=SL at *
   go_wp2_with fail
   exact bodyPost_end (results_none rfl _ _ _) rfl HZ
theorem OwnAll.lens {w:World}{k g:Nat}:∀ (l:List Dat) {i:Nat}{F:List Nat}(j:Nat) (hj:j<l.length),OwnAll w k g i l F →
  ∃ cs F1 Fj F2,F=F1++(Fj++F2)∧cs.length=k∧(∀ m u,cs[m]?=some u→w.cell? ⟨g,(i+j)*k+m,none⟩=some u∧w.frozen? ⟨g,(i+j)*k+m,none⟩=false)∧OwnD w l[j] cs Fj ∧
   ∀ (w':World) (d:Dat) (cs':List Value),cs'.length=k→(∀ m u,cs'[m]?=some u→w'.cell? ⟨g,(i+j)*k+m,none⟩=some u∧w'.frozen? ⟨g,(i+j)*k+m,none⟩=false)→OwnD w' d cs' Fj→w.heap.size≤w'.heap.size →
    (∀ o,o<(i+j)*k∨(i+j+1)*k≤o→w'.cell? ⟨g,o,none⟩=w.cell? ⟨g,o,none⟩∧w'.frozen? ⟨g,o,none⟩=w.frozen? ⟨g,o,none⟩)→(∀ b,b∈F1∨b∈F2→w'.heap[b]?=w.heap[b]?)→OwnAll w' k g i (l.set j d) F
 | [],i,F,j,hj,h=>absurd hj (Nat.not_lt_zero _)
 | d0::r,i,F,0,hj,h=>by
  rw[OwnAll]at h
  obtain⟨cs,F1,F2,rfl,hk,hc,hd,hr⟩:=h
  refine⟨cs,[],F1,F2,by rw[List.nil_append],hk,hc,hd,fun w' d cs' hk' hc' hd' hs ho hb=>?_⟩
  rw[List.set_cons_zero,OwnAll]
  refine⟨cs',F1,F2,rfl,hk',hc',hd',OwnAll.agree' hs r hr (fun o h1 h2=>ho o (.inr (by simpa using h1))) (fun b q=>hb b (.inr q))⟩
 | d0::r,i,F,j+1,hj,h=>by
  rw[OwnAll]at h
  obtain⟨cs,F1,F2,rfl,hk,hc,hd,hr⟩:=h
  obtain⟨cs1,A1,Aj,A2,rfl,hk1,hc1,hd1,HK⟩:=OwnAll.lens r j (Nat.lt_of_succ_lt_succ hj) hr
  have e:i+1+j=i+(j+1):=by omega
  rw[e]at hc1 HK
  refine⟨cs1,F1++A1,Aj,A2,by simp[List.append_assoc],hk1,hc1,hd1,fun w' d cs' hk' hc' hd' hs ho hb=>?_⟩
  rw[List.set_cons_succ,OwnAll]
  refine⟨cs,F1,A1++(Aj++A2),rfl,hk,fun m u hm=>?_,OwnD.agree hs d0 hd (fun b q=>hb b (.inl (List.mem_append_left _ q))),HK w' d cs' hk' hc' hd' hs ho (fun b q=>hb b (q.imp (fun q=>List.mem_append_right _ q) id))⟩
  have hm':m<k:=by have:=(List.getElem?_eq_some_iff.1 hm).1;omega
  have hlt:i*k+m<(i+(j+1))*k:=by
   have:(i+1)*k≤(i+(j+1))*k:=Nat.mul_le_mul_right _ (by omega)
   rw[Nat.succ_mul]at this
   omega
  have:=ho (i*k+m) (.inl hlt)
  rw[this.1,this.2]
  exact hc m u hm
structure OnlyC (g o:Nat) (F:List Nat) (w w':World):Prop where
 os:w'.os=w.os
 tape:w'.tape=w.tape
 output:w'.output=w.output
 size:w.heap.size≤w'.heap.size
 block:∀ b,b<w.heap.size→b∉F→b≠g→w'.heap[b]?=w.heap[b]?
 cells:∀ x,x≠o→w'.cell? ⟨g,x,none⟩=w.cell? ⟨g,x,none⟩
 froz:∀ x,w'.frozen? ⟨g,x,none⟩=w.frozen? ⟨g,x,none⟩
theorem OnlyC.of_only {g o:Nat}{F:List Nat}{w w':World}(h:OnlyF F w w') (hg:g∉F) (hl:g<w.heap.size):OnlyC g o F w w' :=
 ⟨h.os,h.tape,h.output,h.size,fun b hb hn _=>h.block b hb hn,fun x _=>by unfold World.cell?;rw[h.block g hl hg],fun x=>by unfold World.frozen?;rw[h.block g hl hg]⟩
theorem OnlyC.trans {g o:Nat}{F:List Nat}{a b c:World}(h:OnlyC g o F a b) (k:OnlyC g o F b c):OnlyC g o F a c :=
 ⟨k.os.trans h.os,k.tape.trans h.tape,k.output.trans h.output,Nat.le_trans h.size k.size,fun x hx hn hg=>by rw[k.block x (Nat.lt_of_lt_of_le hx h.size) hn hg,h.block x hx hn hg],fun x hx=>by rw[k.cells x hx,h.cells x hx],fun x=>by rw[k.froz,h.froz]⟩
theorem OnlyC.only {g o:Nat}{F:List Nat}{a b:World}(h:OnlyC g o F a b):OnlyF (g::F) a b:=⟨h.os,h.tape,h.output,h.size,fun x hx hn=>h.block x hx (fun q=>hn (List.mem_cons_of_mem _ q)) (fun q=>hn (q ▸ List.mem_cons_self ..))⟩
def NoA (T X:TypeId):Prop:=∀ (v:Value) (w:World),(Instr.typeAssert (.iface T v) 152 X true).run Tryz.prog w=.ok (.tuple #[.agg #[.pointer none],.bool false]) w
def IsM (T:TypeId) (v:Value) (m:String) (f:Nat) (a:Option Addr):Prop:=∀ w:World,(method 418 T v m).run Tryz.prog w=.ok (f,.agg #[.pointer a]) w
theorem m_plainPart_kids (a:Option Addr) (x y:Int):IsM 243 (.agg #[.pointer a,.int .i64 x,.int .i64 y]) "loop.example/g00306/impl.kids" 255 a:=fun w=>by kernel_rfl
theorem m_plainPart_blocks (a:Option Addr) (x y:Int):IsM 243 (.agg #[.pointer a,.int .i64 x,.int .i64 y]) "loop.example/g00306/impl.blocks" 254 a:=fun w=>by kernel_rfl
theorem a_plainPart_declarePart:NoA 243 190:=fun v w=>by kernel_rfl
theorem a_plainPart_varPart:NoA 243 196:=fun v w=>by kernel_rfl
theorem a_plainPart_callPart:NoA 243 197:=fun v w=>by kernel_rfl
theorem m_varPart_kids (a:Option Addr) :IsM 196 (.agg #[.pointer a]) "loop.example/g00306/impl.kids" 255 a:=fun w=>by kernel_rfl
theorem m_varPart_blocks (a:Option Addr) :IsM 196 (.agg #[.pointer a]) "loop.example/g00306/impl.blocks" 254 a:=fun w=>by kernel_rfl
theorem a_varPart_declarePart:NoA 196 190:=fun v w=>by kernel_rfl
theorem a_varPart_varPart (v:Value) (w:World):(Instr.typeAssert (.iface 196 v) 152 196 true).run Tryz.prog w=.ok (.tuple #[v,.bool true]) w:=by kernel_rfl
theorem a_varPart_callPart:NoA 196 197:=fun v w=>by kernel_rfl
theorem m_makePart_kids (a:Option Addr) :IsM 244 (.agg #[.pointer a]) "loop.example/g00306/impl.kids" 255 a:=fun w=>by kernel_rfl
theorem m_makePart_blocks (a:Option Addr) :IsM 244 (.agg #[.pointer a]) "loop.example/g00306/impl.blocks" 254 a:=fun w=>by kernel_rfl
theorem a_makePart_declarePart:NoA 244 190:=fun v w=>by kernel_rfl
theorem a_makePart_varPart:NoA 244 196:=fun v w=>by kernel_rfl
theorem a_makePart_callPart:NoA 244 197:=fun v w=>by kernel_rfl
theorem m_callPart_kids (a:Option Addr) :IsM 197 (.agg #[.pointer a]) "loop.example/g00306/impl.kids" 255 a:=fun w=>by kernel_rfl
theorem m_callPart_blocks (a:Option Addr) :IsM 197 (.agg #[.pointer a]) "loop.example/g00306/impl.blocks" 254 a:=fun w=>by kernel_rfl
theorem a_callPart_declarePart:NoA 197 190:=fun v w=>by kernel_rfl
theorem a_callPart_varPart:NoA 197 196:=fun v w=>by kernel_rfl
theorem a_callPart_callPart (v:Value) (w:World):(Instr.typeAssert (.iface 197 v) 152 197 true).run Tryz.prog w=.ok (.tuple #[v,.bool true]) w:=by kernel_rfl
theorem m_fieldPart_kids (a:Option Addr) :IsM 245 (.agg #[.pointer a]) "loop.example/g00306/impl.kids" 255 a:=fun w=>by kernel_rfl
theorem m_fieldPart_blocks (a:Option Addr) :IsM 245 (.agg #[.pointer a]) "loop.example/g00306/impl.blocks" 254 a:=fun w=>by kernel_rfl
theorem a_fieldPart_declarePart:NoA 245 190:=fun v w=>by kernel_rfl
theorem a_fieldPart_varPart:NoA 245 196:=fun v w=>by kernel_rfl
theorem a_fieldPart_callPart:NoA 245 197:=fun v w=>by kernel_rfl
theorem m_indexPart_kids (a:Option Addr) :IsM 246 (.agg #[.pointer a]) "loop.example/g00306/impl.kids" 255 a:=fun w=>by kernel_rfl
theorem m_indexPart_blocks (a:Option Addr) :IsM 246 (.agg #[.pointer a]) "loop.example/g00306/impl.blocks" 254 a:=fun w=>by kernel_rfl
theorem a_indexPart_declarePart:NoA 246 190:=fun v w=>by kernel_rfl
theorem a_indexPart_varPart:NoA 246 196:=fun v w=>by kernel_rfl
theorem a_indexPart_callPart:NoA 246 197:=fun v w=>by kernel_rfl
theorem m_lenPart_kids (a:Option Addr) :IsM 247 (.agg #[.pointer a]) "loop.example/g00306/impl.kids" 255 a:=fun w=>by kernel_rfl
theorem m_lenPart_blocks (a:Option Addr) :IsM 247 (.agg #[.pointer a]) "loop.example/g00306/impl.blocks" 254 a:=fun w=>by kernel_rfl
theorem a_lenPart_declarePart:NoA 247 190:=fun v w=>by kernel_rfl
theorem a_lenPart_varPart:NoA 247 196:=fun v w=>by kernel_rfl
theorem a_lenPart_callPart:NoA 247 197:=fun v w=>by kernel_rfl
theorem m_convertPart_kids (a:Option Addr) (x y x2 y2:Int):IsM 249 (.agg #[.pointer a,.int .i64 x,.int .i64 y,.int .i64 x2,.int .i64 y2]) "loop.example/g00306/impl.kids" 255 a:=fun w=>by kernel_rfl
theorem m_convertPart_blocks (a:Option Addr) (x y x2 y2:Int):IsM 249 (.agg #[.pointer a,.int .i64 x,.int .i64 y,.int .i64 x2,.int .i64 y2]) "loop.example/g00306/impl.blocks" 254 a:=fun w=>by kernel_rfl
theorem a_convertPart_declarePart:NoA 249 190:=fun v w=>by kernel_rfl
theorem a_convertPart_varPart:NoA 249 196:=fun v w=>by kernel_rfl
theorem a_convertPart_callPart:NoA 249 197:=fun v w=>by kernel_rfl
theorem m_binPart_kids (a:Option Addr) :IsM 250 (.agg #[.pointer a]) "loop.example/g00306/impl.kids" 255 a:=fun w=>by kernel_rfl
theorem m_binPart_blocks (a:Option Addr) :IsM 250 (.agg #[.pointer a]) "loop.example/g00306/impl.blocks" 254 a:=fun w=>by kernel_rfl
theorem a_binPart_declarePart:NoA 250 190:=fun v w=>by kernel_rfl
theorem a_binPart_varPart:NoA 250 196:=fun v w=>by kernel_rfl
theorem a_binPart_callPart:NoA 250 197:=fun v w=>by kernel_rfl
theorem m_exprPart_kids (a:Option Addr) :IsM 194 (.agg #[.pointer a]) "loop.example/g00306/impl.kids" 255 a:=fun w=>by kernel_rfl
theorem m_exprPart_blocks (a:Option Addr) :IsM 194 (.agg #[.pointer a]) "loop.example/g00306/impl.blocks" 254 a:=fun w=>by kernel_rfl
theorem a_exprPart_declarePart:NoA 194 190:=fun v w=>by kernel_rfl
theorem a_exprPart_varPart:NoA 194 196:=fun v w=>by kernel_rfl
theorem a_exprPart_callPart:NoA 194 197:=fun v w=>by kernel_rfl
theorem m_declarePart_kids (a:Option Addr) :IsM 190 (.agg #[.pointer a]) "loop.example/g00306/impl.kids" 253 a:=fun w=>by kernel_rfl
theorem m_declarePart_blocks (a:Option Addr) :IsM 190 (.agg #[.pointer a]) "loop.example/g00306/impl.blocks" 252 a:=fun w=>by kernel_rfl
theorem a_declarePart_declarePart (v:Value) (w:World):(Instr.typeAssert (.iface 190 v) 152 190 true).run Tryz.prog w=.ok (.tuple #[v,.bool true]) w:=by kernel_rfl
theorem a_declarePart_varPart:NoA 190 196:=fun v w=>by kernel_rfl
theorem a_declarePart_callPart:NoA 190 197:=fun v w=>by kernel_rfl
theorem m_setPart_kids (a:Option Addr) :IsM 198 (.agg #[.pointer a]) "loop.example/g00306/impl.kids" 253 a:=fun w=>by kernel_rfl
theorem m_setPart_blocks (a:Option Addr) :IsM 198 (.agg #[.pointer a]) "loop.example/g00306/impl.blocks" 252 a:=fun w=>by kernel_rfl
theorem a_setPart_declarePart:NoA 198 190:=fun v w=>by kernel_rfl
theorem a_setPart_varPart:NoA 198 196:=fun v w=>by kernel_rfl
theorem a_setPart_callPart:NoA 198 197:=fun v w=>by kernel_rfl
theorem m_ifPart_kids (a:Option Addr) :IsM 199 (.agg #[.pointer a]) "loop.example/g00306/impl.kids" 253 a:=fun w=>by kernel_rfl
theorem m_ifPart_blocks (a:Option Addr) :IsM 199 (.agg #[.pointer a]) "loop.example/g00306/impl.blocks" 252 a:=fun w=>by kernel_rfl
theorem a_ifPart_declarePart:NoA 199 190:=fun v w=>by kernel_rfl
theorem a_ifPart_varPart:NoA 199 196:=fun v w=>by kernel_rfl
theorem a_ifPart_callPart:NoA 199 197:=fun v w=>by kernel_rfl
theorem m_forPart_kids (a:Option Addr) :IsM 200 (.agg #[.pointer a]) "loop.example/g00306/impl.kids" 253 a:=fun w=>by kernel_rfl
theorem m_forPart_blocks (a:Option Addr) :IsM 200 (.agg #[.pointer a]) "loop.example/g00306/impl.blocks" 252 a:=fun w=>by kernel_rfl
theorem a_forPart_declarePart:NoA 200 190:=fun v w=>by kernel_rfl
theorem a_forPart_varPart:NoA 200 196:=fun v w=>by kernel_rfl
theorem a_forPart_callPart:NoA 200 197:=fun v w=>by kernel_rfl
theorem m_returnPart_kids (a:Option Addr) :IsM 201 (.agg #[.pointer a]) "loop.example/g00306/impl.kids" 253 a:=fun w=>by kernel_rfl
theorem m_returnPart_blocks (a:Option Addr) :IsM 201 (.agg #[.pointer a]) "loop.example/g00306/impl.blocks" 252 a:=fun w=>by kernel_rfl
theorem a_returnPart_declarePart:NoA 201 190:=fun v w=>by kernel_rfl
theorem a_returnPart_varPart:NoA 201 196:=fun v w=>by kernel_rfl
theorem a_returnPart_callPart:NoA 201 197:=fun v w=>by kernel_rfl
theorem m_printPart_kids (a:Option Addr) :IsM 202 (.agg #[.pointer a]) "loop.example/g00306/impl.kids" 253 a:=fun w=>by kernel_rfl
theorem m_printPart_blocks (a:Option Addr) :IsM 202 (.agg #[.pointer a]) "loop.example/g00306/impl.blocks" 252 a:=fun w=>by kernel_rfl
theorem a_printPart_declarePart:NoA 202 190:=fun v w=>by kernel_rfl
theorem a_printPart_varPart:NoA 202 196:=fun v w=>by kernel_rfl
theorem a_printPart_callPart:NoA 202 197:=fun v w=>by kernel_rfl
theorem m_panicPart_kids (a:Option Addr) :IsM 203 (.agg #[.pointer a]) "loop.example/g00306/impl.kids" 253 a:=fun w=>by kernel_rfl
theorem m_panicPart_blocks (a:Option Addr) :IsM 203 (.agg #[.pointer a]) "loop.example/g00306/impl.blocks" 252 a:=fun w=>by kernel_rfl
theorem a_panicPart_declarePart:NoA 203 190:=fun v w=>by kernel_rfl
theorem a_panicPart_varPart:NoA 203 196:=fun v w=>by kernel_rfl
theorem a_panicPart_callPart:NoA 203 197:=fun v w=>by kernel_rfl
theorem m_doPart_kids (a:Option Addr) :IsM 204 (.agg #[.pointer a]) "loop.example/g00306/impl.kids" 253 a:=fun w=>by kernel_rfl
theorem m_doPart_blocks (a:Option Addr) :IsM 204 (.agg #[.pointer a]) "loop.example/g00306/impl.blocks" 252 a:=fun w=>by kernel_rfl
theorem a_doPart_declarePart:NoA 204 190:=fun v w=>by kernel_rfl
theorem a_doPart_varPart:NoA 204 196:=fun v w=>by kernel_rfl
theorem a_doPart_callPart:NoA 204 197:=fun v w=>by kernel_rfl
theorem m_stmtPart_kids (a:Option Addr) :IsM 188 (.agg #[.pointer a]) "loop.example/g00306/impl.kids" 253 a:=fun w=>by kernel_rfl
theorem m_stmtPart_blocks (a:Option Addr) :IsM 188 (.agg #[.pointer a]) "loop.example/g00306/impl.blocks" 252 a:=fun w=>by kernel_rfl
theorem a_stmtPart_declarePart:NoA 188 190:=fun v w=>by kernel_rfl
theorem a_stmtPart_varPart:NoA 188 196:=fun v w=>by kernel_rfl
theorem a_stmtPart_callPart:NoA 188 197:=fun v w=>by kernel_rfl
structure PartV (T:TypeId) (v:Value) (a:Addr) (fk fb:Nat):Prop where
 kids:∀ w,(method 418 T v "loop.example/g00306/impl.kids").run Tryz.prog w=.ok (fk,.agg #[.pointer (some a)]) w
 blocks:∀ w,(method 418 T v "loop.example/g00306/impl.blocks").run Tryz.prog w=.ok (fb,.agg #[.pointer (some a)]) w
structure PlainV (T:TypeId) (v:Value):Prop where
 d:∀ w,(Instr.typeAssert (.iface T v) 152 190 true).run Tryz.prog w=.ok (.tuple #[.agg #[.pointer none],.bool false]) w
 u:∀ w,(Instr.typeAssert (.iface T v) 152 196 true).run Tryz.prog w=.ok (.tuple #[.agg #[.pointer none],.bool false]) w
 c:∀ w,(Instr.typeAssert (.iface T v) 152 197 true).run Tryz.prog w=.ok (.tuple #[.agg #[.pointer none],.bool false]) w
theorem exV_part (k n:Int) (g o:Nat):∃ T v,exV k n g o=.iface T v∧PartV T v ⟨g,o,none⟩ 255 254∧(k≠3→k≠6→PlainV T v):=by
 unfold exV
 rcases formE_cases k with (rfl|rfl|rfl|rfl|rfl|rfl|rfl|rfl|rfl|rfl|rfl|rfl|rfl|rfl)|⟨n0,n1,n2,n3,n4,n5,n6,n7,n8,n9,n10,n11,n12,n13⟩
 ·exact⟨_,_,rfl,⟨fun w=>m_plainPart_kids _ _ _ w,fun w=>m_plainPart_blocks _ _ _ w⟩,fun h3 h6=>⟨fun w=>a_plainPart_declarePart _ w,fun w=>a_plainPart_varPart _ w,fun w=>a_plainPart_callPart _ w⟩⟩
 ·exact⟨_,_,rfl,⟨fun w=>m_plainPart_kids _ _ _ w,fun w=>m_plainPart_blocks _ _ _ w⟩,fun h3 h6=>⟨fun w=>a_plainPart_declarePart _ w,fun w=>a_plainPart_varPart _ w,fun w=>a_plainPart_callPart _ w⟩⟩
 ·exact⟨_,_,rfl,⟨fun w=>m_plainPart_kids _ _ _ w,fun w=>m_plainPart_blocks _ _ _ w⟩,fun h3 h6=>⟨fun w=>a_plainPart_declarePart _ w,fun w=>a_plainPart_varPart _ w,fun w=>a_plainPart_callPart _ w⟩⟩
 ·exact⟨_,_,rfl,⟨fun w=>m_varPart_kids _ w,fun w=>m_varPart_blocks _ w⟩,fun h3 h6=>absurd rfl h3⟩
 ·exact⟨_,_,rfl,⟨fun w=>m_plainPart_kids _ _ _ w,fun w=>m_plainPart_blocks _ _ _ w⟩,fun h3 h6=>⟨fun w=>a_plainPart_declarePart _ w,fun w=>a_plainPart_varPart _ w,fun w=>a_plainPart_callPart _ w⟩⟩
 ·exact⟨_,_,rfl,⟨fun w=>m_makePart_kids _ w,fun w=>m_makePart_blocks _ w⟩,fun h3 h6=>⟨fun w=>a_makePart_declarePart _ w,fun w=>a_makePart_varPart _ w,fun w=>a_makePart_callPart _ w⟩⟩
 ·exact⟨_,_,rfl,⟨fun w=>m_callPart_kids _ w,fun w=>m_callPart_blocks _ w⟩,fun h3 h6=>absurd rfl h6⟩
 ·exact⟨_,_,rfl,⟨fun w=>m_fieldPart_kids _ w,fun w=>m_fieldPart_blocks _ w⟩,fun h3 h6=>⟨fun w=>a_fieldPart_declarePart _ w,fun w=>a_fieldPart_varPart _ w,fun w=>a_fieldPart_callPart _ w⟩⟩
 ·exact⟨_,_,rfl,⟨fun w=>m_indexPart_kids _ w,fun w=>m_indexPart_blocks _ w⟩,fun h3 h6=>⟨fun w=>a_indexPart_declarePart _ w,fun w=>a_indexPart_varPart _ w,fun w=>a_indexPart_callPart _ w⟩⟩
 ·exact⟨_,_,rfl,⟨fun w=>m_lenPart_kids _ w,fun w=>m_lenPart_blocks _ w⟩,fun h3 h6=>⟨fun w=>a_lenPart_declarePart _ w,fun w=>a_lenPart_varPart _ w,fun w=>a_lenPart_callPart _ w⟩⟩
 ·exact⟨_,_,rfl,⟨fun w=>m_binPart_kids _ w,fun w=>m_binPart_blocks _ w⟩,fun h3 h6=>⟨fun w=>a_binPart_declarePart _ w,fun w=>a_binPart_varPart _ w,fun w=>a_binPart_callPart _ w⟩⟩
 ·exact⟨_,_,rfl,⟨fun w=>m_plainPart_kids _ _ _ w,fun w=>m_plainPart_blocks _ _ _ w⟩,fun h3 h6=>⟨fun w=>a_plainPart_declarePart _ w,fun w=>a_plainPart_varPart _ w,fun w=>a_plainPart_callPart _ w⟩⟩
 ·exact⟨_,_,rfl,⟨fun w=>m_convertPart_kids _ _ _ _ _ w,fun w=>m_convertPart_blocks _ _ _ _ _ w⟩,fun h3 h6=>⟨fun w=>a_convertPart_declarePart _ w,fun w=>a_convertPart_varPart _ w,fun w=>a_convertPart_callPart _ w⟩⟩
 ·exact⟨_,_,rfl,⟨fun w=>m_convertPart_kids _ _ _ _ _ w,fun w=>m_convertPart_blocks _ _ _ _ _ w⟩,fun h3 h6=>⟨fun w=>a_convertPart_declarePart _ w,fun w=>a_convertPart_varPart _ w,fun w=>a_convertPart_callPart _ w⟩⟩
 ·rw[if_neg n0,if_neg n1,if_neg n2,if_neg n3,if_neg n4,if_neg n5,if_neg n6,if_neg n7,if_neg n8,if_neg n9,if_neg n10,if_neg n11,if_neg n12,if_neg n13]
  exact⟨_,_,rfl,⟨fun w=>m_exprPart_kids _ w,fun w=>m_exprPart_blocks _ w⟩,fun h3 h6=>⟨fun w=>a_exprPart_declarePart _ w,fun w=>a_exprPart_varPart _ w,fun w=>a_exprPart_callPart _ w⟩⟩
theorem stV_part (k:Int) (g o:Nat):PartV (stT k) (.agg #[.pointer (some ⟨g,o,none⟩)]) ⟨g,o,none⟩ 253 252∧(k≠0→PlainV (stT k) (.agg #[.pointer (some ⟨g,o,none⟩)])):=by
 unfold stT
 rcases formS_cases k with (rfl|rfl|rfl|rfl|rfl|rfl|rfl|rfl)|⟨n0,n1,n2,n3,n4,n5,n6,n7⟩
 ·exact⟨⟨fun w=>m_declarePart_kids _ w,fun w=>m_declarePart_blocks _ w⟩,fun h0=>absurd rfl h0⟩
 ·exact⟨⟨fun w=>m_setPart_kids _ w,fun w=>m_setPart_blocks _ w⟩,fun h0=>⟨fun w=>a_setPart_declarePart _ w,fun w=>a_setPart_varPart _ w,fun w=>a_setPart_callPart _ w⟩⟩
 ·exact⟨⟨fun w=>m_ifPart_kids _ w,fun w=>m_ifPart_blocks _ w⟩,fun h0=>⟨fun w=>a_ifPart_declarePart _ w,fun w=>a_ifPart_varPart _ w,fun w=>a_ifPart_callPart _ w⟩⟩
 ·exact⟨⟨fun w=>m_forPart_kids _ w,fun w=>m_forPart_blocks _ w⟩,fun h0=>⟨fun w=>a_forPart_declarePart _ w,fun w=>a_forPart_varPart _ w,fun w=>a_forPart_callPart _ w⟩⟩
 ·exact⟨⟨fun w=>m_returnPart_kids _ w,fun w=>m_returnPart_blocks _ w⟩,fun h0=>⟨fun w=>a_returnPart_declarePart _ w,fun w=>a_returnPart_varPart _ w,fun w=>a_returnPart_callPart _ w⟩⟩
 ·exact⟨⟨fun w=>m_printPart_kids _ w,fun w=>m_printPart_blocks _ w⟩,fun h0=>⟨fun w=>a_printPart_declarePart _ w,fun w=>a_printPart_varPart _ w,fun w=>a_printPart_callPart _ w⟩⟩
 ·exact⟨⟨fun w=>m_panicPart_kids _ w,fun w=>m_panicPart_blocks _ w⟩,fun h0=>⟨fun w=>a_panicPart_declarePart _ w,fun w=>a_panicPart_varPart _ w,fun w=>a_panicPart_callPart _ w⟩⟩
 ·exact⟨⟨fun w=>m_doPart_kids _ w,fun w=>m_doPart_blocks _ w⟩,fun h0=>⟨fun w=>a_doPart_declarePart _ w,fun w=>a_doPart_varPart _ w,fun w=>a_doPart_callPart _ w⟩⟩
 ·rw[if_neg n0,if_neg n1,if_neg n2,if_neg n3,if_neg n4,if_neg n5,if_neg n6,if_neg n7]
  exact⟨⟨fun w=>m_stmtPart_kids _ w,fun w=>m_stmtPart_blocks _ w⟩,fun h0=>⟨fun w=>a_stmtPart_declarePart _ w,fun w=>a_stmtPart_varPart _ w,fun w=>a_stmtPart_callPart _ w⟩⟩
def nbN (fs all seen:List (List Int)) (k n:Int) (nm:List Int):Int:=if k=3 then (seenF all seen nm).getD 0 else if k=6 then (plc fs nm).getD 0 else n
mutual
def Ex.nb (fs all seen:List (List Int)):Ex→Ex
 | .mk k n tk tn nm ks=>.mk k (nbN fs all seen k n nm) tk tn nm (Ex.nbs fs all seen ks)
def Ex.nbs (fs all seen:List (List Int)):List Ex→List Ex
 | []=>[]
 | x::r=>x.nb fs all seen::Ex.nbs fs all seen r
end
theorem Ex.nbs_map (fs all seen:List (List Int)) (l:List Ex):Ex.nbs fs all seen l=l.map (Ex.nb fs all seen):=by
 induction l with
 | nil=>rw[Ex.nbs];rfl
 | cons x r ih=>rw[Ex.nbs,ih];rfl
theorem Ex.nb_eq (fs all seen:List (List Int)) (x:Ex):(x.nb fs all seen).kind=x.kind∧(x.nb fs all seen).n=nbN fs all seen x.kind x.n x.name∧(x.nb fs all seen).tk=x.tk∧(x.nb fs all seen).tn=x.tn∧(x.nb fs all seen).name=x.name∧(x.nb fs all seen).kids=Ex.nbs fs all seen x.kids:=by
 obtain⟨k,n,tk,tn,nm,ks⟩:=x
 rw[Ex.nb]
 exact⟨rfl,rfl,rfl,rfl,rfl,rfl⟩
theorem Ex.dats_mp (l:List Ex):Ex.dats l=l.map Ex.dat:=by
 induction l with
 | nil=>rfl
 | cons x r ih=>show x.dat::Ex.dats r=_;rw[ih];rfl
def Sp (K bf bd bs b:Nat):Prop:=b≠K∧b≠bf∧b≠bd∧b≠bs∧b≠0∧b≠1
theorem Ng.onlyF {w w':World}{K bf bd bs:Nat}{fs all seen:List (List Int)}{F:List Nat}(h:Ng w K bf bd bs fs all seen) (o:OnlyF F w w') (hs:∀ b∈F,Sp K bf bd bs b):Ng w' K bf bd bs fs all seen:=by
 refine h.kept o.size fun b hb=>?_
 obtain⟨n,hf⟩:=h.mf
 obtain⟨m,_,hm⟩:=h.ms
 rcases hb with rfl|rfl|rfl|rfl
 ·exact o.block _ h.box.lt (fun q=>(hs _ q).1 rfl)
 ·exact o.block _ hf.lt (fun q=>(hs _ q).2.1 rfl)
 ·exact o.block _ h.md.lt (fun q=>(hs _ q).2.2.1 rfl)
 ·exact o.block _ hm.lt (fun q=>(hs _ q).2.2.2.1 rfl)
theorem Ng.later {w w':World}{K bf bd bs:Nat}{fs all seen:List (List Int)}(h:Ng w K bf bd bs fs all seen) (o:Later w w'):Ng w' K bf bd bs fs all seen:=by
 refine h.kept o.size fun b hb=>?_
 obtain⟨n,hf⟩:=h.mf
 obtain⟨m,_,hm⟩:=h.ms
 rcases hb with rfl|rfl|rfl|rfl
 ·exact o.block _ h.box.lt
 ·exact o.block _ hf.lt
 ·exact o.block _ h.md.lt
 ·exact o.block _ hm.lt
theorem cell_block {w w':World}{b o:Nat}(h:w'.heap[b]?=w.heap[b]?):w'.cell? ⟨b,o,none⟩=w.cell? ⟨b,o,none⟩∧w'.frozen? ⟨b,o,none⟩=w.frozen? ⟨b,o,none⟩:=by unfold World.cell? World.frozen?;rw[h];exact⟨rfl,rfl⟩
theorem TyE.onlyF {w w':World}{K bf bd bs:Nat}{F:List Nat}(h:TyE w) (o:OnlyF F w w') (hs:∀ b∈F,Sp K bf bd bs b):TyE w':=by
 have hi:=o.block _ (ltCell h.i0) (fun q=>(hs _ q).2.2.2.2.1 rfl)
 have hf:=o.block _ (ltCell h.f0) (fun q=>(hs _ q).2.2.2.2.2 rfl)
 exact⟨by rw[(cell_block hi).1];exact h.i0,by rw[(cell_block hi).1];exact h.i1,by rw[(cell_block hf).1];exact h.f0,by rw[(cell_block hf).1];exact h.f1⟩
structure EIn (w:World) (K bf bd bs:Nat) (fs all seen:List (List Int)) (x:Ex) (g o:Nat) (v0 v1:Value) (G0 G1:List Nat):Prop where
 ng:Ng w K bf bd bs fs all seen
 ty:TyE w
 lt:g<w.heap.size
 cells:∀ m u,[.int .i64 x.kind,.int .i64 x.n,.int .i64 x.tk,.int .i64 x.tn,v0,v1][m]?=some u→w.cell? ⟨g,o+m,none⟩=some u∧w.frozen? ⟨g,o+m,none⟩=false
 nm:OwnD w (.bytes x.name) [v0] G0
 kids:OwnD w (.list 6 (Ex.dats x.kids)) [v1] G1
 nd:(g::(G0++G1)).Nodup
 sep:∀ b∈g::(G0++G1),Sp K bf bd bs b
theorem EIn.later {w w':World}{K bf bd bs:Nat}{fs all seen:List (List Int)}{x:Ex}{g o:Nat}{v0 v1:Value}{G0 G1:List Nat}(h:EIn w K bf bd bs fs all seen x g o v0 v1 G0 G1) (l:Later w w'):EIn w' K bf bd bs fs all seen x g o v0 v1 G0 G1:=by
 have hb:=fun y=>cell_block (w:=w) (w':=w') (b:=g) (o:=y) (l.block g h.lt)
 exact⟨h.ng.later l,h.ty.later l,Nat.lt_of_lt_of_le h.lt l.size,fun m u hm=>by rw[(hb (o+m)).1,(hb (o+m)).2];exact h.cells m u hm,OwnD.agree l.size _ h.nm (fun b q=>l.block b (OwnD.lt _ h.nm b q)),OwnD.agree l.size _ h.kids (fun b q=>l.block b (OwnD.lt _ h.kids b q)),h.nd,h.sep⟩
def EPt (w:World) (fs all seen:List (List Int)) (x:Ex) (g o:Nat) (v1:Value) (G1:List Nat) (e:Ending) (w':World):Prop :=
 ∃ b,e=.returned (.bool b)∧b=x.usesB fs seen∧OnlyC g (o+1) G1 w w'∧(b=true→w'.cell? ⟨g,o+1,none⟩=some (.int .i64 (nbN fs all seen x.kind x.n x.name))∧OwnD w' (.list 6 (Ex.dats (Ex.nbs fs all seen x.kids))) [v1] G1)
def EWi (w:World) (fs all seen:List (List Int)) (ks:List Ex) (v1:Value) (G1:List Nat) (e:Ending) (w':World):Prop :=
 ∃ b,e=.returned (.bool b)∧b=Ex.usesBs fs seen ks∧OnlyF G1 w w'∧(b=true→OwnD w' (.list 6 (Ex.dats (Ex.nbs fs all seen ks))) [v1] G1)
def sofar (fs all seen:List (List Int)) (ks:List Ex) (j:Nat):List Ex:=Ex.nbs fs all seen (ks.take j)++ks.drop j
theorem sofar_len (fs all seen:List (List Int)) (ks:List Ex) (j:Nat):(sofar fs all seen ks j).length=ks.length:=by unfold sofar;rw[Ex.nbs_map,List.length_append,List.length_map,List.length_take,List.length_drop];omega
theorem sofar_at (fs all seen:List (List Int)) (ks:List Ex) (j:Nat) (h:j<ks.length):(sofar fs all seen ks j)[j]'(by rw[sofar_len];exact h)=ks[j]:=by
 unfold sofar
 have e:(Ex.nbs fs all seen (ks.take j)).length=j:=by rw[Ex.nbs_map,List.length_map,List.length_take];omega
 rw[List.getElem_append_right (by omega)]
 simp[e]
theorem sofar_set (fs all seen:List (List Int)) (ks:List Ex) (j:Nat) (h:j<ks.length):(sofar fs all seen ks j).set j (ks[j].nb fs all seen)=sofar fs all seen ks (j+1):=by
 unfold sofar
 have e:(Ex.nbs fs all seen (ks.take j)).length=j:=by rw[Ex.nbs_map,List.length_map,List.length_take];omega
 rw[List.set_append_right _ _ (by omega),e,Nat.sub_self,List.drop_eq_getElem_cons h,List.set_cons_zero,List.take_succ_eq_append_getElem h,Ex.nbs_map,Ex.nbs_map,List.map_append,List.append_assoc]
 rfl
theorem kid_step {w wr:World}{K bf bd bs:Nat}{fs all seen:List (List Int)}{ks:List Ex}{gk:Nat}{F:List Nat}{j:Nat}(hng:Ng w K bf bd bs fs all seen) (hty:TyE w) (hl:gk<w.heap.size) (hO:OnlyF (gk::F) w wr) (hA:OwnAll wr 6 gk 0 (Ex.dats (sofar fs all seen ks j)) F) (hnd:(gk::F).Nodup) (hsp:∀ b∈gk::F,Sp K bf bd bs b) (hj:j<ks.length) :
  ∃ u0 u1 H0 H1,EIn wr K bf bd bs fs all seen ks[j] gk (j*6) u0 u1 H0 H1∧∀ w1 w2,Later wr w1→OnlyC gk (j*6+1) H1 w1 w2→OnlyF (gk::F) w w2∧(w2.cell? ⟨gk,j*6+1,none⟩=some (.int .i64 (nbN fs all seen ks[j].kind ks[j].n ks[j].name))→OwnD w2 (.list 6 (Ex.dats (Ex.nbs fs all seen ks[j].kids))) [u1] H1→OwnAll w2 6 gk 0 (Ex.dats (sofar fs all seen ks (j+1))) F):=by
 have hjl:j<(Ex.dats (sofar fs all seen ks j)).length:=by rw[Ex.dats_len,sofar_len];exact hj
 obtain⟨cs,F1,Fj,F2,rfl,hk,hc,hd,HK⟩:=OwnAll.lens _ j hjl hA
 rw[Ex.dats_at _ j (by rw[sofar_len];exact hj),sofar_at _ _ _ _ _ hj]at hd
 obtain⟨u0,u1,H0,H1,rfl,rfl,hn,hkd⟩:=Ex.ownView hd
 rw[Nat.zero_add]at hc HK
 have hlr:gk<wr.heap.size:=Nat.lt_of_lt_of_le hl hO.size
 have hin:∀ b∈H0++H1,b∈F1++((H0++H1)++F2):=fun b q=>List.mem_append_right _ (List.mem_append_left _ q)
 have hnd':=List.nodup_cons.1 hnd
 have hgn:gk∉H0++H1:=fun q=>hnd'.1 (hin _ q)
 have n1:=List.nodup_append.1 hnd'.2
 have n2:=List.nodup_append.1 n1.2.1
 have n3:=List.nodup_append.1 n2.1
 refine⟨u0,u1,H0,H1,⟨hng.onlyF hO hsp,hty.onlyF hO hsp,hlr,hc,hn,hkd,List.nodup_cons.2 ⟨hgn,n2.1⟩,fun b q=>hsp b ?_⟩,fun w1 w2 l1 oc=>⟨?_,fun hcell hown=>?_⟩⟩
 ·rcases List.mem_cons.1 q with rfl|q
  ·exact List.mem_cons_self ..
  ·exact List.mem_cons_of_mem _ (hin b q)
 ·have o1:OnlyF (gk::(F1++((H0++H1)++F2))) wr w1:=⟨l1.os,l1.tape,l1.output,l1.size,fun b hb _=>l1.block b hb⟩
  refine (hO.trans o1).trans (oc.only.mono fun b q=>?_)
  rcases List.mem_cons.1 q with rfl|q
  ·exact List.mem_cons_self ..
  ·exact List.mem_cons_of_mem _ (hin b (List.mem_append_right _ q))
 ·have hb1:∀ b,b<wr.heap.size→b∉H1→b≠gk→w2.heap[b]?=wr.heap[b]?:=fun b hb hn hg=>by rw[oc.block b (Nat.lt_of_lt_of_le hb l1.size) hn hg,l1.block b hb]
  have hcell1:∀ y,y≠j*6+1→w2.cell? ⟨gk,y,none⟩=wr.cell? ⟨gk,y,none⟩:=fun y hy=>by rw[oc.cells y hy,(cell_block (l1.block gk hlr)).1]
  have hfr1:∀ y,w2.frozen? ⟨gk,y,none⟩=wr.frozen? ⟨gk,y,none⟩:=fun y=>by rw[oc.froz y,(cell_block (l1.block gk hlr)).2]
  have hsz:wr.heap.size≤w2.heap.size:=Nat.le_trans l1.size oc.size
  have hn2:OwnD w2 (.bytes ks[j].name) [u0] H0:=OwnD.agree hsz _ hn (fun b q=>hb1 b (OwnD.lt _ hn b q) (fun q'=>n3.2.2 b q b q' rfl) (fun e=>hgn (e ▸ List.mem_append_left _ q)))
  obtain⟨e1,e2,e3,e4,e5,e6⟩:=Ex.nb_eq fs all seen ks[j]
  have hd2:=Ex.own (x:=ks[j].nb fs all seen) (by rw[e5];exact hn2) (by rw[e6];exact hown)
  have hgoal:=HK w2 (ks[j].nb fs all seen).dat _ rfl (fun m u hm=>?_) hd2 hsz (fun y hy=>⟨hcell1 y (by omega),hfr1 y⟩) (fun b q=>?_)
  ·rw[Ex.dats_mp,← List.map_set,sofar_set _ _ _ _ _ hj,← Ex.dats_mp]at hgoal
   exact hgoal
  ·rw[e1,e2,e3,e4]at hm
   by_cases hm1:m=1
   ·subst hm1
    have:u=.int .i64 (nbN fs all seen ks[j].kind ks[j].n ks[j].name):=by simpa using hm.symm
    rw[this]
    exact⟨hcell,by rw[hfr1];exact (hc 1 _ rfl).2⟩
   ·have:[Value.int .i64 ks[j].kind,.int .i64 ks[j].n,.int .i64 ks[j].tk,.int .i64 ks[j].tn,u0,u1][m]?=some u:=by
     rcases m with _|_|m
     ·exact hm
     ·exact absurd rfl hm1
     ·exact hm
    rw[hcell1 _ (by omega),hfr1]
    exact hc m u this
  ·have hbm:b∈F1++((H0++H1)++F2):=by rcases q with q|q;exact List.mem_append_left _ q;exact List.mem_append_right _ (List.mem_append_right _ q)
   refine hb1 b ?_ (fun q'=>?_) (fun e=>hnd'.1 (e ▸ hbm))
   ·exact OwnAll.lt _ hA b hbm
   ·rcases q with q|q
    ·exact n1.2.2 b q b (List.mem_append_left _ (List.mem_append_right _ q')) rfl
    ·exact n2.2.2 b (List.mem_append_right _ q') b q rfl
theorem kids_open {w:World}{fs all seen:List (List Int)}{ks:List Ex}{v:Value}{G:List Nat}(h:OwnD w (.list 6 (Ex.dats ks)) [v] G):∃ a cap,v=.slice a ks.length cap∧ks.length≤1048576∧(0<ks.length→∃ g F,a=some ⟨g,0,none⟩∧G=g::F∧g<w.heap.size∧OwnAll w 6 g 0 (Ex.dats ks) F) ∧
  (∀ w',w.heap.size≤w'.heap.size→(∀ g F,G=g::F→0<ks.length→OwnAll w' 6 g 0 (Ex.dats (Ex.nbs fs all seen ks)) F)→OwnD w' (.list 6 (Ex.dats (Ex.nbs fs all seen ks))) [v] G):=by
 rw[OwnD]at h
 obtain⟨a,cap,hc,⟨h1,h2,h3⟩,hp,hz⟩:=h
 have hv:v=.slice a (Ex.dats ks).length cap:=by simpa using hc
 rw[Ex.dats_len]at *
 subst hv
 refine⟨a,cap,rfl,h1,hp,fun w' hs hA=>?_⟩
 have el:(Ex.nbs fs all seen ks).length=ks.length:=by rw[Ex.nbs_map,List.length_map]
 rw[OwnD,Ex.dats_len,el]
 refine⟨a,cap,rfl,⟨h1,h2,h3⟩,fun q=>?_,hz⟩
 obtain⟨g,F,e1,e2,e3,_⟩:=hp q
 exact⟨g,F,e1,e2,by omega,hA g F e2 q⟩
theorem OnlyF.of_later {F:List Nat}{w w':World}(h:Later w w'):OnlyF F w w':=⟨h.os,h.tape,h.output,h.size,fun b hb _=>h.block b hb⟩
theorem sofar_zero (fs all seen:List (List Int)) (ks:List Ex):sofar fs all seen ks 0=ks:=by unfold sofar;rw[List.take_zero,Ex.nbs];rfl
theorem sofar_all (fs all seen:List (List Int)) (ks:List Ex):sofar fs all seen ks ks.length=Ex.nbs fs all seen ks:=by unfold sofar;rw[List.take_length,List.drop_length,List.append_nil]
theorem usesBs_app (fs seen:List (List Int)) (l r:List Ex):Ex.usesBs fs seen (l++r)=(Ex.usesBs fs seen l&&Ex.usesBs fs seen r):=by
 induction l with
 | nil=>rw[List.nil_append,Ex.usesBs,Bool.true_and]
 | cons x l ih=>rw[List.cons_append,Ex.usesBs,Ex.usesBs,ih,Bool.and_assoc]
theorem usesBs_take {fs seen:List (List Int)}{ks:List Ex}{j:Nat}(h:j<ks.length):Ex.usesBs fs seen (ks.take (j+1))=(Ex.usesBs fs seen (ks.take j)&&ks[j].usesB fs seen):=by rw[List.take_succ_eq_append_getElem h,usesBs_app,Ex.usesBs,Ex.usesBs,Bool.and_true]
theorem usesBs_not {fs seen:List (List Int)}{ks:List Ex}{j:Nat}(h:j<ks.length) (hb:ks[j].usesB fs seen=false):Ex.usesBs fs seen ks=false:=by
 have e:=List.take_append_drop (j+1) ks
 rw[←e,usesBs_app,usesBs_take h,hb,Bool.and_false,Bool.false_and]
def EPart (x:Ex):Prop:=∀ w K bf bd bs fs all seen g o v0 v1 G0 G1,EIn w K bf bd bs fs all seen x g o v0 v1 G0 G1→Calls Tryz.prog 108 #[.pointer (some ⟨K,0,none⟩),exV x.kind x.n g o] w (EPt w fs all seen x g o v1 G1)
theorem iwithinE (ks:List Ex) (hI:∀ j (hj:j<ks.length),EPart ks[j]) (w:World) (K bf bd bs:Nat) (fs all seen:List (List Int)) (g o:Nat) (v1:Value) (G1:List Nat) (T:TypeId) (pv:Value)
  (hng:Ng w K bf bd bs fs all seen) (hty:TyE w) (h5:w.cell? ⟨g,o+5,none⟩=some v1) (hk:OwnD w (.list 6 (Ex.dats ks)) [v1] G1) (hnd:G1.Nodup) (hsp:∀ b∈G1,Sp K bf bd bs b)
  (hV:PartV T pv ⟨g,o,none⟩ 255 254) :
  Calls Tryz.prog 145 #[.pointer (some ⟨K,0,none⟩),.iface T pv] w (EWi w fs all seen ks v1 G1):=by
 obtain⟨a,cap,rfl,hlen,hpos,hback⟩:=kids_open (fs:=fs) (all:=all) (seen:=seen) hk
 have hmk:=hV.kids
 have hmb:=hV.blocks
 have hK:=ikidE g o a ks.length cap w h5
 have hB:=fun w'=>iblkE (.agg #[.pointer (some ⟨g,o,none⟩)]) w' ⟨_,rfl⟩
 have HF:Hid (∀ w' j,(hj:j<ks.length)→OnlyF G1 w w'→ks[j].usesB fs seen=false→EWi w fs all seen ks (.slice a ks.length cap) G1 (.returned (.bool false)) w'):=fun w' j hj o1 hb=>⟨false,rfl,(usesBs_not hj hb).symm,o1,fun h=>by cases h⟩
 have HT:Hid (∀ w',OnlyF G1 w w'→(∀ g F,G1=g::F→0<ks.length→OwnAll w' 6 g 0 (Ex.dats (sofar fs all seen ks ks.length)) F)→Ex.usesBs fs seen (ks.take ks.length)=true→EWi w fs all seen ks (.slice a ks.length cap) G1 (.returned (.bool true)) w'):=fun w' o1 hA hu=>⟨true,rfl,by rw[List.take_length]at hu;exact hu.symm,o1,fun _=>hback w' o1.size (fun g F e q=>by have:=hA g F e q;rw[sofar_all]at this;exact this)⟩
 have HS:Hid (∀ g F,G1=g::F→0<ks.length→OwnAll w 6 g 0 (Ex.dats (sofar fs all seen ks 0)) F):=fun g' F e q=>by
  obtain⟨g2,F2,_,e2,_,hA⟩:=hpos q
  rw[e]at e2
  cases e2
  rw[sofar_zero]
  exact hA
 have HP:Hid (0<ks.length→∃ g F,a=some ⟨g,0,none⟩∧G1=g::F∧g<w.heap.size):=fun q=>by obtain⟨g2,F2,e1,e2,e3,_⟩:=hpos q;exact⟨g2,F2,e1,e2,e3⟩
 have HL:Hid (∀ b∈G1,b<w.heap.size):=fun b q=>OwnD.lt _ hk b q
 have hI':Hid (∀ j (hj:j<ks.length),EPart ks[j]):=hI
 clear hV hback hpos hk hI h5
 generalize hQ:EWi w fs all seen ks (.slice a ks.length cap) G1=Q at *
 clear hQ
 go_enter Tryz.func145,Tryz.ntmps145
 go_wp2_with fail
 refine hK.mono ?_
 rintro e w1 ⟨rfl,l1⟩
 have o1:OnlyF G1 w w1:=OnlyF.of_later l1
 have HS1:Hid (∀ g F,G1=g::F→0<ks.length→OwnAll w1 6 g 0 (Ex.dats (sofar fs all seen ks 0)) F):=fun g' F e q=>by
  obtain⟨g2,F2,e1,e2,e3⟩:=HP.out q
  rw[e2]at e
  cases e
  exact OwnAll.agree l1.size _ (HS.out _ _ e2 q) (l1.block _ e3) (fun b hb=>l1.block b (HL.out b (by rw[e2];exact List.mem_cons_of_mem _ hb)))
 clear hK HS l1
 go_wp2_with fail
 go_loopw [13] (fun i wr=>∃ (j:Nat),i=.int .i64 (j:Int)∧j≤ks.length∧OnlyF G1 w wr∧(∀ g F,G1=g::F→0<ks.length→OwnAll wr 6 g 0 (Ex.dats (sofar fs all seen ks j)) F)∧Hid (Ex.usesBs fs seen (ks.take j)=true)) (fun i _=>ks.length - (intOf i).toNat)
 case atStart=>exact⟨0,rfl,Nat.zero_le _,o1,HS1.out,by unfold Hid;rw[List.take_zero,Ex.usesBs]⟩
 case round =>
  obtain⟨j,rfl,hj,oR,hA,HU⟩:=hrel
  clear o1 HS1
  by_cases hlt:j<ks.length
  ·obtain⟨gk,F,rfl,rfl,hgk⟩:=HP.out (by omega)
   have i1:(j:Int)<(ks.length:Int):=by omega
   obtain⟨u0,u1,H0,H1,hE,HK⟩:=kid_step hng hty hgk oR (hA _ _ rfl (by omega)) hnd hsp hlt
   have hP1:=ipex_any ks[j].kind ks[j].n gk (j*6) wr hE.ty (hE.cells 0 _ rfl).1 (hE.cells 1 _ rfl).1
   have hP2:=fun w' (l:Later wr w')=>hI'.out j hlt w' K bf bd bs fs all seen gk (j*6) u0 u1 H0 H1 (hE.later l)
   have HK':Hid (∀ w1 w2,Later wr w1→OnlyC gk (j*6+1) H1 w1 w2→OnlyF (gk::F) w w2∧(w2.cell? ⟨gk,j*6+1,none⟩=some (.int .i64 (nbN fs all seen ks[j].kind ks[j].n ks[j].name))→OwnD w2 (.list 6 (Ex.dats (Ex.nbs fs all seen ks[j].kids))) [u1] H1→OwnAll w2 6 gk 0 (Ex.dats (sofar fs all seen ks (j+1))) F)):=HK
   have hgw:=hE.lt
   clear HK hE hA oR
   go_wp2_with fail
   refine hP1.mono ?_
   rintro e w2 ⟨rfl,l2⟩
   have hP3:=hP2 w2 l2
   clear hP1 hP2
   generalize hxv:exV ks[j].kind ks[j].n gk (j*6)=xv at *
   clear hxv
   go_wp2_with fail
   refine hP3.mono ?_
   rintro e w3 ⟨b,rfl,hb,oc,hok⟩
   obtain⟨o3,HA⟩:=HK'.out w2 w3 l2 oc
   have HB2:Hid (b=true→OwnAll w3 6 gk 0 (Ex.dats (sofar fs all seen ks (j+1))) F):=fun q=>HA (hok q).1 (hok q).2
   have HU2:Hid (b=true→Ex.usesBs fs seen (ks.take (j+1))=true):=fun q=>by rw[usesBs_take hlt,HU.out,← hb,q];rfl
   have HF2:Hid (b=false→Q (.returned (.bool false)) w3):=fun q=>HF.out w3 j hlt o3 (by rw[←hb,q])
   clear hP3 hok HA HK' oc hb HU
   cases b with
   | false =>
    have HF3:=HF2.out rfl
    clear HF2 HU2 HB2
    go_wp2_with fail
    exact HF3
   | true =>
    have hA3:=HB2.out rfl
    have HU3:Hid (Ex.usesBs fs seen (ks.take (j+1))=true):=HU2.out rfl
    clear HF2 HU2 HB2
    go_wp2_with fail
    go_roundw
    case rel=>exact⟨j+1,by go_num,by omega,o3,fun g' F' e _=>by cases e;exact hA3,HU3⟩
    case measure=>simp[intOf];omega
  ·have i1:¬ (j:Int)<(ks.length:Int):=by omega
   have i2:decide ((j:Int)<(ks.length:Int))=false:=decide_eq_false i1
   have hjj:j=ks.length:=by omega
   subst hjj
   have HT2:Hid (∀ w',Later wr w'→Q (.returned (.bool true)) w'):=fun w' l=>HT.out w' (oR.trans (OnlyF.of_later l)) (fun g' F e q=>by
    obtain⟨g2,F2,e1,e2,e3⟩:=HP.out q
    rw[e2]at e
    cases e
    refine OwnAll.agree l.size _ (hA _ _ e2 q) (l.block _ (Nat.lt_of_lt_of_le e3 oR.size)) (fun b hb=>l.block b (Nat.lt_of_lt_of_le (HL.out b (by rw[e2];exact List.mem_cons_of_mem _ hb)) oR.size))) HU.out
   have hB2:=hB wr
   clear HT hA HU HF hI' HP HL hB
   go_wp2_with fail
   refine hB2.mono ?_
   rintro e w4 ⟨rfl,l4⟩
   have HT3:=HT2.out w4 l4
   clear hB2 HT2
   go_wp2_with fail
   go_loopw [27] (fun i wr=>i=.int .i64 0∧wr=w4) (fun _ _=>0)
   case atStart=>exact⟨rfl,rfl⟩
   case round =>
    obtain⟨rfl,rfl⟩:=hrel
    go_wp2_with fail
    exact HT3
end Go.Proofs.YtmdejbphoafjlaaGreatDoor
