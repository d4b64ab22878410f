/- My texts T14, T15, T16 in one. -/
import Derived.Test.YtmdejbphoafjlaaGreatDoorGi
import Derived.Deep.RegionHeld3
import Derived.Deep.CutRange
set_option maxHeartbeats 100000000
set_option maxRecDepth 100000
namespace Go.Proofs.YtmdejbphoafjlaaGreatDoor
open Go.RowKit
theorem istmts_all (N:Nat):∀ (v:Value) (l:List St) (K:Nat) (s p d:Int) (w0 w:World),St.szs l≤N→(St.goods l)→RdL w0 8 v (St.dats l)→Later w0 w→w0.heap.size≤K→Sv K w s p→0≤p→p≤400→0≤d→d≤31 →
  Calls Tryz.prog 166 #[.pointer (some ⟨K,0,none⟩),v,.int .i64 d] w fun e w'=>SvP K s w (St.runs s d (400 - p) l) e w':=by
 induction N using Nat.strongRecOn with
 | _ N IH =>
 intro v l K s p d w0 w hN hg h hL hK hS hp0 hp1 hd0 hd1
 obtain⟨a,cap,rfl,hl⟩:=St.slice h
 go_enter Tryz.func166,Tryz.ntmps166
 go_wp2_with fail
 go_loopw [11] (fun i wr=>∃ (j:Nat) (q:Int),i=.int .i64 (j:Int)∧j≤l.length∧OnlyK K w wr∧Sv K wr s q∧0≤q∧q≤400∧Hid (St.soFar s d (400 - p) l j (400 - q))) (fun i _=>l.length - (intOf i).toNat)
 case atStart=>exact⟨0,p,rfl,Nat.zero_le _,OnlyK.refl _ _,hS,hp0,hp1,St.soFar_start _ _ _ _⟩
 case round =>
  obtain⟨j,q,rfl,hj,oR,hSr,hq0,hq1,HS⟩:=hrel
  by_cases hlt:j<l.length
  ·obtain⟨g,off,v0,v1,v2,v3,rfl,hgs,c0,c1,c2,c3,c4,c5,c6,c7,r0,r1,r2,r3⟩:=St.elem h j hlt
   have i1:(j:Int)<(l.length:Int):=by omega
   have hLr:=later_only hL oR hK
   have c0:wr.cell? ⟨g,off+j*8,none⟩=some (.int .i64 l[j].kind):=by rw[Below.cell hLr (p:=⟨g,off+j*8,none⟩) hgs];exact c0
   have c1:wr.cell? ⟨g,off+j*8+1,none⟩=some (.int .i64 l[j].n):=by rw[Below.cell hLr (p:=⟨g,off+j*8+1,none⟩) hgs];exact c1
   have c2:wr.cell? ⟨g,off+j*8+2,none⟩=some (.int .i64 l[j].tk):=by rw[Below.cell hLr (p:=⟨g,off+j*8+2,none⟩) hgs];exact c2
   have c3:wr.cell? ⟨g,off+j*8+3,none⟩=some (.int .i64 l[j].tn):=by rw[Below.cell hLr (p:=⟨g,off+j*8+3,none⟩) hgs];exact c3
   have c4:wr.cell? ⟨g,off+j*8+4,none⟩=some (v0):=by rw[Below.cell hLr (p:=⟨g,off+j*8+4,none⟩) hgs];exact c4
   have c5:wr.cell? ⟨g,off+j*8+5,none⟩=some (v1):=by rw[Below.cell hLr (p:=⟨g,off+j*8+5,none⟩) hgs];exact c5
   have c6:wr.cell? ⟨g,off+j*8+6,none⟩=some (v2):=by rw[Below.cell hLr (p:=⟨g,off+j*8+6,none⟩) hgs];exact c6
   have c7:wr.cell? ⟨g,off+j*8+7,none⟩=some (v3):=by rw[Below.cell hLr (p:=⟨g,off+j*8+7,none⟩) hgs];exact c7
   obtain⟨y0,q0,rfl,_⟩:=r0.slice
   obtain⟨y1,q1,rfl,_⟩:=Ex.slice r1
   obtain⟨y2,q2,rfl,_⟩:=St.slice r2
   obtain⟨y3,q3,rfl,_⟩:=St.slice r3
   have hE:=fun w' (lw:Later wr w')=>istmt_any l[j] _ _ _ _ K s q d w0 w' (St.goods_at l j hlt hg) r0 r1 r2 r3 (hLr.trans lw) hK (hSr.later lw) hq0 hq1 hd0 hd1 (fun v' l' p' d' w' g' h' s' L' S' a b c e=>IH (St.szs l') (by have:=St.sz_at l j hlt;omega) v' l' K s p' d' w0 w' (Nat.le_refl _) g' h' L' hK S' a b c e)
   have HN:Hid (∀ l',St.run s d (400 - q) l[j]=some l'→St.soFar s d (400 - p) l (j+1) l'∧0≤l'∧l'<400 - q):=fun l' hr=>⟨St.soFar_next HS.out hlt hr,St.run_le s _ _ _ _ hr⟩
   have HB:Hid (St.run s d (400 - q) l[j]=none→St.runs s d (400 - p) l=none):=fun hr=>St.soFar_bad HS.out hlt hr
   clear r0 r1 r2 r3 h HS
   generalize St.run s d (400 - q) l[j]=R at *
   generalize l[j].kind=z_kind at *
   generalize l[j].n=z_n at *
   generalize l[j].tk=z_tk at *
   generalize l[j].tn=z_tn at *
   go_wp2_with fail
   refine (hE _ (later1 _ _)).mono ?_
   rintro e w1 ⟨o1,hm⟩
   have o:=oR.trans ((OnlyK.of_later (later1 _ _)).trans o1)
   cases R with
   | none =>
    obtain⟨rfl,p',hS1⟩:=hm
    have hb:Hid (St.runs s d (400 - p) l=none):=HB.out rfl
    go_wp2_with fail
    go_ret
    exact SvP.no o hb.out rfl hS1
   | some l' =>
    obtain⟨rfl,hS1⟩:=hm
    obtain⟨n1,n2,n3⟩:=HN.out l' rfl
    have HN1:Hid (St.soFar s d (400 - p) l (j+1) (400 - (400 - l'))):=by rw[show (400:Int) - (400 - l')=l' by omega];exact n1
    clear n1 HN HB hE
    go_wp2_with fail
    go_roundw
    case rel=>exact⟨j+1,400 - l',by go_num,by omega,o,hS1,by omega,by omega,HN1⟩
    case measure=>simp[intOf];omega
  ·have i1:¬ (j:Int)<(l.length:Int):=by omega
   have i2:decide ((j:Int)<(l.length:Int))=false:=decide_eq_false i1
   have hjj:j=l.length:=by omega
   subst hjj
   have HD:Hid (St.runs s d (400 - p) l=some (400 - q)):=St.soFar_done HS.out
   clear h HS
   go_wp2_with fail
   go_ret
   exact SvP.yes oR HD.out rfl hSr (by omega)
theorem istmts_any (v:Value) (l:List St) (K:Nat) (s p d:Int) (w0 w:World) (hg:St.goods l) (h:RdL w0 8 v (St.dats l)) (hL:Later w0 w) (hK:w0.heap.size≤K) (hS:Sv K w s p) (hp0:0≤p) (hp1:p≤400) (hd0:0≤d) (hd1:d≤31) :
  Calls Tryz.prog 166 #[.pointer (some ⟨K,0,none⟩),v,.int .i64 d] w fun e w'=>SvP K s w (St.runs s d (400 - p) l) e w':=istmts_all _ v l K s p d w0 w (Nat.le_refl _) hg h hL hK hS hp0 hp1 hd0 hd1
def paOk (s:Int) (x:Pa):Bool:=nameL x.name&&tyB x.tk x.tn s false
def paramB (most s:Int) (l:List Pa):Bool:=decide ((l.length:Int)≤most)&&l.all (paOk s)
theorem all_no {α:Type}{l:List α}{f:α→Bool}{j:Nat}(h:j<l.length) (hf:f l[j]=false):l.all f=false:=by
 rw[←Bool.not_eq_true,List.all_eq_true]
 intro ha
 rw[ha _ (List.getElem_mem h)]at hf
 cases hf
theorem all_yes {α:Type}{l:List α}{f:α→Bool}(h:∀ j (hj:j<l.length),f l[j]=true):l.all f=true:=by
 rw[List.all_eq_true]
 intro x hx
 obtain⟨j,hj,rfl⟩:=List.mem_iff_getElem.1 hx
 exact h j hj
theorem iparams_any (v:Value) (l:List Pa) (most s:Int) (w:World) (h:RdL w 3 v (Pa.dats l)):Calls Tryz.prog 85 #[v,.int .i64 most,.int .i64 s] w fun e w'=>e=.returned (.bool (paramB most s l))∧Later w w':=by
 obtain⟨a,cap,rfl,hl⟩:=Pa.slice h
 unfold paramB
 by_cases hm:(l.length:Int)≤most
 ·rw[decide_eq_true hm,Bool.true_and]
  have hm':¬ most<(l.length:Int):=by omega
  go_enter Tryz.func85,Tryz.ntmps85
  go_wp2_with fail
  go_loopw [15] (fun i wr=>∃ (j:Nat),i=.int .i64 (j:Int)∧j≤l.length∧Later w wr∧Hid (∀ i (hi:i<l.length),i<j→paOk s l[i]=true)) (fun i _=>l.length - (intOf i).toNat)
  case atStart=>exact⟨0,rfl,Nat.zero_le _,Later.refl _,fun i _ hj=>absurd hj (Nat.not_lt_zero _)⟩
  case round =>
   obtain⟨j,rfl,hj,lr,HA⟩:=hrel
   by_cases hlt:j<l.length
   ·obtain⟨g,off,v0,rfl,hgs,c0,c1,c2,r0⟩:=Pa.elem (RdL.later lr h) j hlt
    have i1:(j:Int)<(l.length:Int):=by omega
    have hN:=fun w' (ll:Later wr w')=>iname_any v0 l[j].name w' (r0.later ll)
    have hT:=fun w'=>ity_any l[j].tk l[j].tn s w'
    obtain⟨y0,q0,rfl,_⟩:=r0.slice
    have HB:Hid (paOk s l[j]=false→l.all (paOk s)=false):=fun hf=>all_no hlt hf
    have HG:Hid (paOk s l[j]=true→∀ i (hi:i<l.length),i<j+1→paOk s l[i]=true):=fun hf i hi hij=>by
     rcases Nat.lt_or_ge i j with a|a
     ·exact HA.out i hi a
     ·have:i=j:=by omega
      subst this
      exact hf
    have HQ:Hid (paOk s l[j]=(nameL l[j].name&&tyB l[j].tk l[j].tn s false)):=rfl
    clear r0 HA h
    generalize paOk s l[j]=ok at *
    generalize nameL l[j].name=nb at *
    generalize tyB l[j].tk l[j].tn s false=tb at *
    generalize l[j].tk=z_tk at *
    generalize l[j].tn=z_tn at *
    cases nb
    ·have hb:=HB.out HQ.out
     have HB':Hid (l.all (paOk s)=false):=hb
     clear hb HG HB hT
     go_wp2_with (go_at_call 84;refine (hN _ (later1 _ _)).mono ?_;rintro e w1 ⟨rfl,hww⟩;obtain rfl:=hww.symm)
     go_ret
     exact⟨ret_bool HB'.out.symm,lr.alloc _⟩
    ·cases tb
     ·have hb:=HB.out HQ.out
      have HB':Hid (l.all (paOk s)=false):=hb
      clear hb HG HB
      go_wp2_with (first|(go_at_call 84;refine (hN _ (later1 _ _)).mono ?_;rintro e w1 ⟨rfl,hww⟩;obtain rfl:=hww.symm)|(go_at_call 126;refine (hT _).mono ?_;rintro e w1 ⟨rfl,l1⟩))
      go_ret
      exact⟨ret_bool HB'.out.symm,(lr.alloc _).trans l1⟩
     ·have hb:=HG.out HQ.out
      have HG':Hid (∀ i (hi:i<l.length),i<j+1→paOk s l[i]=true):=hb
      clear hb HG HB
      go_wp2_with (first|(go_at_call 84;refine (hN _ (later1 _ _)).mono ?_;rintro e w1 ⟨rfl,hww⟩;obtain rfl:=hww.symm)|(go_at_call 126;refine (hT _).mono ?_;rintro e w1 ⟨rfl,l1⟩))
      go_roundw
      case rel=>exact⟨j+1,by go_num,by omega,(lr.alloc _).trans l1,HG'⟩
      case measure=>simp[intOf];omega
   ·have i1:¬ (j:Int)<(l.length:Int):=by omega
    have i2:decide ((j:Int)<(l.length:Int))=false:=decide_eq_false i1
    have HY:Hid (l.all (paOk s)=true):=all_yes fun i hi=>HA.out i hi (by omega)
    clear HA h
    go_wp2_with fail
    go_ret
    exact⟨ret_bool HY.out.symm,lr⟩
 ·rw[decide_eq_false hm,Bool.false_and]
  have hm':most<(l.length:Int):=by omega
  go_enter Tryz.func85,Tryz.ntmps85
  go_wp2_with fail
  go_ret
  exact⟨rfl,Later.refl _⟩
theorem equal_any (v u:Value) (xs ys:List Int) (w:World) (h:RdB w v xs) (k:RdB w u ys):Calls Tryz.prog 153 #[v,u] w fun e w'=>e=.returned (.bool (decide (xs=ys)))∧w'=w:=by
 have hc:=conv_here h
 have kc:=conv_here k
 have hs:=str_inj h.isB k.isB
 obtain⟨a,cap,rfl,_⟩:=h.slice
 obtain⟨b,cap',rfl,_⟩:=k.slice
 clear h k
 go_enter Tryz.func153,Tryz.ntmps153
 go_wp2_with fail
 go_ret
 exact⟨rfl,rfl⟩
def anyB (l:List Sc) (nm:List Int):Bool:=l.any fun x=>x.name==nm
theorem any_yes {l:List Sc}{nm:List Int}{j:Nat}(h:j<l.length) (e:l[j].name=nm):anyB l nm=true:=by
 unfold anyB
 rw[List.any_eq_true]
 exact⟨_,List.getElem_mem h,by rw[e];exact beq_self_eq_true _⟩
theorem any_no {l:List Sc}{nm:List Int}(h:∀ j (hj:j<l.length),l[j].name≠nm):anyB l nm=false:=by
 unfold anyB
 rw[←Bool.not_eq_true,List.any_eq_true]
 rintro ⟨x,hx,e⟩
 obtain⟨j,hj,rfl⟩:=List.mem_iff_getElem.1 hx
 exact h j hj (by simpa using e)
theorem inamed_any (v u:Value) (l:List Sc) (nm:List Int) (w:World) (h:RdL w 2 v (Sc.dats l)) (k:RdB w u nm):Calls Tryz.prog 123 #[v,u] w fun e w'=>(∃ n,e=.returned (.int .i64 n)∧decide (0≤n)=anyB l nm)∧Later w w':=by
 obtain⟨a,cap,rfl,hl⟩:=Sc.slice h
 obtain⟨b,cap',rfl,_⟩:=k.slice
 refine Calls.mono (R:=fun e w'=>Hid ((∃ n,e=.returned (.int .i64 n)∧decide (0≤n)=anyB l nm)∧Later w w')) ?_ (fun _ _ h=>h.out)
 go_enter Tryz.func123,Tryz.ntmps123
 go_wp2_with fail
 go_loopw [9] (fun i wr=>∃ (j:Nat),i=.int .i64 (j:Int)∧j≤l.length∧Later w wr∧Hid (∀ i (hi:i<l.length),i<j→l[i].name≠nm)) (fun i _=>l.length - (intOf i).toNat)
 case atStart=>exact⟨0,rfl,Nat.zero_le _,Later.refl _,fun i _ hj=>absurd hj (Nat.not_lt_zero _)⟩
 case round =>
  obtain⟨j,rfl,hj,lr,HA⟩:=hrel
  by_cases hlt:j<l.length
  ·obtain⟨g,off,v0,v1,rfl,hgs,c0,c1,r0,r1⟩:=Sc.elem (RdL.later lr h) j hlt
   have i1:(j:Int)<(l.length:Int):=by omega
   have hE:=fun w' (ll:Later wr w')=>equal_any v0 _ l[j].name nm w' (r0.later ll).rd (k.later (lr.trans ll))
   obtain⟨y0,q0,rfl,_⟩:=r0.slice
   obtain⟨y1,q1,rfl,_⟩:=Pa.slice r1
   by_cases q:l[j].name=nm
   ·have HY:Hid (anyB l nm=true):=any_yes hlt q
    rw[decide_eq_true q]at hE
    clear r0 r1 HA h k q
    go_wp2_with (go_at_call 153;refine (hE _ (later1 _ _)).mono ?_;rintro e w1 ⟨rfl,hww⟩;obtain rfl:=hww.symm)
    go_ret
    exact⟨⟨_,rfl,by rw[HY.out];exact decide_eq_true (by omega)⟩,lr.alloc _⟩
   ·have HN:Hid (∀ i (hi:i<l.length),i<j+1→l[i].name≠nm):=fun i hi hij=>by
     rcases Nat.lt_or_ge i j with a|a
     ·exact HA.out i hi a
     ·have:i=j:=by omega
      subst this
      exact q
    rw[decide_eq_false q]at hE
    clear r0 r1 HA h k q
    go_wp2_with (go_at_call 153;refine (hE _ (later1 _ _)).mono ?_;rintro e w1 ⟨rfl,hww⟩;obtain rfl:=hww.symm)
    go_roundw
    case rel=>exact⟨j+1,by go_num,by omega,lr.alloc _,HN⟩
    case measure=>simp[intOf];omega
  ·have i1:¬ (j:Int)<(l.length:Int):=by omega
   have i2:decide ((j:Int)<(l.length:Int))=false:=decide_eq_false i1
   have HN:Hid (anyB l nm=false):=any_no fun i hi=>HA.out i hi (by omega)
   clear HA h k
   go_wp2_with fail
   go_ret
   exact⟨⟨_,rfl,by rw[HN.out];rfl⟩,lr⟩
def oneB (l:List Sc) (i:Nat) (x:Sc):Bool:=wordL x.name true&&!(anyB (l.take i) x.name)&&paramB 5 ((i:Int)+1) x.fields
def structB (l:List Sc):Bool:=decide (l.length≤6)&&(List.range l.length).all fun i=>match l[i]? with|some x=>oneB l i x|none=>true
theorem structB_iff (l:List Sc):structB l=true↔l.length≤6∧∀ i (h:i<l.length),oneB l i l[i]=true:=by
 unfold structB
 rw[Bool.and_eq_true,decide_eq_true_eq,List.all_eq_true]
 refine and_congr_right fun _=>⟨fun h i hi=>?_,fun h i hi=>?_⟩
 ·have:=h i (List.mem_range.2 hi)
  rwa [List.getElem?_eq_getElem hi]at this
 ·have hi':=List.mem_range.1 hi
  rw[List.getElem?_eq_getElem hi']
  exact h i hi'
theorem structB_no {l:List Sc}{i:Nat}(h:i<l.length) (hf:oneB l i l[i]=false):structB l=false:=by
 rw[←Bool.not_eq_true,structB_iff]
 rintro ⟨_,ha⟩
 rw[ha i h]at hf
 cases hf
theorem dats_take (l:List Sc) (i:Nat):Sc.dats (l.take i)=(Sc.dats l).take i:=by
 induction l generalizing i with
 | nil=>rw[List.take_nil,Sc.dats,List.take_nil]
 | cons x r ih =>
  cases i with
  | zero=>rw[List.take_zero,List.take_zero,Sc.dats]
  | succ i=>rw[List.take_succ_cons,Sc.dats,Sc.dats,List.take_succ_cons,ih]
theorem RdL.take {w:World}{k:Nat}{a:Option Addr}{n cap:Nat}{l:List Sc}(h:RdL w k (.slice a n cap) (Sc.dats l)) {i:Nat}(hi:i≤l.length):RdL w k (.slice a i cap) (Sc.dats (l.take i)):=by
 obtain⟨_,_,e,hc,hh⟩:=h
 cases e
 have hl:=Sc.dats_len l
 have ht:(Sc.dats (l.take i)).length=i:=by rw[Sc.dats_len,List.length_take];omega
 refine⟨a,cap,by rw[ht],by rw[ht];omega,fun j hj=>?_⟩
 rw[ht]at hj
 obtain⟨g,off,cs,e,hg,hk,hcc,hd⟩:=hh j (by omega)
 refine⟨g,off,cs,e,hg,hk,hcc,?_⟩
 have e2:(Sc.dats (l.take i))[j]'(by omega)=(Sc.dats l)[j]'(by omega):=by
  have h1:(Sc.dats (l.take i))[j]?=(Sc.dats l)[j]?:=by rw[dats_take,List.getElem?_take_of_lt hj]
  rw[List.getElem?_eq_getElem (by omega),List.getElem?_eq_getElem (by omega)]at h1
  exact Option.some.inj h1
 rw[e2]
 exact hd
theorem istructs_any (v:Value) (l:List Sc) (w:World) (h:RdL w 2 v (Sc.dats l)):Calls Tryz.prog 81 #[v] w fun e w'=>e=.returned (.bool (structB l))∧Later w w':=by
 obtain⟨a,cap,rfl,hcap,hmax⟩:=h.cap
 rw[Sc.dats_len]at h hcap ⊢
 unfold maxLen at hmax
 by_cases hm:l.length≤6
 ·have hm':¬ 6<(l.length:Int):=by omega
  go_enter Tryz.func81,Tryz.ntmps81
  go_wp2_with fail
  go_loopw [10] (fun i wr=>∃ (j:Nat),i=.int .i64 (j:Int)∧j≤l.length∧Later w wr∧Hid (∀ i (hi:i<l.length),i<j→oneB l i l[i]=true)) (fun i _=>l.length - (intOf i).toNat)
  case atStart=>exact⟨0,rfl,Nat.zero_le _,Later.refl _,fun i _ hj=>absurd hj (Nat.not_lt_zero _)⟩
  case round =>
   obtain⟨j,rfl,hj,lr,HA⟩:=hrel
   by_cases hlt:j<l.length
   ·obtain⟨g,off,v0,v1,rfl,hgs,c0,c1,r0,r1⟩:=Sc.elem (RdL.later lr h) j hlt
    have i1:(j:Int)<(l.length:Int):=by omega
    have i3:(j:Int)≤(cap:Int):=by omega
    have hW:=fun w' (ll:Later wr w')=>igreat_any v0 l[j].name w' (r0.later ll)
    have hN:=fun w' (ll:Later wr w')=>inamed_any _ v0 (l.take j) l[j].name w' (RdL.take (i:=j) (RdL.later (lr.trans ll) h) (by omega)) (r0.later ll).rd
    have hP:=fun w' (ll:Later wr w')=>iparams_any v1 l[j].fields 5 ((j:Int)+1) w' (RdL.later ll r1)
    obtain⟨y0,q0,rfl,_⟩:=r0.slice
    obtain⟨y1,q1,rfl,_⟩:=Pa.slice r1
    have HB:Hid (oneB l j l[j]=false→structB l=false):=fun hf=>structB_no hlt hf
    have HG:Hid (oneB l j l[j]=true→∀ i (hi:i<l.length),i<j+1→oneB l i l[i]=true):=fun hf i hi hij=>by
     rcases Nat.lt_or_ge i j with a|a
     ·exact HA.out i hi a
     ·have:i=j:=by omega
      subst this
      exact hf
    have HQ:Hid (oneB l j l[j]=(wordL l[j].name true&&!(anyB (l.take j) l[j].name)&&paramB 5 ((j:Int)+1) l[j].fields)):=rfl
    have HSS:Hid (∀ w',Later (wr.alloc (.cells #[.slice y0 l[j].name.length q0,.slice y1 l[j].fields.length q1] 44)) w'→(Later (wr.alloc (.cells #[.slice y0 l[j].name.length q0,.slice y1 l[j].fields.length q1] 44)) w'∧w'.cell? ⟨wr.heap.size,0,none⟩=some (.slice y0 l[j].name.length q0)∧w'.cell? ⟨wr.heap.size,1,none⟩=some (.slice y1 l[j].fields.length q1))):=fun w' ll=>⟨ll,by rw[Below.cell ll (p:=⟨wr.heap.size,0,none⟩) (by simp)];simp,by rw[Below.cell ll (p:=⟨wr.heap.size,1,none⟩) (by simp)];simp⟩
    clear r0 r1 HA h
    generalize oneB l j l[j]=ok at *
    generalize wordL l[j].name true=wb at *
    generalize anyB (l.take j) l[j].name=ab at *
    generalize paramB 5 ((j:Int)+1) l[j].fields=pb at *
    cases wb
    ·have HB':Hid (structB l=false):=HB.out HQ.out
     clear HG HB hN hP
     go_wp2_with fail
     go_quiet ((go_at_call 122;exact Calls.quiet_of_same (hW _ (later_drewN (later1 _ _) _))))
     all_goals
      go_wp2_with fail
      go_ret
      exact⟨ret_bool HB'.out.symm,later_drewN (lr.alloc _) _⟩
    ·cases ab
     ·cases pb
      ·have HB':Hid (structB l=false):=HB.out HQ.out
       clear HG HB
       go_wp2_with fail
       go_region_held3 (fun w'=>Later (wr.alloc (.cells #[.slice y0 l[j].name.length q0,.slice y1 l[j].fields.length q1] 44)) w'∧w'.cell? ⟨wr.heap.size,0,none⟩=some (.slice y0 l[j].name.length q0)∧w'.cell? ⟨wr.heap.size,1,none⟩=some (.slice y1 l[j].fields.length q1)) (first|exact HSS.out _ (Later.drew _)|exact HSS.out _ ((Later.drew _).trans l2)) (first|(go_at_call 122;refine (hW _ ((later1 _ _).trans (Later.drew _))).mono ?_;rintro e w1 ⟨rfl,hww⟩;obtain rfl:=hww.symm)|(go_at_call 123;refine (hN _ ((later1 _ _).trans (Later.drew _))).mono ?_;rintro e w2 ⟨⟨n,rfl,hn⟩,l2⟩;obtain⟨hc2,_⟩:=bcell l2;have hz2:wr.heap.size<w2.heap.size:=(by have:=l2.size;simp at this;omega)))
       all_goals
        have hn':¬ 0≤n:=of_decide_eq_false hn
        clear hn
        go_wp2_with (go_at_call 85;refine (hP _ (((later1 _ _).trans (Later.drew _)).trans l2)).mono ?_;rintro e w3 ⟨rfl,l3⟩)
        go_ret
        exact⟨ret_bool HB'.out.symm,(((lr.alloc _).trans (Later.drew _)).trans l2).trans l3⟩
      ·have HG':Hid (∀ i (hi:i<l.length),i<j+1→oneB l i l[i]=true):=HG.out HQ.out
       clear HG HB
       go_wp2_with fail
       go_region_held3 (fun w'=>Later (wr.alloc (.cells #[.slice y0 l[j].name.length q0,.slice y1 l[j].fields.length q1] 44)) w'∧w'.cell? ⟨wr.heap.size,0,none⟩=some (.slice y0 l[j].name.length q0)∧w'.cell? ⟨wr.heap.size,1,none⟩=some (.slice y1 l[j].fields.length q1)) (first|exact HSS.out _ (Later.drew _)|exact HSS.out _ ((Later.drew _).trans l2)) (first|(go_at_call 122;refine (hW _ ((later1 _ _).trans (Later.drew _))).mono ?_;rintro e w1 ⟨rfl,hww⟩;obtain rfl:=hww.symm)|(go_at_call 123;refine (hN _ ((later1 _ _).trans (Later.drew _))).mono ?_;rintro e w2 ⟨⟨n,rfl,hn⟩,l2⟩;obtain⟨hc2,_⟩:=bcell l2;have hz2:wr.heap.size<w2.heap.size:=(by have:=l2.size;simp at this;omega)))
       all_goals
        have hn':¬ 0≤n:=of_decide_eq_false hn
        clear hn
        go_wp2_with (go_at_call 85;refine (hP _ (((later1 _ _).trans (Later.drew _)).trans l2)).mono ?_;rintro e w3 ⟨rfl,l3⟩)
        go_roundw
        case rel=>exact⟨j+1,by go_num,by omega,(((lr.alloc _).trans (Later.drew _)).trans l2).trans l3,HG'⟩
        case measure=>simp[intOf];omega
     ·have HB':Hid (structB l=false):=HB.out HQ.out
      clear HG HB hP
      go_wp2_with fail
      go_region_held3 (fun w'=>Later (wr.alloc (.cells #[.slice y0 l[j].name.length q0,.slice y1 l[j].fields.length q1] 44)) w'∧w'.cell? ⟨wr.heap.size,0,none⟩=some (.slice y0 l[j].name.length q0)∧w'.cell? ⟨wr.heap.size,1,none⟩=some (.slice y1 l[j].fields.length q1)) (first|exact HSS.out _ (Later.drew _)|exact HSS.out _ ((Later.drew _).trans l2)) (first|(go_at_call 122;refine (hW _ ((later1 _ _).trans (Later.drew _))).mono ?_;rintro e w1 ⟨rfl,hww⟩;obtain rfl:=hww.symm)|(go_at_call 123;refine (hN _ ((later1 _ _).trans (Later.drew _))).mono ?_;rintro e w2 ⟨⟨n,rfl,hn⟩,l2⟩;obtain⟨hc2,_⟩:=bcell l2;have hz2:wr.heap.size<w2.heap.size:=(by have:=l2.size;simp at this;omega)))
      all_goals
       have hn':0≤n:=of_decide_eq_true hn
       clear hn
       go_wp2_with fail
       go_ret
       exact⟨ret_bool HB'.out.symm,((lr.alloc _).trans (Later.drew _)).trans l2⟩
   ·have i1:¬ (j:Int)<(l.length:Int):=by omega
    have i2:decide ((j:Int)<(l.length:Int))=false:=decide_eq_false i1
    have HY:Hid (structB l=true):=(structB_iff l).2 ⟨hm,fun i hi=>HA.out i hi (by omega)⟩
    clear HA h
    go_wp2_with fail
    go_ret
    exact⟨ret_bool HY.out.symm,lr⟩
 ·have hm':6<(l.length:Int):=by omega
  have e:structB l=false:=by unfold structB;rw[decide_eq_false hm,Bool.false_and]
  rw[e]
  go_enter Tryz.func81,Tryz.ntmps81
  go_wp2_with fail
  go_ret
  exact⟨rfl,Later.refl _⟩
theorem tyB_true (k n s:Int):tyB k n s true=(((k==0)&&(n==0))||tyB k n s false):=by
 unfold tyB
 by_cases h:k=0
 ·subst h;simp
 ·rw[if_neg h,if_neg h,neb h];rfl
def headF (s:Int) (x:Fu):Bool:=nameL x.name&&paramB 4 s x.params
def Fu.run (s l:Int) (x:Fu):Option Int:=if headF s x&&tyB x.rk x.rn s true then St.runs s 1 l x.body else none
def Fu.runs (s:Int):Int→List Fu→Option Int
 | l,[]=>some l
 | l,x::r=>match Fu.run s l x with|none=>none|some l'=>Fu.runs s l' r
def Fu.good (x:Fu):Prop:=St.goods x.body
def Fu.goods (l:List Fu):Prop:=∀ j (h:j<l.length),l[j].good
def Fu.soFar (s l:Int) (xs:List Fu) (j:Nat) (l':Int):Prop:=Fu.runs s l xs=Fu.runs s l' (xs.drop j)
theorem Fu.soFar_start (s l:Int) (xs:List Fu):Fu.soFar s l xs 0 l:=rfl
theorem Fu.soFar_done {s l l':Int}{xs:List Fu}(h:Fu.soFar s l xs xs.length l'):Fu.runs s l xs=some l':=by
 unfold Fu.soFar at h
 rw[h,List.drop_length,Fu.runs]
theorem Fu.soFar_next {s l l' l'':Int}{xs:List Fu}{j:Nat}(h:Fu.soFar s l xs j l') (hj:j<xs.length) (hr:Fu.run s l' xs[j]=some l''):Fu.soFar s l xs (j+1) l'':=by
 unfold Fu.soFar at *
 rw[h,List.drop_eq_getElem_cons hj,Fu.runs,hr]
theorem Fu.soFar_bad {s l l':Int}{xs:List Fu}{j:Nat}(h:Fu.soFar s l xs j l') (hj:j<xs.length) (hr:Fu.run s l' xs[j]=none):Fu.runs s l xs=none:=by
 unfold Fu.soFar at h
 rw[h,List.drop_eq_getElem_cons hj,Fu.runs,hr]
theorem Fu.run_le {s l l':Int}{x:Fu}(h:Fu.run s l x=some l'):l'≤l∧(0≤l→0≤l'):=by
 unfold Fu.run at h
 split at h
 ·exact St.runs_le s _ _ _ _ h
 ·cases h
theorem ifunc_any (x:Fu) (v0 v1 v2:Value) (K:Nat) (s p:Int) (w0 w:World) (hg:x.good) (h0:RdN w0 v0 x.name) (h1:RdL w0 3 v1 (Pa.dats x.params)) (h2:RdL w0 8 v2 (St.dats x.body)) (hL:Later w0 w) (hK:w0.heap.size≤K) (hS:Sv K w s p) (hp0:0≤p) (hp1:p≤400) :
  Calls Tryz.prog 138 #[.pointer (some ⟨K,0,none⟩),.agg #[v0,v1,.int .i64 x.rk,.int .i64 x.rn,v2]] w fun e w'=>SvP K s w (Fu.run s (400 - p) x) e w':=by
 have hne:w.heap.size≠K:=by have:=hS.lt;omega
 have hKw:=hS.lt
 have hN:=fun w' (l:Later w w')=>iname_any v0 x.name w' (h0.later (hL.trans l))
 have hP:=fun w' (l:Later w w')=>iparams_any v1 x.params 4 s w' (RdL.later (hL.trans l) h1)
 have hT:=fun w'=>ity_any x.rk x.rn s w'
 have hI:=fun w' (l:Later w w')=>istmts_any v2 x.body K s p 1 w0 w' hg h2 (hL.trans l) hK (hS.later l) hp0 hp1 (by decide) (by decide)
 have HR:Hid (Fu.run s (400 - p) x=if headF s x&&tyB x.rk x.rn s true then St.runs s 1 (400 - p) x.body else none):=rfl
 have HH:Hid (headF s x=(nameL x.name&&paramB 4 s x.params)):=rfl
 have HY:Hid (tyB x.rk x.rn s true=(((x.rk==0)&&(x.rn==0))||tyB x.rk x.rn s false)):=tyB_true _ _ _
 have hb:=buildTy
 have c0:=hS.c0
 have HS:Hid (∀ w',Later w w'→Sv K w' s p):=fun w' l=>hS.later l
 obtain⟨a0,p0,rfl,_⟩:=h0.slice
 obtain⟨a1,p1,rfl,_⟩:=Pa.slice h1
 obtain⟨a2,p2,rfl,_⟩:=St.slice h2
 clear h0 h1 h2 hg hS
 generalize Fu.run s (400 - p) x=R at *
 generalize St.runs s 1 (400 - p) x.body=RB at *
 generalize nameL x.name=nb at *
 generalize paramB 4 s x.params=pb at *
 generalize tyB x.rk x.rn s false=tb at *
 generalize tyB x.rk x.rn s true=tt at *
 generalize headF s x=hd at *
 generalize x.rk=z_rk at *
 generalize x.rn=z_rn at *
 go_enter Tryz.func138,Tryz.ntmps138
 go_upto_region 1 with fail
 go_cut [18] from 5 (fun s18 wc=>s18=.bool (!hd)∧Later (w.alloc (.cells #[.slice a0 x.name.length p0,.slice a1 x.params.length p1,.int .i64 z_rk,.int .i64 z_rn,.slice a2 x.body.length p2] 50)) wc)
 case first =>
  cases nb
  ·as_aux_lemma =>
    go_quiet ((go_at_call 84;exact Calls.quiet_of_same (hN _ (later_drewN (later1 _ _) _))))
    all_goals
     go_wp2_with fail
     go_meet
     case rel=>exact⟨by rw[HH.out];rfl,later_drewN (Later.refl _) _⟩
  ·as_aux_lemma =>
    have HSS:Hid (∀ w',Later (w.alloc (.cells #[.slice a0 x.name.length p0,.slice a1 x.params.length p1,.int .i64 z_rk,.int .i64 z_rn,.slice a2 x.body.length p2] 50)) w'→(Later (w.alloc (.cells #[.slice a0 x.name.length p0,.slice a1 x.params.length p1,.int .i64 z_rk,.int .i64 z_rn,.slice a2 x.body.length p2] 50)) w'∧w'.cell? ⟨w.heap.size,0,none⟩=some (.slice a0 x.name.length p0)∧w'.cell? ⟨w.heap.size,1,none⟩=some (.slice a1 x.params.length p1)∧w'.cell? ⟨K,0,none⟩=some (.int .i64 s))):=fun w' ll=>⟨ll,by rw[Below.cell ll (p:=⟨w.heap.size,0,none⟩) (by simp)];simp,by rw[Below.cell ll (p:=⟨w.heap.size,1,none⟩) (by simp)];simp,by rw[Below.cell ((later1 _ _).trans ll) (p:=⟨K,0,none⟩) hKw];exact c0⟩
    go_region_held3 (fun w'=>Later (w.alloc (.cells #[.slice a0 x.name.length p0,.slice a1 x.params.length p1,.int .i64 z_rk,.int .i64 z_rn,.slice a2 x.body.length p2] 50)) w'∧w'.cell? ⟨w.heap.size,0,none⟩=some (.slice a0 x.name.length p0)∧w'.cell? ⟨w.heap.size,1,none⟩=some (.slice a1 x.params.length p1)∧w'.cell? ⟨K,0,none⟩=some (.int .i64 s)) (first|exact HSS.out _ (Later.drew _)|exact HSS.out _ ((Later.drew _).trans l1)) (first|(go_at_call 84;refine (hN _ ((later1 _ _).trans (Later.drew _))).mono ?_;rintro e w1 ⟨rfl,hww⟩;obtain rfl:=hww.symm)|(go_at_call 85;refine (hP _ ((later1 _ _).trans (Later.drew _))).mono ?_;rintro e w1 ⟨rfl,l1⟩))
    all_goals
     go_wp2_with fail
     go_meet
     case rel=>exact⟨by rw[HH.out];rfl,(Later.drew _).trans l1⟩
 case rest =>
  obtain⟨rfl,lc⟩:=hcut
  have Lc:Later w wc:=(later1 _ _).trans lc
  obtain⟨hcc,_⟩:=bcell lc
  have hz:w.heap.size<wc.heap.size:=by have:=lc.size;simp at this;omega
  have hcK:wc.cell? ⟨K,0,none⟩=some (.int .i64 s):=by rw[Below.cell Lc (p:=⟨K,0,none⟩) hKw];exact c0
  have x2:wc.cell? ⟨w.heap.size,2,none⟩=some (.int .i64 z_rk):=by rw[hcc _ _ (by simp)];simp
  have x3:wc.cell? ⟨w.heap.size,3,none⟩=some (.int .i64 z_rn):=by rw[hcc _ _ (by simp)];simp
  have hKc:K<wc.heap.size:=by have:=Lc.size;omega
  cases hd
  ·have hr:R=none:=HR.out
   subst hr
   go_wp2_with fail
   go_ret
   exact SvP.no (OnlyK.of_later Lc) rfl rfl (HS.out _ Lc)
  ·go_upto_region 3 with fail
   go_cut [32] from 19 (fun s32 wd=>s32=.bool (!tt)∧Later wc wd)
   case first =>
    by_cases k0:z_rk=0
    ·subst k0
     by_cases k1:z_rn=0
     ·subst k1
      as_aux_lemma =>
       go_quiet (fail)
       all_goals
        go_wp2_with fail
        go_meet
        case rel=>exact⟨by rw[HY.out];rfl,later_drewN (Later.refl _) _⟩
     ·have k1':=neb k1
      as_aux_lemma =>
       have HSS:Hid (∀ w',Later wc w'→(Later wc w'∧w'.cell? ⟨w.heap.size,2,none⟩=some (.int .i64 0)∧w'.cell? ⟨w.heap.size,3,none⟩=some (.int .i64 z_rn)∧w'.cell? ⟨K,0,none⟩=some (.int .i64 s))):=fun w' ll=>⟨ll,by rw[Below.cell ll (p:=⟨w.heap.size,2,none⟩) hz];exact x2,by rw[Below.cell ll (p:=⟨w.heap.size,3,none⟩) hz];exact x3,by rw[Below.cell ll (p:=⟨K,0,none⟩) hKc];exact hcK⟩
       go_region_held3 (fun w'=>Later wc w'∧w'.cell? ⟨w.heap.size,2,none⟩=some (.int .i64 0)∧w'.cell? ⟨w.heap.size,3,none⟩=some (.int .i64 z_rn)∧w'.cell? ⟨K,0,none⟩=some (.int .i64 s)) (first|exact HSS.out _ (Later.drew _)|exact HSS.out _ ((Later.drew _).trans l1)) ((go_at_call 126;refine (hT _).mono ?_;rintro e w1 ⟨rfl,l1⟩))
       all_goals
        go_wp2_with fail
        go_meet
        case rel=>exact⟨by rw[HY.out,k1'];rfl,(Later.drew _).trans l1⟩
    ·have k0':=neb k0
     as_aux_lemma =>
      have HSS:Hid (∀ w',Later wc w'→(Later wc w'∧w'.cell? ⟨w.heap.size,2,none⟩=some (.int .i64 z_rk)∧w'.cell? ⟨w.heap.size,3,none⟩=some (.int .i64 z_rn)∧w'.cell? ⟨K,0,none⟩=some (.int .i64 s))):=fun w' ll=>⟨ll,by rw[Below.cell ll (p:=⟨w.heap.size,2,none⟩) hz];exact x2,by rw[Below.cell ll (p:=⟨w.heap.size,3,none⟩) hz];exact x3,by rw[Below.cell ll (p:=⟨K,0,none⟩) hKc];exact hcK⟩
      go_region_held3 (fun w'=>Later wc w'∧w'.cell? ⟨w.heap.size,2,none⟩=some (.int .i64 z_rk)∧w'.cell? ⟨w.heap.size,3,none⟩=some (.int .i64 z_rn)∧w'.cell? ⟨K,0,none⟩=some (.int .i64 s)) (first|exact HSS.out _ (Later.drew _)|exact HSS.out _ ((Later.drew _).trans l1)) ((go_at_call 126;refine (hT _).mono ?_;rintro e w1 ⟨rfl,l1⟩))
      all_goals
       go_wp2_with fail
       go_meet
       case rel=>exact⟨by rw[HY.out,k0'];rfl,(Later.drew _).trans l1⟩
   case rest =>
    obtain⟨rfl,ld⟩:=hcut
    have Ld:=Lc.trans ld
    obtain⟨hcd,_⟩:=bcell ld
    cases tt
    ·have hr:R=none:=HR.out
     subst hr
     go_wp2_with fail
     go_ret
     exact SvP.no (OnlyK.of_later Ld) rfl rfl (HS.out _ Ld)
    ·have hr:R=RB:=HR.out
     subst hr
     go_wp2_with fail
     refine (hI _ Ld).mono ?_
     rintro e w5 ⟨o5,hm⟩
     have o:=(OnlyK.of_later (K:=K) Ld).trans o5
     cases R with
     | none =>
      obtain⟨rfl,p',hS5⟩:=hm
      go_wp2_with fail
      go_ret
      exact SvP.no o rfl rfl hS5
     | some l =>
      obtain⟨rfl,hS5⟩:=hm
      go_wp2_with fail
      go_ret
      exact SvP.yes o rfl rfl hS5 rfl
end Go.Proofs.YtmdejbphoafjlaaGreatDoor
