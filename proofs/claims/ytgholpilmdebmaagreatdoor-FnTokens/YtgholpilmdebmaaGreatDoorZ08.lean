import Derived.Test.YtgholpilmdebmaaGreatDoorZ06
import Derived.Test.YtgholpilmdebmaaGreatDoorZ07
import Derived.Laws.Bits64b
set_option maxHeartbeats 100000000
set_option maxRecDepth 100000
namespace Go.Proofs.YtgholpilmdebmaaGreatDoor.KL
open Go.RowKit
theorem cb_fb' {n:Int}(hn:InR n) (h:nanB (fb n)=false):cb (fb n)=n:=by
 rw[cb_num h];unfold InR at hn;have:=fb_wrap n;rw[IntKind.wrap_u64]at this;unfold wrap64;omega
def canon (n:Int):Bool:=if nanB (fb n) then n==9221120237041090561 else true
def hexB (z:Int):Bool:=dig z||(decide (97≤z)&&decide (z≤102))
def hexV (z:Int):Int:=if z≤57 then z - 48 else z - 97+10
def evH (zs:List Int):Int:=zs.foldl (fun a z=>a*16+hexV z) 0
theorem evH_snoc (zs:List Int) (z:Int):evH (zs++[z])=evH zs*16+hexV z:=by unfold evH;rw[List.foldl_append];rfl
def floatOfL (zs:List Int):Option Int :=
 if decide (zs.length=18)&&(zs.getD 0 0==48)&&(zs.getD 1 0==102)&&(zs.drop 2).all hexB&&canon (wrap64 (evH (zs.drop 2))) then some (wrap64 (evH (zs.drop 2))) else none
def FloP (zs:List Int) (w:World) (e:Ending) (w':World):Prop:=∃ n b,e=.returned (.tuple #[.int .i64 n,.bool b])∧floatOfL zs=(if b then some n else none)∧Later w w'
theorem FloP.no {zs:List Int}{w w':World}{e:Ending}{n:Int}(h:e=.returned (.tuple #[.int .i64 n,.bool false])) (h2:floatOfL zs=none) (h3:Later w w'):FloP zs w e w':=⟨n,false,h,h2,h3⟩
theorem flo_none {zs:List Int}(h:¬ (zs.length=18∧zs.getD 0 0=48∧zs.getD 1 0=102∧∀ j,2≤j→j<18→hexB (zs.getD j 0)=true)):floatOfL zs=none:=by
 unfold floatOfL;refine if_neg (fun hc=>h ?_);simp only[Bool.and_eq_true,decide_eq_true_eq,beq_iff_eq,List.all_eq_true]at hc;obtain⟨⟨⟨⟨h1,h2⟩,h3⟩,h4⟩,_⟩:=hc;refine⟨h1,h2,h3,fun j hj hj'=>h4 _ ?_⟩;rw[List.getD_eq_getElem?_getD,List.getElem?_eq_getElem (by omega)];refine List.mem_iff_getElem.2 ⟨j - 2,by simp;omega,?_⟩;rw[List.getElem_drop];simp only[Option.getD_some]
 congr 1
 omega
theorem flo_some {zs:List Int}(h1:zs.length=18) (h2:zs.getD 0 0=48) (h3:zs.getD 1 0=102) (h4:∀ j,2≤j→j<18→hexB (zs.getD j 0)=true):floatOfL zs=if canon (wrap64 (evH (zs.drop 2))) then some (wrap64 (evH (zs.drop 2))) else none:=by
 unfold floatOfL
 have h5:(zs.drop 2).all hexB=true:=by
  rw[List.all_eq_true];intro x hx;obtain⟨j,hj,rfl⟩:=List.mem_iff_getElem.1 hx;rw[List.length_drop]at hj;have:=h4 (2+j) (by omega) (by omega);rw[List.getD_eq_getElem?_getD,List.getElem?_eq_getElem (by omega)]at this;rw[List.getElem_drop];simp only[Option.getD_some]at this;exact this
 rw[decide_eq_true h1,h2,h3,h5];simp
theorem hex_case {z:Int}(h:isB z):(48≤z∧z≤57∧hexB z=true∧hexV z=z - 48)∨(97≤z∧z≤102∧hexB z=true∧hexV z=z - 97+10)∨(z<48∧hexB z=false)∨(57<z∧z<97∧hexB z=false)∨(102<z∧hexB z=false):=by
 unfold isB at h;unfold hexB dig hexV;rcases (by omega:(48≤z∧z≤57)∨(97≤z∧z≤102)∨(z<48)∨(57<z∧z<97)∨(102<z)) with h|h|h|h|h
 ·exact .inl ⟨h.1,h.2,by simp;omega,by rw[if_pos h.2]⟩
 ·exact .inr (.inl ⟨h.1,h.2,by simp;omega,by rw[if_neg (by omega)]⟩)
 ·exact .inr (.inr (.inl ⟨h,by simp;omega⟩))
 ·exact .inr (.inr (.inr (.inl ⟨h.1,h.2,by simp;omega⟩)))
 ·exact .inr (.inr (.inr (.inr ⟨h,by simp;omega⟩)))
def pieceF (zs:List Int):Nat→Nat→Nat
 | 0,j=>j
 | f+1,j=>if decide (j<zs.length)&&inner (zs.getD j 0) then pieceF zs f (j+1) else j
def pieceE (zs:List Int) (j:Nat):Nat:=pieceF zs zs.length j
def blankB (z:Int):Bool:=z==32||z==10
def startB (zs:List Int) (i:Nat):Bool:=inner (zs.getD i 0)||((zs.getD i 0==45)&&decide (i+1<zs.length)&&dig (zs.getD (i+1) 0))
def cutL (zs:List Int) (i j:Nat):List Int:=(zs.take j).drop i
def pieceT (p:List Int) (i:Nat):Option Tok :=
 match intOfL p with
 | some n=>some (2,(i:Int),n,[])
 | none=>match floatOfL p with
  | some m=>some (3,(i:Int),m,[])
  | none=>if wordL p false||wordL p true then some (1,(i:Int),0,p) else none
def signE (zs:List Int) (i:Nat):Nat:=if (zs.getD i 0==61)&&decide (i+1<zs.length)&&(zs.getD (i+1) 0==61) then i+2 else i+1
def stepL (zs:List Int) (i:Nat):Option (List Tok × Nat) :=
 if blankB (zs.getD i 0) then some ([],i+1)
 else if startB zs i then (pieceT (cutL zs i (pieceE zs (i+1))) i).map fun t=>([t],pieceE zs (i+1))
 else if sign (zs.getD i 0) then some ([(4,(i:Int),0,cutL zs i (signE zs i))],signE zs i)
 else none
def lexR (zs:List Int):Nat→Nat→List Tok→List Tok × Int
 | 0,_,acc=>(acc,-1)
 | f+1,i,acc=>if decide (i<zs.length) then (match stepL zs i with|none=>([],(i:Int))|some (t,j)=>lexR zs f j (acc++t)) else (acc,-1)
def lexL (zs:List Int):List Tok × Int:=if decide (6000<zs.length) then ([],0) else lexR zs zs.length 0 []
def SoFar (zs:List Int) (k:Nat) (acc:List Tok):Prop:=∃ f,zs.length - k≤f∧lexR zs f k acc=lexR zs zs.length 0 []
theorem SoFar.start (zs:List Int):SoFar zs 0 []:=⟨zs.length,by omega,rfl⟩
theorem SoFar.done {zs:List Int}{k:Nat}{acc:List Tok}(h:SoFar zs k acc) (hk:zs.length≤k):lexR zs zs.length 0 []=(acc,-1):=by
 obtain⟨f,_,e⟩:=h;rw[←e]
 cases f with
 | zero=>rfl
 | succ f=>rw[lexR,if_neg (by simp;omega)]
theorem SoFar.bad {zs:List Int}{k:Nat}{acc:List Tok}(h:SoFar zs k acc) (hk:k<zs.length) (hs:stepL zs k=none):lexR zs zs.length 0 []=([],(k:Int)):=by
 obtain⟨f,hf,e⟩:=h;rw[←e]
 cases f with
 | zero=>omega
 | succ f=>rw[lexR,if_pos (by simpa using hk),hs]
theorem SoFar.next {zs:List Int}{k:Nat}{acc:List Tok}(h:SoFar zs k acc) (hk:k<zs.length) {t:List Tok}{j:Nat}(hs:stepL zs k=some (t,j)) (hj:k<j):SoFar zs j (acc++t):=by
 obtain⟨f,hf,e⟩:=h
 cases f with
 | zero=>omega
 | succ f =>
  rw[lexR,if_pos (by simpa using hk),hs]at e;exact⟨f,by omega,e⟩
def Piece (zs:List Int) (j E:Nat):Prop:=∃ f,zs.length - j≤f∧pieceF zs f j=E
theorem Piece.start (zs:List Int) (j:Nat):Piece zs j (pieceE zs j):=⟨zs.length,by omega,rfl⟩
theorem Piece.done {zs:List Int}{j E:Nat}(h:Piece zs j E) (hn:¬ (j<zs.length∧inner (zs.getD j 0)=true)):E=j:=by
 obtain⟨f,_,e⟩:=h;rw[←e]
 cases f with
 | zero=>rfl
 | succ f=>rw[pieceF,if_neg (by simpa using hn)]
theorem Piece.next {zs:List Int}{j E:Nat}(h:Piece zs j E) (h1:j<zs.length) (h2:inner (zs.getD j 0)=true):Piece zs (j+1) E:=by
 obtain⟨f,hf,e⟩:=h
 cases f with
 | zero=>omega
 | succ f =>
  rw[pieceF,if_pos (by rw[decide_eq_true h1,h2];rfl)]at e;exact⟨f,by omega,e⟩
theorem pieceF_ge (zs:List Int) (f j:Nat):j≤pieceF zs f j∧(j≤zs.length→pieceF zs f j≤zs.length):=by
 induction f generalizing j with
 | zero=>exact⟨Nat.le_refl _,fun h=>h⟩
 | succ f ih =>
  unfold pieceF;split
  ·rename_i hc
   rw[Bool.and_eq_true,decide_eq_true_eq]at hc;have:=ih (j+1);exact⟨by omega,fun _=>this.2 (by omega)⟩
  ·exact⟨Nat.le_refl _,fun h=>h⟩
theorem pieceE_ge (zs:List Int) (j:Nat):j≤pieceE zs j:=(pieceF_ge zs _ j).1
theorem pieceE_le {zs:List Int}{j:Nat}(h:j≤zs.length):pieceE zs j≤zs.length:=(pieceF_ge zs _ j).2 h
theorem cutL_len {zs:List Int}{i j:Nat}(h:j≤zs.length):(cutL zs i j).length=j - i:=by unfold cutL;simp;omega
theorem cutL_get {zs:List Int}{i j m:Nat}(_:j≤zs.length) (hm:m<j - i):(cutL zs i j).getD m 0=zs.getD (i+m) 0:=by
 unfold cutL;rw[List.getD_eq_getElem?_getD,List.getD_eq_getElem?_getD,List.getElem?_drop,List.getElem?_take_of_lt (by omega)]
theorem cutL_isB {zs:List Int}(hz:∀ j,isB (zs.getD j 0)) {i j:Nat}(hj:j≤zs.length):∀ m,isB ((cutL zs i j).getD m 0):=by
 intro m;rcases Nat.lt_or_ge m (j - i) with h|h
 ·rw[cutL_get hj h];exact hz _
 ·rw[List.getD_eq_getElem?_getD,List.getElem?_eq_none (by rw[cutL_len hj];exact h)];exact⟨by simp,by simp⟩
def flatT:List (Tok × Value)→List Value
 | []=>[]
 | p::r=>.int .i64 p.1.1::.int .i64 p.1.2.1::.int .i64 p.1.2.2.1::p.2::flatT r
theorem flatT_append (ps qs:List (Tok × Value)):flatT (ps++qs)=flatT ps++flatT qs:=by
 induction ps with
 | nil=>rfl
 | cons p r ih=>simp[flatT,ih]
theorem flatT_get:∀ (ps:List (Tok × Value)) (j:Nat) (hj:j<ps.length),(flatT ps)[j*4]?=some (.int .i64 ps[j].1.1)∧(flatT ps)[j*4+1]?=some (.int .i64 ps[j].1.2.1)∧(flatT ps)[j*4+2]?=some (.int .i64 ps[j].1.2.2.1)∧(flatT ps)[j*4+3]?=some ps[j].2
 | p::r,0,_=>⟨rfl,rfl,rfl,rfl⟩
 | p::r,j+1,hj=>by
  have:=flatT_get r j (by simpa using hj);rw[show (j+1)*4=j*4+1+1+1+1 by omega];exact this
end Go.Proofs.YtgholpilmdebmaaGreatDoor.KL
