import Derived.Test.YtehbpeinnepdcaaGreatDoorPrWoB
import Derived.Test.YtehbpeinnepdcaaGreatDoorPrG46
import Derived.Test.YtehbpeinnepdcaaGreatDoorPrG51
import Derived.Test.YtehbpeinnepdcaaGreatDoorPrG52
import Derived.Test.YtehbpeinnepdcaaGreatDoorPrG35
set_option maxHeartbeats 16000000
set_option maxRecDepth 8000
set_option linter.unusedVariables false
set_option linter.unusedSimpArgs false
namespace Go.Proofs.YtehbpeinnepdcaaGreatDoor
open Go.RowKit
@[reducible] def wA (x:Wo) (q:Wp):Array Value:=#[.int .i64 x.w,.slice q.a x.ss.length q.c,.slice q.a' x.ws.length q.c',.bool x.up,.int .i64 x.W,.int .i64 x.S,.int .i64 x.L,.int .i64 x.T,.int .i64 x.H,.int .i64 x.F,.int .i64 x.R,.int .i64 x.U,.int .i64 x.O,.slice q.s x.rs.length q.cs,.slice q.p x.P.length q.cp,.slice q.t x.ts.length q.ct]
@[reducible] def wL (x:Wo) (q:Wp):List Value:=[.int .i64 x.w,.slice q.a x.ss.length q.c,.slice q.a' x.ws.length q.c',.bool x.up,.int .i64 x.W,.int .i64 x.S,.int .i64 x.L,.int .i64 x.T,.int .i64 x.H,.int .i64 x.F,.int .i64 x.R,.int .i64 x.U,.int .i64 x.O,.slice q.s x.rs.length q.cs,.slice q.p x.P.length q.cp,.slice q.t x.ts.length q.ct]
def Xbr (x:Wo):Bool:=decide (x.W=0/\x.S=0/\x.L=0/\(x.T=0/\x.H=0/\x.F=0/\x.R=0)/\x.U=0/\x.O=0/\x.rs.length=0)
def v7c (x:Wo):Bool:=if x.up=true then jWr x.W x.S x.L x.T x.H x.F x.R x.U x.O x.rs && decide (x.W=x.w/\x.S=(x.ss.length:Int)) else Xbr x
def yel (P:List (List (ByteArray×ByteArray))):Bool:=decide (1<=P.length/\P.length<=200) && P.all z0q
def qCR (ts:List ByteArray):Bool:=decide (ts.length<=2000) && ts.all fun s=>decide (s.size=64)
def XLO (x:Wo):Bool:=decide (1<=x.w/\x.w<=8) && (vlG x.ss x.ws && (v7c x && (yel x.P && qCR x.ts)))
theorem QMQ (a:Option Addr) (P:List (List (ByteArray×ByteArray))) (c:Nat) (w:World) (h:Pst w a P) (hl:P.length<=1048576) (hs:∀ rs∈P,rs.length<=1048576/\∀ s∈rs,s.1.size<=1048576/\s.2.size<=1048576) :
  Calls Tryz.prog 30 #[.slice a P.length c] w fun e w'=>e=.returned (.bool (yel P))/\Below w.heap.size w w':=by
 by_cases h1:P.length<1
 ·have e:yel P=false:=by unfold yel;rw [decide_eq_false (by omega)];rfl
  rw [e];have aG:(P.length:Int)<1:=by omega
  go_enter Tryz.func30,Tryz.ntmps30;go_wp2;go_ret;exact ⟨rfl,Below.refl _ _⟩
 have aG:¬ (P.length:Int)<1:=by omega
 by_cases h2:200<P.length
 ·have e:yel P=false:=by unfold yel;rw [decide_eq_false (by omega)];rfl
  rw [e];have aH:(200:Int)<(P.length:Int):=by omega
  go_enter Tryz.func30,Tryz.ntmps30;go_wp2;go_ret;exact ⟨rfl,Below.refl _ _⟩
 have aH:¬ (200:Int)<(P.length:Int):=by omega
 have HN:Hid (∀ k,k<P.length->z0q (P.getD k [])=false->yel P=false):=fun k hk hx=>by
  unfold yel;have:P.all z0q=false:=List.all_eq_false.2 ⟨P.getD k [],by simp [List.getD,hk],by rw [hx];simp⟩;rw [this,Bool.and_false]
 have HY:Hid ((∀ k,k<P.length->z0q (P.getD k [])=true)->yel P=true):=fun hx=>by
  unfold yel;rw [decide_eq_true (by omega),Bool.true_and]
  refine List.all_eq_true.2 fun rs hr=>?_
  obtain ⟨k,hk,rfl⟩:=List.getElem_of_mem hr;have:=hx k hk;simpa [List.getD,hk] using this
 obtain ⟨B,HB⟩:∃ B,Hid (B=yel P):=⟨_,hid rfl⟩;rw [<-HB.out] at HN HY ⊢;clear h1 h2;go_enter Tryz.func30,Tryz.ntmps30;go_wp2;go_loopw [4,15] (fun _ i wr=>∃ k:Nat,k<=P.length/\i=.int .i64 (k:Int)/\Hid (∀ j,j<k->z0q (P.getD j [])=true)/\Below w.heap.size w wr) (fun _ i _=>P.length-(intOf i).toNat)
 case atStart=>exact ⟨0,Nat.zero_le _,rfl,fun j hj=>absurd hj (by omega),Below.refl _ _⟩
 case round =>
  obtain ⟨k,hk,rfl,HA,aA⟩:=hrel
  by_cases aF:k<P.length
  ·obtain ⟨b,o,p,cp,rfl,aJ,aI,HP⟩:=(h.below aA).at aF
   obtain ⟨rs,aD⟩:∃ rs,Hid (rs=P.getD k []):=⟨_,hid rfl⟩;rw [<-aD.out] at aI HP;have aB:rs∈P:=by rw [aD.out];simp [List.getD,aF]
   have HV:=hid (fun ob=>vrd p rs cp (wr.alloc ob) (HP.out.below (zE5 _ _)) (hs rs aB).1 (hs rs aB).2);have aC:=hid aA;clear aA
   cases hst:z0q rs with
   | false =>
    rw [hst] at HV;obtain rfl:B=false:=HN.out k aF (by rw [<-aD.out];exact hst);go_wp2_with (go_at_call 54;refine (HV.out _).mono ?_;rintro e w2 ⟨rfl,aE⟩);go_ret;exact ⟨rfl,aC.out.trans (((zE5 wr _).trans (aE.mono (by simp))).mono aC.out.size)⟩
   | true =>
    rw [hst] at HV;go_wp2_with (go_at_call 54;refine (HV.out _).mono ?_;rintro e w2 ⟨rfl,aE⟩);go_roundw
    case rel=>exact ⟨k+1,by omega,by go_num,fun j hj=>by
     by_cases e:j=k
     ·subst e;rw [<-aD.out];exact hst
     ·exact HA.out j (by omega),aC.out.trans (((zE5 wr _).trans (aE.mono (by simp))).mono aC.out.size)⟩
    case measure=>simp [intOf];omega
  ·obtain rfl:B=true:=HY.out (fun j hj=>HA.out j (by omega))
   go_wp2;go_ret;exact ⟨rfl,aA⟩
theorem joU (a:Option Addr) (ts:List ByteArray) (c:Nat) (w:World) (h:Strs w a ts) (hl:ts.length<=1048576) (hs:∀ s∈ts,s.size<=1048576) :
  Calls Tryz.prog 31 #[.slice a ts.length c] w fun e w'=>e=.returned (.bool (qCR ts))/\Below w.heap.size w w':=by
 by_cases h2:2000<ts.length
 ·have e:qCR ts=false:=by unfold qCR;rw [decide_eq_false (by omega)];rfl
  rw [e];have aD:(2000:Int)<(ts.length:Int):=by omega
  go_enter Tryz.func31,Tryz.ntmps31;go_wp2;go_ret;exact ⟨rfl,Below.refl _ _⟩
 have aD:¬ (2000:Int)<(ts.length:Int):=by omega
 have HN:Hid (∀ k,k<ts.length->¬ (ts.getD k ByteArray.empty).size=64->qCR ts=false):=fun k hk hx=>by
  unfold qCR;have:(ts.all fun s=>decide (s.size=64))=false:=List.all_eq_false.2 ⟨ts.getD k ByteArray.empty,by simp [List.getD,hk],by simpa using hx⟩;rw [this,Bool.and_false]
 have HY:Hid ((∀ k,k<ts.length->(ts.getD k ByteArray.empty).size=64)->qCR ts=true):=fun hx=>by
  unfold qCR;rw [decide_eq_true (by omega),Bool.true_and]
  refine List.all_eq_true.2 fun s hr=>?_
  obtain ⟨k,hk,rfl⟩:=List.getElem_of_mem hr;have:=hx k hk;simpa [List.getD,hk] using this
 obtain ⟨B,HB⟩:∃ B,Hid (B=qCR ts):=⟨_,hid rfl⟩;rw [<-HB.out] at HN HY ⊢;clear h2;go_enter Tryz.func31,Tryz.ntmps31;go_wp2;go_loopw [4,10] (fun _ i wr=>∃ k:Nat,k<=ts.length/\i=.int .i64 (k:Int)/\Hid (∀ j,j<k->(ts.getD j ByteArray.empty).size=64)/\wr=w) (fun _ i _=>ts.length-(intOf i).toNat)
 case atStart=>exact ⟨0,Nat.zero_le _,rfl,fun j hj=>absurd hj (by omega),rfl⟩
 case round =>
  obtain ⟨k,hk,rfl,HA,rfl⟩:=hrel
  by_cases aB:k<ts.length
  ·obtain ⟨b,o,s,rfl,hc,HS⟩:=h.at aB
   have aE:=hs s (by rw [HS.out];simp [List.getD,aB])
   by_cases aC:s.size=64
   ·have aA:(s.size:Int)=64:=by omega
    go_wp2;go_roundw
    case rel=>exact ⟨k+1,by omega,by go_num,fun j hj=>by
     by_cases e:j=k
     ·subst e;rw [<-HS.out];exact aC
     ·exact HA.out j (by omega),by first | rfl | trivial⟩
    case measure=>simp [intOf];omega
   ·have aA:¬ (s.size:Int)=64:=by omega
    obtain rfl:B=false:=HN.out k aB (by rw [<-HS.out];exact aC);go_wp2;go_ret;exact ⟨rfl,Below.refl _ _⟩
  ·obtain rfl:B=true:=HY.out (fun j hj=>HA.out j (by omega))
   go_wp2;go_ret;exact ⟨rfl,Below.refl _ _⟩
theorem xha (x:Wo) (q:Wp) (w:World) (hl:x.rs.length<=1048576) :
  Calls Tryz.prog 52 #[QPD x.W x.S x.L x.T x.H x.F x.R x.U x.O q.s x.rs.length q.cs] w fun e w'=>e=.returned (.bool (Xbr x))/\Below w.heap.size w w':=by
 unfold QPD
 by_cases h0:x.W=0
 rotate_left
 ·have e:Xbr x=false:=decide_eq_false (fun hh=>h0 hh.1)
  rw [e];go_enter Tryz.func52,Tryz.ntmps52;go_wp2;go_ret;exact ⟨rfl,zE5 _ _⟩
 by_cases h1:x.S=0
 rotate_left
 ·have e:Xbr x=false:=decide_eq_false (fun hh=>h1 hh.2.1)
  rw [e];go_enter Tryz.func52,Tryz.ntmps52;go_wp2;go_ret;exact ⟨rfl,zE5 _ _⟩
 by_cases h2:x.L=0
 rotate_left
 ·have e:Xbr x=false:=decide_eq_false (fun hh=>h2 hh.2.2.1)
  rw [e];go_enter Tryz.func52,Tryz.ntmps52;go_wp2;go_ret;exact ⟨rfl,zE5 _ _⟩
 by_cases h3:(x.T=0/\x.H=0/\x.F=0/\x.R=0)
 rotate_left
 ·have e:Xbr x=false:=decide_eq_false (fun hh=>h3 hh.2.2.2.1)
  rw [e];have aB:(Value.agg #[.int .i64 x.T,.int .i64 x.H,.int .i64 x.F,.int .i64 x.R]=Value.agg #[.int .i64 0,.int .i64 0,.int .i64 0,.int .i64 0])=False:=by simp;omega
  go_enter Tryz.func52,Tryz.ntmps52;go_wp2
  all_goals (go_ret;exact ⟨rfl,zE5 _ _⟩)
 by_cases h4:x.U=0
 rotate_left
 ·have e:Xbr x=false:=decide_eq_false (fun hh=>h4 hh.2.2.2.2.1)
  rw [e];go_enter Tryz.func52,Tryz.ntmps52;go_wp2;go_ret;exact ⟨rfl,zE5 _ _⟩
 by_cases h5:x.O=0
 rotate_left
 ·have e:Xbr x=false:=decide_eq_false (fun hh=>h5 hh.2.2.2.2.2.1)
  rw [e];go_enter Tryz.func52,Tryz.ntmps52;go_wp2;go_ret;exact ⟨rfl,zE5 _ _⟩
 by_cases h6:x.rs.length=0
 rotate_left
 ·have e:Xbr x=false:=decide_eq_false (fun hh=>h6 hh.2.2.2.2.2.2)
  rw [e];have aA:¬ (x.rs.length:Int)=0:=by omega
  go_enter Tryz.func52,Tryz.ntmps52;go_wp2;go_ret;have e6:((x.rs.length:Int) == 0)=false:=beq_eq_false_iff_ne.2 aA;exact ⟨by show Ending.returned (Value.bool ((x.rs.length:Int) == 0))=_;rw [e6],zE5 _ _⟩
 have e:Xbr x=true:=decide_eq_true ⟨h0,h1,h2,h3,h4,h5,h6⟩;rw [e];obtain ⟨aC,aD,aE,aF⟩:=h3;have aA:(x.rs.length:Int)=0:=by omega
 go_enter Tryz.func52,Tryz.ntmps52;go_wp2;go_ret;exact ⟨rfl,zE5 _ _⟩
theorem jpY (x:Wo) (q:Wp) (w:World) (hl:x.rs.length<=1048576) :
  Calls Tryz.prog 19 #[QPD x.W x.S x.L x.T x.H x.F x.R x.U x.O q.s x.rs.length q.cs] w fun e w'=>e=.returned (.bool (Xbr x))/\Below w.heap.size w w':=by
 unfold QPD
 by_cases h0:x.W=0
 rotate_left
 ·have e:Xbr x=false:=decide_eq_false (fun hh=>h0 hh.1)
  rw [e];go_enter Tryz.func19,Tryz.ntmps19;go_wp2;go_ret;exact ⟨rfl,zE5 _ _⟩
 by_cases h1:x.S=0
 rotate_left
 ·have e:Xbr x=false:=decide_eq_false (fun hh=>h1 hh.2.1)
  rw [e];go_enter Tryz.func19,Tryz.ntmps19;go_wp2;go_ret;exact ⟨rfl,zE5 _ _⟩
 by_cases h2:x.L=0
 rotate_left
 ·have e:Xbr x=false:=decide_eq_false (fun hh=>h2 hh.2.2.1)
  rw [e];go_enter Tryz.func19,Tryz.ntmps19;go_wp2;go_ret;exact ⟨rfl,zE5 _ _⟩
 by_cases h3:(x.T=0/\x.H=0/\x.F=0/\x.R=0)
 rotate_left
 ·have e:Xbr x=false:=decide_eq_false (fun hh=>h3 hh.2.2.2.1)
  rw [e];have aB:(Value.agg #[.int .i64 x.T,.int .i64 x.H,.int .i64 x.F,.int .i64 x.R]=Value.agg #[.int .i64 0,.int .i64 0,.int .i64 0,.int .i64 0])=False:=by simp;omega
  go_enter Tryz.func19,Tryz.ntmps19;go_wp2
  all_goals (go_ret;exact ⟨rfl,zE5 _ _⟩)
 by_cases h4:x.U=0
 rotate_left
 ·have e:Xbr x=false:=decide_eq_false (fun hh=>h4 hh.2.2.2.2.1)
  rw [e];go_enter Tryz.func19,Tryz.ntmps19;go_wp2;go_ret;exact ⟨rfl,zE5 _ _⟩
 by_cases h5:x.O=0
 rotate_left
 ·have e:Xbr x=false:=decide_eq_false (fun hh=>h5 hh.2.2.2.2.2.1)
  rw [e];go_enter Tryz.func19,Tryz.ntmps19;go_wp2;go_ret;exact ⟨rfl,zE5 _ _⟩
 by_cases h6:x.rs.length=0
 rotate_left
 ·have e:Xbr x=false:=decide_eq_false (fun hh=>h6 hh.2.2.2.2.2.2)
  rw [e];have aA:¬ (x.rs.length:Int)=0:=by omega
  go_enter Tryz.func19,Tryz.ntmps19;go_wp2;go_ret;have e6:((x.rs.length:Int) == 0)=false:=beq_eq_false_iff_ne.2 aA;exact ⟨by show Ending.returned (Value.bool ((x.rs.length:Int) == 0))=_;rw [e6],zE5 _ _⟩
 have e:Xbr x=true:=decide_eq_true ⟨h0,h1,h2,h3,h4,h5,h6⟩;rw [e];obtain ⟨aC,aD,aE,aF⟩:=h3;have aA:(x.rs.length:Int)=0:=by omega
 go_enter Tryz.func19,Tryz.ntmps19;go_wp2;go_ret;exact ⟨rfl,zE5 _ _⟩
structure Ev where
 K:Int
 b:List Ch
 cut:Int
 fs:List Int
def Wo.call (x:Wo) (e:Ev):Dd×Bool :=
 if e.K=1 then (Zfa x.ss x.ws x.w,!x.up)
 else if e.K=2 then (QUx x.W x.S x.L x.T x.H x.F x.R x.U x.O x.rs e.b,x.up)
 else if e.K=3 then (jej x.W x.S x.L x.T x.H x.F x.R x.U x.O x.rs,x.up)
 else if e.K=4 then (JfS x.W x.S x.L x.T x.H x.F x.R x.U x.O x.rs,x.up)
 else (noD 0,false)
def Wo.pow (x:Wo) (fs:List Int):Wo:={ x with ss:=jYf fs x.ss x.ws,ws:=[],up:=false,W:=0,S:=0,L:=0,T:=0,H:=0,F:=0,R:=0,U:=0,O:=0,rs:=[] }
def ZJ5 (e:Ev) (d:Dd):Bool:=decide (0<=e.cut/\e.cut<=d.ops.length)
def evN (e:Ev) (d:Dd):Nat:=if 0<=e.cut/\e.cut<=d.ops.length then e.cut.toNat else d.ops.length
theorem X7G (e:Ev) (d:Dd):evN e d<=d.ops.length:=by unfold evN;split<;>omega
def xmh (aA:List OpT):List ByteArray:=aA.filterMap fun o=>if o.1=true then none else some o.2.2
theorem ZaG (l:List OpT) (o:OpT):xmh (l++[o])=xmh l++(if o.1=true then [] else [o.2.2]):=by
 unfold xmh;rw [List.filterMap_append]
 by_cases h:o.1=true<;>simp [h]
theorem yHD (l:List OpT):(xmh l).length<=l.length:=List.length_filterMap_le _ _
def ZmL (x:Wo) (e:Ev) (d:Dd):List ByteArray:=x.ts++xmh (d.ops.take (evN e d))
def evP (x:Wo) (e:Ev) (d:Dd):List (List Pr):=if e.K=2 then x.P++[d.rs] else x.P
def Wo.ran (x:Wo) (e:Ev) (d:Dd):Wo:={ x with ss:=(pfR x.ss x.ws d.ops (evN e d)).1,ws:=(pfR x.ss x.ws d.ops (evN e d)).2,P:=evP x e d,ts:=ZmL x e d }
def Wo.upS (x:Wo) (d:Dd):Wo:={ x with up:=true,W:=d.W,S:=d.S,L:=d.L,T:=d.T,H:=d.H,F:=d.F,R:=d.R,U:=d.U,O:=d.O,rs:=d.rs }
def Wo.doE (x:Wo) (e:Ev):Wo :=
 if e.K=5 then x.pow e.fs
 else if (x.call e).2=false\/(x.call e).1.C≠0 then x
 else if 2000<(ZmL x e (x.call e).1).length\/200<(evP x e (x.call e).1).length then x
 else if ZJ5 e (x.call e).1=true then (x.ran e (x.call e).1).pow e.fs
 else if e.K=2 then (x.ran e (x.call e).1).upS (x.call e).1
 else { (x.ran e (x.call e).1).upS (x.call e).1 with P:=[(x.call e).1.rs] }
structure Wo.ok (x:Wo):Prop where
 d:vlG x.ss x.ws=true\/(x.ss=[]/\x.ws=[])
 s:z0q x.rs=true
 p:x.P.length<=200/\∀ r∈x.P,z0q r=true
 t:x.ts.length<=2000/\∀ s∈x.ts,s.size<=64
theorem Wo.ok.le {x:Wo} (h:x.ok):x.le 1048576:=by
 have hs:=ytq h.s
 have hd:(x.ss.length<=1048576/\∀ s∈x.ss,s.size<=1048576)/\(x.ws.length<=1048576/\∀ s∈x.ws,s.2.size<=1048576):=by
  rcases h.d with h | ⟨h1,h2⟩
  ·obtain ⟨⟨h1,h2,h3⟩,h4,h5⟩:=q67 h
   refine ⟨⟨by omega,fun s hs=>by have:=h4 s hs;omega⟩,by omega,fun s hs=>?_⟩;have:=of_decide_eq_true (h5 s hs);omega
  ·rw [h1,h2];simp
 exact ⟨hd.1.1,hd.1.2,hd.2.1,hd.2.2,by omega,hs.2,by have:=h.p.1;omega,fun r hr=>by have:=ytq (h.p.2 r hr);exact ⟨by omega,this.2⟩,by have:=h.t.1;omega,fun s hs=>by have:=h.t.2 s hs;omega⟩
theorem ZZf (k l m:Int) (p:ByteArray) (n:Int):(ZQp k l m p n).size<=64:=by
 unfold ZQp
 split
 ·rename_i h
  have hd:=of_decide_eq_true (by unfold Xhw at h;exact h);rw [X5y _ _ _ _ _ (by omega)];exact Nat.le_refl _
 ·simp
theorem ZAG (s:ByteArray) (l f:Int) (n m:Nat):∀ p∈zhI s l f n m,p.size<=64:=by
 unfold zhI
 split
 ·intro p hp
  obtain ⟨i,_,rfl⟩:=List.mem_map.1 hp;exact ZZf _ _ _ _ _
 ·simp
theorem yxu (q:Int) (l:List ByteArray) (h:∀ p∈l,p.size<=64):∀ o∈qWl q l,o.2.2.size<=64:=by
 intro o ho;obtain ⟨i,hi,rfl⟩:=List.mem_mapIdx.1 ho;exact h _ (List.getElem_mem _)
theorem yHa (L F:Int) (n m:Nat) (aA:List (List Ch)):∀ p∈qMR L F n m aA,p.size<=64:=by
 have aC:∀ (aA:List (List Ch)) (aB:List ByteArray),(∀ p∈aB,p.size<=64)->∀ p∈aA.foldl (zM2 L F n m) aB,p.size<=64:=by
  intro aA
  induction aA with
  | nil=>intro aB h;exact h
  | cons b aA ih =>
   intro aB h;refine ih _ ?_;unfold zM2;intro p hp;rcases List.mem_append.1 hp with hp | hp
   ·exact h p hp
   ·exact ZAG _ _ _ _ _ p hp
 refine aC aA _ ?_;intro p hp;rw [List.mem_singleton.1 hp];exact ZZf _ _ _ _ _
def Dd.ok (d:Dd):Prop:=z0q d.rs=true/\d.ops.length<=1000/\∀ o∈d.ops,o.2.2.size<=64
theorem yEs (C:Int):(noD C).ok:=⟨vv3,by simp [noD],by simp [noD]⟩
theorem xkL (W S L T H F:Int) (rs:List Pr) (h:z0q rs=true) (hl:(kGX W S L T H F rs).ops.length<=1000):(kGX W S L T H F rs).ok:=by
 refine ⟨?_,hl,?_⟩<;>unfold kGX<;>split
 ·exact h
 ·exact vv3
 ·intro o ho
  unfold mvD at ho;simp only [List.mem_append,List.mem_cons,List.not_mem_nil,or_false] at ho;rcases ho with ho | rfl | rfl | rfl
  ·exact yxu _ _ (yHa _ _ _ _ _) o ho
  ·simp
  ·show (QCt _ _ _ _ _).size<=64
   unfold QCt
   split
   ·exact ZZf _ _ _ _ _
   ·simp
  ·simp
 ·simp [noD]
theorem ZLl (W S L T H F R U O:Int) (rs:List Pr) (b:List Ch):(QUx W S L T H F R U O rs b).ok:=by
 have hb:=(ZNi W S L T H F R U O rs b).2
 refine ⟨?_,hb,?_⟩<;>unfold QUx<;>(repeat' split)<;>first | exact vv3 | (simp [noD];done) | skip
 ·rename_i h _ _
  show z0q (apR rs b)=true;unfold apR;rw [if_pos h];exact jZe h
 ·exact yxu _ _ (ZAG _ _ _ _ _)
theorem Zns (W S L T H F R U O:Int) (rs:List Pr):(jej W S L T H F R U O rs).ok:=by
 unfold jej
 split
 ·rename_i h
  obtain ⟨_,_,_,_,_,_,_,_,h9⟩:=qTq h
  exact ⟨by first | exact h9 | exact h9.1,by simp,by simp⟩
 ·exact yEs 1
theorem zLq (W S L T H F R U O:Int) (rs:List Pr) (hl:rs.length<=1048576):(JfS W S L T H F R U O rs).ok:=by
 have hb:=(yV3 W S L T H F R U O rs hl).2;unfold JfS at hb ⊢
 split
 ·rename_i h
  rw [if_pos h] at hb;obtain ⟨_,_,_,_,_,_,_,_,h9⟩:=qTq h;exact xkL _ _ _ _ _ _ _ (by first | exact h9 | exact h9.1) hb
 ·exact yEs 1
theorem k7r (ss:List ByteArray) (ws:List (Int×ByteArray)) (n:Int):(Zfa ss ws n).ok:=by
 have hb:=(z2d ss ws n).2;unfold Zfa at hb ⊢
 split
 ·rename_i h
  rw [if_pos h] at hb
  cases hf:qAf (opX ss ws n).1 [] with
  | none=>exact yEs 2
  | some rs =>
   rw [hf] at hb;have hs:=kVn _ _ vv3 _ hf;simp only at hb ⊢
   split
   ·exact yEs 3
   ·rename_i h3
    rw [if_neg h3] at hb
    split
    ·exact yEs 4
    ·rename_i h4
     rw [if_neg h4] at hb
     split
     ·rename_i h5
      rw [if_pos h5] at hb;exact xkL _ _ _ _ _ _ _ hs hb
     ·refine ⟨hs,by simp,?_⟩
      intro o ho;simp only [List.mem_cons,List.not_mem_nil,or_false] at ho;rcases ho with rfl | rfl
      ·exact ZZf _ _ _ _ _
      ·simp
 ·exact yEs 1
theorem Wo.ok.call {x:Wo} (h:x.ok) (e:Ev):(x.call e).1.ok:=by
 have:=(ytq h.s).1;unfold Wo.call
 split
 ·exact k7r _ _ _
 ·split
  ·exact ZLl _ _ _ _ _ _ _ _ _ _ _
  ·split
   ·exact Zns _ _ _ _ _ _ _ _ _ _
   ·split
    ·exact zLq _ _ _ _ _ _ _ _ _ _ (by omega)
    ·exact yEs 0
theorem v05 (zs:List Int):∀ (hs:List (Int×List Int)) (i:Nat) (ps:List (List Int)),(∀ p∈hs,p.2.length=64)->(∀ p∈ps,p.length=64)->∀ p∈Xab zs i hs ps,p.length=64
 | [],_,_,_,h2=>h2
 | x::r,i,ps,h1,h2=>by
  rw [Xab]
  by_cases hk:x.1.toNat<ps.length
  ·refine v05 zs r (i+1) _ (fun p hp=>h1 p (List.mem_cons_of_mem _ hp)) (fun p hp=>?_)
   rcases List.mem_or_eq_of_mem_set hp with hp | rfl
   ·exact h2 p hp
   ·have e1:=h1 x List.mem_cons_self
    have e2:=h2 (ps.getD x.1.toNat []) (by simp [List.getD,hk]);unfold torn;simp only [List.length_append,List.length_take,List.length_drop];omega
  ·rw [List.set_eq_of_length_le (by omega)]
   exact v05 zs r (i+1) _ (fun p hp=>h1 p (List.mem_cons_of_mem _ hp)) h2
theorem xTP (fs:List Int) (ss:List ByteArray) (ws:List (Int×ByteArray)) (h:vlG ss ws=true):∀ s∈secs (Xab fs 0 (ZiU ws) (ss.map zFD)),(s.size:Int)=64:=by
 obtain ⟨_,h4,h5⟩:=q67 h;intro s hs;obtain ⟨l,hl,rfl⟩:=List.mem_map.1 hs
 have:=v05 fs (ZiU ws) 0 (ss.map zFD) (fun p hp=>by
  obtain ⟨x,hx,rfl⟩:=List.mem_map.1 hp;have:=(Zc1 (h5 x hx)).2
  simp only [vgz];omega) (fun p hp=>by
  obtain ⟨x,hx,rfl⟩:=List.mem_map.1 hp;have:=h4 x hx
  simp only [vgz];omega) l hl
 rw [strOfNums_size,this];rfl
theorem X6c (fs:List Int) (ss:List ByteArray) (ws:List (Int×ByteArray)):vlG (jYf fs ss ws) []=true\/(jYf fs ss ws=[]/\([]:List (Int×ByteArray))=[]):=by
 unfold jYf
 split
 ·rename_i h
  refine .inl ?_;obtain ⟨⟨h1,h2,h3⟩,h4,h5⟩:=q67 h;refine Zof ⟨by simp [secs,jjn];omega,by simp [secs,jjn];omega,by simp⟩ (fun s hs=>?_) (by simp);exact xTP fs ss ws h s hs
 ·exact .inr ⟨rfl,rfl⟩
theorem Wo.ok.pow {x:Wo} (h:x.ok) (fs:List Int):(x.pow fs).ok:=⟨X6c fs x.ss x.ws,vv3,h.p,h.t⟩
theorem Q27 (ss:List ByteArray) (ws:List (Int×ByteArray)) (aA:List OpT) (z:Int):vlG (pfR ss ws aA z).1 (pfR ss ws aA z).2=true\/((pfR ss ws aA z).1=[]/\(pfR ss ws aA z).2=[]):=by
 unfold pfR
 split
 ·rename_i h;exact .inl (XJb _ (ss,ws) h)
 ·exact .inr ⟨rfl,rfl⟩
theorem Wo.ok.ran {x:Wo} (h:x.ok) (e:Ev) {d:Dd} (hd:d.ok) (hn:(ZmL x e d).length<=2000/\(evP x e d).length<=200):(x.ran e d).ok:=by
 obtain ⟨h1,h2,h3⟩:=hd
 have aA:∀ s∈ZmL x e d,s.size<=64:=by
  intro s hs;rcases List.mem_append.1 hs with hs | hs
  ·exact h.t.2 s hs
  ·obtain ⟨o,ho,he⟩:=List.mem_filterMap.1 hs
   split at he
   ·cases he
   ·injection he with he
    rw [<-he];exact h3 o (List.mem_of_mem_take ho)
 have hP:∀ r∈evP x e d,z0q r=true:=by
  unfold evP
  split
  ·intro r hr
   rcases List.mem_append.1 hr with hr | hr
   ·exact h.p.2 r hr
   ·rw [List.mem_singleton.1 hr];exact h1
  ·exact h.p.2
 exact ⟨Q27 _ _ _ _,h.s,⟨hn.2,hP⟩,⟨hn.1,aA⟩⟩
theorem Wo.ok.doE {x:Wo} (h:x.ok) (e:Ev):(x.doE e).ok:=by
 have hd:=h.call e;unfold Wo.doE;generalize (x.call e)=c at hd ⊢;obtain ⟨d,aB⟩:=c;obtain ⟨h1,h2,h3⟩:=hd
 split
 ·exact h.pow _
 ·split
  ·exact h
  ·split
   ·exact h
   ·rename_i hn
    simp only at hn h1 h2 h3 ⊢;have aA:=h.ran e (d:=d) ⟨h1,h2,h3⟩ (by omega)
    split
    ·exact aA.pow _
    ·split
     ·exact ⟨aA.d,h1,aA.p,aA.t⟩
     ·exact ⟨aA.d,h1,⟨by simp,fun r hr=>by rw [List.mem_singleton.1 hr];exact h1⟩,aA.t⟩
section
structure DepF (w:World) (F:Nat->Prop) (P:World->Prop):Prop where
 now:P w
 keep:∀ w',Below 0 w w'->(∀ b,F b->b<w.heap.size->w'.heap[b]?=w.heap[b]?)->P w'
section
variable {w w':World} {F G:Nat->Prop} {P Q:World->Prop}
theorem DepF.step (h:DepF w F P) (h0:Below 0 w w') (hk:∀ b,F b->b<w.heap.size->w'.heap[b]?=w.heap[b]?):DepF w' F P :=
 ⟨h.keep w' h0 hk,fun w2 h1 h2=>h.keep w2 (h0.trans (h1.mono (Nat.zero_le _))) (fun b hb hl=>(h2 b hb (Nat.lt_of_lt_of_le hl h0.size)).trans (hk b hb hl))⟩
theorem DepF.below (h:DepF w F P) (hb:Below w.heap.size w w'):DepF w' F P:=h.step (hb.mono (Nat.zero_le _)) (fun b _ hl=>hb.block b hl)
theorem DepF.grown {r:Option Nat} (h:DepF w F P) (hg:w.grownBy w' r) (hr:∀ g,r=some g->¬ F g):DepF w' F P :=
 h.step (jJX hg (Nat.zero_le _) (fun _ _=>Nat.zero_le _)) (fun b hb hl=>hg.block b hl (fun e=>hr b e.symm hb))
theorem DepF.mono (h:DepF w F P) (hF:∀ b,b<w.heap.size->F b->G b):DepF w G P:=⟨h.now,fun w' h1 h2=>h.keep w' h1 (fun b hb hl=>h2 b (hF b hl hb) hl)⟩
theorem DepF.map (h:DepF w F P) (f:∀ W,P W->Q W):DepF w F Q:=⟨f _ h.now,fun w' h1 h2=>f _ (h.keep w' h1 h2)⟩
theorem DepF.and (h:DepF w F P) (k:DepF w F Q):DepF w F (fun W=>P W/\Q W):=⟨⟨h.now,k.now⟩,fun w' h1 h2=>⟨h.keep w' h1 h2,k.keep w' h1 h2⟩⟩
theorem xat {lo hi:Nat} (h:Dep w lo hi P) (hF:∀ b,lo<=b->b<hi->F b):DepF w F P :=
 ⟨h.now,fun w' h1 h2=>h.keep w' (fun b h3 h4=>h2 b (hF b h3 h4) (Nat.lt_of_lt_of_le h4 h.top)) (Nat.le_trans h.top h1.size)⟩
theorem zHg (h:∀ W,P W):DepF w F P:=⟨h _,fun w' _ _=>h _⟩
end
def PstF (w:World) (F:Nat->Prop) (p:Option Addr) (P:List (List Pr)):Prop :=
 P=[]\/∃ b o,p=some ⟨b,o,none⟩/\b<w.heap.size/\F b/\∀ i,i<P.length->∃ p' c',w.cell? ⟨b,o+i,none⟩=some (.slice p' (P.getD i []).length c')/\DepF w F (fun W=>Prs W p' (P.getD i []))
section
variable {w w':World} {F G:Nat->Prop} {p:Option Addr} {P:List (List Pr)}
theorem PstF.step (h:PstF w F p P) (h0:Below 0 w w') (hk:∀ b,F b->b<w.heap.size->w'.heap[b]?=w.heap[b]?):PstF w' F p P:=by
 rcases h with h | ⟨b,o,h1,h2,h3,h4⟩
 ·exact .inl h
 ·refine .inr ⟨b,o,h1,Nat.lt_of_lt_of_le h2 h0.size,h3,fun i hi=>?_⟩
  obtain ⟨p',c',h5,h6⟩:=h4 i hi;exact ⟨p',c',(World.cell?_of_block (a:=⟨b,o+i,none⟩) (hk b h3 h2)).trans h5,h6.step h0 hk⟩
theorem PstF.mono (h:PstF w F p P) (hF:∀ b,b<w.heap.size->F b->G b):PstF w G p P:=by
 rcases h with h | ⟨b,o,h1,h2,h3,h4⟩
 ·exact .inl h
 ·refine .inr ⟨b,o,h1,h2,hF b h2 h3,fun i hi=>?_⟩
  obtain ⟨p',c',h5,h6⟩:=h4 i hi;exact ⟨p',c',h5,h6.mono hF⟩
theorem PstF.pst (h:PstF w F p P):Pst w p P:=by
 rcases h with h | ⟨b,o,h1,h2,h3,h4⟩
 ·exact .inl h
 ·refine .inr ⟨b,o,h1,h2,fun i hi=>?_⟩
  obtain ⟨p',c',h5,h6⟩:=h4 i hi;exact ⟨p',c',h5,h6.now⟩
theorem PstF.below (h:PstF w F p P) (hb:Below w.heap.size w w'):PstF w' F p P:=h.step (hb.mono (Nat.zero_le _)) (fun b _ hl=>hb.block b hl)
end
structure WoF (x:Wo) (w:World) (F:Nat->Prop) (q:Wp):Prop where
 h1:DepF w F (fun W=>Strs W q.a x.ss)
 h2:DepF w F (fun W=>Wrs W q.a' x.ws)
 h3:DepF w F (fun W=>Prs W q.s x.rs)
 h4:PstF w F q.p x.P
 h5:DepF w F (fun W=>Strs W q.t x.ts)
section
variable {x:Wo} {w w':World} {F G:Nat->Prop} {q:Wp}
theorem WoF.step (h:WoF x w F q) (h0:Below 0 w w') (hk:∀ b,F b->b<w.heap.size->w'.heap[b]?=w.heap[b]?):WoF x w' F q:=⟨h.h1.step h0 hk,h.h2.step h0 hk,h.h3.step h0 hk,h.h4.step h0 hk,h.h5.step h0 hk⟩
theorem WoF.below (h:WoF x w F q) (hb:Below w.heap.size w w'):WoF x w' F q:=h.step (hb.mono (Nat.zero_le _)) (fun b _ hl=>hb.block b hl)
theorem WoF.grown {r:Option Nat} (h:WoF x w F q) (hg:w.grownBy w' r) (hr:∀ g,r=some g->¬ F g):WoF x w' F q :=
 h.step (jJX hg (Nat.zero_le _) (fun _ _=>Nat.zero_le _)) (fun b hb hl=>hg.block b hl (fun e=>hr b e.symm hb))
theorem WoF.mono (h:WoF x w F q) (hF:∀ b,b<w.heap.size->F b->G b):WoF x w G q:=⟨h.h1.mono hF,h.h2.mono hF,h.h3.mono hF,h.h4.mono hF,h.h5.mono hF⟩
theorem WoF.at (h:WoF x w F q):x.at w q:=⟨h.h1.now,h.h2.now,h.h3.now,h.h4.pst,h.h5.now⟩
end
def QRt (w w':World) (F:Nat->Prop) (e:Ending) (x:Wo):Prop:=∃ q,e=.returned (Zov x q)/\WoF x w' (fun b=>F b\/w.heap.size<=b) q/\Below w.heap.size w w'
theorem q5E {w:World} {F:Nat->Prop} {p:Option Addr} {P:List (List Pr)} (h:PstF w F p P):∃ news:List Value,news.length=P.length/\(∀ u∈news,u.oneCell'=true)/\(∀ i,i<P.length->∃ p' c',news[i]?=some (.slice p' (P.getD i []).length c')/\DepF w F (fun W=>Prs W p' (P.getD i [])))/\(P=[]\/∃ b o,p=some ⟨b,o,none⟩/\b<w.heap.size/\∀ i u,news[i]?=some u->w.cell? ⟨b,o+i,none⟩=some u):=by
 rcases h with h | ⟨b,o,h1,h2,h3,h4⟩
 ·exact ⟨[],by simp [h],by simp,by simp [h],.inl h⟩
 ·have hc:∀ i,i<P.length->∃ u,w.cell? ⟨b,o+i,none⟩=some u:=fun i hi=>by obtain ⟨p',c',h5,_⟩:=h4 i hi;exact ⟨_,h5⟩
  refine ⟨(List.range P.length).map fun i=>(w.cell? ⟨b,o+i,none⟩).getD undef,by simp,fun u hu=>?_,fun i hi=>?_,.inr ⟨b,o,h1,h2,fun i u hu=>?_⟩⟩
  ·obtain ⟨i,hi,rfl⟩:=List.mem_map.1 hu
   obtain ⟨p',c',h5,_⟩:=h4 i (List.mem_range.1 hi);rw [h5];rfl
  ·obtain ⟨p',c',h5,h6⟩:=h4 i hi
   exact ⟨p',c',by simp [hi,h5],h6⟩
  ·obtain ⟨hi,e⟩:=List.getElem?_eq_some_iff.1 hu
   simp only [List.length_map,List.length_range] at hi;obtain ⟨p',c',h5,_⟩:=h4 i hi;rw [<-e];simp [h5]
theorem xCS (w:World) (o:Obj):Below w.heap.size w (w.alloc o):=(Below.refl _ _).alloc (Nat.le_refl _) _
theorem JoX (b j:Nat):(⟨b,0,none⟩:Addr).add j=⟨b,j,none⟩:=by unfold Addr.add;split<;>simp_all
theorem JWx (x:Int) (h0:-9223372036854775808<=x) (h1:x<=9223372036854775807):IntKind.i64.wrap x=x:=by
 simp [IntKind.wrap,IntKind.bits,IntKind.signed];omega
theorem Zoz {w:World} {g i:Nat} {v:Value} (h:w.cell? ⟨g,i,none⟩=some v):g<w.heap.size:=by
 by_cases hg:g<w.heap.size
 ·exact hg
 ·simp [World.cell?,Array.getElem?_eq_none (by omega:w.heap.size<=g)] at h
theorem xLn {w:World} {base:Nat} {e:TypeId} {size:Nat} {g n cap:Nat} {xs:List Value} (h:w.ownsRow base e size (.slice (some ⟨g,0,none⟩) n cap) n xs):base<=g:=by
 rcases h.2 with h | ⟨g',aA,aB,h1,h2,_⟩
 ·cases h.1
 ·injection h1 with h1
  injection h1 with h1;injection h1 with h1;omega
theorem ymZ {P:Program} {w:World} {F:Nat->Prop} {p:Option Addr} {Q:List (List Pr)} (h:PstF w F p Q) (t e:TypeId) (ht:P.underlying t=some (.slice e)) (c:Nat):∃ news,(∀ w',Below w.heap.size w w'->Src P 1 t (.slice p Q.length c) Q.length news w')/\news.length=Q.length/\(∀ i,i<Q.length->∃ p' c',news[i]?=some (.slice p' (Q.getD i []).length c')/\DepF w F (fun W=>Prs W p' (Q.getD i []))):=by
 obtain ⟨news,h1,h2,h3,h4⟩:=q5E h;refine ⟨news,fun w' hb=>?_,h1,h3⟩;rcases h4 with h4 | ⟨b,o,rfl,hl,h5⟩
 ·subst h4
  have:news=[]:=List.eq_nil_of_length_eq_zero h1;subst this
  cases p with
  | none=>exact Src.ofNil w' ht c
  | some x=>exact Src.ofSlice w' ht x 0 c [] (by simp) (by simp) (by simp)
 ·refine Src.ofSlice w' ht ⟨b,o,none⟩ Q.length c news (by omega) (fun j u hu=>?_) h2
  have ha:(⟨b,o,none⟩:Addr).add j=⟨b,o+j,none⟩:=by unfold Addr.add;split<;>simp_all
  rw [ha];exact (hb.cell (p:=⟨b,o+j,none⟩) hl).trans (h5 j u hu)
theorem Xiu {w:World} {F G:Nat->Prop} {g:Nat} {P:List (List Pr)} {rs:List Pr} {news:List Value} {oa:Option Addr} {oc:Nat} (hl:news.length=P.length) (h:∀ i,i<P.length->∃ p' c',news[i]?=some (.slice p' (P.getD i []).length c')/\DepF w F (fun W=>Prs W p' (P.getD i []))) (hr:Row w g (news++[.slice oa rs.length oc])) (hg:F g) (hd:DepF w F (fun W=>Prs W oa rs)):PstF w F (some ⟨g,0,none⟩) (P++[rs]):=by
 refine .inr ⟨g,0,rfl,hr.lt,hg,fun i hi=>?_⟩;rw [List.length_append,List.length_singleton] at hi
 by_cases h2:i<P.length
 ·obtain ⟨p',c',h3,h4⟩:=h i h2
  have e:(P++[rs]).getD i []=P.getD i []:=by simp [List.getD,List.getElem?_append_left h2]
  rw [e,Nat.zero_add];exact ⟨p',c',hr.cell i _ (by rw [List.getElem?_append_left (by omega)];exact h3),h4⟩
 ·obtain rfl:i=P.length:=by omega
  have e:(P++[rs]).getD P.length []=rs:=by simp [List.getD]
  rw [e,Nat.zero_add];exact ⟨oa,oc,hr.cell _ _ (by rw [<-hl];simp),hd⟩
theorem kFy {w:World} {F:Nat->Prop} {g:Nat} {rs:List Pr} {oa:Option Addr} {oc:Nat} (hr:Row w g [.slice oa rs.length oc]) (hg:F g) (hd:DepF w F (fun W=>Prs W oa rs)):PstF w F (some ⟨g,0,none⟩) [rs] :=
 Xiu (G:=F) (P:=[]) (news:=[]) rfl (fun i hi=>absurd hi (by simp)) hr hg hd
theorem Qzt {P:Program} {w:World} (t ty e:TypeId) (i:TypeInfo) (z:Value) (size aB:Nat) (ht:P.underlying t=some (.slice e)) (hi:P.info? e=some i) (hz:i.zero=some z) (aD:i.size=size) (aJ:i.bytes=aB) (aL:z.cells.size=size)
  (b B:Nat) (h0:w.ownsRow B e size (.slice (some ⟨b,0,none⟩) 0 0) 0 []) (v:Value) (n:Nat) (news:List Value) (aA:Src P size t v n news w) (hn:n<=1048576) (aI:n*aB<=281474976710656) (hB:B<=w.heap.size) :
  ∃ g cap wx,(Builtin.append_ #[t,t] ty #[.slice (some ⟨b,0,none⟩) 0 0,v]).run P w=.ok (.slice (some ⟨g,0,none⟩) n cap) wx/\wx.ownsRow B e size (.slice (some ⟨g,0,none⟩) n cap) n news/\(g=b\/g=w.heap.size)/\Below w.heap.size w wx:=by
 subst aD aJ
 by_cases aK:n=0
 ·subst aK
  have aE:news=[]:=List.eq_nil_of_length_eq_zero (by have:=aA.newsLen;omega);subst aE;have aC:=run_append_room_src (P:=P) w t t ty e i ht hi b 0 0 0 v 0 [] aA (by omega) (by simp) (by simp);exact ⟨_,_,_,aC,h0,.inl rfl,Below.refl _ _⟩
 ·have aF:(Builtin.firstCells i.size 0 (.slice (some ⟨b,0,none⟩) 0 0)).run P w.drew=.ok ([]:List Value).toArray w.drew:=run_firstCells_some w.drew i.size 0 _ 0 0 [] (by simp) (by simp)
  have aC:=run_append_grow_src (P:=P) w t t ty e i z ht hi hz (some ⟨b,0,none⟩) 0 0 [] aF v n news aA (by omega) (by omega) (by rw [Nat.zero_add,Q33 n (by omega)];exact aI);refine ⟨_,_,_,by rw [aC,Nat.zero_add],?_,.inr rfl,(Below.refl _ _).drew.alloc (Nat.le_refl _) _⟩;have aG:=grownCap_ge w (0+n) 0 e;have aH:=grownCap_le_maxLen w (0+n) 0 e (by unfold maxLen;omega);rw [Nat.zero_add] at aG aH;refine ⟨aA.newsLen,.inr ⟨w.heap.size,_,_,rfl,hB,heap_alloc_new w.drew _,aG,aH,?_,?_⟩⟩
  ·simp [size_zeroCells,aA.newsLen,aL]
   rw [<-Nat.add_mul]
   congr 1
   omega
  ·simp [aA.newsLen]
theorem Z4q {P:Program} {w:World} {aF:Array Oper} {aC:List Oper} {o:Oper} {a:Act} {Q:Exit->Act->World->Prop} (aI:o.guard=none) (s x:Operand) (t:TypeId)
  (ho:o.op=.call { callee:=.builtin .append,args:=#[s,x],argTypes:=#[t,t] }) (e:TypeId) (i:TypeInfo) (z:Value) (size aA:Nat) (ht:P.underlying t=some (.slice e)) (hi:P.info? e=some i) (hz:i.zero=some z) (aB:i.size=size) (aH:i.bytes=aA) (aJ:z.cells.size=size)
  (b B:Nat) (hs:a.eval s=.slice (some ⟨b,0,none⟩) 0 0) (h0:w.ownsRow B e size (.slice (some ⟨b,0,none⟩) 0 0) 0 []) (v:Value) (hx:a.eval x=v) (n:Nat) (news:List Value) (aE:Src P size t v n news w) (hn:n<=1048576) (aG:n*aA<=281474976710656) (hB:B<=w.heap.size)
  (h:∀ g cap wx,wx.ownsRow B e size (.slice (some ⟨g,0,none⟩) n cap) n news->(g=b\/g=w.heap.size)->Below w.heap.size w wx->wpList P aF Q aC (a.put o.dst (.slice (some ⟨g,0,none⟩) n cap)) wx):wpList P aF Q (o::aC) a w:=by
 refine wpList_plain aI fun K hK=>?_
 obtain ⟨g,cap,wx,aD,h1,h2,h3⟩:=Qzt (P:=P) (w:=w) t o.type e i z size aA ht hi hz aB aH aJ b B h0 v n news aE hn aG hB;unfold Oper.wp;simp [execOp,ho,resolve,invoke,builtin,hs,hx,aD,Result.andThen];exact hK _ _ (h g cap wx h1 h2 h3)
theorem z98 {P:Program} {w:World} {aE:Array Oper} {o:Oper} {a:Act} {K:Act->World->Prop} {Q:Exit->Act->World->Prop} {E:Prop} (aH:o.guard=none) (s x:Operand) (t:TypeId)
  (ho:o.op=.call { callee:=.builtin .append,args:=#[s,x],argTypes:=#[t,t] }) (e:TypeId) (i:TypeInfo) (z:Value) (size aA:Nat) (ht:P.underlying t=some (.slice e)) (hi:P.info? e=some i) (hz:i.zero=some z) (aB:i.size=size) (aG:i.bytes=aA) (aI:z.cells.size=size)
  (b B:Nat) (hs:a.eval s=.slice (some ⟨b,0,none⟩) 0 0) (h0:w.ownsRow B e size (.slice (some ⟨b,0,none⟩) 0 0) 0 []) (v:Value) (hx:a.eval x=v) (n:Nat) (news:List Value) (aD:Src P size t v n news w) (hn:n<=1048576) (aF:n*aA<=281474976710656) (hB:B<=w.heap.size)
  (h:∀ g cap wx,wx.ownsRow B e size (.slice (some ⟨g,0,none⟩) n cap) n news->(g=b\/g=w.heap.size)->Below w.heap.size w wx->K (a.put o.dst (.slice (some ⟨g,0,none⟩) n cap)) wx) :
  if Region.wanted o (yielded aE a.tmps)=true then Oper.wp P o a w K Q else E:=by
 have hw:Region.wanted o (yielded aE a.tmps)=true:=by simp [Region.wanted,aH]
 rw [if_pos hw];obtain ⟨g,cap,wx,aC,h1,h2,h3⟩:=Qzt (P:=P) (w:=w) t o.type e i z size aA ht hi hz aB aG aI b B h0 v n news aD hn aF hB;unfold Oper.wp;simp [execOp,ho,resolve,invoke,builtin,hs,hx,aC,Result.andThen];exact h g cap wx h1 h2 h3
end
section
theorem ZAx:(Tryz.prog.info? 36).map (·.size)=some 16:=by kernel_rfl
theorem Qvn (w:World) (b o:Nat) (vs:List Value):w.grownBy (w.setCells b o vs) (some b) :=
 ⟨(zyN b vs o w).1,(zyN b vs o w).2.1,(zyN b vs o w).2.2,Nat.le_of_eq (QUl b vs o w).symm,fun i hi hr=>zWW b vs o w i (fun e=>hr (congrArg some e))⟩
theorem Row.sets {w:World} {g:Nat} {cs:List Value} (h:Row w g cs) (vs:List Value) (hl:vs.length=cs.length):Row (w.setCells g 0 vs) g vs:=by
 have ht:w.there g 0 vs.length:=h.there hl;have hr:=World.rangeAt_setCells_same w g 0 vs ht;have aA:=World.there_setCells ht g 0 vs;refine ⟨by rw [QUl];exact h.lt,fun i v hv=>?_,fun i hi=>?_⟩
 ·have:=hr i v hv;rwa [Nat.zero_add] at this
 ·have:=(aA i hi).2;rwa [Nat.zero_add] at this
theorem PstF.grown {w w':World} {F:Nat->Prop} {p:Option Addr} {P:List (List Pr)} {r:Option Nat} (h:PstF w F p P) (hg:w.grownBy w' r) (hr:∀ g,r=some g->¬ F g):PstF w' F p P :=
 h.step (jJX hg (Nat.zero_le _) (fun _ _=>Nat.zero_le _)) (fun b hb hl=>hg.block b hl (fun e=>hr b e.symm hb))
theorem xdC:(Tryz.prog.info? 33).map (·.size)=some 10:=by kernel_rfl
theorem jAy {P:Program} {aC:Array Oper} {aA:List Oper} {op:Oper} {a:Act} {w:World} {Q:Exit->Act->World->Prop} (aD:op.guard=none) (s:TypeId) (x:Operand) (f:Nat) (ho:op.op=.fieldAddr s x f) (v:Value) (aB:(Instr.fieldAt s (a.eval x) f).run P w=.ok v w) (h:wpList P aC Q aA (a.put op.dst v) w):wpList P aC Q (op::aA) a w:=by
 refine wpList_plain aD fun K hK=>?_
 unfold Oper.wp execOp;simp only [ho,aB,Sem.run_bind,Sem.run_pure,Result.andThen_ok];exact hK _ _ h
section
variable {w:World} {g:Nat} {pre cs post:List Value}
theorem Row.rangeMid (h:Row w g (pre++cs++post)):w.rangeAt g pre.length cs:=fun j v hv=>by
 have hj:j<cs.length:=(List.getElem?_eq_some_iff.1 hv).1;exact h.cell (pre.length+j) v (by rw [List.append_assoc,List.getElem?_append_right (by omega),List.getElem?_append_left (by omega),<-hv];congr 1;omega)
theorem Row.thereMid (h:Row w g (pre++cs++post)) {n:Nat} (hn:n=cs.length):w.there g pre.length n:=fun j hj=>by
 subst hn;exact ⟨by rw [h.rangeMid j cs[j] (List.getElem?_eq_getElem hj)];rfl,h.froz (pre.length+j) (by simp;omega)⟩
theorem Row.setsMid (h:Row w g (pre++cs++post)) (vs:List Value) (hl:vs.length=cs.length):Row (w.setCells g pre.length vs) g (pre++vs++post):=by
 have ht:w.there g pre.length vs.length:=h.thereMid hl;refine ⟨by rw [QUl];exact h.lt,fun i v hv=>?_,fun i hi=>by rw [World.frozen?_setCells];exact h.froz i (by simp at hi ⊢;omega)⟩
 by_cases h1:i<pre.length
 ·rw [World.cell?_setCells_out g vs _ w ⟨g,i,none⟩ (fun _ _=>.inl h1)]
  refine h.cell i v ?_;rw [List.append_assoc,List.getElem?_append_left h1] at hv ⊢;exact hv
 ·by_cases h2:i<pre.length+vs.length
  ·have:=World.rangeAt_setCells_same w g pre.length vs ht (i-pre.length) v (by rw [List.append_assoc,List.getElem?_append_right (by omega),List.getElem?_append_left (by omega)] at hv;exact hv)
   rwa [show pre.length+(i-pre.length)=i by omega] at this
  ·rw [World.cell?_setCells_out g vs _ w ⟨g,i,none⟩ (fun _ _=>.inr (by show pre.length+vs.length<=i;omega))]
   refine h.cell i v ?_;rw [List.append_assoc,List.getElem?_append_right (by omega),List.getElem?_append_right (by omega)] at hv ⊢;rw [<-hl];exact hv
end
end
section
theorem XGx (w:World) (X i:Nat) (v:Value):w.grownBy (w.setCell ⟨X,i,none⟩ v) (some X) :=
 ⟨rfl,rfl,rfl,by rw [World.size_setCell];exact Nat.le_refl _,fun j hj hr=>Below.heap_setCell _ _ _ _ (fun e=>hr (congrArg some e))⟩
theorem Dep.setc {w:World} {lo hi:Nat} {F:World->Prop} (h:Dep w lo hi F) (X i:Nat) (v:Value) (hX:X<lo\/hi<=X):Dep (w.setCell ⟨X,i,none⟩ v) lo hi F :=
 h.grown (XGx w X i v) (fun g e=>by cases e;exact hX)
theorem JOt {w:World} {B:Nat} {e:TypeId} {k:Nat} {a:Option Addr} {m c:Nat} {cs:List Value} (h:w.ownsRow B e k (.slice a m c) m cs):Dep w B w.heap.size (fun W=>W.ownsRow B e k (.slice a m c) m cs):=by
 refine ⟨h,Nat.le_refl _,fun w' h1 h2=>?_⟩;rcases h.2 with h3 | ⟨g,cap,aA,k1,k2,k3,k4⟩
 ·exact ⟨h.1,.inl h3⟩
 ·have hg:g<w.heap.size:=by
   rcases Nat.lt_or_ge g w.heap.size with hl | hl
   ·exact hl
   ·rw [Array.getElem?_eq_none hl] at k3;cases k3
  exact ⟨h.1,.inr ⟨g,cap,aA,k1,k2,(h1 g k2 hg).trans k3,k4⟩⟩
theorem jl1 {w:World} {lo hi:Nat} {F G:World->Prop} (h:Dep w lo hi F) (f:∀ W,F W->G W):Dep w lo hi G:=⟨f _ h.now,h.top,fun w' h1 h2=>f _ (h.keep w' h1 h2)⟩
theorem XsO {w:World} {B:Nat} {e:TypeId} {a:Option Addr} {m c:Nat} {o:List Ch} (h:w.ownsRow B e 3 (.slice a m c) o.length (jlM o)):Chs w a o:=by
 rcases yUO h with ⟨h1,h2⟩ | ⟨g,cap,h1,h2⟩
 ·exact .inl (List.eq_nil_of_length_eq_zero h2)
 ·cases h1
  exact (kX5 h).chs
theorem JWp {w:World} {B:Nat} {e:TypeId} {a:Option Addr} {m c:Nat} {zs:List Int} (h:w.ownsRow B e 1 (.slice a m c) zs.length (zs.map (Value.int .i64))):Ints w a zs:=by
 rcases yUO h with ⟨h1,h2⟩ | ⟨g,cap,h1,h2⟩
 ·exact .inl (List.eq_nil_of_length_eq_zero h2)
 ·cases h1
  have hr:=kX5 h;exact .inr ⟨g,0,rfl,hr.lt,fun i hi=>by rw [Nat.zero_add];exact hr.cell i _ (by simp [List.getD,hi])⟩
structure EvD (w0 w:World) (R:Nat) (a:Option Addr) (n c:Nat) (q:Int) (K:Int) (ba:Option Addr) (bc:Nat) (b:List Ch) (cut:Int) (hi:Nat) (y:Value) (fs:List Int):Prop where
 x:BdX w0 w 3 1 R a n c q y fs.length (fs.map (Value.int .i64)) (w0.heap.size+1) [.int .i64 K,.slice ba b.length bc,.int .i64 cut,y]
 bt:Dep w (w0.heap.size+2) hi (fun W=>Chs W ba b)
 rb:Row w w0.heap.size [.int .i64 0,.slice none 0 0,.int .i64 0,.slice none 0 0]
 yo:∀ g,y.ownBlock=some g->hi<=g
 eh:w0.heap.size+2<=hi
section
variable {w0 w w':World} {R:Nat} {a:Option Addr} {n c:Nat} {q q':Int} {K K':Int} {ba:Option Addr} {bc:Nat} {b:List Ch} {cut:Int} {hi:Nat} {y:Value} {fs:List Int}
theorem EvD.rd (h:EvD w0 w R a n c q K ba bc b cut hi y fs):Rdr w R a n c q:=h.x.s.rd
theorem EvD.pick (h:EvD w0 w R a n c q K ba bc b cut hi y fs) (hr:Rdr w' R a n c q') (hg:w.grownBy w' (some R)):EvD w0 w' R a n c q' K ba bc b cut hi y fs :=
 ⟨h.x.pick hr hg,h.bt.grown hg (fun g e=>by cases e;have:=h.x.s.lR;omega),h.rb.grown hg (fun e=>by have:=h.x.s.lR;injection e with e;omega),h.yo,h.eh⟩
theorem EvD.below (h:EvD w0 w R a n c q K ba bc b cut hi y fs) (hb:Below w.heap.size w w'):EvD w0 w' R a n c q K ba bc b cut hi y fs :=
 ⟨h.x.below hb,h.bt.below hb,h.rb.below hb,h.yo,h.eh⟩
theorem EvD.drew (h:EvD w0 w R a n c q K ba bc b cut hi y fs):EvD w0 w.drew R a n c q K ba bc b cut hi y fs:=h.below (Below.refl _ _).drew
theorem EvD.lt (h:EvD w0 w R a n c q K ba bc b cut hi y fs):w0.heap.size+2<=w.heap.size:=by have:=h.x.row.lt;omega
theorem EvD.kind (h:EvD w0 w R a n c q K ba bc b cut hi y fs) (k:Int):EvD w0 (w.setCell ⟨w0.heap.size+1,0,none⟩ (.int .i64 k)) R a n c q k ba bc b cut hi y fs :=
 ⟨h.x.set 0 (by simp) _,h.bt.setc _ _ _ (.inl (by omega)),h.rb.grown (XGx _ _ _ _) (fun e=>by injection e with e;omega),h.yo,h.eh⟩
theorem EvD.cutTo (h:EvD w0 w R a n c q K ba bc b cut hi y fs) (k:Int):EvD w0 (w.setCell ⟨w0.heap.size+1,2,none⟩ (.int .i64 k)) R a n c q K ba bc b k hi y fs :=
 ⟨h.x.set 2 (by simp) _,h.bt.setc _ _ _ (.inl (by omega)),h.rb.grown (XGx _ _ _ _) (fun e=>by injection e with e;omega),h.yo,h.eh⟩
theorem EvD.batch {bs:List Ch} {va:Option Addr} {vc:Nat} (h:EvD w0 w R a n c q K none 0 [] cut hi (.slice none 0 0) []) (hr:Rdr w' R a n c q') (hg:w.grownBy w' (some R)) (ho:w'.ownsRow w.heap.size 121 3 (.slice va bs.length vc) bs.length (jlM bs)) :
  EvD w0 (w'.setCell ⟨w0.heap.size+1,1,none⟩ (.slice va bs.length vc)) R a n c q' K va vc bs cut w'.heap.size (.slice none 0 0) []:=by
 have h1:=h.pick hr hg;have hl:=h.lt;have hs:=hg.size;refine ⟨h1.x.set 1 (by simp) _,?_,h1.rb.grown (XGx _ _ _ _) (fun e=>by injection e with e;omega),fun g e=>(by cases e),by omega⟩;exact ((jl1 (JOt ho) fun W k=>XsO k).wide (by omega) (Nat.le_refl _) (Nat.le_refl _)).setc _ _ _ (.inl (by omega))
theorem EvD.fate {z:Int} {g cap H:Nat} (h:EvD w0 w R a n c q K ba bc b cut hi y fs) (aA:w'.ownsRow w0.heap.size 3 1 (.slice (some ⟨g,0,none⟩) (fs.length+1) cap) (fs.length+1) (fs.map (Value.int .i64)++[.int .i64 z])) (hg:w.grownBy w' y.ownBlock) (aB:y.ownBlock=some g\/g=H) (hH:w.heap.size<=H) :
  EvD w0 (w'.setCell ⟨w0.heap.size+1,3,none⟩ (.slice (some ⟨g,0,none⟩) (fs.length+1) cap)) R a n c q K ba bc b cut hi (.slice (some ⟨g,0,none⟩) (fs.length+1) cap) (fs++[z]):=by
 have hl:=h.lt;have ht:=h.bt.top;have aC:hi<=g:=by rcases aB with e | e;exact h.yo g e;omega
 have he:=h.eh;have ob:(Value.slice (some ⟨g,0,none⟩) (fs.length+1) cap).ownBlock=some g:=rfl
 have xo:(Value.slice (some ⟨g,0,none⟩) (fs.length+1) cap).ownBlock≠some (w0.heap.size+1):=fun e=>by rw [ob] at e;injection e with e;omega
 have e1:(fs++[z]).map (Value.int .i64)=fs.map (Value.int .i64)++[.int .i64 z]:=by simp
 have e2:(fs++[z]).length=fs.length+1:=by simp
 have P:=h.x.s.push aA hg;have R1:=h.x.row.grown hg (fun e=>h.x.xo e.symm);have X1:BdX w0 w' 3 1 R a n c q (.slice (some ⟨g,0,none⟩) (fs.length+1) cap) (fs.length+1) (fs.map (Value.int .i64)++[.int .i64 z]) (w0.heap.size+1) [.int .i64 K,.slice ba b.length bc,.int .i64 cut,y]:=⟨P,R1,xo,h.x.xb⟩;have X2:=X1.set 3 (by simp) (.slice (some ⟨g,0,none⟩) (fs.length+1) cap);refine ⟨by rw [e1,e2];exact X2,(h.bt.grown hg (fun k e=>.inr (h.yo k e))).setc _ _ _ (.inl (by omega)),(h.rb.grown hg (fun e=>by have:=h.yo _ e.symm;omega)).grown (XGx _ _ _ _) (fun e=>by injection e with e;omega),fun k e=>by rw [ob] at e;injection e with e;omega,he⟩
theorem EvD.fin {ya:Option Addr} {m yc:Nat} (h:EvD w0 w R a n c q K ba bc b cut hi (.slice ya m yc) fs) (hm:m=fs.length) (WF:World) (e:WF=(((w.setCell ⟨w0.heap.size,0,none⟩ (.int .i64 K)).setCell ⟨w0.heap.size,1,none⟩ (.slice ba b.length bc)).setCell ⟨w0.heap.size,2,none⟩ (.int .i64 cut)).setCell ⟨w0.heap.size,3,none⟩ (.slice ya m yc)) :
  Row WF w0.heap.size [.int .i64 K,.slice ba b.length bc,.int .i64 cut,.slice ya m yc]/\Dep WF w0.heap.size WF.heap.size (fun W=>Chs W ba b)/\Dep WF w0.heap.size WF.heap.size (fun W=>Ints W ya fs)/\Rdr WF R a n c q/\w0.grownBy WF (some R):=by
 subst hm;have hr:=(((h.rb.set 0 (by simp) (.int .i64 K)).set 1 (by simp) (.slice ba b.length bc)).set 2 (by simp) (.int .i64 cut)).set 3 (by simp) (.slice ya fs.length yc);have G:=ZpU (ZpU (ZpU (XGx w w0.heap.size 0 (.int .i64 K)) (XGx _ w0.heap.size 1 (.slice ba b.length bc))) (XGx _ w0.heap.size 2 (.int .i64 cut))) (XGx _ w0.heap.size 3 (.slice ya fs.length yc));rw [<-e] at hr G;have hl:=h.lt;have hs:=G.size;have hb:Below w0.heap.size w WF:=jJX G (by omega) (fun g e=>by cases e;exact Nat.le_refl _);have ho:=h.x.s.own.kept G (.inr (fun e=>by have:=h.yo _ e;have:=h.eh;omega))
 refine ⟨hr,(h.bt.grown G (fun g e=>by cases e;exact .inl (by omega))).wide (by omega) (by have:=h.bt.top;omega) (Nat.le_refl _),jl1 (JOt ho) fun W k=>JWp k,h.rd.keep (N:=w0.heap.size) h.x.s.lR h.x.s.ga hb,?_⟩
 have g0:=h.x.s.gr;exact ⟨hb.os.trans g0.os,hb.tape.trans g0.tape,hb.output.trans g0.output,Nat.le_trans g0.size hb.size,fun i hi hr=>(hb.block i hi).trans (g0.block i hi hr)⟩
end
end
end Go.Proofs.YtehbpeinnepdcaaGreatDoor
namespace Go.Proofs.YtehbpeinnepdcaaGreatDoor
open Go.RowKit Go.Proofs.YtehbpeinnepdcaaGreatDoor.nw
def yNz (n wd:Int):Wo:={ w:=wd,ss:=newSS n,ws:=[],up:=false,W:=0,S:=0,L:=0,T:=0,H:=0,F:=0,R:=0,U:=0,O:=0,rs:=[],P:=[[]],ts:=[] }
theorem js8 {n wd:Int} (hn:8<=n/\n<=200):(yNz n wd).ok:=by
 refine ⟨.inl ?_,vv3,⟨by simp [yNz],fun r hr=>?_⟩,⟨by simp [yNz],fun s hs=>by simp [yNz] at hs⟩⟩
 ·show vlG (newSS n) []=true
  unfold newSS;rw [if_pos hn];exact Zof (by rw [List.length_replicate];simp;omega) (fun s hs=>by rw [List.eq_of_mem_replicate hs];decide) (fun x hx=>by cases hx)
 ·simp [yNz] at hr
  subst hr;exact vv3
theorem ZY5 (n wd:Int) (w:World) (hn:8<=n/\n<=200) (h1:1<=wd/\wd<=8):Calls Tryz.prog 70 #[.int .i64 n,.int .i64 wd] w fun e w'=>QRt w w' (fun _=>False) e (yNz n wd):=by
 refine (nw_s_yes n wd w hn h1).mono ?_;rintro e w' ⟨a,c,a',c',p,cp,rfl,h1,h2,h3,h4,hb⟩;have hd:=JKD (lo:=w.heap.size) h1 Z3Z (fun g hg=>(h3 g hg).1);refine ⟨⟨a,c,a',c',none,0,p,cp,none,0⟩,rfl,⟨(xat hd (fun b hb _=>.inr hb)).map fun U k=>k.strs,zHg fun _=>.inl rfl,zHg fun _=>.inl rfl,?_,zHg fun _=>.inl rfl⟩,hb⟩;obtain ⟨g,rfl,hr⟩:=h2.resolve_left (by simp [nops]);exact kFy (oa:=none) (oc:=0) hr (.inr (h4 g rfl)) (zHg fun _=>.inl rfl)
theorem jau {P:Program} {aB:Array Oper} {o:Oper} {a:Act} {w:World} {K:Act->World->Prop} {Q:Exit->Act->World->Prop} {E:Prop} (aC:o.guard=none) (ty:TypeId) (x y:Operand) (ho:o.op=.store ty x y) (b k:Nat) (aA:Array Value) (hx:a.eval x=.pointer (some ⟨b,k,none⟩)) (hy:a.eval y=.agg aA) (ht:w.there b k aA.size) (hi:(P.info? ty).map (·.size)=some aA.size) (h1:aA.all (·.oneCell')=true)
  (h:K (a.put o.dst undef) (w.setCells b k aA.toList)):if Region.wanted o (yielded aB a.tmps)=true then Oper.wp P o a w K Q else E:=by
 have hw:Region.wanted o (yielded aB a.tmps)=true:=by simp [Region.wanted,aC]
 rw [if_pos hw];exact wp_store_mid ty x y ho b k aA hx hy ht hi h1 h
theorem Q2q {P:Program} {aA:Array Oper} {o:Oper} {a:Act} {w:World} {K:Act->World->Prop} {Q:Exit->Act->World->Prop} {E:Prop} (aB:o.guard=none) (ty:TypeId) (x:Operand) (ho:o.op=.load ty x) (b k:Nat) (hx:a.eval x=.pointer (some ⟨b,k,none⟩)) (cs:List Value) (d:TypeDesc) (hc:w.rangeAt b k cs) (hu:P.underlying ty=some d) (hd:d.isRow=true) (hi:(P.info? ty).map (·.size)=some cs.length)
  (h:K (a.put o.dst (.agg cs.toArray)) w):if Region.wanted o (yielded aA a.tmps)=true then Oper.wp P o a w K Q else E:=by
 have hw:Region.wanted o (yielded aA a.tmps)=true:=by simp [Region.wanted,aB]
 rw [if_pos hw];exact wp_load_mid ty x ho b k hx cs d hc hu hd hi h
end Go.Proofs.YtehbpeinnepdcaaGreatDoor
namespace Go.Proofs.YtehbpeinnepdcaaGreatDoor
open Go.RowKit
theorem yB5 {s:ByteArray} {l f:Int} {n m N k:Nat} (hn:1<=n/\n<=8) (hm:n+m=56) (h:1<=l/\l<=60000/\1<=f/\f+(N:Int)<=1000000001) (hk:k<N):(kPX s l f n m N k).size=64:=by
 unfold kPX ZQp;have hx:(s.extract (k*m) (k*m+m)).size<=m:=by rw [ByteArray.size_extract];omega
 have aA:Xhw (if k+1=N then 2 else 1) l (f+(k:Int)) (s.extract (k*m) (k*m+m)) (n:Int)=true:=by
  unfold Xhw;refine decide_eq_true ?_
  split<;>omega
 rw [if_pos aA,X5y _ _ _ _ _ (by simp;omega)]
theorem XY2 {W S L T H F R U O:Int} {rs:List Pr} {b:List Ch} (h:(QUx W S L T H F R U O rs b).C=0):∃ aA d aB,(QUx W S L T H F R U O rs b).ops=(false,aA,d)::aB/\0<=aA/\aA<S/\d.size=64:=by
 unfold QUx at h ⊢
 split at h
 ·rename_i h1
  rw [if_pos h1];rw [Bool.and_eq_true] at h1;obtain ⟨⟨w1,w2⟩,s1,l1,t1,aF,f1,u1,o1,r1⟩:=qTq h1.1
  split at h
  ·rename_i h2
   rw [if_pos h2]
   split at h
   ·rename_i h3
    rw [if_pos h3]
    split at h
    ·rename_i h4
     rw [if_pos h4];have aH:=QU8 s1;have aG:2*hv S+2<=S:=by unfold hv;rw [if_pos s1];omega
     obtain ⟨N,hN⟩:∃ N,N=QgM (jvj b).size (56-W.toNat):=⟨_,rfl⟩
     have aD:JFN (jvj b).size W=(N:Int):=by
      unfold JFN;rw [if_pos ⟨w1,w2⟩,hN,show (56-W).toNat=56-W.toNat by omega]
     have aE:1<=N:=by
      rw [hN];unfold QgM;split
      ·exact Nat.le_refl 1
      ·exact Nat.le_add_left 1 _
     rw [aD] at h4;have aC:1<=L/\L<=60000/\1<=F+U/\F+U+(N:Int)<=1000000001:=by omega
     show ∃ aA d aB,qWl (2+H*hv S+U) (zhI (jvj b) L (F+U) W.toNat (56-W.toNat))=(false,aA,d)::aB/\0<=aA/\aA<S/\d.size=64;rw [yE2 hN aC];obtain ⟨M,rfl⟩:∃ M,N=M+1:=⟨N-1,by omega⟩;have hH:H=0\/H=1:=by omega
     refine ⟨_,_,_,by unfold qWl kkL;rw [List.range_succ_eq_map,List.map_cons,List.mapIdx_cons],?_,?_,yB5 (by omega) (by omega) aC (by omega)⟩
     ·rcases hH with rfl | rfl<;>simp<;>omega
     ·rcases hH with rfl | rfl<;>simp<;>omega
    ·exact absurd h (by simp [noD])
   ·exact absurd h (by simp [noD])
  ·exact absurd h (by simp [noD])
 ·exact absurd h (by simp [noD])
theorem zvh {ss:List ByteArray} {ws:List (Int×ByteArray)} {n:Int} (h:(Zfa ss ws n).C=0):(Zfa ss ws n).S=ss.length:=by
 unfold Zfa at h ⊢
 split at h
 ·rename_i h1
  rw [if_pos h1]
  split at h
  ·exact absurd h (by simp [noD])
  ·rename_i rs hrs
   by_cases k1:60000<(opX ss ws n).2.2+1
   ·rw [if_pos k1] at h;exact absurd h (by simp [noD])
   rw [if_neg k1] at h ⊢
   by_cases k2:hv ss.length-1<xee (ZZG rs) n
   ·rw [if_pos k2] at h;exact absurd h (by simp [noD])
   rw [if_neg k2] at h ⊢
   by_cases k3:hv ss.length<=(opX ss ws n).2.1
   ·rw [if_pos k3] at h ⊢
    unfold kGX at h ⊢
    by_cases k4:j5U (ss.length:Int) (frD ss ws n).1 (frD ss ws n).2.2.1=true
    ·rw [if_pos k4];rfl
    ·rw [if_neg k4] at h;exact absurd h (by simp [noD])
   ·rw [if_neg k3]
 ·exact absurd h (by simp [noD])
theorem vLm {ss:List ByteArray} {ws:List (Int×ByteArray)} (h:vlG ss ws=true) (aA:List OpT) (z:Int):vlG (pfR ss ws aA z).1 (pfR ss ws aA z).2=true/\(pfR ss ws aA z).1.length=ss.length:=by
 have hl:(pfR ss ws aA z).1.length=ss.length:=by unfold pfR;rw [if_pos h,k38]
 have h8:=(q67 h).1.1;refine ⟨(Q27 ss ws aA z).resolve_right (fun k=>?_),hl⟩;rw [k.1] at hl;simp at hl;omega
theorem yoq {x:Wo} {e:Ev} (h:(x.call e).1.C=0) (ha:(x.call e).2=true) (hu:x.up=true->x.S=x.ss.length):(x.call e).1.S=x.ss.length:=by
 unfold Wo.call at h ha ⊢
 by_cases k1:e.K=1
 ·rw [if_pos k1] at h ⊢;exact zvh h
 rw [if_neg k1] at h ha ⊢
 by_cases k2:e.K=2
 ·rw [if_pos k2] at h ha ⊢
  rw [<-hu ha];show (QUx x.W x.S x.L x.T x.H x.F x.R x.U x.O x.rs e.b).S=x.S;replace h:(QUx x.W x.S x.L x.T x.H x.F x.R x.U x.O x.rs e.b).C=0:=h;unfold QUx at h ⊢
  split at h
  ·rename_i a1;rw [if_pos a1]
   split at h
   ·rename_i a2;rw [if_pos a2]
    split at h
    ·rename_i a3;rw [if_pos a3]
     split at h
     ·rename_i a4;rw [if_pos a4]
     ·exact absurd h (by simp [noD])
    ·exact absurd h (by simp [noD])
   ·exact absurd h (by simp [noD])
  ·exact absurd h (by simp [noD])
 rw [if_neg k2] at h ha ⊢
 by_cases k3:e.K=3
 ·rw [if_pos k3] at h ha ⊢
  rw [<-hu ha];show (jej x.W x.S x.L x.T x.H x.F x.R x.U x.O x.rs).S=x.S;replace h:(jej x.W x.S x.L x.T x.H x.F x.R x.U x.O x.rs).C=0:=h;unfold jej at h ⊢
  split at h
  ·rename_i a1;rw [if_pos a1]
  ·exact absurd h (by simp [noD])
 rw [if_neg k3] at h ha ⊢
 by_cases k4:e.K=4
 ·rw [if_pos k4] at h ha ⊢
  rw [<-hu ha];show (JfS x.W x.S x.L x.T x.H x.F x.R x.U x.O x.rs).S=x.S;replace h:(JfS x.W x.S x.L x.T x.H x.F x.R x.U x.O x.rs).C=0:=h;unfold JfS at h ⊢
  split at h
  ·rename_i a1;rw [if_pos a1]
   unfold kGX at h ⊢
   split at h
   ·rename_i a2;rw [if_pos a2];rfl
   ·exact absurd h (by simp [noD])
  ·exact absurd h (by simp [noD])
 ·rw [if_neg k4] at ha
  exact absurd ha (by simp)
theorem Zea {ss:List ByteArray} {ws:List (Int×ByteArray)} (h:vlG ss ws=true) (fs:List Int):vlG (jYf fs ss ws) []=true/\(jYf fs ss ws).length=ss.length:=by
 have hl:(jYf fs ss ws).length=ss.length:=by unfold jYf secs;rw [if_pos h];simp [jjn]
 have h8:=(q67 h).1.1;refine ⟨(X6c fs ss ws).resolve_right (fun k=>?_),hl⟩;rw [k.1] at hl;simp at hl;omega
structure Wo.good (x:Wo) (N:Nat):Prop where
 ok:x.ok
 d:vlG x.ss x.ws=true
 n:x.ss.length=N
 u:x.up=true->x.S=x.ss.length
theorem Wo.good.pow {x:Wo} {N:Nat} (h:x.good N) (fs:List Int):(x.pow fs).good N :=
 ⟨h.ok.pow fs,(Zea h.d fs).1,(Zea h.d fs).2.trans h.n,fun k=>by cases k⟩
theorem Wo.good.doE {x:Wo} {N:Nat} (h:x.good N) (e:Ev):(x.doE e).good N:=by
 refine ⟨h.ok.doE e,?_,?_,?_⟩
 all_goals
  obtain ⟨D,hD⟩:∃ D,D=x.call e:=⟨_,rfl⟩;have hc:=yoq (x:=x) (e:=e);unfold Wo.doE;rw [<-hD] at hc ⊢;have hp:=vLm h.d D.1.ops (evN e D.1)
  by_cases k5:e.K=5
  ·rw [if_pos k5]
   first | exact (h.pow e.fs).d | exact (h.pow e.fs).n | exact (h.pow e.fs).u
  rw [if_neg k5]
  by_cases k1:D.2=false\/D.1.C≠0
  ·rw [if_pos k1]
   first | exact h.d | exact h.n | exact h.u
  rw [if_neg k1]
  have ha:D.2=true:=by
   cases hd2:D.2 with
   | true=>rfl
   | false=>exact absurd (.inl hd2) k1
  have h0:D.1.C=0:=Decidable.not_not.1 (fun k=>k1 (.inr k));have hS:=hc h0 ha h.u
  by_cases k2:2000<(ZmL x e D.1).length\/200<(evP x e D.1).length
  ·rw [if_pos k2]
   first | exact h.d | exact h.n | exact h.u
  rw [if_neg k2]
  by_cases k3:ZJ5 e D.1=true
  ·rw [if_pos k3]
   first | exact (Zea hp.1 e.fs).1 | exact ((Zea hp.1 e.fs).2.trans hp.2).trans h.n | (intro k;cases k)
  rw [if_neg k3]
  by_cases k4:e.K=2
  ·rw [if_pos k4]
   first | exact hp.1 | exact hp.2.trans h.n | (intro _;exact hS.trans (by rw [show ((x.ran e D.1).upS D.1).ss.length=x.ss.length from hp.2]))
  ·rw [if_neg k4]
   first | exact hp.1 | exact hp.2.trans h.n | (intro _;exact hS.trans (congrArg Nat.cast (show x.ss.length=((x.ran e D.1).upS D.1).ss.length from hp.2.symm)))
def y0p (n:Nat):ByteArray:=if h:n<10 then strOfNums [((48+n:Nat):Int)] else y0p (n / 10)++strOfNums [((48+n % 10:Nat):Int)]
theorem Xow:∀ (k n:Nat),n<10 ^ (k+1)->(y0p n).size<=k+1:=by
 intro k
 induction k with
 | zero=>intro n hn;unfold y0p;rw [dif_pos (by omega),strOfNums_size];simp
 | succ k ih =>
  intro n hn;unfold y0p
  split
  ·rw [strOfNums_size];simp
  ·rw [ByteArray.size_append,strOfNums_size]
   have:=ih (n / 10) (by rw [Nat.pow_succ] at hn;omega);simp only [List.length_singleton];omega
theorem y3f (w:World) (b:Nat) (n:Int) (h:w.cell? ⟨b,0,none⟩=some (.int .u8 n)):(convert 22 9 (.slice (some ⟨b,0,none⟩) 1 1)).run Tryz.prog w=.ok (.string (strOfNums [n])) w :=
 run_convert_bytes_arg (P:=Tryz.prog) _ 22 5 Tryz.underlying22 Tryz.underlying5 b 0 1 1 [n] rfl (fun i hi=>by
  have:i=0:=by omega
  subst this
  simpa using h) 9 Tryz.underlying9
theorem qi1 (x:Int) (h0:0<=x) (h1:x<=255):IntKind.u8.wrap x=x:=by simp [IntKind.wrap,IntKind.bits,IntKind.signed];omega
theorem Xux:∀ (k n:Nat) (w:World),n<10 ^ k->k<=15->Calls Tryz.prog 72 #[.int .i64 (n:Int)] w fun e w'=>e=.returned (.string (y0p n))/\Below w.heap.size w w':=by
 intro k
 induction k with
 | zero =>
  intro n w hn hk;have aT:n=0:=by simpa using hn
  subst aT;have aF:=y3f (w.alloc (.cells #[.int .u8 48] 5)) w.heap.size 48 (by simp);go_enter Tryz.func72,Tryz.ntmps72;go_wp2;go_ret;exact ⟨by unfold y0p;rfl,xCS _ _⟩
 | succ k ih =>
  intro n w hn hk;have aP:(10:Nat) ^ (k+1)<=10 ^ 15:=Nat.pow_le_pow_right (by omega) hk;have aO:(10:Nat) ^ 15=1000000000000000:=by decide
  by_cases aS:n<10
  ·have aN:(n:Int)<10:=by omega
   have hw:IntKind.i64.wrap (48+(n:Int))=48+(n:Int):=vRg _ (by omega) (by omega);have hu:IntKind.u8.wrap (48+(n:Int))=48+(n:Int):=qi1 _ (by omega) (by omega);have aF:=y3f (w.alloc (.cells #[.int .u8 (48+(n:Int))] 5)) w.heap.size (48+(n:Int)) (by simp);have hd:y0p n=strOfNums [48+(n:Int)]:=by unfold y0p;rw [dif_pos aS];congr 2
   have HD:=hid hd;clear hd;go_enter Tryz.func72,Tryz.ntmps72;go_wp2;go_ret;exact ⟨by rw [HD.out];rfl,xCS _ _⟩
  ·have aN:¬ (n:Int)<10:=by omega
   obtain ⟨d,aQ⟩:∃ d:Nat,n / 10=d:=⟨_,rfl⟩;obtain ⟨m,aR⟩:∃ m:Nat,n % 10=m:=⟨_,rfl⟩;have hq:(n:Int).tdiv 10=(d:Int):=by rw [<-aQ];rfl
   have hr:(n:Int).tmod 10=(m:Int):=by rw [<-aR];rfl
   have aW:IntKind.i64.wrap (d:Int)=(d:Int):=vRg _ (by omega) (by omega);have hw:IntKind.i64.wrap (48+(m:Int))=48+(m:Int):=vRg _ (by omega) (by omega);have hu:IntKind.u8.wrap (48+(m:Int))=48+(m:Int):=qi1 _ (by omega) (by omega);have HS:=hid (Xow 14 d (by omega));have HD:Hid (y0p n=y0p d++strOfNums [48+(m:Int)]):=hid (by rw [show y0p n=y0p (n / 10)++strOfNums [((48+n % 10:Nat):Int)] by rw [y0p,dif_neg aS],aQ,aR];congr 2);have CI:=hid (fun w'=>ih d w' (by rw [Nat.pow_succ] at hn;omega) (by omega));obtain ⟨t1,aM⟩:∃ t,Hid (t=y0p d):=⟨_,hid rfl⟩;obtain ⟨t2,aG⟩:∃ t,Hid (t=strOfNums [48+(m:Int)]):=⟨_,hid rfl⟩;have aV:t2.size=1:=by rw [aG.out,strOfNums_size];rfl
   have aU:t1.size<=15:=by rw [aM.out];exact HS.out
   rw [<-aM.out] at CI;rw [<-aM.out,<-aG.out] at HD;have aX:t1.size<=9223372036854775806:=by omega
   have zk:¬ (9223372036854775807<t1.size+t2.size):=by omega
   clear aQ aR ih aP aO hn HS;go_enter Tryz.func72,Tryz.ntmps72;go_upto_region 3 with fail;refine wp_region_held_drew (S:=fun w'=>True) (by kernel_rfl) (trivial) (fun aB=>?_);refine TY 0 (.int .i64 (n:Int)) rfl aB (TY 1 (.int .i64 (d:Int)) rfl aB (TY 3 (.int .i64 (n:Int)) rfl aB (TY 4 (.int .i64 (m:Int)) rfl aB (TY 5 (.int .i64 (48+(m:Int))) rfl aB (TY 6 (.int .u8 (48+(m:Int))) rfl aB ?_)))));simp only [PS];refine wpAnyH_ready (rs:=[2,7]) (by kernel_rfl) (by simp) ?_;refine AllReadyH.cons rfl (fun Kq aA=>?_) (AllReadyH.cons rfl (fun Kq aA=>?_) AllReadyH.nil)
   ·obtain ⟨y0,aC⟩:∃ y,y=w.drew:=⟨_,rfl⟩
    rw [<-aC];have aJ:Below w.heap.size w y0:=by rw [aC];exact (Below.refl _ _).drew
    clear aC;refine XRf (by rfl) 72 #[.int .i64 (d:Int)] (by go_simp) (CI.out _) ?_;rintro e y1 ⟨rfl,aL⟩;refine ⟨_,rfl,?_⟩;have aE:=aJ.trans (aL.mono aJ.size);refine aA.out _ _ aB (fun _=>?_)
    try simp only [PS]
    refine RD 7 rfl (fun Kq aA=>?_);go_simp;have aD:=xCS y1 (.cells #[.int .u8 (48+(m:Int))] 5);have rX:=xER y1 #[.int .u8 (48+(m:Int))] 5;obtain ⟨y2,aI⟩:∃ y,y=y1.alloc (.cells #[.int .u8 (48+(m:Int))] 5):=⟨_,rfl⟩;obtain ⟨X,aH⟩:∃ y,y=y1.heap.size:=⟨_,rfl⟩;rw [<-aI] at aD rX ⊢;rw [<-aH] at rX ⊢;have aK:=aE.trans (aD.mono aE.size);clear aI aH;refine aA.out _ _ aB (fun _=>?_)
    try simp only [PS]
    refine RD 8 rfl (fun Kq aA=>?_);have aF:=y3f _ _ _ (rX.cell 0 _ rfl);rw [<-aG.out] at aF;go_simp;refine aA.out _ _ aB (fun _=>?_)
    try simp only [PS]
    refine TY 9 (.string (t1++t2)) rfl aB ?_;simp only [PS];refine RD 10 rfl (fun Kq aA=>?_);go_simp;refine aA.out _ _ aB (fun _=>?_)
    try simp only [PS]
    refine DN ?_;go_wp2;go_ret;exact ⟨by rw [HD.out];rfl,aK⟩
   ·obtain ⟨y0,aC⟩:∃ y,y=w.drew:=⟨_,rfl⟩
    rw [<-aC];have aJ:Below w.heap.size w y0:=by rw [aC];exact (Below.refl _ _).drew
    clear aC;go_simp;have aL:=xCS y0 (.cells #[.int .u8 (48+(m:Int))] 5);have rX:=xER y0 #[.int .u8 (48+(m:Int))] 5;obtain ⟨y1,aI⟩:∃ y,y=y0.alloc (.cells #[.int .u8 (48+(m:Int))] 5):=⟨_,rfl⟩;obtain ⟨X,aH⟩:∃ y,y=y0.heap.size:=⟨_,rfl⟩;rw [<-aI] at aL rX ⊢;rw [<-aH] at rX ⊢;have aE:=aJ.trans (aL.mono aJ.size);clear aI aH;refine aA.out _ _ aB (fun _=>?_)
    try simp only [PS]
    refine wpAnyH_ready (rs:=[2,8]) (by kernel_rfl) (by simp) ?_;refine AllReadyH.cons rfl (fun Kq aA=>?_) (AllReadyH.cons rfl (fun Kq aA=>?_) AllReadyH.nil)
    ·refine XRf (by rfl) 72 #[.int .i64 (d:Int)] (by go_simp) (CI.out _) ?_
     rintro e y2 ⟨rfl,aD⟩;refine ⟨_,rfl,?_⟩;have aK:=aE.trans (aD.mono aE.size);have rX:=rX.below aD;refine aA.out _ _ aB (fun _=>?_)
     try simp only [PS]
     refine RD 8 rfl (fun Kq aA=>?_);have aF:=y3f _ _ _ (rX.cell 0 _ rfl);rw [<-aG.out] at aF;go_simp;refine aA.out _ _ aB (fun _=>?_)
     try simp only [PS]
     refine TY 9 (.string (t1++t2)) rfl aB ?_;simp only [PS];refine RD 10 rfl (fun Kq aA=>?_);go_simp;refine aA.out _ _ aB (fun _=>?_)
     try simp only [PS]
     refine DN ?_;go_wp2;go_ret;exact ⟨by rw [HD.out];rfl,aK⟩
    ·have aF:=y3f _ _ _ (rX.cell 0 _ rfl)
     rw [<-aG.out] at aF;go_simp;refine aA.out _ _ aB (fun _=>?_)
     try simp only [PS]
     refine RD 2 rfl (fun Kq aA=>?_);refine XRf (by rfl) 72 #[.int .i64 (d:Int)] (by go_simp) (CI.out _) ?_;rintro e y2 ⟨rfl,aD⟩;refine ⟨_,rfl,?_⟩;have aK:=aE.trans (aD.mono aE.size);have rX:=rX.below aD;refine aA.out _ _ aB (fun _=>?_)
     try simp only [PS]
     refine TY 9 (.string (t1++t2)) rfl aB ?_;simp only [PS];refine RD 10 rfl (fun Kq aA=>?_);go_simp;refine aA.out _ _ aB (fun _=>?_)
     try simp only [PS]
     refine DN ?_;go_wp2;go_ret;exact ⟨by rw [HD.out];rfl,aK⟩
end Go.Proofs.YtehbpeinnepdcaaGreatDoor
