import Derived.Test.YtcdojnnkjeakmaaGreatDoorPrG47
import Derived.Test.YtcdojnnkjeakmaaGreatDoorPrSh5
import Derived.RangeFuncNested
import Derived.RangeFuncBound
import Derived.RangeFuncCalls
import Derived.RangeFuncLeaves
import Derived.RangeFuncBox
import Derived.Shelf.Abstract
import Derived.Shelf.RegionOpenV
import Derived.OwnWalkIn
import Derived.TacticsInMore
import Derived.LoopNIn
import Derived.LoopIn
import Derived.Sort.QuietIn
import Derived.Maps.AppendAt
import Derived.Maps.OwnIn
set_option maxHeartbeats 16000000
set_option maxRecDepth 8000
set_option linter.unusedVariables false
set_option linter.unusedSimpArgs false
namespace Go.Proofs.YtcdojnnkjeakmaaGreatDoor
open Go.RowKit
section
theorem v8I (s:ByteArray) (b:Bool) (w:World) (hs:s.size<=1048576) (h:kOk s=b):Calls Tryz.prog 89 #[.string s] w fun e w'=>e=.returned (.bool b)/\w'=w:=by
 rw [<-h];exact Z0I s w hs
def klt (a b:ByteArray):Bool:=Op.bytesLess a.toList b.toList
def jq0 (rs:List (ByteArray×ByteArray)) (i:Nat):Bool:=kOk (rs.getD i (ByteArray.empty,ByteArray.empty)).1 && vOk (rs.getD i (ByteArray.empty,ByteArray.empty)).2 && (decide (i=0) || klt (rs.getD (i-1) (ByteArray.empty,ByteArray.empty)).1 (rs.getD i (ByteArray.empty,ByteArray.empty)).1)
def z0q (rs:List (ByteArray×ByteArray)):Bool:=decide (rs.length<=100) && (List.range rs.length).all (jq0 rs)
theorem yqw {rs:List (ByteArray×ByteArray)} (h:¬ (rs.length<=100)):z0q rs=false:=by simp [z0q,h]
theorem ZJ2 {rs:List (ByteArray×ByteArray)} {k:Nat} (hk:k<rs.length) (h:jq0 rs k=false):z0q rs=false:=by
 have:(List.range rs.length).all (jq0 rs)=false:=List.all_eq_false.2 ⟨k,List.mem_range.2 hk,by simp [h]⟩;simp [z0q,this]
theorem qjV {rs:List (ByteArray×ByteArray)} (h:rs.length<=100) (h1:∀ k,k<rs.length->jq0 rs k=true):z0q rs=true:=by
 simp only [z0q,Bool.and_eq_true,decide_eq_true_eq,List.all_eq_true];exact ⟨h,fun k hk=>h1 k (List.mem_range.1 hk)⟩
theorem Jne {rs:List (ByteArray×ByteArray)} (h:z0q rs=true):rs.length<=100/\∀ k,k<rs.length->jq0 rs k=true:=by
 simp only [z0q,Bool.and_eq_true,decide_eq_true_eq,List.all_eq_true] at h;exact ⟨h.1,fun k hk=>h.2 k (List.mem_range.2 hk)⟩
section
variable {rs:List (ByteArray×ByteArray)} {k j:Nat} {s0 s1 t0 t1:ByteArray}
theorem X3S (hS:(s0,s1)=rs.getD k (ByteArray.empty,ByteArray.empty)) (h:kOk s0=false):jq0 rs k=false:=by unfold jq0;rw [<-hS];simp [h]
theorem yom (hS:(s0,s1)=rs.getD k (ByteArray.empty,ByteArray.empty)) (h:vOk s1=false):jq0 rs k=false:=by unfold jq0;rw [<-hS];simp [h]
theorem yWA (hS:(s0,s1)=rs.getD k (ByteArray.empty,ByteArray.empty)) (hT:(t0,t1)=rs.getD j (ByteArray.empty,ByteArray.empty)) (hj:k=j+1) (h:Op.bytesLess t0.toList s0.toList=false):jq0 rs k=false:=by
 unfold jq0 klt;rw [<-hS];subst hj;rw [Nat.add_sub_cancel,<-hT];simp [h]
theorem kzx (hS:(s0,s1)=rs.getD k (ByteArray.empty,ByteArray.empty)) (hk:k=0) (h:kOk s0=true) (h2:vOk s1=true):jq0 rs k=true:=by subst hk;unfold jq0;rw [<-hS];simp [h,h2]
theorem q0H (hS:(s0,s1)=rs.getD k (ByteArray.empty,ByteArray.empty)) (hT:(t0,t1)=rs.getD j (ByteArray.empty,ByteArray.empty)) (hj:k=j+1) (h:kOk s0=true) (h2:vOk s1=true) (h3:Op.bytesLess t0.toList s0.toList=true):jq0 rs k=true:=by
 unfold jq0 klt;rw [<-hS];subst hj;rw [Nat.add_sub_cancel,<-hT];simp [h,h2,h3]
theorem JUg (HA:∀ i,i<k->jq0 rs i=true) (h:jq0 rs k=true):∀ i,i<k+1->jq0 rs i=true:=by
 intro i hi;rcases Nat.lt_or_ge i k with h1 | h1
 ·exact HA i h1
 ·have:i=k:=by omega
  subst this;exact h
end
theorem yPv (a:Option Addr) (rs:List (ByteArray×ByteArray)) (c:Nat) (w:World) (h:Prs w a rs) (hl:rs.length<=1048576) (hs:∀ x∈rs,x.1.size<=1048576/\x.2.size<=1048576) :
  Calls Tryz.prog 88 #[.agg #[.slice a rs.length c]] w fun e w'=>e=.returned (.bool (z0q rs))/\Below w.heap.size w w':=by
 have aB:∀ o,Below w.heap.size w (w.alloc o):=fun o=>(Below.refl _ _).alloc (Nat.le_refl _) _
 obtain ⟨R,HR⟩:∃ R,Hid (R=z0q rs):=⟨_,hid rfl⟩;rw [<-HR.out]
 by_cases hp:(rs.length:Int)<=100
 ·go_enter Tryz.func88,Tryz.ntmps88
  go_wp2;go_loopw [3] (fun i wr=>∃ k:Nat,k<=rs.length/\i=.int .i64 k/\Hid (∀ i,i<k->jq0 rs i=true)/\Below (w.heap.size+1) (w.alloc (.cells #[.slice a rs.length c] 57)) wr) (fun i _=>rs.length-(intOf i).toNat)
  case atStart=>exact ⟨0,Nat.zero_le _,rfl,fun i hi=>by omega,Below.refl _ _⟩
  case round =>
   obtain ⟨k,hk,rfl,HA,aA⟩:=hrel;have aF:Below w.heap.size w wr:=(aB _).trans (aA.mono (by omega));have q0:wr.cell? ⟨w.heap.size,0,none⟩=some (.slice a rs.length c):=(aA.cell (p:=⟨w.heap.size,0,none⟩) (by show w.heap.size<_;omega)).trans (by go_simp);have aS:w.heap.size+1<=wr.heap.size:=by have:=aA.size;simpa using this
   by_cases aC:k<rs.length
   ·obtain ⟨b,o,s0,s1,rfl,aW,aP,HS⟩:=(h.below aF).at aC
    have hm:Hid ((s0,s1)∈rs):=by show _∈_;rw [HS.out];simp [List.getD,aC]
    obtain ⟨aD,aR⟩:=hs _ hm.out;have aO:(k:Int)<(rs.length:Int):=by omega
    rcases Nat.eq_zero_or_pos k with aJ | aJ
    ·have aV:decide ((0:Int)<(k:Int))=false:=by simp;omega
     have aN:decide (0<k)=false:=by simp;omega
     have aH:(0:Int)<=(k:Int):=by omega
     have HK:=hid aJ;clear aJ
     cases hk1:kOk s0 with
     | false =>
      go_wp2_with fail;go_quiet ((go_at_call 89;exact Calls.quiet_of_same (v8I _ _ _ aD hk1)));go_wp2;go_ret;exact ⟨xpe (by rw [HR.out];exact (ZJ2 aC (X3S HS.out hk1)).symm),(aB _).trans ((below_drewN aA _).mono (by omega))⟩
     | true =>
      cases hv1:vOk s1 with
      | false =>
       have aG:decide (100<(s1.size:Int))=true:=by simp [vOk] at hv1;simp;omega
       go_wp2_with fail;go_quiet ((go_at_call 89;exact Calls.quiet_of_same (v8I _ _ _ aD hk1)));go_wp2;go_ret;exact ⟨xpe (by rw [HR.out];exact (ZJ2 aC (yom HS.out hv1)).symm),(aB _).trans ((below_drewN aA _).mono (by omega))⟩
      | true =>
       have aG:decide (100<(s1.size:Int))=false:=by simp [vOk] at hv1;simp;omega
       go_wp2_with fail;go_quiet ((go_at_call 89;exact Calls.quiet_of_same (v8I _ _ _ aD hk1)));go_wp2;go_roundw
       case rel=>exact ⟨_,by omega,by go_num,JUg HA.out (kzx HS.out HK.out hk1 hv1),below_drewN aA _⟩
       case measure=>simp [intOf];omega
    ·obtain ⟨j,hj⟩:∃ j,k=j+1:=⟨k-1,by omega⟩
     have aX:(k:Int)-1=(j:Int):=by omega
     have aY:(0:Int)<=(j:Int):=by omega
     have aH:(0:Int)<=(k:Int):=by omega
     have aM:(0:Int)<(k:Int):=by omega
     have aT:IntKind.i64.wrap (j:Int)=(j:Int):=by simp [IntKind.wrap,IntKind.bits,IntKind.signed];omega
     have aQ:(j:Int)<(rs.length:Int):=by omega
     obtain ⟨b',o',t0,t1,he,aL,aU,HT⟩:=(h.below aF).at (show j<rs.length by omega)
     cases he
     have HJ:=hid hj;clear hj
     have aI:∀ ob,Below wr.heap.size wr (wr.alloc ob):=fun ob=>(Below.refl _ _).alloc (Nat.le_refl _) _
     have lb:b<wr.heap.size:=by have:=World.block_lt_of_cell? wr _ aL;simpa using this
     have qa:=((aI (.cells #[.string s0,.string s1] 176)).cell (p:=⟨w.heap.size,0,none⟩) (by show w.heap.size<_;omega)).trans q0;have qb:=((aI (.cells #[.string s0,.string s1] 176)).cell (p:=⟨b,o+j*2,none⟩) lb).trans aL;clear aI lb
     cases hk1:kOk s0 with
     | false =>
      go_wp2_with fail;go_quiet ((go_at_call 89;exact Calls.quiet_of_same (v8I _ _ _ aD hk1)));go_wp2;go_ret;exact ⟨xpe (by rw [HR.out];exact (ZJ2 aC (X3S HS.out hk1)).symm),(aB _).trans ((below_drewN aA _).mono (by omega))⟩
     | true =>
      cases hv1:vOk s1 with
      | false =>
       have aG:decide (100<(s1.size:Int))=true:=by simp [vOk] at hv1;simp;omega
       go_wp2_with fail;go_quiet ((go_at_call 89;exact Calls.quiet_of_same (v8I _ _ _ aD hk1)));go_wp2;go_ret;exact ⟨xpe (by rw [HR.out];exact (ZJ2 aC (yom HS.out hv1)).symm),(aB _).trans ((below_drewN aA _).mono (by omega))⟩
      | true =>
       have aG:decide (100<(s1.size:Int))=false:=by simp [vOk] at hv1;simp;omega
       cases hlt3:Op.bytesLess t0.toList s0.toList with
       | false =>
        have aK:(!Op.bytesLess t0.toList s0.toList)=true:=by simp [hlt3]
        go_wp2_with fail;go_quiet ((go_at_call 89;exact Calls.quiet_of_same (v8I _ _ _ aD hk1)));go_wp2;go_ret;exact ⟨xpe (by rw [HR.out];exact (ZJ2 aC (yWA HS.out HT.out HJ.out hlt3)).symm),(aB _).trans ((below_drewN aA _).mono (by omega))⟩
       | true =>
        have aK:(!Op.bytesLess t0.toList s0.toList)=false:=by simp [hlt3]
        go_wp2_with fail;go_quiet ((go_at_call 89;exact Calls.quiet_of_same (v8I _ _ _ aD hk1)));go_wp2;go_roundw
        case rel=>exact ⟨_,by omega,by go_num,JUg HA.out (q0H HS.out HT.out HJ.out hk1 hv1 hlt3),below_drewN aA _⟩
        case measure=>simp [intOf];omega
   ·have aE:Hid (∀ i,i<rs.length->jq0 rs i=true):=fun i hi=>HA.out i (by omega)
    clear HA;go_wp2;go_ret;exact ⟨xpe (by rw [HR.out];exact (qjV (by omega) aE.out).symm),aF⟩
 ·go_enter Tryz.func88,Tryz.ntmps88
  go_wp2;go_ret;exact ⟨xpe (by rw [HR.out];exact (yqw (by omega)).symm),aB _⟩
end
def chN (x:ByteArray×ByteArray×Bool):List Int:=if x.2.2 then [1]++([(x.1.size:Int)]++zFD x.1) else [0]++([(x.1.size:Int)]++zFD x.1)++([(x.2.1.size:Int)]++zFD x.2.1)
def vGL (rs:List (ByteArray×ByteArray×Bool)):ByteArray:=strOfNums (rs.flatMap chN)
theorem xbv:vGL []=ByteArray.empty:=rfl
theorem JeZ (x:ByteArray×ByteArray×Bool) (h:yO3 x=true):(strOfNums (chN x)).size<=123:=by
 rw [strOfNums_size];unfold yO3 kOk vOk at h;simp only [Bool.and_eq_true,decide_eq_true_eq] at h;unfold chN
 split
 ·simp [vgz];omega
 ·simp [vgz];omega
theorem XEt (rs:List (ByteArray×ByteArray×Bool)) (h:∀ x∈rs,yO3 x=true):(vGL rs).size<=123*rs.length:=by
 induction rs with
 | nil=>simp [xbv]
 | cons x r ih =>
  have h1:=ih (fun y hy=>h y (List.mem_cons_of_mem _ hy));have h2:=JeZ x (h x (List.mem_cons_self));have e:vGL (x::r)=strOfNums (chN x)++vGL r:=by unfold vGL;rw [List.flatMap_cons,zQR]
  rw [e,ByteArray.size_append,List.length_cons];omega
def jvj (rs:List (ByteArray×ByteArray×Bool)):ByteArray:=if kpJ rs=true then vGL rs else ByteArray.empty
abbrev Ch:=ByteArray×ByteArray×Bool
def b0 (r:ByteArray):Nat:=(r.data.toList.getD 0 0).toNat
theorem Q10 (r:ByteArray):b0 r<=255:=by unfold b0;have:=UInt8.toNat_lt (r.data.toList.getD 0 0);omega
theorem qUX (r:ByteArray) (a b:Nat):zFD (r.extract a b)=((zFD r).drop a).take (b-a):=by
 unfold zFD;rw [ByteArray.data_extract,Array.toList_extract,List.extract_eq_take_drop,List.map_take,List.map_drop]
theorem ZSe (r:ByteArray) (h:0<r.size):zFD r=(b0 r:Int)::(zFD r).drop 1:=by
 have hl:0<r.data.toList.length:=h;unfold zFD b0
 match r.data.toList,hl with
 | x::l,_=>simp
theorem yKN {r s:ByteArray} (h:zFD r=zFD s):r=s:=by rw [<-ZXs r,h,ZXs]
theorem jRR (r:ByteArray):∀ y∈zFD r,0<=y/\y<=255:=by
 intro y hy;unfold zFD at hy;obtain ⟨c,_,rfl⟩:=List.mem_map.1 hy;have:=UInt8.toNat_lt c;omega
theorem yC3:∀ (xs:List Int),(∀ y∈xs,0<=y/\y<=255)->zFD (strOfNums xs)=xs
 | [],_=>rfl
 | x::l,h=>by
  have ih:=yC3 l (fun y hy=>h y (List.mem_cons_of_mem _ hy));have hx:=h x (List.mem_cons_self);simp only [zFD,strOfNums] at ih ⊢;simp only [List.map_cons,List.map_map,List.toList_toArray] at ih ⊢;simp [List.map_eq_map_iff] at ih ⊢
  constructor
  ·omega
  ·exact ih
def pc (r:ByteArray):Option (ByteArray×ByteArray):=if 1<=r.size/\1+b0 r<=r.size then some (r.extract 1 (1+b0 r),r.extract (1+b0 r) r.size) else none
theorem knt {r k m:ByteArray} (h:pc r=some (k,m)):zFD r=[(k.size:Int)]++zFD k++zFD m/\k.size<=255:=by
 unfold pc at h
 split at h
 ·rename_i hc
  simp only [Option.some.injEq,Prod.mk.injEq] at h;obtain ⟨rfl,rfl⟩:=h;have hk:(r.extract 1 (1+b0 r)).size=b0 r:=by simp only [ByteArray.size_extract];omega
  refine ⟨?_,by rw [hk];exact Q10 r⟩;rw [hk,qUX,qUX];have hn:=ZSe r (by omega);have e1:r.size-(1+b0 r)=(zFD r).length-(1+b0 r):=by rw [vgz]
  rw [e1,<-List.length_drop,List.take_length];have e2:1+b0 r-1=b0 r:=by omega
  rw [e2];have e3:(zFD r).drop (1+b0 r)=((zFD r).drop 1).drop (b0 r):=by rw [List.drop_drop]
  rw [e3,List.append_assoc,List.take_append_drop];exact hn
 ·cases h
def stp (r:ByteArray):Option (Ch×ByteArray) :=
 match pc (r.extract 1 r.size) with
 | none=>none
 | some (k,m)=>if b0 r=1 then some ((k,ByteArray.empty,true),m) else
  match pc m with
  | none=>none
  | some (v,m')=>some ((k,v,false),m')
theorem xPN (r:ByteArray):zFD (r.extract 1 r.size)=(zFD r).drop 1:=by
 rw [qUX];have e1:r.size-1=((zFD r).drop 1).length:=by rw [List.length_drop,vgz]
 rw [e1,List.take_length]
theorem kUx {r r1:ByteArray} {c:Ch} (hr:0<r.size) (h:stp r=some (c,r1)):c.1.size<=255/\c.2.1.size<=255/\∃ t,chN c++zFD r1=(if b0 r=1 then 1 else 0)::t/\zFD r=(b0 r:Int)::t:=by
 unfold stp at h
 split at h
 ·cases h
 ·rename_i k m hp
  obtain ⟨h1,h2⟩:=knt hp;rw [xPN] at h1;have hn:=ZSe r hr
  split at h
  ·rename_i hb
   simp only [Option.some.injEq,Prod.mk.injEq] at h;obtain ⟨rfl,rfl⟩:=h;refine ⟨h2,by simp,_,?_,hn⟩;rw [h1,if_pos hb];simp [chN]
  ·rename_i hb
   split at h
   ·cases h
   ·rename_i v m' hq
    obtain ⟨h3,h4⟩:=knt hq;simp only [Option.some.injEq,Prod.mk.injEq] at h;obtain ⟨rfl,rfl⟩:=h;refine ⟨h2,h4,_,?_,hn⟩;rw [h1,h3,if_neg hb];simp [chN]
def run:Nat->ByteArray->List Ch->Option (List Ch×ByteArray)
 | 0,r,o=>some (o,r)
 | n+1,r,o=>if r.size=0 then some (o,r) else
  match stp r with
  | none=>none
  | some (c,r')=>run n r' (o++[c])
def J3F:Nat->ByteArray->List Ch->Option (List Ch×ByteArray)
 | 0,r,o=>some (o,r)
 | n+1,r,o=>if r.size=0 then some (o,r) else if 1<b0 r then none else
  match stp r with
  | none=>none
  | some (c,r')=>J3F n r' (o++[c])
theorem Jpl (n:Nat) (o:List Ch) (r:ByteArray) (h:r.size=0):run n r o=some (o,r):=by cases n<;>simp [run,h]
theorem Z6r:∀ (n:Nat) (r:ByteArray) (o o':List Ch) (r':ByteArray),run n r o=some (o',r') ->
  ∃ l,o'=o++l/\(∀ x∈l,x.1.size<=255/\x.2.1.size<=255)/\(r'.size=0\/l.length=n) /\
   ((J3F n r o=some (o',r')/\l.flatMap chN++zFD r'=zFD r)\/(J3F n r o=none/\∀ z,l.flatMap chN++z≠zFD r))
 | 0,r,o,o',r',h=>by
  simp only [run,Option.some.injEq,Prod.mk.injEq] at h;obtain ⟨rfl,rfl⟩:=h;exact ⟨[],by simp,by simp,.inr rfl,.inl ⟨rfl,by simp⟩⟩
 | n+1,r,o,o',r',h=>by
  by_cases hz:r.size=0
  ·rw [run,if_pos hz] at h
   simp only [Option.some.injEq,Prod.mk.injEq] at h;obtain ⟨rfl,rfl⟩:=h;exact ⟨[],by simp,by simp,.inl hz,.inl ⟨by rw [J3F,if_pos hz],by simp⟩⟩
  ·rw [run,if_neg hz] at h
   cases hs:stp r with
   | none=>rw [hs] at h;cases h
   | some p =>
    obtain ⟨c,r1⟩:=p;rw [hs] at h;obtain ⟨k1,k2,t,k3,k4⟩:=kUx (by omega) hs;obtain ⟨l,e1,e2,e3,e4⟩:=Z6r n r1 (o++[c]) o' r' h;refine ⟨c::l,by rw [e1];simp,fun x hx=>?_,?_,?_⟩
    ·rcases List.mem_cons.1 hx with rfl | hx
     ·exact ⟨k1,k2⟩
     ·exact e2 x hx
    ·rcases e3 with e3 | e3
     ·exact .inl e3
     ·exact .inr (by simp [e3])
    ·by_cases hb:1<b0 r
     ·refine .inr ⟨by rw [J3F,if_neg hz,if_pos hb],fun z aA=>?_⟩
      have hb1:¬ b0 r=1:=by omega
      rw [if_neg hb1] at k3
      have hc:∃ u,chN c=0::u:=by
       have:c.2.2=false:=by
        unfold stp at hs
        split at hs
        ·cases hs
        ·rw [if_neg hb1] at hs
         split at hs
         ·cases hs
         ·simp only [Option.some.injEq,Prod.mk.injEq] at hs
          rw [<-hs.1]
       exact ⟨_,by unfold chN;rw [this];rfl⟩
      obtain ⟨u,hu⟩:=hc;rw [List.flatMap_cons,hu,k4] at aA;simp at aA;omega
     ·have hr:zFD r=chN c++zFD r1:=by
       rw [k3,k4]
       split
       ·rename_i h1;rw [h1];rfl
       ·have:b0 r=0:=by omega
        rw [this];rfl
      have aB:J3F (n+1) r o=J3F n r1 (o++[c]):=by rw [J3F,if_neg hz,if_neg hb,hs]
      rcases e4 with ⟨e4,e5⟩ | ⟨e4,e5⟩
      ·refine .inl ⟨aB.trans e4,?_⟩
       rw [List.flatMap_cons,List.append_assoc,e5,hr]
      ·refine .inr ⟨aB.trans e4,fun z aA=>e5 z ?_⟩
       rw [List.flatMap_cons,List.append_assoc,hr] at aA;exact List.append_cancel_left aA
theorem Jam:∀ (n:Nat) (r:ByteArray) (o:List Ch),run n r o=none->J3F n r o=none
 | 0,r,o,h=>by simp [run] at h
 | n+1,r,o,h=>by
  by_cases hz:r.size=0
  ·rw [run,if_pos hz] at h;cases h
  ·rw [run,if_neg hz] at h
   rw [J3F,if_neg hz]
   split
   ·rfl
   ·cases hs:stp r with
    | none=>rfl
    | some p =>
     obtain ⟨c,r1⟩:=p;rw [hs] at h;exact Jam n r1 _ h
theorem kYB (x:Ch) (h1:x.1.size<=255) (h2:x.2.1.size<=255):∀ y∈chN x,0<=y/\y<=255:=by
 intro y hy;unfold chN at hy
 split at hy
 ·simp only [List.mem_append,List.mem_cons,List.not_mem_nil,or_false] at hy
  rcases hy with rfl | rfl | hy
  ·omega
  ·omega
  ·exact jRR _ y hy
 ·simp only [List.mem_append,List.mem_cons,List.not_mem_nil,or_false] at hy
  rcases hy with (rfl | rfl | hy) | rfl | hy
  ·omega
  ·omega
  ·exact jRR _ y hy
  ·omega
  ·exact jRR _ y hy
def yjX (s:ByteArray):Option (List Ch):=match run 21 s [] with | none=>none | some (o,_)=>if s.size≠0/\jvj o=s then some o else none
def ZnV (s:ByteArray):Option (List Ch):=match J3F 21 s [] with | none=>none | some (o,_)=>if kpJ o=true then some o else none
theorem jLn (s:ByteArray):ZnV s=yjX s:=by
 unfold ZnV yjX
 cases hr:run 21 s [] with
 | none=>rw [Jam _ _ _ hr]
 | some p =>
  obtain ⟨o,r⟩:=p;obtain ⟨l,e1,e2,e3,e4⟩:=Z6r 21 s [] o r hr;rw [List.nil_append] at e1;subst e1
  have aB:∀ y∈o.flatMap chN,0<=y/\y<=255:=by
   intro y hy;obtain ⟨x,hx,hy⟩:=List.mem_flatMap.1 hy;exact kYB x (e2 x hx).1 (e2 x hx).2 y hy
  have aC:vGL o=s->o.flatMap chN=zFD s:=fun h=>by rw [<-h];exact (yC3 _ aB).symm
  rcases e4 with ⟨e4,e5⟩ | ⟨e4,e5⟩
  ·rw [e4]
   simp only
   by_cases aA:kpJ o=true
   ·have aG:r.size=0:=by
     rcases e3 with e3 | e3
     ·exact e3
     ·have:=(q4Z aA).1;omega
    have aE:zFD r=[]:=List.eq_nil_of_length_eq_zero (by rw [vgz];exact aG);rw [aE,List.append_nil] at e5
    have hs:jvj o=s:=by
     unfold jvj;rw [if_pos aA]
     apply yKN
     rw [<-e5];exact yC3 _ aB
    have aD:s.size≠0:=by
     intro h0;have aF:zFD s=[]:=List.eq_nil_of_length_eq_zero (by rw [vgz];exact h0);rw [aF] at e5
     match o,(q4Z aA).1 with
     | x::o',_ =>
      simp only [List.flatMap_cons,List.append_eq_nil_iff] at e5;have:=e5.1;unfold chN at this
      split at this<;>simp at this
    rw [if_pos aA,if_pos ⟨aD,hs⟩]
   ·have hb:jvj o=ByteArray.empty:=by unfold jvj;rw [if_neg aA]
    rw [if_neg aA,if_neg];rintro ⟨h1,h2⟩;rw [hb] at h2;rw [<-h2] at h1;exact h1 rfl
  ·rw [e4]
   simp only;rw [if_neg];rintro ⟨h1,h2⟩;unfold jvj at h2
   split at h2
   ·have:=aC h2
    exact e5 [] (by rw [List.append_nil];exact this)
   ·rw [<-h2] at h1
    exact h1 rfl
abbrev Pr:=ByteArray×ByteArray
abbrev nov:Value:=.slice none 0 0
def ZNW (p:Pr):Ch:=(p.1,p.2,false)
def qGw (rs:List Pr) (k:Nat):List Ch:=((rs.drop (k*20)).take 20).map ZNW
def xEW (rs:List Pr) (i:Nat):List (List Ch):=(List.range ((i+19) / 20)).map (qGw (rs.take i))
def ZZG (rs:List Pr):List (List Ch):=if z0q rs=true then xEW rs rs.length else []
theorem xCZ (rs:List Pr) (i:Nat):(xEW rs i).length=(i+19) / 20:=by simp [xEW]
theorem y6q (rs:List Pr) (i k:Nat) (hi:i<rs.length) (hk:k*20+20<=i):qGw (rs.take (i+1)) k=qGw (rs.take i) k:=by
 unfold qGw
 congr 1
 rw [List.drop_take,List.drop_take,List.take_take,List.take_take]
 congr 1
 omega
theorem ydg (rs:List Pr) (i k:Nat) (hi:i<rs.length) (h1:k*20<=i) (h2:i<k*20+20) (d:Pr):qGw (rs.take (i+1)) k=qGw (rs.take i) k++[ZNW (rs.getD i d)]:=by
 unfold qGw;rw [List.drop_take,List.drop_take,List.take_take,List.take_take,Nat.min_eq_right (by omega),Nat.min_eq_right (by omega)];rw [show i+1-k*20=(i-k*20)+1 by omega,List.take_add_one,List.map_append]
 congr 1
 rw [List.getElem?_drop,show k*20+(i-k*20)=i by omega];simp [List.getD,hi]
theorem XKu (rs:List Pr) (i:Nat) (hi:i<rs.length) (h:i % 20=0) (d:Pr):xEW rs (i+1)=xEW rs i++[[ZNW (rs.getD i d)]]:=by
 unfold xEW;rw [show (i+1+19) / 20=(i+19) / 20+1 by omega,List.range_succ,List.map_append]
 have e0:qGw (rs.take i) (i / 20)=[]:=by
  unfold qGw;rw [List.drop_eq_nil_of_le (by rw [List.length_take];omega)];rfl
 congr 1
 ·exact List.map_congr_left fun k hk=>y6q rs i k hi (by simp at hk;omega)
 ·have e1:(i+19) / 20=i / 20:=by omega
  rw [e1,List.map_singleton,ydg rs i (i / 20) hi (by omega) (by omega) d,e0];rfl
theorem q0O (rs:List Pr) (i:Nat) (hi:i<rs.length) (h:i % 20≠0) (d:Pr):∃ aA cs,xEW rs i=aA++[cs]/\xEW rs (i+1)=aA++[cs++[ZNW (rs.getD i d)]]/\cs.length<=20:=by
 refine ⟨(List.range (i / 20)).map (qGw (rs.take i)),qGw (rs.take i) (i / 20),?_,?_,?_⟩
 ·unfold xEW
  rw [show (i+19) / 20=i / 20+1 by omega,List.range_succ,List.map_append];rfl
 ·unfold xEW
  rw [show (i+1+19) / 20=i / 20+1 by omega,List.range_succ,List.map_append,List.map_singleton,ydg rs i (i / 20) hi (by omega) (by omega) d]
  congr 1
  exact List.map_congr_left fun k hk=>y6q rs i k hi (by simp at hk;omega)
 ·unfold qGw;simp;omega
theorem Qiw (rs:List Pr) (k:Nat):(qGw rs k).length=min 20 (rs.length-k*20):=by unfold qGw;simp
theorem yLX (rs:List Pr):xEW rs rs.length=(List.range ((rs.length+19) / 20)).map (qGw rs):=by unfold xEW;rw [List.take_length]
theorem qjy {rs:List Pr} {b:List Ch} (h:b∈xEW rs rs.length):b.length<=20/\∀ x∈b,(x.1,x.2.1)∈rs:=by
 rw [yLX] at h;obtain ⟨k,hk,rfl⟩:=List.mem_map.1 h;refine ⟨by rw [Qiw];omega,fun x hx=>?_⟩;unfold qGw at hx;obtain ⟨p,hp,rfl⟩:=List.mem_map.1 hx;exact List.mem_of_mem_drop (List.mem_of_mem_take hp)
def Bat (w:World) (base:Nat) (v:Value) (aA:List (List Ch)):Prop :=
 ∃ vs:List Value,w.ownsRow base 91 1 v aA.length vs/\(∀ i,i<aA.length->w.ownsRow base 117 3 (vs.getD i nov) (aA.getD i []).length (jlM (aA.getD i []))) /\
  ∀ i j k,i<j->j<aA.length->(vs.getD i nov).ownBlock=some k->(vs.getD j nov).ownBlock≠some k
theorem Bat.nil (w:World) (base:Nat):Bat w base nov []:=⟨[],World.ownsRow_nil _ _ _ _,fun i h=>absurd h (by simp),fun i j k _ h=>absurd h (by simp)⟩
theorem Bat.below {w w':World} {base:Nat} {v:Value} {aA:List (List Ch)} (h:Bat w base v aA) (hb:Below w.heap.size w w'):Bat w' base v aA:=by
 obtain ⟨vs,h1,h2,h3⟩:=h;exact ⟨vs,jcb h1 hb,fun i hi=>jcb (h2 i hi) hb,h3⟩
theorem QnU {w:World} {b1 b2:Nat} {e1 e2:TypeId} {s1 s2:Nat} {v1 v2:Value} {n1 n2:Nat} {x1 x2:List Value} (h1:w.ownsRow b1 e1 s1 v1 n1 x1) (h2:w.ownsRow b2 e2 s2 v2 n2 x2) (he:e1≠e2):v1.ownBlock=none\/v1.ownBlock≠v2.ownBlock:=by
 rcases h1.2 with ⟨rfl,_⟩ | ⟨g,cap,aD,rfl,_,hg,_⟩
 ·exact .inl rfl
 ·right
  rcases h2.2 with ⟨rfl,_⟩ | ⟨g',aC,aB,rfl,_,aA,_⟩
  ·simp [Value.ownBlock]
  ·simp only [Value.ownBlock,ne_eq,Option.some.injEq]
   intro e;subst e;rw [hg] at aA
   cases aA
   exact he rfl
theorem Bat.kept {w w':World} {base:Nat} {v:Value} {aB:List (List Ch)} {row:Option Nat} (h:Bat w base v aB) (hg:w.grownBy w' row) (hr:∀ k,row=some k->base > k\/w.heap.size<=k):Bat w' base v aB:=by
 obtain ⟨vs,h1,h2,h3⟩:=h
 have aA:∀ {e:TypeId} {s:Nat} {u:Value} {n:Nat} {xs:List Value},w.ownsRow base e s u n xs->w'.ownsRow base e s u n xs:=fun hh=>by
  refine hh.kept hg ?_
  cases hu:(Value.ownBlock _) with
  | none=>exact .inl rfl
  | some k =>
   refine .inr fun e=>?_
   have:=hh.lt k hu;rcases hr k e.symm with h | h<;>omega
 exact ⟨vs,aA h1,fun i hi=>aA (h2 i hi),h3⟩
theorem Bat.push {w w1:World} {base:Nat} {v v' x:Value} {aA:List (List Ch)} {cs:List Ch} {vs:List Value} (h1:w.ownsRow base 91 1 v aA.length vs) (h2:∀ i,i<aA.length->w.ownsRow base 117 3 (vs.getD i nov) (aA.getD i []).length (jlM (aA.getD i [])))
  (h3:∀ i j k,i<j->j<aA.length->(vs.getD i nov).ownBlock=some k->(vs.getD j nov).ownBlock≠some k) (hx:w.ownsRow base 117 3 x cs.length (jlM cs)) (aF:∀ i k,i<aA.length->(vs.getD i nov).ownBlock=some k->x.ownBlock≠some k)
  (ho:w1.ownsRow base 91 1 v' (aA.length+1) (vs++[x])) (hg:w.grownBy w1 v.ownBlock):Bat w1 base v' (aA++[cs]):=by
 have aC:vs.length=aA.length:=by have:=h1.1;omega
 have ne:(117:TypeId)≠91:=by decide
 refine ⟨vs++[x],by simpa using ho,fun i hi=>?_,fun i j k aD hj he=>?_⟩
 ·by_cases aB:i<aA.length
  ·have e1:(vs++[x]).getD i nov=vs.getD i nov:=by simp [List.getD,List.getElem?_append_left (show i<vs.length by omega)]
   have e2:(aA++[cs]).getD i []=aA.getD i []:=by simp [List.getD,List.getElem?_append_left aB]
   rw [e1,e2];exact (h2 i aB).kept hg (QnU (h2 i aB) h1 ne)
  ·have aG:i=aA.length:=by simp at hi;omega
   subst aG;have e1:(vs++[x]).getD aA.length nov=x:=by rw [<-aC];simp [List.getD]
   have e2:(aA++[cs]).getD aA.length []=cs:=by simp [List.getD]
   rw [e1,e2];exact hx.kept hg (QnU hx h1 ne)
 ·simp only [List.length_append,List.length_cons,List.length_nil] at hj
  have e1:(vs++[x]).getD i nov=vs.getD i nov:=by simp [List.getD,List.getElem?_append_left (show i<vs.length by omega)]
  rw [e1] at he
  by_cases aB:j<aA.length
  ·have e2:(vs++[x]).getD j nov=vs.getD j nov:=by simp [List.getD,List.getElem?_append_left (show j<vs.length by omega)]
   rw [e2];exact h3 i j k aD aB he
  ·have aE:j=aA.length:=by omega
   subst aE;have e2:(vs++[x]).getD aA.length nov=x:=by rw [<-aC];simp [List.getD]
   rw [e2];exact aF i k aD he
def Bts (w:World) (a:Option Addr) (aA:List (List Ch)):Prop :=
 aA=[]\/∃ g,a=some ⟨g,0,none⟩/\g<w.heap.size/\∀ i,i<aA.length->∃ p c,w.cell? ⟨g,i,none⟩=some (.slice p (aA.getD i []).length c)/\Chs w p (aA.getD i [])
theorem Bts.below {w w':World} {a:Option Addr} {aA:List (List Ch)} (h:Bts w a aA) (hb:Below w.heap.size w w'):Bts w' a aA:=by
 rcases h with h | ⟨g,h1,h2,h3⟩
 ·exact .inl h
 ·refine .inr ⟨g,h1,Nat.lt_of_lt_of_le h2 hb.size,fun i hi=>?_⟩
  obtain ⟨p,c,h4,h5⟩:=h3 i hi;exact ⟨p,c,(hb.cell (p:=⟨g,i,none⟩) h2).trans h4,h5.below hb⟩
theorem kwm {w:World} {B:Nat} {e:TypeId} {y:Value} {o:List Ch} (h:w.ownsRow B e 3 y o.length (jlM o)):∃ a c,y=.slice a o.length c/\Chs w a o:=by
 rcases yUO h with ⟨h1,h2⟩ | ⟨g,cap,h1,h2,_,h3⟩
 ·have:o=[]:=List.eq_nil_of_length_eq_zero h2
  subst this;exact ⟨none,0,h1,.inl rfl⟩
 ·exact ⟨_,cap,h1,h3.chs⟩
theorem Bat.bts {w:World} {base:Nat} {v:Value} {aA:List (List Ch)} (h:Bat w base v aA):∃ a c,v=.slice a aA.length c/\Bts w a aA:=by
 obtain ⟨vs,h1,h2,h3⟩:=h;rcases yUO h1 with ⟨e1,e2⟩ | ⟨g,cap,e1,e2,e3,e4⟩
 ·have:aA=[]:=List.eq_nil_of_length_eq_zero e2
  subst this;exact ⟨none,0,e1,.inl rfl⟩
 ·refine ⟨_,cap,e1,.inr ⟨g,rfl,e3,fun i hi=>?_⟩⟩
  obtain ⟨p,c,f1,f2⟩:=kwm (h2 i hi);have aB:vs.length=aA.length:=by have:=h1.1;omega
  refine ⟨p,c,e4.cell i _ ?_,f2⟩;rw [<-f1];simp [List.getD,List.getElem?_eq_getElem (show i<vs.length by omega)]
theorem Bts.at {w:World} {a:Option Addr} {aA:List (List Ch)} (h:Bts w a aA) {k:Nat} (hk:k<aA.length):∃ g p c,a=some ⟨g,0,none⟩/\g<w.heap.size/\w.cell? ⟨g,k,none⟩=some (.slice p (aA.getD k []).length c)/\Chs w p (aA.getD k []):=by
 rcases h with h | ⟨g,h1,h2,h3⟩
 ·subst h;simp at hk
 ·obtain ⟨p,c,h4,h5⟩:=h3 k hk
  exact ⟨g,p,c,h1,h2,h4,h5⟩
theorem yhi:(Tryz.prog.info? 117).map (fun i=>(i.zero,i.size,i.bytes))=some (some (.agg #[.string ByteArray.empty,.string ByteArray.empty,.bool false]),3,40):=by kernel_rfl
theorem v2Y:(Tryz.prog.info? 91).map (fun i=>(i.zero,i.size,i.bytes))=some (some (.slice none 0 0),1,24):=by kernel_rfl
theorem XJR {P:Program} {e:TypeId} {z:Value} {size aA:Nat} (h:(P.info? e).map (fun i=>(i.zero,i.size,i.bytes))=some (some z,size,aA)):∃ i,P.info? e=some i/\i.zero=some z/\i.size=size/\i.bytes=aA:=by
 obtain ⟨i,hi,hh⟩:=Option.map_eq_some_iff.1 h;simp only [Prod.mk.injEq] at hh;exact ⟨i,hi,hh⟩
theorem jbs {W w w1:World} {e:TypeId} {size:Nat} {v:Value} {n B:Nat} {xs:List Value} (hb:Below B W w) (own:w.ownsRow B e size v n xs) (hg:w.grownBy w1 v.ownBlock) (hB:B<=w.heap.size):Below B W w1 :=
 hb.trans ⟨hg.os,hg.tape,hg.output,hg.size,fun k hk=>hg.block k (by omega) (fun he=>by have:=(own.lt k he.symm).1;omega)⟩
theorem zjg {w:World} {b b':Nat} {e:TypeId} {s:Nat} {v:Value} {n:Nat} {xs:List Value} (h:w.ownsRow b e s v n xs) (hb:b'<=b):w.ownsRow b' e s v n xs:=by
 refine ⟨h.1,?_⟩;rcases h.2 with h0 | ⟨g,cap,aA,h1,h2,h3⟩
 ·exact .inl h0
 ·exact .inr ⟨g,cap,aA,h1,Nat.le_trans hb h2,h3⟩
theorem Bat.mono {w:World} {b b':Nat} {v:Value} {aA:List (List Ch)} (h:Bat w b v aA) (hb:b'<=b):Bat w b' v aA:=by
 obtain ⟨vs,h1,h2,h3⟩:=h;exact ⟨vs,zjg h1 hb,fun i hi=>zjg (h2 i hi) hb,h3⟩
structure Rest (w:World) (base:Nat) (bss:List (List Ch)) (vs:List Value) (x:Value):Prop where
 len:vs.length=bss.length
 own:∀ i,i<bss.length->w.ownsRow base 117 3 (vs.getD i nov) (bss.getD i []).length (jlM (bss.getD i []))
 apart:∀ i j k,i<j->j<bss.length->(vs.getD i nov).ownBlock=some k->(vs.getD j nov).ownBlock≠some k
 last:∀ i k,i<bss.length->(vs.getD i nov).ownBlock=some k->x.ownBlock≠some k
theorem Bat.last {w:World} {base:Nat} {v:Value} {aA:List (List Ch)} {cs:List Ch} (h:Bat w base v (aA++[cs])):∃ g cap vs p c,v=.slice (some ⟨g,0,none⟩) (aA.length+1) cap/\w.ownsRow base 91 1 v (aA.length+1) (vs++[.slice p cs.length c])/\w.ownsRow base 117 3 (.slice p cs.length c) cs.length (jlM cs)/\Rest w base aA vs (.slice p cs.length c):=by
 obtain ⟨vs,h1,h2,h3⟩:=h;have aB:vs.length=aA.length+1:=by have:=h1.1;simp at this;omega
 obtain ⟨us,x,rfl⟩:∃ us x,vs=us++[x]:=⟨vs.dropLast,vs.getLast (by intro e;subst e;simp at aB),(List.dropLast_concat_getLast _).symm⟩;have aC:us.length=aA.length:=by simp at aB;exact aB
 have hx:=h2 aA.length (by simp);have e1:(us++[x]).getD aA.length nov=x:=by rw [<-aC];simp [List.getD]
 have e2:(aA++[cs]).getD aA.length []=cs:=by simp [List.getD]
 rw [e1,e2] at hx
 have f1:∀ i,i<aA.length->(us++[x]).getD i nov=us.getD i nov:=fun i hi=>by simp [List.getD,List.getElem?_append_left (show i<us.length by omega)]
 have f2:∀ i,i<aA.length->(aA++[cs]).getD i []=aA.getD i []:=fun i hi=>by simp [List.getD,List.getElem?_append_left hi]
 obtain ⟨p,c,rfl,_⟩:=kwm hx;simp only [List.length_append,List.length_cons,List.length_nil] at h1
 obtain ⟨g,cap,hv⟩:∃ g cap,v=.slice (some ⟨g,0,none⟩) (aA.length+1) cap:=by
  rcases yUO h1 with ⟨_,h0⟩ | ⟨g,cap,h0,_⟩
  ·omega
  ·exact ⟨g,cap,h0⟩
 refine ⟨g,cap,us,p,c,hv,h1,hx,aC,fun i hi=>?_,fun i j k aD hj he=>?_,fun i k hi he=>?_⟩
 ·have:=h2 i (by simp;omega)
  rwa [f1 i hi,f2 i hi] at this
 ·have:=h3 i j k aD (by simp;omega)
  rw [f1 i (by omega),f1 j hj] at this;exact this he
 ·have:=h3 i aA.length k hi (by simp)
  rw [f1 i hi,e1] at this;exact this he
theorem Rest.relast {w w1:World} {base g cap:Nat} {aA:List (List Ch)} {cs:List Ch} {vs:List Value} {x x':Value} {n0:Nat} {aG:List Ch} (hr:Rest w base aA vs x) (hb:base<=w.heap.size)
  (ho:w.ownsRow base 91 1 (.slice (some ⟨g,0,none⟩) (aA.length+1) cap) (aA.length+1) (vs++[x])) (hx:w.ownsRow base 117 3 x n0 (jlM aG))
  (hg:w.grownBy w1 x.ownBlock) (aI:w1.ownsRow base 117 3 x' cs.length (jlM cs)) (hn:x.ownBlock=x'.ownBlock\/x'.ownBlock=some w.heap.size) :
  Bat (w1.setCell ⟨g,aA.length,none⟩ x') base (.slice (some ⟨g,0,none⟩) (aA.length+1) cap) (aA++[cs]):=by
 have ne:(117:TypeId)≠91:=by decide
 have aD:=hr.len
 have aF:w1.ownsRow base 91 1 (.slice (some ⟨g,0,none⟩) (aA.length+1) cap) (aA.length+1) (vs++[x]):=ho.kept hg (by
  rcases QnU ho hx (Ne.symm ne) with h | h
  ·exact .inl h
  ·exact .inr h)
 have aJ:w1.grownBy (w1.setCell ⟨g,aA.length,none⟩ x') (some g):=⟨rfl,rfl,rfl,by simp [World.setCell],fun k _ hk=>Below.heap_setCell _ _ _ k (fun e=>hk (by rw [e]))⟩
 have ap:∀ {u:Value} {n:Nat} {xs:List Value},w1.ownsRow base 117 3 u n xs->(w1.setCell ⟨g,aA.length,none⟩ x').ownsRow base 117 3 u n xs:=fun h=>h.kept aJ (QnU h aF ne)
 have aH:∀ i,i<aA.length->w1.ownsRow base 117 3 (vs.getD i nov) (aA.getD i []).length (jlM (aA.getD i [])):=fun i hi=>(hr.own i hi).kept hg (by
  cases hk:(vs.getD i nov).ownBlock with
  | none=>exact .inl rfl
  | some k=>exact .inr fun e=>hr.last i k hi hk e.symm)
 have f1:∀ i,i<aA.length->(vs++[x']).getD i nov=vs.getD i nov:=fun i hi=>by simp [List.getD,List.getElem?_append_left (show i<vs.length by omega)]
 have f2:∀ i,i<aA.length->(aA++[cs]).getD i []=aA.getD i []:=fun i hi=>by simp [List.getD,List.getElem?_append_left hi]
 have e1:(vs++[x']).getD aA.length nov=x':=by rw [<-aD];simp [List.getD]
 have e2:(aA++[cs]).getD aA.length []=cs:=by simp [List.getD]
 refine ⟨vs++[x'],?_,fun i hi=>?_,fun i j k aE hj he=>?_⟩
 ·refine ⟨by simp [aD],.inr ?_⟩
  rcases aF.2 with ⟨h0,_⟩ | ⟨g',aK,aC,h1,h2,h3,h4,h5,h6,h7⟩
  ·cases h0
  ·cases h1
   refine ⟨g,cap,aC.set! aA.length x',by simp,h2,?_,by simpa using h4,h5,by simpa using h6,?_⟩
   ·have aB:=(Array.getElem?_eq_some_iff.1 h3).1
    have hk:=(Array.getElem?_eq_some_iff.1 h3).2;show (w1.heap.modify g _)[g]?=_;rw [Array.getElem?_eq_getElem (by rw [Array.size_modify];exact aB),Array.getElem_modify_self,hk];rfl
   ·have hz:aC.toList.length=aC.size:=by simp
    have hl:aA.length<aC.toList.length:=by omega
    simp only [Nat.mul_one,List.length_append,List.length_cons,List.length_nil] at h7 ⊢;have:(aC.set! aA.length x').toList=aC.toList.set aA.length x':=by simp
    rw [this,Nat.zero_add,List.take_set,h7,List.set_append_right _ _ (by omega),aD];simp
 ·by_cases aB:i<aA.length
  ·rw [f1 i aB,f2 i aB];exact ap (aH i aB)
  ·have:i=aA.length:=by simp at hi;omega
   subst this;rw [e1,e2];exact ap aI
 ·simp only [List.length_append,List.length_cons,List.length_nil] at hj
  rw [f1 i (by omega)] at he
  by_cases aB:j<aA.length
  ·rw [f1 j aB];exact hr.apart i j k aE aB he
  ·have:j=aA.length:=by omega
   subst this;rw [e1];rcases hn with h | h
   ·rw [<-h];exact hr.last i k aE he
   ·rw [h]
    intro e;have:=(hr.own i aE).lt k he;simp at e;omega
theorem QxC (k v:ByteArray) (g:Bool):∀ u∈[Value.string k,.string v,.bool g],u.oneCell'=true:=by
 intro u hu;simp only [List.mem_cons,List.not_mem_nil,or_false] at hu;rcases hu with rfl | rfl | rfl<;>rfl
theorem vxL {w:World} {base g cap m:Nat} {e:TypeId} {vs:List Value} {x:Value} (ho:w.ownsRow base e 1 (.slice (some ⟨g,0,none⟩) (m+1) cap) (m+1) (vs++[x])) (hl:vs.length=m):w.cell? ⟨g,m,none⟩=some x/\w.frozen? ⟨g,m,none⟩=false:=by
 have hr:=kX5 ho;exact ⟨hr.cell m x (by rw [<-hl];simp),hr.froz m (by simp;omega)⟩
theorem yNa {w w1:World} {base g cap m n0:Nat} {vs xs:List Value} {x:Value} {o:Obj} (ho:w.ownsRow base 91 1 (.slice (some ⟨g,0,none⟩) (m+1) cap) (m+1) (vs++[x])/\vs.length=m) (hx:w.ownsRow base 117 3 x n0 xs) (hg:(w.alloc o).grownBy w1 x.ownBlock):w1.cell? ⟨g,m,none⟩=some x/\w1.frozen? ⟨g,m,none⟩=false:=by
 have ne:(91:TypeId)≠117:=by decide
 exact vxL ((ho.1.alloc o).kept hg (QnU ho.1 hx ne)) ho.2
theorem Rest.alloc {w:World} {base:Nat} {aA:List (List Ch)} {vs:List Value} {x:Value} (h:Rest w base aA vs x) (o:Obj):Rest (w.alloc o) base aA vs x:=⟨h.len,fun i hi=>(h.own i hi).alloc o,h.apart,h.last⟩
theorem Ju6 (w:World) (A:Obj) (cs:Array Value) (t:TypeId):∀ j u,cs.toList[j]?=some u->((w.alloc A).alloc (.cells cs t)).cell? ((⟨w.heap.size+1,0,none⟩:Addr).add j)=some u:=by
 have h:=heap_alloc_new (w.alloc A) (.cells cs t);rw [World.size_alloc] at h;exact World.news_of_block h
theorem zE0 {wr w7:World} {base n:Nat} {v:Value} {vs:List Value} {o:Obj} (h1:wr.ownsRow base 91 1 v n vs) (hb:base<=wr.heap.size) (hg:((wr.alloc (.cells #[] 117)).alloc o).grownBy w7 v.ownBlock):w7.ownsRow base 117 3 (.slice (some ⟨wr.heap.size,0,none⟩) 0 0) 0 []:=by
 have h0:(wr.alloc (.cells #[] 117)).ownsRow base 117 3 (.slice (some ⟨wr.heap.size,0,none⟩) 0 0) 0 []:=by
  have:=World.ownsRow_lit wr (base:=base) (e:=117) (size:=3) #[] 0 hb (by simp) (by simp);simpa using this
 exact (h0.alloc o).kept hg (QnU (h0.alloc o) ((h1.alloc _).alloc _) (by decide))
theorem yCu {W0 wr w7:World} {base g cap m yc:Nat} {ya:Option Addr} {vs:List Value} (aC:Below base W0 wr) (aD:base<=wr.heap.size) (h1:wr.ownsRow base 91 1 (.slice ya m yc) m vs) (aB:w7.ownsRow base 91 1 (.slice (some ⟨g,0,none⟩) (m+1) cap) (m+1) (vs++[.slice (some ⟨wr.heap.size,0,none⟩) 0 0]))
  (aA:((wr.alloc (.cells #[] 117)).alloc (.cells #[.slice (some ⟨wr.heap.size,0,none⟩) 0 0] 91)).grownBy w7 (Value.slice ya m yc).ownBlock) :
  Below base W0 w7/\(w7.ownsRow base 91 1 (.slice (some ⟨g,0,none⟩) (m+1) cap) (m+1) (vs++[.slice (some ⟨wr.heap.size,0,none⟩) 0 0])/\vs.length=m)/\w7.ownsRow base 117 3 (.slice (some ⟨wr.heap.size,0,none⟩) 0 0) 0 []/\w7.cell? ⟨g,m,none⟩=some (.slice (some ⟨wr.heap.size,0,none⟩) 0 0):=by
 have hl:vs.length=m:=by have:=h1.1;omega
 exact ⟨jbs ((aC.alloc aD _).alloc (by simp;omega) _) ((h1.alloc _).alloc _) aA (by simp;omega),⟨aB,hl⟩,zE0 h1 aD aA,(vxL aB hl).1⟩
theorem qUf (o:List Ch) (c:Ch):jlM (o++[c])=jlM o++[.string c.1,.string c.2.1,.bool c.2.2]:=by rw [xam];rfl
theorem J0q {w w':World} {o:Obj} {r:Option Nat} (h:(w.drew.alloc o).grownBy w' r):(w.alloc o).grownBy w' r:=⟨h.os,h.tape,h.output,h.size,h.block⟩
theorem qjd {W0 W w9:World} {base g cap m n0 g9 aA c:Nat} {p:Option Addr} {aB:List (List Ch)} {cs:List Ch} {vs:List Value} {s0 s1:ByteArray} {o:Obj} (hb:base<=W.heap.size) (hr:Rest W base aB vs (.slice p n0 c)) (hm:m=aB.length) (hn:n0=cs.length)
  (ho:W.ownsRow base 91 1 (.slice (some ⟨g,0,none⟩) (m+1) cap) (m+1) (vs++[.slice p n0 c])) (hx:W.ownsRow base 117 3 (.slice p n0 c) n0 (jlM cs)) (hg:(W.alloc o).grownBy w9 (Value.slice p n0 c).ownBlock)
  (aF:w9.ownsRow base 117 3 (.slice (some ⟨g9,0,none⟩) (n0+1) aA) (n0+1) (jlM cs++[.string s0,.string s1,.bool false])) (aE:(Value.slice p n0 c).ownBlock=some g9\/g9=W.heap.size+1) (aC:Below base W0 W) :
  Bat (w9.setCell ⟨g,m,none⟩ (.slice (some ⟨g9,0,none⟩) (n0+1) aA)) base (.slice (some ⟨g,0,none⟩) (m+1) cap) (aB++[cs++[(s0,s1,false)]])/\Below base W0 (w9.setCell ⟨g,m,none⟩ (.slice (some ⟨g9,0,none⟩) (n0+1) aA)):=by
 subst hm hn
 have aG:w9.ownsRow base 117 3 (.slice (some ⟨g9,0,none⟩) (cs.length+1) aA) (cs++[(s0,s1,false)]).length (jlM (cs++[(s0,s1,false)])):=by
  rw [qUf,List.length_append];exact aF
 refine ⟨(hr.alloc o).relast (by simp;omega) (ho.alloc o) (hx.alloc o) hg aG ?_,?_⟩
 ·rcases aE with h | h
  ·exact .inl h
  ·right;rw [h];simp [Value.ownBlock]
 ·have aD:=(ho.lt g rfl).1
  exact (jbs (aC.alloc hb o) (hx.alloc o) hg (by simp;omega)).setCell (p:=⟨g,aB.length,none⟩) aD _
theorem yUr {wr w7:World} {base m yc:Nat} {ya:Option Addr} {aA:List (List Ch)} {vs:List Value} {o:Obj} (h1:wr.ownsRow base 91 1 (.slice ya m yc) m vs) (h2:∀ i,i<aA.length->wr.ownsRow base 117 3 (vs.getD i nov) (aA.getD i []).length (jlM (aA.getD i [])))
  (h3:∀ i j k,i<j->j<aA.length->(vs.getD i nov).ownBlock=some k->(vs.getD j nov).ownBlock≠some k) (hb:base<=wr.heap.size) (hm:m=aA.length) (hg:((wr.alloc (.cells #[] 117)).alloc o).grownBy w7 (Value.slice ya m yc).ownBlock):Rest w7 base aA vs (.slice (some ⟨wr.heap.size,0,none⟩) 0 0):=by
 refine ⟨by have:=h1.1;omega,fun i hi=>(((h2 i hi).alloc _).alloc _).kept hg (QnU (h2 i hi) h1 (by decide)),h3,fun i k hi he=>?_⟩;have:=(h2 i hi).lt k he;simp only [Value.ownBlock,ne_eq,Option.some.injEq];omega
theorem vZz (rs:List Pr) (i:Nat) (hi:i<=100):(xEW rs i).length<=5:=by rw [xCZ];omega
theorem kL5 (a:Option Addr) (rs:List Pr) (c:Nat) (w:World) (h:Prs w a rs) (hl:rs.length<=1048576) (hs:∀ x∈rs,x.1.size<=1048576/\x.2.size<=1048576) :
  Calls Tryz.prog 91 #[.agg #[.slice a rs.length c]] w fun e w'=>∃ v,e=.returned v/\Bat w' (w.heap.size+1) v (ZZG rs)/\Below w.heap.size w w':=by
 obtain ⟨i0,cM,cS,cW,cL⟩:=XJR yhi;have HI:=hid (And.intro cM (And.intro cS (And.intro cW cL)));obtain ⟨i1,cV,cT,cN,cZ⟩:=XJR v2Y;have HJ:=hid (And.intro cV (And.intro cT (And.intro cN cZ)));clear cM cS cW cL cV cT cN cZ;unfold ZZG;have cI:Below w.heap.size w ((w.alloc (.cells #[.slice a rs.length c] 57)).alloc (.cells #[] 91)):=((Below.refl _ _).alloc (Nat.le_refl _) _).alloc (by simp) _;have hv:=yPv a rs c ((w.alloc (.cells #[.slice a rs.length c] 57)).alloc (.cells #[] 91)) (h.below cI) hl hs
 have aQ:Bat ((w.alloc (.cells #[.slice a rs.length c] 57)).alloc (.cells #[] 91)) (w.heap.size+1) (.slice (some ⟨w.heap.size+1,0,none⟩) 0 0) []:=by
  refine ⟨[],?_,fun i h=>absurd h (by simp),fun i j k _ h=>absurd h (by simp)⟩;have:=World.ownsRow_lit (w.alloc (.cells #[.slice a rs.length c] 57)) (base:=w.heap.size+1) (e:=91) (size:=1) #[] 0 (by simp) (by simp) (by simp);simpa using this
 have HV:=hid hv;have cQ:=hid cI;have HE:=hid aQ;clear hv cI aQ
 cases hok:z0q rs with
 | false =>
  rw [hok] at HV;simp only [Bool.false_eq_true,if_false];go_enter Tryz.func91,Tryz.ntmps91;go_wp2_with (go_at_call 88;refine HV.out.mono ?_;rintro e w2 ⟨rfl,bH⟩);go_ret;exact ⟨_,rfl,HE.out.below bH,cQ.out.trans (bH.mono cQ.out.size)⟩
 | true =>
  rw [hok] at HV;simp only [if_true];have dQ:rs.length<=100:=(Jne hok).1;go_enter Tryz.func91,Tryz.ntmps91;go_wp2_with (go_at_call 88;refine HV.out.mono ?_;rintro e w2 ⟨rfl,bH⟩);have dE:=bH.size;simp only [World.size_alloc] at dE;go_loopw [3,4] (fun y i wr=>∃ k:Nat,k<=rs.length/\i=.int .i64 k/\Bat wr (w.heap.size+1) y (xEW rs k)/\Below (w.heap.size+1) (w.alloc (.cells #[.slice a rs.length c] 57)) wr) (fun _ i _=>rs.length-(intOf i).toNat)
  case atStart=>exact ⟨0,Nat.zero_le _,rfl,HE.out.below bH,((Below.refl _ _).alloc (by simp) _).trans (bH.mono (by simp))⟩
  case round =>
   obtain ⟨k,hk,rfl,aW,aN⟩:=hrel;have q0:wr.cell? ⟨w.heap.size,0,none⟩=some (.slice a rs.length c):=(aN.cell (p:=⟨w.heap.size,0,none⟩) (by show w.heap.size<_;omega)).trans (by go_simp);have bV:w.heap.size+1<=wr.heap.size:=by have:=aN.size;simpa using this
   by_cases bZ:k<rs.length
   ·obtain ⟨b,o,s0,s1,rfl,bW,bY,HS⟩:=(h.below (((Below.refl _ _).alloc (Nat.le_refl _) _).trans (aN.mono (by omega)))).at bZ
    have aR:b<w.heap.size:=by
     rcases h with h | ⟨b',o',h1,h2,_⟩
     ·subst h;simp at bZ
     ·cases h1;exact h2
    have dK:(k:Int)<(rs.length:Int):=by omega
    have HB:=hid aN;have bG:=hid aW;clear aN aW
    by_cases hr:k % 20=0
    ·have dJ:(k:Int) % 20=0:=by omega
     have aZ:=hid (XKu rs k bZ hr (ByteArray.empty,ByteArray.empty));have bI:=vZz rs k (by omega);obtain ⟨aY,bJ⟩:∃ aY,aY=xEW rs k:=⟨_,rfl⟩;rw [<-bJ] at bG bI aZ;clear bJ;obtain ⟨vs,h1,h2,h3⟩:=bG.out
     obtain ⟨ya,yc,rfl⟩:∃ ya yc,u3=Value.slice ya aY.length yc:=by
      rcases yUO h1 with ⟨e1,e2⟩ | ⟨g,cap,e1,_⟩
      ·exact ⟨none,0,by rw [e1,e2]⟩
      ·exact ⟨_,cap,e1⟩
     obtain ⟨m,hm⟩:∃ m,m=aY.length:=⟨_,rfl⟩;rw [<-hm] at h1 bI ⊢;have HM:=hid hm;have H1:=hid h1;have H2:=hid h2;have H3:=hid h3;clear bG h1 h2 h3 hm;go_wp2_with (at_builtin;refine WAL _ rfl _ _ 152 rfl (w.heap.size+1) Tryz.underlying152 HJ.out rfl (by omega) _ m _ rfl ((H1.out.alloc _).alloc _) ⟨wr.heap.size+1,0,none⟩ 1 1 [.slice (some ⟨wr.heap.size,0,none⟩) 0 0] rfl rfl (Ju6 wr _ _ _) (by intro u hu;simp at hu;subst hu;rfl) (by simp;omega) (wr.heap.size+1+1) (by simp) ?_;intro g cap w7 aS aM cE cH;obtain ⟨bC,cO,cY,q7⟩:=yCu HB.out bV H1.out aS aM;have bQ:=hid bC;have HO:=hid cO;have HX:=hid cY;have aP:w.heap.size+1<=w7.heap.size:=Nat.le_trans (by simp) bC.size;have b8:=(bC.cell (p:=⟨w.heap.size,0,none⟩) (Nat.lt_succ_self _)).trans ((HB.out.cell (p:=⟨w.heap.size,0,none⟩) (Nat.lt_succ_self _)).symm.trans q0);have cC:=(bC.cell (p:=⟨b,o+k*2,none⟩) (Nat.lt_succ_of_lt aR)).trans ((HB.out.cell (p:=⟨b,o+k*2,none⟩) (Nat.lt_succ_of_lt aR)).symm.trans bW);have cF:=(bC.cell (p:=⟨b,o+k*2+1,none⟩) (Nat.lt_succ_of_lt aR)).trans ((HB.out.cell (p:=⟨b,o+k*2+1,none⟩) (Nat.lt_succ_of_lt aR)).symm.trans bY);have dL:b<w7.heap.size:=Nat.lt_of_lt_of_le (Nat.lt_succ_of_lt aR) aP;have dM:=hid aM;clear aS aM cE bC cO cY bW bY q0)
     have dH:(m:Int)<(m:Int)+1:=by omega
     have cJ:(0:Int)<=(m:Int):=by omega
     have bU:=hid (HX.out.alloc (.cells #[.string s0,.string s1,.bool false] 117));have HR:Hid (Rest w7 (w.heap.size+1) aY vs (.slice (some ⟨wr.heap.size,0,none⟩) 0 0)):=hid (yUr H1.out H2.out H3.out bV HM.out dM.out)
     have hS:∀ w',Below (w.heap.size+1) w7 w'->w'.cell? ⟨w.heap.size,0,none⟩=some (.slice (some ⟨b,o,none⟩) rs.length c)/\w'.cell? ⟨b,o+k*2,none⟩=some (.string s0)/\w'.cell? ⟨b,o+k*2+1,none⟩=some (.string s1):=fun w' aX=>⟨(aX.cell (p:=⟨w.heap.size,0,none⟩) (Nat.lt_succ_self _)).trans b8,(aX.cell (p:=⟨b,o+k*2,none⟩) (Nat.lt_succ_of_lt aR)).trans cC,(aX.cell (p:=⟨b,o+k*2+1,none⟩) (Nat.lt_succ_of_lt aR)).trans cF⟩
     have aO:=hid hS;clear hS;refine wp_region_held_drew (S:=fun w'=>w'.cell? ⟨w.heap.size,0,none⟩=some (.slice (some ⟨b,o,none⟩) rs.length c)/\w'.cell? ⟨b,o+k*2,none⟩=some (.string s0)/\w'.cell? ⟨b,o+k*2+1,none⟩=some (.string s1)) (by kernel_rfl) (aO.out _ (Below.refl _ _).drew) (fun aB=>?_);refine TY 0 (.slice (some ⟨g,0,none⟩) (m+1) cap) rfl aB (TY 1 (.int .i64 (m:Int)) rfl aB (TY 2 (.slice (some ⟨g,0,none⟩) (m+1) cap) rfl aB (TY 3 (.int .i64 (m:Int)) rfl aB (TY 4 (.pointer (some ⟨g,m,none⟩)) rfl aB (TY 6 (.pointer (some ⟨w.heap.size,0,none⟩)) rfl aB (TY 7 (.slice (some ⟨b,o,none⟩) rs.length c) rfl aB (TY 8 (.int .i64 (k:Int)) rfl aB (TY 9 (.pointer (some ⟨b,o+k*2,none⟩)) rfl aB (TY 10 (.pointer (some ⟨b,o+k*2,none⟩)) rfl aB (TY 11 (.string s0) rfl aB (TY 12 (.pointer (some ⟨w.heap.size,0,none⟩)) rfl aB ?_)))))))))));simp only [PS];refine TY 13 (.slice (some ⟨b,o,none⟩) rs.length c) rfl aB (TY 14 (.int .i64 (k:Int)) rfl aB (TY 15 (.pointer (some ⟨b,o+k*2,none⟩)) rfl aB (TY 16 (.pointer (some ⟨b,o+k*2+1,none⟩)) rfl aB (TY 17 (.string s1) rfl aB (TY 18 (.agg #[.string s0,.string s1,.bool false]) rfl aB ?_)))))
     simp only [PS];refine wpAnyH_ready (rs:=[5,19]) (by kernel_rfl) (by simp) ?_;have aJ:=aO.out (w7.drew.alloc (.cells #[.string s0,.string s1,.bool false] 117)) ((Below.refl _ _).drew.alloc aP _);refine AllReadyH.cons rfl (fun K hK=>?_) (AllReadyH.cons rfl (fun K hK=>?_) AllReadyH.nil)
     ·go_simp
      refine hK.out _ _ aB (fun _=>?_);clear hK K;refine RD 19 rfl (fun K hK=>?_);go_simp;refine hK.out _ _ aJ (fun _=>?_);clear hK K;refine RD 20 rfl (fun K hK=>?_);refine SAL _ (by rfl) _ _ _ (by rfl) (w.heap.size+1) Tryz.underlying91 HI.out rfl (by omega) (.slice (some ⟨wr.heap.size,0,none⟩) 0 0) 0 _ (by rfl) bU.out ⟨w7.heap.size,0,none⟩ 1 1 [.string s0,.string s1,.bool false] (by rfl) rfl (World.news_of_block (heap_alloc_new w7 _)) (QxC _ _ _) (by simp<;>omega) (w7.heap.size+1) (by simp) ?_;intro g9 aK w9 aC aA aE aU;have aV:=hid aC;have aH:=hid (J0q aA);have aT:=hid aE;have aG:=qjd aP HR.out HM.out (cs:=[]) rfl HO.out.1 HX.out aH.out aV.out aT.out bQ.out;have aD:=hid aG;have q9:=(yNa HO.out HX.out aH.out).1;have r9:=(yNa HO.out HX.out aH.out).2;have aL:Below (w.heap.size+1) w7 w9:=jbs ((Below.refl _ _).alloc aP _) (HX.out.alloc _) aH.out (by simp;omega);have aF:=aO.out _ aL;have aI:=aO.out _ (aL.setCell (p:=⟨g,m,none⟩) (HO.out.1.lt g rfl).1 (.slice (some ⟨g9,0,none⟩) (0+1) aK))
      clear aC aA aE aG aL;refine hK.out _ _ aF (fun _=>?_);clear hK K;simp only [PS];refine TY 21 (.pointer (some ⟨g,m,none⟩)) rfl aF ?_;simp only [PS];refine RD 22 rfl (fun K hK=>?_);go_simp;refine hK.out _ _ aI (fun _=>?_);clear hK K;refine DN ?_;go_wp2;refine ⟨⟨k+1,by omega,by go_num,?_,aD.out.2⟩,by simp [intOf];omega⟩;rw [aZ.out];have e2:(s0,s1,false)=ZNW (rs.getD k (ByteArray.empty,ByteArray.empty)):=by rw [<-HS.out];rfl
      rw [<-e2];exact aD.out.1
     ·go_simp
      refine hK.out _ _ aJ (fun _=>?_);clear hK K;refine RD 5 rfl (fun K hK=>?_);go_simp;refine hK.out _ _ aJ (fun _=>?_);clear hK K;refine RD 20 rfl (fun K hK=>?_);refine SAL _ (by rfl) _ _ _ (by rfl) (w.heap.size+1) Tryz.underlying91 HI.out rfl (by omega) (.slice (some ⟨wr.heap.size,0,none⟩) 0 0) 0 _ (by rfl) bU.out ⟨w7.heap.size,0,none⟩ 1 1 [.string s0,.string s1,.bool false] (by rfl) rfl (World.news_of_block (heap_alloc_new w7 _)) (QxC _ _ _) (by simp<;>omega) (w7.heap.size+1) (by simp) ?_;intro g9 aK w9 aC aA aE aU;have aV:=hid aC;have aH:=hid (J0q aA);have aT:=hid aE;have aG:=qjd aP HR.out HM.out (cs:=[]) rfl HO.out.1 HX.out aH.out aV.out aT.out bQ.out;have aD:=hid aG;have q9:=(yNa HO.out HX.out aH.out).1;have r9:=(yNa HO.out HX.out aH.out).2;have aL:Below (w.heap.size+1) w7 w9:=jbs ((Below.refl _ _).alloc aP _) (HX.out.alloc _) aH.out (by simp;omega);have aF:=aO.out _ aL;have aI:=aO.out _ (aL.setCell (p:=⟨g,m,none⟩) (HO.out.1.lt g rfl).1 (.slice (some ⟨g9,0,none⟩) (0+1) aK))
      clear aC aA aE aG aL;refine hK.out _ _ aF (fun _=>?_);clear hK K;simp only [PS];refine TY 21 (.pointer (some ⟨g,m,none⟩)) rfl aF ?_;simp only [PS];refine RD 22 rfl (fun K hK=>?_);go_simp;refine hK.out _ _ aI (fun _=>?_);clear hK K;refine DN ?_;go_wp2;refine ⟨⟨k+1,by omega,by go_num,?_,aD.out.2⟩,by simp [intOf];omega⟩;rw [aZ.out];have e2:(s0,s1,false)=ZNW (rs.getD k (ByteArray.empty,ByteArray.empty)):=by rw [<-HS.out];rfl
      rw [<-e2];exact aD.out.1
    ·have dJ:decide ((k:Int) % 20=0)=false:=by simp;omega
     obtain ⟨aY,cs,cU,cP,dN⟩:=q0O rs k bZ hr (ByteArray.empty,ByteArray.empty);have aZ:=hid cP;have bI:=vZz rs k (by omega);rw [cU] at bG bI;obtain ⟨g,cap,vs,p,c9,rfl,hO,hX,hR⟩:=bG.out.last;obtain ⟨m,hm⟩:∃ m,m=aY.length:=⟨_,rfl⟩;obtain ⟨n0,b7⟩:∃ n0,n0=cs.length:=⟨_,rfl⟩;have dO:m<=5:=by simp at bI;omega
     have cK:vs.length=m:=by rw [hR.len,hm]
     rw [<-hm,<-b7] at hO;rw [<-b7] at hX hR dN;rw [<-hm];have HM:=hid hm;have HN:=hid b7;have HO:=hid (And.intro hO cK);have HX:=hid hX;have HR:=hid hR;have cH:g<wr.heap.size:=(hO.lt g rfl).2;have q7:=(vxL hO cK).1;clear cU cP bI hO hX hR hm b7 bG cK;have dH:(m:Int)<(m:Int)+1:=by omega
     have cJ:(0:Int)<=(m:Int):=by omega
     have bU:=hid (HX.out.alloc (.cells #[.string s0,.string s1,.bool false] 117));have dL:b<wr.heap.size:=Nat.lt_of_lt_of_le (Nat.lt_succ_of_lt aR) bV;have b8:=q0;have cC:=bW;have cF:=bY;have aP:=bV;have bQ:=HB;clear q0 bW bY bV HB;go_wp2_with fail
     have hS:∀ w',Below (w.heap.size+1) wr w'->w'.cell? ⟨w.heap.size,0,none⟩=some (.slice (some ⟨b,o,none⟩) rs.length c)/\w'.cell? ⟨b,o+k*2,none⟩=some (.string s0)/\w'.cell? ⟨b,o+k*2+1,none⟩=some (.string s1):=fun w' aX=>⟨(aX.cell (p:=⟨w.heap.size,0,none⟩) (Nat.lt_succ_self _)).trans b8,(aX.cell (p:=⟨b,o+k*2,none⟩) (Nat.lt_succ_of_lt aR)).trans cC,(aX.cell (p:=⟨b,o+k*2+1,none⟩) (Nat.lt_succ_of_lt aR)).trans cF⟩
     have aO:=hid hS;clear hS;refine wp_region_held_drew (S:=fun w'=>w'.cell? ⟨w.heap.size,0,none⟩=some (.slice (some ⟨b,o,none⟩) rs.length c)/\w'.cell? ⟨b,o+k*2,none⟩=some (.string s0)/\w'.cell? ⟨b,o+k*2+1,none⟩=some (.string s1)) (by kernel_rfl) (aO.out _ (Below.refl _ _).drew) (fun aB=>?_);refine TY 0 (.slice (some ⟨g,0,none⟩) (m+1) cap) rfl aB (TY 1 (.int .i64 (m:Int)) rfl aB (TY 2 (.slice (some ⟨g,0,none⟩) (m+1) cap) rfl aB (TY 3 (.int .i64 (m:Int)) rfl aB (TY 4 (.pointer (some ⟨g,m,none⟩)) rfl aB (TY 6 (.pointer (some ⟨w.heap.size,0,none⟩)) rfl aB (TY 7 (.slice (some ⟨b,o,none⟩) rs.length c) rfl aB (TY 8 (.int .i64 (k:Int)) rfl aB (TY 9 (.pointer (some ⟨b,o+k*2,none⟩)) rfl aB (TY 10 (.pointer (some ⟨b,o+k*2,none⟩)) rfl aB (TY 11 (.string s0) rfl aB (TY 12 (.pointer (some ⟨w.heap.size,0,none⟩)) rfl aB ?_)))))))))));simp only [PS];refine TY 13 (.slice (some ⟨b,o,none⟩) rs.length c) rfl aB (TY 14 (.int .i64 (k:Int)) rfl aB (TY 15 (.pointer (some ⟨b,o+k*2,none⟩)) rfl aB (TY 16 (.pointer (some ⟨b,o+k*2+1,none⟩)) rfl aB (TY 17 (.string s1) rfl aB (TY 18 (.agg #[.string s0,.string s1,.bool false]) rfl aB ?_)))))
     simp only [PS];refine wpAnyH_ready (rs:=[5,19]) (by kernel_rfl) (by simp) ?_;have aJ:=aO.out (wr.drew.alloc (.cells #[.string s0,.string s1,.bool false] 117)) ((Below.refl _ _).drew.alloc aP _);refine AllReadyH.cons rfl (fun K hK=>?_) (AllReadyH.cons rfl (fun K hK=>?_) AllReadyH.nil)
     ·go_simp
      refine hK.out _ _ aB (fun _=>?_);clear hK K;refine RD 19 rfl (fun K hK=>?_);go_simp;refine hK.out _ _ aJ (fun _=>?_);clear hK K;refine RD 20 rfl (fun K hK=>?_);refine SAL _ (by rfl) _ _ _ (by rfl) (w.heap.size+1) Tryz.underlying91 HI.out rfl (by omega) (.slice p n0 c9) n0 _ (by rfl) bU.out ⟨wr.heap.size,0,none⟩ 1 1 [.string s0,.string s1,.bool false] (by rfl) rfl (World.news_of_block (heap_alloc_new wr _)) (QxC _ _ _) (by simp<;>omega) (wr.heap.size+1) (by simp) ?_;intro g9 aK w9 aC aA aE aU;have aV:=hid aC;have aH:=hid (J0q aA);have aT:=hid aE;have aG:=qjd aP HR.out HM.out HN.out HO.out.1 HX.out aH.out aV.out aT.out bQ.out;have aD:=hid aG;have q9:=(yNa HO.out HX.out aH.out).1;have r9:=(yNa HO.out HX.out aH.out).2;have aL:Below (w.heap.size+1) wr w9:=jbs ((Below.refl _ _).alloc aP _) (HX.out.alloc _) aH.out (by simp;omega);have aF:=aO.out _ aL;have aI:=aO.out _ (aL.setCell (p:=⟨g,m,none⟩) (HO.out.1.lt g rfl).1 (.slice (some ⟨g9,0,none⟩) (n0+1) aK))
      clear aC aA aE aG aL;refine hK.out _ _ aF (fun _=>?_);clear hK K;simp only [PS];refine TY 21 (.pointer (some ⟨g,m,none⟩)) rfl aF ?_;simp only [PS];refine RD 22 rfl (fun K hK=>?_);go_simp;refine hK.out _ _ aI (fun _=>?_);clear hK K;refine DN ?_;go_wp2;refine ⟨⟨k+1,by omega,by go_num,?_,aD.out.2⟩,by simp [intOf];omega⟩;rw [aZ.out];have e2:(s0,s1,false)=ZNW (rs.getD k (ByteArray.empty,ByteArray.empty)):=by rw [<-HS.out];rfl
      rw [<-e2];exact aD.out.1
     ·go_simp
      refine hK.out _ _ aJ (fun _=>?_);clear hK K;refine RD 5 rfl (fun K hK=>?_);go_simp;refine hK.out _ _ aJ (fun _=>?_);clear hK K;refine RD 20 rfl (fun K hK=>?_);refine SAL _ (by rfl) _ _ _ (by rfl) (w.heap.size+1) Tryz.underlying91 HI.out rfl (by omega) (.slice p n0 c9) n0 _ (by rfl) bU.out ⟨wr.heap.size,0,none⟩ 1 1 [.string s0,.string s1,.bool false] (by rfl) rfl (World.news_of_block (heap_alloc_new wr _)) (QxC _ _ _) (by simp<;>omega) (wr.heap.size+1) (by simp) ?_;intro g9 aK w9 aC aA aE aU;have aV:=hid aC;have aH:=hid (J0q aA);have aT:=hid aE;have aG:=qjd aP HR.out HM.out HN.out HO.out.1 HX.out aH.out aV.out aT.out bQ.out;have aD:=hid aG;have q9:=(yNa HO.out HX.out aH.out).1;have r9:=(yNa HO.out HX.out aH.out).2;have aL:Below (w.heap.size+1) wr w9:=jbs ((Below.refl _ _).alloc aP _) (HX.out.alloc _) aH.out (by simp;omega);have aF:=aO.out _ aL;have aI:=aO.out _ (aL.setCell (p:=⟨g,m,none⟩) (HO.out.1.lt g rfl).1 (.slice (some ⟨g9,0,none⟩) (n0+1) aK))
      clear aC aA aE aG aL;refine hK.out _ _ aF (fun _=>?_);clear hK K;simp only [PS];refine TY 21 (.pointer (some ⟨g,m,none⟩)) rfl aF ?_;simp only [PS];refine RD 22 rfl (fun K hK=>?_);go_simp;refine hK.out _ _ aI (fun _=>?_);clear hK K;refine DN ?_;go_wp2;refine ⟨⟨k+1,by omega,by go_num,?_,aD.out.2⟩,by simp [intOf];omega⟩;rw [aZ.out];have e2:(s0,s1,false)=ZNW (rs.getD k (ByteArray.empty,ByteArray.empty)):=by rw [<-HS.out];rfl
      rw [<-e2];exact aD.out.1
   ·have dI:k=rs.length:=by omega
    subst dI;go_wp2;go_ret;exact ⟨_,rfl,aW,((Below.refl _ _).alloc (Nat.le_refl _) _).trans (aN.mono (by omega))⟩
end Go.Proofs.YtcdojnnkjeakmaaGreatDoor
namespace Go.Proofs.YtcdojnnkjeakmaaGreatDoor
open Go.RowKit Go.Shelf
def KpC (n₀ Bs Bn:Nat) (A B:World):Prop:=Below n₀ A B/\B.cell? ⟨Bs,0,none⟩=A.cell? ⟨Bs,0,none⟩/\B.cell? ⟨Bn,0,none⟩=A.cell? ⟨Bn,0,none⟩
theorem KpC.t {n₀ Bs Bn:Nat} {A B C:World} (h:KpC n₀ Bs Bn A B) (k:KpC n₀ Bs Bn B C):KpC n₀ Bs Bn A C:=⟨h.1.trans k.1,k.2.1.trans h.2.1,k.2.2.trans h.2.2⟩
theorem KpC.b {n₀ Bs Bn:Nat} {w:World} (hn:n₀<=w.heap.size) (h1:Bs<w.heap.size) (h2:Bn<w.heap.size) (W:World) (l:Nat) (o o':Obj) (hl:w.heap.size<=l) (h:W.heap[l]?=some o) (hc:o.isCells=false) (hw:o.isWalk=false):KpC n₀ Bs Bn W (W.putObj l o') :=
 ⟨belowK_b hn W l o o' hl h hc hw,World.cell?_of_block (World.putObj_heap_other (by show Bs≠l;omega)),World.cell?_of_block (World.putObj_heap_other (by show Bn≠l;omega))⟩
theorem Bat.boxed {w:World} {base B:Nat} {v u z:Value} {aA:List (List Ch)} (h:Bat w base v aA) (hb:Boxed w B 152 u):Bat (w.setCell ⟨B,0,none⟩ z) base v aA:=by
 obtain ⟨vs,h1,h2,h3⟩:=h;refine ⟨vs,h1.kept (grownBy_setCell' w B z) (.inr fun e=>hb.not_row (by decide) h1 e.symm),fun i hi=>(h2 i hi).kept (grownBy_setCell' w B z) (.inr fun e=>hb.not_row (by decide) (h2 i hi) e.symm),h3⟩
theorem XQx {X Y:World} {row:Option Nat} {base:Nat} {e:TypeId} {s:Nat} {v:Value} {n:Nat} {xs:List Value} (h:X.ownsRow base e s v n xs) (hg:X.grownBy Y row) (hr:∀ r,row=some r->∃ o:Obj,X.heap[r]?=some o/\o.isCells=false):Y.ownsRow base e s v n xs:=by
 refine h.kept hg ?_;rcases h.2 with ⟨rfl,_⟩ | ⟨g,cap,aB,rfl,_,aA,_⟩
 ·exact .inl rfl
 ·refine .inr fun e'=>?_
  obtain ⟨o,ho,hc⟩:=hr g (by simpa [Value.ownBlock] using e'.symm)
  rw [aA] at ho;cases ho;cases hc
theorem ztc {X Y:World} {row:Option Nat} {B:Nat} {t:TypeId} {v:Value} (h:Boxed X B t v) (hg:X.grownBy Y row) (hr:∀ r,row=some r->∃ o:Obj,X.heap[r]?=some o/\o.isCells=false):Boxed Y B t v:=by
 refine h.kept hg fun e=>?_
 obtain ⟨o,ho,hc⟩:=hr B e.symm
 rw [show X.heap[B]?=_ from h] at ho;cases ho;cases hc
def InSn (n₀ B Bs Bn:Nat) (sv:Value) (aA:List (List Ch)) (W:World):Prop:=∃ v,Boxed W B 152 v/\Bat W n₀ v aA/\Boxed W Bs 55 sv/\Boxed W Bn 3 (.int .i64 20)
theorem InSn.own (n₀ B Bs Bn:Nat) (sv:Value) (f:List Nat->List (List Ch)):Own (fun pre W=>InSn n₀ B Bs Bn sv (f pre) W):=by
 rintro s X Y row ⟨v,hv,⟨vs,h1,h2,h3⟩,h4,h5⟩ hg hr;exact ⟨v,ztc hv hg hr,⟨vs,XQx h1 hg hr,fun i hi=>XQx (h2 i hi) hg hr,h3⟩,ztc h4 hg hr,ztc h5 hg hr⟩
theorem Jy4 {W W':World} (h:Below W.heap.size W W'):KeepsOthers W W':=⟨h.size,fun k o hk _=>(h.block k (Array.getElem?_eq_some_iff.1 hk).1).trans hk⟩
theorem InSn.push {W wr w1:World} {n₀ B Bs Bn:Nat} {sv v v' y:Value} {aB:List (List Ch)} {cs:List Ch} {vs:List Value} {aA:Obj} (hn:n₀<=W.heap.size) (hB:n₀<=B) (hv:Boxed W B 152 v) (h1:W.ownsRow n₀ 91 1 v aB.length vs) (h2:∀ i,i<aB.length->W.ownsRow n₀ 117 3 (vs.getD i nov) (aB.getD i []).length (jlM (aB.getD i [])))
  (h3:∀ i j k,i<j->j<aB.length->(vs.getD i nov).ownBlock=some k->(vs.getD j nov).ownBlock≠some k) (hs:Boxed W Bs 55 sv) (hm:Boxed W Bn 3 (.int .i64 20)) (aC:Below W.heap.size W wr)
  (hy:wr.ownsRow W.heap.size 117 3 y cs.length (jlM cs)) (ho:w1.ownsRow n₀ 91 1 v' (aB.length+1) (vs++[y])) (hg:(wr.alloc aA).grownBy w1 v.ownBlock) :
  Boxed w1 B 152 v/\InSn n₀ B Bs Bn sv (aB++[cs]) (w1.setCell ⟨B,0,none⟩ v')/\KeepsOthers W (w1.setCell ⟨B,0,none⟩ v')/\KpC n₀ Bs Bn W (w1.setCell ⟨B,0,none⟩ v'):=by
 have bx:∀ {b:Nat} {t:TypeId} {u:Value},Boxed W b t u->Boxed wr b t u:=fun h=>(aC.block _ h.lt).trans h
 have aD:=jcb h1 aC;have aE:Boxed w1 B 152 v:=((bx hv).alloc aA).kept hg ((bx hv).not_row (by decide) aD);have aK:Boxed w1 Bs 55 sv:=((bx hs).alloc aA).kept hg ((bx hs).not_row (by decide) aD);have aJ:Boxed w1 Bn 3 (.int .i64 20):=((bx hm).alloc aA).kept hg ((bx hm).not_row (by decide) aD)
 have aF:Bat w1 n₀ v' (aB++[cs]):=Bat.push (aD.alloc aA) (fun i hi=>(jcb (h2 i hi) aC).alloc aA) h3 ((zjg hy hn).alloc aA) (fun i k hi he e=>by
  have a1:=(h2 i hi).lt k he;have a2:=hy.lt k e
  omega) ho hg
 have ns:Bs≠B:=fun e=>by
  have:=(show W.heap[Bs]?=_ from hs);rw [e,show W.heap[B]?=_ from hv] at this;simp at this
 have nm:Bn≠B:=fun e=>by
  have:=(show W.heap[Bn]?=_ from hm);rw [e,show W.heap[B]?=_ from hv] at this;simp at this
 have aH:Boxed (w1.setCell ⟨B,0,none⟩ v') Bs 55 sv:=aK.kept (grownBy_setCell' w1 B v') (by simp [ns]);have aG:Boxed (w1.setCell ⟨B,0,none⟩ v') Bn 3 (.int .i64 20):=aJ.kept (grownBy_setCell' w1 B v') (by simp [nm]);refine ⟨aE,⟨v',aE.set v',aF.boxed aE,aH,aG⟩,?_,?_,aH.cell.trans hs.cell.symm,aG.cell.trans hm.cell.symm⟩
 ·refine (((Jy4 aC).trans (KeepsOthers.alloc _ aA)).trans (KeepsOthers.of_grownBy hg fun j o ej hj=>?_)).trans (KeepsOthers.setCell _ _ _)
  rcases (aD.alloc aA).2 with ⟨rfl,_⟩ | ⟨g,cap,aL,rfl,_,aI,_⟩
  ·simp [Value.ownBlock] at ej
  ·obtain rfl:g=j:=by simpa [Value.ownBlock] using ej
   rw [aI] at hj;cases hj;rfl
 ·refine ((((Below.refl n₀ W).trans (aC.mono hn)).alloc (by have:=aC.size;omega) aA).grown hg (by have:=aC.size;simp;omega) fun j ej=>?_).setCell (p:=⟨B,0,none⟩) hB v'
  exact (h1.lt j ej).1
theorem InSn.below {W W':World} {n₀ B Bs Bn:Nat} {sv:Value} {aA:List (List Ch)} (h:InSn n₀ B Bs Bn sv aA W) (hb:Below W.heap.size W W'):InSn n₀ B Bs Bn sv aA W':=by
 obtain ⟨v,hv,h1,h2,h3⟩:=h;exact ⟨v,(hb.block _ hv.lt).trans hv,h1.below hb,(hb.block _ h2.lt).trans h2,(hb.block _ h3.lt).trans h3⟩
end Go.Proofs.YtcdojnnkjeakmaaGreatDoor
