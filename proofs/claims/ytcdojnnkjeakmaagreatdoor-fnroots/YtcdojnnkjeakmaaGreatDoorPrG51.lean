import Derived.Test.YtcdojnnkjeakmaaGreatDoorPrRpS
import Derived.Test.YtcdojnnkjeakmaaGreatDoorPrG43
import Derived.Test.YtcdojnnkjeakmaaGreatDoorPrFbS
import Derived.Test.YtcdojnnkjeakmaaGreatDoorPrG53
import Derived.Test.YtcdojnnkjeakmaaGreatDoorPrDrvOf
set_option maxHeartbeats 16000000
set_option maxRecDepth 8000
set_option linter.unusedVariables false
set_option linter.unusedSimpArgs false
namespace Go.Proofs.YtcdojnnkjeakmaaGreatDoor
open Go.RowKit
theorem X8K (r:ByteArray):∀ y∈zFD r,0<=y/\y<=255:=by
 intro y hy;unfold zFD at hy;obtain ⟨c,_,rfl⟩:=List.mem_map.1 hy;have:=UInt8.toNat_lt c;omega
theorem yPC (b:ByteArray) (i j:Nat):zFD (b.extract i j)=((zFD b).take j).drop i:=by
 unfold zFD;rw [<-List.map_take,<-List.map_drop,ByteArray.data_extract,Array.toList_extract];simp [List.extract,List.drop_take]
theorem xOP:∀ (k:Nat) (ys:List Int),ys.length=k->(∀ y∈ys,0<=y/\y<=255)->0<=zMt ys/\zMt ys<(256:Int) ^ k:=by
 intro k
 induction k with
 | zero=>intro ys hl _;have:ys=[]:=List.eq_nil_of_length_eq_zero hl;subst this;simp [zMt]
 | succ k ih =>
  intro ys hl hy;have aA:ys≠[]:=by intro h;subst h;simp at hl
  have hd:=List.dropLast_concat_getLast aA;have h1:=ih ys.dropLast (by simp;omega) (fun y h=>hy y (List.dropLast_subset _ h));have h2:=hy _ (List.getLast_mem aA);rw [<-hd,yQg,Int.pow_succ];omega
theorem X9q (y:Int):zMt [y]=y:=by simp [zMt]
theorem q0q (s:ByteArray) (n:Nat) (hs:s.size=64) (h2:n<=8) {b:ByteArray} (hb:b=s.extract n 64) :
  (rpN b:Int)=zMt (((zFD s).drop (n+7)).take 1)/\rpK b=zMt (((zFD s).drop n).take 1)/\rpL b=zMt (((zFD s).drop (n+1)).take 2)/\rpM b=zMt (((zFD s).drop (n+3)).take 4)/\rpP b=strOfNums (((zFD s).drop (n+8)).take (rpN b)):=by
 have hn:zFD b=(zFD s).drop n:=by rw [hb,yPC,List.take_of_length_le (by rw [vgz];omega)]
 have aB:b.data.toList.length=64-n:=by have:=vgz s;have h:=congrArg List.length hn;rw [List.length_drop,vgz,vgz,hs] at h;exact h
 have aA:∀ i,i<64-n->zMt (((zFD s).drop (n+i)).take 1)=((b.data.toList.getD i 0).toNat:Int):=fun i hi=>by
  rw [<-List.drop_drop,<-hn];unfold zFD;rw [<-List.map_drop,<-List.map_take,List.drop_eq_getElem_cons (by omega)];simp only [List.take_succ_cons,List.take_zero,List.map_cons,List.map_nil,X9q];rw [List.getD_eq_getElem?_getD,List.getElem?_eq_getElem (by omega)];rfl
 refine ⟨?_,?_,?_,?_,?_⟩
 ·rw [aA 7 (by omega)];rfl
 ·have:=aA 0 (by omega);rw [Nat.add_zero] at this;rw [this];rfl
 ·unfold rpL;rw [yPC,hn];simp [List.drop_take,List.drop_drop]
 ·unfold rpM;rw [yPC,hn];simp [List.drop_take,List.drop_drop]
 ·unfold rpP
  rw [<-ZXs (b.extract 8 (8+rpN b)),yPC,hn];simp [List.drop_take,List.drop_drop]
abbrev RtT:=Int×Int×Int×Int
def ptH (p:ByteArray):Int:=zMt ((zFD p).take 1)
def ptF (p:ByteArray):Int:=zMt (((zFD p).drop 1).take 4)
def yVH (s:ByteArray) (a n:Int):Option RtT :=
 match Jvc s n with
 | none=>none
 | some (_,l,m,p)=>if p.size=5/\QCt m (ptH p) (ptF p) l n=s/\m % 2=a then some (m,ptH p,ptF p,l) else none
theorem v5k {s:ByteArray} {n k l m:Int} {p:ByteArray} (h:Jvc s n=some (k,l,m,p)):s.size=64/\ZQp k l m p n=s/\1<=m/\m<=1000000000/\1<=l/\l<=60000/\p.size<=64:=by
 unfold Jvc at h
 split at h
 ·rename_i hh
  obtain ⟨h1,h2,h3,h4,h5⟩:=hh;simp only [Option.some.injEq,Prod.mk.injEq] at h;obtain ⟨rfl,rfl,rfl,rfl⟩:=h;refine ⟨h3,h5,?_⟩
  have aA:Xhw (rpK (s.extract n.toNat 64)) (rpL (s.extract n.toNat 64)) (rpM (s.extract n.toNat 64)) (rpP (s.extract n.toNat 64)) n=true:=by
   cases hc:Xhw (rpK (s.extract n.toNat 64)) (rpL (s.extract n.toNat 64)) (rpM (s.extract n.toNat 64)) (rpP (s.extract n.toNat 64)) n with
   | true=>rfl
   | false =>
    exfalso;unfold ZQp at h5;rw [hc,if_neg (by simp)] at h5;rw [<-h5] at h3;exact absurd h3 (by decide)
  have hd:=of_decide_eq_true (by unfold Xhw at aA;exact aA);omega
 ·cases h
theorem ysk {s:ByteArray} {a n:Int} {x:RtT} (h:yVH s a n=some x):1<=x.1:=by
 unfold yVH at h
 split at h
 ·cases h
 ·rename_i k l m p hp
  split at h
  ·simp only [Option.some.injEq] at h
   subst h;exact (v5k hp).2.2.1
  ·cases h
def xBi (b:RtT) (o:Option RtT):RtT:=match o with
 | none=>b
 | some r=>if b.1<r.1 then r else b
def jkc (s0 s1:ByteArray) (n:Int):RtT:=xBi (xBi (0,0,1,0) (yVH s0 0 n)) (yVH s1 1 n)
def rtZ:RtT:=(0,0,0,0)
def JO4 (b r:RtT):RtT:=if b.1<r.1 then r else b
theorem j9W (s0 s1:ByteArray) (n:Int):(if JO4 (JO4 rtZ ((yVH s0 0 n).getD rtZ)) ((yVH s1 1 n).getD rtZ)=rtZ then ((0,0,1,0):RtT) else JO4 (JO4 rtZ ((yVH s0 0 n).getD rtZ)) ((yVH s1 1 n).getD rtZ))=jkc s0 s1 n:=by
 unfold jkc
 cases h0:yVH s0 0 n with
 | none =>
  cases h1:yVH s1 1 n with
  | none=>simp [JO4,rtZ,xBi]
  | some y =>
   have:=ysk h1;obtain ⟨y1,y2,y3,y4⟩:=y;have hy:(0:Int)<y1:=by show 0<y1;have:1<=y1:=this;omega
   have aE:¬ y1=0:=by omega
   simp [JO4,rtZ,xBi,hy,aE]
 | some x =>
  have aF:=ysk h0;obtain ⟨x1,x2,x3,x4⟩:=x;have hx:(0:Int)<x1:=by have:1<=x1:=aF;omega
  have aA:¬ x1=0:=by omega
  cases h1:yVH s1 1 n with
  | none =>
   have hl:¬ x1<0:=by omega
   simp [JO4,rtZ,xBi,hx,aA,hl]
  | some y =>
   have aD:=ysk h1;obtain ⟨y1,y2,y3,y4⟩:=y;have aB:¬ y1=0:=by have:1<=y1:=aD;omega
   by_cases aC:x1<y1
   ·simp [JO4,rtZ,xBi,hx,aA,aC,aB]
   ·simp [JO4,rtZ,xBi,hx,aA,aC,aB]
theorem kfv (s:ByteArray) (n:Int) (w:World) (hs:s.size<=1048576):Calls Tryz.prog 52 #[.string s,.int .i64 n] w fun e w'=>e=.returned (rpV (Jvc s n))/\Below w.heap.size w w':=by
 have aC:∀ o,Below w.heap.size w (w.alloc o):=fun o=>(Below.refl _ _).alloc (Nat.le_refl _) _
 by_cases hn:1<=n/\n<=8
 ·obtain ⟨m,rfl⟩:∃ m:Nat,n=(m:Int):=⟨n.toNat,by omega⟩
  have hd:decide (1<=(m:Int)/\(m:Int)<=8)=true:=by simp;omega
  by_cases aB:s.size=64
  ·by_cases hN:rpN (s.extract m 64)<=56-m
   ·exact ZYx s m w aB (by omega) (by omega) hN
   ·have HR:=jjQ (XRd (s:=s) (n:=(m:Int)) (fun hh=>hN (by have:=hh.2.2.2.1;rw [Int.toNat_natCast] at this;omega)))
    have aD:(s.size:Int)=64:=by omega
    obtain ⟨b,hb⟩:∃ b,s.extract m 64=b:=⟨_,rfl⟩;have aE:b.size=64-m:=by rw [<-hb];simp only [ByteArray.size_extract];omega
    obtain ⟨q,hq⟩:∃ q:Nat,b.size=q:=⟨_,rfl⟩;have l7:7<b.size:=by omega
    have g7:=zN1 b 7 l7;rw [hb] at hN;obtain ⟨N,aA⟩:∃ N,N=(b.data.toList.getD 7 0).toNat:=⟨_,rfl⟩;rw [<-aA] at g7;have aH:(64-(m:Int)-8)<(N:Int):=by have:rpN b=N:=aA.symm;omega
    have aI:N<=255:=by rw [aA];have:=UInt8.toNat_lt (b.data.toList.getD 7 0);omega
    have aF:(7:Int)<(q:Int):=by omega
    have aG:m+q=64:=by omega
    clear aE aA hN;go_enter Tryz.func52,Tryz.ntmps52
    go_wp2_with (first | (go_at_call 30;refine (X3C _ _).mono ?_;rw [hd];rintro e w2 ⟨rfl,rfl⟩) | (go_at_call 57;refine (XAP _ _ (by omega) (by omega)).mono ?_;rintro e w2 ⟨rfl,rfl⟩))
    refine bodyPost_ret (v:=.tuple #[QAw 0 0 0 ⟨#[]⟩,.bool false]) (by simp [results,Tryz.results52,go_sem]) rfl ⟨by rw [HR.out];rfl,?_⟩;exact aC _
  ·have HR:=jjQ (XRd (s:=s) (n:=(m:Int)) (fun hh=>aB hh.2.2.1))
   have aD:((s.size:Int) != 64)=true:=by simp;omega
   clear aB;go_enter Tryz.func52,Tryz.ntmps52
   go_wp2_with (first | (go_at_call 30;refine (X3C _ _).mono ?_;rw [hd];rintro e w2 ⟨rfl,rfl⟩))
   refine bodyPost_ret (v:=.tuple #[QAw 0 0 0 ⟨#[]⟩,.bool false]) (by simp [results,Tryz.results52,go_sem]) rfl ⟨by rw [HR.out];rfl,?_⟩;exact aC _
 ·have HR:=jjQ (XRd (s:=s) (n:=n) (fun hh=>hn ⟨hh.1,hh.2.1⟩))
  have hd:decide (1<=n/\n<=8)=false:=by simpa using hn
  clear hn;go_enter Tryz.func52,Tryz.ntmps52
  go_wp2_with (first | (go_at_call 30;refine (X3C _ _).mono ?_;rw [hd];rintro e w2 ⟨rfl,rfl⟩))
  refine bodyPost_ret (v:=.tuple #[QAw 0 0 0 ⟨#[]⟩,.bool false]) (by simp [results,Tryz.results52,go_sem]) rfl ⟨by rw [HR.out];rfl,?_⟩;exact aC _
theorem Q0t (v:Int) (h0:0<=v) (h1:v<256):zMt (be 1 v)=v:=by
 simp [be,List.range_succ,sh,zMt];omega
theorem vQT (v:Int) (h0:0<=v) (h1:v<65536):zMt (be 2 v)=v:=by
 simp [be,List.range_succ,sh,zMt];omega
theorem XUK (v:Int) (h0:0<=v) (h1:v<4294967296):zMt (be 4 v)=v:=by
 simp [be,List.range_succ,sh,zMt];omega
theorem zG9 (k l m:Int) (p:ByteArray) (n:Nat) (s:ByteArray) (hs:s.size=64) (hn:n<=8) (hp:p.size+n<=56) (aD:0<=k) (aB:k<256) (aF:0<=l) (aA:l<65536) (aC:0<=m) (aE:m<4294967296)
  (hb:(zFD s).drop n=Zah k l m p n) {b:ByteArray} (he:b=s.extract n 64):rpN b=p.size/\rpK b=k/\rpL b=l/\rpM b=m/\rpP b=p:=by
 obtain ⟨fN,fK,fL,fM,fP⟩:=q0q s n hs hn he
 have d:∀ i,(zFD s).drop (n+i)=(Zah k l m p n).drop i:=fun i=>by rw [<-hb,List.drop_drop]
 have l1:(be 1 k).length=1:=XHU _ _;have l2:(be 2 l).length=2:=XHU _ _;have l3:(be 4 m).length=4:=XHU _ _;have l4:(be 1 (p.size:Int)).length=1:=XHU _ _;have l5:(zFD p).length=p.size:=vgz p
 have eb:Zah k l m p n=be 1 k++(be 2 l++(be 4 m++(be 1 (p.size:Int)++(zFD p++List.replicate (56-n-p.size) 0)))):=by
  unfold Zah QKX;simp only [List.append_assoc]
 have d0:=d 0;rw [Nat.add_zero,List.drop_zero] at d0;have e1:(Zah k l m p n).drop 1=be 2 l++(be 4 m++(be 1 (p.size:Int)++(zFD p++List.replicate (56-n-p.size) 0))):=by rw [eb,List.drop_left' l1]
 have e3:(Zah k l m p n).drop 3=be 4 m++(be 1 (p.size:Int)++(zFD p++List.replicate (56-n-p.size) 0)):=by
  have:(Zah k l m p n).drop 3=((Zah k l m p n).drop 1).drop 2:=by rw [List.drop_drop]
  rw [this,e1,List.drop_left' l2]
 have e7:(Zah k l m p n).drop 7=be 1 (p.size:Int)++(zFD p++List.replicate (56-n-p.size) 0):=by
  have:(Zah k l m p n).drop 7=((Zah k l m p n).drop 3).drop 4:=by rw [List.drop_drop]
  rw [this,e3,List.drop_left' l3]
 have e8:(Zah k l m p n).drop 8=zFD p++List.replicate (56-n-p.size) 0:=by
  have:(Zah k l m p n).drop 8=((Zah k l m p n).drop 7).drop 1:=by rw [List.drop_drop]
  rw [this,e7,List.drop_left' l4]
 rw [d 7,e7,List.take_left' l4,Q0t _ (by omega) (by omega)] at fN;have hN:rpN b=p.size:=by omega
 rw [d0,eb,List.take_left' l1,Q0t _ aD aB] at fK;rw [d 1,e1,List.take_left' l2,vQT _ aF aA] at fL;rw [d 3,e3,List.take_left' l3,XUK _ aC aE] at fM;rw [d 8,e8,hN,List.take_left' l5,ZXs] at fP;exact ⟨hN,fK,fL,fM,fP⟩
theorem jpF (k l m:Int) (p:ByteArray) (n:Nat):(zFD (XQs k l m p n)).drop n=Zah k l m p n:=by
 unfold XQs;rw [Q5X,List.drop_left' (by rw [vgz,j6x]),XYX _ (Qgc k l m p n)]
theorem jAG (k l m:Int) (p:ByteArray) (n:Nat) (aA:Xhw k l m p (n:Int)=true):Jvc (XQs k l m p n) (n:Int)=some (k,l,m,p):=by
 have hd:=of_decide_eq_true (by unfold Xhw at aA;exact aA);obtain ⟨h1,h2,h3,h4,h5,h6,h7,h8,h9,_⟩:=hd;have hs:=X5y k l m p n (by omega);obtain ⟨a,b,c,d,e⟩:=zG9 k l m p n _ hs (by omega) (by omega) (by omega) (by omega) (by omega) (by omega) (by omega) (by omega) (jpF k l m p n) rfl;unfold Jvc;rw [Int.toNat_natCast,a,b,c,d,e];have hf:ZQp k l m p (n:Int)=XQs k l m p n:=by unfold ZQp;rw [aA,if_pos rfl,Int.toNat_natCast]
 rw [if_pos ⟨h1,h2,hs,by omega,hf⟩]
def yoh (wk wl k l:Int):Bool:=decide (wl<=l) && (if k=3 then decide (wk≠1) else (decide (k=1) || decide (k=2)) && (decide (wk≠1) || decide (wl=l)))
abbrev Scd:=List ByteArray×Int×Int
def vb3 (S:Nat->ByteArray) (frm:Nat) (first n:Int):Nat->Nat->Int->Int->ByteArray->Scd->Scd
 | 0,_,_,_,_,out=>out
 | f+1,i,wk,wl,op,out =>
  match Jvc (S (frm+i)) n with
  | none=>out
  | some (k,l,m,p)=>if IntKind.i64.wrap (m-(i:Int))=first/\yoh wk wl k l=true then
    (if k=1 then vb3 S frm first n f (i+1) k l (op++p) out
     else vb3 S frm first n f (i+1) k l ByteArray.empty (if k=2 then out.1++[op++p] else out.1,(i:Int)+1,l))
   else out
theorem kWh {S:Nat->ByteArray} {aA:Nat} {first n:Int} {f i:Nat} {wk wl:Int} {op:ByteArray} {out:Scd} (h:Jvc (S (aA+i)) n=none):vb3 S aA first n f i wk wl op out=out:=by
 cases f with
 | zero=>rfl
 | succ f=>rw [vb3,h]
theorem ZgQ {S:Nat->ByteArray} {aA:Nat} {first n:Int} {f i:Nat} {wk wl k l m:Int} {p op:ByteArray} {out:Scd} (h:Jvc (S (aA+i)) n=some (k,l,m,p)) (hn:¬ (IntKind.i64.wrap (m-(i:Int))=first/\yoh wk wl k l=true)):vb3 S aA first n f i wk wl op out=out:=by
 cases f with
 | zero=>rfl
 | succ f=>rw [vb3,h];simp only;rw [if_neg hn]
theorem ZDW {S:Nat->ByteArray} {aA:Nat} {first n:Int} {f i:Nat} {wk wl l m:Int} {p op:ByteArray} {out:Scd} (h:Jvc (S (aA+i)) n=some (1,l,m,p)) (hn:IntKind.i64.wrap (m-(i:Int))=first) (hg:yoh wk wl 1 l=true):vb3 S aA first n (f+1) i wk wl op out=vb3 S aA first n f (i+1) 1 l (op++p) out:=by
 rw [vb3,h];simp only;rw [if_pos ⟨hn,hg⟩,if_pos trivial]
theorem JRt {S:Nat->ByteArray} {aA:Nat} {first n:Int} {f i:Nat} {wk wl k l m:Int} {p op:ByteArray} {out:Scd} (h:Jvc (S (aA+i)) n=some (k,l,m,p)) (hn:IntKind.i64.wrap (m-(i:Int))=first) (hg:yoh wk wl k l=true) (hk:k≠1):vb3 S aA first n (f+1) i wk wl op out=vb3 S aA first n f (i+1) k l ByteArray.empty (if k=2 then out.1++[op++p] else out.1,(i:Int)+1,l):=by
 rw [vb3,h];simp only;rw [if_pos ⟨hn,hg⟩,if_neg hk]
theorem zjC (S:Nat->ByteArray) (aA:Nat) (first n:Int):∀ (f i:Nat) (wk wl:Int) (op:ByteArray) (out:Scd) (B:Nat),op.size+64*f<=B->(∀ e∈out.1,e.size<=B)->(∀ e∈(vb3 S aA first n f i wk wl op out).1,e.size<=B)/\(vb3 S aA first n f i wk wl op out).1.length<=out.1.length+f
 | 0,i,wk,wl,op,out,B,_,h2=>⟨h2,by simp [vb3]⟩
 | f+1,i,wk,wl,op,out,B,h1,h2=>by
  rw [vb3]
  split
  ·exact ⟨h2,by omega⟩
  ·rename_i k l m p hp
   have hps:=(v5k hp).2.2.2.2.2.2
   split
   ·split
    ·have:=zjC S aA first n f (i+1) k l (op++p) out B (by rw [ByteArray.size_append];omega) h2
     exact ⟨this.1,by omega⟩
    ·have:=zjC S aA first n f (i+1) k l ByteArray.empty (if k=2 then out.1++[op++p] else out.1,(i:Int)+1,l) B (by show 0+_<=_;omega) (by
      intro e he;simp only at he
      split at he
      ·rw [List.mem_append] at he
       rcases he with he | he
       ·exact h2 e he
       ·simp at he;subst he;rw [ByteArray.size_append];omega
      ·exact h2 e he)
     refine ⟨this.1,Nat.le_trans this.2 ?_⟩;simp only
     split
     ·simp;omega
     ·omega
   ·exact ⟨h2,by omega⟩
theorem qNA (S:Nat->ByteArray) (aA:Nat) (first n:Int):∀ (f i:Nat) (wk wl:Int) (op:ByteArray) (out:Scd),(0<=out.2.1/\out.2.1<=(i:Int))->0<=(vb3 S aA first n f i wk wl op out).2.1/\(vb3 S aA first n f i wk wl op out).2.1<=(i:Int)+f
 | 0,i,wk,wl,op,out,h=>by rw [vb3];omega
 | f+1,i,wk,wl,op,out,h=>by
  rw [vb3]
  split
  ·omega
  ·rename_i k l m p hp
   split
   ·split
    ·have:=qNA S aA first n f (i+1) k l (op++p) out (by omega)
     omega
    ·have:=qNA S aA first n f (i+1) k l ByteArray.empty (if k=2 then out.1++[op++p] else out.1,(i:Int)+1,l) (by show 0<=(i:Int)+1/\(i:Int)+1<=_;omega)
     omega
   ·omega
theorem vp8 (S:Nat->ByteArray) (aA:Nat) (first n:Int):∀ (f i:Nat) (wk wl:Int) (op:ByteArray) (out:Scd),(vb3 S aA first n f i wk wl op out).2.2=out.2.2\/(1<=(vb3 S aA first n f i wk wl op out).2.2/\(vb3 S aA first n f i wk wl op out).2.2<=60000)
 | 0,i,wk,wl,op,out=>.inl rfl
 | f+1,i,wk,wl,op,out=>by
  rw [vb3]
  split
  ·exact .inl rfl
  ·rename_i k l m p hp
   have hl:=v5k hp
   split
   ·split
    ·exact vp8 S aA first n f (i+1) k l (op++p) out
    ·rcases vp8 S aA first n f (i+1) k l ByteArray.empty (if k=2 then out.1++[op++p] else out.1,(i:Int)+1,l) with h | h
     ·right
      rw [h];show 1<=l/\l<=60000;omega
     ·exact .inr h
   ·exact .inl rfl
theorem q5R {w:World} {B:Nat} {e:TypeId} {size:Nat} {y:Value} {n b i:Nat} {xs:List Value} (h:w.ownsRow B e size y n xs) (aA:y.ownBlock≠some b) (u:Value):(w.setCell ⟨b,i,none⟩ u).ownsRow B e size y n xs:=ownsRow_setCell_other h aA u
theorem Xaw (X:World) (b:Nat) (hb:X.heap.size=b) (cs:Array Value) (t:TypeId):∀ j u,cs.toList[j]?=some u->(X.alloc (.cells cs t)).cell? ((⟨b,0,none⟩:Addr).add j)=some u:=by
 subst hb;exact World.news_of_block (heap_alloc_new X _)
theorem Qnj (s:ByteArray) (w:World) (hs:s.size<=1048576):Calls Tryz.prog 103 #[.string s] w fun e w'=>qdZ w w' e (yjX s):=by
 have cE:∀ o,Below w.heap.size w (w.alloc o):=fun o=>(Below.refl _ _).alloc (Nat.le_refl _) _
 obtain ⟨R,HR⟩:∃ R,Hid (R=yjX s):=⟨_,hid rfl⟩;rw [<-HR.out];obtain ⟨i0,bV,bW,aT,bU⟩:=qOH q3H;have HI:=hid (And.intro bV (And.intro bW (And.intro aT bU)));clear bV bW aT bU;go_enter Tryz.func103,Tryz.ntmps103;go_wp2_with fail;go_loopw [4,5] (fun y x wr=>∃ (j:Nat) (o:List Ch) (r:ByteArray),x=.string r/\j+o.length=21/\r.size<=1048576/\Hid (run j r o=run 21 s [])/\Hid (∀ z∈o,z.1.size<=1048576/\z.2.1.size<=1048576)/\wr.ownsRow w.heap.size 117 3 y o.length (jlM o)/\Below w.heap.size w wr) (fun _ x _=>match x with | .string r=>r.size | _=>0)
 case atStart=>exact ⟨21,[],s,rfl,rfl,hs,rfl,fun z hz=>(by simp at hz),World.ownsRow_lit _ #[] 0 (Nat.le_refl _) (by simp) (by simp),cE _⟩
 case round =>
  obtain ⟨j,o,r,rfl,hj,cH,aX,aP,aO,aL⟩:=hrel;obtain ⟨ya,yc,rfl,aU⟩:=XiI aO;have HO:=hid aO;have HB:=hid aL;have aG:=aL.size;have HC:=hid aU;clear aO aL aU
  have aH:(Value.slice ya o.length yc).ownBlock≠some wr.heap.size:=fun h=>by have:=(HO.out.lt _ h).2;omega
  have aW:Hid (run j r o=some (o,r))->Hid (R=if s.size≠0/\jvj o=s then some o else none):=fun hh=>by
   show _=_;have:=aX.out;rw [hh.out] at this;rw [HR.out];unfold yjX;rw [<-this]
  by_cases h0:0<(r.size:Int)
  ·by_cases hl:(o.length:Int)<=20
   ·obtain ⟨j',rfl⟩:∃ j',j=j'+1:=⟨j-1,by omega⟩
    have aB:=aX.out;rw [run,if_neg (by omega)] at aB;have hg:=q8F r (by omega);obtain ⟨b,hb⟩:∃ b,b=b0 r:=⟨_,rfl⟩;have cF:b<=255:=by rw [hb];exact Q10 r
    rw [<-hb] at hg;have aJ:(r.extract 1 r.size).size<=1048576:=by simp only [ByteArray.size_extract];omega
    clear aW
    cases hp:pc (r.extract 1 r.size) with
    | none =>
     have HP:=hid (Qg6 hp)
     have HF:Hid (R=none):=by
      show _=_;have e:stp r=none:=by unfold stp;rw [hp]
      rw [e] at aB;rw [HR.out];unfold yjX;rw [<-aB]
     clear hp hb aB
     by_cases bC:b=1
     ·subst bC
      go_wp2_with (go_at_call 107;refine (xsP _ _ aJ).mono ?_;rw [HP.out];rintro e w2 ⟨rfl,aA⟩;have aE:=aA.size;simp only [World.size_alloc,World.size_setCell] at aE;have c0:w2.cell? ⟨wr.heap.size,0,none⟩=some (.string ⟨#[]⟩):=(aA.cell (p:=⟨wr.heap.size,0,none⟩) (by simp<;>omega)).trans (by go_simp);have aR:w2.frozen? ⟨wr.heap.size,0,none⟩=false:=(aA.frozen (p:=⟨wr.heap.size,0,none⟩) (by simp<;>omega)).trans (by go_simp);have c1:w2.cell? ⟨wr.heap.size,1,none⟩=some (.string ⟨#[]⟩):=(aA.cell (p:=⟨wr.heap.size,1,none⟩) (by simp<;>omega)).trans (by go_simp);have aQ:w2.frozen? ⟨wr.heap.size,1,none⟩=false:=(aA.frozen (p:=⟨wr.heap.size,1,none⟩) (by simp<;>omega)).trans (by go_simp);have c2:w2.cell? ⟨wr.heap.size,2,none⟩=some (.bool true):=(aA.cell (p:=⟨wr.heap.size,2,none⟩) (by simp<;>omega)).trans (by go_simp);have aS:w2.frozen? ⟨wr.heap.size,2,none⟩=false:=(aA.frozen (p:=⟨wr.heap.size,2,none⟩) (by simp<;>omega)).trans (by go_simp);have aI:=hid (HB.out.trans ((bs0 aA).mono aG));have aK:=hid (jcb (HO.out.alloc _) aA);clear aA)
      go_ret2;rw [HF.out];exact ZZy rfl (aI.out.alloc (by omega) _)
     ·have aA:((b:Int) == 1)=false:=by simp;omega
      go_wp2_with (go_at_call 107;refine (xsP _ _ aJ).mono ?_;rw [HP.out];rintro e w2 ⟨rfl,aA⟩;have aE:=aA.size;simp only [World.size_alloc,World.size_setCell] at aE;have c0:w2.cell? ⟨wr.heap.size,0,none⟩=some (.string ⟨#[]⟩):=(aA.cell (p:=⟨wr.heap.size,0,none⟩) (by simp<;>omega)).trans (by go_simp);have aR:w2.frozen? ⟨wr.heap.size,0,none⟩=false:=(aA.frozen (p:=⟨wr.heap.size,0,none⟩) (by simp<;>omega)).trans (by go_simp);have c1:w2.cell? ⟨wr.heap.size,1,none⟩=some (.string ⟨#[]⟩):=(aA.cell (p:=⟨wr.heap.size,1,none⟩) (by simp<;>omega)).trans (by go_simp);have aQ:w2.frozen? ⟨wr.heap.size,1,none⟩=false:=(aA.frozen (p:=⟨wr.heap.size,1,none⟩) (by simp<;>omega)).trans (by go_simp);have c2:w2.cell? ⟨wr.heap.size,2,none⟩=some (.bool false):=(aA.cell (p:=⟨wr.heap.size,2,none⟩) (by simp<;>omega)).trans (by go_simp);have aS:w2.frozen? ⟨wr.heap.size,2,none⟩=false:=(aA.frozen (p:=⟨wr.heap.size,2,none⟩) (by simp<;>omega)).trans (by go_simp);have aI:=hid (HB.out.trans ((bs0 aA).mono aG));have aK:=hid (jcb (HO.out.alloc _) aA);clear aA)
      go_ret2;rw [HF.out];exact ZZy rfl (aI.out.alloc (by omega) _)
    | some p =>
     obtain ⟨k,m⟩:=p;have HP:=hid (xMB hp);have b8:m.size<=1048576:=by have:=QAD hp;simp only [ByteArray.size_extract] at this;omega
     by_cases bC:b=1
     ·have e:stp r=some ((k,ByteArray.empty,true),m):=by unfold stp;rw [hp];simp only;rw [if_pos (by omega)]
      obtain ⟨q1,q2,q3⟩:=qGp (by omega) e;rw [e] at aB;have bG:Hid (run j' m (o++[(k,ByteArray.empty,true)])=run 21 s []):=aB;simp only at q2 q3;clear hp hb aB e;subst bC
      go_wp2_with (first | (go_at_call 107;refine (xsP _ _ aJ).mono ?_;rw [HP.out];rintro e w2 ⟨rfl,aA⟩;have aE:=aA.size;simp only [World.size_alloc,World.size_setCell] at aE;have c0:w2.cell? ⟨wr.heap.size,0,none⟩=some (.string ⟨#[]⟩):=(aA.cell (p:=⟨wr.heap.size,0,none⟩) (by simp<;>omega)).trans (by go_simp);have aR:w2.frozen? ⟨wr.heap.size,0,none⟩=false:=(aA.frozen (p:=⟨wr.heap.size,0,none⟩) (by simp<;>omega)).trans (by go_simp);have c1:w2.cell? ⟨wr.heap.size,1,none⟩=some (.string ⟨#[]⟩):=(aA.cell (p:=⟨wr.heap.size,1,none⟩) (by simp<;>omega)).trans (by go_simp);have aQ:w2.frozen? ⟨wr.heap.size,1,none⟩=false:=(aA.frozen (p:=⟨wr.heap.size,1,none⟩) (by simp<;>omega)).trans (by go_simp);have c2:w2.cell? ⟨wr.heap.size,2,none⟩=some (.bool true):=(aA.cell (p:=⟨wr.heap.size,2,none⟩) (by simp<;>omega)).trans (by go_simp);have aS:w2.frozen? ⟨wr.heap.size,2,none⟩=false:=(aA.frozen (p:=⟨wr.heap.size,2,none⟩) (by simp<;>omega)).trans (by go_simp);have aI:=hid (HB.out.trans ((bs0 aA).mono aG));have aK:=hid (jcb (HO.out.alloc _) aA);clear aA) | (at_builtin;refine WAL _ rfl _ _ 91 rfl w.heap.size Tryz.underlying91 HI.out rfl (by omega) _ o.length _ rfl ((q5R aK.out aH (.string k)).alloc (.cells #[.string k,.string ⟨#[]⟩,.bool true] 117)) ⟨w2.heap.size,0,none⟩ 1 1 [.string k,.string ⟨#[]⟩,.bool true] rfl rfl (Xaw _ _ (by simp) _ _) (keR _ _ _) (by simp;omega) (w2.heap.size+1) (by simp) ?_;intro ga cap w7 aF aC aM bI;have bH:=hid aF;have aZ:=hid (QUO ((aI.out.setCell (p:=⟨wr.heap.size,0,none⟩) aG (.string k)).alloc (by simp;omega) _) ((q5R aK.out aH (.string k)).alloc _) aC (by simp;omega));clear aF aC aM))
      refine ⟨⟨j',o++[(k,ByteArray.empty,true)],m,rfl,by simp;omega,by omega,bG.out,fun z hz=>?_,?_,aZ.out⟩,by simp only;omega⟩
      ·rcases List.mem_append.1 hz with hz | hz
       ·exact aP.out z hz
       ·simp at hz;subst hz;exact ⟨by simp only;omega,by simp only;first | omega | simp⟩
      ·rw [ysK,List.length_append];exact bH.out
     ·have aA:((b:Int) == 1)=false:=by simp;omega
      have aV:m.size<=1048576:=b8
      cases hq:pc m with
      | none =>
       have HQ:=hid (Qg6 hq)
       have HF:Hid (R=none):=by
        show _=_;have e:stp r=none:=by unfold stp;rw [hp];simp only;rw [if_neg (by omega),hq]
        rw [e] at aB;rw [HR.out];unfold yjX;rw [<-aB]
       clear hp hq hb aB
       go_wp2_with (first | (have _g:=aI;go_at_call 107;refine (xsP _ _ aV).mono ?_;rw [HQ.out];rintro e w3 ⟨rfl,aD⟩;have aN:=aD.size;simp only [World.size_alloc,World.size_setCell] at aN;have d0:w3.cell? ⟨wr.heap.size,0,none⟩=some (.string k):=(aD.cell (p:=⟨wr.heap.size,0,none⟩) (by simp<;>omega)).trans (by go_simp);have cC:w3.frozen? ⟨wr.heap.size,0,none⟩=false:=(aD.frozen (p:=⟨wr.heap.size,0,none⟩) (by simp<;>omega)).trans (by go_simp);have d1:w3.cell? ⟨wr.heap.size,1,none⟩=some (.string ⟨#[]⟩):=(aD.cell (p:=⟨wr.heap.size,1,none⟩) (by simp<;>omega)).trans (by go_simp);have b7:w3.frozen? ⟨wr.heap.size,1,none⟩=false:=(aD.frozen (p:=⟨wr.heap.size,1,none⟩) (by simp<;>omega)).trans (by go_simp);have d2:w3.cell? ⟨wr.heap.size,2,none⟩=some (.bool false):=(aD.cell (p:=⟨wr.heap.size,2,none⟩) (by simp<;>omega)).trans (by go_simp);have bY:w3.frozen? ⟨wr.heap.size,2,none⟩=false:=(aD.frozen (p:=⟨wr.heap.size,2,none⟩) (by simp<;>omega)).trans (by go_simp);have bQ:=hid ((aI.out.setCell (p:=⟨wr.heap.size,0,none⟩) aG (.string k)).trans (aD.mono (by simp<;>omega)));have bJ:=hid (jcb (q5R aK.out aH (.string k)) aD);clear aD c0 c1 c2 aR aQ aS) | (go_at_call 107;refine (xsP _ _ aJ).mono ?_;rw [HP.out];rintro e w2 ⟨rfl,aA⟩;have aE:=aA.size;simp only [World.size_alloc,World.size_setCell] at aE;have c0:w2.cell? ⟨wr.heap.size,0,none⟩=some (.string ⟨#[]⟩):=(aA.cell (p:=⟨wr.heap.size,0,none⟩) (by simp<;>omega)).trans (by go_simp);have aR:w2.frozen? ⟨wr.heap.size,0,none⟩=false:=(aA.frozen (p:=⟨wr.heap.size,0,none⟩) (by simp<;>omega)).trans (by go_simp);have c1:w2.cell? ⟨wr.heap.size,1,none⟩=some (.string ⟨#[]⟩):=(aA.cell (p:=⟨wr.heap.size,1,none⟩) (by simp<;>omega)).trans (by go_simp);have aQ:w2.frozen? ⟨wr.heap.size,1,none⟩=false:=(aA.frozen (p:=⟨wr.heap.size,1,none⟩) (by simp<;>omega)).trans (by go_simp);have c2:w2.cell? ⟨wr.heap.size,2,none⟩=some (.bool false):=(aA.cell (p:=⟨wr.heap.size,2,none⟩) (by simp<;>omega)).trans (by go_simp);have aS:w2.frozen? ⟨wr.heap.size,2,none⟩=false:=(aA.frozen (p:=⟨wr.heap.size,2,none⟩) (by simp<;>omega)).trans (by go_simp);have aI:=hid (HB.out.trans ((bs0 aA).mono aG));have aK:=hid (jcb (HO.out.alloc _) aA);clear aA))
       go_ret2;rw [HF.out];exact ZZy rfl (bQ.out.alloc (by omega) _)
      | some q =>
       obtain ⟨v,m'⟩:=q;have HQ:=hid (xMB hq);have e:stp r=some ((k,v,false),m'):=by unfold stp;rw [hp];simp only;rw [if_neg (by omega),hq]
       obtain ⟨q1,q2,q3⟩:=qGp (by omega) e;rw [e] at aB;have bG:Hid (run j' m' (o++[(k,v,false)])=run 21 s []):=aB;simp only at q2 q3;clear hp hq hb aB e
       go_wp2_with (first | (have _g:=aI;go_at_call 107;refine (xsP _ _ aV).mono ?_;rw [HQ.out];rintro e w3 ⟨rfl,aD⟩;have aN:=aD.size;simp only [World.size_alloc,World.size_setCell] at aN;have d0:w3.cell? ⟨wr.heap.size,0,none⟩=some (.string k):=(aD.cell (p:=⟨wr.heap.size,0,none⟩) (by simp<;>omega)).trans (by go_simp);have cC:w3.frozen? ⟨wr.heap.size,0,none⟩=false:=(aD.frozen (p:=⟨wr.heap.size,0,none⟩) (by simp<;>omega)).trans (by go_simp);have d1:w3.cell? ⟨wr.heap.size,1,none⟩=some (.string ⟨#[]⟩):=(aD.cell (p:=⟨wr.heap.size,1,none⟩) (by simp<;>omega)).trans (by go_simp);have b7:w3.frozen? ⟨wr.heap.size,1,none⟩=false:=(aD.frozen (p:=⟨wr.heap.size,1,none⟩) (by simp<;>omega)).trans (by go_simp);have d2:w3.cell? ⟨wr.heap.size,2,none⟩=some (.bool false):=(aD.cell (p:=⟨wr.heap.size,2,none⟩) (by simp<;>omega)).trans (by go_simp);have bY:w3.frozen? ⟨wr.heap.size,2,none⟩=false:=(aD.frozen (p:=⟨wr.heap.size,2,none⟩) (by simp<;>omega)).trans (by go_simp);have bQ:=hid ((aI.out.setCell (p:=⟨wr.heap.size,0,none⟩) aG (.string k)).trans (aD.mono (by simp<;>omega)));have bJ:=hid (jcb (q5R aK.out aH (.string k)) aD);clear aD c0 c1 c2 aR aQ aS) | (go_at_call 107;refine (xsP _ _ aJ).mono ?_;rw [HP.out];rintro e w2 ⟨rfl,aA⟩;have aE:=aA.size;simp only [World.size_alloc,World.size_setCell] at aE;have c0:w2.cell? ⟨wr.heap.size,0,none⟩=some (.string ⟨#[]⟩):=(aA.cell (p:=⟨wr.heap.size,0,none⟩) (by simp<;>omega)).trans (by go_simp);have aR:w2.frozen? ⟨wr.heap.size,0,none⟩=false:=(aA.frozen (p:=⟨wr.heap.size,0,none⟩) (by simp<;>omega)).trans (by go_simp);have c1:w2.cell? ⟨wr.heap.size,1,none⟩=some (.string ⟨#[]⟩):=(aA.cell (p:=⟨wr.heap.size,1,none⟩) (by simp<;>omega)).trans (by go_simp);have aQ:w2.frozen? ⟨wr.heap.size,1,none⟩=false:=(aA.frozen (p:=⟨wr.heap.size,1,none⟩) (by simp<;>omega)).trans (by go_simp);have c2:w2.cell? ⟨wr.heap.size,2,none⟩=some (.bool false):=(aA.cell (p:=⟨wr.heap.size,2,none⟩) (by simp<;>omega)).trans (by go_simp);have aS:w2.frozen? ⟨wr.heap.size,2,none⟩=false:=(aA.frozen (p:=⟨wr.heap.size,2,none⟩) (by simp<;>omega)).trans (by go_simp);have aI:=hid (HB.out.trans ((bs0 aA).mono aG));have aK:=hid (jcb (HO.out.alloc _) aA);clear aA) | (at_builtin;refine WAL _ rfl _ _ 91 rfl w.heap.size Tryz.underlying91 HI.out rfl (by omega) _ o.length _ rfl ((q5R bJ.out aH (.string v)).alloc (.cells #[.string k,.string v,.bool false] 117)) ⟨w3.heap.size,0,none⟩ 1 1 [.string k,.string v,.bool false] rfl rfl (Xaw _ _ (by simp) _ _) (keR _ _ _) (by simp;omega) (w3.heap.size+1) (by simp) ?_;intro ga cap w7 aF aC aM bI;have bH:=hid aF;have aZ:=hid (QUO ((bQ.out.setCell (p:=⟨wr.heap.size,1,none⟩) aG (.string v)).alloc (by simp;omega) _) ((q5R bJ.out aH (.string v)).alloc _) aC (by simp;omega));clear aF aC aM))
       refine ⟨⟨j',o++[(k,v,false)],m',rfl,by simp;omega,by omega,bG.out,fun z hz=>?_,?_,aZ.out⟩,by simp only;omega⟩
       ·rcases List.mem_append.1 hz with hz | hz
        ·exact aP.out z hz
        ·simp at hz;subst hz;exact ⟨by simp only;omega,by simp only;first | omega | simp⟩
       ·rw [ysK,List.length_append];exact bH.out
   ·have bZ:j=0:=by omega
    subst bZ;have HF:=aW rfl;clear aW aX
    by_cases hz:s.size=0
    ·have aT:((s.size:Int) == 0)=true:=by rw [beq_iff_eq];omega
     rw [if_neg (fun hh=>hh.1 hz)] at HF;go_wp2;go_ret2;rw [HF.out];exact ZZy rfl (HB.out.alloc aG _)
    ·have aT:((s.size:Int) == 0)=false:=by rw [beq_eq_false_iff_ne];omega
     by_cases hF:jvj o=s
     ·rw [if_pos ⟨hz,hF⟩] at HF
      have aY:=hid hF;clear hF;go_wp2_with (go_at_call 77;refine (Qqx _ o _ _ HC.out (by omega) aP.out).mono ?_;rw [aY.out];rintro e w2 ⟨rfl,aA⟩);go_ret2;rw [HF.out];exact zVX (jcb HO.out aA) rfl (HB.out.trans (aA.mono aG))
     ·rw [if_neg (fun hh=>hF hh.2)] at HF
      obtain ⟨G,HG⟩:∃ G,Hid (G=jvj o):=⟨_,hid rfl⟩;have hG:(!G.toList == s.toList)=true:=by rw [HG.out];simp only [Bool.not_eq_true',beq_eq_false_iff_ne];intro hh;rw [ByteArray.toList_eq,ByteArray.toList_eq] at hh;exact hF (ByteArray.ext (Array.ext' hh))
      clear hF;go_wp2_with (go_at_call 77;refine (Qqx _ o _ _ HC.out (by omega) aP.out).mono ?_;rw [<-HG.out];rintro e w2 ⟨rfl,aA⟩);go_ret2;rw [HF.out];exact ZZy rfl ((HB.out.trans (aA.mono aG)).alloc (by have:=aA.size;omega) _)
  ·have HF:=aW (by show _=_;exact Jpl _ _ _ (by omega))
   clear aW aX
   by_cases hz:s.size=0
   ·have aT:((s.size:Int) == 0)=true:=by rw [beq_iff_eq];omega
    rw [if_neg (fun hh=>hh.1 hz)] at HF;go_wp2;go_ret2;rw [HF.out];exact ZZy rfl (HB.out.alloc aG _)
   ·have aT:((s.size:Int) == 0)=false:=by rw [beq_eq_false_iff_ne];omega
    by_cases hF:jvj o=s
    ·rw [if_pos ⟨hz,hF⟩] at HF
     have aY:=hid hF;clear hF;go_wp2_with (go_at_call 77;refine (Qqx _ o _ _ HC.out (by omega) aP.out).mono ?_;rw [aY.out];rintro e w2 ⟨rfl,aA⟩);go_ret2;rw [HF.out];exact zVX (jcb HO.out aA) rfl (HB.out.trans (aA.mono aG))
    ·rw [if_neg (fun hh=>hF hh.2)] at HF
     obtain ⟨G,HG⟩:∃ G,Hid (G=jvj o):=⟨_,hid rfl⟩;have hG:(!G.toList == s.toList)=true:=by rw [HG.out];simp only [Bool.not_eq_true',beq_eq_false_iff_ne];intro hh;rw [ByteArray.toList_eq,ByteArray.toList_eq] at hh;exact hF (ByteArray.ext (Array.ext' hh))
     clear hF;go_wp2_with (go_at_call 77;refine (Qqx _ o _ _ HC.out (by omega) aP.out).mono ?_;rw [<-HG.out];rintro e w2 ⟨rfl,aA⟩);go_ret2;rw [HF.out];exact ZZy rfl ((HB.out.trans (aA.mono aG)).alloc (by have:=aA.size;omega) _)
theorem Q18 (y b:Int) (aA:0<=y) (aB:y<=1099511627776) (aD:0<=b) (aC:b<=255):bits .or .u64 (IntKind.u64.wrap (y*256)) (IntKind.u64.wrap b)=y*256+b:=by
 rw [khQ _ (by omega) (by omega),khQ _ (by omega) (by omega)];obtain ⟨Y,rfl⟩:∃ Y:Nat,y=(Y:Int):=⟨y.toNat,by omega⟩;obtain ⟨C,rfl⟩:∃ C:Nat,b=(C:Int):=⟨b.toNat,by omega⟩;have e:((Y:Int)*256)=((256*Y:Nat):Int):=by omega
 rw [e,bits_or_u64_nat _ _ (by omega) (by omega)];have:=Nat.two_pow_add_eq_or_of_lt (i:=8) (b:=C) (by omega) Y;simp only [Nat.reducePow] at this;rw [<-this];omega
theorem x9G (s:ByteArray) (ty:TypeId) (v:Value) (w:World) (hv:w.cell? ⟨1,0,none⟩=some (.iface ty v)):Calls Tryz.prog 97 #[.string s] w fun e w'=>e=.returned (.iface 145 (.pointer (some ⟨w.heap.size,0,none⟩)))/\w'=w.alloc (.cells #[.string s,.iface ty v] 181):=by
 go_enter Tryz.func97,Tryz.ntmps97;go_wp2;go_ret;exact ⟨rfl,rfl⟩
theorem JER (F o:Nat) (ys:List Int) (c:Nat) (w:World) (hr:∀ y∈ys,0<=y/\y<=255) (hl:ys.length<=4) (hc:∀ i,i<ys.length->w.cell? ⟨F,o+i,none⟩=some (.int .u8 (ys.getD i 0))):Calls Tryz.prog 68 #[.slice (some ⟨F,o,none⟩) ys.length c] w fun e w'=>e=.returned (.int .u64 (zMt ys))/\w'=w:=by
 have HC:=jjQ hc;clear hc;go_enter Tryz.func68,Tryz.ntmps68;go_wp2;go_loop [3,5,8] (fun x _ i=>∃ (k:Nat) (y:Int),k<=ys.length/\i=.int .i64 (k:Int)/\x=.int .u64 y/\Hid (y=zMt (ys.take k))/\0<=y/\Hid (y<(256:Int) ^ k)) (fun _ _ i=>ys.length-(intOf i).toNat)
 case atStart=>exact ⟨0,0,Nat.zero_le _,rfl,rfl,by show _=_;simp [zMt],by omega,by show _<_;simp⟩
 case round =>
  obtain ⟨k,y,hk,rfl,rfl,HY,aG,aD⟩:=hrel
  by_cases aA:k<ys.length
  ·have aE:=HC.out k aA
   obtain ⟨b,hb⟩:∃ b,ys.getD k 0=b:=⟨_,rfl⟩;rw [hb] at aE;obtain ⟨aK,aI⟩:0<=b/\b<=255:=by rw [<-hb];exact hr _ (by simp [List.getD,aA])
   have aJ:(k:Int)<(ys.length:Int):=by omega
   have aC:(256:Int) ^ k<=16777216:=by
    have:k=0\/k=1\/k=2\/k=3:=by omega
    rcases this with h | h | h | h<;>rw [h]<;>decide
   have HN:Hid (y*256+b=zMt (ys.take (k+1))):=by
    show _=_;rw [List.take_succ_eq_append_getElem aA,yQg,<-HY.out,<-hb];simp [List.getD,aA]
   have aB:=Q18 y b aG (by have:=aD.out;omega) aK aI;have aH:Hid (bits .or .u64 (IntKind.u64.wrap (y*256)) b=y*256+b):=by show _=_;rw [khQ b (by omega) (by omega)] at aB;exact aB
   have aF:0<=y*256+b:=by omega
   clear aB;have H3:Hid (y*256+b<(256:Int) ^ (k+1)):=by show _<_;rw [Int.pow_succ];have:=aD.out;omega
   clear hb aC;go_wp2;go_round
   case rel=>exact ⟨k+1,y*256+b,by omega,by go_num,congrArg _ aH.out,HN.out,aF,H3.out⟩
   case measure=>simp [intOf];omega
  ·go_wp2
   go_ret;refine ⟨vj3 ?_,rfl⟩;rw [HY.out,List.take_of_length_le (by omega)]
def prV (E:Addr) (o:Option (Int×Int×Int×ByteArray)):Value:=match o with
 | none=>.tuple #[QAw 0 0 0 ⟨#[]⟩,.iface 145 (.pointer (some E))]
 | some (k,l,m,p)=>.tuple #[QAw k l m p,.nilIface]
theorem zPV (F:Nat) (xs:List Int) (hr:Hid (∀ y∈xs,0<=y/\y<=255)) (o k c:Nat) (hk:k<=4) (ho:o+k<=xs.length) (w:World) (hf:Fm w F xs) (V:Int) (hV:V=zMt ((xs.drop o).take k)):Calls Tryz.prog 68 #[.slice (some ⟨F,o,none⟩) k c] w fun e w'=>e=.returned (.int .u64 V)/\w'=w:=by
 have hl:((xs.drop o).take k).length=k:=by simp;omega
 have h:=JER F o ((xs.drop o).take k) c w (fun y hy=>hr.out y (List.mem_of_mem_drop (List.mem_of_mem_take hy))) (by omega) (fun i hi=>by
  rw [hf.cell (o+i) (by omega)];rw [hl] at hi
  simp [List.getD,List.getElem?_take_of_lt hi,List.getElem?_drop])
 rw [hl,<-hV] at h;exact h
theorem vle (s:ByteArray) (n:Int) (w:World) (ty:TypeId) (v:Value) (hv:w.cell? ⟨1,0,none⟩=some (.iface ty v)) (hg:1<w.heap.size) (hn:¬ (1<=n/\n<=8)):Calls Tryz.prog 85 #[.string s,.int .i64 n] w fun e w'=>(∃ E,e=.returned (prV E none))/\Below w.heap.size w w':=by
 have hd:decide (1<=n/\n<=8)=false:=by simpa using hn
 have aB:∀ o o',Below w.heap.size w ((w.alloc o).alloc o'):=fun o o'=>((Below.refl _ _).alloc (Nat.le_refl _) _).alloc (by simp) _
 have aA:∀ o,(w.alloc o).cell? ⟨1,0,none⟩=some (.iface ty v):=fun o=>(World.cell?_alloc_past _ _ _ (by exact hg)).trans hv
 clear hn;go_enter Tryz.func85,Tryz.ntmps85
 go_wp2_with (first | (go_at_call 25;refine (jnI _ _).mono ?_;rw [hd];rintro e w2 ⟨rfl,rfl⟩) | (go_at_call 97;refine (x9G _ ty v _ (aA _)).mono ?_;rintro e w2 ⟨rfl,rfl⟩))
 refine bodyPost_ret (v:=.tuple #[QAw 0 0 0 ⟨#[]⟩,.iface 145 (.pointer (some ⟨w.heap.size+1,0,none⟩))]) (by simp [results,Tryz.results85,go_sem]) rfl ⟨⟨_,rfl⟩,?_⟩;exact aB _ _
theorem v8A (s:ByteArray) (n:Int) (w:World) (ty:TypeId) (v:Value) (hv:w.cell? ⟨1,0,none⟩=some (.iface ty v)) (hg:1<w.heap.size) (hn:1<=n/\n<=8) (hs:s.size≠64):Calls Tryz.prog 85 #[.string s,.int .i64 n] w fun e w'=>(∃ E,e=.returned (prV E none))/\Below w.heap.size w w':=by
 have hd:decide (1<=n/\n<=8)=true:=by simpa using hn
 have aC:((s.size:Int) != 64)=true:=by simp;omega
 have aB:∀ o o',Below w.heap.size w ((w.alloc o).alloc o'):=fun o o'=>((Below.refl _ _).alloc (Nat.le_refl _) _).alloc (by simp) _
 have aA:∀ o,(w.alloc o).cell? ⟨1,0,none⟩=some (.iface ty v):=fun o=>(World.cell?_alloc_past _ _ _ (by exact hg)).trans hv
 clear hn hs;go_enter Tryz.func85,Tryz.ntmps85
 go_wp2_with (first | (go_at_call 25;refine (jnI _ _).mono ?_;rw [hd];rintro e w2 ⟨rfl,rfl⟩) | (go_at_call 97;refine (x9G _ ty v _ (aA _)).mono ?_;rintro e w2 ⟨rfl,rfl⟩))
 refine bodyPost_ret (v:=.tuple #[QAw 0 0 0 ⟨#[]⟩,.iface 145 (.pointer (some ⟨w.heap.size+1,0,none⟩))]) (by simp [results,Tryz.results85,go_sem]) rfl ⟨⟨_,rfl⟩,?_⟩;exact aB _ _
structure RB (W w:World):Prop where
 size:W.heap.size+1<=w.heap.size
 bel:Below W.heap.size W w
 c0:w.cell? ⟨W.heap.size,0,none⟩=some (.int .i64 0)
 c1:w.cell? ⟨W.heap.size,1,none⟩=some (.int .i64 0)
 c2:w.cell? ⟨W.heap.size,2,none⟩=some (.int .i64 0)
 c3:w.cell? ⟨W.heap.size,3,none⟩=some (.string ⟨#[]⟩)
 f0:w.frozen? ⟨W.heap.size,0,none⟩=false
 f1:w.frozen? ⟨W.heap.size,1,none⟩=false
 f2:w.frozen? ⟨W.heap.size,2,none⟩=false
 f3:w.frozen? ⟨W.heap.size,3,none⟩=false
theorem RB.below {W w w':World} (h:RB W w) (hb:Below w.heap.size w w'):RB W w':=by
 have hs:=h.size
 have hc:∀ i,w'.cell? ⟨W.heap.size,i,none⟩=w.cell? ⟨W.heap.size,i,none⟩:=fun i=>hb.cell (p:=⟨W.heap.size,i,none⟩) (by show W.heap.size<_;omega)
 have hf:∀ i,w'.frozen? ⟨W.heap.size,i,none⟩=w.frozen? ⟨W.heap.size,i,none⟩:=fun i=>hb.frozen (p:=⟨W.heap.size,i,none⟩) (by show W.heap.size<_;omega)
 exact ⟨Nat.le_trans hs hb.size,h.bel.trans (hb.mono (by omega)),(hc _).trans h.c0,(hc _).trans h.c1,(hc _).trans h.c2,(hc _).trans h.c3,(hf _).trans h.f0,(hf _).trans h.f1,(hf _).trans h.f2,(hf _).trans h.f3⟩
theorem RB.drew {W w:World} (h:RB W w):RB W w.drew:=⟨h.size,h.bel.drew,h.c0,h.c1,h.c2,h.c3,h.f0,h.f1,h.f2,h.f3⟩
theorem RB.alloc {W w:World} (h:RB W w) (o:Obj):RB W (w.alloc o):=h.below ((Below.refl _ _).alloc (Nat.le_refl _) _)
theorem RB.new (W:World) (t:TypeId):RB W (W.alloc (.cells #[.int .i64 0,.int .i64 0,.int .i64 0,.string ⟨#[]⟩] t)):=by
 refine ⟨by simp,(Below.refl _ _).alloc (Nat.le_refl _) _,?_,?_,?_,?_,?_,?_,?_,?_⟩<;>first | (simp;done) | (rw [frozen?_alloc_cells];exact jWQ _ _ _ (Nat.le_refl _))
theorem XsM (s:ByteArray) (ty:TypeId) (v:Value) (w:World) (hv:w.cell? ⟨1,0,none⟩=some (.iface ty v)):Calls Tryz.prog 97 #[.string s] w fun e w'=>(∃ E,e=.returned (.iface 145 (.pointer (some E))))/\Below w.heap.size w w' :=
 (x9G s ty v w hv).mono fun e w' h=>⟨⟨_,h.1⟩,by rw [h.2];exact (Below.refl _ _).alloc (Nat.le_refl _) _⟩
set_option maxRecDepth 4000 in
theorem Xs2 (s:ByteArray) (n N:Nat) (w:World) (ty:TypeId) (v:Value) (hv:w.cell? ⟨1,0,none⟩=some (.iface ty v)) (hg:1<w.heap.size) (hs:s.size=64) (h1:1<=n) (h2:n<=8) (hN:(N:Int)=zMt (((zFD s).drop (n+7)).take 1)) (aU:56<N+n) (aV:N<=255):Calls Tryz.prog 85 #[.string s,.int .i64 (n:Int)] w fun e w'=>(∃ E,e=.returned (prV E none))/\Below w.heap.size w w':=by
 have hd:decide (1<=(n:Int)/\(n:Int)<=8)=true:=by simp;omega
 have aR:(s.size:Int)=64:=by omega
 have aT:∀ o,Below w.heap.size w (w.alloc o):=fun o=>(Below.refl _ _).alloc (Nat.le_refl _) _
 have aH:∀ w',Below w.heap.size w w'->w'.cell? ⟨1,0,none⟩=some (.iface ty v):=fun w' hb=>(hb.cell (p:=⟨1,0,none⟩) hg).trans hv
 obtain ⟨xs,HX⟩:∃ xs,Hid (xs=zFD s):=⟨_,jjQ rfl⟩;have aB:xs.length=64:=by rw [HX.out,vgz];exact hs
 have aS:(xs.map (Value.int .u8)).toArray.size=64:=by simp [aB]
 have aN:Hid (∀ y∈xs,0<=y/\y<=255):=by rw [HX.out];exact X8K s
 have HS:=jjQ hs;clear hs
 have aK:=fun g wx=>xXI (P:=Tryz.prog) (t:=86) Tryz.underlying86 (fun _=>by kernel_rfl) g 0 n (by omega) .i64 (n:Int) rfl wx
 obtain ⟨q,hq⟩:∃ q,64-n=q:=⟨_,rfl⟩;rw [hq] at aK;have aP:(8:Int)<=(q:Int):=by omega
 have aO:(7:Int)<=(q:Int):=by omega
 have HN:Hid ((N:Int)=zMt ((xs.drop (n+7)).take 1)):=by rw [HX.out];exact jjQ hN
 clear hN;have aQ:(64-(n:Int)-8)<(N:Int):=by omega
 go_enter Tryz.func85,Tryz.ntmps85
 go_wp2_with (first | (go_at_call 25;refine (jnI _ _).mono ?_;rw [hd];rintro e w2 ⟨rfl,rfl⟩) | (go_at_call 55;refine (qHH _ _ (by omega) (by omega)).mono ?_;rintro e w3 ⟨rfl,rfl⟩) | (go_at_call 48;refine (jsf s _ HS.out).mono ?_;rw [<-HX.out];rintro e w2 ⟨rfl,aC⟩;have aI:=jjQ ((RB.new w _).below aC);clear aC) | (refine jY1 rfl 86 _ _ rfl xs rfl rfl _ _ (.int .u8 0) (by rw [aB];rfl) (by rw [aB];kernel_rfl) ?_;intro wx aD aE aL;have aM:=jjQ aD;clear aD;have aG:=jjQ (aI.out.below aE);clear aE aL) | (go_at_call 68;refine (zPV w2.heap.size xs aN (n+7) 1 _ (by omega) (by omega) _ aM.out (N:Int) HN.out).mono ?_;rintro e w3 ⟨rfl,rfl⟩) | (go_at_call 97;refine (XsM _ ty v _ (aH _ aG.out.bel)).mono ?_;rintro e w4 ⟨⟨E,rfl⟩,aF⟩;have aA:=aG.out.below aF;clear aF;have c0:=aA.c0;have c1:=aA.c1;have c2:=aA.c2;have c3:=aA.c3;have f0:=aA.f0;have f1:=aA.f1;have f2:=aA.f2;have f3:=aA.f3;have aJ:=jjQ aA;clear aA))
 refine bodyPost_ret (v:=.tuple #[QAw 0 0 0 ⟨#[]⟩,.iface 145 (.pointer (some E))]) (by simp [results,Tryz.results85,go_sem,c0,c1,c2,c3]) rfl ⟨⟨E,rfl⟩,?_⟩;exact (((aJ.out.bel.setCell (Nat.le_refl _) _).setCell (Nat.le_refl _) _).setCell (Nat.le_refl _) _).setCell (Nat.le_refl _) _
def zFG:List (Int×List Int)->List (List Int)->List (List Int)
 | [],ps=>ps
 | x::r,ps=>zFG r (ps.set x.1.toNat x.2)
theorem JGl:∀ (hs:List (Int×List Int)) (ps:List (List Int)),(zFG hs ps).length=ps.length
 | [],_=>rfl
 | x::r,ps=>by rw [zFG,JGl r];simp
theorem jhN:∀ (hs:List (Int×List Int)) (x:Int×List Int) (ps:List (List Int)),zFG (hs++[x]) ps=(zFG hs ps).set x.1.toNat x.2
 | [],_,_=>rfl
 | y::r,x,ps=>by rw [List.cons_append,zFG,jhN r];rfl
theorem J0p (hs:List (Int×List Int)) (ps:List (List Int)) (k:Nat) (h:k<hs.length):zFG (hs.take (k+1)) ps=(zFG (hs.take k) ps).set (hs.getD k (0,[])).1.toNat (hs.getD k (0,[])).2:=by
 rw [List.take_succ_eq_append_getElem h,jhN];simp [List.getD,h]
theorem Xs5 (k:Nat) (a:Option Addr) (n c:Nat) (w:World):Sem.run Tryz.prog (method (k+1) 69 (.slice a n c) "loop.example/kilnstone/impl.read") w=.ok (128,.slice a n c) w:=by kernel_rfl
theorem ZXb (k:Nat) (v v':Value) (w:World):Sem.run Tryz.prog (method (k+1) 103 (.agg #[v,v']) "loop.example/kilnstone/impl.read") w=.ok (129,.agg #[v,v']) w:=by kernel_rfl
set_option maxRecDepth 100000 in
theorem qCy (a:Option Addr) (hs:List (Int×List Int)) (c:Nat) (g n cg m:Nat) (ps:List (List Int)) (w:World) (h:Hld w a hs) (bG:∀ p∈hs,p.2.length=64) (aL:∀ p∈hs,0<=p.1) (hl:hs.length<=300) (hp:PR w g ps) (aR:ps.length=n) (aU:n<=200) (hm:m<n) :
  Calls Tryz.prog 129 #[.agg #[.slice a hs.length c,.iface 69 (.slice (some ⟨g,0,none⟩) n cg)],.int .i64 (m:Int)] w fun e w'=>e=.returned (.tuple #[.agg (((zFG hs ps).getD m []).map (Value.int .u8)).toArray,.bool true])/\Below w.heap.size w w':=by
 obtain ⟨aA,aE⟩:∃ aA,Hid (aA=(zFG hs ps).getD m []):=⟨_,hid rfl⟩;rw [<-aE.out]
 have aX:∀ o1 o2,Below w.heap.size w ((w.alloc o1).alloc o2):=fun o1 o2=>((Below.refl _ _).alloc (Nat.le_refl _) _).alloc (by simp) _
 go_enter Tryz.func129,Tryz.ntmps129;go_wp2_with fail;obtain ⟨wy,aJ⟩:∃ wy,wy=((w.alloc (.cells #[.slice a hs.length c,.iface 69 (.slice (some ⟨g,0,none⟩) n cg)] 103)).alloc (.cells Zsw 86)):=⟨_,rfl⟩;have aH:=aX (.cells #[.slice a hs.length c,.iface 69 (.slice (some ⟨g,0,none⟩) n cg)] 103) (.cells Zsw 86);have aN:=(Cx.new w (.slice a hs.length c) (.iface 69 (.slice (some ⟨g,0,none⟩) n cg)) 103).below (zE5 _ (.cells Zsw 86));have aM:=kR4 (w.alloc (.cells #[.slice a hs.length c,.iface 69 (.slice (some ⟨g,0,none⟩) n cg)] 103)) Zsw 86 (w.heap.size+1) (by simp);rw [<-aJ] at aH aN aM;go_loopw [6] (fun i wr=>∃ k:Nat,k<=hs.length/\i=.int .i64 ((k:Int)-1)/\Hid (aA=(zFG (hs.take k) ps).getD m [])/\wr=wy) (fun i _=>((intOf i)+1).toNat)
 case atStart=>exact ⟨hs.length,Nat.le_refl _,rfl,by show _=_;rw [List.take_length,aE.out],by rw [aJ];kernel_rfl⟩
 case round =>
  obtain ⟨k,hk,rfl,HK,rfl⟩:=hrel;have q0:=aN.c0;have q1:=aN.c1;have aQ:=hid aM;have aO:=hid aH;clear aM aJ;rcases k with _ | j
  ·have aP:=hp.below aH
   have aT:=fun k=>Xs5 k (some ⟨g,0,none⟩) n cg wr
   have aC:aA.length=64:=by rw [HK.out];exact yEE hp.len (by omega)
   have aF:(aA.map (Value.int .u8)).toArray.size=64:=by simp [aC]
   have aB:Hid ((Tryz.prog.info? 86).map (·.size)=some (aA.map (Value.int .u8)).length):=by show _=_;rw [List.length_map,aC];kernel_rfl
   have aK:Hid (ps.getD m []=aA):=HK.out.symm;go_wp2_with fail;refine (vmc g n cg m ps _ aP aR aU hm).mono ?_;rw [aK.out];rintro e w2 ⟨rfl,aI⟩;have aG:=(aQ.out.below aI).there (n:=64) (by kernel_rfl);have aS:=hid (Below.then aO.out (Nat.le_refl _) aI);clear aI aP aT q0 q1;go_wp2_with (with_reducible refine JWC 86 _ _ rfl ?_;refine wpList_store_mid rfl 86 _ _ rfl (w.heap.size+1) 0 (aA.map (Value.int .u8)).toArray rfl rfl (by rw [aF];exact aG) (by rw [aF];kernel_rfl) (all_oneCell_toArray (xgE aA)) ?_);refine bodyPost_ret (v:=.tuple #[.agg (aA.map (Value.int .u8)).toArray,.bool true]) (z3W (p:=4) (u:=5) Tryz.results129 _ _ (w.heap.size+1) 0 rfl (aA.map (Value.int .u8)) _ (World.rangeAt_setCells_same _ _ _ _ (by rw [List.length_map,aC];exact aG)) Tryz.underlying86 rfl aB.out) rfl ⟨rfl,?_⟩;exact Go.below_setCells (by omega) _ _ _ aS.out
  ·have hj:j<hs.length:=by omega
   obtain ⟨b,o,m0,x,rfl,bI,aD,HX⟩:=(h.below aH).at hj;have aC:x.length=64:=bG (m0,x) (by rw [HX.out];simp [List.getD,hj]);have bC:=aD 0 _ rfl;rw [Nat.add_zero] at bC;have e1:((j+1:Nat):Int)-1=(j:Int):=by omega
   rw [e1];clear e1
   by_cases aY:m0=(m:Int)
   ·subst aY
    have aW:m<(zFG (hs.take j) ps).length:=by rw [JGl];omega
    have aK:Hid (x=aA):=by
     show _=_;rw [HK.out,J0p hs ps j hj,<-HX.out,Int.toNat_natCast];simp [List.getD,aW]
    rw [aK.out] at aD aC;have aF:(aA.map (Value.int .u8)).toArray.size=64:=by simp [aC]
    have aB:Hid ((Tryz.prog.info? 86).map (·.size)=some (aA.map (Value.int .u8)).length):=by show _=_;rw [List.length_map,aC];kernel_rfl
    have bH:Hid (wr.rangeAt b (o+j*65+1) (aA.map (Value.int .u8))):=fun i v hv=>by
     have:=aD (i+1) v (by simpa using hv);rw [<-this];congr 2;omega
    have aG:=aQ.out.there (n:=64) (by kernel_rfl);clear aD
    go_wp2_with (first | (with_reducible refine kVP 86 _ rfl ?_;refine wpList_load_mid rfl 86 _ rfl b (o+j*65+1) rfl (aA.map (Value.int .u8)) _ bH.out Tryz.underlying86 rfl aB.out ?_) | (with_reducible refine JWC 86 _ _ rfl ?_;refine wpList_store_mid rfl 86 _ _ rfl (w.heap.size+1) 0 (aA.map (Value.int .u8)).toArray rfl rfl (by rw [aF];exact aG) (by rw [aF];kernel_rfl) (all_oneCell_toArray (xgE aA)) ?_))
    refine bodyPost_ret (v:=.tuple #[.agg (aA.map (Value.int .u8)).toArray,.bool true]) (z3W (p:=4) (u:=5) Tryz.results129 _ _ (w.heap.size+1) 0 rfl (aA.map (Value.int .u8)) _ (World.rangeAt_setCells_same _ _ _ _ (by rw [List.length_map,aC];exact aG)) Tryz.underlying86 rfl aB.out) rfl ⟨rfl,?_⟩;exact Go.below_setCells (by omega) _ _ _ aO.out
   ·have aZ:Hid (aA=(zFG (hs.take j) ps).getD m []):=by
     show _=_;rw [HK.out,J0p hs ps j hj,<-HX.out];have h0:0<=m0:=aL (m0,x) (by rw [HX.out];simp [List.getD,hj]);have aV:m0.toNat≠m:=by omega
     simp [List.getD,List.getElem?_set_ne aV]
    clear aD;go_wp2;go_roundw
    case rel=>exact ⟨j,by omega,by go_num,aZ,trivial⟩
    case measure=>simp [intOf]
theorem Q4v:∀ (hs:List (Int×List Int)) (ps:List (List Int)),(∀ p∈hs,p.2.length=64)->(∀ p∈ps,p.length=64)->∀ p∈zFG hs ps,p.length=64
 | [],ps,_,h=>h
 | x::r,ps,h1,h2=>Q4v r _ (fun p hp=>h1 p (List.mem_cons_of_mem _ hp)) (fun p hp=>by
  rcases List.mem_or_eq_of_mem_set hp with h3 | h3
  ·exact h2 p h3
  ·rw [h3];exact h1 x (List.mem_cons_self ..))
theorem XLu:∀ (ws:List (Int×ByteArray)) (ss:List ByteArray),q95 (zFG (ZiU ws) (ss.map zFD))=xhE ws ss
 | [],ss=>by
  show (ss.map zFD).map strOfNums=ss;rw [List.map_map];exact List.map_id'' (fun s=>ZXs s) ss
 | x::r,ss=>by
  have:=XLu r (ss.set x.1.toNat x.2);rw [List.map_set] at this;exact this
end Go.Proofs.YtcdojnnkjeakmaaGreatDoor
