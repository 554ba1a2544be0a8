import Derived.Test.YtmlejnbjclkdjaaGreatDoorPrG41
set_option maxHeartbeats 16000000
set_option maxRecDepth 8000
set_option linter.all false
namespace Go.Proofs.YtmlejnbjclkdjaaGreatDoor
open _root_.ByteArray(empty)
open Tryz
open Go.RowKit
variable {lf nm wd:Int}{base g:Nat}{v:Nc}{w w':Nb}
theorem jv(w:Nb)(A:Array Nc)(t:TypeId)(g:Nat)(a:g=w.heap.size):Row (w.alloc (.cells A t)) g A.toList:=by subst a;exact MT w A t
structure Wo where
 w:Int
 ss:List Y
 ws:List (Int×Y)
 up:Bool
 W:Int
 S:Int
 L:Int
 T:Int
 H:Int
 F:Int
 R:Int
 U:Int
 O:Int
 rs:List (Y×Y)
 P:List (List (Y×Y))
 ts:List Y
structure Wp where
 a:M6
 c:Nat
 a':M6
 c':Nat
 s:M6
 cs:Nat
 p:M6
 cp:Nat
 t:M6
 ct:Nat
def MB(x:Wo)(q:Wp):Nc:=.agg #[.int .i64 x.w,.slice q.a x.ss.length q.c,.slice q.a' x.ws.length q.c',M0 x.up,.int .i64 x.W,.int .i64 x.S,.int .i64 x.L,.int .i64 x.T,.int .i64 x.H,.int .i64 x.F,.int .i64 x.R,.int .i64 x.U,.int .i64 x.O,.slice q.s x.rs.length q.cs,.slice q.p x.P.length q.cp,.slice q.t x.ts.length q.ct]
structure Wo.at(x:Wo)(w:Nb)(q:Wp):Prop where
 h1:Strs w q.a x.ss
 h2:Wrs w q.a' x.ws
 h3:Prs w q.s x.rs
 h4:Pst w q.p x.P
 h5:Strs w q.t x.ts
theorem Wo.at.I{x:Wo}{q:Wp}(h:x.at w q)(a:Below w.heap.size w w'):x.at w' q:=⟨h.h1.I a,h.h2.I a,h.h3.I a,h.h4.I a,h.h5.I a⟩
structure Wo.le(x:Wo)(m:Nat):Prop where
 l1:x.ss.length<=m
 s1:∀s∈x.ss,s.size<=m
 l2:x.ws.length<=m
 s2:∀s∈x.ws,s.2.size<=m
 l3:x.rs.length<=m
 s3:∀s∈x.rs,s.1.size<=m/\s.2.size<=m
 l4:x.P.length<=m
 s4:∀rs∈x.P,rs.length<=m/\∀s∈rs,s.1.size<=m/\s.2.size<=m
 l5:x.ts.length<=m
 s5:∀s∈x.ts,s.size<=m
@[reducible] def wA(x:Wo)(q:Wp):Array Nc:=#[.int .i64 x.w,.slice q.a x.ss.length q.c,.slice q.a' x.ws.length q.c',M0 x.up,.int .i64 x.W,.int .i64 x.S,.int .i64 x.L,.int .i64 x.T,.int .i64 x.H,.int .i64 x.F,.int .i64 x.R,.int .i64 x.U,.int .i64 x.O,.slice q.s x.rs.length q.cs,.slice q.p x.P.length q.cp,.slice q.t x.ts.length q.ct]
@[reducible] def wL(x:Wo)(q:Wp):List Nc:=[.int .i64 x.w,.slice q.a x.ss.length q.c,.slice q.a' x.ws.length q.c',M0 x.up,.int .i64 x.W,.int .i64 x.S,.int .i64 x.L,.int .i64 x.T,.int .i64 x.H,.int .i64 x.F,.int .i64 x.R,.int .i64 x.U,.int .i64 x.O,.slice q.s x.rs.length q.cs,.slice q.p x.P.length q.cp,.slice q.t x.ts.length q.ct]
def QZ(x:Wo):Bool:=decide (x.W=0/\x.S=0/\x.L=0/\(x.T=0/\x.H=0/\x.F=0/\x.R=0)/\x.U=0/\x.O=0/\x.rs.length=0)
def QU(x:Wo):Bool:=if x.up=true then OB x.W x.S x.L x.T x.H x.F x.R x.U x.O x.rs && decide (x.W=x.w/\x.S=(x.ss.length:Int)) else QZ x
def QR(P:List (List (Y×Y))):Bool:=decide (1<=P.length/\P.length<=200) && P.all MU
def RV(a:List Y):Bool:=decide (a.length<=2000) && a.all λs=>decide (s.size=64)
def NI(x:Wo):Bool:=decide (1<=x.w/\x.w<=8) && (LE x.ss x.ws && (QU x && (QR x.P && RV x.ts)))
theorem yT(a:M6)(P:List (List (Y×Y)))(c:Nat)(w:Nb)(h:Pst w a P)(J:P.length<=1048576)(A:∀d∈P,d.length<=1048576/\∀s∈d,s.1.size<=1048576/\s.2.size<=1048576):Calls prog 59 #[.slice a P.length c] w λe w'=>e=M3 (M0 (QR P))/\Below w.heap.size w w':=by
 by_cases i:P.length<1
 ·have e:QR P=false:=by unfold QR;rw[AI ω];rfl
  rw[e];have D:(P.length:Int)<1:=ω
  go_enter func59,ntmps59;go_wp2;go_ret;exact⟨rfl,AB _ _⟩
 have D:¬(P.length:Int)<1:=ω
 by_cases j:200<P.length
 ·have e:QR P=false:=by unfold QR;rw[AI ω];rfl
  rw[e];have E:(200:Int)<(P.length:Int):=ω
  go_enter func59,ntmps59;go_wp2;go_ret;exact⟨rfl,AB _ _⟩
 have E:¬(200:Int)<(P.length:Int):=ω
 have u:Hid (∀k,k<P.length->MU (P.getD k [])=false->QR P=false):=λk f b=>by
  unfold QR;have:P.all MU=false:=GE.2 ⟨P.getD k [],by simp[List.getD,f],by rw[b];simp⟩;rw[this,IQ]
 have y:Hid ((∀k,k<P.length->MU (P.getD k [])=true)->QR P=true):=λb=>by
  unfold QR;rw[AL ω,IJ]
  refine EH.2 λd l=>?_
  obtain⟨k,f,rfl⟩:=EN l;have:=b k f;simpa[List.getD,f] using this
 obtain⟨B,C⟩:∃B,Hid (B=QR P):=⟨_,Z rfl⟩;rw[<-C.l]at u y⊢;clear i j;go_enter func59,ntmps59;go_wp2;go_loopw [4,15] (λ_ i wr=>∃k:Nat,k<=P.length/\i=.int .i64 (k:Int)/\Hid (∀j,j<k->MU (P.getD j [])=true)/\Below w.heap.size w wr) (λ_ i _=>P.length-(intOf i).toNat)
 case atStart=>exact⟨0,AM _,rfl,λj s=>absurd s ω,AB _ _⟩
 case round =>
  obtain⟨k,f,rfl,t,l⟩:=hrel
  by_cases r:k<P.length
  ·obtain⟨b,o,p,G,rfl,I,F,x⟩:=(h.I l).at r
   obtain⟨d,n⟩:∃d,Hid (d=P.getD k []):=⟨_,Z rfl⟩;rw[<-n.l]at F x;have z:d∈P:=by rw[n.l];simp[List.getD,r]
   have i:=Z (λm=>mu p d G (wr.alloc m) (x.l.I (LD _ _)) (A d z).1 (A d z).2);have m:=Z l;clear l
   cases hst:MU d with
   | false =>
    rw[hst]at i;obtain rfl:B=false:=u.l k r (by rw[<-n.l];exact hst);go_wp2_with (go_at_call 112;refine(i.l _).z ?_;rintro e H ⟨rfl,q⟩);go_ret;exact⟨rfl,m.l.j (((LD wr _).j (q.z σ)).z m.l.size)⟩
   | true =>
    rw[hst]at i;go_wp2_with (go_at_call 112;refine(i.l _).z ?_;rintro e H ⟨rfl,q⟩);go_roundw
    case rel=>exact⟨k+1,ω,ν,λj s=>by
     by_cases e:j=k
     ·subst e;rw[<-n.l];exact hst
     exact t.l j ω,m.l.j (((LD wr _).j (q.z σ)).z m.l.size)⟩
    case measure=>simp[intOf];omega
  obtain rfl:B=true:=y.l (λj s=>t.l j ω)
  go_wp2;go_ret;exact⟨rfl,l⟩
theorem Dy(a:M6)(d:List Y)(c:Nat)(w:Nb)(h:Strs w a d)(C:d.length<=1048576)(y:∀s∈d,s.size<=1048576):Calls prog 60 #[.slice a d.length c] w λe w'=>e=M3 (M0 (RV d))/\Below w.heap.size w w':=by
 by_cases i:2000<d.length
 ·have e:RV d=false:=by unfold RV;rw[AI ω];rfl
  rw[e];have x:(2000:Int)<(d.length:Int):=ω
  go_enter func60,ntmps60;go_wp2;go_ret;exact⟨rfl,AB _ _⟩
 have x:¬(2000:Int)<(d.length:Int):=ω
 have p:Hid (∀k,k<d.length->¬(d.getD k empty).size=64->RV d=false):=λk f b=>by
  unfold RV;have:(d.all λs=>decide (s.size=64))=false:=GE.2 ⟨d.getD k empty,by simp[List.getD,f],by simpa using b⟩;rw[this,IQ]
 have q:Hid ((∀k,k<d.length->(d.getD k empty).size=64)->RV d=true):=λb=>by
  unfold RV;rw[AL ω,IJ]
  refine EH.2 λs j=>?_
  obtain⟨k,f,rfl⟩:=EN j;have:=b k f;simpa[List.getD,f] using this
 obtain⟨B,t⟩:∃B,Hid (B=RV d):=⟨_,Z rfl⟩;rw[<-t.l]at p q⊢;clear i;go_enter func60,ntmps60;go_wp2;go_loopw [4,10] (λ_ i wr=>∃k:Nat,k<=d.length/\i=.int .i64 (k:Int)/\Hid (∀j,j<k->(d.getD j empty).size=64)/\wr=w) (λ_ i _=>d.length-(intOf i).toNat)
 case atStart=>exact⟨0,AM _,rfl,λj m=>absurd m ω,rfl⟩
 case round =>
  obtain⟨k,f,rfl,n,rfl⟩:=hrel
  by_cases l:k<d.length
  ·obtain⟨b,o,s,rfl,A,i⟩:=h.at l
   have z:=y s (by rw[i.l];simp[List.getD,l])
   by_cases r:s.size=64
   ·have u:(s.size:Int)=64:=ω
    go_wp2;go_roundw
    case rel=>exact⟨k+1,ω,ν,λj m=>by
     by_cases e:j=k
     ·subst e;rw[<-i.l];exact r
     exact n.l j ω,by first|rfl|trivial⟩
    case measure=>simp[intOf];omega
   have u:¬(s.size:Int)=64:=ω
   obtain rfl:B=false:=p.l k l (by rw[<-i.l];exact r);go_wp2;go_ret;exact⟨rfl,AB _ _⟩
  obtain rfl:B=true:=q.l (λj m=>n.l j ω)
  go_wp2;go_ret;exact⟨rfl,AB _ _⟩
def RQ(W S L T H F R U O:Int)(a:List Pr):Dd:=if OB W S L T H F R U O a=true then ⟨0,W,S,L,T,H,F,R,U,0,a,[(true,0,empty)]⟩ else LX 1
theorem Hm(W S L T H F R U O:Int)(a:M6)(d:List Pr)(c:Nat)(w:Nb)(h:Prs w a d)(u:d.length<=1048576)(z:∀x∈d,x.1.size<=1048576/\x.2.size<=1048576):Calls prog 130 #[NK W S L T H F R U O a d.length c] w λx w'=>UH w w' x (RQ W S L T H F R U O d):=by
 have f:=Z (λw' b=>km W S L T H F R U O a d c w' b u z);have p:=Z h;clear h z;obtain⟨o,n⟩:∃D,Hid (D=RQ W S L T H F R U O d):=⟨_,Z rfl⟩;rw[<-n.l];unfold NK at f⊢;go_enter func130,ntmps130;go_upto_region 1 with fail;generalize b:w.alloc _=K;obtain⟨i,k,l⟩:=LY b;clear b;generalize b:K.alloc _=A;obtain⟨j,m,e⟩:=LY b;clear b;rw[k]at e;have b:StB w A (sJ W S L T H F R U O (.slice a d.length c)) (λ_=>True):=⟨i.j (j.z i.size),(l.I j).q,e.q,LQ (λ_=>trivial)⟩;have q:w.heap.size+1<A.heap.size:=e.q.lt;clear i j l e k m;refine BE ?_;refine AS rfl 33 _ rfl w.heap.size 0 rfl _ _ b.r1.range underlying33 rfl QI ?_;simp only[PS];go_wp2_with fail;refine(f.l _ (p.l.I b.e)).z ?_;rintro x C ⟨rfl,e⟩;replace b:=b.I e;clear e q f
 cases hok:OB W S L T H F R U O d with
 | false =>
  obtain rfl:o=LX 1:=by rw[n.l];unfold RQ;rw[AG (by rw[hok];simp)]
  go_upto_region 2 with fail;refine b.noR 1 _ _ rfl γ rfl rfl rfl rfl (λy m k=>?_)
  try simp only[PS]
  clear b
  try go_wp2
  refine UF 2 results130 _ ?_ m ?_ k.l<;>rfl
 | true =>
  obtain rfl:o=⟨0,W,S,L,T,H,F,R,U,0,d,[(true,0,empty)]⟩:=by rw[n.l];unfold RQ;rw[AE hok]
  clear hok;go_upto_region 3 with fail;refine BE ?_;refine AS rfl 33 _ rfl w.heap.size 0 rfl _ _ b.r1.range underlying33 rfl QI ?_;simp only[PS];go_upto_region 4 with fail;generalize f:C.alloc _=D;obtain⟨e,l,j⟩:=LY f;clear f;obtain⟨B,i⟩:∃k,k=C.heap.size:=⟨_,rfl⟩;rw[<-i]at j⊢;have f:=j.q;have X:w.heap.size+1<B:=by rw[i];exact b.r2.lt
  replace b:=b.I e;clear e j l i;generalize Value.agg _=N;have e:=b.r1.y 9;have m:=b.r1.lt;go_wp2_with fail;clear e m;have m:=gm a d c D (p.l.I b.e) u;unfold MH at m;refine m.z ?_;rintro x M ⟨i,j,rfl,I,q,s,e⟩;unfold MH;have l:=LS (lo:=D.heap.size) q SM s;have P:=f.lt;replace b:=b.I e;replace f:=f.I e;clear e m q;have e:=f.y 9;have q:=f.y 8;have t:=f.A 9;have r:=f.A 8;have m:=f.lt;go_upto_region 6 with fail;clear e t q r m;have G:=QC (QC (BY M (some B)) 9 (.slice i d.length j)) 8 (.int .i64 0);replace f:=(f.set 9 σ (.slice i d.length j)).set 8 σ (.int .i64 0);replace b:=b.aside G ω;replace l:=l.J G (λg e=>by cases e;omega);generalize m:World.setCell (World.setCell _ _ _) _ _=e at b f l G⊢;clear m;have V:=G.size;refine BE ?_
  refine AS rfl 33 _ rfl B 0 rfl _ _ f.range underlying33 rfl QI ?_;simp only[PS];have t:=ry e (.cells #[M0 true,.int .i64 0,Mz empty] 130);have J:=MT e #[M0 true,.int .i64 0,Mz empty] 130;have r:=Z (b.I t);refine LU rfl (.agg #[M0 true,.int .i64 0,Mz empty]) (by go_simp;rfl) ?_;simp only[PS];refine OM rfl (.slice (Mw e.heap.size 0) 1 1) (e.alloc (.cells #[M0 true,.int .i64 0,Mz empty] 130)) γ ?_;simp only[PS];refine LU rfl (.agg (dK 0 W S L T H F R U 0 (.slice i d.length j) (.slice (Mw e.heap.size 0) 1 1))) γ ?_;simp only[PS];refine BI rfl 99 _ _ rfl (w.heap.size+1) 0 (dK 0 W S L T H F R U 0 (.slice i d.length j) (.slice (Mw e.heap.size 0) 1 1)) rfl rfl (r.l.r2.there rfl) UB κ ?_
  try simp only[PS]
  have Q:=f.lt
  have E:ZP i d.length (Mw e.heap.size 0) 1:=ZJ (λg k=>ZK l.q k) (λg k=>by rw[NT _ _ _ σ]at k;cases k;exact AA _)
  obtain⟨m,q⟩:=r.l.fin ⟨0,W,S,L,T,H,F,R,U,0,d,[(true,0,empty)]⟩ i j (Mw e.heap.size 0) 1 I ⟨(l.I t).q,.inr ⟨_,rfl,J⟩,E⟩ (λg k=>by have:=s g k;omega) (λg k=>by rw[NT _ _ _ σ]at k;cases k;omega)
  have k:=Z q;clear q;generalize q:World.setCells _ _ _ _=y at m k⊢;clear q
  try go_wp2
  refine UF 2 results130 _ ?_ m ?_ k.l<;>rfl
theorem ZF(a:M6)(b:List (Y×Y))(c:Nat)(w:Nb)(h:Prs w a b)(q:b.length<=1048576):Calls prog 63 #[MH a b.length c] w λe w'=>fx w w' e b:=by
 obtain⟨r,d,e,i,j⟩:=WT ec;have f:=Z (AH d (AH e (AH i j)));clear d e i j
 have m:∀d e,Below w.heap.size w ((w.alloc d).alloc e):=λd e=>(LO _ _).alloc σ _
 go_enter func63,ntmps63;go_wp2_with (at_builtin;refine xc rfl _ _ 29 rfl 103 r _ 2 32 underlying29 f.l.1 f.l.2.1 f.l.2.2.1 f.l.2.2.2 _ rfl (.inl rfl) _ rfl b.length _ (sZ (h.I (m _ _)) _ _ underlying29 c) q ω ?_;intro k e j n l d;have p:j.cell? ⟨w.heap.size+1,0,none⟩=some (.slice none 0 0):=OK d γ;have t:j.frozen? ⟨w.heap.size+1,0,none⟩=false:=TF d γ;have o:=Z ((m _ _).j (d.z ξ));have i:=Z (pP (w:=w) l τ);have s:w.heap.size+1<j.heap.size:=AD σ d.size;clear l d);refine AJ (v:=MH k b.length e) (by simp[results,results63,go_sem,p]) rfl ⟨k,e,rfl,n,?_,λg d=>(i.l.2 g d).1,o.l.setCell (by show w.heap.size<=w.heap.size+1;omega) _⟩;rcases i.l.1 with d|⟨g,rfl,d⟩
 ·exact .inl d
 by_cases l:b.length=0
 ·exact .inl (by rw[AC l];rfl)
 have:=(i.l.2 g (NT _ _ _ l)).2
 exact .inr ⟨g,rfl,d.other _ (by show w.heap.size+1≠g;rw[this];simp<;>omega) _⟩
theorem jb{W d:Nb}{c f:Nat}{i:M6}{j:Nat}{a:List OpT}{x:OpT}{l:Int}{o:Obj}(h:Wrt w base g (.slice i a.length j) a l nm lf wd)(B:base<=w.heap.size)(A:Below base W w)
  (t:d.ownsRow base 130 3 (.slice (Mw c 0) (a.length+1) f) (a.length+1) (OO a++[M0 x.1,.int .i64 x.2.1,Mz x.2.2]))(q:(w.alloc o).grownBy d (Value.slice i a.length j).ownBlock)
  (y:(Value.slice i a.length j).ownBlock=some c\/c=w.heap.size+1):Row d g [.slice i a.length j,.int .i64 l,.int .i64 nm,.int .i64 lf,.int .i64 wd]/\Wrt (d.setCell ⟨g,0,none⟩ (.slice (Mw c 0) (a.length+1) f)) base g (.slice (Mw c 0) (a.length+1) f) (a++[x]) l nm lf wd/\Below base W d/\Below base W (d.setCell ⟨g,0,none⟩ (.slice (Mw c 0) (a.length+1) f)):=by
 have r:=(h.row.alloc o).J q (λe=>h.ne e.symm);have C:=h.row.lt
 have m:c≠g:=by
  rcases y with e|e
  ·exactλb=>h.ne (by rw[<-b];exact e)
  omega
 have p:=UC (A.alloc B _) (h.own.alloc o) q τ;have u:=r.set 0 σ (.slice (Mw c 0) (a.length+1) f);refine⟨r,⟨u,?_,h.ge,by simp[Value.ownBlock];exact m⟩,p,p.setCell (p:=⟨g,0,none⟩) h.ge _⟩;have z:d.grownBy (d.setCell ⟨g,0,none⟩ (.slice (Mw c 0) (a.length+1) f)) (some g):=⟨rfl,rfl,rfl,by simp[World.setCell],λk _ b=>BF _ _ _ k (λe=>b (by rw[e]))⟩;have:=t.kept z (.inr (by simp[Value.ownBlock];exact m));obtain⟨b,n,s⟩:=x;rw[AF,ir];exact this
theorem Wrt.sl{c:List OpT}{d:Int}(h:Wrt w base g v c d nm lf wd):∃a b,v=Value.slice a c.length b:=by
 rcases NU h.own with ⟨b,e⟩|⟨g,a,b,_⟩
 ·exact⟨none,0,by rw[b,e]⟩
 exact⟨_,a,b⟩
theorem Wrt.count{b:List OpT}{c:Int}{x y:Int}(h:Wrt w base g v b c nm lf wd):Wrt ((w.setCell ⟨g,1,none⟩ (.int .i64 x)).setCell ⟨g,2,none⟩ (.int .i64 y)) base g v b x y lf wd:=by
 refine⟨(h.row.set 1 σ (.int .i64 x)).set 2 σ (.int .i64 y),?_,h.ge,h.ne⟩;have d:w.grownBy ((w.setCell ⟨g,1,none⟩ (.int .i64 x)).setCell ⟨g,2,none⟩ (.int .i64 y)) (some g):=⟨rfl,rfl,rfl,by simp[World.setCell],λk _ a=>(BF _ _ _ k (λe=>a (by rw[e]))).j (BF _ _ _ k (λe=>a (by rw[e])))⟩;exact h.own.kept d (.inr h.ne)
structure WK(g:Nat)(w:Nb)(v:Nc)(w':Nb)(v':Nc):Prop where
 size:w.heap.size<=w'.heap.size
 own:∀k,v'.ownBlock=some k->v.ownBlock=some k\/w.heap.size<=k
 blk:∀b,b<w.heap.size->b≠g->some b≠v.ownBlock->w'.heap[b]?=w.heap[b]?
theorem WK.start(g:Nat)(w:Nb)(v:Nc):WK g w v w v:=⟨AA _,λ_ h=>.inl h,λ_ _ _ _=>rfl⟩
theorem WK.j{l m:Nb}{f i:Nc}(h:WK g w v l f)(k:WK g l f m i):WK g w v m i :=⟨AK h.size k.size,λj n=>(k.own j n).elim (h.own j) (λe=>.inr (AK h.size e)),λb d a c=>(k.blk b (AD d h.size) a (λe=>(h.own b e.symm).elim (λe=>c e.symm) (λe=>ω))).j (h.blk b d a c)⟩
theorem WK.I{a d:Nb}{c:Nc}(h:WK g w v a c)(k:Below a.heap.size a d):WK g w v d c:=h.j ⟨k.size,λ_ h=>.inl h,λb e _ _=>k.block b e⟩
theorem Row.wk{k:Nat}{j:Nc}{a:List Nc}(h:Row w k a)(b:WK g w v w' j)(c:k≠g)(d:some k≠v.ownBlock):Row w' k a:=by
 have e:=b.blk k h.lt c d;refine⟨AD h.lt b.size,λi v hv=>(?_:w'.cell? ⟨k,i,none⟩=some v),λi f=>?_⟩
 ·rw[<-h.cell i v hv];simp[World.cell?,e]
 rw[<-h.froz i f];simp[World.frozen?,e]
theorem uX{c:Nb}{r:Option Nat}{o:Obj}{u x y:Nc}(h:(w.alloc o).grownBy c r):∀b,b<w.heap.size->b≠g->some b≠r->(((c.setCell ⟨g,0,none⟩ u).setCell ⟨g,1,none⟩ x).setCell ⟨g,2,none⟩ y).heap[b]?=w.heap[b]?:=λb f a d=>by
 rw[BF _ _ _ b (λe=>a (by rw[e])),BF _ _ _ b (λe=>a (by rw[e])),BF _ _ _ b (λe=>a (by rw[e])),h.block b τ d];exact((AB w.heap.size w).alloc (AA _) o).block b f
theorem m6(base g:Nat)(v:Nc)(d:List OpT)(c nm lf wd:Int)(f:Y)(w:Nb)(h:Wrt w base g v d c nm lf wd)(R:base<=w.heap.size)(hl:d.length<=1000)(V:0<=c)(W:c<=100000)(X:0<=nm)(bQ:nm<=2000000000):Calls prog 168 #[Mv g 0,Mz f] w λe w'=>(∃x,e=M3 x)/\∃a,Wrt w' base g a (d++[(false,c,f)]) (c+1) (nm+1) lf wd/\Below base w w'/\WK g w v w' a:=by
 obtain⟨i0,a,b,e,i⟩:=WT vm;have N:=Z (AH a (AH b (AH e i)));clear a b e i;obtain⟨u,z,rfl⟩:=h.sl;have q0:w.drew.cell? ⟨g,0,none⟩=some (.slice u d.length z):=h.row.drew.y 0;have qa:(w.drew.alloc (.cells #[M0 false,.int .i64 c,Mz f] 130)).cell? ⟨g,0,none⟩=some (.slice u d.length z):=(h.row.drew.alloc _).y 0;have bR:w.cell? ⟨g,0,none⟩=some (.slice u d.length z):=h.row.y 0;have lg:=h.row.lt;have O:=Z h;have Q:=Z (NC h.own ((AB _ _).drew.alloc (AA _) (.cells #[M0 false,.int .i64 c,Mz f] 130)));have I:Hid ((w.drew.alloc (.cells #[M0 false,.int .i64 c,Mz f] 130)).cell? ⟨g,1,none⟩=some (.int .i64 c)/\g<(w.drew.alloc (.cells #[M0 false,.int .i64 c,Mz f] 130)).heap.size):=⟨(h.row.drew.alloc _).y 1,(h.row.drew.alloc _).lt⟩;go_enter func168,ntmps168;go_wp2_with fail
 refine AN (S:=λw'=>w'.cell? ⟨g,1,none⟩=some (.int .i64 c)/\g<w'.heap.size) κ (⟨h.row.drew.y 1,h.row.drew.lt⟩) (λe=>?_);refine TY 0 (Mv g 0) rfl e (TY 1 (Mv g 0) rfl e (TY 2 (Mv g 0) rfl e (TY 3 (Mv g 0) rfl e (TY 5 (Mv g 0) rfl e (TY 6 (Mv g 0) rfl e (TY 7 (Mv g 1) rfl e (TY 8 (.int .i64 c) rfl e (TY 9 (Mz f) rfl e (TY 10 (.agg #[M0 false,.int .i64 c,Mz f]) rfl e ?_)))))))));simp only[PS];refine EF (rs:=[4,11]) κ σ ?_;refine BK rfl (λK a=>?_) (BK rfl (λK a=>?_) DX)
 focus
  go_simp;refine a.l _ _ e (λ_=>?_);clear a K
  try simp only[PS]
  refine RD 11 rfl (λK a=>?_);go_simp;refine a.l _ _ (I.l) (λS=>?_)
 rotate_left
 focus
  go_simp;refine a.l _ _ (I.l) (λP=>?_);clear a K
  try simp only[PS]
  refine RD 4 rfl (λK a=>?_);go_simp;refine a.l _ _ P (λ_=>?_)
 rotate_left
 all_goals
  clear a K
  try simp only[PS]
  refine RD 12 rfl (λK a=>?_);refine SI _ ρ _ _ _ ρ base underlying97 N.l rfl ω (.slice u d.length z) d.length _ ρ Q.l ⟨w.heap.size,0,none⟩ 1 1 [M0 false,.int .i64 c,Mz f] ρ rfl (World.news_of_block (AU w.drew _)) (YH _ _ _) ξ (w.heap.size+1) σ ?_;intro j m M A r s U;have l:=jb (x:=(false,c,f)) O.l R (AB _ _) A (cj r) s;have b:=Z l;have J:=l.1.y 0;have t:=l.1.y 1;have L:=l.1.A 0;have n:=l.1.lt;have H:=Z (cj r);have G:=Z s
 ·clear A r s l
  refine a.l _ _ (⟨t,n⟩) (λl=>?_);clear a K
  try simp only[PS]
  refine TY 13 (Mv g 0) rfl l (TY 14 (Mv g 0) rfl l ?_);simp only[PS];refine RD 15 rfl (λK a=>?_);go_simp;refine a.l _ _ (⟨γ,by simpa[World.setCell] using n⟩) (λr=>?_);clear a K
  try simp only[PS]
  refine DN ?_;have i:=b.l.2.1.row.y 1;have E:=b.l.2.1.row.y 2;have C:=b.l.2.1.row.A 1;have D:=b.l.2.1.row.A 2;have B:=b.l.2.1.row.lt;clear J t L n;have o:=Z (λx y=>uX (g:=g) (u:=.slice (Mw j 0) (d.length+1) m) (x:=x) (y:=y) H.l);obtain⟨q,k⟩:∃q,q=M.setCell ⟨g,0,none⟩ (.slice (Mw j 0) (d.length+1) m):=⟨_,rfl⟩;rw[<-k]at i E C D b o B⊢;clear k;go_wp2;go_end0;refine⟨⟨_,rfl⟩,.slice (Mw j 0) (d.length+1) m,b.l.2.1.count,(b.l.2.2.2.setCell (p:=⟨g,1,none⟩) h.ge _).setCell (p:=⟨g,2,none⟩) h.ge _,((b.l.2.2.2.setCell (p:=⟨g,1,none⟩) h.ge _).setCell (p:=⟨g,2,none⟩) h.ge _).size,λk p=>?_,o.l _ _⟩;have:k=j:=by simp[Value.ownBlock]at p;exact p.symm
  subst this;rcases G.l with i|i
  ·exact .inl i
  right;omega
 clear A r s l
 refine a.l _ _ (⟨t,n⟩) (λF=>?_);clear a K
 try simp only[PS]
 refine TY 13 (Mv g 0) rfl F (TY 14 (Mv g 0) rfl F ?_);simp only[PS];refine RD 15 rfl (λK a=>?_);go_simp;refine a.l _ _ (⟨γ,by simpa[World.setCell] using n⟩) (λT=>?_);clear a K
 try simp only[PS]
 refine DN ?_;have i:=b.l.2.1.row.y 1;have E:=b.l.2.1.row.y 2;have C:=b.l.2.1.row.A 1;have D:=b.l.2.1.row.A 2;have B:=b.l.2.1.row.lt;clear J t L n;have o:=Z (λx y=>uX (g:=g) (u:=.slice (Mw j 0) (d.length+1) m) (x:=x) (y:=y) H.l);obtain⟨q,k⟩:∃q,q=M.setCell ⟨g,0,none⟩ (.slice (Mw j 0) (d.length+1) m):=⟨_,rfl⟩;rw[<-k]at i E C D b o B⊢;clear k;go_wp2;go_end0;refine⟨⟨_,rfl⟩,.slice (Mw j 0) (d.length+1) m,b.l.2.1.count,(b.l.2.2.2.setCell (p:=⟨g,1,none⟩) h.ge _).setCell (p:=⟨g,2,none⟩) h.ge _,((b.l.2.2.2.setCell (p:=⟨g,1,none⟩) h.ge _).setCell (p:=⟨g,2,none⟩) h.ge _).size,λk p=>?_,o.l _ _⟩;have:k=j:=by simp[Value.ownBlock]at p;exact p.symm
 subst this;rcases G.l with i|i
 ·exact .inl i
 right;omega
theorem nO(base g:Nat)(v:Nc)(i:List OpT)(c nm lf wd:Int)(w:Nb)(h:Wrt w base g v i c nm lf wd)(f:base<=w.heap.size)(u:i.length<=1000)(o:0<=c)(p:c<=100000)(s:0<=nm)(t:nm<=2000000000):Calls prog 159 #[Mv g 0] w λe w'=>(∃x,e=M3 x)/\∃j,Wrt w' base g j (i++[(false,c,MM 3 lf nm empty wd)]) (c+1) (nm+1) lf wd/\Below base w w'/\WK g w v w' j:=by
 have B:=h.row.y 2;have A:=h.row.lt;go_enter func159,ntmps159;go_wp2_with fail;refine AN (S:=λw'=>w'.cell? ⟨g,3,none⟩=some (.int .i64 lf)/\w'.cell? ⟨g,4,none⟩=some (.int .i64 wd)) κ (⟨h.row.drew.y 3,h.row.drew.y 4⟩) (λa=>?_);refine TY 0 (Mv g 0) rfl a (TY 1 (Mv g 0) rfl a (TY 2 (Mv g 0) rfl a (TY 3 (Mv g 3) rfl a (TY 4 (.int .i64 lf) rfl a (TY 5 (Mv g 0) rfl a (TY 6 (Mv g 0) rfl a (TY 7 (Mv g 2) rfl a (TY 10 (Mv g 0) rfl a (TY 11 (Mv g 0) rfl a (TY 12 (Mv g 4) rfl a (TY 13 (.int .i64 wd) rfl a ?_)))))))))));simp only[PS];refine RD 8 rfl (λK b=>?_);go_simp;refine b.l _ _ a (λ_=>?_);clear b K
 try simp only[PS]
 refine TY 9 (.agg #[.int .i64 3,.int .i64 lf,.int .i64 nm,Mz ⟨#[]⟩]) rfl a ?_;simp only[PS];refine RD 14 rfl (λK b=>?_);refine LW ρ 202 #[OE 3 lf nm ⟨#[]⟩,.int .i64 wd] γ (eo 3 lf nm empty wd _ σ) ?_;rintro e m ⟨rfl,q⟩;refine⟨_,rfl,?_⟩;have d:Below w.heap.size w m:=(AB _ _).drew.j q;have k:=h.I d;refine b.l _ _ (⟨k.row.y 3,k.row.y 4⟩) (λy=>?_);clear b K
 try simp only[PS]
 refine RD 15 rfl (λK b=>?_);refine LW ρ 168 #[Mv g 0,Mz (MM 3 lf nm empty wd)] γ (m6 base g v i c nm lf wd _ _ k (AK f d.size) u o p s t) ?_;rintro e C ⟨⟨x,rfl⟩,j,l,r,n⟩;refine⟨_,rfl,?_⟩;refine b.l _ _ (⟨l.row.y 3,l.row.y 4⟩) (λz=>?_);clear b K
 try simp only[PS]
 refine DN ?_;go_end0;exact⟨⟨_,rfl⟩,j,l,(d.z f).j r,(⟨d.size,λ_ h=>.inl h,λb f _ _=>d.block b f⟩:WK g w v m v).j n⟩
theorem qG(T H F R S L:Int)(w:Nb)(x:0<=T)(p:T<=1000000000)(u:0<=H)(o:H<=1)(hF:0<=F)(n:F<=999999000):Calls prog 154 #[ON T H F R,.int .i64 S,.int .i64 L] w λe w'=>e=M3 (ON (T+1) (1-H) (F+hv S) L)/\Below w.heap.size w w':=by
 have k:0<=hv S/\hv S<=99:=by by_cases h:8<=S/\S<=200;have:=QM h;omega;rw[YJ h];omega
 have d:=Z (λw'=>dz S w');obtain⟨Q,f⟩:∃Q,Hid (Q=hv S):=⟨_,Z rfl⟩;rw[<-f.l]at k d⊢;have q:IntKind.i64.wrap (T+1)=T+1:=by simp[IntKind.wrap,IntKind.bits,IntKind.signed];omega
 have r:IntKind.i64.wrap (1-H)=1-H:=by simp[IntKind.wrap,IntKind.bits,IntKind.signed];omega
 have s:IntKind.i64.wrap (F+Q)=F+Q:=by simp[IntKind.wrap,IntKind.bits,IntKind.signed];omega
 have i:∀ {j:Array Nc} {c:Array Nc} {t l:TypeId},Below w.heap.size w ((w.alloc (.cells j t)).alloc (.cells c l)):=(LO _ _).alloc σ _;go_enter func154,ntmps154;go_wp2_with fail;refine AN (S:=λw'=>w'.cell? ⟨w.heap.size,0,none⟩=some (.int .i64 T)/\w'.cell? ⟨w.heap.size,1,none⟩=some (.int .i64 H)/\w'.cell? ⟨w.heap.size,2,none⟩=some (.int .i64 F)) κ (⟨γ,γ,γ⟩) (λa=>?_);refine TY 0 (Mv w.heap.size 0) rfl a (TY 1 (.int .i64 T) rfl a (TY 2 (.int .i64 (T+1)) rfl a (TY 3 (Mv w.heap.size 1) rfl a (TY 4 (.int .i64 H) rfl a (TY 5 (.int .i64 (1-H)) rfl a (TY 6 (Mv w.heap.size 2) rfl a (TY 7 (.int .i64 F) rfl a (TY 8 (.int .i64 S) rfl a (TY 11 (.int .i64 L) rfl a ?_)))))))));simp only[PS];refine RD 9 rfl (λK b=>?_);refine LW ρ 98 #[.int .i64 S] γ (d.l _) ?_
 rintro e y ⟨rfl,rfl⟩;refine⟨_,rfl,?_⟩;refine b.l _ _ a (λ_=>?_);clear b K
 try simp only[PS]
 refine TY 10 (.int .i64 (F+Q)) rfl a (TY 12 (.agg #[.int .i64 (T+1),.int .i64 (1-H),.int .i64 (F+Q),.int .i64 L]) rfl a ?_);simp only[PS];refine RD 13 rfl (λK b=>?_);go_simp;refine b.l _ _ (⟨γ,γ,γ⟩) (λm=>?_);clear b K
 try simp only[PS]
 refine DN ?_;go_wp2;refine AJ (v:=ON (T+1) (1-H) (F+Q) L) (by simp[results,results154,go_sem]) rfl ⟨rfl,?_⟩;exact i.drew
theorem uG(base g:Nat)(v:Nc)(k:List OpT)(c nm lf:Int)(n m:Nat)(d:Y)(w:Nb)(h:Wrt w base g v k c nm lf (n:Int))(t:base<=w.heap.size)(ht:d.size<=100000)(R:k.length+(PG d lf nm n m).length<=1000)(S:n+m=56)(J:1<=n)(L:n<=8)(bU:0<=c)(bV:c<=10000)(cA:0<=nm)(cB:nm<=1900000000):Calls prog 118 #[Mv g 0,Mz d] w λe w'=>(∃x,e=M3 x)/\∃f,Wrt w' base g f (k++MP c (PG d lf nm n m)) (c+((PG d lf nm n m).length:Int)) (nm+((PG d lf nm n m).length:Int)) lf (n:Int)/\Below base w w'/\WK g w v w' f:=by
 have y:=Z (λW=>Lp d lf nm n m W ω S J L ω ω);obtain⟨a,hcut⟩:∃a,a=PG d lf nm n m:=⟨_,rfl⟩;rw[<-hcut]at y R⊢;clear hcut;go_enter func118,ntmps118;go_wp2_with fail;refine AN (S:=λw'=>w'.cell? ⟨g,2,none⟩=some (.int .i64 nm)/\w'.cell? ⟨g,3,none⟩=some (.int .i64 lf)/\w'.cell? ⟨g,4,none⟩=some (.int .i64 (n:Int))) κ (⟨h.row.drew.y 2,h.row.drew.y 3,h.row.drew.y 4⟩) (λb=>?_);refine TY 0 (Mz d) rfl b (TY 1 (Mv g 0) rfl b (TY 2 (Mv g 0) rfl b (TY 3 (Mv g 3) rfl b (TY 4 (.int .i64 lf) rfl b (TY 5 (Mv g 0) rfl b (TY 6 (Mv g 0) rfl b (TY 7 (Mv g 2) rfl b (TY 8 (.int .i64 nm) rfl b (TY 9 (Mv g 0) rfl b (TY 10 (Mv g 0) rfl b (TY 11 (Mv g 4) rfl b ?_)))))))))))
 simp only[PS];refine TY 12 (.int .i64 (n:Int)) rfl b (TY 15 (.int .i64 0) rfl b ?_);simp only[PS];refine RD 13 rfl (λK r=>?_);refine LW ρ 167 #[Mz d,.int .i64 lf,.int .i64 nm,.int .i64 (n:Int)] γ (y.l _) ?_;rintro e u ⟨U,c4,rfl,q,p,o⟩;refine⟨_,rfl,?_⟩;have j:Below w.heap.size w u:=(AB _ _).drew.j o;have i:=h.I j;refine r.l _ _ (⟨i.row.y 2,i.row.y 3,i.row.y 4⟩) (λl=>?_);clear r K
 try simp only[PS]
 refine TY 14 (.int .i64 (a.length:Int)) rfl l ?_;simp only[PS];refine DN ?_;have D:=Z q;have C:=Z p;have F:=Z i;have z:=Z j;have M:=j.size;clear q p i j o b l;go_wp2_with fail;go_loopw [21] (λi wr=>∃j:Nat,j<=a.length/\i=.int .i64 (j:Int)/\∃f,Wrt wr base g f (k++MP c (a.take j)) (c+(j:Int)) (nm+(j:Int)) lf (n:Int)/\Below base w wr/\WK g u v wr f) (λi _=>a.length-(intOf i).toNat)
 case atStart =>
  refine⟨0,AM _,rfl,v,?_,z.l.z t,WK.start _ _ _⟩;rw[ES,vU,DZ];simpa using F.l
 case round =>
  obtain⟨j,hj,rfl,f,l,q,i⟩:=hrel
  by_cases o:j<a.length
  ·have cE:=i.size
   obtain⟨s,rfl,K⟩:=D.l.resolve_left (by intro e;have:=CX List.length e;simp at this;rw[this]at o;simp at o);have bW:w.heap.size<=s:=C.l s (NT _ _ _ ω);have bY:=h.row.lt;have p:=K.wk i ω (λe=>by have:=(h.own.lt s e.symm).2;omega);have I:=p.cell j (Mz (a.getD j empty)) (by simp[o,List.getD]);obtain⟨b,r⟩:∃b,b=a.getD j empty:=⟨_,rfl⟩;rw[<-r]at I;have W:=p.lt;have X:(j:Int)<(a.length:Int):=ω
   have V:(0:Int)<=(j:Int):=ω
   have O:base<=wr.heap.size:=ω
   have A:=Z (m6 base g f (k++MP c (a.take j)) (c+(j:Int)) (nm+(j:Int)) lf (n:Int) b wr l O (by simp[QW];omega) ω ω ω ω);have B:=Z q;have E:=Z r;have bZ:=l.row.lt;have G:=Z i;clear l q p i r;go_wp2_with (go_at_call 168;refine A.l.z ?_;rintro e w5 ⟨⟨x,rfl⟩,T,H,p,r⟩);have cC:=p.size;have N:k++MP c (a.take (j+1))=k++MP c (a.take j)++[(false,c+(j:Int),b)]:=by rw[ZM a j empty o,og,<-E.l,BT,AP,show min j a.length=j by omega]
   refine⟨⟨j+1,ω,ν,T,?_,B.l.j p,G.l.j r⟩,by simp[intOf];omega⟩;rw[N];have P:c+((j+1:Nat):Int)=c+(j:Int)+1:=ω
   have Q:nm+((j+1:Nat):Int)=nm+(j:Int)+1:=ω
   rw[P,Q];exact H
  have p:j=a.length:=ω
  subst p;go_wp2_with fail;go_end0;rw[CW]at l;exact⟨⟨_,rfl⟩,f,l,q,(⟨M,λ_ h=>.inl h,λb t _ _=>z.l.block b t⟩:WK g w v u v).j i⟩
theorem lZ(t h f l:Int)(a:0<=t)(w:Nb):Calls prog 192 #[ON t h f l] w λe w'=>e=M3 (.int .i64 (t % 2))/\Below w.heap.size w w':=by
 go_enter func192,ntmps192;go_wp2;go_ret;exact⟨rfl,LO _ _⟩
theorem Bd(base g:Nat)(v:Nc)(q:List OpT)(bW nm lf wd t s f l:Int)(w:Nb)(h:Wrt w base g v q bW nm lf wd)(O:base<=w.heap.size)(hl:q.length<=1000)(ht:0<=t):Calls prog 158 #[Mv g 0,ON t s f l] w λe w'=>(∃x,e=M3 x)/\(∃a,Wrt w' base g a (q++[(false,t % 2,MZ t s f l wd)]) bW nm lf wd)/\Below base w w':=by
 obtain⟨i0,a,b,c,d⟩:=WT vm;have M:=Z (AH a (AH b (AH c d)));clear a b c d;obtain⟨P,Q,rfl⟩:=h.sl;have N:=Z (λw'=>uI t s f l wd w');obtain⟨k,a⟩:∃k,k=MZ t s f l wd:=⟨_,rfl⟩;rw[<-a]at N⊢;clear a;have lg:=h.row.lt;obtain⟨r,a⟩:∃r,r=w.alloc (.cells #[.int .i64 t,.int .i64 s,.int .i64 f,.int .i64 l] 28):=⟨_,rfl⟩;have L:Below w.heap.size w r:=by rw[a];exact LO _ _
 have cQ:r.heap.size=w.heap.size+1:=by rw[a];simp
 have D:Row r w.heap.size [.int .i64 t,.int .i64 s,.int .i64 f,.int .i64 l]:=by rw[a];exact MT w _ _
 have F:=h.I L;have cS:=F.row.y 0;go_enter func158,ntmps158;go_wp2_with fail;rw[<-a];clear a;refine AN (S:=λw'=>w'.cell? ⟨w.heap.size,0,none⟩=some (.int .i64 t)/\w'.cell? ⟨w.heap.size,1,none⟩=some (.int .i64 s)/\w'.cell? ⟨w.heap.size,2,none⟩=some (.int .i64 f)/\w'.cell? ⟨w.heap.size,3,none⟩=some (.int .i64 l)/\w'.cell? ⟨g,4,none⟩=some (.int .i64 wd)) κ (⟨D.drew.y 0,D.drew.y 1,D.drew.y 2,D.drew.y 3,F.row.drew.y 4⟩) (λz=>?_);refine TY 0 (Mv g 0) rfl z (TY 1 (Mv g 0) rfl z (TY 2 (Mv g 0) rfl z (TY 3 (Mv g 0) rfl z (TY 5 (.agg #[.int .i64 t,.int .i64 s,.int .i64 f,.int .i64 l]) rfl z (TY 7 (.agg #[.int .i64 t,.int .i64 s,.int .i64 f,.int .i64 l]) rfl z (TY 8 (Mv g 0) rfl z (TY 9 (Mv g 0) rfl z (TY 10 (Mv g 4) rfl z (TY 11 (.int .i64 wd) rfl z ?_)))))))))
 simp only[PS];refine EF (rs:=[4,6]) κ σ ?_;refine BK rfl (λK a=>?_) (BK rfl (λK a=>?_) DX)
 focus
  go_simp;refine a.l _ _ z (λ_=>?_);clear a K
  try simp only[PS]
  refine RD 6 rfl (λK a=>?_);refine LW ρ _ _ γ (lZ t s f l ht _) ?_;rintro e X ⟨rfl,T⟩;refine⟨_,rfl,?_⟩;have y:Below r.heap.size r X:=(AB _ _).drew.j T;have I:=F.I y;have C:=D.I y;have cP:=I.row.y 0;refine a.l _ _ (⟨C.y 0,C.y 1,C.y 2,C.y 3,I.row.y 4⟩) (λcM=>?_);clear a K
  try simp only[PS]
  refine RD 12 rfl (λK a=>?_);refine LW ρ 201 #[ON t s f l,.int .i64 wd] γ (N.l _) ?_;rintro e o ⟨rfl,J⟩;refine⟨_,rfl,?_⟩;have i:Below r.heap.size r o:=y.j (J.z y.size);have m:=F.I i;have n:=D.I i;have cL:=m.row.y 0;have cJ:=m.row.lt;have A:=m.I ((AB _ _).alloc (AA _) (.cells #[M0 false,.int .i64 (t % 2),Mz k] 130));have d:=n.alloc (.cells #[M0 false,.int .i64 (t % 2),Mz k] 130);refine a.l _ _ (⟨n.y 0,n.y 1,n.y 2,n.y 3,m.row.y 4⟩) (λbQ=>?_);clear a K
  try simp only[PS]
  refine TY 13 (.agg #[M0 false,.int .i64 (t % 2),Mz k]) rfl bQ ?_;simp only[PS];refine RD 14 rfl (λK a=>?_);go_simp;refine a.l _ _ (⟨d.y 0,d.y 1,d.y 2,d.y 3,A.row.y 4⟩) (λcN=>?_);clear a K
  try simp only[PS]
  refine RD 15 rfl (λK a=>?_);refine SI _ ρ _ _ _ ρ base underlying97 M.l rfl ω (.slice P q.length Q) q.length _ ρ A.own ⟨o.heap.size,0,none⟩ 1 1 [M0 false,.int .i64 (t % 2),Mz k] ρ rfl (World.news_of_block (AU o _)) (YH _ _ _) (by have:=i.size;simp<;>omega) (o.heap.size+1) σ ?_;intro H E w9 u p x R;have b:=jb (W:=w) (x:=(false,t % 2,k)) m (by have:=i.size;omega) ((L.z O).j (i.z ω)) u p x;have c:=d.J p (λe=>by have:=(h.own.lt w.heap.size e.symm).2;omega);have B:=Z b;have V:=b.1.y 0;have G:=b.1.y 4;have W:=b.1.A 0;have U:=b.1.lt;have S:w.heap.size≠g:=ω
  clear u p x b;refine a.l _ _ (⟨c.y 0,c.y 1,c.y 2,c.y 3,G⟩) (λaZ=>?_);clear a K
  try simp only[PS]
  refine TY 16 (Mv g 0) rfl aZ (TY 17 (Mv g 0) rfl aZ ?_);simp only[PS];refine RD 18 rfl (λK a=>?_);go_simp;have j:=c.other ⟨g,0,none⟩ (by show g≠w.heap.size;omega) (.slice (Mw H 0) (q.length+1) E);refine a.l _ _ (⟨j.y 0,j.y 1,j.y 2,j.y 3,B.l.2.1.row.y 4⟩) (λcO=>?_)
 rotate_left
 focus
  refine LW ρ _ _ γ (lZ t s f l ht _) ?_;rintro e X ⟨rfl,T⟩;refine⟨_,rfl,?_⟩;have y:Below r.heap.size r X:=(AB _ _).drew.j T;have I:=F.I y;have C:=D.I y;have cP:=I.row.y 0;refine a.l _ _ (⟨C.y 0,C.y 1,C.y 2,C.y 3,I.row.y 4⟩) (λbR=>?_);clear a K
  try simp only[PS]
  refine EF (rs:=[4,12]) κ σ ?_;refine BK rfl (λK a=>?_) (BK rfl (λK a=>?_) DX)
  focus
   go_simp;refine a.l _ _ bR (λ_=>?_);clear a K
   try simp only[PS]
   refine RD 12 rfl (λK a=>?_);refine LW ρ 201 #[ON t s f l,.int .i64 wd] γ (N.l _) ?_;rintro e o ⟨rfl,J⟩;refine⟨_,rfl,?_⟩;have i:Below r.heap.size r o:=y.j (J.z y.size);have m:=F.I i;have n:=D.I i;have cL:=m.row.y 0;have cJ:=m.row.lt;have A:=m.I ((AB _ _).alloc (AA _) (.cells #[M0 false,.int .i64 (t % 2),Mz k] 130));have d:=n.alloc (.cells #[M0 false,.int .i64 (t % 2),Mz k] 130);refine a.l _ _ (⟨n.y 0,n.y 1,n.y 2,n.y 3,m.row.y 4⟩) (λbT=>?_);clear a K
   try simp only[PS]
   refine TY 13 (.agg #[M0 false,.int .i64 (t % 2),Mz k]) rfl bT ?_;simp only[PS];refine RD 14 rfl (λK a=>?_);go_simp;refine a.l _ _ (⟨d.y 0,d.y 1,d.y 2,d.y 3,A.row.y 4⟩) (λbY=>?_);clear a K
   try simp only[PS]
   refine RD 15 rfl (λK a=>?_);refine SI _ ρ _ _ _ ρ base underlying97 M.l rfl ω (.slice P q.length Q) q.length _ ρ A.own ⟨o.heap.size,0,none⟩ 1 1 [M0 false,.int .i64 (t % 2),Mz k] ρ rfl (World.news_of_block (AU o _)) (YH _ _ _) (by have:=i.size;simp<;>omega) (o.heap.size+1) σ ?_;intro H E w9 u p x R;have b:=jb (W:=w) (x:=(false,t % 2,k)) m (by have:=i.size;omega) ((L.z O).j (i.z ω)) u p x;have c:=d.J p (λe=>by have:=(h.own.lt w.heap.size e.symm).2;omega);have B:=Z b;have V:=b.1.y 0;have G:=b.1.y 4;have W:=b.1.A 0;have U:=b.1.lt;have S:w.heap.size≠g:=ω
   clear u p x b;refine a.l _ _ (⟨c.y 0,c.y 1,c.y 2,c.y 3,G⟩) (λaR=>?_);clear a K
   try simp only[PS]
   refine TY 16 (Mv g 0) rfl aR (TY 17 (Mv g 0) rfl aR ?_);simp only[PS];refine RD 18 rfl (λK a=>?_);go_simp;have j:=c.other ⟨g,0,none⟩ (by show g≠w.heap.size;omega) (.slice (Mw H 0) (q.length+1) E);refine a.l _ _ (⟨j.y 0,j.y 1,j.y 2,j.y 3,B.l.2.1.row.y 4⟩) (λbZ=>?_)
  rotate_left
  focus
   refine LW ρ 201 #[ON t s f l,.int .i64 wd] γ (N.l _) ?_;rintro e o ⟨rfl,J⟩;refine⟨_,rfl,?_⟩;have i:Below r.heap.size r o:=y.j (J.z y.size);have m:=F.I i;have n:=D.I i;have cL:=m.row.y 0;have cJ:=m.row.lt;have A:=m.I ((AB _ _).alloc (AA _) (.cells #[M0 false,.int .i64 (t % 2),Mz k] 130));have d:=n.alloc (.cells #[M0 false,.int .i64 (t % 2),Mz k] 130);refine a.l _ _ (⟨n.y 0,n.y 1,n.y 2,n.y 3,m.row.y 4⟩) (λaS=>?_);clear a K
   try simp only[PS]
   refine TY 13 (.agg #[M0 false,.int .i64 (t % 2),Mz k]) rfl aS ?_;simp only[PS];refine EF (rs:=[4,14]) κ σ ?_;refine BK rfl (λK a=>?_) (BK rfl (λK a=>?_) DX)
   focus
    go_simp;refine a.l _ _ aS (λ_=>?_);clear a K
    try simp only[PS]
    refine RD 14 rfl (λK a=>?_);go_simp;refine a.l _ _ (⟨d.y 0,d.y 1,d.y 2,d.y 3,A.row.y 4⟩) (λb7=>?_);clear a K
    try simp only[PS]
    refine RD 15 rfl (λK a=>?_);refine SI _ ρ _ _ _ ρ base underlying97 M.l rfl ω (.slice P q.length Q) q.length _ ρ A.own ⟨o.heap.size,0,none⟩ 1 1 [M0 false,.int .i64 (t % 2),Mz k] ρ rfl (World.news_of_block (AU o _)) (YH _ _ _) (by have:=i.size;simp<;>omega) (o.heap.size+1) σ ?_;intro H E w9 u p x R;have b:=jb (W:=w) (x:=(false,t % 2,k)) m (by have:=i.size;omega) ((L.z O).j (i.z ω)) u p x;have c:=d.J p (λe=>by have:=(h.own.lt w.heap.size e.symm).2;omega);have B:=Z b;have V:=b.1.y 0;have G:=b.1.y 4;have W:=b.1.A 0;have U:=b.1.lt;have S:w.heap.size≠g:=ω
    clear u p x b;refine a.l _ _ (⟨c.y 0,c.y 1,c.y 2,c.y 3,G⟩) (λaT=>?_);clear a K
    try simp only[PS]
    refine TY 16 (Mv g 0) rfl aT (TY 17 (Mv g 0) rfl aT ?_);simp only[PS];refine RD 18 rfl (λK a=>?_);go_simp;have j:=c.other ⟨g,0,none⟩ (by show g≠w.heap.size;omega) (.slice (Mw H 0) (q.length+1) E);refine a.l _ _ (⟨j.y 0,j.y 1,j.y 2,j.y 3,B.l.2.1.row.y 4⟩) (λcA=>?_)
   rotate_left
   focus
    go_simp;refine a.l _ _ (⟨d.y 0,d.y 1,d.y 2,d.y 3,A.row.y 4⟩) (λaY=>?_);clear a K
    try simp only[PS]
    refine RD 4 rfl (λK a=>?_);go_simp;refine a.l _ _ aY (λ_=>?_);clear a K
    try simp only[PS]
    refine RD 15 rfl (λK a=>?_);refine SI _ ρ _ _ _ ρ base underlying97 M.l rfl ω (.slice P q.length Q) q.length _ ρ A.own ⟨o.heap.size,0,none⟩ 1 1 [M0 false,.int .i64 (t % 2),Mz k] ρ rfl (World.news_of_block (AU o _)) (YH _ _ _) (by have:=i.size;simp<;>omega) (o.heap.size+1) σ ?_;intro H E w9 u p x R;have b:=jb (W:=w) (x:=(false,t % 2,k)) m (by have:=i.size;omega) ((L.z O).j (i.z ω)) u p x;have c:=d.J p (λe=>by have:=(h.own.lt w.heap.size e.symm).2;omega);have B:=Z b;have V:=b.1.y 0;have G:=b.1.y 4;have W:=b.1.A 0;have U:=b.1.lt;have S:w.heap.size≠g:=ω
    clear u p x b;refine a.l _ _ (⟨c.y 0,c.y 1,c.y 2,c.y 3,G⟩) (λb=>?_);clear a K
    try simp only[PS]
    refine TY 16 (Mv g 0) rfl b (TY 17 (Mv g 0) rfl b ?_);simp only[PS];refine RD 18 rfl (λK a=>?_);go_simp;have j:=c.other ⟨g,0,none⟩ (by show g≠w.heap.size;omega) (.slice (Mw H 0) (q.length+1) E);refine a.l _ _ (⟨j.y 0,j.y 1,j.y 2,j.y 3,B.l.2.1.row.y 4⟩) (λp=>?_)
   rotate_left
  rotate_left 2
 rotate_left 3
 all_goals
  clear a K
  try simp only[PS]
  refine DN ?_;go_end0;exact⟨⟨_,rfl⟩,⟨_,B.l.2.1⟩,B.l.2.2.2⟩
theorem Eo(base g:Nat)(v:Nc)(c:List OpT)(a nm lf wd:Int)(w:Nb)(h:Wrt w base g v c a nm lf wd)(m:base<=w.heap.size)(y:c.length<=1000)(p:0<=a)(q:a<=100000)(r:0<=nm)(s:nm<=2000000000):Calls prog 156 #[Mv g 0] w λe w'=>e=M3 (.func (.func 199) #[] #[Mv w.heap.size 0])/\Row w' w.heap.size [Mv g 0]/\(∃d,Wrt w' base g d (c++[(false,a,MM 3 lf nm empty wd)]) (a+1) (nm+1) lf wd/\∀k,d.ownBlock=some k->k≠w.heap.size)/\Below base w w':=by
 have z:∀(l:Fn) (first b:Array Nc) (w:Nb),(Instr.makeFunc l first b).run prog w=.ok (.func l first b) w:=λ_ _ _ _=>rfl
 have f:∀o,Below w.heap.size w (w.alloc o):=λo=>LO _ _
 have n:=Z (nO base g v c a nm lf wd _ (h.I (f (.cells #[Mv g 0] 180))) (AK m (f _).size) y p q r s);go_enter func156,ntmps156;go_wp2_with (go_at_call 159;refine n.l.z ?_;rintro e B ⟨⟨x,rfl⟩,d,t,o,j⟩);go_ret;have A:=h.row.lt;refine⟨rfl,(MT w #[Mv g 0] 180).wk j ω (λe=>by have:=(h.own.lt w.heap.size e.symm).2;omega),⟨d,t,λk u e=>?_⟩,((f _).z m).j o⟩;subst e;rcases j.own _ u with i|i
 ·have:=(h.own.lt _ i).2;omega
 rw[BD]at i;omega
theorem Hk(base g B:Nat)(v:Nc)(j:List OpT)(c nm lf:Int)(n m:Nat)(p:M6)(b:List Ch)(f:Nat)(w:Nb)(h:Wrt w base g v j c nm lf (n:Int))(r:Row w B [Mv g 0])(y:B≠g)(z:some B≠v.ownBlock)(I:Chs w p b)(G:b.length<=1048576)(H:∀x∈b,x.1.size<=1048576/\x.2.1.size<=1048576)(i:base<=w.heap.size)(P:j.length+(PG (LT b) lf nm n m).length<=1000)(Q:n+m=56)(M:1<=n)(N:n<=8)(C:0<=c)(D:c<=10000)(J:0<=nm)(L:nm<=1900000000):Calls prog 199 #[.slice p b.length f,Mv B 0] w λe w'=>(∃x,e=M3 x)/\∃k,Wrt w' base g k (j++MP c (PG (LT b) lf nm n m)) (c+((PG (LT b) lf nm n m).length:Int)) (nm+((PG (LT b) lf nm n m).length:Int)) lf (n:Int)/\Below base w w'/\WK g w v w' k:=by
 have t:=Z (λW (O:Chs W p b)=>uz p b f W O G H);have T:=ZY b;go_enter func199,ntmps199;go_wp2_with fail;refine AN (S:=λw'=>w'.cell? ⟨B,0,none⟩=some (Mv g 0)) κ (r.drew.y 0) (λq=>?_);refine TY 0 (Mv g 0) rfl q (TY 1 (.slice p b.length f) rfl q ?_);simp only[PS];refine RD 2 rfl (λK d=>?_);refine LW ρ 115 #[.slice p b.length f] γ (t.l _ (I.I (AB _ _).drew)) ?_;rintro e s ⟨rfl,E⟩;refine⟨_,rfl,?_⟩;have a:Below w.heap.size w s:=(AB _ _).drew.j E;have o:=r.I a;refine d.l _ _ (o.y 0) (λR=>?_);clear d K
 try simp only[PS]
 refine RD 3 rfl (λK d=>?_);refine LW ρ 118 #[Mv g 0,Mz (LT b)] γ (uG base g v j c nm lf n m _ _ (h.I a) (AK i a.size) ω P Q M N C D J L) ?_;rintro e U ⟨⟨x,rfl⟩,k,A,F,l⟩;refine⟨_,rfl,?_⟩;have u:=o.wk l y z;refine d.l _ _ (u.y 0) (λS=>?_);clear d K
 try simp only[PS]
 refine DN ?_;go_end0;exact⟨⟨_,rfl⟩,k,A,(a.z i).j F,(⟨a.size,λ_ h=>.inl h,λb i _ _=>a.block b i⟩:WK g w v s v).j l⟩
theorem wt{e:TypeId}{s:Nat}{n:Nat}{f:List Nc}(h:w.ownsRow base e s v n f)(j:∀b,base<=b->b<w.heap.size->w'.heap[b]?=w.heap[b]?):w'.ownsRow base e s v n f:=by
 refine⟨h.1,?_⟩;rcases h.2 with k|⟨g,a,b,rfl,d,c,i⟩
 ·exact .inl k
 exact .inr ⟨g,a,b,rfl,d,(j g d (AW.1 c).1).j c,i⟩
theorem Bat.span{a:List (List Ch)}(h:Bat w base v a)(c:∀b,base<=b->b<w.heap.size->w'.heap[b]?=w.heap[b]?):Bat w' base v a:=by
 obtain⟨j,b,d,e⟩:=h;exact⟨j,wt b c,λi f=>wt (d i f) c,e⟩
theorem xP(q:Int)(l r:List Y):MP q (l++r)=MP q l++MP (q+(l.length:Int)) r:=by
 unfold MP;rw[List.mapIdx_append]
 congr 1
 apply KR
 ·simp
 intro i a b
 simp;omega
theorem Row.below2{N:Nat}{b:List Nc}(h:Row w g b)(c:g<N)(a:Below N w w'):Row w' g b :=⟨AD h.lt a.size,λi v hv=>(a.cell (p:=⟨g,i,none⟩) c).j (h.cell i v hv),λi d=>(a.frozen (p:=⟨g,i,none⟩) c).j (h.froz i d)⟩
def nZ(w w':Nb)(x:Ending)(d:Dd)(a:M6)(c:Nat):Prop:=∃b e,x=M3 (NZ d a c b e)/\d.ops.length<=e/\OwnS w' b (OO d.ops)/\(∀g,blk b d.ops.length=some g->w.heap.size<=g)/\Below w.heap.size w w'
theorem Ik(S L T H F R U O:Int)(n m:Nat)(a:M6)(o:List Pr)(c:Nat)(w:Nb)(h:Prs w a o)(hc:o.length<=c)(hl:o.length<=1048576)(hs:∀x∈o,x.1.size<=1048576/\x.2.size<=1048576)(hm:n+m=56)(eX:1<=n)(eY:n<=8)(gY:XI (n:Int) S L T H F o)(aZ:T+1<=1000000000/\F+hv S<=999999000):Calls prog 102 #[NK (n:Int) S L T H F R U O a o.length c] w λx w'=>nZ w w' x (XD (n:Int) S L T H F o) a c:=by
 obtain⟨i,hS,hL,hT,hH,hF,l⟩:=gY;have hQ:=QM hS;have cW:=Z (λw'=>qG T H F R S L w' ω ω ω ω ω ω);have b:SW (T+1) (1-H) (F+hv S) L=true:=by unfold SW;simp;omega
 have z:=Z (λw'=>re (T+1) (1-H) (F+hv S) L w');rw[b]at z;have f:=Z (λw'=>nc (n:Int) S L (T+1) (1-H) (F+hv S) L 0 0 a o.length c w' ω ω ω ω ω ω);unfold XD;unfold NK at f⊢;have t:(n:Int).toNat=n:=ω
 have u:56-n=m:=ω
 rw[t,u];obtain⟨Q,HQ⟩:∃Q,Hid (Q=hv S):=⟨_,Z rfl⟩;rw[<-HQ.l]at hQ cW z f l aZ⊢;obtain⟨q,d⟩:∃q,q=2+(1-H)*Q:=⟨_,rfl⟩
 have iW:2<=q/\q<=101:=by
  rcases(show H=0\/H=1 by omega) with e|e
  ·subst e;omega
  subst e;omega
 rw[<-d]at f⊢;simp only[Int.add_zero]at f;clear d t u b;obtain⟨iN,iO⟩:=aZ;obtain⟨j,d⟩:∃j,j=MD o:=⟨_,rfl⟩;have gL:=YX o
 have fV:Hid (∀b∈j,b.length<=1048576/\∀x∈b,x.1.size<=1048576/\x.2.1.size<=1048576):=by
  intro b t;rw[d]at t;obtain⟨B,h2⟩:=kt t;exact⟨ω,λx e=>hs _ (h2 x e)⟩
 have B:=Z (λw' e=>qC a o c w' e hc hl hs);have aU:=Z (λk=>da L (F+Q) n m hm eX eY (j.take k))
 have aK:Hid (∀k,MJ (j.take k) (n:Int)<=Q-1):=λk=>by
  have:=pT j k (n:Int);rw[<-d]at l;omega
 rw[<-d]at gL B⊢;clear d l;have eF:Hid (Below w.heap.size w ((w.alloc (.cells (sK (n:Int) S L T H F R U O (.slice a o.length c)) 33)).alloc (.cells (dK 0 0 0 0 0 0 0 0 0 0 (.slice none 0 0) (.slice none 0 0)) 99))):=(LO _ _).alloc σ _;go_enter func102,ntmps102;go_wp2_with fail;refine(cW.l _).z ?_;rintro e w1 ⟨rfl,l⟩;have d:=((MT w (sK (n:Int) S L T H F R U O (.slice a o.length c)) 33).alloc (.cells (dK 0 0 0 0 0 0 0 0 0 0 (.slice none 0 0) (.slice none 0 0)) 99)).I l;have p:=(dt (w:=w.alloc (.cells (sK (n:Int) S L T H F R U O (.slice a o.length c)) 33)) (A:=(dK 0 0 0 0 0 0 0 0 0 0 (.slice none 0 0) (.slice none 0 0))) (t:=99) (g:=w.heap.size+1) σ).I l;have eG:=Z (eF.l.j (l.z τ));obtain⟨u,A,C,D,E,G,I,J,K,M⟩:=d.k10;have t:=d.A 0;have N:=d.A 1;have P:=d.A 2;have V:=d.A 3
 have W:=d.A 4;have X:=d.A 5;have cH:=d.A 6;have cI:=d.A 7;have cJ:=d.A 8;have cL:=d.A 9;have s:=Z d;have y:=Z p;clear d p l;go_wp2_with fail;refine(z.l _).z ?_;rintro e w2 ⟨rfl,l⟩;clear u t A N C P D V E W G X I cH J cI K cJ M cL;have d:=((((s.l.set 3 σ _).set 4 σ _).set 5 σ _).set 6 σ _).I l;have p:=((((y.l.other ⟨w.heap.size,3,none⟩ (by show w.heap.size≠_;omega) _).other ⟨w.heap.size,4,none⟩ (by show w.heap.size≠_;omega) _).other ⟨w.heap.size,5,none⟩ (by show w.heap.size≠_;omega) _).other ⟨w.heap.size,6,none⟩ (by show w.heap.size≠_;omega) _).I l;have r:=((((eG.l.setCell (p:=⟨w.heap.size,3,none⟩) (AA _) (.int .i64 (T+1))).setCell (p:=⟨w.heap.size,4,none⟩) (AA _) (.int .i64 (1-H))).setCell (p:=⟨w.heap.size,5,none⟩) (AA _) (.int .i64 (F+Q))).setCell (p:=⟨w.heap.size,6,none⟩) (AA _) (.int .i64 L))
 have eH:=Z (r.j (l.z r.size));simp only[DL,DP]at d;clear l r eG s y;obtain⟨u,A,C,D,E,G,I,J,K,M⟩:=d.k10;have t:=d.A 0;have N:=d.A 1;have P:=d.A 2;have V:=d.A 3;have W:=d.A 4;have X:=d.A 5;have cH:=d.A 6;have cI:=d.A 7;have cJ:=d.A 8;have cL:=d.A 9;have s:=Z d;have y:=Z p;clear d p;go_wp2_with fail;clear u t A N C P D V E W G X I cH J cI K cJ M cL;obtain⟨l,r⟩:∃l,l=(w2.setCell ⟨w.heap.size,7,none⟩ (.int .i64 0)).setCell ⟨w.heap.size,8,none⟩ (.int .i64 0):=⟨_,rfl⟩;have d:Row l (w.heap.size) (sJ (n:Int) S L (T+1) (1-H) (F+Q) L 0 0 (.slice a o.length c)):=by rw[r];exact(s.l.set 7 σ _).set 8 σ _
 have p:Row l (w.heap.size+1) (dJ 0 0 0 0 0 0 0 0 0 0 (.slice none 0 0) (.slice none 0 0)):=by rw[r];exact(y.l.other ⟨w.heap.size,7,none⟩ (by show w.heap.size≠_;omega) _).other ⟨w.heap.size,8,none⟩ (by show w.heap.size≠_;omega) _
 have t:Below w.heap.size w l:=by rw[r];exact(eH.l.setCell (p:=⟨w.heap.size,7,none⟩) (AA _) _).setCell (p:=⟨w.heap.size,8,none⟩) (AA _) _
 rw[<-r];clear r s y eH;refine(f.l _).z ?_;rintro e w4 ⟨g,rfl,i,r⟩;have iP:=i.ge;have iQ:=i.row.lt;have iA:=r.size;have A:=Z i;have C:=Z r;have s:=Z d;have y:=Z p;have cM:=Z t;have cQ:=d.lt;have dR:=p.lt;clear i r d p t f cW z eF;go_wp2_with fail;refine(Eo l.heap.size g _ _ q (F+Q) L (n:Int) _ A.l iA σ ω ω ω ω).z ?_;rintro e w5 ⟨rfl,p,⟨v5,r,z⟩,u⟩;have f:Below l.heap.size l w5:=C.l.j u;have d:=s.l.I f;have t:=d.y 9;have iX:=u.size;have iM:=p.lt;clear d;go_wp2_with fail;clear t;refine(B.l _ (h.I (cM.l.j (f.z cM.l.size)))).z ?_;rintro e w6 ⟨v6,rfl,i,d⟩;obtain⟨va,vc,rfl,_⟩:=i.bts;have iY:=d.size;have fS:=Z i;have fT:=Z (p.I d);have eI:=Z z
 have t:∀k,v5.ownBlock=some k->k<w5.heap.size:=λk hk=>(r.own.lt k hk).2
 have fW:=Z t;have fZ:=Z (r.I d);have fQ:=Z (f.j (d.z f.size));clear i p z t r d u f B A C;go_wp2_with fail;go_loopw [30] (λi wr=>∃k:Nat,k<=j.length/\i=.int .i64 (k:Int)/\∃v',Wrt wr l.heap.size g v' (MP q (NM L (F+Q) n m (j.take k))) (q+((NM L (F+Q) n m (j.take k)).length:Int)) (F+Q+((NM L (F+Q) n m (j.take k)).length:Int)) L (n:Int)/\Below l.heap.size l wr/\WK g w6 v5 wr v') (λi _=>j.length-(intOf i).toNat)
 case atStart =>
  refine⟨0,AM _,rfl,v5,?_,fQ.l,WK.start _ _ _⟩;rw[ES,ZX];have d:MP q [MM 3 L (F+Q) empty (n:Int)]=[]++[(false,q,MM 3 L (F+Q) empty (n:Int))]:=by simp[MP]
  rw[d];exact fZ.l
 case round =>
  obtain⟨k,hk,rfl,v',i,r,z⟩:=hrel;have hN:((NM L (F+Q) n m (j.take k)).length:Int)<=99:=by have B:=aU.l k;have h2:=aK.l k;omega
  obtain⟨f,d⟩:∃f,f=NM L (F+Q) n m (j.take k):=⟨_,rfl⟩;rw[<-d]at i hN;have fF:l.heap.size<=wr.heap.size:=r.size
  by_cases dU:k<j.length
  ·have D:=fS.l.span (w':=wr) (λb B h2=>z.blk b h2 ω (λe=>by have:=fW.l b e.symm;omega))
   obtain⟨i3,i4,J,E⟩:=D.bts
   cases J
   obtain⟨gl,p,G,rfl,W,V,C⟩:=E.at dU;have X:(k:Int)<(j.length:Int):=ω
   have iT:(0:Int)<=(k:Int):=ω
   have u:=fV.l (j.getD k []) (by simp[List.getD,dU]);have P:((NM L (F+Q) n m (j.take (k+1))).length:Int)<=99:=by have B:=aU.l (k+1);have h2:=aK.l (k+1);omega
   have A:NM L (F+Q) n m (j.take (k+1))=f++PG (LT (j.getD k [])) L (F+Q+(f.length:Int)) n m:=by rw[ZM j k [] dU,ex,<-d]
   obtain⟨b,t⟩:∃b,b=j.getD k []:=⟨_,rfl⟩;rw[<-t]at V C u A;rw[A,AF]at P;have M:=Z (Hk l.heap.size g w4.heap.size v' (MP q f) (q+(f.length:Int)) (F+Q+(f.length:Int)) L n m p b G wr i (fT.l.wk z ω (λe=>eI.l _ e.symm rfl)) ω (λe=>by rcases z.own _ e.symm with B|B;exact eI.l _ B rfl;omega) C u.1 u.2 fF (by rw[QW];omega) hm eX eY ω ω ω ω);have K:=Z A;have cT:=Z r;have N:=Z z;clear t A d u C r D E z i;go_wp2_with (go_at_call 199;refine M.l.z ?_;rintro e I ⟨⟨x,rfl⟩,E,D,C,A⟩);refine⟨⟨k+1,ω,ν,E,?_,cT.l.j C,N.l.j A⟩,by simp[intOf];omega⟩;rw[K.l,xP,AF];have t:q+((f.length+(PG (LT b) L (F+Q+(f.length:Int)) n m).length:Nat):Int)=q+(f.length:Int)+((PG (LT b) L (F+Q+(f.length:Int)) n m).length:Int):=ω
   have u:F+Q+((f.length+(PG (LT b) L (F+Q+(f.length:Int)) n m).length:Nat):Int)=F+Q+(f.length:Int)+((PG (LT b) L (F+Q+(f.length:Int)) n m).length:Int):=ω
   rw[t,u];exact D
  have gW:k=j.length:=ω
  subst gW;have he:f=NM L (F+Q) n m j:=by rw[d,CW]
  clear d;have fO:=Z he;obtain⟨ya,yc,rfl⟩:=i.sl;rw[QW]at i;have y0:=i.row.y 0;have d:=s.l.I r;have p:=y.l.I r;have iS:=i.row.lt;obtain⟨u,A,C,D,E,G,I,J,K,M⟩:=d.k10;have t:=d.A 0;have N:=d.A 1;have P:=d.A 2;have V:=d.A 3;have W:=d.A 4;have X:=d.A 5;have cH:=d.A 6;have cI:=d.A 7;have cJ:=d.A 8;have cL:=d.A 9;have eK:=Z i;have cT:=Z r;have eL:=Z d;have eM:=Z p;clear i r d p z he;go_wp2_with fail;clear u t A N C P D V E W G X I cH J cI K cJ M cL;clear y0;obtain⟨I,i⟩:∃I,I=wr.setCell ⟨w.heap.size,7,none⟩ (.int .i64 (f.length:Int)):=⟨_,rfl⟩;rw[<-i];have D:=eK.l.set w.heap.size 7 cQ (.int .i64 (f.length:Int));have d:=eL.l.set 7 σ (.int .i64 (f.length:Int));have p:=eM.l.other ⟨w.heap.size,7,none⟩ (by show w.heap.size≠_;omega) (.int .i64 (f.length:Int))
  have X:Below w.heap.size w I:=by rw[i];exact(cM.l.j (cT.l.z cM.l.size)).setCell (p:=⟨w.heap.size,7,none⟩) (AA _) _
  have fB:l.heap.size<=I.heap.size:=by rw[i];simpa[World.setCell] using fF
  simp only[DL,DP]at d;rw[<-i]at D d p;clear i eL eM eK;refine(mj l.heap.size g _ _ _ _ _ _ _ D fB (by rw[QW];omega)).z ?_;rintro e w8 ⟨⟨u,rfl⟩,⟨v8,i⟩,E⟩;have M:=d.below2 cQ E;have fI:=p.below2 dR E;have fC:l.heap.size<=w8.heap.size:=AK fB E.size;obtain⟨x0,x1,x2,x3,x4,x5,x6,x7,u,t⟩:=M.k10;have V:=Z i;clear i;go_wp2_with fail;refine(Bd l.heap.size g _ _ _ _ _ _ _ _ _ _ _ V.l fC (by simp[QW];omega) ω).z ?_;rintro e w9 ⟨⟨i5,rfl⟩,⟨v9,W⟩,G⟩;clear x0 x1 x2 x3 x4 x5 x6 x7 u t;have fH:=M.below2 cQ G;have fJ:=fI.below2 dR G;have fE:l.heap.size<=w9.heap.size:=AK fC G.size;go_wp2_with fail;refine(mj l.heap.size g _ _ _ _ _ _ _ W fE (by simp[QW];omega)).z ?_;rintro e A ⟨⟨iB,rfl⟩,⟨iZ,z⟩,C⟩;have P:=fH.below2 cQ C;have K:=fJ.below2 dR C;have gZ:l.heap.size<=A.heap.size:=AK fE C.size
  have eV:Below w.heap.size w A:=((X.j (E.z ω)).j (G.z ω)).j (C.z ω);have fU:=Z eV;obtain⟨za,zc,rfl⟩:=z.sl;have J:(MP q f++[(true,0,empty)]++[(false,(T+1) % 2,MZ (T+1) (1-H) (F+Q) L (n:Int))]++[(true,0,empty)]).length=f.length+3:=by simp[QW]
  obtain⟨r,i,dQ,ez,gU,gV,N⟩:∃r i,f.length+3<=i/\Value.slice za (MP q f++[(true,0,empty)]++[(false,(T+1) % 2,MZ (T+1) (1-H) (F+Q) L (n:Int))]++[(true,0,empty)]).length zc=Value.slice (Mw r 0) (f.length+3) i/\l.heap.size<=r/\r<A.heap.size/\Row A r (OO (MP q f++[(true,0,empty)]++[(false,(T+1) % 2,MZ (T+1) (1-H) (F+Q) L (n:Int))]++[(true,0,empty)])):=by
   rcases NU z.own with ⟨t,u⟩|⟨g,i,t,u,e3,e4⟩
   ·simp at u
   exact⟨g,i,by have:=oq z.own;injection t with _ _ e;omega,by rw[t,J],u,e3,e4⟩
  have y0:=z.row.y 0;rw[ez]at y0;have gN:=z.row.lt;have iR:w.heap.size≠g:=ω
  have gR:w.heap.size+1≠g:=ω
  have gS:¬g=w.heap.size+1:=ω
  obtain⟨x0,x1,x2,x3,x4,x5,x6,x7,u,t⟩:=P.k10;obtain⟨d0,d1,d2,d3,d4,d5,d6,d7,d8,d9,gE,gF⟩:=K.k12;obtain⟨iC,iD,iE,iF,iG,iH,iI,iJ,iK,iL,gG,gH⟩:=K.z12;have iU:w.heap.size<A.heap.size:=ω
  have iV:w.heap.size+1<A.heap.size:=ω
  have cU:=Z N;clear z C G E X eV W D d p M fI fH fJ P K V N ez;go_wp2_with fail;refine AN (S:=λw'=>w'.cell? ⟨w.heap.size,0,none⟩=some (.int .i64 (n:Int))/\w'.cell? ⟨w.heap.size,1,none⟩=some (.int .i64 S)/\w'.cell? ⟨w.heap.size,2,none⟩=some (.int .i64 L)/\w'.cell? ⟨w.heap.size,3,none⟩=some (.int .i64 (T+1))/\w'.cell? ⟨w.heap.size,4,none⟩=some (.int .i64 (1-H))/\w'.cell? ⟨w.heap.size,5,none⟩=some (.int .i64 (F+Q))/\w'.cell? ⟨w.heap.size,6,none⟩=some (.int .i64 L)/\w'.cell? ⟨w.heap.size,7,none⟩=some (.int .i64 (f.length:Int))/\w'.cell? ⟨w.heap.size,8,none⟩=some (.int .i64 0)/\w'.cell? ⟨w.heap.size,9,none⟩=some (.slice a o.length c)/\w'.cell? ⟨g,0,none⟩=some (.slice (Mw r 0) (f.length+3) i)) κ (⟨γ,γ,γ,γ,γ,γ,γ,γ,γ,γ,γ⟩) (λd=>?_);refine TY 0 (.agg (sK (n:Int) S L (T+1) (1-H) (F+Q) L (f.length:Int) 0 (.slice a o.length c))) rfl d (TY 1 (Mv g 0) rfl d (TY 2 (Mv g 0) rfl d (TY 3 (Mv g 0) rfl d (TY 4 (.slice (Mw r 0) (f.length+3) i) rfl d (TY 5 (.agg #[.int .i64 0,.int .i64 (n:Int),.int .i64 S,.int .i64 L,.int .i64 (T+1),.int .i64 (1-H),.int .i64 (F+Q),.int .i64 L,.int .i64 (f.length:Int),.int .i64 0,.slice a o.length c,.slice (Mw r 0) (f.length+3) i]) rfl d ?_)))))
  simp only[PS];refine RD 6 rfl (λK p=>?_);go_simp;refine p.l _ _ (⟨γ,γ,γ,γ,γ,γ,γ,γ,γ,γ,γ⟩) (λC=>?_);clear p K
  try simp only[PS]
  refine DN ?_;go_wp2;rw[<-fO.l];have z:MP q f++[(true,0,empty),(false,(T+1) % 2,MZ (T+1) (1-H) (F+Q) L (n:Int)),(true,0,empty)]=(MP q f++[(true,0,empty)]++[(false,(T+1) % 2,MZ (T+1) (1-H) (F+Q) L (n:Int))]++[(true,0,empty)]):=σ
  rw[z];refine AJ (v:=NZ ⟨0,(n:Int),S,L,T+1,1-H,F+Q,L,(f.length:Int),0,o,(MP q f++[(true,0,empty)]++[(false,(T+1) % 2,MZ (T+1) (1-H) (F+Q) L (n:Int))]++[(true,0,empty)])⟩ a c (Mw r 0) i) (by simp[results,results102,go_sem,NZ,QW,d0,d1,d2,d3,d4,d5,d6,d7,d8,d9,gE,gF]) rfl ⟨_,i,rfl,by rw[J];exact dQ,?_,?_,?_⟩
  ·refine .inr ⟨r,rfl,?_⟩
   refine Row.drew ?_
   iterate 12(refine Row.other ?_ _ (by show w.heap.size+1≠r;omega) _)
   exact cU.l
  ·exactλg p=>by change blk _ (MP q f++[(true,0,empty)]++[(false,(T+1) % 2,MZ (T+1) (1-H) (F+Q) L (n:Int))]++[(true,0,empty)]).length=_ at p;rw[J,NT _ _ _ ω]at p;cases p;omega
  refine Below.drew ?_
  iterate 12(refine II ?_ (by show w.heap.size<=w.heap.size+1;omega) _)
  exact fU.l
theorem yN(W S L T H F R U O:Int)(a:M6)(f:List Pr)(c:Nat)(w:Nb)(t:XI W S L T H F f)(j:¬(T+1<=1000000000/\F+hv S<=999999000)):Calls prog 102 #[NK W S L T H F R U O a f.length c] w λx w'=>x=M3 (NZ (LX 4) none 0 none 0)/\Below w.heap.size w w':=by
 obtain⟨hW,hS,hL,hT,hH,hF,aJ⟩:=t;have X:=QM hS;have m:=Z (λw'=>qG T H F R S L w' ω ω ω ω ω ω)
 have b:SW (T+1) (1-H) (F+hv S) L=false:=by
  refine fe _ _ _ _ ?_
  by_cases d:T+1<=1000000000
  ·exact .inr (.inr (.inr ω))
  exact .inl ω
 have i:=Z (λw'=>re (T+1) (1-H) (F+hv S) L w');rw[b]at i;unfold NK;obtain⟨Q,n⟩:∃Q,Hid (Q=hv S):=⟨_,Z rfl⟩;rw[<-n.l]at X m i j;clear b j;have o:Hid (Below w.heap.size w ((w.alloc (.cells (sK W S L T H F R U O (.slice a f.length c)) 33)).alloc (.cells (dK 0 0 0 0 0 0 0 0 0 0 (.slice none 0 0) (.slice none 0 0)) 99))):=(LO _ _).alloc σ _;go_enter func102,ntmps102;go_wp2_with fail;refine(m.l _).z ?_;rintro e w1 ⟨rfl,h⟩;have b:=((MT w (sK W S L T H F R U O (.slice a f.length c)) 33).alloc (.cells (dK 0 0 0 0 0 0 0 0 0 0 (.slice none 0 0) (.slice none 0 0)) 99)).I h;have d:=(dt (w:=w.alloc (.cells (sK W S L T H F R U O (.slice a f.length c)) 33)) (A:=(dK 0 0 0 0 0 0 0 0 0 0 (.slice none 0 0) (.slice none 0 0))) (t:=99) (g:=w.heap.size+1) σ).I h;have k:=Z (o.l.j (h.z τ));have q:=Z b;have l:=Z d;obtain⟨p,r,s,u,x,y,z,A,B,C⟩:=b.k10
 have D:=b.A 0;have E:=b.A 1;have G:=b.A 2;have I:=b.A 3;have J:=b.A 4;have K:=b.A 5;have M:=b.A 6;have N:=b.A 7;have P:=b.A 8;have V:=b.A 9;clear b d h;go_wp2_with fail;refine(i.l _).z ?_;rintro e w2 ⟨rfl,b⟩;clear p D r E s G u I x J y K z M A N B P C V;have d:=((((l.l.other ⟨w.heap.size,3,none⟩ (by show w.heap.size≠_;omega) _).other ⟨w.heap.size,4,none⟩ (by show w.heap.size≠_;omega) _).other ⟨w.heap.size,5,none⟩ (by show w.heap.size≠_;omega) _).other ⟨w.heap.size,6,none⟩ (by show w.heap.size≠_;omega) _).I b;have h:=((((k.l.setCell (p:=⟨w.heap.size,3,none⟩) (AA _) (.int .i64 (T+1))).setCell (p:=⟨w.heap.size,4,none⟩) (AA _) (.int .i64 (1-H))).setCell (p:=⟨w.heap.size,5,none⟩) (AA _) (.int .i64 (F+Q))).setCell (p:=⟨w.heap.size,6,none⟩) (AA _) (.int .i64 L))
 have p:=Z (h.j (b.z h.size));obtain⟨u,x,y,z,A,B,C,D,E,G,r,s⟩:=d.k12;obtain⟨M,N,K,P,V,cC,cE,cF,cH,cI,I,J⟩:=d.z12;have cJ:=d.lt;clear b h k q l d;go_wp2_with fail;refine AJ (v:=NZ (LX 4) none 0 none 0) (by simp[results,results102,go_sem,NZ,LX,u,x,y,z,A,B,C,D,E,G,r,s]) rfl ⟨rfl,?_⟩
 iterate 12(refine II ?_ (by show w.heap.size<=w.heap.size+1;omega) _)
 exact p.l
theorem Kg(W S L T H F R U O:Int)(a:M6)(j:List Pr)(c:Nat)(w:Nb)(t:0<=H/\H<=1)(s:1<=F/\F<=999999000)(u0:0<=U/\U<=99):Calls prog 103 #[NK W S L T H F R U O a j.length c] w λx w'=>nZ w w' x ⟨0,W,S,L,T,H,F,R,U+1,O,j,[(false,2+H*hv S+U,MM 3 L (F+U) empty W),(true,0,empty)]⟩ a c:=by
 have d:0<=hv S/\hv S<=99:=by by_cases h:8<=S/\S<=200;have:=QM h;omega;rw[YJ h];omega
 have p:=Z (λw'=>nc W S L T H F R U O a j.length c w' t.1 t.2 s.1 s.2 u0.1 u0.2);unfold NK at p⊢;obtain⟨q,b⟩:∃q,q=2+H*hv S:=⟨_,rfl⟩
 have eC:2<=q/\q<=101:=by
  rcases(show H=0\/H=1 by omega) with e|e
  ·subst e;omega
  subst e;omega
 rw[<-b]at p⊢;clear b d;have eF:IntKind.i64.wrap (U+1)=U+1:=by simp[IntKind.wrap,IntKind.bits,IntKind.signed];omega
 go_enter func103,ntmps103;go_wp2_with fail;obtain⟨l,e⟩:∃x,x=(w.alloc (.cells (sK W S L T H F R U O (.slice a j.length c)) 33)).alloc (.cells (dK 0 0 0 0 0 0 0 0 0 0 (.slice none 0 0) (.slice none 0 0)) 99):=⟨_,rfl⟩;have i:Below w.heap.size w l:=by rw[e];exact(LO _ _).alloc σ _
 have dQ:w.heap.size+1+1<=l.heap.size:=by rw[e];simp
 have b:Dep l w.heap.size (w.heap.size+1) (λf=>Row f w.heap.size (sJ W S L T H F R U O (.slice a j.length c))):=by rw[e];exact(XQ w _ _).I (LO _ _)
 have d:Dep l (w.heap.size+1) (w.heap.size+1+1) (λf=>Row f (w.heap.size+1) (dJ 0 0 0 0 0 0 0 0 0 0 (.slice none 0 0) (.slice none 0 0))):=by rw[e];exact OU (dt (w:=w.alloc _) σ) (AA _) ω σ
 rw[<-e];clear e;refine(p.l _).z ?_;rintro e v1 ⟨g,rfl,m,k⟩;have dR:l.heap.size<=v1.heap.size:=k.size;have f:=b.I k;clear b;have b:=f;clear f;have f:=d.I k;clear d;have d:=f;clear f;have f:=i.j (k.z i.size);clear i;have i:=f;clear f;clear k;have dZ:=m.ge;have N:=Z m;clear m;go_wp2_with fail;refine(nO l.heap.size g _ [] (q+U) (F+U) L W _ N.l ω σ ω ω ω ω).z ?_;rintro e x1 ⟨⟨x,rfl⟩,v8,m,k,_⟩;have dU:=k.size;have f:=b.low k ω;clear b;have b:=f;clear f;have f:=d.low k ω;clear d;have d:=f;clear f;have f:=i.j (k.z ω);clear i;have i:=f;clear f;have n:=Z m;clear m k;go_wp2_with fail;refine(mj l.heap.size g _ _ _ _ _ _ _ n.l ω σ).z ?_;rintro e x2 ⟨⟨x9,rfl⟩,⟨v9,m⟩,k⟩;have dV:=k.size;have f:=b.low k ω;clear b;have b:=f;clear f
 have f:=d.low k ω;clear d;have d:=f;clear f;have f:=i.j (k.z ω);clear i;have i:=f;clear f;clear k n;simp only[DW,EI]at m;obtain⟨k,n,rfl⟩:=m.sl;simp only[CY,AR,Nat.reduceAdd]at m;have y0:=m.row.y 0;have yl:=m.row.lt;have eB:w.heap.size≠g:=ω
 have dH:w.heap.size+1≠g:=ω
 have dL:¬g=w.heap.size+1:=ω
 have dM:¬g=w.heap.size:=ω
 have o:=Z m;clear m;obtain⟨cH,cI,cJ,cL,cM,cN,cO,cP,cQ,cS⟩:=b.q.k10;have bR:=b.q.A 0;have bT:=b.q.A 1;have bU:=b.q.A 2;have bV:=b.q.A 3;have bW:=b.q.A 4;have bY:=b.q.A 5;have bZ:=b.q.A 6;have b7:=b.q.A 7;have cA:=b.q.A 8;have cB:=b.q.A 9;have cT:=b.q.lt;obtain⟨z,A,B,C,D,E,G,I,J,M,u,y⟩:=d.q.k12;obtain⟨aX,aY,aZ,bC,bE,bG,bH,bI,bJ,bQ,aT,aU⟩:=d.q.z12;have cF:=d.q.lt;go_wp2_with fail;refine AN (S:=λw'=>w'.cell? ⟨w.heap.size,0,none⟩=some (.int .i64 W)/\w'.cell? ⟨w.heap.size,1,none⟩=some (.int .i64 S)/\w'.cell? ⟨w.heap.size,2,none⟩=some (.int .i64 L)/\w'.cell? ⟨w.heap.size,3,none⟩=some (.int .i64 T)/\w'.cell? ⟨w.heap.size,4,none⟩=some (.int .i64 H)/\w'.cell? ⟨w.heap.size,5,none⟩=some (.int .i64 F)/\w'.cell? ⟨w.heap.size,6,none⟩=some (.int .i64 R)/\w'.cell? ⟨w.heap.size,7,none⟩=some (.int .i64 (U+1))/\w'.cell? ⟨w.heap.size,8,none⟩=some (.int .i64 O)/\w'.cell? ⟨w.heap.size,9,none⟩=some (.slice a j.length c)/\w'.cell? ⟨g,0,none⟩=some (.slice k 2 n)) κ (⟨γ,γ,γ,γ,γ,γ,γ,γ,γ,γ,γ⟩) (λm=>?_)
 refine TY 0 (.agg (sK W S L T H F R (U+1) O (.slice a j.length c))) rfl m (TY 1 (Mv g 0) rfl m (TY 2 (Mv g 0) rfl m (TY 3 (Mv g 0) rfl m (TY 4 (.slice k 2 n) rfl m (TY 5 (.agg (dK 0 W S L T H F R (U+1) O (.slice a j.length c) (.slice k 2 n))) rfl m ?_)))));simp only[PS];refine RD 6 rfl (λK f=>?_);go_simp;refine f.l _ _ (⟨γ,γ,γ,γ,γ,γ,γ,γ,γ,γ,γ⟩) (λcZ=>?_);clear f K
 try simp only[PS]
 refine DN ?_;go_wp2
 have r:∀g,blk k 2=some g->l.heap.size<=g:=λg f=>by
  unfold blk at f
  split at f
  ·cases f
  cases k with
  | none=>cases f
  | some K=>simp at f;subst f;exact(o.l.own.lt K.block rfl).1
 have P:OwnS x2 k (OO [(false,q+U,MM 3 L (F+U) empty W),(true,0,empty)]):=by
  rcases NU o.l.own with ⟨_,V⟩|⟨g,K,Q,_,_,X⟩
  ·simp at V
  have e5:k=Mw g 0:=by injection Q
  subst e5;exact .inr ⟨g,rfl,X⟩
 refine AJ (v:=NZ ⟨0,W,S,L,T,H,F,R,U+1,O,j,[(false,q+U,MM 3 L (F+U) empty W),(true,0,empty)]⟩ a c k n) (by simp[results,results103,go_sem,NZ,z,A,B,C,D,E,G,I,J,M,u,y]) rfl ⟨k,n,rfl,oq o.l.own,?_,?_,?_⟩
 ·refine OwnS.drew' ?_
  iterate 12(refine OwnS.set' ?_ _ (λg f K=>by have:=r g (by subst f;exact NT _ _ _ ω);show w.heap.size+1≠g;omega) _)
  iterate 1(refine OwnS.set' ?_ _ (λg f K=>by have:=r g (by subst f;exact NT _ _ _ ω);show w.heap.size≠g;omega) _)
  exact P
 ·exactλg f=>by have:=r g f;omega
 refine Below.drew ?_
 iterate 12(refine II ?_ (by show w.heap.size<=w.heap.size+1;omega) _)
 iterate 1(refine II ?_ (by show w.heap.size<=w.heap.size;omega) _)
 exact i
theorem uJ(W S L T H F R U O:Int)(a:M6)(n c:Nat)(w:Nb)(l:0<=U)(k:U<=100000):Calls prog 101 #[NK W S L T H F R U O a n c] w λe w'=>e=M3 (.int .i64 (hv S-U))/\Below w.heap.size w w':=by
 have j:0<=hv S/\hv S<=99:=by by_cases h:8<=S/\S<=200;have:=QM h;omega;rw[YJ h];omega
 have f:=Z (λw'=>dz S w');obtain⟨Q,i⟩:∃Q,Hid (Q=hv S):=⟨_,Z rfl⟩;rw[<-i.l]at j f⊢;have m:IntKind.i64.wrap (Q-U)=Q-U:=by simp[IntKind.wrap,IntKind.bits,IntKind.signed];omega
 unfold NK;go_enter func101,ntmps101;go_wp2_with fail;refine AN (S:=λw'=>w'.cell? ⟨w.heap.size,1,none⟩=some (.int .i64 S)/\w'.cell? ⟨w.heap.size,7,none⟩=some (.int .i64 U)) κ (⟨γ,γ⟩) (λb=>?_);refine TY 0 (Mv w.heap.size 1) rfl b (TY 1 (.int .i64 S) rfl b (TY 3 (Mv w.heap.size 7) rfl b (TY 4 (.int .i64 U) rfl b ?_)));simp only[PS];refine RD 2 rfl (λK d=>?_);refine LW ρ 98 #[.int .i64 S] γ (f.l _) ?_;rintro e o ⟨rfl,rfl⟩;refine⟨_,rfl,?_⟩;refine d.l _ _ b (λ_=>?_);clear d K
 try simp only[PS]
 refine TY 5 (.int .i64 (Q-U)) rfl b ?_;simp only[PS];refine RD 6 rfl (λK d=>?_);go_simp;refine d.l _ _ b (λ_=>?_);clear d K
 try simp only[PS]
 refine DN ?_;go_wp2;go_ret;exact⟨rfl,(LO _ _).drew⟩
theorem Jp(W S L T H F R U O:Int)(a:M6)(d:List Pr)(c:Nat)(w:Nb)(h:Prs w a d)(hc:d.length<=c)(E:d.length<=1048576)(G:∀x∈d,x.1.size<=1048576/\x.2.size<=1048576):Calls prog 67 #[NK W S L T H F R U O a d.length c] w λx w'=>ee w w' x (RQ W S L T H F R U O d):=by
 have f:=Z (λw' b=>kn W S L T H F R U O a d c w' b hc E G);have A:=Z h;clear h G;obtain⟨z,r⟩:∃D,Hid (D=RQ W S L T H F R U O d):=⟨_,Z rfl⟩;rw[<-r.l];unfold NK at f⊢;go_enter func67,ntmps67;go_upto_region 1 with fail;generalize b:w.alloc _=v1;obtain⟨i,k,l⟩:=LY b;clear b;generalize b:v1.alloc _=I;obtain⟨j,m,e⟩:=LY b;clear b;rw[k]at e;have b:StB w I (sJ W S L T H F R U O (.slice a d.length c)) (λ_=>True):=⟨i.j (j.z i.size),(l.I j).q,e.q,LQ (λ_=>trivial)⟩;have n:w.heap.size+1<I.heap.size:=e.q.lt;clear i j l e k m;refine BE ?_;refine AS rfl 33 _ rfl w.heap.size 0 rfl _ _ b.r1.range underlying33 rfl QI ?_;simp only[PS];go_wp2_with fail;refine(f.l _ (A.l.I b.e)).z ?_;rintro x t ⟨rfl,e⟩;replace b:=b.I e;have l3:w.heap.size+1<t.heap.size:=b.r2.lt;clear e n f
 cases hok:OB W S L T H F R U O d with
 | false =>
  obtain rfl:z=LX 1:=by rw[r.l];unfold RQ;rw[AG (by rw[hok];simp)]
  go_upto_region 2 with fail;refine b.noR 1 _ _ rfl γ rfl rfl rfl rfl (λy p k=>?_)
  try simp only[PS]
  clear b
  try go_wp2
  refine VO 2 results67 _ ?_ p ?_ k.l<;>rfl
 | true =>
  obtain rfl:z=⟨0,W,S,L,T,H,F,R,U,0,d,[(true,0,empty)]⟩:=by rw[r.l];unfold RQ;rw[AE hok]
  have X:0<=H/\H<=1/\1<=F/\F<=999999000/\0<=U/\U<=99:=by
   unfold OB SW at hok;simp at hok;have e:=QM (S:=S) ω;omega
  obtain⟨h0,h1,f0,f1,u0,u1⟩:=X;have f:=Z (λw'=>nc W S L T H F R U O a d.length c w' h0 h1 f0 f1 u0 u1);unfold NK at f;clear hok;go_upto_region 3 with fail;refine BE ?_;refine AS rfl 33 _ rfl w.heap.size 0 rfl _ _ b.r1.range underlying33 rfl QI ?_;simp only[PS];go_wp2_with fail;refine(f.l _).z ?_;rintro x v4 ⟨g,rfl,i,e⟩;replace b:=b.I e;have l4:=e.size;clear e f;go_wp2_with fail;refine(mj t.heap.size g _ [] _ _ _ _ _ i l4 σ).z ?_;rintro x v5 ⟨⟨x5,rfl⟩,⟨v',i⟩,e⟩;replace b:=b.low e l3;clear e
  obtain⟨j,f,rfl,aV⟩:∃j f,v'=Value.slice (Mw j 0) 1 f/\t.heap.size<=j:=by
   rcases NU i.own with ⟨k,e⟩|⟨g,f,k,e,l,m⟩
   ·simp at e
   exact⟨g,f,k,e⟩
  have l:=b.r1.y 8;have e:=b.r1.y 9;have m:=b.r1.A 8;have k:=b.r1.lt;go_wp2_with fail;clear l m e k;replace b:=b.set 8 σ (.int .i64 0);replace i:=i.set w.heap.size 8 ω (.int .i64 0);generalize e:World.setCell _ _ _=u at b i⊢;clear e;have aU:j<u.heap.size:=(i.own.lt j rfl).2;have k:=ZF a d c u (A.l.I b.e) E;unfold MH at k;refine k.z ?_;rintro x v7 ⟨m,n,rfl,V,l,s,e⟩;unfold MH;have q:=LS (lo:=u.heap.size) l SM s;replace b:=b.I e;replace i:=i.I e;clear e k l;have e:=b.r1.y 9;have l:=b.r1.A 9;have k:=b.r1.lt;go_upto_region 7 with fail;clear e l k;replace b:=b.set 9 σ (.slice m d.length n);replace i:=i.set w.heap.size 9 ω (.slice m d.length n);replace q:=q.J (QC (BY v7 (some w.heap.size)) 9 (.slice m d.length n)) (λg e=>by cases e;omega)
  generalize e:World.setCell _ _ _=o at b i q⊢;clear e;have C:=AB o.heap.size o;refine VS (6) (S:=λw'=>Row w' w.heap.size (sJ W S L T H F R U 0 (.slice m d.length n))/\w'.cell? ⟨g,0,none⟩=some (.slice (Mw j 0) 1 f)) κ (⟨b.r1.I C.drew,(i.I C.drew).row.y 0⟩) (λe=>?_);refine OZ 0 (.agg (sK W S L T H F R U 0 (.slice m d.length n))) rfl (BO ⟨ρ,λw i=>by obtain⟨J,K⟩:=i;exact LJ 33 _ rfl _ 0 rfl _ _ J.range underlying33 rfl QI⟩) e (NN 1 (Mv g 0) rfl e (NN 2 (Mv g 0) rfl e (OZ 3 (Mv g 0) rfl (BO ⟨ρ,λw i=>by obtain⟨J,K⟩:=i;have l:=DM _ _ K;go_simp⟩) e (NN 4 (.slice (Mw j 0) 1 f) rfl e (NN 5 (.agg (dK 0 W S L T H F R U 0 (.slice m d.length n) (.slice (Mw j 0) 1 f))) rfl e ?_)))))
  simp only[PS];refine RT (rs:=[6]) κ σ ?_;refine AllReadyT.last rfl (λKq P=>?_);have B:=b.I (AB o.heap.size o).drew;refine LH rfl 99 _ _ rfl (w.heap.size+1) 0 (dK 0 W S L T H F R U 0 (.slice m d.length n) (.slice (Mw j 0) 1 f)) rfl rfl (B.r2.there rfl) UB κ ?_;refine P.l _ _ trivial (λ_=>?_)
  try simp only[PS]
  refine UY κ ?_ _;have D:=AB o.heap.size o;have M:=oq i.own
  have Q:ZP m d.length (Mw j 0) 1:=Bx s (λg k=>by rw[NT _ _ _ σ]at k;cases k;exact aU)
  obtain⟨p,y⟩:=B.fin ⟨0,W,S,L,T,H,F,R,U,0,d,[(true,0,empty)]⟩ m n (Mw j 0) f V ⟨(q.I D.drew).q,.inr ⟨j,rfl,(TE (NC i.own D.drew))⟩,Q⟩ (λg k=>by have:=s g k;omega) (λg k=>by rw[NT _ _ _ σ]at k;cases k;omega)
  have k:=Z y;clear y;generalize N:World.setCells _ _ _ _=y at p k⊢;clear N b
  try go_wp2
  refine VO 2 results67 _ ?_ p ?_ k.l M<;>rfl
theorem Jm(x:Wo)(q:Wp)(w:Nb)(o:x.rs.length<=1048576):Calls prog 110 #[NK x.W x.S x.L x.T x.H x.F x.R x.U x.O q.s x.rs.length q.cs] w λe w'=>e=M3 (M0 (QZ x))/\Below w.heap.size w w':=by
 unfold NK
 by_cases c:x.W=0
 rotate_left
 ·have e:QZ x=false:=AI (λa=>c a.1)
  rw[e];go_enter func110,ntmps110;go_wp2;go_ret;exact⟨rfl,LD _ _⟩
 by_cases d:x.S=0
 rotate_left
 ·have e:QZ x=false:=AI (λa=>d a.2.1)
  rw[e];go_enter func110,ntmps110;go_wp2;go_ret;exact⟨rfl,LD _ _⟩
 by_cases f:x.L=0
 rotate_left
 ·have e:QZ x=false:=AI (λa=>f a.2.2.1)
  rw[e];go_enter func110,ntmps110;go_wp2;go_ret;exact⟨rfl,LD _ _⟩
 by_cases b:(x.T=0/\x.H=0/\x.F=0/\x.R=0)
 rotate_left
 ·have e:QZ x=false:=AI (λa=>b a.2.2.2.1)
  rw[e];have h:(Value.agg #[.int .i64 x.T,.int .i64 x.H,.int .i64 x.F,.int .i64 x.R]=Value.agg #[.int .i64 0,.int .i64 0,.int .i64 0,.int .i64 0])=False:=τ
  go_enter func110,ntmps110;go_wp2
  all_goals (go_ret;exact⟨rfl,LD _ _⟩)
 by_cases h:x.U=0
 rotate_left
 ·have e:QZ x=false:=AI (λa=>h a.2.2.2.2.1)
  rw[e];go_enter func110,ntmps110;go_wp2;go_ret;exact⟨rfl,LD _ _⟩
 by_cases i:x.O=0
 rotate_left
 ·have e:QZ x=false:=AI (λa=>i a.2.2.2.2.2.1)
  rw[e];go_enter func110,ntmps110;go_wp2;go_ret;exact⟨rfl,LD _ _⟩
 by_cases j:x.rs.length=0
 rotate_left
 ·have e:QZ x=false:=AI (λa=>j a.2.2.2.2.2.2)
  rw[e];have a:¬(x.rs.length:Int)=0:=ω
  go_enter func110,ntmps110;go_wp2;go_ret;have k:((x.rs.length:Int) == 0)=false:=EO.2 a;exact⟨by show M3 (M0 ((x.rs.length:Int) == 0))=_;rw[k],LD _ _⟩
 have e:QZ x=true:=AL ⟨c,d,f,b,h,i,j⟩;rw[e];obtain⟨k,l,m,n⟩:=b;have a:(x.rs.length:Int)=0:=ω
 go_enter func110,ntmps110;go_wp2;go_ret;exact⟨rfl,LD _ _⟩
theorem Eb(x:Wo)(q:Wp)(w:Nb)(o:x.rs.length<=1048576):Calls prog 42 #[NK x.W x.S x.L x.T x.H x.F x.R x.U x.O q.s x.rs.length q.cs] w λe w'=>e=M3 (M0 (QZ x))/\Below w.heap.size w w':=by
 unfold NK
 by_cases c:x.W=0
 rotate_left
 ·have e:QZ x=false:=AI (λa=>c a.1)
  rw[e];go_enter func42,ntmps42;go_wp2;go_ret;exact⟨rfl,LD _ _⟩
 by_cases d:x.S=0
 rotate_left
 ·have e:QZ x=false:=AI (λa=>d a.2.1)
  rw[e];go_enter func42,ntmps42;go_wp2;go_ret;exact⟨rfl,LD _ _⟩
 by_cases f:x.L=0
 rotate_left
 ·have e:QZ x=false:=AI (λa=>f a.2.2.1)
  rw[e];go_enter func42,ntmps42;go_wp2;go_ret;exact⟨rfl,LD _ _⟩
 by_cases b:(x.T=0/\x.H=0/\x.F=0/\x.R=0)
 rotate_left
 ·have e:QZ x=false:=AI (λa=>b a.2.2.2.1)
  rw[e];have h:(Value.agg #[.int .i64 x.T,.int .i64 x.H,.int .i64 x.F,.int .i64 x.R]=Value.agg #[.int .i64 0,.int .i64 0,.int .i64 0,.int .i64 0])=False:=τ
  go_enter func42,ntmps42;go_wp2
  all_goals (go_ret;exact⟨rfl,LD _ _⟩)
 by_cases h:x.U=0
 rotate_left
 ·have e:QZ x=false:=AI (λa=>h a.2.2.2.2.1)
  rw[e];go_enter func42,ntmps42;go_wp2;go_ret;exact⟨rfl,LD _ _⟩
 by_cases i:x.O=0
 rotate_left
 ·have e:QZ x=false:=AI (λa=>i a.2.2.2.2.2.1)
  rw[e];go_enter func42,ntmps42;go_wp2;go_ret;exact⟨rfl,LD _ _⟩
 by_cases j:x.rs.length=0
 rotate_left
 ·have e:QZ x=false:=AI (λa=>j a.2.2.2.2.2.2)
  rw[e];have a:¬(x.rs.length:Int)=0:=ω
  go_enter func42,ntmps42;go_wp2;go_ret;have k:((x.rs.length:Int) == 0)=false:=EO.2 a;exact⟨by show M3 (M0 ((x.rs.length:Int) == 0))=_;rw[k],LD _ _⟩
 have e:QZ x=true:=AL ⟨c,d,f,b,h,i,j⟩;rw[e];obtain⟨k,l,m,n⟩:=b;have a:(x.rs.length:Int)=0:=ω
 go_enter func42,ntmps42;go_wp2;go_ret;exact⟨rfl,LD _ _⟩
