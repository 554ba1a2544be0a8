import Derived.Test.YtjdmogljfdffeaaGreatDoorPrG43
set_option maxHeartbeats 16000000
namespace Go.Proofs.YtjdmogljfdffeaaGreatDoor
open Tryz
open Go.RowKit
set_option maxRecDepth 8000
set_option linter.all false
variable {B:Nat}{w:World}
structure WcO(w w':World)(x:Wo)(q:Wp):Prop where
 cs:x.rs.length<=q.cs
 tt:w'.ownsRow w.heap.size 9 1 (.slice q.t x.ts.length q.ct) x.ts.length (x.ts.map Value.string)/\DepF w' (λb=>w.heap.size<=b/\(Value.slice q.t x.ts.length q.ct).ownBlock≠some b) (λW=>Strs W q.a x.ss/\Wrs W q.a' x.ws/\Prs W q.s x.rs)/\PstF w' (λb=>w.heap.size<=b/\(Value.slice q.t x.ts.length q.ct).ownBlock≠some b) q.p x.P
 pp:∃news,w'.ownsRow w.heap.size 31 1 (.slice q.p x.P.length q.cp) x.P.length news/\DepF w' (λb=>w.heap.size<=b/\(Value.slice q.p x.P.length q.cp).ownBlock≠some b) (λW=>Strs W q.a x.ss/\Wrs W q.a' x.ws/\Prs W q.s x.rs/\Strs W q.t x.ts)/\∀i,i<x.P.length->∃p c,news[i]?=some (.slice p (x.P.getD i []).length c)/\DepF w' (λb=>w.heap.size<=b/\(Value.slice q.p x.P.length q.cp).ownBlock≠some b) (λW=>Prs W p (x.P.getD i []))
def Ab(w a:World)(r:Ending)(x:Wo):Prop:=∃q g c,r=.returned (LO x q)/\WoF x a (λb=>w.heap.size<=b) q/\q.a=some ⟨g,0,none⟩/\q.a'=some ⟨c,0,none⟩/\a.ownsRow w.heap.size 9 1 (.slice q.a x.ss.length q.c) x.ss.length (x.ss.map Value.string)/\a.ownsRow w.heap.size 134 2 (.slice q.a' x.ws.length q.c') x.ws.length (MH x.ws)/\g≠c/\Below w.heap.size w a/\WcO w a x q
theorem se{a f:World}{r d:Option Nat}(h:a.grownBy w r)(b:w.grownBy f d)(k:∀g,d=some g->a.heap.size<=g):a.grownBy f r :=⟨b.os.j h.os,b.tape.j h.tape,b.output.j h.output,AL h.size b.size,λi c j=>(b.block i (AD c h.size) (λe=>by have:=k i e.symm;omega)).j (h.block i c j)⟩
theorem fh{a f:World}{X b i:Nat}(g:a.grownBy w (some X))(h:a.grownBy f (some X))(c:b<a.heap.size)(d:b≠X):f.cell? ⟨b,i,none⟩=w.cell? ⟨b,i,none⟩ :=CT (a:=⟨b,i,none⟩) ((h.block b c (λe=>d (by injection e))).j (g.block b c (λe=>d (by injection e))).symm)
structure PcS(W w:World)(G:Nat->Prop)(v:Value)(P:List (List Pr))(j:Nat)(news:List Value):Prop where
 own:w.ownsRow W.heap.size 31 1 v j news
 len:news.length=j
 low:∀b,G b->W.heap.size<=b/\b<w.heap.size
 l:∀b,v.ownBlock=some b->¬G b
 ech:∀i,i<j->∃p c,news[i]?=some (.slice p (P.getD i []).length c)/\DepF w G (λU=>Prs U p (P.getD i []))
section
variable {W w w':World} {G:Nat->Prop} {v:Value} {P:List (List Pr)} {j:Nat} {news:List Value}
theorem PcS.z(h:PcS W w G v P j news)(a:Below w.heap.size w w'):PcS W w' G v P j news :=⟨LR h.own a,h.len,λb k=>⟨(h.low b k).1,AD (h.low b k).2 a.size⟩,h.l,λi d=>by obtain⟨p,c,e,f⟩:=h.ech i d;exact⟨p,c,e,f.z a⟩⟩
theorem PcS.set(h:PcS W w G v P j news)(X i:Nat)(u:Value)(a:X<W.heap.size):PcS W (w.setCell ⟨X,i,none⟩ u) G v P j news:=by
 have d:=UI w X i u;refine⟨AQ h.own (λe=>by have:=(h.own.lt _ e).1;exact absurd this (Nat.not_le.2 a)) u,h.len,λb k=>⟨(h.low b k).1,by rw[BJ];exact(h.low b k).2⟩,h.l,λk f=>?_⟩;obtain⟨p,c,b,l⟩:=h.ech k f
 exact⟨p,c,b,l.I d (λg e=>by cases e;exactλk=>absurd (h.low _ k).1 ω)⟩
theorem PcS.push{g cap:Nat}{p1:Option Addr}{c1:Nat}(h:PcS W w G v P j news)(o:DepF w (λb=>B<=b/\b<w.heap.size) (λU=>Prs U p1 (P.getD j [])))(r:W.heap.size<=B)(hv:∀b,v.ownBlock=some b->b<B)(l:w'.ownsRow W.heap.size 31 1 (.slice (some ⟨g,0,none⟩) (j+1) cap) (j+1) (news++[.slice p1 (P.getD j []).length c1]))(f:w.grownBy w' v.ownBlock)(m:v.ownBlock=some g\/w.heap.size<=g):PcS W w' (λb=>G b\/(B<=b/\b<w.heap.size)) (.slice (some ⟨g,0,none⟩) (j+1) cap) P (j+1) (news++[.slice p1 (P.getD j []).length c1]):=by
 have d:∀k,v.ownBlock=some k->¬(G k\/(B<=k/\k<w.heap.size)):=λk e a=>by
  rcases a with a|a
  ·exact h.l k e a
  have:=hv k e;omega
 refine⟨l,by rw[AE,h.len];rfl,λb k=>?_,λb e k=>?_,λi s=>?_⟩
 ·have:=f.size
  rcases k with k|k
  ·have:=h.low b k;omega
  omega
 ·have n:g=b:=by injection e
  subst n;rcases m with c|c
  ·exact d g c k
  rcases k with k|k
  ·have:=(h.low g k).2;omega
  omega
 by_cases e:i<j
 ·obtain⟨p,c,n,q⟩:=h.ech i e
  exact⟨p,c,by rw[BA (by rw[h.len];exact e)];exact n,(q.A (λb _ k=>.inl k)).I f d⟩
 obtain rfl:i=j:=ω
 exact⟨p1,c1,by rw[<-h.len];simp,(o.A (λb _ k=>.inr k)).I f d⟩
theorem PcS.pst(h:PcS W w G v P P.length news)(t:W.heap.size<=w.heap.size)(a:Option Addr)(m c:Nat)(e:v=.slice a m c)(F:Nat->Prop)(hF:∀b,W.heap.size<=b->F b):PstF w F a P:=by
 subst e
 by_cases d:P=[]
 ·exact .inl d
 rcases MO h.own with ⟨f,l⟩|⟨g,o,f,l⟩
 ·exact absurd (AB l) d
 cases f
 have n:=SA h.own;refine .inr ⟨g,0,rfl,n.lt,hF g (h.own.lt g rfl).1,λi q=>?_⟩;obtain⟨p,c,r,s⟩:=h.ech i q;exact⟨p,c,by rw[BH];exact n.cell i _ r,s.A (λb _ k=>hF b (h.low b k).1)⟩
end
def jx(a w:World)(d:Nat)(e:Value->List Value)(P:List (List Pr))(j:Nat):Prop:=∃(G:Nat->Prop) (b:Value) (c:List Value),PcS a w G b P j c/\Dep w d (d+1) (λU=>Row U d (e b))/\a.grownBy w (some d)
theorem jq{c:Nat}{e:TypeId}{k:Nat}{v:Value}{m:Nat}{d:List Value}(h:w.ownsRow B e k v m d)(i:c<=B):w.ownsRow c e k v m d:=by
 refine⟨h.1,?_⟩;rcases h.2 with f|⟨g,a,b,j,l,k3⟩
 ·exact .inl f
 exact .inr ⟨g,a,b,j,AL i l,k3⟩
theorem YP{e:TypeId}{k g c m:Nat}{a:List Value}(h:w.ownsRow B e k (.slice (some ⟨g,0,none⟩) m c) m a):OwnS w (some ⟨g,0,none⟩) a:=.inr ⟨g,rfl,SA h⟩
theorem ue(x:Wo)(q:Wp)(w:World)(h:x.at w q)(hm:x.le 1048576):Calls prog 85 #[LO x q] w λr C=>Ab w C r x:=by
 have m1:=hm.l1;have m2:=hm.l2;have m3:=hm.l3;have m4:=hm.l4;have m5:=hm.l5;have iU:=Z hm.s4;obtain⟨i0,a,b,c,d⟩:=XK ef;have HI:=Z (AH a (AH b (AH c d)));clear a b c d;obtain⟨i1,a,b,c,d⟩:=XK mw;have HJ:=Z (AH a (AH b (AH c d)));clear a b c d hm;have CD:=Z (λC k1 k2=>yR q.a x.ss q.c q.a' x.ws q.c' C k1 k2 m1 m2);unfold LE at CD;have CS:=Z (λa b c C k1 k2=>lk a b c C k1 k2);unfold LQ at CS;unfold LO;have m:Below w.heap.size w w:=AC _ _;go_enter func85,ntmps85;go_upto_region 1 with fail;generalize a:w.alloc _=v1;obtain⟨f,gX,p⟩:=LF a;clear a;replace m:=m.j (f.A m.size);clear f;generalize a:v1.alloc _=v2;obtain⟨f,gI,s⟩:=LF a;clear a;rw[gX]at s gI;replace p:=p.z f;replace m:=m.j (f.A m.size);clear f;obtain⟨H,I,K,L,M,N,O,S,T,X,l,n,u,A,D,E,aT⟩:=c16 p.q
 go_upto_region 2 with fail;clear H I K L M N O S T X l n u A D E aT;generalize a:v2.alloc _=v3;obtain⟨f,b,o⟩:=LF a;have jB:v2.heap.size+1<=v3.heap.size:=ω
 clear a b;replace p:=p.z f;replace s:=s.z f;replace m:=m.j (f.A m.size);clear f;obtain⟨d,a⟩:∃y,y=w.heap.size+1+1:=⟨_,rfl⟩;rw[gI,<-a]at o;rw[<-a];have jW:w.heap.size+1<d:=ω
 have jX:d<v3.heap.size:=o.q.lt;clear a;obtain⟨H,I,K,L,M,N,O,S,T,X,l,n,u,A,D,E,aT⟩:=c16 p.q;go_wp2_with fail;clear H I K L M N O S T X l n u A D E aT;refine(CD.l _ (h.z m).h1 (h.z m).h2).A ?_;rintro e v4 ⟨g,W,R,eB,rfl,a,b,i6,f⟩;have jC:v3.heap.size<=v4.heap.size:=f.size;replace p:=p.z f;replace s:=s.z f;replace o:=o.z f;replace m:=m.j (f.A m.size);have t:=fw a;have v:=fw b;have lD:d<v3.heap.size:=ω
 clear a b;clear f;unfold LE;obtain⟨P,Q,S,T,U,X,cW,cY,cZ,dH,l,n,r,u,z,A⟩:=o.q.k16;obtain⟨D,E,G,H,I,K,L,M,N,O,a,b,f,i,j,k⟩:=o.q.z16;have dL:=o.q.lt;go_upto_region 3 with fail;clear P D Q E S G T H U I X K cW L cY M cZ N dH O l a n b r f u i z j A k dL;generalize a:((v4.setCell _ _).setCell _ _)=v5;have l:v4.grownBy v5 (some (d)):=by rw[<-a];exact OG (OG (BO _ _) _ _) _ _
 have u:=a ▸ ((o.q.set 1 σ (.slice (some ⟨g,0,none⟩) x.ss.length W)).set 2 σ (.slice (some ⟨R,0,none⟩) x.ws.length eB));have jD:v4.heap.size<=v5.heap.size:=l.size
 have n:∀g,(some (d):Option Nat)=some g->d<=g/\g<d+1:=λg c=>by injection c with c;omega
 clear a;replace p:=p.I l (λg c=>by have:=n g c;omega);replace s:=s.I l (λg c=>by have:=n g c;omega);replace t:=t.I l (λg c=>by have:=n g c;omega);replace v:=v.I l (λg c=>by have:=n g c;omega);replace m:=m.j (MR l m.size (λg c=>by have:=n g c;omega));have f:=u.lt;clear o;have o:=az u;clear u l n f;obtain⟨H,I,K,L,M,N,O,S,T,X,l,n,u,A,D,E,aT⟩:=c16 p.q;go_wp2_with fail;clear H I K L M N O S T X l n u A D E aT;refine(CS.l q.s x.rs q.cs _ (h.z m).h3 m3).A ?_;rintro e v6 ⟨s1,eJ,rfl,b,i,a,f⟩;have jE:v5.heap.size<=v6.heap.size:=f.size;replace p:=p.z f;replace s:=s.z f;replace o:=o.z f;replace t:=t.z f;replace v:=v.z f;replace m:=m.j (f.A m.size);have F:=PD (lo:=v5.heap.size) i RA a;have iV:=Z b;clear i a b;clear f;unfold LQ;obtain⟨P,Q,S,T,U,X,cW,cY,cZ,dH,l,n,r,u,z,A⟩:=o.q.k16
 obtain⟨D,E,G,H,I,K,L,M,N,O,a,b,f,i,j,k⟩:=o.q.z16;have dL:=o.q.lt;go_upto_region 4 with fail;clear P D Q E S G T H U I X K cW L cY M cZ N dH O l a n b r f u i z j A k dL;generalize a:(v6.setCell _ _)=v7;have l:v6.grownBy v7 (some (d)):=by rw[<-a];exact OG (BO _ _) _ _
 have u:=a ▸ (o.q.set 13 σ (.slice s1 x.rs.length eJ));have jF:v6.heap.size<=v7.heap.size:=l.size
 have n:∀g,(some (d):Option Nat)=some g->d<=g/\g<d+1:=λg c=>by injection c with c;omega
 clear a;replace p:=p.I l (λg c=>by have:=n g c;omega);replace s:=s.I l (λg c=>by have:=n g c;omega);replace t:=t.I l (λg c=>by have:=n g c;omega);replace v:=v.I l (λg c=>by have:=n g c;omega);replace F:=F.I l (λg c=>by have:=n g c;omega);replace m:=m.j (MR l m.size (λg c=>by have:=n g c;omega));have f:=u.lt;clear o;have o:=az u;clear u l n f;obtain⟨P,Q,S,T,U,X,cW,cY,cZ,dH,l,n,r,u,z,A⟩:=o.q.k16;obtain⟨D,E,G,H,I,K,L,M,N,O,a,b,f,i,j,k⟩:=o.q.z16;have dL:=o.q.lt;go_upto_region 5 with fail;clear P D Q E S G T H U I X K cW L cY M cZ N dH O l a n b r f u i z j A k dL;obtain⟨PB,a⟩:∃y,y=v7.heap.size:=⟨_,rfl⟩;rw[<-a];generalize b:(v7.setCell _ _)=r;have l:v7.grownBy r (some (d)):=by rw[<-b];exact OG (BO _ _) _ _
 have u:=b ▸ (o.q.set 14 σ (.slice (some ⟨PB,0,none⟩) 0 0));have jG:v7.heap.size<=r.heap.size:=l.size
 have n:∀g,(some (d):Option Nat)=some g->d<=g/\g<d+1:=λg c=>by injection c with c;omega
 have D:r.heap.size=v7.heap.size:=by rw[<-b,BJ]
 clear b;replace p:=p.I l (λg c=>by have:=n g c;omega);replace s:=s.I l (λg c=>by have:=n g c;omega);replace t:=t.I l (λg c=>by have:=n g c;omega);replace v:=v.I l (λg c=>by have:=n g c;omega);replace F:=F.I l (λg c=>by have:=n g c;omega);replace m:=m.j (MR l m.size (λg c=>by have:=n g c;omega));have f:=u.lt;clear o;have o:=az u;clear u l n f;have j:=CJ (w:=r) (e:=31) (size:=1) (base:=r.heap.size) #[] 0 (Y _) σ σ;generalize b:r.alloc _=v9;have f:Below r.heap.size r v9:=by rw[<-b];exact QJ _ _
 rw[b]at j;have A:v9.heap.size=r.heap.size+1:=by rw[<-b];simp
 clear b;have n:r.grownBy v9 (some d):=RW _ f;have z:=f;clear f;have u:PcS r v9 (λ_=>False) (.slice (some ⟨PB,0,none⟩) 0 0) x.P 0 []:=⟨by rw[<-D]at a;rw[a];exact j,rfl,λb k=>k.elim,λb _ k=>k.elim,λi hi=>absurd hi ω⟩;have gL:d<r.heap.size:=ω
 have l:=o.z z;have jQ:=Z A;clear j D A a;go_wp2;go_loopw [4] (λf wr=>∃(j:Nat),j<=x.P.length/\f=.int .i64 (j:Int)/\jx r wr d (λa=>[.int .i64 x.w,.slice (some ⟨g,0,none⟩) x.ss.length W,.slice (some ⟨R,0,none⟩) x.ws.length eB,.bool x.up,.int .i64 x.W,.int .i64 x.S,.int .i64 x.L,.int .i64 x.T,.int .i64 x.H,.int .i64 x.F,.int .i64 x.R,.int .i64 x.U,.int .i64 x.O,.slice s1 x.rs.length eJ,a,.slice q.t x.ts.length q.ct]) x.P j) (λf _=>x.P.length-(intOf f).toNat)
 case atStart=>exact⟨0,AO _,rfl,⟨_,_,[],u,l,n⟩⟩
 case round =>
  clear u l n z;obtain⟨j,hj,rfl,gN⟩:=hrel;obtain⟨G,a,news,l,n,f⟩:=gN;replace n:Dep wr d (d+1) (λU=>Row U d [.int .i64 x.w,.slice (some ⟨g,0,none⟩) x.ss.length W,.slice (some ⟨R,0,none⟩) x.ws.length eB,.bool x.up,.int .i64 x.W,.int .i64 x.S,.int .i64 x.L,.int .i64 x.T,.int .i64 x.H,.int .i64 x.F,.int .i64 x.R,.int .i64 x.U,.int .i64 x.O,.slice s1 x.rs.length eJ,a,.slice q.t x.ts.length q.ct]):=n;clear o;obtain⟨P,Q,rfl⟩:=NP l.own;have jT:=f.size;have o:Below w.heap.size w wr:=m.j (MR f m.size (λg c=>by injection c with c;omega));have rA:=(p.I f (λg c=>by injection c with c;omega)).q;have fG:=rA.y 14;have iP:=rA.lt;have fH:=Z o;have S:=Z f;have A:=Z l;have HO:=Z n;clear f l n o
  by_cases gK:j<x.P.length
  ·have i5:(j:Int)<(x.P.length:Int):=ω
   have jR:(0:Int)<=(j:Int):=ω
   have jV:IntKind.i64.wrap ((j:Int)+1)=((j+1:Nat):Int):=by rw[jv _ ω ω];omega
   obtain⟨z,L,p1,eX,i8,gW,f,l⟩:=h.h4.at gK;have jU:=fH.l.size;have i9:z<wr.heap.size:=ω
   have fY:=(fH.l.cell (p:=⟨z,L+j,none⟩) gW).j f;clear f;have fE:=(iU.l _ (show x.P.getD j []∈x.P by rw[List.getD,BQ gK];exact JH gK)).1;obtain⟨o,eQ⟩:∃y,Hid (y=x.P.getD j []):=⟨_,Z rfl⟩;rw[<-eQ.l]at fY fE;have f:=l.l.z fH.l;rw[<-eQ.l]at f;have iA:=Z f;clear l f;rw[i8]at fG;clear rA
   have HK:Hid (∀U,Below wr.heap.size wr U->U.cell? ⟨w.heap.size,14,none⟩=some (.slice (some ⟨z,L,none⟩) x.P.length q.cp)/\U.cell? ⟨z,L+j,none⟩=some (.slice p1 o.length eX)):=λU f=>⟨(f.cell (p:=⟨w.heap.size,14,none⟩) iP).j fG,(f.cell (p:=⟨z,L+j,none⟩) i9).j fY⟩
   go_upto_region 8 with fail;refine AN (S:=λC=>C.cell? ⟨w.heap.size,14,none⟩=some (.slice (some ⟨z,L,none⟩) x.P.length q.cp)/\C.cell? ⟨z,L+j,none⟩=some (.slice p1 o.length eX)) κ (HK.l _ (AC _ _).drew) (λfC=>?_);refine V 0 (.pointer (some ⟨d,14,none⟩)) rfl fC (V 2 (.pointer (some ⟨w.heap.size,14,none⟩)) rfl fC (V 3 (.slice (some ⟨z,L,none⟩) x.P.length q.cp) rfl fC (V 4 (.int .i64 (j:Int)) rfl fC (V 5 (.pointer (some ⟨z,L+j,none⟩)) rfl fC (V 6 (.agg #[.slice p1 o.length eX]) rfl fC ?_)))));simp only[J];refine DH (rs:=[1,7]) κ σ ?_;refine AY rfl (λM l=>?_) (AY rfl (λM l=>?_) DE)
   ·have iO:=(HO.l.z (AC _ _).drew).q.y 14
    go_simp;refine l.l _ _ fC (λ_=>?_)
    try simp only[J]
    refine RD 7 rfl (λM l=>?_);obtain⟨y0,n⟩:∃y,y=wr.drew:=⟨_,rfl⟩;rw[<-n];have N:Below wr.heap.size wr y0:=by rw[n];exact(AC _ _).drew
    clear n;refine LC ρ _ _ γ (CS.l p1 o eX _ (iA.l.z N) fE) ?_;rintro e O ⟨E,D,rfl,C,u,n,gV⟩;refine⟨_,rfl,?_⟩;have eL:=N.j (gV.A N.size);have eK:=PD (lo:=y0.heap.size) u RA n;clear u n C;refine l.l _ _ (HK.l _ eL) (λiX=>?_)
    try simp only[J]
    refine RD 8 rfl (λM l=>?_);go_simp;have I:=QJ O (.cells #[.slice E o.length D] 31);have rN:=LU O #[.slice E o.length D] 31;obtain⟨y2,C⟩:∃y,y=O.alloc (.cells #[.slice E o.length D] 31):=⟨_,rfl⟩;obtain⟨NB,u⟩:∃y,y=O.heap.size:=⟨_,rfl⟩;rw[<-C]at I rN⊢;rw[<-u]at rN⊢;have n:=eL.j (I.A eL.size);have eK:=eK.z I;clear C u;refine l.l _ _ (HK.l _ n) (λiY=>?_)
    try simp only[J]
    refine RD 9 rfl (λM l=>?_);have iM:=n.size;refine QM _ ρ _ _ _ ρ r.heap.size underlying34 HJ.l rfl ω (.slice P j Q) j _ ρ (LR A.l.own n) ⟨NB,0,none⟩ 1 1 [.slice E o.length D] ρ rfl (λj u K=>by rw[ZU];exact rN.cell j u K) (by intro u K;simp at K;subst K;rfl) (by have:=n.size;omega) _ rfl ?_;intro g9 T C o9 X eG fX;have fV:=(A.l.z n).push (B:=y0.heap.size) (p1:=E) (c1:=D) (by rw[<-eQ.l];exact(QK eK (λb k1 k2=>⟨k1,by have:=I.size;omega⟩)).map λU k=>k.prs) (by have:=N.size;omega) (λb e=>by have:=(A.l.own.lt _ e).2;have:=N.size;omega) (by rw[<-eQ.l];exact o9) X (eG.imp id (λe=>ω));have H:=(HO.l.z n).I X (λg e=>by have:=(A.l.own.lt _ e).1;omega);have eF:r.grownBy C (some d):=se (OS S.l (RW _ n)) X (λg e=>(A.l.own.lt _ e).1);have eI:C.cell? ⟨w.heap.size,14,none⟩=some (.slice (some ⟨z,L,none⟩) x.P.length q.cp)/\C.cell? ⟨z,L+j,none⟩=some (.slice p1 o.length eX):=⟨(fh S.l eF ω ω).j fG,(fh S.l eF ω ω).j fY⟩
    refine l.l _ _ (eI) (λgQ=>?_)
    try simp only[J]
    refine V 10 (.pointer (some ⟨d,14,none⟩)) rfl gQ ?_;simp only[J];refine RD 11 rfl (λM l=>?_);have l3:=H.q.y 14;have f3:=H.q.E 14;have t3:=H.q.lt;go_simp;refine l.l _ _ (⟨(AP _ _ _ _ (by show d≠w.heap.size;omega)).j eI.1,(AP _ _ _ _ (by show d≠z;omega)).j eI.2⟩) (λiZ=>?_)
    try simp only[J]
    refine DN ?_;have HF:jx r (C.setCell ⟨d,14,none⟩ (.slice (some ⟨g9,0,none⟩) (j+1) T)) d (λa=>[.int .i64 x.w,.slice (some ⟨g,0,none⟩) x.ss.length W,.slice (some ⟨R,0,none⟩) x.ws.length eB,.bool x.up,.int .i64 x.W,.int .i64 x.S,.int .i64 x.L,.int .i64 x.T,.int .i64 x.H,.int .i64 x.F,.int .i64 x.R,.int .i64 x.U,.int .i64 x.O,.slice s1 x.rs.length eJ,a,.slice q.t x.ts.length q.ct]) x.P (j+1):=⟨_,.slice (some ⟨g9,0,none⟩) (j+1) T,_,fV.set d 14 _ gL,az (H.q.set 14 σ (.slice (some ⟨g9,0,none⟩) (j+1) T)),OS eF (UI C d 14 _)⟩;go_wp2;exact⟨⟨j+1,ω,ν,HF⟩,by simp[intOf];omega⟩
   obtain⟨y0,n⟩:∃y,y=wr.drew:=⟨_,rfl⟩
   rw[<-n];have N:Below wr.heap.size wr y0:=by rw[n];exact(AC _ _).drew
   clear n;refine LC ρ _ _ γ (CS.l p1 o eX _ (iA.l.z N) fE) ?_;rintro e O ⟨E,D,rfl,C,u,n,gV⟩;refine⟨_,rfl,?_⟩;have eL:=N.j (gV.A N.size);have eK:=PD (lo:=y0.heap.size) u RA n;clear u n C;refine l.l _ _ (HK.l _ eL) (λgR=>?_)
   try simp only[J]
   refine DH (rs:=[1,8]) κ σ ?_;refine AY rfl (λM l=>?_) (AY rfl (λM l=>?_) DE)
   ·have iO:=(HO.l.z eL).q.y 14
    go_simp;refine l.l _ _ gR (λ_=>?_)
    try simp only[J]
    refine RD 8 rfl (λM l=>?_);go_simp;have I:=QJ O (.cells #[.slice E o.length D] 31);have rN:=LU O #[.slice E o.length D] 31;obtain⟨y2,C⟩:∃y,y=O.alloc (.cells #[.slice E o.length D] 31):=⟨_,rfl⟩;obtain⟨NB,u⟩:∃y,y=O.heap.size:=⟨_,rfl⟩;rw[<-C]at I rN⊢;rw[<-u]at rN⊢;have n:=eL.j (I.A eL.size);have eK:=eK.z I;clear C u;refine l.l _ _ (HK.l _ n) (λi3=>?_)
    try simp only[J]
    refine RD 9 rfl (λM l=>?_);have iM:=n.size;refine QM _ ρ _ _ _ ρ r.heap.size underlying34 HJ.l rfl ω (.slice P j Q) j _ ρ (LR A.l.own n) ⟨NB,0,none⟩ 1 1 [.slice E o.length D] ρ rfl (λj u K=>by rw[ZU];exact rN.cell j u K) (by intro u K;simp at K;subst K;rfl) (by have:=n.size;omega) _ rfl ?_;intro g9 T C o9 X eG fX;have fV:=(A.l.z n).push (B:=y0.heap.size) (p1:=E) (c1:=D) (by rw[<-eQ.l];exact(QK eK (λb k1 k2=>⟨k1,by have:=I.size;omega⟩)).map λU k=>k.prs) (by have:=N.size;omega) (λb e=>by have:=(A.l.own.lt _ e).2;have:=N.size;omega) (by rw[<-eQ.l];exact o9) X (eG.imp id (λe=>ω));have H:=(HO.l.z n).I X (λg e=>by have:=(A.l.own.lt _ e).1;omega);have eF:r.grownBy C (some d):=se (OS S.l (RW _ n)) X (λg e=>(A.l.own.lt _ e).1);have eI:C.cell? ⟨w.heap.size,14,none⟩=some (.slice (some ⟨z,L,none⟩) x.P.length q.cp)/\C.cell? ⟨z,L+j,none⟩=some (.slice p1 o.length eX):=⟨(fh S.l eF ω ω).j fG,(fh S.l eF ω ω).j fY⟩
    refine l.l _ _ (eI) (λgS=>?_)
    try simp only[J]
    refine V 10 (.pointer (some ⟨d,14,none⟩)) rfl gS ?_;simp only[J];refine RD 11 rfl (λM l=>?_);have l3:=H.q.y 14;have f3:=H.q.E 14;have t3:=H.q.lt;go_simp;refine l.l _ _ (⟨(AP _ _ _ _ (by show d≠w.heap.size;omega)).j eI.1,(AP _ _ _ _ (by show d≠z;omega)).j eI.2⟩) (λiF=>?_)
    try simp only[J]
    refine DN ?_;have HF:jx r (C.setCell ⟨d,14,none⟩ (.slice (some ⟨g9,0,none⟩) (j+1) T)) d (λa=>[.int .i64 x.w,.slice (some ⟨g,0,none⟩) x.ss.length W,.slice (some ⟨R,0,none⟩) x.ws.length eB,.bool x.up,.int .i64 x.W,.int .i64 x.S,.int .i64 x.L,.int .i64 x.T,.int .i64 x.H,.int .i64 x.F,.int .i64 x.R,.int .i64 x.U,.int .i64 x.O,.slice s1 x.rs.length eJ,a,.slice q.t x.ts.length q.ct]) x.P (j+1):=⟨_,.slice (some ⟨g9,0,none⟩) (j+1) T,_,fV.set d 14 _ gL,az (H.q.set 14 σ (.slice (some ⟨g9,0,none⟩) (j+1) T)),OS eF (UI C d 14 _)⟩;go_wp2;exact⟨⟨j+1,ω,ν,HF⟩,by simp[intOf];omega⟩
   go_simp
   have I:=QJ O (.cells #[.slice E o.length D] 31);have rN:=LU O #[.slice E o.length D] 31;obtain⟨y2,C⟩:∃y,y=O.alloc (.cells #[.slice E o.length D] 31):=⟨_,rfl⟩;obtain⟨NB,u⟩:∃y,y=O.heap.size:=⟨_,rfl⟩;rw[<-C]at I rN⊢;rw[<-u]at rN⊢;have n:=eL.j (I.A eL.size);have eK:=eK.z I;clear C u;refine l.l _ _ (HK.l _ n) (λy=>?_)
   try simp only[J]
   refine RD 1 rfl (λM l=>?_);have iO:=(HO.l.z n).q.y 14;go_simp;refine l.l _ _ y (λ_=>?_)
   try simp only[J]
   refine RD 9 rfl (λM l=>?_);have iM:=n.size;refine QM _ ρ _ _ _ ρ r.heap.size underlying34 HJ.l rfl ω (.slice P j Q) j _ ρ (LR A.l.own n) ⟨NB,0,none⟩ 1 1 [.slice E o.length D] ρ rfl (λj u K=>by rw[ZU];exact rN.cell j u K) (by intro u K;simp at K;subst K;rfl) (by have:=n.size;omega) _ rfl ?_;intro g9 T C o9 X eG fX;have fV:=(A.l.z n).push (B:=y0.heap.size) (p1:=E) (c1:=D) (by rw[<-eQ.l];exact(QK eK (λb k1 k2=>⟨k1,by have:=I.size;omega⟩)).map λU k=>k.prs) (by have:=N.size;omega) (λb e=>by have:=(A.l.own.lt _ e).2;have:=N.size;omega) (by rw[<-eQ.l];exact o9) X (eG.imp id (λe=>ω));have H:=(HO.l.z n).I X (λg e=>by have:=(A.l.own.lt _ e).1;omega);have eF:r.grownBy C (some d):=se (OS S.l (RW _ n)) X (λg e=>(A.l.own.lt _ e).1);have eI:C.cell? ⟨w.heap.size,14,none⟩=some (.slice (some ⟨z,L,none⟩) x.P.length q.cp)/\C.cell? ⟨z,L+j,none⟩=some (.slice p1 o.length eX):=⟨(fh S.l eF ω ω).j fG,(fh S.l eF ω ω).j fY⟩
   refine l.l _ _ (eI) (λfU=>?_)
   try simp only[J]
   refine V 10 (.pointer (some ⟨d,14,none⟩)) rfl fU ?_;simp only[J];refine RD 11 rfl (λM l=>?_);have l3:=H.q.y 14;have f3:=H.q.E 14;have t3:=H.q.lt;go_simp;refine l.l _ _ (⟨(AP _ _ _ _ (by show d≠w.heap.size;omega)).j eI.1,(AP _ _ _ _ (by show d≠z;omega)).j eI.2⟩) (λiG=>?_)
   try simp only[J]
   refine DN ?_;have HF:jx r (C.setCell ⟨d,14,none⟩ (.slice (some ⟨g9,0,none⟩) (j+1) T)) d (λa=>[.int .i64 x.w,.slice (some ⟨g,0,none⟩) x.ss.length W,.slice (some ⟨R,0,none⟩) x.ws.length eB,.bool x.up,.int .i64 x.W,.int .i64 x.S,.int .i64 x.L,.int .i64 x.T,.int .i64 x.H,.int .i64 x.F,.int .i64 x.R,.int .i64 x.U,.int .i64 x.O,.slice s1 x.rs.length eJ,a,.slice q.t x.ts.length q.ct]) x.P (j+1):=⟨_,.slice (some ⟨g9,0,none⟩) (j+1) T,_,fV.set d 14 _ gL,az (H.q.set 14 σ (.slice (some ⟨g9,0,none⟩) (j+1) T)),OS eF (UI C d 14 _)⟩;go_wp2;exact⟨⟨j+1,ω,ν,HF⟩,by simp[intOf];omega⟩
  have iL:j=x.P.length:=ω
  have l:=A.l;rw[iL]at l;have f:=(l.pst ω P x.P.length Q rfl (λb=>r.heap.size<=b) (λb k=>k)).A (G:=λb=>r.heap.size<=b/\b<wr.heap.size) (λb n k=>⟨k,n⟩);have fI:=Z f;have iT:Hid (∀b,(Value.slice P x.P.length Q).ownBlock=some b->b<wr.heap.size):=Z (λb e=>(l.own.lt b e).2);clear f;have fJ:=Z l;have jS:¬((j:Int)<(x.P.length:Int)):=ω
  have f:=S.l;have o:=HO.l;clear l A HO S gK;replace p:=p.I f (λg c=>by injection c with c;omega);replace s:=s.I f (λg c=>by injection c with c;omega);replace t:=t.I f (λg c=>by injection c with c;omega);replace v:=v.I f (λg c=>by injection c with c;omega);replace F:=F.I f (λg c=>by injection c with c;omega);replace m:=fH.l;have jH:=f.size;clear f fH rA fG iP;obtain⟨H,I,K,L,M,N,O,S,T,X,l,n,u,A,D,E,aT⟩:=c16 p.q;go_upto_region 10 with (at_builtin;refine oK rfl _ _ 23 rfl 9 i0 (.string ByteArray.empty) 1 16 underlying23 HI.l.1 HI.l.2.1 HI.l.2.2.1 HI.l.2.2.2 rfl wr.heap.size wr.heap.size rfl (CJ _ #[] 0 (Y _) σ σ) _ rfl x.ts.length _ (YS ((h.z m).h5.z (QJ _ _)) _ _ underlying23 q.ct) ω ω σ ?_;intro y z ws eV i4 C;have f:Below wr.heap.size wr ws:=(QJ _ _).j (C.A σ);have iW:=(o.z f).q.E 15;have jA:=(o.z f).q.y 15;have kl:=(o.z f).q.lt;clear C i4)
  clear H I K L M N O S T X l n u A D E aT;have C:=fw eV;clear eV iW jA kl;have jI:wr.heap.size<=ws.heap.size:=f.size;replace fJ:=Z (fJ.l.z f);replace fI:=Z (fI.l.z f);have jY:wr.heap.size<=y:=(C.q.lt y rfl).1;replace p:=p.z f;replace s:=s.z f;replace o:=o.z f;replace t:=t.z f;replace v:=v.z f;replace F:=F.z f;replace m:=m.j (f.A m.size);clear f;generalize f:(ws.setCell _ _)=E;have l:ws.grownBy E (some (d)):=by rw[<-f];exact OG (BO _ _) _ _
  have u:=f ▸ (o.q.set 15 σ (.slice (some ⟨y,0,none⟩) x.ts.length z));have iQ:ws.heap.size<=E.heap.size:=l.size
  have n:∀g,(some (d):Option Nat)=some g->d<=g/\g<d+1:=λg c=>by injection c with c;omega
  replace fI:=Z (by have:=fI.l.I (UI _ d 15 (.slice (some ⟨y,0,none⟩) x.ts.length z)) (λg e k=>by cases e;omega);rw[f]at this;exact this);replace fJ:=Z (by have:=fJ.l.set d 15 (.slice (some ⟨y,0,none⟩) x.ts.length z) gL;rw[f]at this;exact this);clear f;replace p:=p.I l (λg c=>by have:=n g c;omega);replace s:=s.I l (λg c=>by have:=n g c;omega);replace t:=t.I l (λg c=>by have:=n g c;omega);replace v:=v.I l (λg c=>by have:=n g c;omega);replace F:=F.I l (λg c=>by have:=n g c;omega);replace C:=C.I l (λg c=>by have:=n g c;omega);replace m:=m.j (MR l m.size (λg c=>by have:=n g c;omega));have f:=u.lt;clear o;have o:=az u;clear u l n f;refine BG ?_;refine AS rfl 36 _ rfl d 0 rfl [.int .i64 x.w,.slice (some ⟨g,0,none⟩) x.ss.length W,.slice (some ⟨R,0,none⟩) x.ws.length eB,.bool x.up,.int .i64 x.W,.int .i64 x.S,.int .i64 x.L,.int .i64 x.T,.int .i64 x.H,.int .i64 x.F,.int .i64 x.R,.int .i64 x.U,.int .i64 x.O,.slice s1 x.rs.length eJ,.slice P j Q,.slice (some ⟨y,0,none⟩) x.ts.length z] _ o.q.range underlying36 rfl LX ?_
  simp only[J];refine BI rfl 36 _ _ rfl (w.heap.size+1) 0 #[.int .i64 x.w,.slice (some ⟨g,0,none⟩) x.ss.length W,.slice (some ⟨R,0,none⟩) x.ws.length eB,.bool x.up,.int .i64 x.W,.int .i64 x.S,.int .i64 x.L,.int .i64 x.T,.int .i64 x.H,.int .i64 x.F,.int .i64 x.R,.int .i64 x.U,.int .i64 x.O,.slice s1 x.rs.length eJ,.slice P j Q,.slice (some ⟨y,0,none⟩) x.ts.length z] rfl rfl (s.q.there rfl) LX κ ?_
  try simp only[J]
  generalize f:E.setCells _ _ _=M;have l:E.grownBy M (some (w.heap.size+1)):=by rw[<-f];exact OQ _ _ _ _
  have u:=f ▸ s.q.sets [.int .i64 x.w,.slice (some ⟨g,0,none⟩) x.ss.length W,.slice (some ⟨R,0,none⟩) x.ws.length eB,.bool x.up,.int .i64 x.W,.int .i64 x.S,.int .i64 x.L,.int .i64 x.T,.int .i64 x.H,.int .i64 x.F,.int .i64 x.R,.int .i64 x.U,.int .i64 x.O,.slice s1 x.rs.length eJ,.slice P j Q,.slice (some ⟨y,0,none⟩) x.ts.length z] rfl;clear f;have iR:=l.size
  have n:∀g,(some (w.heap.size+1):Option Nat)=some g->w.heap.size+1<=g/\g<w.heap.size+1+1:=λg c=>by injection c with c;omega
  have A:=fJ.l;replace t:=t.I l (λg c=>by have:=n g c;omega);replace v:=v.I l (λg c=>by have:=n g c;omega);replace F:=F.I l (λg c=>by have:=n g c;omega);replace C:=C.I l (λg c=>by have:=n g c;omega);replace m:=m.j (MR l m.size (λg c=>by have:=n g c;omega));go_wp2;have K:=c16 u;obtain⟨z0,z1,z2,z3,z4,z5,z6,z7,z8,z9,N,O,S,T,X,jP,jZ⟩:=K;have I:=((A.pst ω P x.P.length Q rfl (λb=>r.heap.size<=b) (λb k=>k)).I l (λg c k=>by have:=n g c;omega)).A (G:=λb=>w.heap.size<=b) (λb _ k=>ω);refine AI (v:=.agg #[.int .i64 x.w,.slice (some ⟨g,0,none⟩) x.ss.length W,.slice (some ⟨R,0,none⟩) x.ws.length eB,.bool x.up,.int .i64 x.W,.int .i64 x.S,.int .i64 x.L,.int .i64 x.T,.int .i64 x.H,.int .i64 x.F,.int .i64 x.R,.int .i64 x.U,.int .i64 x.O,.slice s1 x.rs.length eJ,.slice P j Q,.slice (some ⟨y,0,none⟩) x.ts.length z]) (by simp[results,results85,go_sem,z0,z1,z2,z3,z4,z5,z6,z7,z8,z9,N,O,S,T,X,jP]) rfl ⟨⟨some ⟨g,0,none⟩,W,some ⟨R,0,none⟩,eB,s1,eJ,P,Q,some ⟨y,0,none⟩,z⟩,g,R,by unfold LO;rw[iL],⟨?_,?_,?_,I,?_⟩,rfl,rfl,jq t.q ω,jq v.q ω,i6,m,⟨iV.l,?_,?_⟩⟩
  ·exact(QK t (λb f _=>ω)).map λU k=>(YP k).strs
  ·exact(QK v (λb f _=>ω)).map λU k=>(YP k).wrs
  ·exact(QK F (λb f _=>ω)).map λU k=>k.prs
  ·exact(QK C (λb f _=>ω)).map λU k=>(YP k).strs
  ·have H:=(fI.l.I l (λg c k=>by have:=n g c;omega)).A (G:=λb=>w.heap.size<=b/\(Value.slice (some ⟨y,0,none⟩) x.ts.length z).ownBlock≠some b) (λb _ k=>⟨ω,λe=>by have e:y=b:=CZ e;omega⟩)
   refine⟨jq C.q ω,?_,H⟩
   exact(QK (F:=λb=>w.heap.size<=b/\(Value.slice (some ⟨y,0,none⟩) x.ts.length z).ownBlock≠some b) t (λb f D=>⟨ω,λe=>by have e:y=b:=CZ e;omega⟩)).and ((QK v (λb f D=>⟨ω,λe=>by have e:y=b:=CZ e;omega⟩)).and (QK F (λb f D=>⟨ω,λe=>by have e:y=b:=CZ e;omega⟩))) |>.map λU k=>⟨(YP k.1).strs,(YP k.2.1).wrs,k.2.2.prs⟩
  have L:=A.own.kept l (.inr (λe=>by have H:=(A.own.lt _ e).1;omega))
  refine⟨_,jq L ω,?_,λi hi=>?_⟩
  ·exact(QK (F:=λb=>w.heap.size<=b/\(Value.slice P x.P.length Q).ownBlock≠some b) t (λb f D=>⟨ω,λe=>by have:=(A.own.lt _ e).1;omega⟩)).and ((QK v (λb f D=>⟨ω,λe=>by have:=(A.own.lt _ e).1;omega⟩)).and ((QK F (λb f D=>⟨ω,λe=>by have:=(A.own.lt _ e).1;omega⟩)).and (QK C (λb f D=>⟨ω,λe=>by have:=iT.l b e;omega⟩)))) |>.map λU k=>⟨(YP k.1).strs,(YP k.2.1).wrs,k.2.2.1.prs,(YP k.2.2.2).strs⟩
  obtain⟨p1,f,D,H⟩:=A.ech i hi
  exact⟨p1,f,D,(H.I l (λg c k=>by have:=n g c;have:=(A.low g k).1;omega)).A (G:=λb=>w.heap.size<=b/\(Value.slice P x.P.length Q).ownBlock≠some b) (λb _ k=>⟨by have:=(A.low b k).1;omega,λe=>A.l b e k⟩)⟩
