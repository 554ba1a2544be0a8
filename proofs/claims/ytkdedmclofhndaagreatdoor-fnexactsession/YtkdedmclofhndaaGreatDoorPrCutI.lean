import Derived.Test.YtkdedmclofhndaaGreatDoorPrG27
set_option maxHeartbeats 16000000
namespace Go.Proofs.YtkdedmclofhndaaGreatDoor
open Tryz
open Go.RowKit
set_option linter.all false
theorem Ej(s r:yZ)(a m:Nat)(h:r=s.extract a s.size)(b:r.size<=m):r=s.extract a (a+m):=MW s r a m h b
theorem J0(s r:yZ)(a m:Nat)(h:r=s.extract a s.size)(b:r.size<=m):ByteArray.empty=s.extract (a+m) s.size:=by
 subst h;simp only[AQ]at b
 apply EQ
 symm
 apply EU
 show(ByteArray.size _)=0;simp only[AQ];omega
theorem qM(s r:yZ)(k m N:Nat)(b:N=PX s.size m)(c:0<m)(a:k<N)(h:r=s.extract (k*m) s.size):r.size<=m<->k+1=N:=by
 subst h;rw[b]at a⊢;rw[<-Ew s.size m k c a];simp only[AQ,IW,JY];omega
theorem yJ(K l x:Int)(p:yZ)(n m:Nat)(d:n+m=56)(b:1<=n)(c:n<=8)(a:K=1\/K=2)(e:p.size<=m):NC K l x p (n:Int)=decide (1<=l/\l<=60000/\1<=x/\x<=1000000000):=by
 unfold NC
 apply JT.2
 rcases a with rfl|rfl<;>constructor<;>intro h<;>omega
theorem Nt{f:Int}{k:Nat}(l:Int)(P:Nat->Prop)(h:∀j,j<k->1<=l/\l<=60000/\1<=f+(j:Int)/\f+(j:Int)<=1000000000)(b:-9223372036854775808<=f)(c:f<=9223372036854775807)(d:k<=1048577):-9223372036854775808<=f+(k:Int)/\f+(k:Int)<=9223372036854775807:=by
 rcases IP k with a|a
 ·subst a;simp;omega
 have:=h 0 a;simp at this;omega
theorem nK(k l m:Int)(p:yZ)(n:Int):(MJ k l m p n).toList.isEmpty=!NC k l m p n:=by
 rw[VA];unfold MJ
 cases h:NC k l m p n with
 | false=>simp
 | true =>
  simp only[IU];have a:1<=n/\n<=8/\(p.size:Int)<=56-n:=by unfold NC at h;simp at h;omega
  rw[cz k l m p n.toNat ω];rfl
set_option maxRecDepth 4000 in
theorem Nx(s:yZ)(l f:Int)(n m:Nat)(w:xV)(hs:s.size<=1048576)(z:n+m=56)(t:1<=n)(v:n<=8)(bQ:-9223372036854775808<=f)(bR:f<=9223372036854775807):Calls prog 253 #[yQ s,Z l,Z f,Z (n:Int)] w λe a=>qg w a e (OC s l f n m):=by
 obtain⟨N,g⟩:∃N,Hid (N=PX s.size m):=⟨_,Y rfl⟩;have bW:N<=1048577:=by have:=pY s.size m;rw[g.j];omega
 have bJ:0<N:=by rw[g.j];exact tY _ _
 have bI:Hid (OO s.size (n:Int)=(N:Int)):=by
  show _=_;unfold OO;rw[AI ω,g.j,show(56-(n:Int)).toNat=m by omega]
 obtain⟨R,E⟩:∃R,Hid (R=OC s l f n m):=⟨_,Y rfl⟩;rw[<-E.j];obtain⟨i0,a,b,c,d⟩:=info_parts tm;have HI:=Y (AG a (AG b (AG c d)));clear a b c d;go_enter func253,ntmps253
 go_wp2_with (first|(go_at_call 204;refine(vq s n _ hs).J ?_;rw[bI.j];rintro e w2 ⟨rfl,bP⟩))
 go_loopw [0,9,10,11,12,13,17] (λx y _ _ _ _ i wr=>∃(k:Nat) (r:yZ),k<=N/\i=Z k/\x=yQ r/\Hid (r=s.extract (k*m) s.size)/\r.size<=1048576/\Hid (∀j,j<k->1<=l/\l<=60000/\1<=f+(j:Int)/\f+(j:Int)<=1000000000)/\wr.ownsRow w.heap.size 9 1 y k ((UD s l f n m N k).map Value.string)/\yX w wr) (λ_ _ _ _ _ _ i _=>N-(intOf i).toNat)
 case atStart=>exact⟨0,s,AL _,rfl,rfl,by show s=_;simp,hs,λj hj=>ω,BT _ _ _ _,bP⟩
 case round =>
  obtain⟨k,r,hk,rfl,rfl,q,cA,A,I,H⟩:=hrel
  by_cases bE:k<N
  ·have J:w.heap.size<=wr.heap.size:=H.size
   have D:=Y H;have G:=Y I;clear H I;obtain⟨bT,bU⟩:=Nt l (λ_=>True) A.j bQ bR ω
   by_cases bZ:m<r.size
   ·have bB:(m:Int)<(r.size:Int):=ω
    have bY:(r.extract m r.size).toList.isEmpty=false:=by rw[VA];simp only[AQ];simp;omega
    have B:(r.extract 0 m).size<=1048576:=by simp only[AQ];omega
    have T:Hid ((r.extract 0 m).size<=m):=by show _<=_;simp only[AQ];omega
    have S:Hid ((r.extract 0 m)=s.extract (k*m) (k*m+m)):=by show _=_;exact sE s r _ m q.j
    have U:Hid ((r.extract m r.size)=s.extract ((k+1)*m) s.size):=by show _=_;rw[IW,JY];exact vS s r _ m q.j
    have P:Hid ((if k+1=N then (2:Int) else 1)=1):=by show _=_;have:=qM s r k m N g.j ω bE q.j;rw[AF ω]
    obtain⟨F,c⟩:∃F,Hid (F=MJ 1 l (f+(k:Int)) (r.extract 0 m) (n:Int)):=⟨_,Y rfl⟩;have O:Hid (F=XT s l f n m N k):=by show _=_;rw[c.j,S.j];unfold XT;rw[P.j]
    have y:Hid (F.toList.isEmpty=!decide (1<=l/\l<=60000/\1<=f+(k:Int)/\f+(k:Int)<=1000000000)):=by show _=_;rw[c.j,nK,yJ 1 l _ _ n m z t v ω T.j]
    by_cases b:1<=l/\l<=60000/\1<=f+(k:Int)/\f+(k:Int)<=1000000000
    ·have V:F.toList.isEmpty=false:=by rw[y.j];simpa using b
     have K:=Y b;clear b
     go_wp2_with (first|(go_at_call 236;refine(jn n m _ z t v).J ?_;rintro e X ⟨rfl,rfl⟩)|(go_at_call 276;refine(fe 1 l (f+(k:Int)) (r.extract 0 m) (n:Int) _ B).J ?_;rw[<-c.j];rintro e d ⟨rfl,a⟩;have p:=a.size;simp only[BE]at p;have i:=Y (D.j.E (((LG _ _).E (a.J σ)).J J));have o:=Y ((LZ G.j ((LG _ _).E (a.J σ))).alloc (.cells #[yQ F] 9));clear a)|(at_builtin;refine QS _ rfl _ _ 27 rfl w.heap.size underlying27 HI.j rfl ω _ k _ rfl o.j (yA d.heap.size 0) 1 1 [yQ F] rfl rfl (World.news_of_block (AU d _)) (by intro u C;simp at C;subst C;rfl) τ (d.heap.size+1) σ ?_;intro g' W w7 x h L aZ;have Q:=Y x;have M:=Y (fy (i.j.alloc ω _) o.j h τ);clear x h L))
     refine⟨⟨k+1,(r.extract m r.size),ω,ν,rfl,U.j,by simp only[AQ];omega,λj hj=>?_,?_,M.j⟩,by simp[intOf];omega⟩
     ·rcases FX j k with h|h
      ·exact A.j j h
      have:j=k:=ω
      subst this;exact K.j
     rw[ti,DA,<-O.j];exact Q.j
    have V:F.toList.isEmpty=true:=by rw[y.j,AH b];rfl
    have h:Hid (R=[]):=by show _=_;rw[E.j];exact ZF g.j ω
    clear b
    go_wp2_with (first|(go_at_call 236;refine(jn n m _ z t v).J ?_;rintro e X ⟨rfl,rfl⟩)|(go_at_call 276;refine(fe 1 l (f+(k:Int)) (r.extract 0 m) (n:Int) _ B).J ?_;rw[<-c.j];rintro e d ⟨rfl,a⟩;have p:=a.size;simp only[BE]at p;have i:=Y (D.j.E (((LG _ _).E (a.J σ)).J J));have o:=Y ((LZ G.j ((LG _ _).E (a.J σ))).alloc (.cells #[yQ F] 9));clear a))
    go_ret;rw[h.j];exact ia rfl i.j
   have bB:(r.size:Int)<=(m:Int):=ω
   have B:r.size<=1048576:=ω
   have T:Hid (r.size<=m):=by show _<=_;omega
   have S:Hid (r=s.extract (k*m) (k*m+m)):=by show _=_;exact Ej s r _ m q.j ω
   have U:Hid (ByteArray.empty=s.extract ((k+1)*m) s.size):=by show _=_;rw[IW,JY];exact J0 s r _ m q.j ω
   have P:Hid ((if k+1=N then (2:Int) else 1)=2):=by show _=_;have:=qM s r k m N g.j ω bE q.j;rw[AI ω]
   obtain⟨F,c⟩:∃F,Hid (F=MJ 2 l (f+(k:Int)) r (n:Int)):=⟨_,Y rfl⟩;have O:Hid (F=XT s l f n m N k):=by show _=_;rw[c.j,S.j];unfold XT;rw[P.j]
   have y:Hid (F.toList.isEmpty=!decide (1<=l/\l<=60000/\1<=f+(k:Int)/\f+(k:Int)<=1000000000)):=by show _=_;rw[c.j,nK,yJ 2 l _ _ n m z t v ω T.j]
   by_cases b:1<=l/\l<=60000/\1<=f+(k:Int)/\f+(k:Int)<=1000000000
   ·have V:F.toList.isEmpty=false:=by rw[y.j];simpa using b
    have K:=Y b;clear b
    go_wp2_with (first|(go_at_call 236;refine(jn n m _ z t v).J ?_;rintro e X ⟨rfl,rfl⟩)|(go_at_call 276;refine(fe 2 l (f+(k:Int)) r (n:Int) _ B).J ?_;rw[<-c.j];rintro e d ⟨rfl,a⟩;have p:=a.size;simp only[BE]at p;have i:=Y (D.j.E (((LG _ _).E (a.J σ)).J J));have o:=Y ((LZ G.j ((LG _ _).E (a.J σ))).alloc (.cells #[yQ F] 9));clear a)|(at_builtin;refine QS _ rfl _ _ 27 rfl w.heap.size underlying27 HI.j rfl ω _ k _ rfl o.j (yA d.heap.size 0) 1 1 [yQ F] rfl rfl (World.news_of_block (AU d _)) (by intro u C;simp at C;subst C;rfl) τ (d.heap.size+1) σ ?_;intro g' W w7 x h L aZ;have Q:=Y x;have M:=Y (fy (i.j.alloc ω _) o.j h τ);clear x h L))
    refine⟨⟨k+1,ByteArray.empty,ω,ν,rfl,U.j,σ,λj hj=>?_,?_,M.j⟩,by simp[intOf];omega⟩
    ·rcases FX j k with h|h
     ·exact A.j j h
     have:j=k:=ω
     subst this;exact K.j
    rw[ti,DA,<-O.j];exact Q.j
   have V:F.toList.isEmpty=true:=by rw[y.j,AH b];rfl
   have h:Hid (R=[]):=by show _=_;rw[E.j];exact ZF g.j ω
   clear b
   go_wp2_with (first|(go_at_call 236;refine(jn n m _ z t v).J ?_;rintro e X ⟨rfl,rfl⟩)|(go_at_call 276;refine(fe 2 l (f+(k:Int)) r (n:Int) _ B).J ?_;rw[<-c.j];rintro e d ⟨rfl,a⟩;have p:=a.size;simp only[BE]at p;have i:=Y (D.j.E (((LG _ _).E (a.J σ)).J J));have o:=Y ((LZ G.j ((LG _ _).E (a.J σ))).alloc (.cells #[yQ F] 9));clear a))
   go_ret;rw[h.j];exact ia rfl i.j
  have b:k=N:=ω
  subst b
  have h:Hid (R=UD s l f n m k k):=by
   show _=_;rw[E.j];have a:=A.j 0 bJ;have c:=A.j (k-1) ω;exact pw g.j ω
  have a:=Y I;clear I;go_wp2;go_ret;rw[h.j];exact pN a.j (pn _ _ _ _ _ _ _).symm H
