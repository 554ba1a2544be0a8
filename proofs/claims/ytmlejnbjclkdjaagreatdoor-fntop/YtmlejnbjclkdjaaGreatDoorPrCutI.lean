import Derived.Test.YtmlejnbjclkdjaaGreatDoorPrG44
set_option maxHeartbeats 16000000
namespace Go.Proofs.YtmlejnbjclkdjaaGreatDoor
open Tryz
open Go.RowKit
set_option linter.all false
theorem At(s r:Y)(a m:Nat)(h:r=s.extract a s.size)(b:r.size<=m):r=s.extract a (a+m):=pE s r a m h b
theorem Hc(s r:Y)(a m:Nat)(h:r=s.extract a s.size)(b:r.size<=m):ByteArray.empty=s.extract (a+m) s.size:=by
 subst h;simp only[AO]at b
 apply EP
 symm
 apply JN
 show(ByteArray.size _)=0;simp only[AO];omega
theorem oM(s r:Y)(k m N:Nat)(b:N=OG s.size m)(c:0<m)(a:k<N)(h:r=s.extract (k*m) s.size):r.size<=m<->k+1=N:=by
 subst h;rw[b]at a⊢;rw[<-Bj s.size m k c a];simp only[AO,GJ,KN];omega
theorem vX(K l x:Int)(p:Y)(n m:Nat)(d:n+m=56)(b:1<=n)(c:n<=8)(a:K=1\/K=2)(e:p.size<=m):NQ K l x p (n:Int)=decide (1<=l/\l<=60000/\1<=x/\x<=1000000000):=by
 unfold NQ
 apply JQ.2
 rcases a with rfl|rfl<;>constructor<;>intro h<;>omega
theorem Lj{f:Int}{k:Nat}(l:Int)(P:Nat->Prop)(h:∀j,j<k->1<=l/\l<=60000/\1<=f+(j:Int)/\f+(j:Int)<=1000000000)(b:-9223372036854775808<=f)(c:f<=9223372036854775807)(d:k<=1048577):-9223372036854775808<=f+(k:Int)/\f+(k:Int)<=9223372036854775807:=by
 rcases GM k with a|a
 ·subst a;simp;omega
 have:=h 0 a;simp at this;omega
theorem zr(k l m:Int)(p:Y)(n:Int):(MM k l m p n).toList.isEmpty=!NQ k l m p n:=by
 rw[VP];unfold MM
 cases h:NQ k l m p n with
 | false=>simp
 | true =>
  simp only[IH];have a:1<=n/\n<=8/\(p.size:Int)<=56-n:=by unfold NQ at h;simp at h;omega
  rw[ZN k l m p n.toNat ω];rfl
set_option maxRecDepth 4000 in
theorem Lp(s:Y)(l f:Int)(n m:Nat)(w:Nb)(hs:s.size<=1048576)(z:n+m=56)(t:1<=n)(v:n<=8)(bU:-9223372036854775808<=f)(bV:f<=9223372036854775807):Calls prog 167 #[Mz s,.int .i64 l,.int .i64 f,.int .i64 (n:Int)] w λe a=>nu w a e (PG s l f n m):=by
 obtain⟨N,g⟩:∃N,Hid (N=OG s.size m):=⟨_,Z rfl⟩;have b7:N<=1048577:=by have:=oA s.size m;rw[g.l];omega
 have bR:0<N:=by rw[g.l];exact ub _ _
 have bQ:Hid (OR s.size (n:Int)=(N:Int)):=by
  show _=_;unfold OR;rw[AE ω,g.l,show(56-(n:Int)).toNat=m by omega]
 obtain⟨R,E⟩:∃R,Hid (R=PG s l f n m):=⟨_,Z rfl⟩;rw[<-E.l];obtain⟨i0,a,b,c,d⟩:=info_parts si;have HI:=Z (AH a (AH b (AH c d)));clear a b c d;go_enter func167,ntmps167
 go_wp2_with (first|(go_at_call 116;refine(uo s n _ hs).z ?_;rw[bQ.l];rintro e w2 ⟨rfl,bT⟩))
 go_loopw [0,9,10,11,12,13,17] (λx y _ _ _ _ i wr=>∃(k:Nat) (r:Y),k<=N/\i=.int .i64 k/\x=Mz r/\Hid (r=s.extract (k*m) s.size)/\r.size<=1048576/\Hid (∀j,j<k->1<=l/\l<=60000/\1<=f+(j:Int)/\f+(j:Int)<=1000000000)/\wr.ownsRow w.heap.size 9 1 y k ((QH s l f n m N k).map Value.string)/\Below w.heap.size w wr) (λ_ _ _ _ _ _ i _=>N-(intOf i).toNat)
 case atStart=>exact⟨0,s,AM _,rfl,rfl,by show s=_;simp,hs,λj hj=>ω,DA _ _ _ _,bT⟩
 case round =>
  obtain⟨k,r,hk,rfl,rfl,q,cC,A,I,H⟩:=hrel
  by_cases bG:k<N
  ·have J:w.heap.size<=wr.heap.size:=H.size
   have D:=Z H;have G:=Z I;clear H I;obtain⟨bW,bY⟩:=Lj l (λ_=>True) A.l bU bV ω
   by_cases cB:m<r.size
   ·have bC:(m:Int)<(r.size:Int):=ω
    have cA:(r.extract m r.size).toList.isEmpty=false:=by rw[VP];simp only[AO];simp;omega
    have B:(r.extract 0 m).size<=1048576:=by simp only[AO];omega
    have T:Hid ((r.extract 0 m).size<=m):=by show _<=_;simp only[AO];omega
    have S:Hid ((r.extract 0 m)=s.extract (k*m) (k*m+m)):=by show _=_;exact pN s r _ m q.l
    have U:Hid ((r.extract m r.size)=s.extract ((k+1)*m) s.size):=by show _=_;rw[GJ,KN];exact tL s r _ m q.l
    have P:Hid ((if k+1=N then (2:Int) else 1)=1):=by show _=_;have:=oM s r k m N g.l ω bG q.l;rw[AG ω]
    obtain⟨F,c⟩:∃F,Hid (F=MM 1 l (f+(k:Int)) (r.extract 0 m) (n:Int)):=⟨_,Z rfl⟩;have O:Hid (F=RY s l f n m N k):=by show _=_;rw[c.l,S.l];unfold RY;rw[P.l]
    have y:Hid (F.toList.isEmpty=!decide (1<=l/\l<=60000/\1<=f+(k:Int)/\f+(k:Int)<=1000000000)):=by show _=_;rw[c.l,zr,vX 1 l _ _ n m z t v ω T.l]
    by_cases b:1<=l/\l<=60000/\1<=f+(k:Int)/\f+(k:Int)<=1000000000
    ·have V:F.toList.isEmpty=false:=by rw[y.l];simpa using b
     have K:=Z b;clear b
     go_wp2_with (first|(go_at_call 88;refine(jf n m _ z t v).z ?_;rintro e X ⟨rfl,rfl⟩)|(go_at_call 202;refine(eo 1 l (f+(k:Int)) (r.extract 0 m) (n:Int) _ B).z ?_;rw[<-c.l];rintro e d ⟨rfl,a⟩;have p:=a.size;simp only[BD]at p;have i:=Z (D.l.j (((LO _ _).j (a.z σ)).z J));have o:=Z ((NC G.l ((LO _ _).j (a.z σ))).alloc (.cells #[Mz F] 9));clear a)|(at_builtin;refine QY _ rfl _ _ 23 rfl w.heap.size underlying23 HI.l rfl ω _ k _ rfl o.l ⟨d.heap.size,0,none⟩ 1 1 [Mz F] rfl rfl (World.news_of_block (AU d _)) (by intro u C;simp at C;subst C;rfl) τ (d.heap.size+1) σ ?_;intro g' W w7 x h L aZ;have Q:=Z x;have M:=Z (fk (i.l.alloc ω _) o.l h τ);clear x h L))
     refine⟨⟨k+1,(r.extract m r.size),ω,ν,rfl,U.l,by simp only[AO];omega,λj hj=>?_,?_,M.l⟩,by simp[intOf];omega⟩
     ·rcases GF j k with h|h
      ·exact A.l j h
      have:j=k:=ω
      subst this;exact K.l
     rw[sb,DK,<-O.l];exact Q.l
    have V:F.toList.isEmpty=true:=by rw[y.l,AI b];rfl
    have h:Hid (R=[]):=by show _=_;rw[E.l];exact ZB g.l ω
    clear b
    go_wp2_with (first|(go_at_call 88;refine(jf n m _ z t v).z ?_;rintro e X ⟨rfl,rfl⟩)|(go_at_call 202;refine(eo 1 l (f+(k:Int)) (r.extract 0 m) (n:Int) _ B).z ?_;rw[<-c.l];rintro e d ⟨rfl,a⟩;have p:=a.size;simp only[BD]at p;have i:=Z (D.l.j (((LO _ _).j (a.z σ)).z J));have o:=Z ((NC G.l ((LO _ _).j (a.z σ))).alloc (.cells #[Mz F] 9));clear a))
    go_ret;rw[h.l];exact gd rfl i.l
   have bC:(r.size:Int)<=(m:Int):=ω
   have B:r.size<=1048576:=ω
   have T:Hid (r.size<=m):=by show _<=_;omega
   have S:Hid (r=s.extract (k*m) (k*m+m)):=by show _=_;exact At s r _ m q.l ω
   have U:Hid (ByteArray.empty=s.extract ((k+1)*m) s.size):=by show _=_;rw[GJ,KN];exact Hc s r _ m q.l ω
   have P:Hid ((if k+1=N then (2:Int) else 1)=2):=by show _=_;have:=oM s r k m N g.l ω bG q.l;rw[AE ω]
   obtain⟨F,c⟩:∃F,Hid (F=MM 2 l (f+(k:Int)) r (n:Int)):=⟨_,Z rfl⟩;have O:Hid (F=RY s l f n m N k):=by show _=_;rw[c.l,S.l];unfold RY;rw[P.l]
   have y:Hid (F.toList.isEmpty=!decide (1<=l/\l<=60000/\1<=f+(k:Int)/\f+(k:Int)<=1000000000)):=by show _=_;rw[c.l,zr,vX 2 l _ _ n m z t v ω T.l]
   by_cases b:1<=l/\l<=60000/\1<=f+(k:Int)/\f+(k:Int)<=1000000000
   ·have V:F.toList.isEmpty=false:=by rw[y.l];simpa using b
    have K:=Z b;clear b
    go_wp2_with (first|(go_at_call 88;refine(jf n m _ z t v).z ?_;rintro e X ⟨rfl,rfl⟩)|(go_at_call 202;refine(eo 2 l (f+(k:Int)) r (n:Int) _ B).z ?_;rw[<-c.l];rintro e d ⟨rfl,a⟩;have p:=a.size;simp only[BD]at p;have i:=Z (D.l.j (((LO _ _).j (a.z σ)).z J));have o:=Z ((NC G.l ((LO _ _).j (a.z σ))).alloc (.cells #[Mz F] 9));clear a)|(at_builtin;refine QY _ rfl _ _ 23 rfl w.heap.size underlying23 HI.l rfl ω _ k _ rfl o.l ⟨d.heap.size,0,none⟩ 1 1 [Mz F] rfl rfl (World.news_of_block (AU d _)) (by intro u C;simp at C;subst C;rfl) τ (d.heap.size+1) σ ?_;intro g' W w7 x h L aZ;have Q:=Z x;have M:=Z (fk (i.l.alloc ω _) o.l h τ);clear x h L))
    refine⟨⟨k+1,ByteArray.empty,ω,ν,rfl,U.l,σ,λj hj=>?_,?_,M.l⟩,by simp[intOf];omega⟩
    ·rcases GF j k with h|h
     ·exact A.l j h
     have:j=k:=ω
     subst this;exact K.l
    rw[sb,DK,<-O.l];exact Q.l
   have V:F.toList.isEmpty=true:=by rw[y.l,AI b];rfl
   have h:Hid (R=[]):=by show _=_;rw[E.l];exact ZB g.l ω
   clear b
   go_wp2_with (first|(go_at_call 88;refine(jf n m _ z t v).z ?_;rintro e X ⟨rfl,rfl⟩)|(go_at_call 202;refine(eo 2 l (f+(k:Int)) r (n:Int) _ B).z ?_;rw[<-c.l];rintro e d ⟨rfl,a⟩;have p:=a.size;simp only[BD]at p;have i:=Z (D.l.j (((LO _ _).j (a.z σ)).z J));have o:=Z ((NC G.l ((LO _ _).j (a.z σ))).alloc (.cells #[Mz F] 9));clear a))
   go_ret;rw[h.l];exact gd rfl i.l
  have b:k=N:=ω
  subst b
  have h:Hid (R=QH s l f n m k k):=by
   show _=_;rw[E.l];have a:=A.l 0 bR;have c:=A.l (k-1) ω;exact XZ g.l ω
  have a:=Z I;clear I;go_wp2;go_ret;rw[h.l];exact nU a.l (WW _ _ _ _ _ _ _).symm H
