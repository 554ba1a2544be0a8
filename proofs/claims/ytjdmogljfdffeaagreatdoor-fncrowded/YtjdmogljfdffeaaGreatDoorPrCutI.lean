import Derived.Test.YtjdmogljfdffeaaGreatDoorPrG37
set_option maxHeartbeats 16000000
namespace Go.Proofs.YtjdmogljfdffeaaGreatDoor
open Tryz
open Go.RowKit
set_option linter.all false
theorem zM(s r:ByteArray)(a m:Nat)(h:r=s.extract a s.size)(b:r.size<=m):r=s.extract a (a+m):=pI s r a m h b
theorem Ez(s r:ByteArray)(a m:Nat)(h:r=s.extract a s.size)(b:r.size<=m):ByteArray.empty=s.extract (a+m) s.size:=by
 subst h;simp only[AK]at b
 apply EP
 symm
 apply JG
 show(ByteArray.size _)=0;simp only[AK];omega
theorem oQ(s r:ByteArray)(k m N:Nat)(b:N=NA s.size m)(c:0<m)(a:k<N)(h:r=s.extract (k*m) s.size):r.size<=m<->k+1=N:=by
 subst h;rw[b]at a⊢;rw[<-Ae s.size m k c a];simp only[AK,GD,KF];omega
theorem uX(K l x:Int)(p:ByteArray)(n m:Nat)(d:n+m=56)(b:1<=n)(c:n<=8)(a:K=1\/K=2)(e:p.size<=m):MN K l x p (n:Int)=decide (1<=l/\l<=60000/\1<=x/\x<=1000000000):=by
 unfold MN
 apply JK.2
 rcases a with rfl|rfl<;>constructor<;>intro h<;>omega
theorem Iz{f:Int}{k:Nat}(l:Int)(P:Nat->Prop)(h:∀j,j<k->1<=l/\l<=60000/\1<=f+(j:Int)/\f+(j:Int)<=1000000000)(b:-9223372036854775808<=f)(c:f<=9223372036854775807)(d:k<=1048577):-9223372036854775808<=f+(k:Int)/\f+(k:Int)<=9223372036854775807:=by
 rcases FL k with a|a
 ·subst a;simp;omega
 have:=h 0 a;simp at this;omega
theorem zw(k l m:Int)(p:ByteArray)(n:Int):(LS k l m p n).toList.isEmpty=!MN k l m p n:=by
 rw[VF];unfold LS
 cases h:MN k l m p n with
 | false=>simp
 | true =>
  simp only[GZ];have a:1<=n/\n<=8/\(p.size:Int)<=56-n:=by unfold MN at h;simp at h;omega
  rw[aa k l m p n.toNat ω];rfl
set_option maxRecDepth 4000 in
theorem I6(s:ByteArray)(l f:Int)(n m:Nat)(w:World)(hs:s.size<=1048576)(z:n+m=56)(t:1<=n)(v:n<=8)(bW:-9223372036854775808<=f)(bY:f<=9223372036854775807):Calls prog 81 #[.string s,.int .i64 l,.int .i64 f,.int .i64 (n:Int)] w λe a=>pu w a e (NV s l f n m):=by
 obtain⟨N,g⟩:∃N,Hid (N=NA s.size m):=⟨_,Z rfl⟩;have cE:N<=1048577:=by have:=oB s.size m;rw[g.l];omega
 have bU:0<N:=by rw[g.l];exact uj _ _
 have bT:Hid (MY s.size (n:Int)=(N:Int)):=by
  show _=_;unfold MY;rw[AF ω,g.l,show(56-(n:Int)).toNat=m by omega]
 obtain⟨R,E⟩:∃R,Hid (R=NV s l f n m):=⟨_,Z rfl⟩;rw[<-E.l];obtain⟨i0,a,b,c,d⟩:=info_parts sq;have HI:=Z (AH a (AH b (AH c d)));clear a b c d;go_enter func81,ntmps81
 go_wp2_with (first|(go_at_call 32;refine(uy s n _ hs).A ?_;rw[bT.l];rintro e w2 ⟨rfl,bV⟩))
 go_loopw [0,9,10,11,12,13,17] (λx y _ _ _ _ i wr=>∃(k:Nat) (r:ByteArray),k<=N/\i=.int .i64 k/\x=.string r/\Hid (r=s.extract (k*m) s.size)/\r.size<=1048576/\Hid (∀j,j<k->1<=l/\l<=60000/\1<=f+(j:Int)/\f+(j:Int)<=1000000000)/\wr.ownsRow w.heap.size 9 1 y k ((PG s l f n m N k).map Value.string)/\Below w.heap.size w wr) (λ_ _ _ _ _ _ i _=>N-(intOf i).toNat)
 case atStart=>exact⟨0,s,AO _,rfl,rfl,by show s=_;simp,hs,λj hj=>ω,CE _ _ _ _,bV⟩
 case round =>
  obtain⟨k,r,hk,rfl,rfl,q,cI,A,I,H⟩:=hrel
  by_cases bH:k<N
  ·have K:w.heap.size<=wr.heap.size:=H.size
   have D:=Z H;have G:=Z I;clear H I;obtain⟨bZ,cA⟩:=Iz l (λ_=>True) A.l bW bY ω
   by_cases cH:m<r.size
   ·have bE:(m:Int)<(r.size:Int):=ω
    have cF:(r.extract m r.size).toList.isEmpty=false:=by rw[VF];simp only[AK];simp;omega
    have B:(r.extract 0 m).size<=1048576:=by simp only[AK];omega
    have U:Hid ((r.extract 0 m).size<=m):=by show _<=_;simp only[AK];omega
    have T:Hid ((r.extract 0 m)=s.extract (k*m) (k*m+m)):=by show _=_;exact pR s r _ m q.l
    have W:Hid ((r.extract m r.size)=s.extract ((k+1)*m) s.size):=by show _=_;rw[GD,KF];exact tC s r _ m q.l
    have Q:Hid ((if k+1=N then (2:Int) else 1)=1):=by show _=_;have:=oQ s r k m N g.l ω bH q.l;rw[AG ω]
    obtain⟨F,c⟩:∃F,Hid (F=LS 1 l (f+(k:Int)) (r.extract 0 m) (n:Int)):=⟨_,Z rfl⟩;have P:Hid (F=TM s l f n m N k):=by show _=_;rw[c.l,T.l];unfold TM;rw[Q.l]
    have y:Hid (F.toList.isEmpty=!decide (1<=l/\l<=60000/\1<=f+(k:Int)/\f+(k:Int)<=1000000000)):=by show _=_;rw[c.l,zw,uX 1 l _ _ n m z t v ω U.l]
    by_cases b:1<=l/\l<=60000/\1<=f+(k:Int)/\f+(k:Int)<=1000000000
    ·have X:F.toList.isEmpty=false:=by rw[y.l];simpa using b
     have L:=Z b;clear b
     go_wp2_with (first|(go_at_call 78;refine(jk n m _ z t v).A ?_;rintro e w4 ⟨rfl,rfl⟩)|(go_at_call 116;refine(fk 1 l (f+(k:Int)) (r.extract 0 m) (n:Int) _ B).A ?_;rw[<-c.l];rintro e d ⟨rfl,a⟩;have p:=a.size;simp only[BB]at p;have i:=Z (D.l.j (((KW _ _).j (a.A σ)).A K));have o:=Z ((LR G.l ((KW _ _).j (a.A σ))).alloc (.cells #[.string F] 9));clear a)|(at_builtin;refine QN _ rfl _ _ 23 rfl w.heap.size underlying23 HI.l rfl ω _ k _ rfl o.l ⟨d.heap.size,0,none⟩ 1 1 [.string F] rfl rfl (World.news_of_block (AW d _)) (by intro u C;simp at C;subst C;rfl) τ (d.heap.size+1) σ ?_;intro g' cap w7 x h M aZ;have S:=Z x;have O:=Z (gh (i.l.alloc ω _) o.l h τ);clear x h M))
     refine⟨⟨k+1,(r.extract m r.size),ω,ν,rfl,W.l,by simp only[AK];omega,λj hj=>?_,?_,O.l⟩,by simp[intOf];omega⟩
     ·rcases FY j k with h|h
      ·exact A.l j h
      have:j=k:=ω
      subst this;exact L.l
     rw[sm,CY,<-P.l];exact S.l
    have X:F.toList.isEmpty=true:=by rw[y.l,AJ b];rfl
    have h:Hid (R=[]):=by show _=_;rw[E.l];exact ZM g.l ω
    clear b
    go_wp2_with (first|(go_at_call 78;refine(jk n m _ z t v).A ?_;rintro e w4 ⟨rfl,rfl⟩)|(go_at_call 116;refine(fk 1 l (f+(k:Int)) (r.extract 0 m) (n:Int) _ B).A ?_;rw[<-c.l];rintro e d ⟨rfl,a⟩;have p:=a.size;simp only[BB]at p;have i:=Z (D.l.j (((KW _ _).j (a.A σ)).A K));have o:=Z ((LR G.l ((KW _ _).j (a.A σ))).alloc (.cells #[.string F] 9));clear a))
    go_ret;rw[h.l];exact gu rfl i.l
   have bE:(r.size:Int)<=(m:Int):=ω
   have B:r.size<=1048576:=ω
   have U:Hid (r.size<=m):=by show _<=_;omega
   have T:Hid (r=s.extract (k*m) (k*m+m)):=by show _=_;exact zM s r _ m q.l ω
   have W:Hid (ByteArray.empty=s.extract ((k+1)*m) s.size):=by show _=_;rw[GD,KF];exact Ez s r _ m q.l ω
   have Q:Hid ((if k+1=N then (2:Int) else 1)=2):=by show _=_;have:=oQ s r k m N g.l ω bH q.l;rw[AF ω]
   obtain⟨F,c⟩:∃F,Hid (F=LS 2 l (f+(k:Int)) r (n:Int)):=⟨_,Z rfl⟩;have P:Hid (F=TM s l f n m N k):=by show _=_;rw[c.l,T.l];unfold TM;rw[Q.l]
   have y:Hid (F.toList.isEmpty=!decide (1<=l/\l<=60000/\1<=f+(k:Int)/\f+(k:Int)<=1000000000)):=by show _=_;rw[c.l,zw,uX 2 l _ _ n m z t v ω U.l]
   by_cases b:1<=l/\l<=60000/\1<=f+(k:Int)/\f+(k:Int)<=1000000000
   ·have X:F.toList.isEmpty=false:=by rw[y.l];simpa using b
    have L:=Z b;clear b
    go_wp2_with (first|(go_at_call 78;refine(jk n m _ z t v).A ?_;rintro e w4 ⟨rfl,rfl⟩)|(go_at_call 116;refine(fk 2 l (f+(k:Int)) r (n:Int) _ B).A ?_;rw[<-c.l];rintro e d ⟨rfl,a⟩;have p:=a.size;simp only[BB]at p;have i:=Z (D.l.j (((KW _ _).j (a.A σ)).A K));have o:=Z ((LR G.l ((KW _ _).j (a.A σ))).alloc (.cells #[.string F] 9));clear a)|(at_builtin;refine QN _ rfl _ _ 23 rfl w.heap.size underlying23 HI.l rfl ω _ k _ rfl o.l ⟨d.heap.size,0,none⟩ 1 1 [.string F] rfl rfl (World.news_of_block (AW d _)) (by intro u C;simp at C;subst C;rfl) τ (d.heap.size+1) σ ?_;intro g' cap w7 x h M aZ;have S:=Z x;have O:=Z (gh (i.l.alloc ω _) o.l h τ);clear x h M))
    refine⟨⟨k+1,ByteArray.empty,ω,ν,rfl,W.l,σ,λj hj=>?_,?_,O.l⟩,by simp[intOf];omega⟩
    ·rcases FY j k with h|h
     ·exact A.l j h
     have:j=k:=ω
     subst this;exact L.l
    rw[sm,CY,<-P.l];exact S.l
   have X:F.toList.isEmpty=true:=by rw[y.l,AJ b];rfl
   have h:Hid (R=[]):=by show _=_;rw[E.l];exact ZM g.l ω
   clear b
   go_wp2_with (first|(go_at_call 78;refine(jk n m _ z t v).A ?_;rintro e w4 ⟨rfl,rfl⟩)|(go_at_call 116;refine(fk 2 l (f+(k:Int)) r (n:Int) _ B).A ?_;rw[<-c.l];rintro e d ⟨rfl,a⟩;have p:=a.size;simp only[BB]at p;have i:=Z (D.l.j (((KW _ _).j (a.A σ)).A K));have o:=Z ((LR G.l ((KW _ _).j (a.A σ))).alloc (.cells #[.string F] 9));clear a))
   go_ret;rw[h.l];exact gu rfl i.l
  have b:k=N:=ω
  subst b
  have h:Hid (R=PG s l f n m k k):=by
   show _=_;rw[E.l];have a:=A.l 0 bU;have c:=A.l (k-1) ω;exact YG g.l ω
  have a:=Z I;clear I;go_wp2;go_ret;rw[h.l];exact nV a.l (WX _ _ _ _ _ _ _).symm H
