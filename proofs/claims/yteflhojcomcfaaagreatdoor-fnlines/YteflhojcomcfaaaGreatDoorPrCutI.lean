import Derived.Test.YteflhojcomcfaaaGreatDoorPrG39
set_option maxHeartbeats 16000000
namespace Go.Proofs.YteflhojcomcfaaaGreatDoor
open Tryz
open Go.RowKit
set_option linter.all false
theorem Gq(s r:Q4)(a m:Nat)(h:r=s.extract a s.size)(b:r.size<=m):r=s.extract a (a+m):=vB s r a m h b
theorem Ly(s r:Q4)(a m:Nat)(h:r=s.extract a s.size)(b:r.size<=m):ByteArray.empty=s.extract (a+m) s.size:=by
 subst h;simp only[AQ]at b
 apply EV
 symm
 apply EW
 show(ByteArray.size _)=0;simp only[AQ];omega
theorem uL(s r:Q4)(k m N:Nat)(b:N=RK s.size m)(c:0<m)(a:k<N)(h:r=s.extract (k*m) s.size):r.size<=m<->k+1=N:=by
 subst h;rw[b]at a⊢;rw[<-G0 s.size m k c a];simp only[AQ,ID,JY];omega
theorem Bb(K l x:Int)(p:Q4)(n m:Nat)(d:n+m=56)(b:1<=n)(c:n<=8)(a:K=1\/K=2)(e:p.size<=m):OB K l x p (n:Int)=decide (1<=l/\l<=60000/\1<=x/\x<=1000000000):=by
 unfold OB
 apply JT.2
 rcases a with rfl|rfl<;>constructor<;>intro h<;>omega
theorem Pv{f:Int}{k:Nat}(l:Int)(P:Nat->Prop)(h:∀j,j<k->1<=l/\l<=60000/\1<=f+(j:Int)/\f+(j:Int)<=1000000000)(b:-9223372036854775808<=f)(c:f<=9223372036854775807)(d:k<=1048577):-9223372036854775808<=f+(k:Int)/\f+(k:Int)<=9223372036854775807:=by
 rcases GK k with a|a
 .subst a;simp;omega
 have:=h 0 a;simp at this;omega
theorem qN(k l m:Int)(p:Q4)(n:Int):(NB k l m p n).toList.isEmpty=!OB k l m p n:=by
 rw[YH];unfold NB
 cases h:OB k l m p n with
 | false=>simp
 | true =>
  simp only[IV];have a:1<=n/\n<=8/\(p.size:Int)<=56-n:=by unfold OB at h;simp at h;omega
  rw[ka k l m p n.toNat d];rfl
set_option maxRecDepth 4000 in
theorem Pz(s:Q4)(l f:Int)(n m:Nat)(w:Q9)(hs:s.size<=1048576)(D:n+m=56)(B:1<=n)(C:n<=8)(bQ:-9223372036854775808<=f)(bR:f<=9223372036854775807):Calls prog 251 #[Ow s,Z l,Z f,Z (n:Int)] w λe a=>vq w a e (PK s l f n m):=by
 obtain⟨N,o⟩:=nHz (RK s.size m);have bW:N<=1048577:=by have:=tT s.size m;rw[o.j];omega
 have bJ:0<N:=by rw[o.j];exact wZ _ _
 have bI:Hid (QB s.size (n:Int)=(N:Int)):=by
  show _=_;unfold QB;rw[AI d,o.j,show(56-(n:Int)).toNat=m by omega]
 obtain⟨R,O⟩:=nHz (PK s l f n m);rw[<-O.j];obtain⟨i0,a,b,c,g⟩:=info_parts zb;have HI:=LE (AG a (AG b (AG c g)));clear a b c g;go_enter func251,ntmps251
 go_wp2_with (first|(go_at_call 192;refine(nJ s n _ hs).J ?_;rw[bI.j];rintro e w2 ⟨rfl,bP⟩))
 go_loopw [0,9,10,11,12,13,17] (λb y _ _ _ _ i wr=>∃(k:Nat) (r:Q4),k<=N/\i=Z k/\b=Ow r/\Hid (r=s.extract (k*m) s.size)/\r.size<=1048576/\Hid (∀a,a<k->1<=l/\l<=60000/\1<=f+(a:Int)/\f+(a:Int)<=1000000000)/\wr.ownsRow w.heap.size 9 1 y k ((XD s l f n m N k).map Value.string)/\Q3 w wr) (λ_ _ _ _ _ _ i _=>N-(intOf i).toNat)
 case atStart=>exact⟨0,s,AL,z,z,by show s=_;simp,hs,λa hj=>d,BU _ _ _ _,bP⟩
 case round =>
  obtain⟨k,r,hk,rfl,rfl,y,cA,J,S,Q⟩:=hrel
  by_cases bE:k<N
  .have T:w.heap.size<=wr.heap.size:=Q.size
   have M:=LE Q;have P:=LE S;clear Q S;obtain⟨bT,bU⟩:=Pv l (λ_=>True) J.j bQ bR d
   by_cases bZ:m<r.size
   .have bB:(m:Int)<(r.size:Int):=d
    have bY:(r.extract m r.size).toList.isEmpty=false:=by rw[YH];simp only[AQ];simp;omega
    have K:(r.extract 0 m).size<=1048576:=by simp only[AQ];omega
    have q:Hid ((r.extract 0 m).size<=m):=by show _<=_;simp only[AQ];omega
    have I:Hid ((r.extract 0 m)=s.extract (k*m) (k*m+m)):=by show _=_;exact vL s r _ m y.j
    have x:Hid ((r.extract m r.size)=s.extract ((k+1)*m) s.size):=by show _=_;rw[ID,JY];exact yP s r _ m y.j
    have A:Hid ((if k+1=N then (2:Int) else 1)=1):=by show _=_;have:=uL s r k m N o.j d bE y.j;rw[AF d]
    obtain⟨F,g⟩:=nHz (NB 1 l (f+(k:Int)) (r.extract 0 m) (n:Int));have X:Hid (F=dh s l f n m N k):=by show _=_;rw[g.j,I.j];unfold dh;rw[A.j]
    have H:Hid (F.toList.isEmpty=!decide (1<=l/\l<=60000/\1<=f+(k:Int)/\f+(k:Int)<=1000000000)):=by show _=_;rw[g.j,qN,Bb 1 l _ _ n m D B C d q.j]
    by_cases c:1<=l/\l<=60000/\1<=f+(k:Int)/\f+(k:Int)<=1000000000
    .have aY:F.toList.isEmpty=false:=by rw[H.j];simpa using c
     have U:=LE c;clear c
     go_wp2_with (first|(go_at_call 224;refine(qn n m _ D B C).J ?_;rintro e w4 ⟨rfl,rfl⟩)|(go_at_call 274;refine(ma 1 l (f+(k:Int)) (r.extract 0 m) (n:Int) _ K).J ?_;rw[<-g.j];rintro e i ⟨rfl,b⟩;have v:=b.size;simp only[BG]at v;have p:=LE (M.j.E (((LH _ _).E (b.J j)).J T));have t:=LE ((MK P.j ((LH _ _).E (b.J j))).alloc (.cells #[Ow F] 9));clear b)|(at_builtin;refine SX _ z _ _ 29 z w.heap.size underlying29 HI.j z d _ k _ z t.j (Ki i.heap.size 0) 1 1 [Ow F] z z (World.news_of_block (AV i _)) (by intro u L;simp at L;subst L;rfl) τ (i.heap.size+1) j ?_;intro g' cap w7 E h V aZ;have G:=LE E;have W:=LE (mm (p.j.alloc d _) t.j h τ);clear E h V))
     refine⟨⟨k+1,(r.extract m r.size),d,ν,z,x.j,by simp only[AQ];omega,λa hj=>?_,?_,W.j⟩,by simp[intOf];omega⟩
     .rcases FV a k with h|h
      .exact J.j a h
      have:a=k:=d
      subst this;exact U.j
     rw[yw,DC,<-X.j];exact G.j
    have aY:F.toList.isEmpty=true:=by rw[H.j,AH c];rfl
    have h:Hid (R=[]):=by show _=_;rw[O.j];exact gk o.j d
    clear c
    go_wp2_with (first|(go_at_call 224;refine(qn n m _ D B C).J ?_;rintro e w4 ⟨rfl,rfl⟩)|(go_at_call 274;refine(ma 1 l (f+(k:Int)) (r.extract 0 m) (n:Int) _ K).J ?_;rw[<-g.j];rintro e i ⟨rfl,b⟩;have v:=b.size;simp only[BG]at v;have p:=LE (M.j.E (((LH _ _).E (b.J j)).J T));have t:=LE ((MK P.j ((LH _ _).E (b.J j))).alloc (.cells #[Ow F] 9));clear b))
    go_ret;rw[h.j];exact mz z p.j
   have bB:(r.size:Int)<=(m:Int):=d
   have K:r.size<=1048576:=d
   have q:Hid (r.size<=m):=by show _<=_;omega
   have I:Hid (r=s.extract (k*m) (k*m+m)):=by show _=_;exact Gq s r _ m y.j d
   have x:Hid (ByteArray.empty=s.extract ((k+1)*m) s.size):=by show _=_;rw[ID,JY];exact Ly s r _ m y.j d
   have A:Hid ((if k+1=N then (2:Int) else 1)=2):=by show _=_;have:=uL s r k m N o.j d bE y.j;rw[AI d]
   obtain⟨F,g⟩:=nHz (NB 2 l (f+(k:Int)) r (n:Int));have X:Hid (F=dh s l f n m N k):=by show _=_;rw[g.j,I.j];unfold dh;rw[A.j]
   have H:Hid (F.toList.isEmpty=!decide (1<=l/\l<=60000/\1<=f+(k:Int)/\f+(k:Int)<=1000000000)):=by show _=_;rw[g.j,qN,Bb 2 l _ _ n m D B C d q.j]
   by_cases c:1<=l/\l<=60000/\1<=f+(k:Int)/\f+(k:Int)<=1000000000
   .have aY:F.toList.isEmpty=false:=by rw[H.j];simpa using c
    have U:=LE c;clear c
    go_wp2_with (first|(go_at_call 224;refine(qn n m _ D B C).J ?_;rintro e w4 ⟨rfl,rfl⟩)|(go_at_call 274;refine(ma 2 l (f+(k:Int)) r (n:Int) _ K).J ?_;rw[<-g.j];rintro e i ⟨rfl,b⟩;have v:=b.size;simp only[BG]at v;have p:=LE (M.j.E (((LH _ _).E (b.J j)).J T));have t:=LE ((MK P.j ((LH _ _).E (b.J j))).alloc (.cells #[Ow F] 9));clear b)|(at_builtin;refine SX _ z _ _ 29 z w.heap.size underlying29 HI.j z d _ k _ z t.j (Ki i.heap.size 0) 1 1 [Ow F] z z (World.news_of_block (AV i _)) (by intro u L;simp at L;subst L;rfl) τ (i.heap.size+1) j ?_;intro g' cap w7 E h V aZ;have G:=LE E;have W:=LE (mm (p.j.alloc d _) t.j h τ);clear E h V))
    refine⟨⟨k+1,ByteArray.empty,d,ν,z,x.j,j,λa hj=>?_,?_,W.j⟩,by simp[intOf];omega⟩
    .rcases FV a k with h|h
     .exact J.j a h
     have:a=k:=d
     subst this;exact U.j
    rw[yw,DC,<-X.j];exact G.j
   have aY:F.toList.isEmpty=true:=by rw[H.j,AH c];rfl
   have h:Hid (R=[]):=by show _=_;rw[O.j];exact gk o.j d
   clear c
   go_wp2_with (first|(go_at_call 224;refine(qn n m _ D B C).J ?_;rintro e w4 ⟨rfl,rfl⟩)|(go_at_call 274;refine(ma 2 l (f+(k:Int)) r (n:Int) _ K).J ?_;rw[<-g.j];rintro e i ⟨rfl,b⟩;have v:=b.size;simp only[BG]at v;have p:=LE (M.j.E (((LH _ _).E (b.J j)).J T));have t:=LE ((MK P.j ((LH _ _).E (b.J j))).alloc (.cells #[Ow F] 9));clear b))
   go_ret;rw[h.j];exact mz z p.j
  have c:k=N:=d
  subst c
  have h:Hid (R=XD s l f n m k k):=by
   show _=_;rw[O.j];have b:=J.j 0 bJ;have g:=J.j (k-1) d;exact vk o.j d
  have b:=LE S;clear S;go_wp2;go_ret;rw[h.j];exact tH b.j (vh _ _ _ _ _ _ _).symm Q
