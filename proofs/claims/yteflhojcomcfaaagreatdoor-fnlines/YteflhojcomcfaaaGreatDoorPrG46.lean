import Derived.Test.YteflhojcomcfaaaGreatDoorPrG45
set_option maxHeartbeats 16000000
set_option maxRecDepth 8000
set_option linter.all false
namespace Go.Proofs.YteflhojcomcfaaaGreatDoor
open Tryz
open Go.RowKit
variable {e:TypeId}{v:Ra}{w:Q9}
theorem Nb(r:Q4)(w:Q9)(q:r.size<=1048576)(l:0<r.size)(c:b0 r=1)(d:pc (r.extract 1 r.size)=none):Calls prog 270 #[Ow r] w λe a=>(∃k v g b,e=Q2 (.tuple #[.agg #[Ow k,Ow v,Q1 g],Ow b,Q1 false]))/\Q3 w a:=by
 have m:=dt r l;rw[c]at m;have f:=LE (ml d);have h:(r.extract 1 r.size).size<=1048576:=by simp only[AQ];omega
 clear d c;go_enter func270,ntmps270;go_wp2_with (go_at_call 298;refine(iz _ _ h).J ?_;rw[f.j];rintro e s ⟨rfl,b⟩;have g:=b.size;simp only[BG,BI]at g;obtain⟨i,n,j,o,k,p⟩:=k3 b w.heap.size (Ow ⟨#[]⟩) (Ow ⟨#[]⟩) (Q1 true);have a:=LE (ak b);clear b);refine H (v:=.tuple #[.agg #[Ow ⟨#[]⟩,Ow ⟨#[]⟩,Q1 true],Ow ⟨#[]⟩,Q1 false]) (by simp[results,results270,go_sem,i,j,k]) z ⟨⟨_,_,_,_,z⟩,?_⟩
 (first|exact(((a.j.setCell C _).setCell C _).setCell C _)|exact((((a.j.setCell C _).setCell C _).setCell C _).setCell C _)|exact(((((a.j.setCell C _).setCell C _).setCell C _).setCell C _).setCell C _)|exact((((((a.j.setCell C _).setCell C _).setCell C _).setCell C _).setCell C _).setCell C _)|exact(((((((a.j.setCell C _).setCell C _).setCell C _).setCell C _).setCell C _).setCell C _).setCell C _))
theorem Iw(r:Q4)(w:Q9)(q:r.size<=1048576)(l:0<r.size)(c:b0 r=0)(d:pc (r.extract 1 r.size)=none):Calls prog 270 #[Ow r] w λe a=>(∃k v g b,e=Q2 (.tuple #[.agg #[Ow k,Ow v,Q1 g],Ow b,Q1 false]))/\Q3 w a:=by
 have m:=dt r l;rw[c]at m;have f:=LE (ml d);have h:(r.extract 1 r.size).size<=1048576:=by simp only[AQ];omega
 clear d c;go_enter func270,ntmps270;go_wp2_with (go_at_call 298;refine(iz _ _ h).J ?_;rw[f.j];rintro e s ⟨rfl,b⟩;have g:=b.size;simp only[BG,BI]at g;obtain⟨i,n,j,o,k,p⟩:=k3 b w.heap.size (Ow ⟨#[]⟩) (Ow ⟨#[]⟩) (Q1 false);have a:=LE (ak b);clear b);refine H (v:=.tuple #[.agg #[Ow ⟨#[]⟩,Ow ⟨#[]⟩,Q1 false],Ow ⟨#[]⟩,Q1 false]) (by simp[results,results270,go_sem,i,j,k]) z ⟨⟨_,_,_,_,z⟩,?_⟩
 (first|exact(((a.j.setCell C _).setCell C _).setCell C _)|exact((((a.j.setCell C _).setCell C _).setCell C _).setCell C _)|exact(((((a.j.setCell C _).setCell C _).setCell C _).setCell C _).setCell C _)|exact((((((a.j.setCell C _).setCell C _).setCell C _).setCell C _).setCell C _).setCell C _)|exact(((((((a.j.setCell C _).setCell C _).setCell C _).setCell C _).setCell C _).setCell C _).setCell C _))
theorem Lx(r:Q4)(w:Q9)(N:r.size<=1048576)(G:0<r.size)(g:b0 r=0)(k m:Q4)(h:pc (r.extract 1 r.size)=some (k,m))(u:m.size<=1048576)(v d:Q4)(i:pc m=some (v,d)):Calls prog 270 #[Ow r] w λe a=>e=Q2 (.tuple #[.agg #[Ow k,Ow v,Q1 false],Ow d,Q1 true])/\Q3 w a:=by
 have I:=dt r G;rw[g]at I;have j:=LE (kz h);have l:=LE (kz i);have x:(r.extract 1 r.size).size<=1048576:=by simp only[AQ];omega
 have p:m.size<=1048576:=u;clear h g i;go_enter func270,ntmps270
 go_wp2_with (first|(have J:=R;go_at_call 298;refine(iz _ _ p).J ?_;rw[l.j];rintro e P ⟨rfl,c⟩;have o:=c.size;simp only[BG,BI]at o;obtain⟨D,K,E,L,F,M⟩:=k3 c w.heap.size (Ow k) (Ow ⟨#[]⟩) (Q1 false);have a:=LE ((R.j.setCell (p:=(Ki w.heap.size 0)) C (Ow k)).E (c.J ξ));clear c y A B q s t)|(go_at_call 298;refine(iz _ _ x).J ?_;rw[j.j];rintro e O ⟨rfl,b⟩;have n:=b.size;simp only[BG,BI]at n;obtain⟨y,q,A,s,B,t⟩:=k3 b w.heap.size (Ow ⟨#[]⟩) (Ow ⟨#[]⟩) (Q1 false);have R:=LE (ak b);clear b))
 refine H (v:=.tuple #[.agg #[Ow k,Ow v,Q1 false],Ow d,Q1 true]) (by simp[results,results270,go_sem,D,E,F]) z ⟨z,?_⟩
 (first|exact(((a.j.setCell C _).setCell C _).setCell C _)|exact((((a.j.setCell C _).setCell C _).setCell C _).setCell C _)|exact(((((a.j.setCell C _).setCell C _).setCell C _).setCell C _).setCell C _)|exact((((((a.j.setCell C _).setCell C _).setCell C _).setCell C _).setCell C _).setCell C _)|exact(((((((a.j.setCell C _).setCell C _).setCell C _).setCell C _).setCell C _).setCell C _).setCell C _))
theorem Kc(r:Q4)(w:Q9)(M:r.size<=1048576)(F:0<r.size)(f:b0 r=0)(k m:Q4)(h:pc (r.extract 1 r.size)=some (k,m))(t:m.size<=1048576)(i:pc m=none):Calls prog 270 #[Ow r] w λe a=>(∃k v g b,e=Q2 (.tuple #[.agg #[Ow k,Ow v,Q1 g],Ow b,Q1 false]))/\Q3 w a:=by
 have G:=dt r F;rw[f]at G;have g:=LE (kz h);have j:=LE (ml i);have u:(r.extract 1 r.size).size<=1048576:=by simp only[AQ];omega
 have o:m.size<=1048576:=t;clear h f i;go_enter func270,ntmps270
 go_wp2_with (first|(have I:=R;go_at_call 298;refine(iz _ _ o).J ?_;rw[j.j];rintro e O ⟨rfl,c⟩;have n:=c.size;simp only[BG,BI]at n;obtain⟨B,J,D,K,E,L⟩:=k3 c w.heap.size (Ow k) (Ow ⟨#[]⟩) (Q1 false);have a:=LE ((R.j.setCell (p:=(Ki w.heap.size 0)) C (Ow k)).E (c.J ξ));clear c x y A p q s)|(go_at_call 298;refine(iz _ _ u).J ?_;rw[g.j];rintro e N ⟨rfl,b⟩;have l:=b.size;simp only[BG,BI]at l;obtain⟨x,p,y,q,A,s⟩:=k3 b w.heap.size (Ow ⟨#[]⟩) (Ow ⟨#[]⟩) (Q1 false);have R:=LE (ak b);clear b))
 refine H (v:=.tuple #[.agg #[Ow k,Ow ⟨#[]⟩,Q1 false],Ow ⟨#[]⟩,Q1 false]) (by simp[results,results270,go_sem,B,D,E]) z ⟨⟨_,_,_,_,z⟩,?_⟩
 (first|exact(((a.j.setCell C _).setCell C _).setCell C _)|exact((((a.j.setCell C _).setCell C _).setCell C _).setCell C _)|exact(((((a.j.setCell C _).setCell C _).setCell C _).setCell C _).setCell C _)|exact((((((a.j.setCell C _).setCell C _).setCell C _).setCell C _).setCell C _).setCell C _)|exact(((((((a.j.setCell C _).setCell C _).setCell C _).setCell C _).setCell C _).setCell C _).setCell C _))
theorem rV{r k m:Q4}(h:pc r=some (k,m)):m.size<=r.size:=by
 have:=BD List.length (mY h).1;simp[NK]at this;omega
theorem Me(r:Q4)(w:Q9)(c:r.size<=1048576)(a:0<r.size):Calls prog 270 #[Ow r] w λe b=>vE (lm r) e/\Q3 w b:=by
 unfold lm
 by_cases f:1<b0 r
 .rw[G f];exact Jr r w c a f
 rw[A f]
 unfold TM
 cases hp:pc (r.extract 1 r.size) with
 | none =>
  rcases GK (b0 r) with b|b
  .exact Iw r w c a b hp
  exact Nb r w c a d hp
 | some p =>
  obtain⟨k,m⟩:=p;have g:m.size<=1048576:=by have:=rV hp;simp only[AQ]at this;omega
  rcases GK (b0 r) with b|b
  .simp only
   rw[A d]
   cases hq:pc m with
   | none=>exact Kc r w c a b k m hp g hq
   | some q =>
    obtain⟨v,h⟩:=q;exact Lx r w c a b k m hp g v h hq
  simp only
  rw[G d];exact H7 r w c a d k m hp
theorem xF:(prog.info? 102).map (λi=>(i.zero,i.size,i.bytes))=some (some (.agg #[Ow ByteArray.empty,Ow ByteArray.empty,Q1 false]),3,40):=h
theorem xO{P:Program}{z:Ra}{a b:Nat}(h:(P.info? e).map (λi=>(i.zero,i.size,i.bytes))=some (some z,a,b)):∃i,P.info? e=some i/\i.zero=some z/\i.size=a/\i.bytes=b:=by
 obtain⟨i,d,c⟩:=EC.1 h;simp only[EK]at c;exact⟨i,d,c⟩
theorem xy{W c:Q9}{b:Nat}{n B:Nat}{h:List Ra}(f:Below B W w)(own:w.ownsRow B e b v n h)(a:w.grownBy c v.ownBlock)(i:B<=w.heap.size):Below B W c :=f.E ⟨a.os,a.tape,a.output,a.size,λk j=>a.block k d (λg=>by have:=(own.lt k g.symm).1;omega)⟩
theorem nG{r d:Q4}{c:Ch}(f:0<r.size)(h:TM r=some (c,d)):d.size<r.size/\c.1.size<=255/\c.2.1.size<=255:=by
 obtain⟨g,i,t,k3,j⟩:=wQ f h;refine⟨?_,g,i⟩;have a:=BD List.length k3;have b:=BD List.length j;rw[NK]at b;rw[AK,NK]at a;have k:2<=(OM c).length:=by unfold OM;split<;>simp<;>omega
 simp only[BN]at a b;omega
def ug(w d:Q9)(e:Ending)(b:Option (List Ch)):Prop:=∃a c,e=Q2 (.tuple #[Y a (b.getD []).length c,Q1 b.isSome])/\OwnS d a (NL (b.getD []))/\(∀g,blk a (b.getD []).length=some g->w.heap.size<=g)/\Q3 w d
theorem bw{b:Q9}{a:Q5}{c:Nat}(hv:v=.tuple #[Y a 0 c,Q1 false])(d:Q3 w b):ug w b (Q2 v) none:=⟨a,c,by rw[hv];rfl,.inl z,λg h=>(by cases h),d⟩
theorem pU{f:Q9}{y:Ra}{o:List Ch}(h:f.ownsRow w.heap.size e 3 y o.length (NL o))(hv:v=.tuple #[y,Q1 true])(j:Q3 w f):ug w f (Q2 v) (some o):=by
 rcases MS h with ⟨c,d⟩|⟨g,b,c,d,_,k⟩
 .have:o=[]:=AD d
  subst this;exact⟨none,0,by rw[hv,c];rfl,.inl z,λg h=>(by cases h),j⟩
 refine⟨_,b,by rw[hv,c];rfl,.inr ⟨g,z,k⟩,λl a=>?_,j⟩
 simp only[GD]at a
 by_cases i:o.length=0
 .rw[i]at a;cases a
 rw[ND g 0 _ i]at a;cases a;exact d
theorem tR{B:Nat}{y:Ra}{o:List Ch}(h:w.ownsRow B e 3 y o.length (NL o)):∃a c,y=Y a o.length c/\Chs w a o:=by
 rcases MS h with ⟨b,c⟩|⟨g,a,b,c,_,d⟩
 .have:o=[]:=AD c
  subst this;exact⟨none,0,b,.inl z⟩
 exact⟨_,a,b,d.chs⟩
theorem pJ(o:List Ch)(c:Ch):NL (o++[c])=NL o++[Ow c.1,Ow c.2.1,Q1 c.2.2]:=by rw[oU];rfl
theorem J7(w:Q9)(A:Obj)(a:Array Ra)(t:TypeId):∀j u,a.toList[j]?=some u->((w.alloc A).alloc (.cells a t)).cell? (((Ki (w.heap.size+1) 0):Addr).add j)=some u:=by
 have h:=AV (w.alloc A) (.cells a t);rw[BG]at h;exact World.news_of_block h
theorem mQ(k v:Q4)(g:Bool):∀u∈[Ow k,Ow v,Q1 g],u.oneCell'=true:=by
 intro u a;simp only[DZ,EY,IX]at a;rcases a with rfl|rfl|rfl<;>rfl
theorem Ip(s:Q4)(w:Q9)(hs:s.size<=1048576):Calls prog 211 #[Ow s] w λe w'=>ug w w' e (ey s):=by
 obtain⟨R,L⟩:=nHz (ey s);rw[<-L.j];obtain⟨i0,j,G,I,aV⟩:=xO xF;have HI:=LE (AG j (AG G (AG I aV)));clear j G I aV;go_enter func211,ntmps211;go_wp2_with fail;go_loopw [0,4] (λf y wr=>∃(a:Nat) (o:List Ch) (r:Q4),f=Ow r/\a+o.length=21/\r.size<=1048576/\Hid (UF a r o=UF 21 s [])/\Hid (∀c∈o,c.1.size<=1048576/\c.2.1.size<=1048576)/\wr.ownsRow w.heap.size 102 3 y o.length (NL o)/\Q3 w wr) (λf _ _=>match f with | .string r=>r.size|_=>0)
 case atStart =>
  exact⟨21,[],s,z,z,hs,z,λc l=>(by simp at l),BU _ _ _ _,AB⟩
 case round =>
  obtain⟨a,o,r,rfl,hj,bE,T,M,S,Q⟩:=hrel;obtain⟨ya,yc,rfl,X⟩:=tR S;have U:=LE S;have m:=LE Q;have t:=Q.size;have P:=LE X;clear S Q X
  have J:∀(b:Bool),Hid (UF a r o=some (o,r))->Hid (R=if PZ o=true then some o else none):=λb hh=>by
   show _=_;have:=T.j;rw[hh.j]at this;rw[L.j];unfold ey;rw[<-this]
  by_cases N:r.size=0
  .have he:r.toList.isEmpty=true:=by rw[YH];exact AM N
   have i:=J true (by show _=_;cases a<;>simp[UF,N]);clear J
   cases n:PZ o with
   | true =>
    rw[n,AI z]at i;go_wp2_with (go_at_call 189;refine(ke _ o _ _ P.j d M.j).J ?_;rw[n];rintro e E ⟨rfl,h⟩);go_ret2;rw[i.j];exact pU (MK U.j h) z (m.j.E (h.J t))
   | false =>
    rw[n,A σ]at i;go_wp2_with (go_at_call 189;refine(ke _ o _ _ P.j d M.j).J ?_;rw[n];rintro e E ⟨rfl,h⟩);go_ret2;rw[i.j]
    exact bw z (by first|exact m.j.E (h.J t)|exact(m.j.E (h.J t)).alloc (by have:=h.size;omega) _)
  have he:r.toList.isEmpty=false:=by rw[YH];exact AH N
  by_cases hl:(o.length:Int)<=20
  .obtain⟨O,rfl⟩:∃O,a=O+1:=⟨a-1,d⟩
   have k:=T.j;rw[UF,A N]at k;have H:=LE (Me r · bE d);clear J
   by_cases F:1<b0 r
   focus
    have K:lm r=none:=by unfold lm;exact AI F
    rw[AI F]at k;have i:Hid (R=none):=by show _=_;rw[L.j];unfold ey;rw[<-k]
    rw[K]at H;clear F K
   rotate_left
   focus
    rw[A F]at k;have K:lm r=TM r:=by unfold lm;exact A F
    rw[K]at H;clear F K
    cases hq:TM r
    focus
     rw[hq]at k H;have i:Hid (R=none):=by show _=_;rw[L.j];unfold ey;rw[<-k]
     clear hq
    rotate_left
    focus
     rename_i p;obtain⟨⟨B,C,u⟩,r1⟩:=p;obtain⟨q1,q2,q3⟩:=nG d hq;rw[hq]at k H;have aZ:Hid (UF O r1 (o++[(B,C,u)])=UF 21 s []):=k;clear hq k T;simp only at q2 q3
     go_wp2_with (first|(go_at_call 270;refine(H.j _).J ?_;rintro e E ⟨D,h⟩;simp only[vE]at D;subst D;have bF:=h.size;have x:=LE (((MK U.j h).alloc (.cells #[Ow B,Ow C,Q1 u] 102)).alloc (.cells #[Ow B,Ow C,Q1 u] 102));have aW:=LE (((m.j.E (h.J t)).alloc d (.cells #[Ow B,Ow C,Q1 u] 102)).alloc q (.cells #[Ow B,Ow C,Q1 u] 102));clear h)|(at_builtin;refine SX _ z _ _ 49 z w.heap.size underlying49 HI.j z d _ o.length _ z x.j (Ki (E.heap.size+1) 0) 1 1 [Ow B,Ow C,Q1 u] z z (J7 E _ _ _) (mQ _ _ _) q (E.heap.size+1+1) σ ?_;intro g cap w7 W V aP bC;have aY:=LE W;have aX:=LE (xy aW.j x.j V q);clear W V aP))
     refine⟨⟨O,o++[(B,C,u)],r1,z,q,d,aZ.j,λc l=>?_,?_,aX.j⟩,by simp only;omega⟩
     .rcases BZ.1 l with l|l
      .exact M.j c l
      simp at l;subst l;exact⟨by simp only;omega,by simp only;omega⟩
     rw[pJ,AK];exact aY.j
   rotate_left
   all_goals
    go_wp2_with (go_at_call 270;refine(H.j _).J ?_;rintro e E ⟨⟨a1,a2,a3,a4,rfl⟩,h⟩);go_ret2;rw[i.j]
    exact bw z (by first|exact m.j.E (h.J t)|exact(m.j.E (h.J t)).alloc (by have:=h.size;omega) _)
  have bB:a=0:=d
  subst bB;have i:=J true z;clear J;have n:PZ o=false:=mn d;rw[n,A σ]at i;go_wp2_with (go_at_call 189;refine(ke _ o _ _ P.j d M.j).J ?_;rw[n];rintro e E ⟨rfl,h⟩);go_ret2;rw[i.j];exact bw z (m.j.E (h.J t))
