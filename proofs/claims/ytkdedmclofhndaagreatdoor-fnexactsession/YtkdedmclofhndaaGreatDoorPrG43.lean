import Derived.Test.YtkdedmclofhndaaGreatDoorPrRpL
import Derived.Test.YtkdedmclofhndaaGreatDoorPrAs
import Derived.Test.YtkdedmclofhndaaGreatDoorPrDrvOf
import Derived.Test.YtkdedmclofhndaaGreatDoorPrFnA
set_option maxHeartbeats 16000000
set_option maxRecDepth 8000
set_option linter.all false
namespace Go.Proofs.YtkdedmclofhndaaGreatDoor
open Tryz
open Go.RowKit
theorem Dg(s:yZ)(n:Int)(w:xV)(c:TypeId)(v:qD)(hv:w.cell? (yA 7 0)=some (.iface c v))(f:7<w.heap.size):Calls prog 176 #[yQ s,Z n] w λe a=>(∃E,e=yT (ae E (NB s n)))/\yX w a:=by
 by_cases l:1<=n/\n<=8
 ·obtain⟨m,rfl⟩:∃m:Nat,n=(m:Int):=⟨n.toNat,ω⟩
  by_cases b:s.size=64
  ·obtain⟨j,p,q,r,t⟩:=I0 s m b ω rfl
   have z:(LF s).length=64:=by rw[MR,b]
   have x:=gj s
   have d:∀o k,∀y∈((LF s).drop o).take k,0<=y/\y<=255:=λo k y a=>x y (EY (DM a))
   have k:=YZ 1 _ τ (d (m+7) 1);have e:=YZ 1 _ τ (d m 1);have g:=YZ 2 _ τ (d (m+1) 2);have i:=YZ 4 _ τ (d (m+3) 4);rw[<-j]at k;rw[<-p]at e;rw[<-q]at g;rw[<-r]at i
   by_cases o:rpN (s.extract m 64)+m<=56
   ·have h:=Ki s m _ _ _ _ _ w c v hv f b ω ω j o p q r t e.1 (by have:=e.2;omega) g.1 (by have:=g.2;omega) i.1 (by have:=i.2;omega)
    have u:NB s (m:Int)=if MJ (UF (s.extract m 64)) (UG (s.extract m 64)) (UH (s.extract m 64)) (TR (s.extract m 64)) (m:Int)=s then some (UF (s.extract m 64),UG (s.extract m 64),UH (s.extract m 64),TR (s.extract m 64)) else none:=by
     unfold NB;rw[DS]
     by_cases hF:MJ (UF (s.extract m 64)) (UG (s.extract m 64)) (UH (s.extract m 64)) (TR (s.extract m 64)) (m:Int)=s
     ·rw[AI hF,AI ⟨ω,ω,b,ω,hF⟩]
     rw[AF hF,AF (λa=>hF a.2.2.2.2)]
    rw[u];exact h
   rw[df (λa=>o (by have:=a.2.2.2.1;rw[DS]at this;omega))]
   exact El s m _ w c v hv f b ω ω j ω (by have:=k.2;omega)
  rw[df (λa=>b a.2.2.1)]
  exact J5 s m w c v hv f l b
 rw[df (λa=>l ⟨a.1,a.2.1⟩)]
 exact Kw s n w c v hv f l
theorem Ca(e t:Addr)(a:qD)(w:xV)(g:w.cell? (yA 1 0)=some (.iface 320 (.agg #[zW 10 57])))(f:w.cell? t=some a)(d:w.frozen? t=false)(i:t.block<w.heap.size):Calls prog 177 #[.iface 207 (.pointer (some e)),.iface 209 (.pointer (some t))] w λb c=>b=yT (yR true)/\Below t.block w c :=(M6 e t a w g f d).J λb c h=>⟨h.1,by
  rw[h.2]
  exact(((((AB t.block w).alloc ω _).alloc τ _).alloc τ _).alloc τ _).setCell (AA _) _⟩
theorem I7(t:qD)(w:xV):Calls prog 177 #[.nilIface,t] w λe a=>e=yT (yR false)/\yX w a :=(Je t w).J λe a h=>⟨h.1,by rw[h.2];exact AB _ _⟩
theorem RB.past{W w d:xV}(h:RB W w){B:Nat}(f:W.heap.size<B)(a:Below B w d):RB W d:=by
 have e:=h.size
 have b:∀i,d.cell? (yA W.heap.size i)=w.cell? (yA W.heap.size i):=λi=>a.cell (p:=(yA W.heap.size i)) (by show W.heap.size<_;omega)
 have c:∀i,d.frozen? (yA W.heap.size i)=w.frozen? (yA W.heap.size i):=λi=>a.frozen (p:=(yA W.heap.size i)) (by show W.heap.size<_;omega)
 exact⟨AJ e a.size,h.bel.E (a.J ω),(b _).E h.c0,(b _).E h.c1,(b _).E h.c2,(b _).E h.c3,(c _).E h.f0,(c _).E h.f1,(c _).E h.f2,(c _).E h.f3⟩
theorem xt(s:yZ)(n:Int)(w:xV)(t:TypeId)(v:qD)(hv:w.cell? (yA 7 0)=some (.iface t v))(F:w.cell? (yA 1 0)=some (.iface 320 (.agg #[zW 10 57])))(G:7<w.heap.size):Calls prog 121 #[yQ s,Z n] w λe a=>e=yT (TS (NB s n))/\yX w a:=by
 obtain⟨R,u⟩:∃R,Hid (R=NB s n):=⟨_,LQ rfl⟩;rw[<-u.j]
 have I:∀o,yX w (w.alloc o):=λo=>LG _ _
 have z:∀o,(w.alloc o).cell? (yA 7 0)=some (.iface t v):=λo=>(FD _ _ _ (by exact G)).E hv
 have y:Hid (∀a,yX w a->a.cell? (yA 1 0)=some (.iface 320 (.agg #[zW 10 57]))):=λa b=>(b.cell (p:=(yA 1 0)) (by show 1<_;omega)).E F
 have f:=λo=>Dg s n (w.alloc o) t v (z o) τ
 rw[<-u.j]at f
 cases R with
 | none =>
  simp only[ae]at f;go_enter func121,ntmps121
  go_wp2_with (first|(go_at_call 176;refine(f _).J ?_;rintro e h ⟨⟨E,rfl⟩,d⟩;have c:=LQ ((RB.new w _).I d);clear d)|(go_at_call 177;refine(Ca E (yA (h.heap.size+1) 0) (.pointer none) _ (y.j _ ((c.j.alloc _).alloc _).bel) γ γ σ).J ?_;rintro e H ⟨rfl,b⟩;have a:=((c.j.alloc _).alloc _).past (B:=h.heap.size+1) (by have:=c.j.size;omega) b;clear b;have j:=a.c0;have o:=a.c1;have q:=a.c2;have r:=a.c3;have A:=a.f0;have B:=a.f1;have C:=a.f2;have D:=a.f3;have i:=LQ a;clear a))
  refine AE (v:=.tuple #[ND 0 0 0 ⟨#[]⟩,yR false]) (by simp[results,results121,go_sem,j,o,q,r]) rfl ⟨rfl,?_⟩;exact(((i.j.bel.setCell (AA _) _).setCell (AA _) _).setCell (AA _) _).setCell (AA _) _
 | some x =>
  obtain⟨k,l,m,p⟩:=x;simp only[ae]at f;go_enter func121,ntmps121
  go_wp2_with (first|(go_at_call 176;refine(f _).J ?_;rintro e h ⟨⟨E,rfl⟩,d⟩;have c:=LQ ((RB.new w _).I d);clear d)|(go_at_call 177;refine(I7 _ _).J ?_;rintro e H ⟨rfl,b⟩;have a:=((c.j.alloc _).alloc _).I b;have g:=((yL h h.heap.size rfl (Z k) (Z l) (Z m) (yQ p) _).I (LG _ _) σ).I b ξ;clear b;have J:=g.c0;have K:=g.c1;have L:=g.c2;have M:=g.c3;clear g;have j:=a.c0;have o:=a.c1;have q:=a.c2;have r:=a.c3;have A:=a.f0;have B:=a.f1;have C:=a.f2;have D:=a.f3;have i:=LQ a;clear a))
  refine AE (v:=.tuple #[ND k l m p,yR true]) (by simp[results,results121,go_sem,j,o,q,r]) rfl ⟨rfl,?_⟩;exact(((i.j.bel.setCell (AA _) _).setCell (AA _) _).setCell (AA _) _).setCell (AA _) _
def RC:List (Int×List Int)->List (List Int)->List (List Int)
 | [],ps=>ps
 | x::r,ps=>RC r (ps.set x.1.toNat x.2)
theorem fi:∀(hs:List (Int×List Int)) (ps:List (List Int)),(RC hs ps).length=ps.length
 | [],_=>rfl
 | x::r,ps=>by rw[RC,fi r];simp
theorem sO:∀(hs:List (Int×List Int)) (x:Int×List Int) (ps:List (List Int)),RC (hs++[x]) ps=(RC hs ps).set x.1.toNat x.2
 | [],_,_=>rfl
 | y::r,x,ps=>by rw[EV,RC,sO r];rfl
theorem mU(a:List (Int×List Int))(b:List (List Int))(k:Nat)(h:k<a.length):RC (a.take (k+1)) b=(RC (a.take k) b).set (a.getD k (0,[])).1.toNat (a.getD k (0,[])).2:=by
 rw[BH h,sO];simp[List.getD,h]
theorem Em(k:Nat)(a:xA)(n c:Nat)(w:xV):Sem.run prog (method (k+1) 107 (yI a n c) "loop.example/kilnstone/impl.read") w=.ok (321,yI a n c) w:=κ
theorem qR(k:Nat)(v a:qD)(w:xV):Sem.run prog (method (k+1) 301 (.agg #[v,a]) "loop.example/kilnstone/impl.read") w=.ok (330,.agg #[v,a]) w:=κ
set_option maxRecDepth 100000 in
theorem uI(a:xA)(f:List (Int×List Int))(c:Nat)(g n q m:Nat)(l:List (List Int))(w:xV)(h:Hld w a f)(M:∀p∈f,p.2.length=64)(K:∀p∈f,0<=p.1)(hl:f.length<=300)(J:PR w g l)(S:l.length=n)(R:n<=200)(T:m<n):Calls prog 330 #[.agg #[yI a f.length c,.iface 107 (yI (zY g 0) n q)],Z (m:Int)] w λe b=>e=yT (.tuple #[.agg (((RC f l).getD m []).map (Value.int .u8)).toArray,yR true])/\yX w b:=by
 obtain⟨d,G⟩:∃d,Hid (d=(RC f l).getD m []):=⟨_,Y rfl⟩;rw[<-G.j]
 have N:∀b i,yX w ((w.alloc b).alloc i):=λb i=>(LG _ _).alloc σ _
 go_enter func330,ntmps330;go_wp2_with fail;obtain⟨F,b⟩:∃F,F=((w.alloc (.cells #[yI a f.length c,.iface 107 (yI (zY g 0) n q)] 301)).alloc (.cells mc 143)):=⟨_,rfl⟩;have C:=N (.cells #[yI a f.length c,.iface 107 (yI (zY g 0) n q)] 301) (.cells mc 143);have E:=(Cx.new w (yI a f.length c) (.iface 107 (yI (zY g 0) n q)) 301).I (Oq _ (.cells mc 143));have j:=NZ (w.alloc (.cells #[yI a f.length c,.iface 107 (yI (zY g 0) n q)] 301)) mc 143 (w.heap.size+1) σ;rw[<-b]at C E j;go_loopw [6] (λi wr=>∃k:Nat,k<=f.length/\i=Z ((k:Int)-1)/\Hid (d=(RC (f.take k) l).getD m [])/\wr=F) (λi _=>((intOf i)+1).toNat)
 case atStart=>exact⟨f.length,AA _,rfl,by show _=_;rw[DF,G.j],by rw[b];kernel_rfl⟩
 case round =>
  obtain⟨k,X,rfl,z,rfl⟩:=hrel;have U:=E.c0;have V:=E.c1;have I:=Y j;have H:=Y C;clear j b;rcases k with _|j
  ·have o:=J.I C
   have u:=λk=>Em k (zY g 0) n q wr
   have p:d.length=64:=by rw[z.j];exact Pw J.len (by show m<l.length;omega)
   have t:(d.map (Value.int .u8)).toArray.size=64:=by simp[p]
   have B:Hid ((prog.info? 143).map (·.size)=some (d.map (Value.int .u8)).length):=by show _=_;rw[BO,p];kernel_rfl
   have D:Hid (l.getD m []=d):=z.j.symm;go_wp2_with fail;refine(Vh g n q m l _ o S R T).J ?_;rw[D.j];rintro e v ⟨rfl,b⟩;have s:=(I.j.I b).there (n:=64) κ;have r:=Y (Below.then H.j (AA _) b);clear b o u U V;go_wp2_with (with_reducible refine WJ 143 _ _ rfl ?_;refine BU rfl 143 _ _ rfl (w.heap.size+1) 0 (d.map (Value.int .u8)).toArray rfl rfl (by rw[t];exact s) (by rw[t];kernel_rfl) (GH (VQ d)) ?_);refine AE (v:=.tuple #[.agg (d.map (Value.int .u8)).toArray,yR true]) (Pj (p:=4) (u:=5) results330 _ _ (w.heap.size+1) 0 rfl (d.map (Value.int .u8)) _ (EE _ _ _ _ (by rw[BO,p];exact s)) underlying143 rfl B.j) rfl ⟨rfl,?_⟩;exact Go.below_setCells ω _ _ _ r.j
  have u:j<f.length:=ω
  obtain⟨b,o,y,x,rfl,W,r,A⟩:=(h.I C).at u;have p:x.length=64:=M (y,x) (by rw[A.j];simp[List.getD,u]);have O:=r 0 _ rfl;rw[IN]at O;have s:((j+1:Nat):Int)-1=(j:Int):=ω
  rw[s];clear s
  by_cases Q:y=(m:Int)
  ·subst Q
   have P:m<(RC (f.take j) l).length:=by rw[fi];omega
   have D:Hid (x=d):=by
    show _=_;rw[z.j,mU f l j u,<-A.j,DS];simp[List.getD,P]
   rw[D.j]at r p;have t:(d.map (Value.int .u8)).toArray.size=64:=by simp[p]
   have B:Hid ((prog.info? 143).map (·.size)=some (d.map (Value.int .u8)).length):=by show _=_;rw[BO,p];kernel_rfl
   have L:Hid (wr.rangeAt b (o+j*65+1) (d.map (Value.int .u8))):=λi v hv=>by
    have:=r (i+1) v (by simpa using hv);rw[<-this];congr 2;omega
   have s:=I.j.there (n:=64) κ;clear r
   go_wp2_with (first|(with_reducible refine YO 143 _ rfl ?_;refine AZ rfl 143 _ rfl b (o+j*65+1) rfl (d.map (Value.int .u8)) _ L.j underlying143 rfl B.j ?_)|(with_reducible refine WJ 143 _ _ rfl ?_;refine BU rfl 143 _ _ rfl (w.heap.size+1) 0 (d.map (Value.int .u8)).toArray rfl rfl (by rw[t];exact s) (by rw[t];kernel_rfl) (GH (VQ d)) ?_))
   refine AE (v:=.tuple #[.agg (d.map (Value.int .u8)).toArray,yR true]) (Pj (p:=4) (u:=5) results330 _ _ (w.heap.size+1) 0 rfl (d.map (Value.int .u8)) _ (EE _ _ _ _ (by rw[BO,p];exact s)) underlying143 rfl B.j) rfl ⟨rfl,?_⟩;exact Go.below_setCells ω _ _ _ H.j
  have i:Hid (d=(RC (f.take j) l).getD m []):=by
   show _=_;rw[z.j,mU f l j u,<-A.j];have t:0<=y:=K (y,x) (by rw[A.j];simp[List.getD,u]);have s:y.toNat≠m:=ω
   simp[List.getD,IV s]
  clear r;go_wp2;go_roundw
  case rel=>exact⟨j,ω,ν,i,trivial⟩
  case measure=>simp[intOf]
theorem ry:∀(hs:List (Int×List Int)) (ps:List (List Int)),(∀p∈hs,p.2.length=64)->(∀p∈ps,p.length=64)->∀p∈RC hs ps,p.length=64
 | [],ps,_,h=>h
 | x::r,ps,h1,h2=>ry r _ (λp hp=>h1 p (DJ _ hp)) (λp hp=>by
  rcases EZ hp with h3|h3
  ·exact h2 p h3
  ·rw[h3];exact h1 x (EM ..))
theorem sy:∀(ws:List (Int×yZ)) (ss:List yZ),O4 (RC (LP ws) (ss.map LF))=Oz ws ss
 | [],ss=>by
  show(ss.map LF).map strOfNums=ss;rw[IM];exact KT (λs=>UA s) ss
 | x::r,ss=>by
  have:=sy r (ss.set x.1.toNat x.2);rw[KE]at this;exact this
section
set_option maxHeartbeats 4000000
@[reducible] def YV(x:RtT):qD:=NI x.1 x.2.1 x.2.2.1 x.2.2.2
def UB(s:yZ)(n:Int):RtT :=match NB s n with
 | none=>MT
 | some (_,l,m,p)=>if p.size=5/\OS m (RL p) (QW p) l n=s then (m,RL p,QW p,l) else MT
theorem Mb(s:yZ)(n:Int)(w:xV)(k l m:Int)(p:yZ)(E:NB s n=some (k,l,m,p))(P:∀b,yX w b->Calls prog 121 #[yQ s,Z n] b λe a=>e=yT (.tuple #[ND k l m p,yR true])/\yX b a)(D:p.size=5):Calls prog 268 #[yQ s,Z n] w λe a=>e=yT (YV (UB s n))/\yX w a:=by
 have M:∀o,yX w (w.alloc o):=λo=>(AB _ _).alloc (AA _) _
 obtain⟨_,_,cJ,cL,cH,cI,cM⟩:=UJ E;obtain⟨i,c⟩:∃i,Hid (i=UB s n):=⟨_,LQ rfl⟩;obtain⟨H,t⟩:∃H,Hid (H=RL p):=⟨_,LQ rfl⟩;obtain⟨F,r⟩:∃F,Hid (F=QW p):=⟨_,LQ rfl⟩;obtain⟨g,J⟩:∃g,Hid (g=OS m H F l n):=⟨_,LQ rfl⟩
 have L:Hid (i=if g=s then (m,H,F,l) else MT):=by
  show _=_;rw[c.j,J.j,t.j,r.j];unfold UB;rw[E];simp[D]
 rw[<-c.j];clear E c;have bU:(p.size:Int)=5:=ω
 have W:(LF p).length=5:=by rw[MR,D]
 have c:=gj p;have f:=YZ 1 ((LF p).take 1) τ (λy d=>c y (DM d));have j:=YZ 4 (((LF p).drop 1).take 4) τ (λy d=>c y (EY (DM d)));have bZ:0<=H:=by rw[t.j];exact f.1
 have cA:H<=255:=by rw[t.j];have:=f.2;unfold RL;omega
 have bV:0<=F:=by rw[r.j];exact j.1
 have bW:F<=4294967295:=by rw[r.j];have:=j.2;unfold QW;omega
 have cC:IntKind.i64.wrap H=H:=by simp[IntKind.wrap,IntKind.bits,IntKind.signed];omega
 have bY:IntKind.i64.wrap F=F:=by simp[IntKind.wrap,IntKind.bits,IntKind.signed];omega
 obtain⟨d,h⟩:∃d,Hid (d=LF p):=⟨_,LQ rfl⟩;have K:Hid (∀y∈d,0<=y/\y<=255):=by rw[h.j];exact c
 have S:Hid (H=MY ((d.drop 0).take 1)):=by show _=_;rw[h.j,FH];exact t.j
 have R:Hid (F=MY ((d.drop 1).take 4)):=by show _=_;rw[h.j];exact r.j
 rw[<-h.j]at W;clear c f j
 have B:=λb=>wM m H F l n b
 rw[<-J.j]at B;have V:=LQ (λb=>wQ b p);go_enter func268,ntmps268;go_wp2_with (go_at_call 121;refine(P _ (M _)).J ?_;rintro e b ⟨rfl,C⟩;have z:=LQ ((B4.new w (Z 0) (Z 0) (Z 0) (Z 0) _).I C);have f:=LQ ((M _).E (C.J σ));clear C;obtain⟨q,c,N,v,G,x,Q⟩:=V.j (b.alloc (.cells #[Z k,Z l,Z m,yQ p] 127));rw[D]at N Q;have j:=(B4.new b (Z k) (Z l) (Z m) (yQ p) 127).I v;have I:=LQ ((z.j.alloc _).I v);have y:=LQ ((f.j.alloc f.j.size _).E (v.J (f.j.alloc f.j.size _).size));have bP:w.heap.size<b.heap.size:=z.j.lt;clear z f v;simp only[BE]at G x N;rw[<-h.j]at x;have u:=LQ x;clear x;have Y:=j.c1;have p2:=j.c2;have p3:=j.c3;have A:=LQ j;clear j);have X:b.heap.size+1<c.heap.size:=ω
 have v:Hid (∀o,Fm (c.alloc o) (b.heap.size+1) d):=λo=>u.j.I ((AB _ _).alloc (AA _) _) X
 have cF:(1:Int)<=(q:Int):=ω
 have cE:¬q=1:=ω
 have f:Hid (∀a,yX c a->a.cell? (yA b.heap.size 1)=some (Z l)/\a.cell? (yA b.heap.size 2)=some (Z m)/\yX c a):=λa j=>⟨(A.j.I j).c1,(A.j.I j).c2,j⟩
 refine(λj:Wr ?G=>?main) ⟨?pf⟩
 case main =>
  go_region_held3 (λa=>a.cell? (yA b.heap.size 1)=some (Z l)/\a.cell? (yA b.heap.size 2)=some (Z m)/\yX c a)
   (first|assumption|exact f.j _ ((AB _ _).drew)|exact f.j _ (((AB _ _).drew).alloc (AA _) _)|exact f.j _ (((AB _ _).alloc (AA _) _).drew)|exact f.j _ ((AB _ _).alloc (AA _) _))
   (first
    | (have o:=a;go_at_call 235;refine(cd (b.heap.size+1) d K 1 4 _ ω ω _ (by first|exact u.j.drew|exact(v.j _).drew) F R.j).J ?_;rintro e C ⟨rfl,rfl⟩)
    | (go_at_call 235;refine(cd (b.heap.size+1) d K 0 1 _ ω ω _ (by first|exact u.j.drew|exact(v.j _).drew) H S.j).J ?_;rintro e C ⟨rfl,rfl⟩;have a:=True.intro))
  all_goals exact j.j
 have a:=(B4.new c (Z m) (Z H) (Z F) (Z l) 34).drew;have j:yX c (c.alloc (.cells #[Z m,Z H,Z F,Z l] 34)).drew:=((AB _ _).alloc (AA _) _).drew;obtain⟨O,o⟩:∃O,O=(c.alloc (.cells #[Z m,Z H,Z F,Z l] 34)).drew:=⟨_,rfl⟩;rw[G]at a;rw[<-o]at a j⊢;have U:=LQ (I.j.I j);have x:=LQ (y.j.E (j.J (by have:=y.j.size;omega)));have T:=LQ a;clear o f j I y A u v Y p2 p3;have q0:=a.c0;have q1:=a.c1;have q2:=a.c2;have q3:=a.c3;clear a
 by_cases f:g=s
 focus
  have a:Hid (i=(m,H,F,l)):=by show _=_;rw[L.j,AI f]
  have j:=LQ f;clear f;rw[j.j]at B
 rotate_left
 focus
  have a:Hid (i=MT):=by show _=_;rw[L.j,AF f]
  have o:(!g.toList == s.toList)=true:=by simp only[KM,BI];intro j;rw[CZ,CZ]at j;exact f (EQ (IE j))
  clear f
 rotate_left
 all_goals
  go_wp2_with (first|(go_at_call 275;refine(B _).J ?_;rintro e C ⟨rfl,o⟩;have a:=U.j.I o;have j:=T.j.I o;have u:=LQ (x.j.E (o.J x.j.size));clear o;have v:=a.c0;have y:=a.c1;have z:=a.c2;have A:=a.c3;have I:=a.f0;have Y:=a.f1;have f2:=a.f2;have f3:=a.f3;have r0:=j.c0;have r1:=j.c1;have r2:=j.c2;have r3:=j.c3;clear a j))
 ·refine AE (v:=NI m H F l) (by simp[results,results268,go_sem,v,y,z,A]) rfl ⟨by rw[a.j],?_⟩
  exact(((u.j.setCell (AA _) _).setCell (AA _) _).setCell (AA _) _).setCell (AA _) _
 refine AE (v:=NI 0 0 0 0) (by simp[results,results268,go_sem,v,y,z,A]) rfl ⟨by rw[a.j];rfl,?_⟩
 exact(((u.j.setCell (AA _) _).setCell (AA _) _).setCell (AA _) _).setCell (AA _) _
theorem qU(s:yZ)(n:Int)(w:xV)(k l m:Int)(p:yZ)(b:Bool)(i:∀c,yX w c->Calls prog 121 #[yQ s,Z n] c λe a=>e=yT (.tuple #[ND k l m p,yR b])/\yX c a)(u:p.size<=64)(g:b=false\/p.size≠5)(j:Hid (UB s n=MT)):Calls prog 268 #[yQ s,Z n] w λe a=>e=yT (YV (UB s n))/\yX w a:=by
 have f:∀o,yX w (w.alloc o):=λo=>(AB _ _).alloc (AA _) _
 cases b
 focus
  focus
  rotate_left
 rotate_left
 focus
  focus
   have a:((p.size:Int) != 5)=true:=by
    have h:=g.resolve_left σ;simp;omega
  rotate_left
 rotate_left
 all_goals
  clear g;go_enter func268,ntmps268;go_wp2_with (go_at_call 121;refine(i _ (f _)).J ?_;rintro e A ⟨rfl,c⟩;have a:=LQ ((B4.new w (Z 0) (Z 0) (Z 0) (Z 0) _).I c);have d:=LQ ((f _).E (c.J σ));clear c;have h:=λo=>(a.j.alloc o).c0;have q:=λo=>(a.j.alloc o).c1;have r:=λo=>(a.j.alloc o).c2;have t:=λo=>(a.j.alloc o).c3;have v:=λo=>(a.j.alloc o).f0;have x:=λo=>(a.j.alloc o).f1;have y:=λo=>(a.j.alloc o).f2;have z:=λo=>(a.j.alloc o).f3);refine AE (v:=NI 0 0 0 0) (by simp[results,results268,go_sem,h,q,r,t]) rfl ⟨by rw[j.j];rfl,?_⟩;exact((((d.j.alloc d.j.size _).setCell (AA _) _).setCell (AA _) _).setCell (AA _) _).setCell (AA _) _
theorem L1(s:yZ)(n:Int)(w:xV)(d:TypeId)(v:qD)(hv:w.cell? (yA 7 0)=some (.iface d v))(f:w.cell? (yA 1 0)=some (.iface 320 (.agg #[zW 10 57])))(g:7<w.heap.size):Calls prog 268 #[yQ s,Z n] w λe a=>e=yT (YV (UB s n))/\yX w a:=by
 have a:=λwx (c:yX w wx)=>xt s n wx d v ((c.cell (p:=(yA 7 0)) g).E hv) ((c.cell (p:=(yA 1 0)) (by show 1<_;omega)).E f) (by have:=c.size;omega)
 cases hR:NB s n with
 | none =>
  rw[hR]at a;exact qU s n w 0 0 0 ⟨#[]⟩ false a δ (.inl rfl) (by show _=_;unfold UB;rw[hR])
 | some x =>
  obtain⟨k,l,m,p⟩:=x;rw[hR]at a
  by_cases b:p.size=5
  ·exact Mb s n w k l m p hR a b
  exact qU s n w k l m p true a (UJ hR).2.2.2.2.2.2 (.inr b) (by show _=_;unfold UB;rw[hR];simp[b])
theorem Ob(x:RtT)(w:xV)(h:0<=x.1):Calls prog 269 #[YV x] w λe a=>e=yT (Z (x.1 % 2))/\yX w a:=by
 obtain⟨t,a,b,c⟩:=x;go_enter func269,ntmps269;go_wp2;go_ret;refine⟨?_,(AB _ _).alloc (AA _) _⟩;have:t.tmod 2=t % 2:=GF h
 first|rfl|simp[this]
theorem Nq(s:yZ)(a n:Int)(d:a=0\/a=1):(if (UB s n).1 % 2=a then UB s n else MT)=(NT s a n).getD MT:=by
 unfold UB NT
 cases NB s n with
 | none=>exact ite_self _
 | some x =>
  obtain⟨k,l,m,p⟩:=x
  by_cases b:p.size=5/\OS m (RL p) (QW p) l n=s
  ·by_cases c:m % 2=a
   ·simp[b.1,b.2,c]
   simp[b.1,b.2,c]
  simp only[AF b]
  have c:¬(p.size=5/\OS m (RL p) (QW p) l n=s/\m % 2=a):=λh=>b ⟨h.1,h.2.1⟩
  rw[AF c];exact ite_self _
theorem Ag(s:yZ)(n:Int):0<=(UB s n).1:=by
 unfold UB
 cases h:NB s n with
 | none=>simp[MT]
 | some x =>
  obtain⟨k,l,m,p⟩:=x;have:=(UJ h).2.2.1;show 0<=(if p.size=5/\OS m (RL p) (QW p) l n=s then (m,RL p,QW p,l) else MT).1
  split
  ·show 0<=m;omega
  simp[MT]
theorem I5(s u:qD)(x:List Int)(a n:Int)(w:xV)(ha:a=0\/a=1)(m:x.length=64)
  (C:∀b,yX w b->Calls prog 330 #[.agg #[s,u],Z a] b λe c=>e=yT (.tuple #[.agg (x.map (Value.int .u8)).toArray,yR true])/\yX b c)
  (M:TypeId)(v:qD)(hv:w.cell? (yA 7 0)=some (.iface M v))(J:w.cell? (yA 1 0)=some (.iface 320 (.agg #[zW 10 57])))(hg:7<w.heap.size):Calls prog 218 #[.iface 301 (.agg #[s,u]),Z a,Z n] w λe c=>e=yT (YV ((NT (strOfNums x) a n).getD MT))/\yX w c:=by
 have E:∀o,yX w (w.alloc o):=λo=>(AB _ _).alloc (AA _) _
 rw[<-Nq _ a n ha]
 have c:=λb (r:yX w b)=>L1 (strOfNums x) n b M v ((r.cell (p:=(yA 7 0)) hg).E hv) ((r.cell (p:=(yA 1 0)) (by show 1<_;omega)).E J) (by have:=r.size;omega)
 have y:=Ag (strOfNums x) n;obtain⟨o,d⟩:∃o,UB (strOfNums x) n=o:=⟨_,rfl⟩;rw[d]at c y⊢;clear d hv J;obtain⟨t,h,f,l⟩:=o;have bG:(x.map (Value.int .u8)).toArray.size=64:=by simp[m]
 have N:Hid ((prog.info? 143).map (·.size)=some (x.map (Value.int .u8)).length):=by show _=_;rw[BO,m];kernel_rfl
 have W:=λk b=>qR k s u b
 obtain⟨L,D⟩:∃L,Hid (L=strOfNums x):=⟨_,Y rfl⟩;rw[<-D.j]at c;have U:=Y (λb=>Ob (t,h,f,l) b y);have P:=Y c;have O:=Y C;clear c C
 by_cases K:t % 2=a
 focus
  have c:(if ((t,h,f,l):RtT).1 % 2=a then ((t,h,f,l):RtT) else MT)=(t,h,f,l):=AI K
 rotate_left
 focus
  have c:(if ((t,h,f,l):RtT).1 % 2=a then ((t,h,f,l):RtT) else MT)=MT:=AF K
 rotate_left
 all_goals
  rw[c];clear c;go_enter func218,ntmps218;go_wp2_with fail;refine(O.j _ (E _)).J ?_;rintro e w2 ⟨rfl,c⟩;have Q:=Y ((B4.new w (Z 0) (Z 0) (Z 0) (Z 0) 34).I c);have A:=Y ((E (.cells #[Z 0,Z 0,Z 0,Z 0] 34)).E (c.J σ));clear c W
  go_wp2_with (first
   | (with_reducible refine WJ 143 _ _ rfl ?_;refine Ox rfl 143 _ _ rfl (x.map (Value.int .u8)) (VQ x) rfl rfl _ _ (by rw[BO,m];kernel_rfl) N.j ?_;intro b z q X;have V:=z.text (P:=prog) x 0 64 64 m (λi hi=>by simp[List.getD,show i<x.length by omega]) 24 5 9 underlying24 underlying5 underlying9;rw[<-D.j]at V;have T:=Y (Q.j.I q);have k:=Y (A.j.E (q.J A.j.size));clear q X z)
   | (go_at_call 268;refine(P.j _ k.j).J ?_;rintro e w3 ⟨rfl,p⟩;have R:=Y (T.j.I p);have g:=Y (k.j.E (p.J k.j.size));clear p)
   | (go_at_call 269;refine(U.j _).J ?_;rintro e w4 ⟨rfl,j⟩;have S:=Y ((R.j.alloc _).I j);have d:=(B4.new w3 (.int .i64 t) (.int .i64 h) (.int .i64 f) (.int .i64 l) 34).I j;have B:=Y ((g.j.alloc g.j.size _).E (j.J (g.j.alloc g.j.size _).size));clear j;have r0:=d.c0;have r1:=d.c1;have r2:=d.c2;have r3:=d.c3;clear d;have c:=S.j;have F:=c.c0;have G:=c.c1;have H:=c.c2;have I:=c.c3;have f0:=c.f0;have f1:=c.f1;have f2:=c.f2;have f3:=c.f3;clear c))
 ·refine AE (v:=NI t h f l) (by simp[results,results218,go_sem,F,G,H,I]) rfl ⟨rfl,?_⟩
  exact(((B.j.setCell (AA _) _).setCell (AA _) _).setCell (AA _) _).setCell (AA _) _
 refine AE (v:=NI 0 0 0 0) (by simp[results,results218,go_sem,F,G,H,I]) rfl ⟨rfl,?_⟩
 exact(((B.j.setCell (AA _) _).setCell (AA _) _).setCell (AA _) _).setCell (AA _) _
theorem My(a:xA)(d:List yZ)(c:Nat)(g:xA)(f:List (Int×yZ))(j:Nat)(n:Int)(w:xV)(h:Strs w a d)(t:Wrs w g f)(u:d.length<=1048576)(o:f.length<=1048576)(v:∀s∈d,s.size<=1048576)(p:∀x∈f,x.2.size<=1048576)(l:¬(LO d f=true/\1<=n/\n<=8)):Calls prog 165 #[LM a d.length c g f.length j,Z n] w λe b=>e=yT (NI 0 0 0 0)/\yX w b:=by
 have k:∀b i,yX w ((w.alloc b).alloc i):=λb i=>((AB _ _).alloc (AA _) _).alloc σ _
 cases hok:LO d f
 focus
  clear l;go_enter func165,ntmps165;go_wp2_with fail;refine(WA a d c g f j _ (h.I (k _ _)) (t.I (k _ _)) u o v p).J ?_;rw[hok];rintro e D ⟨rfl,i⟩;have b:=((B4.new (w.alloc (.cells #[yI a d.length c,yI g f.length j] 32)) (Z 0) (Z 0) (Z 0) (Z 0) 34).I i);rw[BE]at b;have m:=Y ((k (.cells #[yI a d.length c,yI g f.length j] 32) (.cells #[Z 0,Z 0,Z 0,Z 0] 34)).E (i.J ξ));clear i;have i:=b.c0;have q:=b.c1;have r:=b.c2;have s:=b.c3;have y:=b.f0;have z:=b.f1;have A:=b.f2;have B:=b.f3;clear b;go_wp2
 rotate_left
 focus
  have C:decide (1<=n/\n<=8)=false:=AH (λx=>l ⟨hok,x⟩);clear l;go_enter func165,ntmps165;go_wp2_with fail;refine(WA a d c g f j _ (h.I (k _ _)) (t.I (k _ _)) u o v p).J ?_;rw[hok];rintro e D ⟨rfl,i⟩;have b:=((B4.new (w.alloc (.cells #[yI a d.length c,yI g f.length j] 32)) (Z 0) (Z 0) (Z 0) (Z 0) 34).I i);rw[BE]at b;have m:=Y ((k (.cells #[yI a d.length c,yI g f.length j] 32) (.cells #[Z 0,Z 0,Z 0,Z 0] 34)).E (i.J ξ));clear i;have i:=b.c0;have q:=b.c1;have r:=b.c2;have s:=b.c3;have y:=b.f0;have z:=b.f1;have A:=b.f2;have B:=b.f3;clear b
  go_wp2_with (first|(go_at_call 36;refine(RH _ _).J ?_;rw[C];rintro e x ⟨rfl,b⟩;rw[b];clear b x))
 rotate_left
 all_goals
  refine AE (v:=NI 0 0 0 0) (by simp[results,results165,go_sem,i,q,r,s]) rfl ⟨rfl,?_⟩;exact(((m.j.setCell (by show _<=w.heap.size+1;omega) _).setCell (by show _<=w.heap.size+1;omega) _).setCell (by show _<=w.heap.size+1;omega) _).setCell (by show _<=w.heap.size+1;omega) _
theorem Be(a:xA)(j:List yZ)(c:Nat)(C:xA)(d:List (Int×yZ))(H:Nat)(n:Int)(w:xV)(h:Strs w a j)(h':Wrs w C d)(hl:j.length<=1048576)(dB:d.length<=1048576)(V:∀s∈j,s.size<=1048576)(dL:∀x∈d,x.2.size<=1048576)(ty:TypeId)(v:qD)(hv:w.cell? (yA 7 0)=some (.iface ty v))(I:w.cell? (yA 1 0)=some (.iface 320 (.agg #[zW 10 57])))(hg:7<w.heap.size)(R:LO j d=true)(hn:1<=n/\n<=8):Calls prog 165 #[LM a j.length c C d.length H,Z n] w λe t=>e=yT (YV (MQ j d n))/\yX w t:=by
 have Q:∀b f,yX w ((w.alloc b).alloc f):=λb f=>((AB _ _).alloc (AA _) _).alloc σ _
 have hd:decide (1<=n/\n<=8)=true:=AM hn;obtain⟨G,aI⟩:∃G,Hid (G=MQ j d n):=⟨_,Y rfl⟩;rw[<-aI.j];obtain⟨⟨dU,cE,cF⟩,cW,W⟩:=OV R;go_enter func165,ntmps165;go_wp2_with fail;refine(WA a j c C d H _ (h.I (Q _ _)) (h'.I (Q _ _)) hl dB V dL).J ?_;rw[R];rintro e w1 ⟨rfl,b⟩;have l:=Y ((((Cx.new w (yI a j.length c) (yI C d.length H) 32)).I (Oq _ (.cells #[Z 0,Z 0,Z 0,Z 0] 34))).I b);have f:=((B4.new (w.alloc (.cells #[yI a j.length c,yI C d.length H] 32)) (Z 0) (Z 0) (Z 0) (Z 0) 34).I b);rw[BE]at f;have F:=Y f;have i:=Y ((Q (.cells #[yI a j.length c,yI C d.length H] 32) (.cells #[Z 0,Z 0,Z 0,Z 0] 34)).E (b.J ξ));clear b f;have f:=l.j.c0;have k:=l.j.c1
 go_wp2_with (first|(go_at_call 36;refine(RH _ _).J ?_;rw[hd];rintro e g ⟨rfl,b⟩;rw[b];clear b g))
 refine(gw a j c C d H _ (h.I i.j) (h'.I i.j) cE cF (λs V=>by have:=cW s V;omega) (λx hx=>by have:=AW (W x hx);omega)).J ?_;rintro e w2 ⟨g,vv,rfl,u,m,dR,b⟩;clear f k
 obtain⟨D,z,dN,p⟩:∃D z,vv=yI D (LP d).length z/\OwnS w2 D (Ot (LP d)):=by
  rw[QL];rcases MC m with ⟨e,I⟩|⟨y,k,e,o,A,f⟩
  ·have:d=[]:=AD I
   subst this;exact⟨none,0,e,.inl rfl⟩
  exact⟨_,k,e,.inr ⟨y,rfl,f⟩⟩
 subst dN;have E:=Y (Below.then i.j (AA _) b);have J:=Y (F.j.I b);clear b m;go_wp2_with fail;refine(vC _ _ _ _ _ _ _).J ?_;rintro e q ⟨rfl,b⟩;have k:=Y (Below.then E.j (AA _) b);have r:=Y (J.j.I b);have o:=Y (u.I b);have s:=Y (p.I b);clear u p b
 have K:∀p∈LP d,p.2.length=64:=λp b=>by
  obtain⟨x,hx,rfl⟩:=DT.1 b;have:=AW (W x hx);show(LF x.2).length=64;rw[MR];omega
 have u:Hld q D (LP d):=by
  rcases s.j with I|⟨y,rfl,A⟩
  ·refine .inl (AD ?_)
   have:=BC List.length I;rw[P5 _ K,AT]at this;omega
  exact A.hld K
 obtain⟨X,cV⟩:∃X:Nat->List Int,Hid (X=λm=>(RC (LP d) (j.map LF)).getD m []):=⟨_,Y rfl⟩
 have P:Hid (∀m:Nat,X m=(RC (LP d) (j.map LF)).getD m []):=λm=>by rw[cV.j]
 have cT:Hid (∀m:Nat,m<2->(X m).length=64):=λm B=>by
  rw[P.j];exact Pw (ry _ _ K o.j.len) (by rw[fi];simp;omega)
 have bY:Hid (∀m:Nat,m<2->∀f,yX q f->Calls prog 330 #[.agg #[yI D (LP d).length z,.iface 107 (yI (zY g 0) j.length j.length)],Z (m:Int)] f λe t=>e=yT (.tuple #[.agg ((X m).map (Value.int .u8)).toArray,yR true])/\yX f t):=λm B f A=>by
  rw[P.j];exact uI D (LP d) z g j.length j.length m (j.map LF) f (u.I A) K (λp b=>by obtain⟨y,t,rfl⟩:=DT.1 b;exact(AW (W y t)).1) (by rw[QL];exact cF) (o.j.I A) σ cE ω
 have HF:Hid (G=if QM (QM MT ((NT (strOfNums (X 0)) 0 n).getD MT)) ((NT (strOfNums (X 1)) 1 n).getD MT)=MT then ((0,0,1,0):RtT) else QM (QM MT ((NT (strOfNums (X 0)) 0 n).getD MT)) ((NT (strOfNums (X 1)) 1 n).getD MT)):=by
  show _=_
  have b:∀m:Nat,m<2->strOfNums (X m)=(Oz d j).getD m ByteArray.empty:=λm B=>by
   have p:m<(RC (LP d) (j.map LF)).length:=by rw[fi];simp;omega
   rw[P.j,<-sy];simp[O4,List.getD,p]
  rw[b 0 ω,b 1 ω,Gl,aI.j];unfold MQ;rw[AI ⟨R,hn⟩]
 obtain⟨U,cO⟩:∃U,Hid (U=Value.iface 107 (yI (zY g 0) j.length j.length)):=⟨_,Y rfl⟩;rw[<-cO.j]at bY⊢;clear s o u F J i E l;have dP:w.heap.size<=q.heap.size:=k.j.size;have aY:=r.j.lt;obtain⟨F,bG⟩:∃F,Hid (F=(NT (strOfNums (X 0)) 0 n).getD MT):=⟨_,Y rfl⟩;obtain⟨J,bH⟩:∃J,Hid (J=(NT (strOfNums (X 1)) 1 n).getD MT):=⟨_,Y rfl⟩;rw[<-bG.j,<-bH.j]at HF;have cQ:=Y (λf (A:yX w f)=>((A.cell (p:=(yA 7 0)) hg).E hv));have cP:=Y (λf (A:yX w f)=>((A.cell (p:=(yA 1 0)) (by show 1<_;omega)).E I));clear hv I;go_wp2_with fail;have i:=B4.new q (Z 0) (Z 0) (Z 0) (Z 0) 34;have b:yX q (q.alloc (.cells #[Z 0,Z 0,Z 0,Z 0] 34)):=(AB _ _).alloc (AA _) _;have dM:(q.alloc (.cells #[Z 0,Z 0,Z 0,Z 0] 34)).heap.size=q.heap.size+1:=σ
 obtain⟨wb,l⟩:∃wb,wb=q.alloc (.cells #[Z 0,Z 0,Z 0,Z 0] 34):=⟨_,rfl⟩;rw[<-l]at i b dM⊢;have cN:=Y i;have cM:=Y b;have cS:=Y (r.j.I b);have bP:=Y (k.j.E (b.J k.j.size));clear l i b r k;go_loopw [21] (λi wr=>∃(k:Nat) (b:RtT),k<=2/\i=Z (k:Int)/\Hid ((k=0->b=MT)/\(k=1->b=QM MT F)/\(k=2->b=QM (QM MT F) J))/\Below q.heap.size wb wr/\B4 wr q.heap.size (Z b.1) (Z b.2.1) (Z b.2.2.1) (Z b.2.2.2)) (λi _=>2-(intOf i).toNat)
 case atStart=>exact⟨0,MT,ω,rfl,⟨λ_=>rfl,λh=>absurd h δ,λh=>absurd h δ⟩,AB _ _,cN.j⟩
 case round =>
  obtain⟨k,⟨b0,p,s,u⟩,hk,rfl,M,y,E⟩:=hrel;have aG:=Y y;have aH:=Y E;have dQ:=y.size
  by_cases cC:k<2
  ·have dF:(k:Int)<2:=ω
   have L:=Y (bP.j.E (y.J ω));have bV:=Y (cM.j.E (y.J (AA _)));clear y E;obtain⟨r,O⟩:∃r:RtT,Hid (r=(NT (strOfNums (X k)) (k:Int) n).getD MT):=⟨_,Y rfl⟩
   have bR:Hid (∀i:RtT,i=QM (b0,p,s,u) r->(k+1=0->i=MT)/\(k+1=1->i=QM MT F)/\(k+1=2->i=QM (QM MT F) J)):=λi l=>by
    refine⟨λh=>absurd h ω,λh=>?_,λh=>?_⟩
    ·have i:k=0:=ω
     subst i;rw[l,M.j.1 rfl,O.j,bG.j];rfl
    have i:k=1:=ω
    subst i;rw[l,M.j.2.1 rfl,O.j,bH.j];rfl
   have N:=Y (I5 (yI D (LP d).length z) U (X k) (k:Int) n wr ω (cT.j k cC) (λf A=>bY.j k cC f (bV.j.E (A.J (by have:=bV.j.size;omega)))) ty v (cQ.j _ L.j) (cP.j _ L.j) (by have:=L.j.size;omega));rw[<-O.j]at N;obtain⟨t,h9,f,l⟩:=r;go_wp2_with fail;refine N.j.J ?_;rintro e w5 ⟨rfl,o⟩;have cL:=Y (aG.j.E (o.J ω));have i:=Y (aH.j.I o);have dV:=o.size;clear o aG aH N
   have N:=λo=>(i.j.alloc o).c0
   have S:=λo=>(i.j.alloc o).c1
   have z:=λo=>(i.j.alloc o).c2
   have T:=λo=>(i.j.alloc o).c3
   have f0:=λo=>(i.j.alloc o).f0
   have f1:=λo=>(i.j.alloc o).f1
   have f2:=λo=>(i.j.alloc o).f2
   have f3:=λo=>(i.j.alloc o).f3
   have bJ:=Y (λo=>cL.j.alloc ω o)
   by_cases cA:b0<t
   ·have B:=bR.j (t,h9,f,l) (by simp[QM,cA])
    have o:=Y B;clear B;go_wp2;go_roundw
    case rel=>exact⟨k+1,(t,h9,f,l),ω,ν,o.j,((((bJ.j _).setCell (AA _) _).setCell (AA _) _).setCell (AA _) _).setCell (AA _) _,(i.j.alloc _).set4 _ _ _ _⟩
    case measure=>simp[intOf];omega
   have B:=bR.j (b0,p,s,u) (by simp[QM,cA])
   have o:=Y B;clear B;go_wp2;go_roundw
   case rel=>exact⟨k+1,(b0,p,s,u),ω,ν,o.j,bJ.j _,i.j.alloc _⟩
   case measure=>simp[intOf];omega
  have r:k=2:=ω
  subst r
  have i:Hid (G=if ((b0,p,s,u):RtT)=MT then (0,0,1,0) else (b0,p,s,u)):=by
   show _=_;rw[HF.j,<-M.j.2.2 rfl]
  have f:=cS.j.past (N:=q.heap.size) aY y;have N:=f.c0;have S:=f.c1;have z:=f.c2;have T:=f.c3;have f0:=f.f0;have f1:=f.f1;have f2:=f.f2;have f3:=f.f3;have O:=E.c0;have d1:=E.c1;have d2:=E.c2;have d3:=E.c3;have o:=Y (bP.j.E (y.J ω));clear f y E
  by_cases f:((b0,p,s,u):RtT)=MT
  ·have l:Hid (G=(0,0,1,0)):=by show _=_;rw[i.j,AI f]
   have t:b0=0:=BC (λx:RtT=>x.1) f;have y:p=0:=BC (λx:RtT=>x.2.1) f;have E:s=0:=BC (λx:RtT=>x.2.2.1) f;have L:u=0:=BC (λx:RtT=>x.2.2.2) f;clear f i;subst t y E L;go_wp2;refine AE (v:=NI 0 0 1 0) (by simp[results,results165,go_sem,N,S,z,T]) rfl ⟨by rw[l.j],?_⟩;exact(((o.j.setCell (by show _<=w.heap.size+1;omega) _).setCell (by show _<=w.heap.size+1;omega) _).setCell (by show _<=w.heap.size+1;omega) _).setCell (by show _<=w.heap.size+1;omega) _
  have l:Hid (G=(b0,p,s,u)):=by show _=_;rw[i.j,AF f]
  have t:¬(b0=0/\p=0/\s=0/\u=0):=λh=>f (by rw[h.1,h.2.1,h.2.2.1,h.2.2.2];rfl)
  clear f i;go_wp2
  all_goals first
   | (exfalso;omega)
   | (refine AE (v:=NI b0 p s u) (by simp[results,results165,go_sem,N,S,z,T]<;>omega) rfl ⟨by rw[l.j],?_⟩;exact(((o.j.setCell (by show _<=w.heap.size+1;omega) _).setCell (by show _<=w.heap.size+1;omega) _).setCell (by show _<=w.heap.size+1;omega) _).setCell (by show _<=w.heap.size+1;omega) _)
theorem Mj(a:xA)(b:List yZ)(c:Nat)(f:xA)(d:List (Int×yZ))(i:Nat)(n:Int)(w:xV)(h:Strs w a b)(l:Wrs w f d)(m:b.length<=1048576)(j:d.length<=1048576)(o:∀s∈b,s.size<=1048576)(k:∀x∈d,x.2.size<=1048576)(p:TypeId)(v:qD)(hv:w.cell? (yA 7 0)=some (.iface p v))(q:w.cell? (yA 1 0)=some (.iface 320 (.agg #[zW 10 57])))(r:7<w.heap.size):Calls prog 165 #[LM a b.length c f d.length i,Z n] w λe g=>e=yT (YV (MQ b d n))/\yX w g:=by
 by_cases g:LO b d=true/\1<=n/\n<=8
 ·exact Be a b c f d i n w h l m j o k p v hv q r g.1 g.2
 have e:MQ b d n=MT:=by unfold MQ;rw[AF g]
 rw[e];exact My a b c f d i n w h l m j o k g
end
