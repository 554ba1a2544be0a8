import Derived.Test.YteflhojcomcfaaaGreatDoorPrRpL
import Derived.Test.YteflhojcomcfaaaGreatDoorPrAs
import Derived.Test.YteflhojcomcfaaaGreatDoorPrDrvOf
import Derived.Test.YteflhojcomcfaaaGreatDoorPrFnA
set_option maxHeartbeats 16000000
set_option maxRecDepth 8000
set_option linter.all false
namespace Go.Proofs.YteflhojcomcfaaaGreatDoor
open Tryz
open Go.RowKit
theorem Ft(s:Q4)(n:Int)(w:Q9)(c:TypeId)(v:Ra)(hv:w.cell? (Ki 7 0)=some (.iface c v))(f:7<w.heap.size):Calls prog 157 #[Ow s,Z n] w λe a=>(∃E,e=Q2 (ix E (OA s n)))/\Q3 w a:=by
 by_cases p:1<=n/\n<=8
 .obtain⟨m,rfl⟩:∃m:Nat,n=(m:Int):=⟨n.toNat,d⟩
  by_cases b:s.size=64
  .obtain⟨l,r,t,u,x⟩:=Kv s m b d z
   have C:(LF s).length=64:=by rw[NK,b]
   have B:=mq s
   have e:∀o k,∀y∈((LF s).drop o).take k,0<=y/\y<=255:=λo k y a=>B y (FA (DR a))
   have k:=fy 1 _ q (e (m+7) 1);have g:=fy 1 _ q (e m 1);have i:=fy 2 _ q (e (m+1) 2);have j:=fy 4 _ q (e (m+3) 4);rw[<-l]at k;rw[<-r]at g;rw[<-t]at i;rw[<-u]at j
   by_cases o:rpN (s.extract m 64)+m<=56
   .have h:=Mj s m _ _ _ _ _ w c v hv f b d d l o r t u x g.1 (by have:=g.2;omega) i.1 (by have:=i.2;omega) j.1 (by have:=j.2;omega)
    have y:OA s (m:Int)=if NB (XG (s.extract m 64)) (XH (s.extract m 64)) (XI (s.extract m 64)) (WI (s.extract m 64)) (m:Int)=s then some (XG (s.extract m 64),XH (s.extract m 64),XI (s.extract m 64),WI (s.extract m 64)) else none:=by
     unfold OA;rw[DO]
     by_cases hF:NB (XG (s.extract m 64)) (XH (s.extract m 64)) (XI (s.extract m 64)) (WI (s.extract m 64)) (m:Int)=s
     .rw[G hF,G ⟨d,d,b,d,hF⟩]
     rw[A hF,A (λa=>hF a.2.2.2.2)]
    rw[y];exact h
   rw[kf (λa=>o (by have:=a.2.2.2.1;rw[DO]at this;omega))]
   exact Gs s m _ w c v hv f b d d l d (by have:=k.2;omega)
  rw[kf (λa=>b a.2.2.1)]
  exact L6 s m w c v hv f p b
 rw[kf (λa=>p ⟨a.1,a.2.1⟩)]
 exact Mv s n w c v hv f p
theorem Eo(e t:Addr)(a:Ra)(w:Q9)(i:w.cell? (Ki 1 0)=some (.iface 318 (.agg #[Dr 10 58])))(g:w.cell? t=some a)(f:w.frozen? t=false)(j:t.block<w.heap.size):Calls prog 158 #[.iface 198 (.pointer (some e)),.iface 200 (.pointer (some t))] w λb c=>b=Q2 (Q1 true)/\Below t.block w c :=(O6 e t a w i g f).J λb c h=>⟨h.1,by
  rw[h.2]
  exact(((((@D t.block w).alloc d _).alloc q _).alloc q _).alloc q _).setCell C _⟩
theorem K2(t:Ra)(w:Q9):Calls prog 158 #[.nilIface,t] w λe a=>e=Q2 (Q1 false)/\Q3 w a :=(K8 t w).J λe a h=>⟨h.1,by rw[h.2];exact D⟩
theorem RB.past{W w d:Q9}(h:RB W w){B:Nat}(f:W.heap.size<B)(a:Below B w d):RB W d:=by
 have e:=h.size
 have b:∀i,d.cell? (Ki W.heap.size i)=w.cell? (Ki W.heap.size i):=λi=>a.cell (p:=(Ki W.heap.size i)) (by show W.heap.size<_;omega)
 have c:∀i,d.frozen? (Ki W.heap.size i)=w.frozen? (Ki W.heap.size i):=λi=>a.frozen (p:=(Ki W.heap.size i)) (by show W.heap.size<_;omega)
 exact⟨AJ e a.size,h.bel.E (a.J ω),(b _).E h.c0,(b _).E h.c1,(b _).E h.c2,(b _).E h.c3,(c _).E h.f0,(c _).E h.f1,(c _).E h.f2,(c _).E h.f3⟩
theorem oD(s:Q4)(n:Int)(w:Q9)(B:TypeId)(v:Ra)(hv:w.cell? (Ki 7 0)=some (.iface B v))(M:w.cell? (Ki 1 0)=some (.iface 318 (.agg #[Dr 10 58])))(N:7<w.heap.size):Calls prog 104 #[Ow s,Z n] w λe a=>e=Q2 (WJ (OA s n))/\Q3 w a:=by
 obtain⟨R,D⟩:=x (OA s n);rw[<-D.j]
 have P:∀o,Q3 w (w.alloc o):=λo=>LH _ _
 have G:∀o,(w.alloc o).cell? (Ki 7 0)=some (.iface B v):=λo=>(ES _ _ _ (by exact N)).E hv
 have F:Hid (∀a,Q3 w a->a.cell? (Ki 1 0)=some (.iface 318 (.agg #[Dr 10 58]))):=λa b=>(b.cell (p:=(Ki 1 0)) (by show 1<_;omega)).E M
 have h:=λo=>Ft s n (w.alloc o) B v (G o) q
 rw[<-D.j]at h
 cases R with
 | none =>
  simp only[ix]at h;go_enter func104,ntmps104
  go_wp2_with (first|(go_at_call 157;refine(h _).J ?_;rintro e o ⟨⟨E,rfl⟩,g⟩;have f:=LV ((RB.new w _).I g);clear g)|(go_at_call 158;refine(Eo E (Ki (o.heap.size+1) 0) (.pointer none) _ (F.j _ ((f.j.alloc _).alloc _).bel) l l j).J ?_;rintro e O ⟨rfl,d⟩;have c:=((f.j.alloc _).alloc _).past (B:=o.heap.size+1) (by have:=f.j.size;omega) d;clear d;have t:=c.c0;have u:=c.c1;have y:=c.c2;have A:=c.c3;have I:=c.f0;have J:=c.f1;have K:=c.f2;have L:=c.f3;have r:=LV c;clear c))
  refine H (v:=.tuple #[OD 0 0 0 ⟨#[]⟩,Q1 false]) (by simp[results,results104,go_sem,t,u,y,A]) z ⟨z,?_⟩;exact(((r.j.bel.setCell C _).setCell C _).setCell C _).setCell C _
 | some b =>
  obtain⟨k,a,m,p⟩:=b;simp only[ix]at h;go_enter func104,ntmps104
  go_wp2_with (first|(go_at_call 157;refine(h _).J ?_;rintro e o ⟨⟨E,rfl⟩,g⟩;have f:=LV ((RB.new w _).I g);clear g)|(go_at_call 158;refine(K2 _ _).J ?_;rintro e O ⟨rfl,d⟩;have c:=((f.j.alloc _).alloc _).I d;have i:=((Be o o.heap.size z (Z k) (Z a) (Z m) (Ow p) _).I (LH _ _) j).I d ξ;clear d;have Q:=i.c0;have S:=i.c1;have T:=i.c2;have U:=i.c3;clear i;have t:=c.c0;have u:=c.c1;have y:=c.c2;have A:=c.c3;have I:=c.f0;have J:=c.f1;have K:=c.f2;have L:=c.f3;have r:=LV c;clear c))
  refine H (v:=.tuple #[OD k a m p,Q1 true]) (by simp[results,results104,go_sem,t,u,y,A]) z ⟨z,?_⟩;exact(((r.j.bel.setCell C _).setCell C _).setCell C _).setCell C _
def TP:List (Int×List Int)->List (List Int)->List (List Int)
 | [],ps=>ps
 | x::r,ps=>TP r (ps.set x.1.toNat x.2)
theorem mc:∀(hs:List (Int×List Int)) (ps:List (List Int)),(TP hs ps).length=ps.length
 | [],_=>rfl
 | x::r,ps=>by rw[TP,mc r];simp
theorem vS:∀(hs:List (Int×List Int)) (x:Int×List Int) (ps:List (List Int)),TP (hs++[x]) ps=(TP hs ps).set x.1.toNat x.2
 | [],_,_=>rfl
 | y::r,x,ps=>by rw[EX,TP,vS r];rfl
theorem qC(a:List (Int×List Int))(b:List (List Int))(k:Nat)(h:k<a.length):TP (a.take (k+1)) b=(TP (a.take k) b).set (a.getD k (0,[])).1.toNat (a.getD k (0,[])).2:=by
 rw[BJ h,vS];simp[List.getD,h]
theorem Gt(k:Nat)(a:Q5)(n c:Nat)(w:Q9):Sem.run prog (method (k+1) 92 (Y a n c) "loop.example/kilnstone/impl.read") w=.ok (320,Y a n c) w:=h
theorem uQ(k:Nat)(v a:Ra)(w:Q9):Sem.run prog (method (k+1) 299 (.agg #[v,a]) "loop.example/kilnstone/impl.read") w=.ok (329,.agg #[v,a]) w:=h
set_option maxRecDepth 100000 in
theorem xJ(a:Q5)(r:List (Int×List Int))(c:Nat)(g n y m:Nat)(s:List (List Int))(w:Q9)(q:Hld w a r)(S:∀p∈r,p.2.length=64)(Q:∀p∈r,0<=p.1)(hl:r.length<=300)(P:PR w g s)(u:s.length=n)(X:n<=200)(x:m<n):Calls prog 329 #[.agg #[Y a r.length c,.iface 92 (Y (Hw g 0) n y)],Z (m:Int)] w λe b=>e=Q2 (.tuple #[.agg (((TP r s).getD m []).map (Value.int .u8)).toArray,Q1 true])/\Q3 w b:=by
 obtain⟨p,M⟩:=nHz ((TP r s).getD m []);rw[<-M.j]
 have T:∀b f,Q3 w ((w.alloc b).alloc f):=λb f=>(LH _ _).alloc σ _
 go_enter func329,ntmps329;go_wp2_with fail;obtain⟨C,b⟩:=nMz ((w.alloc (.cells #[Y a r.length c,.iface 92 (Y (Hw g 0) n y)] 299)).alloc (.cells sy 121));have J:=T (.cells #[Y a r.length c,.iface 92 (Y (Hw g 0) n y)] 299) (.cells sy 121);have L:=(Cx.new w (Y a r.length c) (.iface 92 (Y (Hw g 0) n y)) 299).I (MI _ (.cells sy 121));have f:=OY (w.alloc (.cells #[Y a r.length c,.iface 92 (Y (Hw g 0) n y)] 299)) sy 121 (w.heap.size+1) σ;rw[<-b]at J L f;go_loopw [6] (λi wr=>∃k:Nat,k<=r.length/\i=Z ((k:Int)-1)/\Hid (p=(TP (r.take k) s).getD m [])/\wr=C) (λi _=>((intOf i)+1).toNat)
 case atStart=>exact⟨r.length,AA,z,by show _=_;rw[DG,M.j],by rw[b];kernel_rfl⟩
 case round =>
  obtain⟨k,hk,rfl,F,rfl⟩:=hrel;have h:=L.c0;have j:=L.c1;have O:=LE f;have N:=LE J;clear f b;rcases k with _|f
  .have l:=P.I J
   have A:=λk=>Gt k (Hw g 0) n y wr
   have t:p.length=64:=by rw[F.j];exact NQ P.len (by show m<s.length;omega)
   have B:(p.map (Value.int .u8)).toArray.size=64:=by simp[t]
   have I:Hid ((prog.info? 121).map (·.size)=some (p.map (Value.int .u8)).length):=by show _=_;rw[BP,t];kernel_rfl
   have K:Hid (s.getD m []=p):=F.j.symm;go_wp2_with fail;refine(ZT g n y m s _ l u X x).J ?_;rw[K.j];rintro e D ⟨rfl,b⟩;have v:=(O.j.I b).there (n:=64) κ;have o:=LE (Below.then N.j AA b);clear b l A h j;go_wp2_with (with_reducible refine aa 121 _ _ z ?_;refine BV z 121 _ _ z (w.heap.size+1) 0 (p.map (Value.int .u8)).toArray z z (by rw[B];exact v) (by rw[B];kernel_rfl) (GH (YV p)) ?_);refine H (v:=.tuple #[.agg (p.map (Value.int .u8)).toArray,Q1 true]) (MR (p:=4) (u:=5) results329 _ _ (w.heap.size+1) 0 z (p.map (Value.int .u8)) _ (EG _ _ _ _ (by rw[BP,t];exact v)) underlying121 z I.j) z ⟨z,?_⟩;exact Go.below_setCells d _ _ _ o.j
  have D:f<r.length:=d
  obtain⟨b,o,E,l,rfl,bF,A,G⟩:=(q.I J).at D;have t:l.length=64:=S (E,l) (by rw[G.j];simp[List.getD,D]);have U:=A 0 _ z;rw[IQ]at U;have v:((f+1:Nat):Int)-1=(f:Int):=d
  rw[v];clear v
  by_cases W:E=(m:Int)
  .subst W
   have V:m<(TP (r.take f) s).length:=by rw[mc];omega
   have K:Hid (l=p):=by
    show _=_;rw[F.j,qC r s f D,<-G.j,DO];simp[List.getD,V]
   rw[K.j]at A t;have B:(p.map (Value.int .u8)).toArray.size=64:=by simp[t]
   have I:Hid ((prog.info? 121).map (·.size)=some (p.map (Value.int .u8)).length):=by show _=_;rw[BP,t];kernel_rfl
   have R:Hid (wr.rangeAt b (o+f*65+1) (p.map (Value.int .u8))):=λi v hv=>by
    have:=A (i+1) v (by simpa using hv);rw[<-this];congr 2;omega
   have v:=O.j.there (n:=64) κ;clear A
   go_wp2_with (first|(with_reducible refine fe 121 _ z ?_;refine BE z 121 _ z b (o+f*65+1) z (p.map (Value.int .u8)) _ R.j underlying121 z I.j ?_)|(with_reducible refine aa 121 _ _ z ?_;refine BV z 121 _ _ z (w.heap.size+1) 0 (p.map (Value.int .u8)).toArray z z (by rw[B];exact v) (by rw[B];kernel_rfl) (GH (YV p)) ?_))
   refine H (v:=.tuple #[.agg (p.map (Value.int .u8)).toArray,Q1 true]) (MR (p:=4) (u:=5) results329 _ _ (w.heap.size+1) 0 z (p.map (Value.int .u8)) _ (EG _ _ _ _ (by rw[BP,t];exact v)) underlying121 z I.j) z ⟨z,?_⟩;exact Go.below_setCells d _ _ _ N.j
  have i:Hid (p=(TP (r.take f) s).getD m []):=by
   show _=_;rw[F.j,qC r s f D,<-G.j];have B:0<=E:=Q (E,l) (by rw[G.j];simp[List.getD,D]);have v:E.toNat≠m:=d
   simp[List.getD,IW v]
  clear A;go_wp2;go_roundw
  case rel=>exact⟨f,d,ν,i,trivial⟩
  case measure=>simp[intOf]
theorem xt:∀(hs:List (Int×List Int)) (ps:List (List Int)),(∀p∈hs,p.2.length=64)->(∀p∈ps,p.length=64)->∀p∈TP hs ps,p.length=64
 | [],ps,_,h=>h
 | x::r,ps,h1,h2=>xt r _ (λp hp=>h1 p (DK _ hp)) (λp hp=>by
  rcases FC hp with h3|h3
  .exact h2 p h3
  .rw[h3];exact h1 x (EN ..))
theorem yp:∀(ws:List (Int×Q4)) (ss:List Q4),LW (TP (LU ws) (ss.map LF))=LQ ws ss
 | [],ss=>by
  show(ss.map LF).map strOfNums=ss;rw[IP];exact KT (λs=>WR s) ss
 | x::r,ss=>by
  have:=yp r (ss.set x.1.toNat x.2);rw[KE]at this;exact this
section
set_option maxHeartbeats 4000000
@[reducible] def ft(x:RtT):Ra:=OI x.1 x.2.1 x.2.2.1 x.2.2.2
def WT(s:Q4)(n:Int):RtT :=match OA s n with
 | none=>NM
 | some (_,l,m,p)=>if p.size=5/\QE m (UC p) (TJ p) l n=s then (m,UC p,TJ p,l) else NM
theorem N9(s:Q4)(n:Int)(w:Q9)(k l m:Int)(p:Q4)(R:OA s n=some (k,l,m,p))(A:∀c,Q3 w c->Calls prog 104 #[Ow s,Z n] c λe b=>e=Q2 (.tuple #[OD k l m p,Q1 true])/\Q3 c b)(Q:p.size=5):Calls prog 266 #[Ow s,Z n] w λe b=>e=Q2 (ft (WT s n))/\Q3 w b:=by
 have X:∀o,Q3 w (w.alloc o):=λo=>(D).alloc C _
 obtain⟨_,_,cJ,cL,cH,cI,cM⟩:=XL R;obtain⟨K,f⟩:=x (WT s n);obtain⟨a,B⟩:=x (UC p);obtain⟨F,v⟩:=x (TJ p);obtain⟨J,U⟩:=x (QE m a F l n)
 have W:Hid (K=if J=s then (m,a,F,l) else NM):=by
  show _=_;rw[f.j,U.j,B.j,v.j];unfold WT;rw[R];simp[Q]
 rw[<-f.j];clear R f;have bU:(p.size:Int)=5:=d
 have bR:(LF p).length=5:=by rw[NK,Q]
 have f:=mq p;have h:=fy 1 ((LF p).take 1) τ (λy g=>f y (DR g));have r:=fy 4 (((LF p).drop 1).take 4) τ (λy g=>f y (FA (DR g)));have bZ:0<=a:=by rw[B.j];exact h.1
 have cA:a<=255:=by rw[B.j];have:=h.2;unfold UC;omega
 have bV:0<=F:=by rw[v.j];exact r.1
 have bW:F<=4294967295:=by rw[v.j];have:=r.2;unfold TJ;omega
 have cC:IntKind.i64.wrap a=a:=by simp[IntKind.wrap,IntKind.bits,IntKind.signed];omega
 have bY:IntKind.i64.wrap F=F:=by simp[IntKind.wrap,IntKind.bits,IntKind.signed];omega
 obtain⟨g,i⟩:=x (LF p);have V:Hid (∀y∈g,0<=y/\y<=255):=by rw[i.j];exact f
 have H:Hid (a=NV ((g.drop 0).take 1)):=by show _=_;rw[i.j,FI];exact B.j
 have q:Hid (F=NV ((g.drop 1).take 4)):=by show _=_;rw[i.j];exact v.j
 rw[<-i.j]at bR;clear f h r
 have O:=λc=>zI m a F l n c
 rw[<-U.j]at O;have bQ:=LV (λc=>zN c p);go_enter func266,ntmps266;go_wp2_with (go_at_call 104;refine(A _ (X _)).J ?_;rintro e c ⟨rfl,P⟩;have M:=LV ((B4.new w (Z 0) (Z 0) (Z 0) (Z 0) _).I P);have h:=LV ((X _).E (P.J σ));clear P;obtain⟨t,f,j,E,S,I,G⟩:=bQ.j (c.alloc (.cells #[Z k,Z l,Z m,Ow p] 156));rw[Q]at j G;have r:=(B4.new c (Z k) (Z l) (Z m) (Ow p) 156).I E;have T:=LV ((M.j.alloc _).I E);have L:=LV ((h.j.alloc h.j.size _).E (E.J (h.j.alloc h.j.size _).size));have bP:w.heap.size<c.heap.size:=M.j.lt;clear M h E;simp only[BG]at S I j;rw[<-i.j]at I;have y:=LV I;clear I;have p1:=r.c1;have p2:=r.c2;have p3:=r.c3;have N:=LV r;clear r);have bT:c.heap.size+1<f.heap.size:=d
 have r:Hid (∀o,Fm (f.alloc o) (c.heap.size+1) g):=λo=>y.j.I ((D).alloc C _) bT
 have cF:(1:Int)<=(t:Int):=d
 have cE:¬t=1:=d
 have h:Hid (∀b,Q3 f b->b.cell? (Ki c.heap.size 1)=some (Z l)/\b.cell? (Ki c.heap.size 2)=some (Z m)/\Q3 f b):=λb o=>⟨(N.j.I o).c1,(N.j.I o).c2,o⟩
 refine(λo:Wr ?G=>?main) ⟨?pf⟩
 case main =>
  go_region_held3 (λb=>b.cell? (Ki c.heap.size 1)=some (Z l)/\b.cell? (Ki c.heap.size 2)=some (Z m)/\Q3 f b)
   (first|assumption|exact h.j _ ((D).drew)|exact h.j _ (((D).drew).alloc C _)|exact h.j _ (((D).alloc C _).drew)|exact h.j _ ((D).alloc C _))
   (first
    | (have E:=b;go_at_call 223;refine(ju (c.heap.size+1) g V 1 4 _ d d _ (by first|exact y.j.drew|exact(r.j _).drew) F q.j).J ?_;rintro e u ⟨rfl,rfl⟩)
    | (go_at_call 223;refine(ju (c.heap.size+1) g V 0 1 _ d d _ (by first|exact y.j.drew|exact(r.j _).drew) a H.j).J ?_;rintro e u ⟨rfl,rfl⟩;have b:=True.intro))
  all_goals exact o.j
 have b:=(B4.new f (Z m) (Z a) (Z F) (Z l) 39).drew;have o:Q3 f (f.alloc (.cells #[Z m,Z a,Z F,Z l] 39)).drew:=((D).alloc C _).drew;obtain⟨wq,I⟩:=nMz ((f.alloc (.cells #[Z m,Z a,Z F,Z l] 39)).drew);rw[S]at b;rw[<-I]at b o⊢;have bJ:=LV (T.j.I o);have E:=LV (L.j.E (o.J (by have:=L.j.size;omega)));have bI:=LV b;clear I h o T L N y r p1 p2 p3;have q0:=b.c0;have q1:=b.c1;have q2:=b.c2;have q3:=b.c3;clear b
 by_cases b:J=s
 focus
  have r:Hid (K=(m,a,F,l)):=by show _=_;rw[W.j,AI b]
  have T:=LV b;clear b;rw[T.j]at O
 rotate_left
 focus
  have r:Hid (K=NM):=by show _=_;rw[W.j,AF b]
  have hG:(!J.toList == s.toList)=true:=by simp only[KM,BL];intro P;rw[CZ,CZ]at P;exact b (EV (IH P))
  clear b
 rotate_left
 all_goals
  go_wp2_with (first|(go_at_call 273;refine(O _).J ?_;rintro e u ⟨rfl,o⟩;have b:=bJ.j.I o;have h:=bI.j.I o;have y:=LV (E.j.E (o.J E.j.size));clear o;have I:=b.c0;have L:=b.c1;have M:=b.c2;have N:=b.c3;have f0:=b.f0;have f1:=b.f1;have f2:=b.f2;have f3:=b.f3;have r0:=h.c0;have r1:=h.c1;have r2:=h.c2;have r3:=h.c3;clear b h))
 .refine AE (v:=OI m a F l) (by simp[results,results266,go_sem,I,L,M,N]) z ⟨by rw[r.j],?_⟩
  exact(((y.j.setCell C _).setCell C _).setCell C _).setCell C _
 refine AE (v:=OI 0 0 0 0) (by simp[results,results266,go_sem,I,L,M,N]) z ⟨by rw[r.j];rfl,?_⟩
 exact(((y.j.setCell C _).setCell C _).setCell C _).setCell C _
theorem uU(s:Q4)(n:Int)(w:Q9)(k l m:Int)(p:Q4)(b:Bool)(i:∀c,Q3 w c->Calls prog 104 #[Ow s,Z n] c λe a=>e=Q2 (.tuple #[OD k l m p,Q1 b])/\Q3 c a)(x:p.size<=64)(g:b=false\/p.size≠5)(q:Hid (WT s n=NM)):Calls prog 266 #[Ow s,Z n] w λe a=>e=Q2 (ft (WT s n))/\Q3 w a:=by
 have f:∀o,Q3 w (w.alloc o):=λo=>(D).alloc C _
 cases b
 focus
  focus
  rotate_left
 rotate_left
 focus
  focus
   have v:((p.size:Int) != 5)=true:=by
    have h:=g.resolve_left j;simp;omega
  rotate_left
 rotate_left
 all_goals
  clear g;go_enter func266,ntmps266;go_wp2_with (go_at_call 104;refine(i _ (f _)).J ?_;rintro e F ⟨rfl,c⟩;have a:=LV ((B4.new w (Z 0) (Z 0) (Z 0) (Z 0) _).I c);have d:=LV ((f _).E (c.J j));clear c;have h:=λo=>(a.j.alloc o).c0;have r:=λo=>(a.j.alloc o).c1;have t:=λo=>(a.j.alloc o).c2;have u:=λo=>(a.j.alloc o).c3;have y:=λo=>(a.j.alloc o).f0;have A:=λo=>(a.j.alloc o).f1;have B:=λo=>(a.j.alloc o).f2;have E:=λo=>(a.j.alloc o).f3);refine H (v:=OI 0 0 0 0) (by simp[results,results266,go_sem,h,r,t,u]) z ⟨by rw[q.j];rfl,?_⟩;exact((((d.j.alloc d.j.size _).setCell C _).setCell C _).setCell C _).setCell C _
theorem Nz(s:Q4)(n:Int)(w:Q9)(d:TypeId)(v:Ra)(hv:w.cell? (Ki 7 0)=some (.iface d v))(f:w.cell? (Ki 1 0)=some (.iface 318 (.agg #[Dr 10 58])))(g:7<w.heap.size):Calls prog 266 #[Ow s,Z n] w λe a=>e=Q2 (ft (WT s n))/\Q3 w a:=by
 have a:=λwx (c:Q3 w wx)=>oD s n wx d v ((c.cell (p:=(Ki 7 0)) g).E hv) ((c.cell (p:=(Ki 1 0)) (by show 1<_;omega)).E f) (by have:=c.size;omega)
 cases hR:OA s n with
 | none =>
  rw[hR]at a;exact uU s n w 0 0 0 ⟨#[]⟩ false a δ (.inl z) (by show _=_;unfold WT;rw[hR])
 | some x =>
  obtain⟨k,l,m,p⟩:=x;rw[hR]at a
  by_cases b:p.size=5
  .exact N9 s n w k l m p hR a b
  exact uU s n w k l m p true a (XL hR).2.2.2.2.2.2 (.inr b) (by show _=_;unfold WT;rw[hR];simp[b])
theorem Qi(x:RtT)(w:Q9)(h:0<=x.1):Calls prog 267 #[ft x] w λe a=>e=Q2 (Z (x.1 % 2))/\Q3 w a:=by
 obtain⟨t,a,b,c⟩:=x;go_enter func267,ntmps267;go_wp2;go_ret;refine⟨?_,(D).alloc C _⟩;have:t.tmod 2=t % 2:=DQ h
 first|rfl|simp[this]
theorem Ps(s:Q4)(a n:Int)(d:a=0\/a=1):(if (WT s n).1 % 2=a then WT s n else NM)=(OR s a n).getD NM:=by
 unfold WT OR
 cases OA s n with
 | none=>exact ite_self _
 | some x =>
  obtain⟨k,l,m,p⟩:=x
  by_cases b:p.size=5/\QE m (UC p) (TJ p) l n=s
  .by_cases c:m % 2=a
   .simp[b.1,b.2,c]
   simp[b.1,b.2,c]
  simp only[A b]
  have c:¬(p.size=5/\QE m (UC p) (TJ p) l n=s/\m % 2=a):=λh=>b ⟨h.1,h.2.1⟩
  rw[A c];exact ite_self _
theorem Cs(s:Q4)(n:Int):0<=(WT s n).1:=by
 unfold WT
 cases h:OA s n with
 | none=>simp[NM]
 | some x =>
  obtain⟨k,l,m,p⟩:=x;have:=(XL h).2.2.1;show 0<=(if p.size=5/\QE m (UC p) (TJ p) l n=s then (m,UC p,TJ p,l) else NM).1
  split
  .show 0<=m;omega
  simp[NM]
theorem Kz(y B:Ra)(b:List Int)(a n:Int)(w:Q9)(ha:a=0\/a=1)(p:b.length=64)
  (K:∀c,Q3 w c->Calls prog 329 #[.agg #[y,B],Z a] c λe d=>e=Q2 (.tuple #[.agg (b.map (Value.int .u8)).toArray,Q1 true])/\Q3 c d)
  (T:TypeId)(v:Ra)(hv:w.cell? (Ki 7 0)=some (.iface T v))(R:w.cell? (Ki 1 0)=some (.iface 318 (.agg #[Dr 10 58])))(hg:7<w.heap.size):Calls prog 206 #[.iface 299 (.agg #[y,B]),Z a,Z n] w λe d=>e=Q2 (ft ((OR (strOfNums b) a n).getD NM))/\Q3 w d:=by
 have M:∀o,Q3 w (w.alloc o):=λo=>(AB).alloc C _
 rw[<-Ps _ a n ha]
 have d:=λc (u:Q3 w c)=>Nz (strOfNums b) n c T v ((u.cell (p:=(Ki 7 0)) hg).E hv) ((u.cell (p:=(Ki 1 0)) (by show 1<_;omega)).E R) (by have:=u.size;omega)
 have E:=Cs (strOfNums b) n;obtain⟨o,e⟩:∃o,WT (strOfNums b) n=o:=⟨_,z⟩;rw[e]at d E⊢;clear e hv R;obtain⟨t,h,f,l⟩:=o;have bG:(b.map (Value.int .u8)).toArray.size=64:=by simp[p]
 have U:Hid ((prog.info? 121).map (·.size)=some (b.map (Value.int .u8)).length):=by show _=_;rw[BP,p];kernel_rfl
 have g:=λk c=>uQ k y B c
 obtain⟨sx,L⟩:=nHz (strOfNums b);rw[<-L.j]at d;have D:=LE (λc=>Qi (t,h,f,l) c E);have W:=LE d;have V:=LE K;clear d K
 by_cases S:t % 2=a
 focus
  have d:(if ((t,h,f,l):RtT).1 % 2=a then ((t,h,f,l):RtT) else NM)=(t,h,f,l):=AI S
 rotate_left
 focus
  have d:(if ((t,h,f,l):RtT).1 % 2=a then ((t,h,f,l):RtT) else NM)=NM:=AF S
 rotate_left
 all_goals
  rw[d];clear d;go_enter func206,ntmps206;go_wp2_with fail;refine(V.j _ (M _)).J ?_;rintro e w2 ⟨rfl,d⟩;have X:=LE ((B4.new w (Z 0) (Z 0) (Z 0) (Z 0) 39).I d);have I:=LE ((M (.cells #[Z 0,Z 0,Z 0,Z 0] 39)).E (d.J σ));clear d g
  go_wp2_with (first
   | (with_reducible refine aa 121 _ _ rfl ?_;refine LN rfl 121 _ _ rfl (b.map (Value.int .u8)) (YV b) rfl rfl _ _ (by rw[BP,p];kernel_rfl) U.j ?_;intro c F s H;have G:=F.text (P:=prog) b 0 64 64 p (λi hi=>by simp[List.getD,show i<b.length by omega]) 22 5 9 underlying22 underlying5 underlying9;rw[<-L.j]at G;have A:=LE (X.j.I s);have q:=LE (I.j.E (s.J I.j.size));clear s H F)
   | (go_at_call 266;refine(W.j _ q.j).J ?_;rintro e w3 ⟨rfl,r⟩;have j:=LE (A.j.I r);have k:=LE (q.j.E (r.J q.j.size));clear r)
   | (go_at_call 267;refine(D.j _).J ?_;rintro e w4 ⟨rfl,m⟩;have x:=LE ((j.j.alloc _).I m);have g:=(B4.new w3 (.int .i64 t) (.int .i64 h) (.int .i64 f) (.int .i64 l) 39).I m;have J:=LE ((k.j.alloc k.j.size _).E (m.J (k.j.alloc k.j.size _).size));clear m;have r0:=g.c0;have r1:=g.c1;have r2:=g.c2;have r3:=g.c3;clear g;have d:=x.j;have N:=d.c0;have O:=d.c1;have P:=d.c2;have Q:=d.c3;have f0:=d.f0;have f1:=d.f1;have f2:=d.f2;have f3:=d.f3;clear d))
 .refine AE (v:=OI t h f l) (by simp[results,results206,go_sem,N,O,P,Q]) z ⟨z,?_⟩
  exact(((J.j.setCell C _).setCell C _).setCell C _).setCell C _
 refine AE (v:=OI 0 0 0 0) (by simp[results,results206,go_sem,N,O,P,Q]) z ⟨z,?_⟩
 exact(((J.j.setCell C _).setCell C _).setCell C _).setCell C _
theorem Oh(a:Q5)(F:List Q4)(c:Nat)(j:Q5)(E:List (Int×Q4))(c':Nat)(n:Int)(w:Q9)(o:Strs w a F)(G:Wrs w j E)(hl:F.length<=1048576)(cS:E.length<=1048576)(hs:∀s∈F,s.size<=1048576)(cW:∀B∈E,B.2.size<=1048576)(ty:TypeId)(v:Ra)(hv:w.cell? (Ki 7 0)=some (.iface ty v))(O:w.cell? (Ki 1 0)=some (.iface 318 (.agg #[Dr 10 58])))(hg:7<w.heap.size):Calls prog 146 #[LR a F.length c j E.length c',Z n] w λe r=>e=Q2 (ft (NJ F E n))/\Q3 w r:=by
 have g:=LE (λr o G=>ZL a F c j E c' r o G hl cS hs cW);obtain⟨Q,aE⟩:=x (NJ F E n);rw[<-aE.j];unfold LR at g⊢;go_enter func146,ntmps146;go_upto_region 1 with fail;generalize k:w.alloc _=v1;obtain⟨q,bB,i⟩:=LP k;generalize y:v1.alloc _=v2;obtain⟨p,H,t⟩:=LP y;have m:=i.q.I p;have f:=t.q;rw[bB]at f;have b:=q.E (p.J q.size);clear k y i t q p bB H;have J:=m.y 0;have K:=m.y 1;have H:=m.lt;have t:=LE o;have y:=LE G;have M:=LE hv;have L:=LE O;clear o G hv O;go_wp2_with fail;refine(g.j v2 (t.j.I b) (y.j.I b)).J ?_;rintro e v3 ⟨rfl,i⟩;replace m:=m.I i;replace f:=f.I i;replace b:=b.E (i.J b.size);clear g i J K H;have p:=LE (TX n v3)
 by_cases P:LT F E=true/\1<=n/\n<=8
 rotate_left
 .have J:Q=(0,0,0,0):=by rw[aE.j];unfold NJ;rw[AF P];rfl
  subst J;have H:=f.sets [Z 0,Z 0,Z 0,Z 0] z;have i:=b.E (MU (QF v3 (w.heap.size+1) 0 [Z 0,Z 0,Z 0,Z 0]) b.size (λg e=>by cases e;omega))
  cases R:LT F E with
  | false =>
   go_upto_region 2 with fail;refine AX ?_;refine VD z (.agg #[Z 0,Z 0,Z 0,Z 0]) γ ?_;simp only[PS];refine BV z 39 _ _ z (w.heap.size+1) 0 #[Z 0,Z 0,Z 0,Z 0] z z (f.there z) xk h ?_;go_wp2;exact XM 4 39 results146 _ z [Z 0,Z 0,Z 0,Z 0] _ H underlying39 z xk z ⟨z,i⟩
  | true =>
   rw[AH (λk=>P ⟨R,k⟩)]at p;clear P;go_wp2_with fail;refine p.j.J ?_;rintro e I ⟨rfl,q⟩;rw[q];clear q I;go_upto_region 2 with fail;refine AX ?_;refine VD z (.agg #[Z 0,Z 0,Z 0,Z 0]) γ ?_;simp only[PS];refine BV z 39 _ _ z (w.heap.size+1) 0 #[Z 0,Z 0,Z 0,Z 0] z z (f.there z) xk h ?_;go_wp2;exact XM 4 39 results146 _ z [Z 0,Z 0,Z 0,Z 0] _ H underlying39 z xk z ⟨z,i⟩
 obtain⟨R,hn⟩:=P;obtain⟨⟨dH,bY,bZ⟩,cN,hw⟩:=QH R;rw[R];rw[AM hn]at p;have i:=LE (mw a F c j E c' v3 (t.j.I b) (y.j.I b) bY bZ (λs hs=>by have:=cN s hs;omega) (λB hx=>by have:=AW (hw B hx);omega));unfold LR at i;have J:=m.y 0;have K:=m.y 1;have H:=m.lt;clear t y;go_wp2_with fail;refine p.j.J ?_;rintro e I ⟨rfl,q⟩;rw[q];clear q I p;go_wp2_with fail;refine i.j.J ?_;rintro e v4 ⟨g,vv,rfl,t,p,dF,k⟩;clear J K i
 obtain⟨N,U,cX,q⟩:∃N U,vv=Y N (LU E).length U/\OwnS v4 N (LI (LU E)):=by
  rw[SO];rcases MS p with ⟨e,O⟩|⟨y,i,e,J,K,I⟩
  .have:E=[]:=AD O
   subst this;exact⟨none,0,e,.inl z⟩
  exact⟨_,i,e,.inr ⟨y,z,I⟩⟩
 subst cX;replace f:=f.I k;replace b:=b.E (k.J b.size);clear k p H m;go_wp2_with fail;refine(rdr _ _ _ _ _ _ _).J ?_;rintro e J ⟨rfl,i⟩;replace f:=f.I i;replace b:=b.E (i.J b.size);have k:=LE (t.I i);have H:=LE (q.I i);clear t q i
 have C:∀p∈LU E,p.2.length=64:=λp i=>by
  obtain⟨B,hx,rfl⟩:=DW.1 i;have:=AW (hw B hx);show(LF B.2).length=64;rw[NK];omega
 have I:Hld J N (LU E):=by
  rcases H.j with O|⟨y,rfl,K⟩
  .refine .inl (AD ?_)
   have:=BD List.length O;rw[OC _ C,AU]at this;omega
  exact K.hld C
 obtain⟨X,cM⟩:∃X:Nat->List Int,Hid (X=λm=>(TP (LU E) (F.map LF)).getD m []):=⟨_,LE z⟩
 have aX:Hid (∀m:Nat,X m=(TP (LU E) (F.map LF)).getD m []):=λm=>by rw[cM.j]
 have cL:Hid (∀m:Nat,m<2->(X m).length=64):=λm K=>by
  rw[aX.j];exact NQ (xt _ _ C k.j.len) (by rw[mc];simp;omega)
 have bH:Hid (∀m:Nat,m<2->∀t,Q3 J t->Calls prog 329 #[.agg #[Y N (LU E).length U,.iface 92 (Y (Hw g 0) F.length F.length)],Z (m:Int)] t λe r=>e=Q2 (.tuple #[.agg ((X m).map (Value.int .u8)).toArray,Q1 true])/\Q3 t r):=λm K t q=>by
  rw[aX.j];exact xJ N (LU E) U g F.length F.length m (F.map LF) t (I.I q) C (λp i=>by obtain⟨y,P,rfl⟩:=DW.1 i;exact(AW (hw y P)).1) (by rw[SO];exact bZ) (k.j.I q) σ bY d
 have HF:Hid (Q=if SP (SP NM ((OR (strOfNums (X 0)) 0 n).getD NM)) ((OR (strOfNums (X 1)) 1 n).getD NM)=NM then ((0,0,1,0):RtT) else SP (SP NM ((OR (strOfNums (X 0)) 0 n).getD NM)) ((OR (strOfNums (X 1)) 1 n).getD NM)):=by
  show _=_
  have i:∀m:Nat,m<2->strOfNums (X m)=(LQ E F).getD m ByteArray.empty:=λm K=>by
   have r:m<(TP (LU E) (F.map LF)).length:=by rw[mc];simp;omega
   rw[aX.j,<-yp];simp[LW,List.getD,r]
  rw[i 0 d,i 1 d,Is,aE.j];unfold NJ;rw[AI ⟨R,hn⟩]
 obtain⟨cv,cF⟩:=x (Value.iface 92 (Y (Hw g 0) F.length F.length));rw[<-cF.j]at bH⊢;clear H k I;obtain⟨W,bC⟩:=x ((OR (strOfNums (X 0)) 0 n).getD NM);obtain⟨A1,bE⟩:=x ((OR (strOfNums (X 1)) 1 n).getD NM);rw[<-bC.j,<-bE.j]at HF;have cI:=LE (λt (q:Q3 w t)=>((q.cell (p:=(Ki 7 0)) hg).E M.j));have cH:=LE (λt (q:Q3 w t)=>((q.cell (p:=(Ki 1 0)) (by show 1<_;omega)).E L.j));clear M L;go_upto_region 5 with fail;generalize k:J.alloc _=wb;obtain⟨q,bB,i⟩:=LP k;have r:=i.q;have lR:=f.lt;have cJ:=LE (f.I q);have HE:=LE (b.E (q.J b.size));have cE:=LE q;have sW:=b.size;clear k i q f b;go_wp2_with fail;go_loopw [21,7,8] (λi _ _ wr=>∃(k:Nat) (b:RtT),k<=2/\i=Z (k:Int)/\Hid ((k=0->b=NM)/\(k=1->b=SP NM W)/\(k=2->b=SP (SP NM W) A1))/\Below J.heap.size wb wr/\Row wr J.heap.size [Z b.1,Z b.2.1,Z b.2.2.1,Z b.2.2.2]) (λi _ _ _=>2-(intOf i).toNat)
 case atStart=>exact⟨0,NM,d,z,⟨λ_=>z,λo=>absurd o δ,λo=>absurd o δ⟩,AB,r⟩
 case round =>
  obtain⟨k,⟨b0,y,H,I⟩,hk,rfl,D,K,M⟩:=hrel;simp only at M;clear r;have dB:=K.size
  by_cases bW:k<2
  .have cT:(k:Int)<2:=d
   have aG:=LE K;have u:=LE (HE.j.E (K.J d));have aW:=LE (cE.j.E (K.J AA));clear K;obtain⟨r,aV⟩:=x ((OR (strOfNums (X k)) (k:Int) n).getD NM:RtT)
   have bG:Hid (∀f:RtT,f=SP (b0,y,H,I) r->(k+1=0->f=NM)/\(k+1=1->f=SP NM W)/\(k+1=2->f=SP (SP NM W) A1)):=λf i=>by
    refine⟨λo=>absurd o d,λo=>?_,λo=>?_⟩
    .have f:k=0:=d
     subst f;rw[i,D.j.1 z,aV.j,bC.j];rfl
    have f:k=1:=d
    subst f;rw[i,D.j.2.1 z,aV.j,bE.j];rfl
   have aU:=LE (Kz (Y N (LU E).length U) cv (X k) (k:Int) n wr d (cL.j k bW) (λt q=>bH.j k bW t (aW.j.E (q.J (by have:=aW.j.size;omega)))) ty v (cI.j _ u.j) (cH.j _ u.j) (by have:=u.j.size;omega));rw[<-aV.j]at aU;obtain⟨t,V,f,i⟩:=r;go_wp2_with fail;refine aU.j.J ?_;rintro e w5 ⟨rfl,A⟩;unfold ft OI;go_upto_region 9 with fail;generalize bQ:w5.alloc _=w6;obtain⟨bU,z6,b6⟩:=LP bQ;have l:=b6.q;have L:=A.E (bU.J A.size);have S:=M.I L;have nT:J.heap.size≠w5.heap.size:=by have:=M.lt;have:=A.size;omega
   have bF:=LE (aG.j.E (L.J (by have:=M.lt;omega)));have s6:J.heap.size<=w6.heap.size:=by have:=M.lt;have:=L.size;omega
   obtain⟨T,bJ⟩:=nMz w5.heap.size;rw[<-bJ]at l nT⊢;clear bQ z6 b6 A bU L M bJ aG aU u aW;have t0:=l.y 0;have k0:=S.y 0;have lT:=l.lt;have lK:=S.lt
   by_cases A:b0<t
   .have L:=LE (bG.j (t,V,f,i) (by simp[SP,A]))
    go_upto_region 10 with fail;refine AX ?_;refine BE z 39 _ z T 0 z _ _ l.range underlying39 z xk ?_;simp only[PS];refine BV z 39 _ _ z J.heap.size 0 #[Z t,Z V,Z f,Z i] z z (S.there z) xk h ?_;have r7:=S.sets [Z t,Z V,Z f,Z i] z;have u:=bF.j.E (MU (QF w6 J.heap.size 0 [Z t,Z V,Z f,Z i]) s6 (λg e=>by cases e;omega));generalize w6.setCells _ _ _=w7 at r7 u⊢;clear t0 k0 lT lK;go_wp2;go_roundw
    case rel=>exact⟨k+1,(t,V,f,i),d,ν,L.j,u,r7⟩
    case measure=>simp[intOf];omega
   have L:=LE (bG.j (b0,y,H,I) (by simp[SP,A]))
   go_wp2;go_roundw
   case rel=>exact⟨k+1,(b0,y,H,I),d,ν,L.j,bF.j,S⟩
   case measure=>simp[intOf];omega
  have T:k=2:=d
  subst T
  have q:Hid (Q=if ((b0,y,H,I):RtT)=NM then (0,0,1,0) else (b0,y,H,I)):=by
   show _=_;rw[HF.j,<-D.j.2.2 z]
  have S:Row wr (w.heap.size+1) [Z 0,Z 0,Z 0,Z 0]:=VM cJ.j (K.block _ d) d;have i:=HE.j.E (K.J d)
  have t:∀u0 u1 u2 u3:Int,Row (wr.setCells (w.heap.size+1) 0 [Z u0,Z u1,Z u2,Z u3]) (w.heap.size+1) [Z u0,Z u1,Z u2,Z u3]/\Q3 w (wr.setCells (w.heap.size+1) 0 [Z u0,Z u1,Z u2,Z u3]):=λu0 u1 u2 u3=>⟨S.sets _ z,i.E (MU (QF wr (w.heap.size+1) 0 _) i.size (λg e=>by cases e;omega))⟩
  have u:J.heap.size<wr.heap.size:=d
  clear K i D HF;go_upto_region 12 with fail;refine AX ?_;refine BE z 39 _ z J.heap.size 0 z _ _ M.range underlying39 z xk ?_;simp only[PS];refine VD z (.agg #[Z 0,Z 0,Z 0,Z 0]) γ ?_;simp only[PS]
  by_cases f:((b0,y,H,I):RtT)=NM
  .have L:Q=(0,0,1,0):=by rw[q.j,AI f]
   have i:b0=0:=BD (λB:RtT=>B.1) f;have r:y=0:=BD (λB:RtT=>B.2.1) f;have K:H=0:=BD (λB:RtT=>B.2.2.1) f;have V:I=0:=BD (λB:RtT=>B.2.2.2) f;clear f q;subst i r K V L;go_upto_region 13 with fail;refine AX ?_;refine VD z (.agg #[Z 0,Z 0,Z 1,Z 0]) γ ?_;simp only[PS];refine BV z 39 _ _ z (w.heap.size+1) 0 #[Z 0,Z 0,Z 1,Z 0] z z (S.there z) xk h ?_;go_wp2;exact XM 4 39 results146 _ z [Z 0,Z 0,Z 1,Z 0] _ (t 0 0 1 0).1 underlying39 z xk z ⟨z,(t 0 0 1 0).2⟩
  have L:Q=(b0,y,H,I):=by rw[q.j,AF f]
  have i:¬(b0=0/\y=0/\H=0/\I=0):=λo=>f (by rw[o.1,o.2.1,o.2.2.1,o.2.2.2];rfl)
  clear f q;subst L;refine VD z (Q1 false) (by go_simp;exactλp q r s=>i ⟨p,q,r,s⟩) ?_;go_upto_region 14 with fail;refine AX ?_;refine BE z 39 _ z J.heap.size 0 z _ _ M.range underlying39 z xk ?_;simp only[PS];refine BV z 39 _ _ z (w.heap.size+1) 0 #[Z b0,Z y,Z H,Z I] z z (S.there z) xk h ?_;go_wp2;exact XM 4 39 results146 _ z [Z b0,Z y,Z H,Z I] _ (t b0 y H I).1 underlying39 z xk z ⟨z,(t b0 y H I).2⟩
end
