import Derived.Test.YteflhojcomcfaaaGreatDoorPrAq
import Derived.Deep.Cut
import Derived.Deep.CutRange
import Derived.Test.YteflhojcomcfaaaGreatDoorPrG35
import Derived.Test.YteflhojcomcfaaaGreatDoorPrG36
set_option maxHeartbeats 16000000
namespace Go.Proofs.YteflhojcomcfaaaGreatDoor
open _root_.ByteArray(empty)
open Tryz
open Go.RowKit
set_option maxRecDepth 4000
set_option linter.all false
set_option maxHeartbeats 4000000
theorem Mt(p:Q4)(h:p.size=5):((p.data.toList.getD 0 0).toNat:Int)=UC p/\NV (LF (p.extract 1 5))=TJ p/\0<=UC p/\UC p<=255/\0<=TJ p/\TJ p<=4294967295:=by
 have i:(LF p).length=5:=by rw[NK,h]
 have g:p.data.toList.length=5:=h;have f:=mq p;have b:=fy 1 ((LF p).take 1) q (λy a=>f y (DR a));have c:=fy 4 (((LF p).drop 1).take 4) q (λy a=>f y (FA (DR a)));refine⟨?_,?_,b.1,by have:=b.2;unfold UC;omega,c.1,by have:=c.2;unfold TJ;omega⟩
 .unfold UC LF
  rw[<-GT];have e:=FW (l:=p.data.toList) (i:=0) d;rw[FI]at e;rw[e];simp only[KD,FZ,FY,JN,s6];rfl
 unfold TJ
 rw[qf,AS d];rw[AS (l:=(LF p).drop 1) q]
theorem xk:(prog.info? 39).map (·.size)=some 4:=h
theorem P4(s:Q4)(a n:Int)(w:Q9)(hs:s.size<=1048576):Calls prog 231 #[Ow s,Z a,Z n] w λe r=>(∃t j g c i,e=Q2 (.tuple #[OI t j g c,Q1 i])/\OR s a n=if i=true then some (t,j,g,c) else none)/\Q3 w r:=by
 have o:=LE (λI=>mR s n I hs)
 obtain⟨k,c,m,p,i,q,B⟩:∃k c m p i,WJ (OA s n)=.tuple #[OD k c m p,Q1 i]/\((i=true/\OA s n=some (k,c,m,p))\/(i=false/\OA s n=none)):=by
  cases y:OA s n with
  | none=>exact⟨0,0,0,⟨#[]⟩,false,z,.inr ⟨z,z⟩⟩
  | some g=>obtain⟨k,c,m,p⟩:=g;exact⟨k,c,m,p,true,z,.inl ⟨z,z⟩⟩
 rw[q]at o;unfold OD at o;clear q;go_enter func231,ntmps231;go_upto_region 1 with fail;generalize y:w.alloc _=v1;obtain⟨q,E,g⟩:=LP y;have v:=g.q;have t:=q;clear y E g q;go_wp2_with fail;refine(o.j v1).J ?_;rintro e v2 ⟨rfl,g⟩;replace v:=v.I g;replace t:=t.E (g.J t.size);clear g o;go_upto_region 2 with fail;generalize y:v2.alloc _=J;obtain⟨q,E,g⟩:=LP y;have o:=g.q;obtain⟨PB,F⟩:=nMz v2.heap.size;rw[<-F]at o⊢;have P:w.heap.size≠PB:=by have:=v.lt;omega
 replace v:=v.I q;replace t:=t.E (q.J t.size);have u:w.heap.size<=w.heap.size:=C;clear y E g q F
 by_cases K:i=true/\p.size=5
 rotate_left
 .have F:OR s a n=none:=by
   unfold OR;rcases B with ⟨q,y⟩|⟨q,y⟩
   .rw[y];simp only;rw[AF (λk=>K ⟨q,k.1⟩)]
   rw[y]
  have E:p.size<=64\/i=false:=by
   rcases B with ⟨q,y⟩|⟨q,y⟩
   .exact .inl (XL y).2.2.2.2.2.2
   exact .inr q
  have q:=LE F;have Q:=o.y 3;have lP:=o.lt;have L:=v.sets [Z 0,Z 0,Z 0,Z 0] z;have G:=QF J w.heap.size 0 [Z 0,Z 0,Z 0,Z 0];have y:=t.E (MU G t.size (λg e=>by cases e;exact u));clear B F o G P
  cases i with
  | false =>
   clear K E;go_upto_region 3 with fail;refine AX ?_;refine VD z (.agg #[Z 0,Z 0,Z 0,Z 0]) γ ?_;simp only[PS];refine BV z 39 _ _ z w.heap.size 0 #[Z 0,Z 0,Z 0,Z 0] z z (v.there z) xk h ?_;go_wp2;exact ti 6 7 39 results231 _ z _ z [Z 0,Z 0,Z 0,Z 0] _ L underlying39 z xk z ⟨⟨0,0,0,0,false,z,by rw[q.j];rfl⟩,y⟩
  | true =>
   have O:((p.size:Int) != 5)=true:=by have j:p.size≠5:=λe=>K ⟨z,e⟩;simp;omega
   clear K E;go_upto_region 3 with fail;refine AX ?_;refine VD z (.agg #[Z 0,Z 0,Z 0,Z 0]) γ ?_;simp only[PS];refine BV z 39 _ _ z w.heap.size 0 #[Z 0,Z 0,Z 0,Z 0] z z (v.there z) xk h ?_;go_wp2;exact ti 6 7 39 results231 _ z _ z [Z 0,Z 0,Z 0,Z 0] _ L underlying39 z xk z ⟨⟨0,0,0,0,false,z,by rw[q.j];rfl⟩,y⟩
 obtain⟨rfl,K⟩:=K;have E:=(B.resolve_right (λk=>by cases k.1)).2;clear B;obtain⟨_,_,bE,bF,bB,bC,bG⟩:=XL E
 have N:Hid (OR s a n=if QE m (UC p) (TJ p) c n=s/\m % 2=a then some (m,UC p,TJ p,c) else none):=by
  show _=_;unfold OR;rw[E];simp[K]
 obtain⟨q,B,g0,g1,g2,g3⟩:=Mt p K;have R:=wu p 0 ω;obtain⟨H,Q⟩:=nMz ((p.data.toList.getD 0 0).toNat:Nat);rw[<-Q]at q R;rw[<-q]at g0 g1;obtain⟨F,L⟩:=nHz (TJ p);rw[<-L.j]at g2 g3 N B;rw[<-q]at N;have O:(p.size:Int)=5:=ω
 have M:(p.extract 1 5).size<=4:=by simp only[AQ];omega
 have aZ:IntKind.i64.wrap (H:Int)=(H:Int):=by simp[IntKind.wrap,IntKind.bits,IntKind.signed];omega
 have T:0<p.size:=ω
 obtain⟨X,y⟩:=nHz (QE m (H:Int) F c n);rw[<-y.j]at N;have S:=LV (λI=>xH m (H:Int) F c n I);rw[<-y.j]at S;unfold OI at S;have I:=LV B;clear Q B q L E y
 have y:Hid (∀r,Q3 J r->r.cell? (Ki PB 1)=some (Z c)/\r.cell? (Ki PB 2)=some (Z m)/\r.cell? (Ki PB 3)=some (Ow p)/\Q3 J r):=λr q=>⟨(o.I q).y 1,(o.I q).y 2,(o.I q).y 3,q⟩
 have lP:=o.lt;clear o;have Q:=(y.j _ D).2.2.1;go_upto_region 4 with fail;clear Q;refine(λo:Wr ?G=>?main) ⟨?pf⟩
 case main =>
  go_region_held3 (λr=>r.cell? (Ki PB 1)=some (Z c)/\r.cell? (Ki PB 2)=some (Z m)/\r.cell? (Ki PB 3)=some (Ow p)/\Q3 J r)
   (first|assumption|exact y.j _ ((D).drew)|exact y.j _ (((D).drew).alloc C _)|exact y.j _ (((D).alloc C _).drew)|exact y.j _ ((D).alloc C _))
   (first|(go_at_call 169;refine(yk (p.extract 1 5) F _ M I.j.symm).J ?_;rintro e B ⟨rfl,rfl⟩))
  all_goals exact o.j
 obtain⟨W,o⟩:=nMz ((J.alloc (.cells #[Z m,Z (H:Int),Z F,Z c] 39)).drew);have B:Q3 J W:=by rw[o];exact((D).alloc C _).drew
 have rQ:Row W J.heap.size [Z m,Z (H:Int),Z F,Z c]:=by rw[o];exact(LP z).2.2.q.drew
 have l:w.heap.size≠J.heap.size:=by have:=v.lt;omega
 rw[<-o];replace v:=v.I B;replace t:=t.E (B.J t.size);obtain⟨QB,E⟩:=nMz J.heap.size;rw[<-E]at rQ l⊢;clear o B y E P I R T M O;have Q:=(@D W.heap.size W).drew;go_upto_region 5 with fail
 by_cases P:X=s
 .rw[P]at S
  have x:Hid (OR s a n=if (m.tmod 2 == a)=true then some (m,(H:Int),F,c) else none):=by
   show _=_;rw[N.j];have:(X=s/\m % 2=a)<->(m.tmod 2 == a)=true:=by rw[beq_iff_eq,DQ ω];exact⟨λk=>k.2,λk=>⟨P,k⟩⟩
   simp only[this]
  clear P N;refine AN (S:=λr=>Row r QB [Z m,Z (H:Int),Z F,Z c]/\True) h (⟨rQ.I Q,trivial⟩) (λI=>?_);refine TK 0 (.agg #[Z m,Z (H:Int),Z F,Z c]) z (b ⟨f,λw B=>by obtain⟨E,M⟩:=B;exact SA 39 _ z QB 0 z [Z m,Z (H:Int),Z F,Z c] _ E.range underlying39 z xk⟩) I (TK 1 (.agg #[Z m,Z (H:Int),Z F,Z c]) z (b ⟨f,λw B=>by obtain⟨E,M⟩:=B;exact SA 39 _ z QB 0 z [Z m,Z (H:Int),Z F,Z c] _ E.range underlying39 z xk⟩) I (TY 2 (Z n) z I (TY 4 (Ow s) z I ?_)));simp only[PS];refine RD 3 z (λR y=>?_);refine LM f 236 #[.agg #[Z m,Z (H:Int),Z F,Z c],Z n] γ (S.j _) ?_
  rintro e v5 ⟨rfl,d⟩;refine⟨_,z,?_⟩;have O:=Q.E (d.J Q.size);have U:=rQ.I O;have V:=v.I O;have T:=t.E (O.J t.size);refine y.j _ _ (⟨U,trivial⟩) (λo=>?_)
  try simp only[PS]
  refine TY 5 (Q1 true) z o (TY 6 (Q1 true) z o (TK 7 (Dr QB 0) z (b ⟨f,λw B=>by obtain⟨E,M⟩:=B;have lq:=E.lt;go_simp⟩) o (TK 8 (Z m) z (b ⟨f,λw B=>by obtain⟨E,M⟩:=B;have c0:=E.y 0;go_simp⟩) o (TY 9 (Z (m.tmod 2)) z o (TY 10 (Z a) z o (TY 11 (Q1 (m.tmod 2 == a)) z o (TY 12 (Q1 (m.tmod 2 == a)) z o ?_)))))));simp only[PS];refine RD 13 z (λR y=>?_);refine VC f 39 _ _ f w.heap.size 0 #[Z m,Z (H:Int),Z F,Z c] f f (V.there z) xk h ?_;have G:=QF v5 w.heap.size 0 [Z m,Z (H:Int),Z F,Z c];have L:=V.sets [Z m,Z (H:Int),Z F,Z c] z;generalize World.setCells _ _ _ _=v6 at G L⊢;refine y.j _ _ (⟨U.V G (λe=>l (BQ e).symm),trivial⟩) (λA=>?_)
  try simp only[PS]
  refine RD 14 z (λR y=>?_);go_simp;refine y.j _ _ A (λ_=>?_)
  try simp only[PS]
  refine DN ?_;go_wp2;exact ti 6 7 39 results231 _ z _ z [Z m,Z (H:Int),Z F,Z c] _ L underlying39 z xk z ⟨⟨m,(H:Int),F,c,(m.tmod 2 == a),z,x.j⟩,T.E (MU G T.size (λg e=>by cases e;exact u))⟩
 have x:Hid (OR s a n=none):=by show _=_;rw[N.j,AF (λj=>P j.1)]
 have hG:(X.toList == s.toList)=false:=by simp only[BL];intro hh;rw[CZ,CZ]at hh;exact P (EV (IH hh))
 clear P N;refine AN (S:=λr=>Row r QB [Z m,Z (H:Int),Z F,Z c]/\True) h (⟨rQ.I Q,trivial⟩) (λI=>?_);refine TK 0 (.agg #[Z m,Z (H:Int),Z F,Z c]) z (b ⟨f,λw B=>by obtain⟨E,M⟩:=B;exact SA 39 _ z QB 0 z [Z m,Z (H:Int),Z F,Z c] _ E.range underlying39 z xk⟩) I (TK 1 (.agg #[Z m,Z (H:Int),Z F,Z c]) z (b ⟨f,λw B=>by obtain⟨E,M⟩:=B;exact SA 39 _ z QB 0 z [Z m,Z (H:Int),Z F,Z c] _ E.range underlying39 z xk⟩) I (TY 2 (Z n) z I (TY 4 (Ow s) z I ?_)));simp only[PS];refine RD 3 z (λR y=>?_);refine LM f 236 #[.agg #[Z m,Z (H:Int),Z F,Z c],Z n] γ (S.j _) ?_
 rintro e v5 ⟨rfl,d⟩;refine⟨_,z,?_⟩;have O:=Q.E (d.J Q.size);have U:=rQ.I O;have V:=v.I O;have T:=t.E (O.J t.size);refine y.j _ _ (⟨U,trivial⟩) (λo=>?_)
 try simp only[PS]
 refine TY 5 (Q1 false) z o (TY 6 (Q1 false) z o (TK 7 (undef) z (IT ⟨h,z⟩) o (TK 8 (undef) z (IT ⟨h,z⟩) o (TK 9 (undef) z (IT ⟨h,z⟩) o (TK 10 (undef) z (IT ⟨h,z⟩) o (TK 11 (undef) z (IT ⟨h,z⟩) o (TY 12 (Q1 false) z o ?_)))))));simp only[PS];refine RD 13 z (λR y=>?_);refine VC f 39 _ _ f w.heap.size 0 #[Z m,Z (H:Int),Z F,Z c] f f (V.there z) xk h ?_;have G:=QF v5 w.heap.size 0 [Z m,Z (H:Int),Z F,Z c];have L:=V.sets [Z m,Z (H:Int),Z F,Z c] z;generalize World.setCells _ _ _ _=v6 at G L⊢;refine y.j _ _ (⟨U.V G (λe=>l (BQ e).symm),trivial⟩) (λA=>?_)
 try simp only[PS]
 refine RD 14 z (λR y=>?_);go_simp;refine y.j _ _ A (λ_=>?_)
 try simp only[PS]
 refine DN ?_;go_wp2;exact ti 6 7 39 results231 _ z _ z [Z m,Z (H:Int),Z F,Z c] _ L underlying39 z xk z ⟨⟨m,(H:Int),F,c,false,z,by rw[x.j];rfl⟩,T.E (MU G T.size (λg e=>by cases e;exact u))⟩
def NJ(a:List Q4)(b:List (Int×Q4))(n:Int):RtT:=if LT a b=true/\1<=n/\n<=8 then nz ((LQ b a).getD 0 empty) ((LQ b a).getD 1 empty) n else NM
@[reducible] def nV(x:RtT):Ra:=OI x.1 x.2.1 x.2.2.1 x.2.2.2
theorem lP:∀(c:List (Int×Q4)) (a:List Q4),(∀s∈a,s.size<=1048576)->(∀x∈c,x.2.size<=1048576)->∀k,((LQ c a).getD k empty).size<=1048576
 | [],a,h,_,k=>by
  show(a.getD k empty).size<=_
  by_cases b:k<a.length
  .have e:a.getD k empty=a[k]:=by simp[List.getD,b]
   rw[e];exact h _ (FU b)
  have e:a.getD k empty=empty:=by simp[List.getD,b]
  rw[e];decide
 | x::r,a,h,h',k=>lP r _ (λs d=>by
   rcases FC d with b|b
   .exact h s b
   .rw[b];exact h' x (EN ..)) (λy e=>h' y (DK _ e)) k
theorem J0(a:Q5)(p:List Q4)(c:Nat)(M:Q5)(q:List (Int×Q4))(j:Nat)(n:Int)(w:Q9)(m:Strs w a p)(R:Wrs w M q)(U:p.length<=1048576)(cN:q.length<=1048576)(hs:∀s∈p,s.size<=1048576)(bY:∀o∈q,o.2.size<=1048576):Calls prog 160 #[LR a p.length c M q.length j,Z n] w λe b=>e=Q2 (nV (NJ p q n))/\Q3 w b:=by
 have g:=LE (λb m R=>ZX a p c M q j b m R U cN hs bY);obtain⟨N,C⟩:=nHz (NJ p q n);rw[<-C.j];unfold LR at g⊢;go_enter func160,ntmps160;go_upto_region 1 with fail;generalize v:w.alloc _=v1;obtain⟨b,B,s⟩:=LP v;generalize y:v1.alloc _=v2;obtain⟨k,H,t⟩:=LP y;have r:=s.q.I k;have i:=t.q;rw[B]at i;have f:=b.E (k.J b.size);clear v y s t b k B H;have F:=r.y 0;have H:=r.y 1;have B:=r.lt;have v:=LE m;have y:=LE R;clear m R;go_wp2_with fail;refine(g.j v2 (v.j.I f) (y.j.I f)).J ?_;rintro e u ⟨rfl,b⟩;replace r:=r.I b;replace i:=i.I b;replace f:=f.E (b.J f.size);clear g b F H B;have b:=LE (RZ n u)
 by_cases V:LT p q=true/\1<=n/\n<=8
 rotate_left
 .have F:N=(0,0,0,0):=by rw[C.j];unfold NJ;rw[A V];rfl
  subst F;have B:=i.sets [Z 0,Z 0,Z 0,Z 0] z;have t:=f.E (MU (QF u (w.heap.size+1) 0 [Z 0,Z 0,Z 0,Z 0]) f.size (λg e=>by cases e;omega))
  cases J:LT p q with
  | false =>
   go_upto_region 2 with fail;refine AX ?_;refine VD z (.agg #[Z 0,Z 0,Z 0,Z 0]) γ ?_;simp only[PS];refine BV z 39 _ _ z (w.heap.size+1) 0 #[Z 0,Z 0,Z 0,Z 0] z z (i.there z) xk κ ?_;go_wp2;exact XM 4 39 results160 _ z [Z 0,Z 0,Z 0,Z 0] _ B underlying39 z xk z ⟨z,t⟩
  | true =>
   rw[AH (λk=>V ⟨J,k⟩)]at b;clear V;go_wp2_with fail;refine b.j.J ?_;rintro e E ⟨rfl,s⟩;rw[s];clear s E;go_upto_region 2 with fail;refine AX ?_;refine VD z (.agg #[Z 0,Z 0,Z 0,Z 0]) γ ?_;simp only[PS];refine BV z 39 _ _ z (w.heap.size+1) 0 #[Z 0,Z 0,Z 0,Z 0] z z (i.there z) xk κ ?_;go_wp2;exact XM 4 39 results160 _ z [Z 0,Z 0,Z 0,Z 0] _ B underlying39 z xk z ⟨z,t⟩
 obtain⟨J,hn⟩:=V;obtain⟨⟨cT,bR,bT⟩,cP,hw⟩:=QH J;rw[J];rw[AM hn]at b;have t:=LE (TW a p c M q j u (v.j.I f) (y.j.I f) bR bT);unfold LR at t;have F:=r.y 0;have H:=r.y 1;have B:=r.lt;clear v y;go_wp2_with fail;refine b.j.J ?_;rintro e E ⟨rfl,s⟩;rw[s];clear s E b;go_wp2_with fail;refine t.j.J ?_;rintro e v4 ⟨g,c1,g',cC,rfl,k,E,I,v⟩;have lR:=i.lt;have x:p.length≠0:=d
 have cQ:u.heap.size<=g:=E g (by unfold blk;rw[A x];rfl)
 have y:Row v4 g (p.map Value.string):=by
  rcases k.s with e|⟨b,e,s⟩
  .exact absurd (BD List.length e) (by rw[BP,AU];omega)
  cases e;exact s
 have b:MZ q≠[]->g'≠g:=λs=>by
  have U:q.length≠0:=λe=>s (by rw[AD e];rfl)
  rcases k.ne with e|e|e
  .unfold blk at e;rw[A x]at e;exact absurd e σ
  .unfold blk at e;rw[A U]at e;exact absurd e σ
  unfold blk at e;rw[A x,A U]at e;exactλs=>e (by rw[s])
 have s:=LE (WL g g' p c1 q cC v4 y k.p b bR bT (λo K=>by have:=AW (hw o K);omega));unfold LR at s;have sE:=f.size;replace i:=i.I v;replace f:=f.E (v.J f.size);clear F H B r t k E I v y b;go_wp2_with fail;refine s.j.J ?_;rintro e r ⟨o,rfl,cV,cW,v,t⟩;replace i:=i.V t (λe=>by have:=BQ e;omega);replace f:=f.E (MU t f.size (λk F=>by cases F;omega));have lg:=v.lt;obtain⟨S,b⟩:∃S:Nat->Q4,Hid (S=λk=>(LQ q p).getD k empty):=⟨_,LE z⟩
 have bZ:Hid (∀k,(S k).size<=1048576):=λk=>by rw[b.j];exact lP q p hs bY k
 have I:Hid (∀k,k<p.length->r.cell? (Ki g k)=some (Ow (S k))):=λk F=>by rw[b.j];exact v.cell k _ (by simp[List.getD,MC,F])
 have HF:Hid (N=WA (WA (0,0,1,0) (OR (S 0) 0 n)) (OR (S 1) 1 n)):=by
  show _=_;rw[C.j,b.j];unfold NJ;rw[AI ⟨J,hn⟩];rfl
 clear s v t C b;go_upto_region 5 with fail;generalize v:r.alloc _=v6;obtain⟨C,B,s⟩:=LP v;generalize y:v6.alloc _=l;obtain⟨E,H,t⟩:=LP y;have K:=t.q;rw[B]at K;have b:=C.E (E.J C.size);have cA:=LE ((s.q.I E).y 0)
 have aY:Hid (∀k,k<p.length->l.cell? (Ki g k)=some (Ow (S k))):=λk F=>(b.cell (p:=(Ki g k)) lg).E (I.j k F)
 have cX:=i.lt;have bH:=LE (i.I b);have HE:=LE (f.E (b.J f.size));have s7:l.heap.size=r.heap.size+2:=d
 have sW:=f.size;clear v y s t b C E B H I i f;go_wp2_with fail;go_loopw [7,8,9] (λi _ _ wr=>∃(k:Nat) (b:RtT),k<=2/\i=Z (k:Int)/\Hid ((k=0->b=(0,0,1,0))/\(k=1->b=WA (0,0,1,0) (OR (S 0) 0 n))/\(k=2->b=N))/\Below (r.heap.size+1) l wr/\Row wr (r.heap.size+1) [Z b.1,Z b.2.1,Z b.2.2.1,Z b.2.2.2]) (λi _ _ _=>2-(intOf i).toNat)
 case atStart=>exact⟨0,(0,0,1,0),d,z,⟨λ_=>z,λm=>absurd m δ,λm=>absurd m δ⟩,AB,K⟩
 case round =>
  obtain⟨k,⟨b0,v,y,B⟩,F,rfl,I,s,H⟩:=hrel;simp only at H;clear K
  by_cases cS:k<2
  .have cM:(k:Int)<(p.length:Int):=d
   have cO:(k:Int)<2:=d
   have Q:=(s.cell (p:=(Ki r.heap.size 0)) (by show r.heap.size<_;omega)).E cA.j;have yk:=(s.cell (p:=(Ki g k)) (by show g<_;omega)).E (aY.j k d);have E:r.heap.size<wr.heap.size:=by have:=s.size;omega
   have O:Hid (∀f:RtT,f=WA (b0,v,y,B) (OR (S k) (k:Int) n)->(k+1=0->f=(0,0,1,0))/\(k+1=1->f=WA (0,0,1,0) (OR (S 0) 0 n))/\(k+1=2->f=N)):=LE (λf i=>by
    refine⟨λm=>absurd m d,λm=>?_,λm=>?_⟩
    .have cI:k=0:=d
     subst cI;rw[i,I.j.1 z];rfl
    .have cJ:k=1:=d
     subst cJ;rw[i,I.j.2.1 z,HF.j]
     rfl)
   have W:=LE s;clear I s;go_wp2_with fail;refine(P4 (S k) (k:Int) n _ (bZ.j k)).J ?_;rintro e h ⟨⟨t,K,f,i,G,rfl,C⟩,L⟩;have P:=LE C;clear C Q yk E;unfold OI;go_upto_region 9 with fail;generalize bP:h.alloc _=w6;obtain⟨C,z6,b6⟩:=LP bP;have X:=b6.q;have Q:=L.E (C.J L.size);have E:=H.I Q;have nT:r.heap.size+1≠h.heap.size:=by have:=H.lt;have:=L.size;omega
   have D:=LE (W.j.E (Q.J (by have:=H.lt;omega)));obtain⟨T,bJ⟩:=nMz h.heap.size;rw[<-bJ]at X nT⊢;clear bP z6 b6 L C Q H bJ W;have t0:=X.y 0;have k0:=E.y 0;have lT:=X.lt;have lK:=E.lt
   by_cases C:G=true/\b0<t
   .obtain⟨rfl,C⟩:=C
    have L:=LE (O.j (t,K,f,i) (by rw[P.j];simp[WA,C]));clear O P;go_upto_region 10 with fail;refine AX ?_;refine BE z 39 _ z T 0 z _ _ X.range underlying39 z xk ?_;simp only[PS];refine BV z 39 _ _ z (r.heap.size+1) 0 #[Z t,Z K,Z f,Z i] z z (E.there z) xk κ ?_;have W:=E.sets [Z t,Z K,Z f,Z i] z;have Q:=D.j.E (MU (QF w6 (r.heap.size+1) 0 [Z t,Z K,Z f,Z i]) d (λg e=>by cases e;omega));generalize w6.setCells _ _ _=w7 at W Q⊢;clear t0 k0 lT lK;go_wp2;go_roundw
    case rel=>exact⟨k+1,(t,K,f,i),d,ν,L.j,Q,W⟩
    case measure=>simp[intOf];omega
   have L:=LE (O.j (b0,v,y,B) (by rw[P.j];cases G with
    | false=>rfl
    | true=>simp[WA,show ¬b0<t fromλe=>C ⟨z,e⟩]))
   clear O P
   cases G with
   | false =>
    go_wp2;go_roundw
    case rel=>exact⟨k+1,(b0,v,y,B),d,ν,L.j,D.j,E⟩
    case measure=>simp[intOf];omega
   | true =>
    have O:¬b0<t:=λe=>C ⟨z,e⟩
    go_wp2;go_roundw
    case rel=>exact⟨k+1,(b0,v,y,B),d,ν,L.j,D.j,E⟩
    case measure=>simp[intOf];omega
  have C:k=2:=d
  subst C;have i:=(I.j.2.2 z).symm;subst i;have K:=bH.j.y 0;have E:w.heap.size+1<wr.heap.size:=by have:=s.size;omega
  have f:Row wr (w.heap.size+1) [Z 0,Z 0,Z 0,Z 0]:=VM bH.j (s.block _ d) E;have W:=f.sets [Z b0,Z v,Z y,Z B] z;have t:=HE.j.E (s.J (by have:=HE.j.size;omega));have Q:=t.E (MU (QF wr (w.heap.size+1) 0 [Z b0,Z v,Z y,Z B]) t.size (λg e=>by cases e;omega));clear K s t I HF;go_upto_region 11 with fail;refine AX ?_;refine BE z 39 _ z (r.heap.size+1) 0 z _ _ H.range underlying39 z xk ?_;simp only[PS];refine BV z 39 _ _ z (w.heap.size+1) 0 #[Z b0,Z v,Z y,Z B] z z (f.there z) xk κ ?_;go_wp2;exact XM 4 39 results160 _ z [Z b0,Z v,Z y,Z B] _ W underlying39 z xk z ⟨z,Q⟩
