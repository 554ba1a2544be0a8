import Derived.Test.YtkdedmclofhndaaGreatDoorPrG35
import Derived.Test.YtkdedmclofhndaaGreatDoorPrG36
set_option maxHeartbeats 40000000
namespace Go.Proofs.YtkdedmclofhndaaGreatDoor
open _root_.ByteArray(empty)
open Tryz
open Go.RowKit
set_option maxRecDepth 4000
set_option linter.all false
set_option maxHeartbeats 4000000
theorem Ku(p:yZ)(h:p.size=5):((p.data.toList.getD 0 0).toNat:Int)=RL p/\MY (LF (p.extract 1 5))=QW p/\0<=RL p/\RL p<=255/\0<=QW p/\QW p<=4294967295:=by
 have g:(LF p).length=5:=by rw[MR,h]
 have f:p.data.toList.length=5:=h;have d:=gj p;have b:=YZ 1 ((LF p).take 1) τ (λy a=>d y (DM a));have c:=YZ 4 (((LF p).drop 1).take 4) τ (λy a=>d y (EY (DM a)));refine⟨?_,?_,b.1,by have:=b.2;unfold RL;omega,c.1,by have:=c.2;unfold QW;omega⟩
 ·unfold RL LF
  rw[<-GS];have e:=FR (l:=p.data.toList) (i:=0) ω;rw[FH]at e;rw[e];simp only[KD,FV,FU,JN,pD];rfl
 unfold QW
 rw[jf,AR ω];rw[AR (l:=(LF p).drop 1) τ]
theorem wY(s:yZ)(a n:Int)(w:xV)(k l m:Int)(p:yZ)(b:Bool)(i:∀d,Calls prog 86 #[yQ s,Z n] d λe c=>e=yT (.tuple #[ND k l m p,yR b])/\yX d c)(x:p.size<=64)(g:b=false\/p.size≠5)(j:Hid (NT s a n=none)):Calls prog 178 #[yQ s,Z a,Z n] w λe c=>(∃t h f l b,e=yT (.tuple #[NI t h f l,yR b])/\NT s a n=if b=true then some (t,h,f,l) else none)/\yX w c:=by
 have q:∀o,yX w (w.alloc o):=λo=>(AB _ _).alloc (AA _) _
 cases b
 focus
  focus
  rotate_left
 rotate_left
 focus
  focus
   have c:((p.size:Int) != 5)=true:=by
    have h:=g.resolve_left σ;simp;omega
  rotate_left
 rotate_left
 all_goals
  clear g;go_enter func178,ntmps178;go_wp2_with (go_at_call 86;refine(i _).J ?_;rintro e C ⟨rfl,d⟩;have c:=LQ ((B4.new w (Z 0) (Z 0) (Z 0) (Z 0) _).I d);have f:=LQ ((q _).E (d.J σ));clear d;have r:=λo=>(c.j.alloc o).c0;have t:=λo=>(c.j.alloc o).c1;have u:=λo=>(c.j.alloc o).c2;have v:=λo=>(c.j.alloc o).c3;have y:=λo=>(c.j.alloc o).f0;have z:=λo=>(c.j.alloc o).f1;have A:=λo=>(c.j.alloc o).f2;have B:=λo=>(c.j.alloc o).f3);refine AE (v:=.tuple #[NI 0 0 0 0,yR false]) (by simp[results,results178,go_sem,r,t,u,v]) rfl ⟨⟨0,0,0,0,false,rfl,by rw[j.j];rfl⟩,?_⟩;exact((((f.j.alloc f.j.size _).setCell (AA _) _).setCell (AA _) _).setCell (AA _) _).setCell (AA _) _
theorem Fq(s:yZ)(a n:Int)(w:xV)(k l m:Int)(p:yZ)(hR:NB s n=some (k,l,m,p))(HS:∀wx,Calls prog 86 #[yQ s,Z n] wx λe d=>e=yT (.tuple #[ND k l m p,yR true])/\yX wx d)(h5:p.size=5):Calls prog 178 #[yQ s,Z a,Z n] w λe d=>(∃t h f l b,e=yT (.tuple #[NI t h f l,yR b])/\NT s a n=if b=true then some (t,h,f,l) else none)/\yX w d:=by
 have bH:∀o,yX w (w.alloc o):=λo=>(AB _ _).alloc (AA _) _
 obtain⟨_,_,bT,bU,bQ,bR,bV⟩:=UJ hR
 have L:Hid (NT s a n=if OS m (RL p) (QW p) l n=s/\m % 2=a then some (m,RL p,QW p,l) else none):=by
  show _=_;unfold NT;rw[hR];simp[h5]
 clear hR;obtain⟨e0,e1,g0,g1,g2,g3⟩:=Ku p h5;have gb:=qr p 0 ω;obtain⟨H,hH⟩:∃H:Nat,H=(p.data.toList.getD 0 0).toNat:=⟨_,rfl⟩;rw[<-hH]at e0 gb;rw[<-e0]at g0 g1;obtain⟨F,HF⟩:∃F,Hid (F=QW p):=⟨_,LQ rfl⟩;rw[<-HF.j]at g2 g3 L e1;rw[<-e0]at L;have bJ:(p.size:Int)=5:=ω
 have z1:(p.extract 1 5).size<=4:=by simp only[AQ];omega
 have bP:IntKind.i64.wrap (H:Int)=(H:Int):=by simp[IntKind.wrap,IntKind.bits,IntKind.signed];omega
 have h0:0<p.size:=ω
 obtain⟨W,bB⟩:∃W,Hid (W=OS m (H:Int) F l n):=⟨_,LQ rfl⟩;rw[<-bB.j]at L
 have M:=λwx=>uG m (H:Int) F l n wx
 rw[<-bB.j]at M;have E1:=LQ e1;clear hH e1 e0 HF;go_enter func178,ntmps178;go_wp2_with (go_at_call 86;refine(HS _).J ?_;rintro e g ⟨rfl,aW⟩;have u:=LQ ((B4.new w (Z 0) (Z 0) (Z 0) (Z 0) _).I aW);have I:=LQ ((bH _).E (aW.J σ));clear aW;have z:=λo=>(u.j.alloc o).c0;have A:=λo=>(u.j.alloc o).c1;have B:=λo=>(u.j.alloc o).c2;have C:=λo=>(u.j.alloc o).c3;have N:=λo=>(u.j.alloc o).f0;have O:=λo=>(u.j.alloc o).f1;have P:=λo=>(u.j.alloc o).f2;have Q:=λo=>(u.j.alloc o).f3);have U:=(B4.new g (Z k) (Z l) (Z m) (yQ p) 127);have aY:=u.j.alloc (.cells #[Z k,Z l,Z m,yQ p] 127);have aX:=I.j.alloc I.j.size (.cells #[Z k,Z l,Z m,yQ p] 127);have aR:w.heap.size<g.heap.size:=u.j.lt;obtain⟨v,aV⟩:∃v,v=g.alloc (.cells #[Z k,Z l,Z m,yQ p] 127):=⟨_,rfl⟩
 have bF:v.heap.size=g.heap.size+1:=by rw[aV];simp
 rw[<-aV]at U aY aX⊢;clear z A B C N O P Q aV u I
 have D:Hid (∀d,yX v d->d.cell? (yA g.heap.size 1)=some (Z l)/\d.cell? (yA g.heap.size 2)=some (Z m)/\d.cell? (yA g.heap.size 3)=some (yQ p)/\yX v d):=λd x=>⟨(U.I x).c1,(U.I x).c2,(U.I x).c3,x⟩
 have bC:=LQ aY;have I:=LQ aX;clear aY aX U;refine(λHG:Wr ?G=>?main) ⟨?pf⟩
 case main =>
  go_region_held3 (λd=>d.cell? (yA g.heap.size 1)=some (Z l)/\d.cell? (yA g.heap.size 2)=some (Z m)/\d.cell? (yA g.heap.size 3)=some (yQ p)/\yX v d)
   (first|assumption|exact D.j _ ((AB _ _).drew)|exact D.j _ (((AB _ _).drew).alloc (AA _) _)|exact D.j _ (((AB _ _).alloc (AA _) _).drew)|exact D.j _ ((AB _ _).alloc (AA _) _))
   (first|(go_at_call 132;refine(su (p.extract 1 5) F _ z1 E1.j.symm).J ?_;rintro e w6 ⟨rfl,rfl⟩))
  all_goals exact HG.j
 have r:=(B4.new v (Z m) (Z (H:Int)) (Z F) (Z l) 34).drew;have aT:yX v (v.alloc (.cells #[Z m,Z (H:Int),Z F,Z l] 34)).drew:=((AB _ _).alloc (AA _) _).drew;have aZ:(v.alloc (.cells #[Z m,Z (H:Int),Z F,Z l] 34)).drew.heap.size=g.heap.size+2:=by simp[bF]
 obtain⟨wq,bE⟩:∃wq,wq=(v.alloc (.cells #[Z m,Z (H:Int),Z F,Z l] 34)).drew:=⟨_,rfl⟩;rw[bF]at r;rw[<-bE]at r aT aZ⊢;clear bE D;have X:=LQ (bC.j.I aT);have J:=LQ (I.j.E (aT.J (by have:=I.j.size;omega)));clear aT bC I
 have D:Hid (∀d,yX wq d->d.cell? (yA (g.heap.size+1) 0)=some (Z m)/\d.cell? (yA (g.heap.size+1) 1)=some (Z (H:Int))/\d.cell? (yA (g.heap.size+1) 2)=some (Z F)/\d.cell? (yA (g.heap.size+1) 3)=some (Z l)/\yX wq d):=λd x=>⟨(r.I x).c0,(r.I x).c1,(r.I x).c2,(r.I x).c3,x⟩
 have bG:=LQ r;have q0:=r.c0;have q1:=r.c1;have q2:=r.c2;have q3:=r.c3;clear r;have Y:¬(w.heap.size=g.heap.size+1):=by have:=aR;omega
 have bI:¬(g.heap.size+1=w.heap.size):=by have:=aR;omega
 have y:=X.j;have z:=y.c0;have A:=y.c1;have B:=y.c2;have C:=y.c3;have N:=y.f0;have O:=y.f1;have P:=y.f2;have Q:=y.f3;clear y
 by_cases E:W=s
 ·by_cases ha:m % 2=a
  ·have ht:m.tmod 2=a:=by rw[GF ω];exact ha
   have R:Hid (NT s a n=some (m,(H:Int),F,l)):=by show _=_;rw[L.j,AI ⟨E,ha⟩]
   have aU:=LQ E;clear E;rw[aU.j]at M;go_wp2_with fail
   go_region_law (first|(refine LI ρ 183 #[NI m (H:Int) F l,Z n] γ (M _) ?_;rintro e w7 ⟨rfl,q⟩;refine⟨_,rfl,?_⟩;obtain⟨r0,r1,r2,r3,_⟩:=D.j _ (((AB _ _).drew).E q);have c:=X.j.drew.I q;have S:=LQ (J.j.drew.E (q.J J.j.drew.size));clear q;have z:=c.c0;have A:=c.c1;have B:=c.c2;have C:=c.c3;have N:=c.f0;have O:=c.f1;have P:=c.f2;have Q:=c.f3;clear c))
   all_goals go_wp2
   all_goals refine AE (v:=.tuple #[NI m (H:Int) F l,yR true]) (by simp[results,results178,go_sem,z,A,B,C,r0,r1,r2,r3,ht]) rfl ⟨⟨m,(H:Int),F,l,true,rfl,by rw[R.j];rfl⟩,?_⟩
   all_goals exact(((S.j.setCell (AA _) _).setCell (AA _) _).setCell (AA _) _).setCell (AA _) _
  have ht:¬m.tmod 2=a:=by rw[GF ω];exact ha
  have R:Hid (NT s a n=none):=by show _=_;rw[L.j,AF (λh=>ha h.2)]
  have aU:=LQ E;clear E;rw[aU.j]at M;go_wp2_with fail
  go_region_law (first|(refine LI ρ 183 #[NI m (H:Int) F l,Z n] γ (M _) ?_;rintro e w7 ⟨rfl,q⟩;refine⟨_,rfl,?_⟩;obtain⟨r0,r1,r2,r3,_⟩:=D.j _ (((AB _ _).drew).E q);have c:=X.j.drew.I q;have S:=LQ (J.j.drew.E (q.J J.j.drew.size));clear q;have z:=c.c0;have A:=c.c1;have B:=c.c2;have C:=c.c3;have N:=c.f0;have O:=c.f1;have P:=c.f2;have Q:=c.f3;clear c))
  all_goals go_wp2
  all_goals refine AE (v:=.tuple #[NI m (H:Int) F l,yR false]) (by simp[results,results178,go_sem,z,A,B,C,r0,r1,r2,r3,ht]) rfl ⟨⟨m,(H:Int),F,l,false,rfl,by rw[R.j];rfl⟩,?_⟩
  all_goals exact(((S.j.setCell (AA _) _).setCell (AA _) _).setCell (AA _) _).setCell (AA _) _
 have R:Hid (NT s a n=none):=by show _=_;rw[L.j,AF (λh=>E h.1)]
 have hG:(W.toList == s.toList)=false:=by simp only[BI];intro hh;rw[CZ,CZ]at hh;exact E (EQ (IE hh))
 clear E;clear z A B C N O P Q;go_wp2_with fail;refine AN (S:=λd=>d.cell? (yA (g.heap.size+1) 0)=some (Z m)/\d.cell? (yA (g.heap.size+1) 1)=some (Z (H:Int))/\d.cell? (yA (g.heap.size+1) 2)=some (Z F)/\d.cell? (yA (g.heap.size+1) 3)=some (Z l)) κ ⟨q0,q1,q2,q3⟩ (λj=>?_);refine TY 0 (NI m (H:Int) F l) rfl j ?_;simp only[Act.put,CJ,DO,DL];refine TY 1 (NI m (H:Int) F l) rfl j ?_;simp only[Act.put,CJ,DO,DL];refine TY 2 (Z n) rfl j ?_;simp only[Act.put,CJ,DO,DL];refine TY 4 (yQ s) rfl j ?_;simp only[Act.put,CJ,DO,DL];refine RD 3 rfl (λK V=>?_);refine LI ρ 183 #[NI m (H:Int) F l,Z n] γ (M _) ?_
 rintro e w7 ⟨rfl,q⟩;refine⟨_,rfl,?_⟩;have c:=X.j.drew.I q;have G:=bG.j.drew.I q;have S:=LQ (J.j.drew.E (q.J J.j.drew.size));clear q;refine V.j _ _ ⟨G.c0,G.c1,G.c2,G.c3⟩ (λ_=>?_);clear V K j;rename_i j;simp only[Act.put,CJ,DO,DL];refine TY 5 (yR false) rfl j ?_;simp only[Act.put,CJ,DO,DL];refine TY 6 (yR false) rfl j ?_;simp only[Act.put,CJ,DO,DL];refine TK 7 (undef) rfl (IS ⟨κ,rfl⟩) j ?_;simp only[Act.put,CJ,DO,DL];refine TK 8 (undef) rfl (IS ⟨κ,rfl⟩) j ?_;simp only[Act.put,CJ,DO,DL];refine TK 9 (undef) rfl (IS ⟨κ,rfl⟩) j ?_
 simp only[Act.put,CJ,DO,DL];refine TK 10 (undef) rfl (IS ⟨κ,rfl⟩) j ?_;simp only[Act.put,CJ,DO,DL];refine TK 11 (undef) rfl (IS ⟨κ,rfl⟩) j ?_;simp only[Act.put,CJ,DO,DL];refine TY 12 (yR false) rfl j ?_;simp only[Act.put,CJ,DO,DL];refine RD 13 rfl (λK V=>?_);rw[AI κ];have z:=c.c0;have A:=c.c1;have B:=c.c2;have C:=c.c3;have N:=c.f0;have O:=c.f1;have P:=c.f2;have Q:=c.f3;unfold Oper.wp;go_simp
 have T:∀i,((((w7.setCell (yA w.heap.size 0) (Z m)).setCell (yA w.heap.size 1) (Z (H:Int))).setCell (yA w.heap.size 2) (Z F)).setCell (yA w.heap.size 3) (Z l)).cell? (yA (g.heap.size+1) i)=w7.cell? (yA (g.heap.size+1) i):=λi=>by
  rw[DR _ _ _ _ Y,DR _ _ _ _ Y,DR _ _ _ _ Y,DR _ _ _ _ Y]
 refine V.j _ _ ⟨(T _).E G.c0,(T _).E G.c1,(T _).E G.c2,(T _).E G.c3⟩ (λ_=>?_);clear V K j T;rename_i j;refine TY 14 (yR false) rfl j ?_;simp only[Act.put,List.getElem_toArray,List.getElem_cons_succ,List.getElem_cons_zero,CJ,DO,DL];refine DN ?_;go_wp2;refine AE (v:=.tuple #[NI m (H:Int) F l,yR false]) (by simp[results,results178,go_sem,z,A,B,C]) rfl ⟨⟨m,(H:Int),F,l,false,rfl,by rw[R.j];rfl⟩,?_⟩;exact(((S.j.setCell (AA _) _).setCell (AA _) _).setCell (AA _) _).setCell (AA _) _
theorem Nz(s:yZ)(a n:Int)(w:xV)(d:s.size<=1048576):Calls prog 178 #[yQ s,Z a,Z n] w λe c=>(∃t h f l b,e=yT (.tuple #[NI t h f l,yR b])/\NT s a n=if b=true then some (t,h,f,l) else none)/\yX w c:=by
 have b:=λc=>ux s n c d
 cases hR:NB s n with
 | none =>
  rw[hR]at b;exact wY s a n w 0 0 0 ⟨#[]⟩ false b δ (.inl rfl) (by show _=_;unfold NT;rw[hR])
 | some x =>
  obtain⟨k,l,m,p⟩:=x;rw[hR]at b
  by_cases c:p.size=5
  ·exact Fq s a n w k l m p hR b c
  exact wY s a n w k l m p true b (UJ hR).2.2.2.2.2.2 (.inr c) (by show _=_;unfold NT;rw[hR];simp[c])
theorem B4.set4{w:xV}{B:Nat}{a b c d:qD}(h:B4 w B a b c d)(u0 u1 u2 u3:qD):B4 ((((w.setCell (yA B 0) u0).setCell (yA B 1) u1).setCell (yA B 2) u2).setCell (yA B 3) u3) B u0 u1 u2 u3:=by
 have e:=h.c0;have f:=h.c1;have g:=h.c2;have i:=h.c3;refine⟨by simp only[BL];exact h.lt,?_,?_,?_,?_,?_,?_,?_,?_⟩
 ·go_simp
 ·go_simp
 ·go_simp
 ·go_simp
 ·simp only[BY];exact h.f0
 ·simp only[BY];exact h.f1
 ·simp only[BY];exact h.f2
 simp only[BY];exact h.f3
def MQ(a:List yZ)(b:List (Int×yZ))(n:Int):RtT:=if LO a b=true/\1<=n/\n<=8 then ik ((Oz b a).getD 0 empty) ((Oz b a).getD 1 empty) n else MT
@[reducible] def xa(x:RtT):qD:=NI x.1 x.2.1 x.2.2.1 x.2.2.2
theorem uh:∀(c:List (Int×yZ)) (a:List yZ),(∀s∈a,s.size<=1048576)->(∀x∈c,x.2.size<=1048576)->∀k,((Oz c a).getD k empty).size<=1048576
 | [],a,h,_,k=>by
  show(a.getD k empty).size<=_
  by_cases b:k<a.length
  ·have e:a.getD k empty=a[k]:=by simp[List.getD,b]
   rw[e];exact h _ (GA b)
  have e:a.getD k empty=empty:=by simp[List.getD,b]
  rw[e];decide
 | x::r,a,h,h',k=>uh r _ (λs d=>by
   rcases EZ d with b|b
   ·exact h s b
   ·rw[b];exact h' x (EM ..)) (λy e=>h' y (DJ _ e)) k
theorem Jp(a:xA)(d:List yZ)(c:Nat)(r:xA)(m:List (Int×yZ))(B:Nat)(n:Int)(w:xV)(h:Strs w a d)(h':Wrs w r m)(E:d.length<=1048576)(cX:m.length<=1048576)(hs:∀s∈d,s.size<=1048576)(cE:∀x∈m,x.2.size<=1048576)(N:LO d m=true)(hn:1<=n/\n<=8):Calls prog 123 #[LM a d.length c r m.length B,Z n] w λe b=>e=yT (xa (MQ d m n))/\yX w b:=by
 have M:∀b f,yX w ((w.alloc b).alloc f):=λb f=>((AB _ _).alloc (AA _) _).alloc σ _
 have hd:decide (1<=n/\n<=8)=true:=AM hn;obtain⟨A,P⟩:∃A,Hid (A=MQ d m n):=⟨_,Y rfl⟩;rw[<-P.j];obtain⟨⟨dM,U,V⟩,dH,hw⟩:=OV N;go_enter func123,ntmps123;go_wp2_with fail;refine(WH a d c r m B _ (h.I (M _ _)) (h'.I (M _ _)) E cX hs cE).J ?_;rw[N];rintro e w1 ⟨rfl,b⟩;have o:=Y ((((Cx.new w (yI a d.length c) (yI r m.length B) 32)).I (Oq _ (.cells #[Z 0,Z 0,Z 0,Z 0] 34))).I b);have t:=Y ((B4.new (w.alloc (.cells #[yI a d.length c,yI r m.length B] 32)) (Z 0) (Z 0) (Z 0) (Z 0) 34).I b);have i:=Y ((M (.cells #[yI a d.length c,yI r m.length B] 32) (.cells #[Z 0,Z 0,Z 0,Z 0] 34)).E (b.J ξ));clear b;have z:=o.j.c0;have C:=o.j.c1
 go_wp2_with (first|(go_at_call 24;refine(QH _ _).J ?_;rw[hd];rintro e f ⟨rfl,b⟩;rw[b];clear b f))
 refine(So a d c r m B _ (h.I i.j) (h'.I i.j) U V).J ?_;rintro e w2 ⟨g,p,g',cN,rfl,k,q,u,j⟩;have s:=Y (Below.then i.j (AA _) j);have y:=Y (t.j.I j);have bH:=j.size;have H:d.length≠0:=ω
 have R:w1.heap.size<=g:=q g (by unfold blk;rw[AF H];rfl)
 have l:Row w2 g (d.map Value.string):=by
  rcases k.s with e|⟨b,e,f⟩
  ·exact absurd (BC List.length e) (by rw[BO,AT];omega)
  cases e;exact f
 have b:MH m≠[]->g'≠g:=λf=>by
  have E:m.length≠0:=λe=>f (by rw[AD e];rfl)
  rcases k.ne with e|e|e
  ·unfold blk at e;rw[AF H]at e;exact absurd e σ
  ·unfold blk at e;rw[AF E]at e;exact absurd e σ
  unfold blk at e;rw[AF H,AF E]at e;exactλf=>e (by rw[f])
 have v:=Y (Tp g g' d p m cN w2 l k.p b U V (λx f=>by have:=AW (hw x f);omega));have dB:w.heap.size<=g:=AJ i.j.size R;have aY:=t.j.lt;clear z C k q u j l b;go_wp2_with fail;refine v.j.J ?_;rintro e j ⟨x,rfl,dP,dQ,u,b⟩;have f:=Y (s.j.E (MF b s.j.size (λk q=>by cases q;exact dB)));have l:=Y (y.j.past (N:=w1.heap.size) aY (MF b bH (λk q=>by cases q;exact R)));have bC:g<j.heap.size:=u.lt;have aX:=l.j.lt;rw[BE]at l aX;have dF:w.heap.size<=j.heap.size:=f.j.size;obtain⟨S,G⟩:∃S:Nat->yZ,Hid (S=λk=>(Oz m d).getD k empty):=⟨_,Y rfl⟩
 have cL:Hid (∀k,(S k).size<=1048576):=λk=>by
  rw[G.j];exact uh m d hs cE k
 have z:Hid (∀k,k<d.length->j.cell? (yA g k)=some (yQ (S k))):=λk q=>by
  rw[G.j];exact u.cell k _ (by simp[List.getD,Pa,q])
 have HF:Hid (A=TL (TL (0,0,1,0) (NT (S 0) 0 n)) (NT (S 1) 1 n)):=by
  show _=_;rw[P.j,G.j];unfold MQ;rw[AI ⟨N,hn⟩];rfl
 clear v y t s i u b o;go_wp2_with fail;have i:=((B4.new (j.alloc (.cells #[yI (zY g 0) d.length p,yI (zY x 0) 0 0] 32)) (Z 0) (Z 0) (Z 1) (Z 0) 34));have b:yX j ((j.alloc (.cells #[yI (zY g 0) d.length p,yI (zY x 0) 0 0] 32)).alloc (.cells #[Z 0,Z 0,Z 1,Z 0] 34)):=((AB _ _).alloc (AA _) _).alloc σ _;have o:((j.alloc (.cells #[yI (zY g 0) d.length p,yI (zY x 0) 0 0] 32)).alloc (.cells #[Z 0,Z 0,Z 1,Z 0] 34)).cell? (yA j.heap.size 0)=some (yI (zY g 0) d.length p):=γ
 have cZ:((j.alloc (.cells #[yI (zY g 0) d.length p,yI (zY x 0) 0 0] 32)).alloc (.cells #[Z 0,Z 0,Z 1,Z 0] 34)).heap.size=j.heap.size+2:=σ
 obtain⟨F,s⟩:∃F,F=((j.alloc (.cells #[yI (zY g 0) d.length p,yI (zY x 0) 0 0] 32)).alloc (.cells #[Z 0,Z 0,Z 1,Z 0] 34)):=⟨_,rfl⟩;rw[BE]at i;rw[<-s]at i b o cZ⊢;have cM:=Y o;have cI:=Y i
 have aW:Hid (∀k,k<d.length->F.cell? (yA g k)=some (yQ (S k))):=λk q=>(b.cell (p:=(yA g k)) bC).E (z.j k q)
 have cJ:=Y (l.j.I b);have cH:=Y (f.j.E (b.J f.j.size));clear s i o b z l f;go_loopw [7] (λi wr=>∃(k:Nat) (b:RtT),k<=2/\i=Z (k:Int)/\Hid ((k=0->b=(0,0,1,0))/\(k=1->b=TL (0,0,1,0) (NT (S 0) 0 n))/\(k=2->b=A))/\Below (j.heap.size+1) F wr/\B4 wr (j.heap.size+1) (Z b.1) (Z b.2.1) (Z b.2.2.1) (Z b.2.2.2)) (λi _=>2-(intOf i).toNat)
 case atStart=>exact⟨0,(0,0,1,0),ω,rfl,⟨λ_=>rfl,λh=>absurd h δ,λh=>absurd h δ⟩,AB _ _,cI.j⟩
 case round =>
  obtain⟨k,⟨b0,u,v,y⟩,q,rfl,J,z,s⟩:=hrel;have D:=Y z;have O:=Y s
  by_cases dL:k<2
  ·have cV:k<d.length:=ω
   have cW:(k:Int)<(d.length:Int):=ω
   have cY:(k:Int)<2:=ω
   have I:wr.cell? (yA j.heap.size 0)=some (yI (zY g 0) d.length p):=(z.cell (p:=(yA j.heap.size 0)) (by show j.heap.size<_;omega)).E cM.j;have T:wr.cell? (yA g k)=some (yQ (S k)):=(z.cell (p:=(yA g k)) (by show g<_;omega)).E (aW.j k cV);clear z s
   have K:Hid (∀f:RtT,f=TL (b0,u,v,y) (NT (S k) (k:Int) n)->(k+1=0->f=(0,0,1,0))/\(k+1=1->f=TL (0,0,1,0) (NT (S 0) 0 n))/\(k+1=2->f=A)):=λf i=>by
    refine⟨λh=>absurd h ω,λh=>?_,λh=>?_⟩
    ·have f:k=0:=ω
     subst f;rw[i,J.j.1 rfl];rfl
    have f:k=1:=ω
    subst f;rw[i,J.j.2.1 rfl,HF.j];rfl
   go_wp2_with fail;refine(Nz (S k) (k:Int) n _ (cL.j k)).J ?_;rintro e w5 ⟨⟨t,h9,f,l,bb,rfl,C⟩,o⟩;have Q:=Y (D.j.E (o.J (by have:=D.j.size;omega)));have i:=Y (O.j.I o);have L:=Y C;clear C o D O I T;have dN:j.heap.size+2<=w5.heap.size:=by have:=Q.j.size;omega
   have W:=λo=>(i.j.alloc o).c0
   have p:=λo=>(i.j.alloc o).c1
   have X:=λo=>(i.j.alloc o).c2
   have c3:=λo=>(i.j.alloc o).c3
   have f0:=λo=>(i.j.alloc o).f0
   have f1:=λo=>(i.j.alloc o).f1
   have f2:=λo=>(i.j.alloc o).f2
   have f3:=λo=>(i.j.alloc o).f3
   have I:=Y (λo=>Q.j.alloc ω o)
   cases bb with
   | false =>
    have o:=K.j (b0,u,v,y) (by rw[L.j];rfl);have C:=Y o;clear o;go_wp2;go_roundw
    case rel=>exact⟨k+1,(b0,u,v,y),ω,ν,C.j,I.j _,i.j.alloc _⟩
    case measure=>simp[intOf];omega
   | true =>
    by_cases T:b0<t
    ·have o:=K.j (t,h9,f,l) (by rw[L.j];simp[TL,T])
     have C:=Y o;clear o;go_wp2;go_roundw
     case rel=>exact⟨k+1,(t,h9,f,l),ω,ν,C.j,((((I.j _).setCell (AA _) _).setCell (AA _) _).setCell (AA _) _).setCell (AA _) _,(i.j.alloc _).set4 _ _ _ _⟩
     case measure=>simp[intOf];omega
    have o:=K.j (b0,u,v,y) (by rw[L.j];simp[TL,T])
    have C:=Y o;clear o;go_wp2;go_roundw
    case rel=>exact⟨k+1,(b0,u,v,y),ω,ν,C.j,I.j _,i.j.alloc _⟩
    case measure=>simp[intOf];omega
  have l:k=2:=ω
  subst l;have i:Hid (A=(b0,u,v,y)):=(J.j.2.2 rfl).symm;have f:=cJ.j.past (N:=j.heap.size+1) ω z;have W:=f.c0;have p:=f.c1;have X:=f.c2;have c3:=f.c3;have f0:=f.f0;have f1:=f.f1;have f2:=f.f2;have f3:=f.f3;have o:=s.c0;have t:=s.c1;have C:=s.c2;have I:=s.c3;clear f z s;go_wp2;refine AE (v:=NI b0 u v y) (by simp[results,results123,go_sem,W,p,X,c3]) rfl ⟨by rw[i.j],?_⟩;have f:=cH.j.E (D.j.J ω);exact(((f.setCell (by show _<=w.heap.size+1;omega) _).setCell (by show _<=w.heap.size+1;omega) _).setCell (by show _<=w.heap.size+1;omega) _).setCell (by show _<=w.heap.size+1;omega) _
theorem Ir(a:xA)(d:List yZ)(c:Nat)(g:xA)(f:List (Int×yZ))(j:Nat)(n:Int)(w:xV)(h:Strs w a d)(t:Wrs w g f)(u:d.length<=1048576)(o:f.length<=1048576)(v:∀s∈d,s.size<=1048576)(p:∀x∈f,x.2.size<=1048576)(l:¬(LO d f=true/\1<=n/\n<=8)):Calls prog 123 #[LM a d.length c g f.length j,Z n] w λe b=>e=yT (NI 0 0 0 0)/\yX w b:=by
 have k:∀b i,yX w ((w.alloc b).alloc i):=λb i=>((AB _ _).alloc (AA _) _).alloc σ _
 cases hok:LO d f
 focus
  clear l;go_enter func123,ntmps123;go_wp2_with fail;refine(WH a d c g f j _ (h.I (k _ _)) (t.I (k _ _)) u o v p).J ?_;rw[hok];rintro e D ⟨rfl,i⟩;have b:=((B4.new (w.alloc (.cells #[yI a d.length c,yI g f.length j] 32)) (Z 0) (Z 0) (Z 0) (Z 0) 34).I i);rw[BE]at b;have m:=Y ((k (.cells #[yI a d.length c,yI g f.length j] 32) (.cells #[Z 0,Z 0,Z 0,Z 0] 34)).E (i.J ξ));clear i;have i:=b.c0;have q:=b.c1;have r:=b.c2;have s:=b.c3;have y:=b.f0;have z:=b.f1;have A:=b.f2;have B:=b.f3;clear b;go_wp2
 rotate_left
 focus
  have C:decide (1<=n/\n<=8)=false:=AH (λx=>l ⟨hok,x⟩);clear l;go_enter func123,ntmps123;go_wp2_with fail;refine(WH a d c g f j _ (h.I (k _ _)) (t.I (k _ _)) u o v p).J ?_;rw[hok];rintro e D ⟨rfl,i⟩;have b:=((B4.new (w.alloc (.cells #[yI a d.length c,yI g f.length j] 32)) (Z 0) (Z 0) (Z 0) (Z 0) 34).I i);rw[BE]at b;have m:=Y ((k (.cells #[yI a d.length c,yI g f.length j] 32) (.cells #[Z 0,Z 0,Z 0,Z 0] 34)).E (i.J ξ));clear i;have i:=b.c0;have q:=b.c1;have r:=b.c2;have s:=b.c3;have y:=b.f0;have z:=b.f1;have A:=b.f2;have B:=b.f3;clear b
  go_wp2_with (first|(go_at_call 24;refine(QH _ _).J ?_;rw[C];rintro e x ⟨rfl,b⟩;rw[b];clear b x))
 rotate_left
 all_goals
  refine AE (v:=NI 0 0 0 0) (by simp[results,results123,go_sem,i,q,r,s]) rfl ⟨rfl,?_⟩;exact(((m.j.setCell (by show _<=w.heap.size+1;omega) _).setCell (by show _<=w.heap.size+1;omega) _).setCell (by show _<=w.heap.size+1;omega) _).setCell (by show _<=w.heap.size+1;omega) _
theorem H7(a:xA)(b:List yZ)(c:Nat)(f:xA)(d:List (Int×yZ))(i:Nat)(n:Int)(w:xV)(h:Strs w a b)(l:Wrs w f d)(m:b.length<=1048576)(j:d.length<=1048576)(o:∀s∈b,s.size<=1048576)(k:∀x∈d,x.2.size<=1048576):Calls prog 123 #[LM a b.length c f d.length i,Z n] w λe g=>e=yT (xa (MQ b d n))/\yX w g:=by
 by_cases g:LO b d=true/\1<=n/\n<=8
 ·exact Jp a b c f d i n w h l m j o k g.1 g.2
 have e:MQ b d n=MT:=by unfold MQ;rw[AF g]
 rw[e];exact Ir a b c f d i n w h l m j o k g
