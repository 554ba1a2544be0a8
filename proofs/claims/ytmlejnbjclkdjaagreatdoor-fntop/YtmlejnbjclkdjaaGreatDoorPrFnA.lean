import Derived.Test.YtmlejnbjclkdjaaGreatDoorPrG36
set_option maxHeartbeats 40000000
namespace Go.Proofs.YtmlejnbjclkdjaaGreatDoor
open _root_.ByteArray(empty)
open Tryz
open Go.RowKit
set_option maxRecDepth 4000
set_option linter.all false
set_option maxHeartbeats 4000000
theorem Ie(p:Y)(h:p.size=5):((p.data.toList.getD 0 0).toNat:Int)=RU p/\NY (LI (p.extract 1 5))=RK p/\0<=RU p/\RU p<=255/\0<=RK p/\RK p<=4294967295:=by
 have g:(LI p).length=5:=by rw[NH,h]
 have f:p.data.toList.length=5:=h;have d:=fv p;have b:=YW 1 ((LI p).take 1) τ (λy a=>d y (DE a));have c:=YW 4 (((LI p).drop 1).take 4) τ (λy a=>d y (FE (DE a)));refine⟨?_,?_,b.1,by have:=b.2;unfold RU;omega,c.1,by have:=c.2;unfold RK;omega⟩
 ·unfold RU LI
  rw[<-IL];have e:=GW (l:=p.data.toList) (i:=0) ω;rw[FD]at e;rw[e];simp only[EW,ES,IK,KS,nM];rfl
 unfold RK
 rw[ja,AQ ω];rw[AQ (l:=(LI p).drop 1) τ]
theorem uR(s:Y)(a n:Int)(w:Nb)(k l m:Int)(p:Y)(b:Bool)(i:∀d,Calls prog 45 #[Mz s,.int .i64 n] d λe c=>e=M3 (.tuple #[OE k l m p,M0 b])/\Below d.heap.size d c)(y:p.size<=64)(g:b=false\/p.size≠5)(j:Hid (MV s a n=none)):Calls prog 213 #[Mz s,.int .i64 a,.int .i64 n] w λe c=>(∃t h f l b,e=M3 (.tuple #[ON t h f l,M0 b])/\MV s a n=if b=true then some (t,h,f,l) else none)/\Below w.heap.size w c:=by
 have q:∀o,Below w.heap.size w (w.alloc o):=λo=>(AB _ _).alloc (AA _) _
 cases b
 focus
  focus
  rotate_left
 rotate_left
 focus
  focus
   have x:((p.size:Int) != 5)=true:=by
    have h:=g.resolve_left σ;simp;omega
  rotate_left
 rotate_left
 all_goals
  clear g;go_enter func213,ntmps213;go_wp2_with (go_at_call 45;refine(i _).z ?_;rintro e D ⟨rfl,d⟩;have c:=MF ((B4.new w (.int .i64 0) (.int .i64 0) (.int .i64 0) (.int .i64 0) _).I d);have f:=MF ((q _).j (d.z σ));clear d;have r:=λo=>(c.l.alloc o).c0;have t:=λo=>(c.l.alloc o).c1;have u:=λo=>(c.l.alloc o).c2;have v:=λo=>(c.l.alloc o).c3;have z:=λo=>(c.l.alloc o).f0;have A:=λo=>(c.l.alloc o).f1;have B:=λo=>(c.l.alloc o).f2;have C:=λo=>(c.l.alloc o).f3);refine AJ (v:=.tuple #[ON 0 0 0 0,M0 false]) (by simp[results,results213,go_sem,r,t,u,v]) rfl ⟨⟨0,0,0,0,false,rfl,by rw[j.l];rfl⟩,?_⟩;exact((((f.l.alloc f.l.size _).setCell (AA _) _).setCell (AA _) _).setCell (AA _) _).setCell (AA _) _
theorem Ck(s:Y)(a n:Int)(w:Nb)(k l m:Int)(p:Y)(hR:MA s n=some (k,l,m,p))(HS:∀X,Calls prog 45 #[Mz s,.int .i64 n] X λe d=>e=M3 (.tuple #[OE k l m p,M0 true])/\Below X.heap.size X d)(h5:p.size=5):Calls prog 213 #[Mz s,.int .i64 a,.int .i64 n] w λe d=>(∃t h f l b,e=M3 (.tuple #[ON t h f l,M0 b])/\MV s a n=if b=true then some (t,h,f,l) else none)/\Below w.heap.size w d:=by
 have bJ:∀o,Below w.heap.size w (w.alloc o):=λo=>(AB _ _).alloc (AA _) _
 obtain⟨_,_,bW,bY,bU,bV,bZ⟩:=SA hR
 have L:Hid (MV s a n=if MZ m (RU p) (RK p) l n=s/\m % 2=a then some (m,RU p,RK p,l) else none):=by
  show _=_;unfold MV;rw[hR];simp[h5]
 clear hR;obtain⟨e0,e1,g0,g1,g2,g3⟩:=Ie p h5;have gb:=ou p 0 ω;obtain⟨H,hH⟩:∃H:Nat,H=(p.data.toList.getD 0 0).toNat:=⟨_,rfl⟩;rw[<-hH]at e0 gb;rw[<-e0]at g0 g1;obtain⟨F,HF⟩:∃F,Hid (F=RK p):=⟨_,MF rfl⟩;rw[<-HF.l]at g2 g3 L e1;rw[<-e0]at L;have bR:(p.size:Int)=5:=ω
 have z1:(p.extract 1 5).size<=4:=by simp only[AO];omega
 have bT:IntKind.i64.wrap (H:Int)=(H:Int):=by simp[IntKind.wrap,IntKind.bits,IntKind.signed];omega
 have h0:0<p.size:=ω
 obtain⟨FM,bC⟩:∃FM,Hid (FM=MZ m (H:Int) F l n):=⟨_,MF rfl⟩;rw[<-bC.l]at L
 have M:=λX=>rU m (H:Int) F l n X
 rw[<-bC.l]at M;have E1:=MF e1;clear hH e1 e0 HF;go_enter func213,ntmps213;go_wp2_with (go_at_call 45;refine(HS _).z ?_;rintro e g ⟨rfl,aW⟩;have v:=MF ((B4.new w (.int .i64 0) (.int .i64 0) (.int .i64 0) (.int .i64 0) _).I aW);have I:=MF ((bJ _).j (aW.z σ));clear aW;have z:=λo=>(v.l.alloc o).c0;have A:=λo=>(v.l.alloc o).c1;have B:=λo=>(v.l.alloc o).c2;have C:=λo=>(v.l.alloc o).c3;have N:=λo=>(v.l.alloc o).f0;have O:=λo=>(v.l.alloc o).f1;have P:=λo=>(v.l.alloc o).f2;have Q:=λo=>(v.l.alloc o).f3);have V:=(B4.new g (.int .i64 k) (.int .i64 l) (.int .i64 m) (Mz p) 51);have aY:=v.l.alloc (.cells #[.int .i64 k,.int .i64 l,.int .i64 m,Mz p] 51);have aX:=I.l.alloc I.l.size (.cells #[.int .i64 k,.int .i64 l,.int .i64 m,Mz p] 51);have aR:w.heap.size<g.heap.size:=v.l.lt;obtain⟨q,aV⟩:∃q,q=g.alloc (.cells #[.int .i64 k,.int .i64 l,.int .i64 m,Mz p] 51):=⟨_,rfl⟩
 have bH:q.heap.size=g.heap.size+1:=by rw[aV];simp
 rw[<-aV]at V aY aX⊢;clear z A B C N O P Q aV v I
 have D:Hid (∀d,Below q.heap.size q d->d.cell? ⟨g.heap.size,1,none⟩=some (.int .i64 l)/\d.cell? ⟨g.heap.size,2,none⟩=some (.int .i64 m)/\d.cell? ⟨g.heap.size,3,none⟩=some (Mz p)/\Below q.heap.size q d):=λd x=>⟨(V.I x).c1,(V.I x).c2,(V.I x).c3,x⟩
 have bE:=MF aY;have I:=MF aX;clear aY aX V;refine(λHG:Wr ?G=>?main) ⟨?pf⟩
 case main =>
  go_region_held3 (λd=>d.cell? ⟨g.heap.size,1,none⟩=some (.int .i64 l)/\d.cell? ⟨g.heap.size,2,none⟩=some (.int .i64 m)/\d.cell? ⟨g.heap.size,3,none⟩=some (Mz p)/\Below q.heap.size q d)
   (first|assumption|exact D.l _ ((AB _ _).drew)|exact D.l _ (((AB _ _).drew).alloc (AA _) _)|exact D.l _ (((AB _ _).alloc (AA _) _).drew)|exact D.l _ ((AB _ _).alloc (AA _) _))
   (first|(go_at_call 83;refine(rm (p.extract 1 5) F _ z1 E1.l.symm).z ?_;rintro e w6 ⟨rfl,rfl⟩))
  all_goals exact HG.l
 have u:=(B4.new q (.int .i64 m) (.int .i64 (H:Int)) (.int .i64 F) (.int .i64 l) 28).drew;have aT:Below q.heap.size q (q.alloc (.cells #[.int .i64 m,.int .i64 (H:Int),.int .i64 F,.int .i64 l] 28)).drew:=((AB _ _).alloc (AA _) _).drew;have aZ:(q.alloc (.cells #[.int .i64 m,.int .i64 (H:Int),.int .i64 F,.int .i64 l] 28)).drew.heap.size=g.heap.size+2:=by simp[bH]
 obtain⟨R,bG⟩:∃R,R=(q.alloc (.cells #[.int .i64 m,.int .i64 (H:Int),.int .i64 F,.int .i64 l] 28)).drew:=⟨_,rfl⟩;rw[bH]at u;rw[<-bG]at u aT aZ⊢;clear bG D;have aH:=MF (bE.l.I aT);have J:=MF (I.l.j (aT.z (by have:=I.l.size;omega)));clear aT bE I
 have D:Hid (∀d,Below R.heap.size R d->d.cell? ⟨g.heap.size+1,0,none⟩=some (.int .i64 m)/\d.cell? ⟨g.heap.size+1,1,none⟩=some (.int .i64 (H:Int))/\d.cell? ⟨g.heap.size+1,2,none⟩=some (.int .i64 F)/\d.cell? ⟨g.heap.size+1,3,none⟩=some (.int .i64 l)/\Below R.heap.size R d):=λd x=>⟨(u.I x).c0,(u.I x).c1,(u.I x).c2,(u.I x).c3,x⟩
 have bI:=MF u;have q0:=u.c0;have q1:=u.c1;have q2:=u.c2;have q3:=u.c3;clear u;have aJ:¬(w.heap.size=g.heap.size+1):=by have:=aR;omega
 have bQ:¬(g.heap.size+1=w.heap.size):=by have:=aR;omega
 have y:=aH.l;have z:=y.c0;have A:=y.c1;have B:=y.c2;have C:=y.c3;have N:=y.f0;have O:=y.f1;have P:=y.f2;have Q:=y.f3;clear y
 by_cases E:FM=s
 ·by_cases ha:m % 2=a
  ·have ht:m.tmod 2=a:=by rw[EK ω];exact ha
   have S:Hid (MV s a n=some (m,(H:Int),F,l)):=by show _=_;rw[L.l,AE ⟨E,ha⟩]
   have aU:=MF E;clear E;rw[aU.l]at M;go_wp2_with fail
   go_region_law (first|(refine LW ρ 216 #[ON m (H:Int) F l,.int .i64 n] γ (M _) ?_;rintro e w7 ⟨rfl,r⟩;refine⟨_,rfl,?_⟩;obtain⟨r0,r1,r2,r3,_⟩:=D.l _ (((AB _ _).drew).j r);have c:=aH.l.drew.I r;have T:=MF (J.l.drew.j (r.z J.l.drew.size));clear r;have z:=c.c0;have A:=c.c1;have B:=c.c2;have C:=c.c3;have N:=c.f0;have O:=c.f1;have P:=c.f2;have Q:=c.f3;clear c))
   all_goals go_wp2
   all_goals refine AJ (v:=.tuple #[ON m (H:Int) F l,M0 true]) (by simp[results,results213,go_sem,z,A,B,C,r0,r1,r2,r3,ht]) rfl ⟨⟨m,(H:Int),F,l,true,rfl,by rw[S.l];rfl⟩,?_⟩
   all_goals exact(((T.l.setCell (AA _) _).setCell (AA _) _).setCell (AA _) _).setCell (AA _) _
  have ht:¬m.tmod 2=a:=by rw[EK ω];exact ha
  have S:Hid (MV s a n=none):=by show _=_;rw[L.l,AG (λh=>ha h.2)]
  have aU:=MF E;clear E;rw[aU.l]at M;go_wp2_with fail
  go_region_law (first|(refine LW ρ 216 #[ON m (H:Int) F l,.int .i64 n] γ (M _) ?_;rintro e w7 ⟨rfl,r⟩;refine⟨_,rfl,?_⟩;obtain⟨r0,r1,r2,r3,_⟩:=D.l _ (((AB _ _).drew).j r);have c:=aH.l.drew.I r;have T:=MF (J.l.drew.j (r.z J.l.drew.size));clear r;have z:=c.c0;have A:=c.c1;have B:=c.c2;have C:=c.c3;have N:=c.f0;have O:=c.f1;have P:=c.f2;have Q:=c.f3;clear c))
  all_goals go_wp2
  all_goals refine AJ (v:=.tuple #[ON m (H:Int) F l,M0 false]) (by simp[results,results213,go_sem,z,A,B,C,r0,r1,r2,r3,ht]) rfl ⟨⟨m,(H:Int),F,l,false,rfl,by rw[S.l];rfl⟩,?_⟩
  all_goals exact(((T.l.setCell (AA _) _).setCell (AA _) _).setCell (AA _) _).setCell (AA _) _
 have S:Hid (MV s a n=none):=by show _=_;rw[L.l,AG (λh=>E h.1)]
 have hG:(FM.toList == s.toList)=false:=by simp only[EO];intro hh;rw[DF,DF]at hh;exact E (EP (JB hh))
 clear E;clear z A B C N O P Q;go_wp2_with fail;refine AN (S:=λd=>d.cell? ⟨g.heap.size+1,0,none⟩=some (.int .i64 m)/\d.cell? ⟨g.heap.size+1,1,none⟩=some (.int .i64 (H:Int))/\d.cell? ⟨g.heap.size+1,2,none⟩=some (.int .i64 F)/\d.cell? ⟨g.heap.size+1,3,none⟩=some (.int .i64 l)) κ ⟨q0,q1,q2,q3⟩ (λj=>?_);refine TY 0 (ON m (H:Int) F l) rfl j ?_;simp only[Act.put,BZ,DP,DL];refine TY 1 (ON m (H:Int) F l) rfl j ?_;simp only[Act.put,BZ,DP,DL];refine TY 2 (.int .i64 n) rfl j ?_;simp only[Act.put,BZ,DP,DL];refine TY 4 (Mz s) rfl j ?_;simp only[Act.put,BZ,DP,DL];refine RD 3 rfl (λK W=>?_);refine LW ρ 216 #[ON m (H:Int) F l,.int .i64 n] γ (M _) ?_
 rintro e w7 ⟨rfl,r⟩;refine⟨_,rfl,?_⟩;have c:=aH.l.drew.I r;have G:=bI.l.drew.I r;have T:=MF (J.l.drew.j (r.z J.l.drew.size));clear r;refine W.l _ _ ⟨G.c0,G.c1,G.c2,G.c3⟩ (λ_=>?_);clear W K j;rename_i j;simp only[Act.put,BZ,DP,DL];refine TY 5 (M0 false) rfl j ?_;simp only[Act.put,BZ,DP,DL];refine TY 6 (M0 false) rfl j ?_;simp only[Act.put,BZ,DP,DL];refine TK 7 (undef) rfl (GD ⟨κ,rfl⟩) j ?_;simp only[Act.put,BZ,DP,DL];refine TK 8 (undef) rfl (GD ⟨κ,rfl⟩) j ?_;simp only[Act.put,BZ,DP,DL];refine TK 9 (undef) rfl (GD ⟨κ,rfl⟩) j ?_
 simp only[Act.put,BZ,DP,DL];refine TK 10 (undef) rfl (GD ⟨κ,rfl⟩) j ?_;simp only[Act.put,BZ,DP,DL];refine TK 11 (undef) rfl (GD ⟨κ,rfl⟩) j ?_;simp only[Act.put,BZ,DP,DL];refine TY 12 (M0 false) rfl j ?_;simp only[Act.put,BZ,DP,DL];refine RD 13 rfl (λK W=>?_);rw[AE κ];have z:=c.c0;have A:=c.c1;have B:=c.c2;have C:=c.c3;have N:=c.f0;have O:=c.f1;have P:=c.f2;have Q:=c.f3;unfold Oper.wp;go_simp
 have U:∀i,((((w7.setCell ⟨w.heap.size,0,none⟩ (.int .i64 m)).setCell ⟨w.heap.size,1,none⟩ (.int .i64 (H:Int))).setCell ⟨w.heap.size,2,none⟩ (.int .i64 F)).setCell ⟨w.heap.size,3,none⟩ (.int .i64 l)).cell? ⟨g.heap.size+1,i,none⟩=w7.cell? ⟨g.heap.size+1,i,none⟩:=λi=>by
  rw[DC _ _ _ _ aJ,DC _ _ _ _ aJ,DC _ _ _ _ aJ,DC _ _ _ _ aJ]
 refine W.l _ _ ⟨(U _).j G.c0,(U _).j G.c1,(U _).j G.c2,(U _).j G.c3⟩ (λ_=>?_);clear W K j U;rename_i j;refine TY 14 (M0 false) rfl j ?_;simp only[Act.put,List.getElem_toArray,List.getElem_cons_succ,List.getElem_cons_zero,BZ,DP,DL];refine DN ?_;go_wp2;refine AJ (v:=.tuple #[ON m (H:Int) F l,M0 false]) (by simp[results,results213,go_sem,z,A,B,C]) rfl ⟨⟨m,(H:Int),F,l,false,rfl,by rw[S.l];rfl⟩,?_⟩;exact(((T.l.setCell (AA _) _).setCell (AA _) _).setCell (AA _) _).setCell (AA _) _
theorem Lr(s:Y)(a n:Int)(w:Nb)(d:s.size<=1048576):Calls prog 213 #[Mz s,.int .i64 a,.int .i64 n] w λe c=>(∃t h f l b,e=M3 (.tuple #[ON t h f l,M0 b])/\MV s a n=if b=true then some (t,h,f,l) else none)/\Below w.heap.size w c:=by
 have b:=λc=>ma s n c d
 cases hR:MA s n with
 | none =>
  rw[hR]at b;exact uR s a n w 0 0 0 ⟨#[]⟩ false b δ (.inl rfl) (by show _=_;unfold MV;rw[hR])
 | some x =>
  obtain⟨k,l,m,p⟩:=x;rw[hR]at b
  by_cases c:p.size=5
  ·exact Ck s a n w k l m p hR b c
  exact uR s a n w k l m p true b (SA hR).2.2.2.2.2.2 (.inr c) (by show _=_;unfold MV;rw[hR];simp[c])
theorem B4.set4{w:Nb}{B:Nat}{a b c d:Nc}(h:B4 w B a b c d)(u0 u1 u2 u3:Nc):B4 ((((w.setCell ⟨B,0,none⟩ u0).setCell ⟨B,1,none⟩ u1).setCell ⟨B,2,none⟩ u2).setCell ⟨B,3,none⟩ u3) B u0 u1 u2 u3:=by
 have e:=h.c0;have f:=h.c1;have g:=h.c2;have i:=h.c3;refine⟨by simp only[BH];exact h.lt,?_,?_,?_,?_,?_,?_,?_,?_⟩
 ·go_simp
 ·go_simp
 ·go_simp
 ·go_simp
 ·simp only[BS];exact h.f0
 ·simp only[BS];exact h.f1
 ·simp only[BS];exact h.f2
 simp only[BS];exact h.f3
def NJ(a:List Y)(b:List (Int×Y))(n:Int):RtT:=if LE a b=true/\1<=n/\n<=8 then OC ((xhE b a).getD 0 empty) ((xhE b a).getD 1 empty) n else OA
@[reducible] def vg(x:RtT):Nc:=ON x.1 x.2.1 x.2.2.1 x.2.2.2
theorem tj:∀(c:List (Int×Y)) (a:List Y),(∀s∈a,s.size<=1048576)->(∀x∈c,x.2.size<=1048576)->∀k,((xhE c a).getD k empty).size<=1048576
 | [],a,h,_,k=>by
  show(a.getD k empty).size<=_
  by_cases b:k<a.length
  ·have e:a.getD k empty=a[k]:=by simp[List.getD,b]
   rw[e];exact h _ (GL b)
  have e:a.getD k empty=empty:=by simp[List.getD,b]
  rw[e];decide
 | x::r,a,h,h',k=>tj r _ (λs d=>by
   rcases FG d with b|b
   ·exact h s b
   ·rw[b];exact h' x (EE ..)) (λy e=>h' y (DO _ e)) k
theorem Gw(a:M6)(d:List Y)(c:Nat)(r:M6)(m:List (Int×Y))(B:Nat)(n:Int)(w:Nb)(h:Strs w a d)(h':Wrs w r m)(E:d.length<=1048576)(cZ:m.length<=1048576)(hs:∀s∈d,s.size<=1048576)(cF:∀x∈m,x.2.size<=1048576)(N:LE d m=true)(hn:1<=n/\n<=8):Calls prog 181 #[LF a d.length c r m.length B,.int .i64 n] w λe b=>e=M3 (vg (NJ d m n))/\Below w.heap.size w b:=by
 have M:∀b f,Below w.heap.size w ((w.alloc b).alloc f):=λb f=>((AB _ _).alloc (AA _) _).alloc σ _
 have hd:decide (1<=n/\n<=8)=true:=AL hn;obtain⟨A,P⟩:∃A,Hid (A=NJ d m n):=⟨_,Z rfl⟩;rw[<-P.l];obtain⟨⟨dR,Q,cA⟩,dP,hw⟩:=LK N;go_enter func181,ntmps181;go_wp2_with fail;refine(NG a d c r m B _ (h.I (M _ _)) (h'.I (M _ _)) E cZ hs cF).z ?_;rw[N];rintro e w1 ⟨rfl,b⟩;have o:=Z ((((Cx.new w (.slice a d.length c) (.slice r m.length B) 26)).I (LD _ (.cells #[.int .i64 0,.int .i64 0,.int .i64 0,.int .i64 0] 28))).I b);have t:=Z ((B4.new (w.alloc (.cells #[.slice a d.length c,.slice r m.length B] 26)) (.int .i64 0) (.int .i64 0) (.int .i64 0) (.int .i64 0) 28).I b);have i:=Z ((M (.cells #[.slice a d.length c,.slice r m.length B] 26) (.cells #[.int .i64 0,.int .i64 0,.int .i64 0,.int .i64 0] 28)).j (b.z ξ));clear b;have z:=o.l.c0;have C:=o.l.c1
 go_wp2_with (first|(go_at_call 21;refine(RO _ _).z ?_;rw[hd];rintro e f ⟨rfl,b⟩;rw[b];clear b f))
 refine(lc a d c r m B _ (h.I i.l) (h'.I i.l) Q cA).z ?_;rintro e w2 ⟨g,p,g',cO,rfl,k,q,u,j⟩;have s:=Z (Below.then i.l (AA _) j);have y:=Z (t.l.I j);have bJ:=j.size;have H:d.length≠0:=ω
 have T:w1.heap.size<=g:=q g (by unfold blk;rw[AG H];rfl)
 have l:Row w2 g (d.map Value.string):=by
  rcases k.s with e|⟨b,e,f⟩
  ·exact absurd (CX List.length e) (by rw[BU,AR];omega)
  cases e;exact f
 have b:NP m≠[]->g'≠g:=λf=>by
  have E:m.length≠0:=λe=>f (by rw[AC e];rfl)
  rcases k.ne with e|e|e
  ·unfold blk at e;rw[AG H]at e;exact absurd e σ
  ·unfold blk at e;rw[AG E]at e;exact absurd e σ
  unfold blk at e;rw[AG H,AG E]at e;exactλf=>e (by rw[f])
 have v:=Z (qx g g' d p m cO w2 l k.p b Q cA (λx f=>by have:=AV (hw x f);omega));have dM:w.heap.size<=g:=AK i.l.size T;have aY:=t.l.lt;clear z C k q u j l b;go_wp2_with fail;refine v.l.z ?_;rintro e j ⟨x,rfl,dV,dZ,u,b⟩;have f:=Z (s.l.j (NR b s.l.size (λk q=>by cases q;exact dM)));have l:=Z (y.l.past (N:=w1.heap.size) aY (NR b bJ (λk q=>by cases q;exact T)));have bE:g<j.heap.size:=u.lt;have aX:=l.l.lt;rw[BD]at l aX;have dN:w.heap.size<=j.heap.size:=f.l.size;obtain⟨S,G⟩:∃S:Nat->Y,Hid (S=λk=>(xhE m d).getD k empty):=⟨_,Z rfl⟩
 have cM:Hid (∀k,(S k).size<=1048576):=λk=>by
  rw[G.l];exact tj m d hs cF k
 have z:Hid (∀k,k<d.length->j.cell? ⟨g,k,none⟩=some (Mz (S k))):=λk q=>by
  rw[G.l];exact u.cell k _ (by simp[List.getD,VT,q])
 have HF:Hid (A=QB (QB (0,0,1,0) (MV (S 0) 0 n)) (MV (S 1) 1 n)):=by
  show _=_;rw[P.l,G.l];unfold NJ;rw[AE ⟨N,hn⟩];rfl
 clear v y t s i u b o;go_wp2_with fail;have i:=((B4.new (j.alloc (.cells #[.slice (Mw g 0) d.length p,.slice (Mw x 0) 0 0] 26)) (.int .i64 0) (.int .i64 0) (.int .i64 1) (.int .i64 0) 28));have b:Below j.heap.size j ((j.alloc (.cells #[.slice (Mw g 0) d.length p,.slice (Mw x 0) 0 0] 26)).alloc (.cells #[.int .i64 0,.int .i64 0,.int .i64 1,.int .i64 0] 28)):=((AB _ _).alloc (AA _) _).alloc σ _;have o:((j.alloc (.cells #[.slice (Mw g 0) d.length p,.slice (Mw x 0) 0 0] 26)).alloc (.cells #[.int .i64 0,.int .i64 0,.int .i64 1,.int .i64 0] 28)).cell? ⟨j.heap.size,0,none⟩=some (.slice (Mw g 0) d.length p):=γ
 have dL:((j.alloc (.cells #[.slice (Mw g 0) d.length p,.slice (Mw x 0) 0 0] 26)).alloc (.cells #[.int .i64 0,.int .i64 0,.int .i64 1,.int .i64 0] 28)).heap.size=j.heap.size+2:=σ
 obtain⟨F,s⟩:∃F,F=((j.alloc (.cells #[.slice (Mw g 0) d.length p,.slice (Mw x 0) 0 0] 26)).alloc (.cells #[.int .i64 0,.int .i64 0,.int .i64 1,.int .i64 0] 28)):=⟨_,rfl⟩;rw[BD]at i;rw[<-s]at i b o dL⊢;have cN:=Z o;have cJ:=Z i
 have aW:Hid (∀k,k<d.length->F.cell? ⟨g,k,none⟩=some (Mz (S k))):=λk q=>(b.cell (p:=⟨g,k,none⟩) bE).j (z.l k q)
 have cL:=Z (l.l.I b);have cI:=Z (f.l.j (b.z f.l.size));clear s i o b z l f;go_loopw [7] (λi wr=>∃(k:Nat) (b:RtT),k<=2/\i=.int .i64 (k:Int)/\Hid ((k=0->b=(0,0,1,0))/\(k=1->b=QB (0,0,1,0) (MV (S 0) 0 n))/\(k=2->b=A))/\Below (j.heap.size+1) F wr/\B4 wr (j.heap.size+1) (.int .i64 b.1) (.int .i64 b.2.1) (.int .i64 b.2.2.1) (.int .i64 b.2.2.2)) (λi _=>2-(intOf i).toNat)
 case atStart=>exact⟨0,(0,0,1,0),ω,rfl,⟨λ_=>rfl,λh=>absurd h δ,λh=>absurd h δ⟩,AB _ _,cJ.l⟩
 case round =>
  obtain⟨k,⟨b0,u,v,y⟩,q,rfl,J,z,s⟩:=hrel;have D:=Z z;have O:=Z s
  by_cases dQ:k<2
  ·have cV:k<d.length:=ω
   have cW:(k:Int)<(d.length:Int):=ω
   have dH:(k:Int)<2:=ω
   have I:wr.cell? ⟨j.heap.size,0,none⟩=some (.slice (Mw g 0) d.length p):=(z.cell (p:=⟨j.heap.size,0,none⟩) (by show j.heap.size<_;omega)).j cN.l;have U:wr.cell? ⟨g,k,none⟩=some (Mz (S k)):=(z.cell (p:=⟨g,k,none⟩) (by show g<_;omega)).j (aW.l k cV);clear z s
   have K:Hid (∀f:RtT,f=QB (b0,u,v,y) (MV (S k) (k:Int) n)->(k+1=0->f=(0,0,1,0))/\(k+1=1->f=QB (0,0,1,0) (MV (S 0) 0 n))/\(k+1=2->f=A)):=λf i=>by
    refine⟨λh=>absurd h ω,λh=>?_,λh=>?_⟩
    ·have f:k=0:=ω
     subst f;rw[i,J.l.1 rfl];rfl
    have f:k=1:=ω
    subst f;rw[i,J.l.2.1 rfl,HF.l];rfl
   go_wp2_with fail;refine(Lr (S k) (k:Int) n _ (cM.l k)).z ?_;rintro e w5 ⟨⟨t,h9,f,l,bb,rfl,C⟩,o⟩;have R:=Z (D.l.j (o.z (by have:=D.l.size;omega)));have i:=Z (O.l.I o);have L:=Z C;clear C o D O I U;have dU:j.heap.size+2<=w5.heap.size:=by have:=R.l.size;omega
   have V:=λo=>(i.l.alloc o).c0
   have p:=λo=>(i.l.alloc o).c1
   have W:=λo=>(i.l.alloc o).c2
   have X:=λo=>(i.l.alloc o).c3
   have f0:=λo=>(i.l.alloc o).f0
   have f1:=λo=>(i.l.alloc o).f1
   have f2:=λo=>(i.l.alloc o).f2
   have f3:=λo=>(i.l.alloc o).f3
   have I:=Z (λo=>R.l.alloc ω o)
   cases bb with
   | false =>
    have o:=K.l (b0,u,v,y) (by rw[L.l];rfl);have C:=Z o;clear o;go_wp2;go_roundw
    case rel=>exact⟨k+1,(b0,u,v,y),ω,ν,C.l,I.l _,i.l.alloc _⟩
    case measure=>simp[intOf];omega
   | true =>
    by_cases U:b0<t
    ·have o:=K.l (t,h9,f,l) (by rw[L.l];simp[QB,U])
     have C:=Z o;clear o;go_wp2;go_roundw
     case rel=>exact⟨k+1,(t,h9,f,l),ω,ν,C.l,((((I.l _).setCell (AA _) _).setCell (AA _) _).setCell (AA _) _).setCell (AA _) _,(i.l.alloc _).set4 _ _ _ _⟩
     case measure=>simp[intOf];omega
    have o:=K.l (b0,u,v,y) (by rw[L.l];simp[QB,U])
    have C:=Z o;clear o;go_wp2;go_roundw
    case rel=>exact⟨k+1,(b0,u,v,y),ω,ν,C.l,I.l _,i.l.alloc _⟩
    case measure=>simp[intOf];omega
  have l:k=2:=ω
  subst l;have i:Hid (A=(b0,u,v,y)):=(J.l.2.2 rfl).symm;have f:=cL.l.past (N:=j.heap.size+1) ω z;have V:=f.c0;have p:=f.c1;have W:=f.c2;have X:=f.c3;have f0:=f.f0;have f1:=f.f1;have f2:=f.f2;have f3:=f.f3;have o:=s.c0;have t:=s.c1;have C:=s.c2;have I:=s.c3;clear f z s;go_wp2;refine AJ (v:=ON b0 u v y) (by simp[results,results181,go_sem,V,p,W,X]) rfl ⟨by rw[i.l],?_⟩;have f:=cI.l.j (D.l.z ω);exact(((f.setCell (by show _<=w.heap.size+1;omega) _).setCell (by show _<=w.heap.size+1;omega) _).setCell (by show _<=w.heap.size+1;omega) _).setCell (by show _<=w.heap.size+1;omega) _
theorem Fr(a:M6)(d:List Y)(c:Nat)(g:M6)(f:List (Int×Y))(j:Nat)(n:Int)(w:Nb)(h:Strs w a d)(u:Wrs w g f)(v:d.length<=1048576)(o:f.length<=1048576)(y:∀s∈d,s.size<=1048576)(p:∀x∈f,x.2.size<=1048576)(l:¬(LE d f=true/\1<=n/\n<=8)):Calls prog 181 #[LF a d.length c g f.length j,.int .i64 n] w λe b=>e=M3 (ON 0 0 0 0)/\Below w.heap.size w b:=by
 have k:∀b i,Below w.heap.size w ((w.alloc b).alloc i):=λb i=>((AB _ _).alloc (AA _) _).alloc σ _
 cases hok:LE d f
 focus
  clear l;go_enter func181,ntmps181;go_wp2_with fail;refine(NG a d c g f j _ (h.I (k _ _)) (u.I (k _ _)) v o y p).z ?_;rw[hok];rintro e E ⟨rfl,i⟩;have b:=((B4.new (w.alloc (.cells #[.slice a d.length c,.slice g f.length j] 26)) (.int .i64 0) (.int .i64 0) (.int .i64 0) (.int .i64 0) 28).I i);rw[BD]at b;have m:=Z ((k (.cells #[.slice a d.length c,.slice g f.length j] 26) (.cells #[.int .i64 0,.int .i64 0,.int .i64 0,.int .i64 0] 28)).j (i.z ξ));clear i;have q:=b.c0;have r:=b.c1;have s:=b.c2;have t:=b.c3;have z:=b.f0;have A:=b.f1;have B:=b.f2;have C:=b.f3;clear b;go_wp2
 rotate_left
 focus
  have D:decide (1<=n/\n<=8)=false:=AI (λx=>l ⟨hok,x⟩);clear l;go_enter func181,ntmps181;go_wp2_with fail;refine(NG a d c g f j _ (h.I (k _ _)) (u.I (k _ _)) v o y p).z ?_;rw[hok];rintro e E ⟨rfl,i⟩;have b:=((B4.new (w.alloc (.cells #[.slice a d.length c,.slice g f.length j] 26)) (.int .i64 0) (.int .i64 0) (.int .i64 0) (.int .i64 0) 28).I i);rw[BD]at b;have m:=Z ((k (.cells #[.slice a d.length c,.slice g f.length j] 26) (.cells #[.int .i64 0,.int .i64 0,.int .i64 0,.int .i64 0] 28)).j (i.z ξ));clear i;have q:=b.c0;have r:=b.c1;have s:=b.c2;have t:=b.c3;have z:=b.f0;have A:=b.f1;have B:=b.f2;have C:=b.f3;clear b
  go_wp2_with (first|(go_at_call 21;refine(RO _ _).z ?_;rw[D];rintro e i ⟨rfl,b⟩;rw[b];clear b i))
 rotate_left
 all_goals
  refine AJ (v:=ON 0 0 0 0) (by simp[results,results181,go_sem,q,r,s,t]) rfl ⟨rfl,?_⟩;exact(((m.l.setCell (by show _<=w.heap.size+1;omega) _).setCell (by show _<=w.heap.size+1;omega) _).setCell (by show _<=w.heap.size+1;omega) _).setCell (by show _<=w.heap.size+1;omega) _
theorem Fa(a:M6)(b:List Y)(c:Nat)(f:M6)(d:List (Int×Y))(i:Nat)(n:Int)(w:Nb)(h:Strs w a b)(l:Wrs w f d)(m:b.length<=1048576)(j:d.length<=1048576)(o:∀s∈b,s.size<=1048576)(k:∀x∈d,x.2.size<=1048576):Calls prog 181 #[LF a b.length c f d.length i,.int .i64 n] w λe g=>e=M3 (vg (NJ b d n))/\Below w.heap.size w g:=by
 by_cases g:LE b d=true/\1<=n/\n<=8
 ·exact Gw a b c f d i n w h l m j o k g.1 g.2
 have e:NJ b d n=OA:=by unfold NJ;rw[AG g]
 rw[e];exact Fr a b c f d i n w h l m j o k g
