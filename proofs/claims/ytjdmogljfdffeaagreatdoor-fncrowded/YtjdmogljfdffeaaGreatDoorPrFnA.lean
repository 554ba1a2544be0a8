import Derived.Test.YtjdmogljfdffeaaGreatDoorPrG41
import Derived.Test.YtjdmogljfdffeaaGreatDoorPrG42
set_option maxHeartbeats 40000000
namespace Go.Proofs.YtjdmogljfdffeaaGreatDoor
open _root_.ByteArray(empty)
open Tryz
open Go.RowKit
set_option maxRecDepth 4000
set_option linter.all false
set_option maxHeartbeats 4000000
theorem Gb(p:ByteArray)(h:p.size=5):((p.data.toList.getD 0 0).toNat:Int)=QV p/\MT (KU (p.extract 1 5))=QQ p/\0<=QV p/\QV p<=255/\0<=QQ p/\QQ p<=4294967295:=by
 have g:(KU p).length=5:=by rw[ME,h]
 have f:p.data.toList.length=5:=h;have d:=gk p;have b:=ZG 1 ((KU p).take 1) τ (λy a=>d y (DM a));have c:=ZG 4 (((KU p).drop 1).take 4) τ (λy a=>d y (EU (DM a)));refine⟨?_,?_,b.1,by have:=b.2;unfold QV;omega,c.1,by have:=c.2;unfold QQ;omega⟩
 ·unfold QV KU
  rw[<-ID];have e:=GN (l:=p.data.toList) (i:=0) ω;rw[FJ]at e;rw[e];simp only[JS,FQ,IC,KI,nN];rfl
 unfold QQ
 rw[jd,AV ω];rw[AV (l:=(KU p).drop 1) τ]
theorem tW(s:ByteArray)(a n:Int)(w:World)(k l m:Int)(p:ByteArray)(b:Bool)(i:∀d,Calls prog 121 #[.string s,.int .i64 n] d λe c=>e=.returned (.tuple #[NK k l m p,.bool b])/\Below d.heap.size d c)(y:p.size<=64)(g:b=false\/p.size≠5)(j:Hid (MU s a n=none)):Calls prog 188 #[.string s,.int .i64 a,.int .i64 n] w λe c=>(∃t h f l b,e=.returned (.tuple #[NI t h f l,.bool b])/\MU s a n=if b=true then some (t,h,f,l) else none)/\Below w.heap.size w c:=by
 have q:∀o,Below w.heap.size w (w.alloc o):=λo=>(AC _ _).alloc (Y _) _
 cases b
 focus
  focus
  rotate_left
 rotate_left
 focus
  focus
   have x:((p.size:Int) != 5)=true:=by
    have h:=g.resolve_left σ;simp;omega
  rotate_left
 rotate_left
 all_goals
  clear g;go_enter func188,ntmps188;go_wp2_with (go_at_call 121;refine(i _).A ?_;rintro e D ⟨rfl,d⟩;have c:=LN ((B4.new w (.int .i64 0) (.int .i64 0) (.int .i64 0) (.int .i64 0) _).z d);have f:=LN ((q _).j (d.A σ));clear d;have r:=λo=>(c.l.alloc o).c0;have t:=λo=>(c.l.alloc o).c1;have u:=λo=>(c.l.alloc o).c2;have v:=λo=>(c.l.alloc o).c3;have z:=λo=>(c.l.alloc o).f0;have A:=λo=>(c.l.alloc o).f1;have B:=λo=>(c.l.alloc o).f2;have C:=λo=>(c.l.alloc o).f3);refine AI (v:=.tuple #[NI 0 0 0 0,.bool false]) (by simp[results,results188,go_sem,r,t,u,v]) rfl ⟨⟨0,0,0,0,false,rfl,by rw[j.l];rfl⟩,?_⟩;exact((((f.l.alloc f.l.size _).setCell (Y _) _).setCell (Y _) _).setCell (Y _) _).setCell (Y _) _
theorem Bd(s:ByteArray)(a n:Int)(w:World)(k l m:Int)(p:ByteArray)(hR:MI s n=some (k,l,m,p))(HS:∀wx,Calls prog 121 #[.string s,.int .i64 n] wx λe d=>e=.returned (.tuple #[NK k l m p,.bool true])/\Below wx.heap.size wx d)(h5:p.size=5):Calls prog 188 #[.string s,.int .i64 a,.int .i64 n] w λe d=>(∃t h f l b,e=.returned (.tuple #[NI t h f l,.bool b])/\MU s a n=if b=true then some (t,h,f,l) else none)/\Below w.heap.size w d:=by
 have bQ:∀o,Below w.heap.size w (w.alloc o):=λo=>(AC _ _).alloc (Y _) _
 obtain⟨_,_,bZ,cA,bW,bY,cC⟩:=SI hR
 have M:Hid (MU s a n=if MB m (QV p) (QQ p) l n=s/\m % 2=a then some (m,QV p,QQ p,l) else none):=by
  show _=_;unfold MU;rw[hR];simp[h5]
 clear hR;obtain⟨e0,e1,g0,g1,g2,g3⟩:=Gb p h5;have gb:=qg p 0 ω;obtain⟨H,hH⟩:∃H:Nat,H=(p.data.toList.getD 0 0).toNat:=⟨_,rfl⟩;rw[<-hH]at e0 gb;rw[<-e0]at g0 g1;obtain⟨F,HF⟩:∃F,Hid (F=QQ p):=⟨_,LN rfl⟩;rw[<-HF.l]at g2 g3 M e1;rw[<-e0]at M;have bU:(p.size:Int)=5:=ω
 have z1:(p.extract 1 5).size<=4:=by simp only[AK];omega
 have bV:IntKind.i64.wrap (H:Int)=(H:Int):=by simp[IntKind.wrap,IntKind.bits,IntKind.signed];omega
 have h0:0<p.size:=ω
 obtain⟨FM,bE⟩:∃FM,Hid (FM=MB m (H:Int) F l n):=⟨_,LN rfl⟩;rw[<-bE.l]at M
 have N:=λwx=>rQ m (H:Int) F l n wx
 rw[<-bE.l]at N;have E1:=LN e1;clear hH e1 e0 HF;go_enter func188,ntmps188;go_wp2_with (go_at_call 121;refine(HS _).A ?_;rintro e g ⟨rfl,aW⟩;have v:=LN ((B4.new w (.int .i64 0) (.int .i64 0) (.int .i64 0) (.int .i64 0) _).z aW);have I:=LN ((bQ _).j (aW.A σ));clear aW;have z:=λo=>(v.l.alloc o).c0;have A:=λo=>(v.l.alloc o).c1;have B:=λo=>(v.l.alloc o).c2;have C:=λo=>(v.l.alloc o).c3;have O:=λo=>(v.l.alloc o).f0;have P:=λo=>(v.l.alloc o).f1;have Q:=λo=>(v.l.alloc o).f2;have R:=λo=>(v.l.alloc o).f3);have X:=(B4.new g (.int .i64 k) (.int .i64 l) (.int .i64 m) (.string p) 119);have aY:=v.l.alloc (.cells #[.int .i64 k,.int .i64 l,.int .i64 m,.string p] 119);have aX:=I.l.alloc I.l.size (.cells #[.int .i64 k,.int .i64 l,.int .i64 m,.string p] 119);have aR:w.heap.size<g.heap.size:=v.l.lt;obtain⟨q,aV⟩:∃q,q=g.alloc (.cells #[.int .i64 k,.int .i64 l,.int .i64 m,.string p] 119):=⟨_,rfl⟩
 have bI:q.heap.size=g.heap.size+1:=by rw[aV];simp
 rw[<-aV]at X aY aX⊢;clear z A B C O P Q R aV v I
 have D:Hid (∀d,Below q.heap.size q d->d.cell? ⟨g.heap.size,1,none⟩=some (.int .i64 l)/\d.cell? ⟨g.heap.size,2,none⟩=some (.int .i64 m)/\d.cell? ⟨g.heap.size,3,none⟩=some (.string p)/\Below q.heap.size q d):=λd x=>⟨(X.z x).c1,(X.z x).c2,(X.z x).c3,x⟩
 have bG:=LN aY;have I:=LN aX;clear aY aX X;refine(λHG:Wr ?G=>?main) ⟨?pf⟩
 case main =>
  go_region_held3 (λd=>d.cell? ⟨g.heap.size,1,none⟩=some (.int .i64 l)/\d.cell? ⟨g.heap.size,2,none⟩=some (.int .i64 m)/\d.cell? ⟨g.heap.size,3,none⟩=some (.string p)/\Below q.heap.size q d)
   (first|assumption|exact D.l _ ((AC _ _).drew)|exact D.l _ (((AC _ _).drew).alloc (Y _) _)|exact D.l _ (((AC _ _).alloc (Y _) _).drew)|exact D.l _ ((AC _ _).alloc (Y _) _))
   (first|(go_at_call 155;refine(rz (p.extract 1 5) F _ z1 E1.l.symm).A ?_;rintro e w6 ⟨rfl,rfl⟩))
  all_goals exact HG.l
 have u:=(B4.new q (.int .i64 m) (.int .i64 (H:Int)) (.int .i64 F) (.int .i64 l) 28).drew;have aT:Below q.heap.size q (q.alloc (.cells #[.int .i64 m,.int .i64 (H:Int),.int .i64 F,.int .i64 l] 28)).drew:=((AC _ _).alloc (Y _) _).drew;have aZ:(q.alloc (.cells #[.int .i64 m,.int .i64 (H:Int),.int .i64 F,.int .i64 l] 28)).drew.heap.size=g.heap.size+2:=by simp[bI]
 obtain⟨S,bH⟩:∃S,S=(q.alloc (.cells #[.int .i64 m,.int .i64 (H:Int),.int .i64 F,.int .i64 l] 28)).drew:=⟨_,rfl⟩;rw[bI]at u;rw[<-bH]at u aT aZ⊢;clear bH D;have aH:=LN (bG.l.z aT);have L:=LN (I.l.j (aT.A (by have:=I.l.size;omega)));clear aT bG I
 have D:Hid (∀d,Below S.heap.size S d->d.cell? ⟨g.heap.size+1,0,none⟩=some (.int .i64 m)/\d.cell? ⟨g.heap.size+1,1,none⟩=some (.int .i64 (H:Int))/\d.cell? ⟨g.heap.size+1,2,none⟩=some (.int .i64 F)/\d.cell? ⟨g.heap.size+1,3,none⟩=some (.int .i64 l)/\Below S.heap.size S d):=λd x=>⟨(u.z x).c0,(u.z x).c1,(u.z x).c2,(u.z x).c3,x⟩
 have bJ:=LN u;have q0:=u.c0;have q1:=u.c1;have q2:=u.c2;have q3:=u.c3;clear u;have aJ:¬(w.heap.size=g.heap.size+1):=by have:=aR;omega
 have bT:¬(g.heap.size+1=w.heap.size):=by have:=aR;omega
 have y:=aH.l;have z:=y.c0;have A:=y.c1;have B:=y.c2;have C:=y.c3;have O:=y.f0;have P:=y.f1;have Q:=y.f2;have R:=y.f3;clear y
 by_cases E:FM=s
 ·by_cases ha:m % 2=a
  ·have ht:m.tmod 2=a:=by rw[DW ω];exact ha
   have T:Hid (MU s a n=some (m,(H:Int),F,l)):=by show _=_;rw[M.l,AF ⟨E,ha⟩]
   have aU:=LN E;clear E;rw[aU.l]at N;go_wp2_with fail
   go_region_law (first|(refine LC ρ 191 #[NI m (H:Int) F l,.int .i64 n] γ (N _) ?_;rintro e w7 ⟨rfl,r⟩;refine⟨_,rfl,?_⟩;obtain⟨r0,r1,r2,r3,_⟩:=D.l _ (((AC _ _).drew).j r);have c:=aH.l.drew.z r;have U:=LN (L.l.drew.j (r.A L.l.drew.size));clear r;have z:=c.c0;have A:=c.c1;have B:=c.c2;have C:=c.c3;have O:=c.f0;have P:=c.f1;have Q:=c.f2;have R:=c.f3;clear c))
   all_goals go_wp2
   all_goals refine AI (v:=.tuple #[NI m (H:Int) F l,.bool true]) (by simp[results,results188,go_sem,z,A,B,C,r0,r1,r2,r3,ht]) rfl ⟨⟨m,(H:Int),F,l,true,rfl,by rw[T.l];rfl⟩,?_⟩
   all_goals exact(((U.l.setCell (Y _) _).setCell (Y _) _).setCell (Y _) _).setCell (Y _) _
  have ht:¬m.tmod 2=a:=by rw[DW ω];exact ha
  have T:Hid (MU s a n=none):=by show _=_;rw[M.l,AG (λh=>ha h.2)]
  have aU:=LN E;clear E;rw[aU.l]at N;go_wp2_with fail
  go_region_law (first|(refine LC ρ 191 #[NI m (H:Int) F l,.int .i64 n] γ (N _) ?_;rintro e w7 ⟨rfl,r⟩;refine⟨_,rfl,?_⟩;obtain⟨r0,r1,r2,r3,_⟩:=D.l _ (((AC _ _).drew).j r);have c:=aH.l.drew.z r;have U:=LN (L.l.drew.j (r.A L.l.drew.size));clear r;have z:=c.c0;have A:=c.c1;have B:=c.c2;have C:=c.c3;have O:=c.f0;have P:=c.f1;have Q:=c.f2;have R:=c.f3;clear c))
  all_goals go_wp2
  all_goals refine AI (v:=.tuple #[NI m (H:Int) F l,.bool false]) (by simp[results,results188,go_sem,z,A,B,C,r0,r1,r2,r3,ht]) rfl ⟨⟨m,(H:Int),F,l,false,rfl,by rw[T.l];rfl⟩,?_⟩
  all_goals exact(((U.l.setCell (Y _) _).setCell (Y _) _).setCell (Y _) _).setCell (Y _) _
 have T:Hid (MU s a n=none):=by show _=_;rw[M.l,AG (λh=>E h.1)]
 have hG:(FM.toList == s.toList)=false:=by simp only[ET];intro hh;rw[DF,DF]at hh;exact E (EP (IU hh))
 clear E;clear z A B C O P Q R;go_wp2_with fail;refine AN (S:=λd=>d.cell? ⟨g.heap.size+1,0,none⟩=some (.int .i64 m)/\d.cell? ⟨g.heap.size+1,1,none⟩=some (.int .i64 (H:Int))/\d.cell? ⟨g.heap.size+1,2,none⟩=some (.int .i64 F)/\d.cell? ⟨g.heap.size+1,3,none⟩=some (.int .i64 l)) κ ⟨q0,q1,q2,q3⟩ (λj=>?_);refine V 0 (NI m (H:Int) F l) rfl j ?_;simp only[Act.put,BT,DG,DC];refine V 1 (NI m (H:Int) F l) rfl j ?_;simp only[Act.put,BT,DG,DC];refine V 2 (.int .i64 n) rfl j ?_;simp only[Act.put,BT,DG,DC];refine V 4 (.string s) rfl j ?_;simp only[Act.put,BT,DG,DC];refine RD 3 rfl (λK hK=>?_);refine LC ρ 191 #[NI m (H:Int) F l,.int .i64 n] γ (N _) ?_
 rintro e w7 ⟨rfl,r⟩;refine⟨_,rfl,?_⟩;have c:=aH.l.drew.z r;have G:=bJ.l.drew.z r;have U:=LN (L.l.drew.j (r.A L.l.drew.size));clear r;refine hK.l _ _ ⟨G.c0,G.c1,G.c2,G.c3⟩ (λ_=>?_);clear hK K j;rename_i j;simp only[Act.put,BT,DG,DC];refine V 5 (.bool false) rfl j ?_;simp only[Act.put,BT,DG,DC];refine V 6 (.bool false) rfl j ?_;simp only[Act.put,BT,DG,DC];refine TK 7 (undef) rfl (II ⟨κ,rfl⟩) j ?_;simp only[Act.put,BT,DG,DC];refine TK 8 (undef) rfl (II ⟨κ,rfl⟩) j ?_;simp only[Act.put,BT,DG,DC];refine TK 9 (undef) rfl (II ⟨κ,rfl⟩) j ?_
 simp only[Act.put,BT,DG,DC];refine TK 10 (undef) rfl (II ⟨κ,rfl⟩) j ?_;simp only[Act.put,BT,DG,DC];refine TK 11 (undef) rfl (II ⟨κ,rfl⟩) j ?_;simp only[Act.put,BT,DG,DC];refine V 12 (.bool false) rfl j ?_;simp only[Act.put,BT,DG,DC];refine RD 13 rfl (λK hK=>?_);rw[AF κ];have z:=c.c0;have A:=c.c1;have B:=c.c2;have C:=c.c3;have O:=c.f0;have P:=c.f1;have Q:=c.f2;have R:=c.f3;unfold Oper.wp;go_simp
 have W:∀i,((((w7.setCell ⟨w.heap.size,0,none⟩ (.int .i64 m)).setCell ⟨w.heap.size,1,none⟩ (.int .i64 (H:Int))).setCell ⟨w.heap.size,2,none⟩ (.int .i64 F)).setCell ⟨w.heap.size,3,none⟩ (.int .i64 l)).cell? ⟨g.heap.size+1,i,none⟩=w7.cell? ⟨g.heap.size+1,i,none⟩:=λi=>by
  rw[AP _ _ _ _ aJ,AP _ _ _ _ aJ,AP _ _ _ _ aJ,AP _ _ _ _ aJ]
 refine hK.l _ _ ⟨(W _).j G.c0,(W _).j G.c1,(W _).j G.c2,(W _).j G.c3⟩ (λ_=>?_);clear hK K j W;rename_i j;refine V 14 (.bool false) rfl j ?_;simp only[Act.put,List.getElem_toArray,List.getElem_cons_succ,List.getElem_cons_zero,BT,DG,DC];refine DN ?_;go_wp2;refine AI (v:=.tuple #[NI m (H:Int) F l,.bool false]) (by simp[results,results188,go_sem,z,A,B,C]) rfl ⟨⟨m,(H:Int),F,l,false,rfl,by rw[T.l];rfl⟩,?_⟩;exact(((U.l.setCell (Y _) _).setCell (Y _) _).setCell (Y _) _).setCell (Y _) _
theorem I8(s:ByteArray)(a n:Int)(w:World)(d:s.size<=1048576):Calls prog 188 #[.string s,.int .i64 a,.int .i64 n] w λe c=>(∃t h f l b,e=.returned (.tuple #[NI t h f l,.bool b])/\MU s a n=if b=true then some (t,h,f,l) else none)/\Below w.heap.size w c:=by
 have b:=λc=>uh s n c d
 cases hR:MI s n with
 | none =>
  rw[hR]at b;exact tW s a n w 0 0 0 ⟨#[]⟩ false b δ (.inl rfl) (by show _=_;unfold MU;rw[hR])
 | some x =>
  obtain⟨k,l,m,p⟩:=x;rw[hR]at b
  by_cases c:p.size=5
  ·exact Bd s a n w k l m p hR b c
  exact tW s a n w k l m p true b (SI hR).2.2.2.2.2.2 (.inr c) (by show _=_;unfold MU;rw[hR];simp[c])
theorem B4.set4{w:World}{B:Nat}{a b c d:Value}(h:B4 w B a b c d)(u0 u1 u2 u3:Value):B4 ((((w.setCell ⟨B,0,none⟩ u0).setCell ⟨B,1,none⟩ u1).setCell ⟨B,2,none⟩ u2).setCell ⟨B,3,none⟩ u3) B u0 u1 u2 u3:=by
 have e:=h.c0;have f:=h.c1;have g:=h.c2;have i:=h.c3;refine⟨by simp only[BJ];exact h.lt,?_,?_,?_,?_,?_,?_,?_,?_⟩
 ·go_simp
 ·go_simp
 ·go_simp
 ·go_simp
 ·simp only[BL];exact h.f0
 ·simp only[BL];exact h.f1
 ·simp only[BL];exact h.f2
 simp only[BL];exact h.f3
def MG(a:List ByteArray)(b:List (Int×ByteArray))(n:Int):RtT:=if LG a b=true/\1<=n/\n<=8 then OF ((xhE b a).getD 0 empty) ((xhE b a).getD 1 empty) n else MW
@[reducible] def vr(x:RtT):Value:=NI x.1 x.2.1 x.2.2.1 x.2.2.2
theorem tq:∀(c:List (Int×ByteArray)) (a:List ByteArray),(∀s∈a,s.size<=1048576)->(∀x∈c,x.2.size<=1048576)->∀k,((xhE c a).getD k empty).size<=1048576
 | [],a,h,_,k=>by
  show(a.getD k empty).size<=_
  by_cases b:k<a.length
  ·have e:a.getD k empty=a[k]:=by simp[List.getD,b]
   rw[e];exact h _ (JH b)
  have e:a.getD k empty=empty:=by simp[List.getD,b]
  rw[e];decide
 | x::r,a,h,h',k=>tq r _ (λs d=>by
   rcases EV d with b|b
   ·exact h s b
   ·rw[b];exact h' x (EH ..)) (λy e=>h' y (DS _ e)) k
theorem Ep(a:Option Addr)(d:List ByteArray)(c:Nat)(r:Option Addr)(m:List (Int×ByteArray))(B:Nat)(n:Int)(w:World)(h:Strs w a d)(h':Wrs w r m)(E:d.length<=1048576)(dQ:m.length<=1048576)(hs:∀s∈d,s.size<=1048576)(cL:∀x∈m,x.2.size<=1048576)(O:LG d m=true)(hn:1<=n/\n<=8):Calls prog 181 #[LE a d.length c r m.length B,.int .i64 n] w λe b=>e=.returned (vr (MG d m n))/\Below w.heap.size w b:=by
 have N:∀b f,Below w.heap.size w ((w.alloc b).alloc f):=λb f=>((AC _ _).alloc (Y _) _).alloc σ _
 have hd:decide (1<=n/\n<=8)=true:=AM hn;obtain⟨A,Q⟩:∃A,Hid (A=MG d m n):=⟨_,Z rfl⟩;rw[<-Q.l];obtain⟨⟨eF,cE,cF⟩,eB,hw⟩:=PA O;go_enter func181,ntmps181;go_wp2_with fail;refine(WW a d c r m B _ (h.z (N _ _)) (h'.z (N _ _)) E dQ hs cL).A ?_;rw[O];rintro e w1 ⟨rfl,b⟩;have o:=Z ((((Cx.new w (.slice a d.length c) (.slice r m.length B) 26)).z (MF _ (.cells #[.int .i64 0,.int .i64 0,.int .i64 0,.int .i64 0] 28))).z b);have t:=Z ((B4.new (w.alloc (.cells #[.slice a d.length c,.slice r m.length B] 26)) (.int .i64 0) (.int .i64 0) (.int .i64 0) (.int .i64 0) 28).z b);have i:=Z ((N (.cells #[.slice a d.length c,.slice r m.length B] 26) (.cells #[.int .i64 0,.int .i64 0,.int .i64 0,.int .i64 0] 28)).j (b.A ξ));clear b;have z:=o.l.c0;have C:=o.l.c1
 go_wp2_with (first|(go_at_call 37;refine(QO _ _).A ?_;rw[hd];rintro e f ⟨rfl,b⟩;rw[b];clear b f))
 refine(ub a d c r m B _ (h.z i.l) (h'.z i.l) cE cF).A ?_;rintro e w2 ⟨g,p,g',cV,rfl,k,q,u,j⟩;have s:=Z (Below.then i.l (Y _) j);have y:=Z (t.l.z j);have bQ:=j.size;have H:d.length≠0:=ω
 have X:w1.heap.size<=g:=q g (by unfold blk;rw[AG H];rfl)
 have l:Row w2 g (d.map Value.string):=by
  rcases k.s with e|⟨b,e,f⟩
  ·exact absurd (BY List.length e) (by rw[BP,AR];omega)
  cases e;exact f
 have b:MH m≠[]->g'≠g:=λf=>by
  have E:m.length≠0:=λe=>f (by rw[AB e];rfl)
  rcases k.ne with e|e|e
  ·unfold blk at e;rw[AG H]at e;exact absurd e σ
  ·unfold blk at e;rw[AG E]at e;exact absurd e σ
  unfold blk at e;rw[AG H,AG E]at e;exactλf=>e (by rw[f])
 have v:=Z (rn g g' d p m cV w2 l k.p b cE cF (λx f=>by have:=AU (hw x f);omega));have dV:w.heap.size<=g:=AL i.l.size X;have aY:=t.l.lt;clear z C k q u j l b;go_wp2_with fail;refine v.l.A ?_;rintro e j ⟨x,rfl,eH,eI,u,b⟩;have f:=Z (s.l.j (MR b s.l.size (λk q=>by cases q;exact dV)));have l:=Z (y.l.past (N:=w1.heap.size) aY (MR b bQ (λk q=>by cases q;exact X)));have bG:g<j.heap.size:=u.lt;have aX:=l.l.lt;rw[BB]at l aX;have dZ:w.heap.size<=j.heap.size:=f.l.size;obtain⟨S,G⟩:∃S:Nat->ByteArray,Hid (S=λk=>(xhE m d).getD k empty):=⟨_,Z rfl⟩
 have cT:Hid (∀k,(S k).size<=1048576):=λk=>by
  rw[G.l];exact tq m d hs cL k
 have z:Hid (∀k,k<d.length->j.cell? ⟨g,k,none⟩=some (.string (S k))):=λk q=>by
  rw[G.l];exact u.cell k _ (by simp[List.getD,WY,q])
 have HF:Hid (A=QS (QS (0,0,1,0) (MU (S 0) 0 n)) (MU (S 1) 1 n)):=by
  show _=_;rw[Q.l,G.l];unfold MG;rw[AF ⟨O,hn⟩];rfl
 clear v y t s i u b o;go_wp2_with fail;have i:=((B4.new (j.alloc (.cells #[.slice (some ⟨g,0,none⟩) d.length p,.slice (some ⟨x,0,none⟩) 0 0] 26)) (.int .i64 0) (.int .i64 0) (.int .i64 1) (.int .i64 0) 28));have b:Below j.heap.size j ((j.alloc (.cells #[.slice (some ⟨g,0,none⟩) d.length p,.slice (some ⟨x,0,none⟩) 0 0] 26)).alloc (.cells #[.int .i64 0,.int .i64 0,.int .i64 1,.int .i64 0] 28)):=((AC _ _).alloc (Y _) _).alloc σ _;have o:((j.alloc (.cells #[.slice (some ⟨g,0,none⟩) d.length p,.slice (some ⟨x,0,none⟩) 0 0] 26)).alloc (.cells #[.int .i64 0,.int .i64 0,.int .i64 1,.int .i64 0] 28)).cell? ⟨j.heap.size,0,none⟩=some (.slice (some ⟨g,0,none⟩) d.length p):=γ
 have dU:((j.alloc (.cells #[.slice (some ⟨g,0,none⟩) d.length p,.slice (some ⟨x,0,none⟩) 0 0] 26)).alloc (.cells #[.int .i64 0,.int .i64 0,.int .i64 1,.int .i64 0] 28)).heap.size=j.heap.size+2:=σ
 obtain⟨F,s⟩:∃F,F=((j.alloc (.cells #[.slice (some ⟨g,0,none⟩) d.length p,.slice (some ⟨x,0,none⟩) 0 0] 26)).alloc (.cells #[.int .i64 0,.int .i64 0,.int .i64 1,.int .i64 0] 28)):=⟨_,rfl⟩;rw[BB]at i;rw[<-s]at i b o dU⊢;have cU:=Z o;have cQ:=Z i
 have aW:Hid (∀k,k<d.length->F.cell? ⟨g,k,none⟩=some (.string (S k))):=λk q=>(b.cell (p:=⟨g,k,none⟩) bG).j (z.l k q)
 have cS:=Z (l.l.z b);have cP:=Z (f.l.j (b.A f.l.size));clear s i o b z l f;go_loopw [7] (λi wr=>∃(k:Nat) (b:RtT),k<=2/\i=.int .i64 (k:Int)/\Hid ((k=0->b=(0,0,1,0))/\(k=1->b=QS (0,0,1,0) (MU (S 0) 0 n))/\(k=2->b=A))/\Below (j.heap.size+1) F wr/\B4 wr (j.heap.size+1) (.int .i64 b.1) (.int .i64 b.2.1) (.int .i64 b.2.2.1) (.int .i64 b.2.2.2)) (λi _=>2-(intOf i).toNat)
 case atStart=>exact⟨0,(0,0,1,0),ω,rfl,⟨λ_=>rfl,λh=>absurd h δ,λh=>absurd h δ⟩,AC _ _,cQ.l⟩
 case round =>
  obtain⟨k,⟨b0,u,v,y⟩,q,rfl,K,z,s⟩:=hrel;have D:=Z z;have P:=Z s
  by_cases eC:k<2
  ·have dM:k<d.length:=ω
   have dN:(k:Int)<(d.length:Int):=ω
   have dR:(k:Int)<2:=ω
   have I:wr.cell? ⟨j.heap.size,0,none⟩=some (.slice (some ⟨g,0,none⟩) d.length p):=(z.cell (p:=⟨j.heap.size,0,none⟩) (by show j.heap.size<_;omega)).j cU.l;have T:wr.cell? ⟨g,k,none⟩=some (.string (S k)):=(z.cell (p:=⟨g,k,none⟩) (by show g<_;omega)).j (aW.l k dM);clear z s
   have L:Hid (∀f:RtT,f=QS (b0,u,v,y) (MU (S k) (k:Int) n)->(k+1=0->f=(0,0,1,0))/\(k+1=1->f=QS (0,0,1,0) (MU (S 0) 0 n))/\(k+1=2->f=A)):=λf i=>by
    refine⟨λh=>absurd h ω,λh=>?_,λh=>?_⟩
    ·have f:k=0:=ω
     subst f;rw[i,K.l.1 rfl];rfl
    have f:k=1:=ω
    subst f;rw[i,K.l.2.1 rfl,HF.l];rfl
   go_wp2_with fail;refine(I8 (S k) (k:Int) n _ (cT.l k)).A ?_;rintro e w5 ⟨⟨t,h9,f,l,bb,rfl,C⟩,o⟩;have R:=Z (D.l.j (o.A (by have:=D.l.size;omega)));have i:=Z (P.l.z o);have M:=Z C;clear C o D P I T;have eG:j.heap.size+2<=w5.heap.size:=by have:=R.l.size;omega
   have T:=λo=>(i.l.alloc o).c0
   have p:=λo=>(i.l.alloc o).c1
   have U:=λo=>(i.l.alloc o).c2
   have W:=λo=>(i.l.alloc o).c3
   have f0:=λo=>(i.l.alloc o).f0
   have f1:=λo=>(i.l.alloc o).f1
   have f2:=λo=>(i.l.alloc o).f2
   have f3:=λo=>(i.l.alloc o).f3
   have I:=Z (λo=>R.l.alloc ω o)
   cases bb with
   | false =>
    have o:=L.l (b0,u,v,y) (by rw[M.l];rfl);have C:=Z o;clear o;go_wp2;go_roundw
    case rel=>exact⟨k+1,(b0,u,v,y),ω,ν,C.l,I.l _,i.l.alloc _⟩
    case measure=>simp[intOf];omega
   | true =>
    by_cases cC:b0<t
    ·have o:=L.l (t,h9,f,l) (by rw[M.l];simp[QS,cC])
     have C:=Z o;clear o;go_wp2;go_roundw
     case rel=>exact⟨k+1,(t,h9,f,l),ω,ν,C.l,((((I.l _).setCell (Y _) _).setCell (Y _) _).setCell (Y _) _).setCell (Y _) _,(i.l.alloc _).set4 _ _ _ _⟩
     case measure=>simp[intOf];omega
    have o:=L.l (b0,u,v,y) (by rw[M.l];simp[QS,cC])
    have C:=Z o;clear o;go_wp2;go_roundw
    case rel=>exact⟨k+1,(b0,u,v,y),ω,ν,C.l,I.l _,i.l.alloc _⟩
    case measure=>simp[intOf];omega
  have l:k=2:=ω
  subst l;have i:Hid (A=(b0,u,v,y)):=(K.l.2.2 rfl).symm;have f:=cS.l.past (N:=j.heap.size+1) ω z;have T:=f.c0;have p:=f.c1;have U:=f.c2;have W:=f.c3;have f0:=f.f0;have f1:=f.f1;have f2:=f.f2;have f3:=f.f3;have o:=s.c0;have t:=s.c1;have C:=s.c2;have I:=s.c3;clear f z s;go_wp2;refine AI (v:=NI b0 u v y) (by simp[results,results181,go_sem,T,p,U,W]) rfl ⟨by rw[i.l],?_⟩;have f:=cP.l.j (D.l.A ω);exact(((f.setCell (by show _<=w.heap.size+1;omega) _).setCell (by show _<=w.heap.size+1;omega) _).setCell (by show _<=w.heap.size+1;omega) _).setCell (by show _<=w.heap.size+1;omega) _
theorem Dq(a:Option Addr)(d:List ByteArray)(c:Nat)(g:Option Addr)(f:List (Int×ByteArray))(j:Nat)(n:Int)(w:World)(h:Strs w a d)(u:Wrs w g f)(v:d.length<=1048576)(o:f.length<=1048576)(y:∀s∈d,s.size<=1048576)(p:∀x∈f,x.2.size<=1048576)(l:¬(LG d f=true/\1<=n/\n<=8)):Calls prog 181 #[LE a d.length c g f.length j,.int .i64 n] w λe b=>e=.returned (NI 0 0 0 0)/\Below w.heap.size w b:=by
 have k:∀b i,Below w.heap.size w ((w.alloc b).alloc i):=λb i=>((AC _ _).alloc (Y _) _).alloc σ _
 cases hok:LG d f
 focus
  clear l;go_enter func181,ntmps181;go_wp2_with fail;refine(WW a d c g f j _ (h.z (k _ _)) (u.z (k _ _)) v o y p).A ?_;rw[hok];rintro e E ⟨rfl,i⟩;have b:=((B4.new (w.alloc (.cells #[.slice a d.length c,.slice g f.length j] 26)) (.int .i64 0) (.int .i64 0) (.int .i64 0) (.int .i64 0) 28).z i);rw[BB]at b;have m:=Z ((k (.cells #[.slice a d.length c,.slice g f.length j] 26) (.cells #[.int .i64 0,.int .i64 0,.int .i64 0,.int .i64 0] 28)).j (i.A ξ));clear i;have q:=b.c0;have r:=b.c1;have s:=b.c2;have t:=b.c3;have z:=b.f0;have A:=b.f1;have B:=b.f2;have C:=b.f3;clear b;go_wp2
 rotate_left
 focus
  have D:decide (1<=n/\n<=8)=false:=AJ (λx=>l ⟨hok,x⟩);clear l;go_enter func181,ntmps181;go_wp2_with fail;refine(WW a d c g f j _ (h.z (k _ _)) (u.z (k _ _)) v o y p).A ?_;rw[hok];rintro e E ⟨rfl,i⟩;have b:=((B4.new (w.alloc (.cells #[.slice a d.length c,.slice g f.length j] 26)) (.int .i64 0) (.int .i64 0) (.int .i64 0) (.int .i64 0) 28).z i);rw[BB]at b;have m:=Z ((k (.cells #[.slice a d.length c,.slice g f.length j] 26) (.cells #[.int .i64 0,.int .i64 0,.int .i64 0,.int .i64 0] 28)).j (i.A ξ));clear i;have q:=b.c0;have r:=b.c1;have s:=b.c2;have t:=b.c3;have z:=b.f0;have A:=b.f1;have B:=b.f2;have C:=b.f3;clear b
  go_wp2_with (first|(go_at_call 37;refine(QO _ _).A ?_;rw[D];rintro e i ⟨rfl,b⟩;rw[b];clear b i))
 rotate_left
 all_goals
  refine AI (v:=NI 0 0 0 0) (by simp[results,results181,go_sem,q,r,s,t]) rfl ⟨rfl,?_⟩;exact(((m.l.setCell (by show _<=w.heap.size+1;omega) _).setCell (by show _<=w.heap.size+1;omega) _).setCell (by show _<=w.heap.size+1;omega) _).setCell (by show _<=w.heap.size+1;omega) _
theorem De(a:Option Addr)(b:List ByteArray)(c:Nat)(f:Option Addr)(d:List (Int×ByteArray))(i:Nat)(n:Int)(w:World)(h:Strs w a b)(l:Wrs w f d)(m:b.length<=1048576)(j:d.length<=1048576)(o:∀s∈b,s.size<=1048576)(k:∀x∈d,x.2.size<=1048576):Calls prog 181 #[LE a b.length c f d.length i,.int .i64 n] w λe g=>e=.returned (vr (MG b d n))/\Below w.heap.size w g:=by
 by_cases g:LG b d=true/\1<=n/\n<=8
 ·exact Ep a b c f d i n w h l m j o k g.1 g.2
 have e:MG b d n=MW:=by unfold MG;rw[AG g]
 rw[e];exact Dq a b c f d i n w h l m j o k g
