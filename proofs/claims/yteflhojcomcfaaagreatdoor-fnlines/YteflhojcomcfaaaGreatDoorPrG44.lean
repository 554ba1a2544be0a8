import Derived.Test.YteflhojcomcfaaaGreatDoorPrAq
import Derived.Deep.Cut
import Derived.Deep.CutRange
import Derived.Test.YteflhojcomcfaaaGreatDoorPrG43
set_option maxHeartbeats 16000000
set_option maxRecDepth 8000
set_option linter.all false
namespace Go.Proofs.YteflhojcomcfaaaGreatDoor
open _root_.ByteArray(empty)
open Tryz
open Go.RowKit
theorem xh(n:Int)(w:Q9):Calls prog 247 #[Z n] w λe a=>e=Q2 (Q1 (decide (0<=n/\n<=1)))/\a=w:=by
 go_enter func247,ntmps247
 by_cases a:n=0
 .subst a;go_wp2;go_ret;simp
 by_cases b:n=1
 .subst b;go_wp2;go_ret;simp
 have c:decide (0<=n/\n<=1)=false:=q
 rw[c];go_wp2;go_ret;simp[a,b]
theorem sC(n:Int)(w:Q9):Calls prog 248 #[Z n] w λe a=>e=Q2 (Q1 (decide (1<=n/\n<=999999000)))/\a=w:=by
 go_enter func248,ntmps248
 by_cases a:1<=n<;>by_cases b:n<=999999000<;>(go_wp2;go_ret;simp[a,b])
theorem yh(T H F R:Int)(w:Q9):Calls prog 187 #[.agg #[Z T,Z H,Z F,Z R]] w λe a=>e=Q2 (Q1 (VO T H F R))/\Q3 w a:=by
 have e:∀o,Q3 w (w.alloc o):=λo=>LH _ _
 obtain⟨E,b⟩:=x (VO T H F R);rw[<-b.j];unfold VO at b
 by_cases h:0<=T
 rotate_left
 focus
  have a:E=false:=by rw[b.j];simp;omega
 rotate_left
 focus
  by_cases i:T<=1000000000
  rotate_left
  focus
   have a:E=false:=by rw[b.j];simp;omega
  rotate_left
  focus
   by_cases j:0<=R
   rotate_left
   focus
    have a:E=false:=by rw[b.j];simp;omega
   rotate_left
   focus
    by_cases k:R<=60000
    rotate_left
    focus
     have a:E=false:=by rw[b.j];simp;omega
    rotate_left
    focus
     by_cases f:0<=H/\H<=1
     case neg =>
      have c:decide (0<=H/\H<=1)=false:=AH f;have a:E=false:=by rw[b.j,c];simp
      subst a;go_enter func187,ntmps187
      go_wp2_with (first|(go_at_call 247;refine(xh _ _).J ?_;rw[c];refine OF ?_))
      go_ret;exact⟨z,e _⟩
     have c:decide (0<=H/\H<=1)=true:=AM f
     by_cases g:1<=F/\F<=999999000
     case neg =>
      have d:decide (1<=F/\F<=999999000)=false:=AH g;have a:E=false:=by rw[b.j,d];simp
      subst a;go_enter func187,ntmps187
      go_wp2_with (first|(go_at_call 247;refine(xh _ _).J ?_;rw[c];refine OF ?_)|(go_at_call 248;refine(sC _ _).J ?_;rw[d];refine OF ?_))
      go_ret;exact⟨z,e _⟩
     have d:decide (1<=F/\F<=999999000)=true:=AM g;have a:E=true:=by rw[b.j,c,d];simp;omega
     subst a;go_enter func187,ntmps187
     go_wp2_with (first|(go_at_call 247;refine(xh _ _).J ?_;rw[c];refine OF ?_)|(go_at_call 248;refine(sC _ _).J ?_;rw[d];refine OF ?_))
     go_ret;exact⟨z,e _⟩
 all_goals
  subst a;go_enter func187,ntmps187;go_wp2;go_ret;exact⟨z,e _⟩
theorem pL(n Q:Int)(h:Q=hv n)(w:Q9):Calls prog 66 #[Z n] w λe a=>e=Q2 (Z Q)/\a=w:=by rw[h];exact it n w
theorem zf(W S L T H F R U O:Int)(a:Q5)(d:List Pr)(c:Nat)(w:Q9)(h:Prs w a d)(r:d.length<=c)(s:d.length<=1048576)(t:∀b∈d,b.1.size<=1048576/\b.2.size<=1048576):Calls prog 150 #[NA W S L T H F R U O a d.length c] w λe f=>e=Q2 (Q1 (decide (MY (NC d) W<=hv S-1)))/\Q3 w f:=by
 unfold NA;obtain⟨b,g⟩:=u (w.alloc (.cells (sK W S L T H F R U O (Y a d.length c)) 44));have v:b.cell? (Ki w.heap.size 0)=some (Z W):=by rw[g];go_simp
 have y:b.cell? (Ki w.heap.size 1)=some (Z S):=by rw[g];go_simp
 have A:b.cell? (Ki w.heap.size 9)=some (Y a d.length c):=by rw[g];go_simp
 have j:Q3 w b:=by rw[g];exact LH _ _
 have k:w.heap.size<b.heap.size:=by rw[g];simp
 have l:Hid (∀f,Q3 b f->f.cell? (Ki w.heap.size 0)=some (Z W)/\f.cell? (Ki w.heap.size 1)=some (Z S)/\f.cell? (Ki w.heap.size 9)=some (Y a d.length c)/\Q3 b f):=λf i=>⟨(i.cell (p:=(Ki w.heap.size 0)) k).E v,(i.cell (p:=(Ki w.heap.size 1)) k).E y,(i.cell (p:=(Ki w.heap.size 9)) k).E A,i⟩
 have n:=LE (Gr a d c W b.drew (h.I j.drew) r s t);have q:=jt (NC d) W;have B:=gi d;have p:0<=hv S/\hv S<=99:=by by_cases h:8<=S/\S<=200;have:=QS h;omega;rw[eh h];omega
 obtain⟨G,o⟩:=x (MY (NC d) W);obtain⟨Q,i⟩:=x (hv S);rw[<-o.j]at q n⊢;rw[<-i.j]at p⊢;have C:IntKind.i64.wrap (Q-1)=Q-1:=by simp[IntKind.wrap,IntKind.bits,IntKind.signed];omega
 have m:=LE j;clear j;go_enter func150,ntmps150;go_wp2_with fail;rw[<-g];clear g
 go_region_held3 (λf=>f.cell? (Ki w.heap.size 0)=some (Z W)/\f.cell? (Ki w.heap.size 1)=some (Z S)/\f.cell? (Ki w.heap.size 9)=some (Y a d.length c)/\Q3 b f)
  (first|assumption|exact l.j _ ((D).drew)|exact l.j _ ((D).drew.E f))
  (first|(go_at_call 212;refine n.j.J ?_;rintro e g ⟨rfl,f⟩)|(go_at_call 66;refine(it _ _).J ?_;rw[<-i.j];rintro e j ⟨rfl,rfl⟩))
 all_goals
  go_wp2;go_ret;exact⟨z,m.j.E (((D).drew.E f).J m.j.size)⟩
theorem sm(W S L T H F R U O:Int)(a:Q5)(f:List Pr)(c:Nat)(w:Q9)(h:Prs w a f)(hc:f.length<=c)(x:f.length<=1048576)(N:∀b∈f,b.1.size<=1048576/\b.2.size<=1048576):Calls prog 129 #[NA W S L T H F R U O a f.length c] w λe d=>e=Q2 (Q1 (OW W S L T H F R U O f))/\Q3 w d:=by
 unfold NA;have aH:=LE (λw2 (M:Q3 w w2)=>ky a f c w2 (h.I M) x N);have I:=LE (λw2 (M:Q3 w w2)=>zf W S L T H F R U O a f c w2 (h.I M) hc x N);unfold NA at I;clear h N;obtain⟨E,G⟩:=nHz (OW W S L T H F R U O f);rw[<-G.j];obtain⟨Q,b⟩:=nMz (hv S);have y:=LE b;have d:=wM W S L T H F R U O f;rw[<-G.j,<-b]at d;rw[<-b]at I;have g:=LE d;clear d b;go_enter func129,ntmps129;go_upto_region 1 with fail;generalize d:w.alloc _=v1;obtain⟨b,j,i⟩:=LP d;have r:=i.q;clear d j i;obtain⟨j,k,l,m,n,o,p,q,s,t,v⟩:=c10 r
 by_cases J:1<=W/\W<=8
 case neg =>
  have A:=AH J;obtain rfl:E=false:=g.j (.inl J);go_wp2_with (go_at_call 27;refine(TX _ _).J ?_;rw[A];refine OF ?_);go_ret;exact⟨z,b⟩
 have A:=AM J
 by_cases B:8<=S/\S<=200
 case neg =>
  have C:=AH B;obtain rfl:E=false:=g.j (.inr (.inl B))
  go_wp2_with (first|(go_at_call 27;refine(TX _ _).J ?_;rw[A];refine OF ?_)|(go_at_call 26;refine(tq _ _).J ?_;rw[C];refine OF ?_))
  go_ret;exact⟨z,b⟩
 have C:=AM B;have aJ:3<=Q/\Q<=99:=by rw[y.j];exact QS B
 go_upto_region 3 with (first|(go_at_call 27;refine(TX _ _).J ?_;rw[A];refine OF ?_)|(go_at_call 26;refine(tq _ _).J ?_;rw[C];refine OF ?_))
 by_cases X:1<=L
 case neg =>
  obtain rfl:E=false:=g.j (.inr (.inr (.inl (λi=>X i.1))));go_wp2;go_ret;exact⟨z,b⟩
 by_cases P:L<=60000
 case neg =>
  obtain rfl:E=false:=g.j (.inr (.inr (.inl (λi=>P i.2))));go_wp2;go_ret;exact⟨z,b⟩
 go_wp2_with fail;clear j k l m n o p q s t v;refine(yh T H F R _).J ?_;rintro e v2 ⟨rfl,d⟩;replace r:=r.I d;replace b:=b.E (d.J b.size);clear d;obtain⟨j,k,l,m,n,o,p,q,s,t,v⟩:=c10 r
 cases d4:VO T H F R with
 | false =>
  obtain rfl:E=false:=g.j (.inr (.inr (.inr (.inl d4))));go_wp2_with fail;go_ret;exact⟨z,b⟩
 | true =>
  have aF:=LE d4;clear d4;go_upto_region 7 with fail;go_cut [28] from 29 to 39 (λd K=>d=Q1 (decide (¬(0<=U/\U<=Q)))/\Q3 v2 K)
  case first =>
   by_cases K:0<=U
   case neg =>
    go_quiet ((go_at_call 66;exact Calls.quiet_of_same (pL _ _ y.j _)));go_wp2_with fail;go_meet;exact⟨by rw[show decide (¬(0<=U/\U<=Q))=true by simp only[BH];omega],below_drewN D nq⟩
   by_cases d:U<=Q
   case neg =>
    go_quiet ((go_at_call 66;exact Calls.quiet_of_same (pL _ _ y.j _)));go_wp2_with fail;go_meet;exact⟨by rw[show decide (¬(0<=U/\U<=Q))=true by simp only[BH];omega],below_drewN D nq⟩
   go_quiet ((go_at_call 66;exact Calls.quiet_of_same (pL _ _ y.j _)));go_wp2_with fail;go_meet
   exact⟨by rw[show decide (¬(0<=U/\U<=Q))=false by simp only[JK];omega,show decide (Q<U)=false by simp only[JK];omega];simp;try omega,below_drewN D nq⟩
  case rest =>
  clear j k l m n o p q s t v;obtain⟨rfl,d⟩:=hcut
  rename World=>v3
  replace r:=r.I d;replace b:=b.E (d.J b.size);clear d;obtain⟨j,k,l,m,n,o,p,q,s,t,v⟩:=c10 r
  by_cases K:0<=U/\U<=Q
  case neg =>
   obtain rfl:E=false:=g.j (.inr (.inr (.inr (.inr (.inl K)))));rw[show decide (¬(0<=U/\U<=Q))=true by simp only[BH];omega];go_wp2_with fail;go_ret;exact⟨z,b⟩
  rw[show decide (¬(0<=U/\U<=Q))=false by simp only[JK];omega]
  by_cases u:0<=O
  case neg =>
   obtain rfl:E=false:=g.j (.inr (.inr (.inr (.inr (.inr (.inl (λi=>u i.1)))))));go_wp2_with fail;go_ret;exact⟨z,b⟩
  by_cases V:O<=U
  case neg =>
   obtain rfl:E=false:=g.j (.inr (.inr (.inr (.inr (.inr (.inl (λi=>V i.2)))))));go_wp2_with fail;go_ret;exact⟨z,b⟩
  go_wp2_with fail;clear j k l m n o p q s t v;have i:=aH.j _ b;refine i.J ?_;rintro e v4 ⟨rfl,d⟩;replace r:=r.I d;replace b:=b.E (d.J b.size);clear d i;obtain⟨j,k,l,m,n,o,p,q,s,t,v⟩:=c10 r
  cases d7:MH f with
  | false =>
   obtain rfl:E=false:=g.j (.inr (.inr (.inr (.inr (.inr (.inr (.inl d7)))))));go_wp2_with fail;go_ret;exact⟨z,b⟩
  | true =>
   have i:=LE d7;clear d7;go_wp2_with fail;refine(I.j _ b).J ?_;rintro e v5 ⟨rfl,d⟩;replace b:=b.E (d.J b.size);clear d
   have d:E=decide (MY (NC f) W<=Q-1):=by
    rw[G.j];unfold OW;rw[A,C,aF.j,i.j,AM (⟨X,P⟩:1<=L/\L<=60000),AM (⟨u,V⟩:0<=O/\O<=U),<-y.j,AM K];simp
   subst d;clear j k l m n o p q s t v;go_wp2_with fail;go_ret;exact⟨z,b⟩
theorem rq(w:Q9)(A:Array Ra)(t:TypeId)(g:Nat)(a:g=w.heap.size):Row (w.alloc (.cells A t)) g A.toList:=by subst a;exact LZ w A t
structure Wo where
 w:Int
 ss:List Q4
 ws:List (Int×Q4)
 up:Bool
 W:Int
 S:Int
 L:Int
 T:Int
 H:Int
 F:Int
 R:Int
 U:Int
 O:Int
 rs:List (Q4×Q4)
 P:List (List (Q4×Q4))
 ts:List Q4
structure Wp where
 a:Q5
 c:Nat
 a':Q5
 c':Nat
 s:Q5
 cs:Nat
 p:Q5
 cp:Nat
 t:Q5
 ct:Nat
def MD(x:Wo)(q:Wp):Ra:=.agg #[Z x.w,Y q.a x.ss.length q.c,Y q.a' x.ws.length q.c',Q1 x.up,Z x.W,Z x.S,Z x.L,Z x.T,Z x.H,Z x.F,Z x.R,Z x.U,Z x.O,Y q.s x.rs.length q.cs,Y q.p x.P.length q.cp,Y q.t x.ts.length q.ct]
structure Wo.at(x:Wo)(w:Q9)(q:Wp):Prop where
 h1:Strs w q.a x.ss
 h2:Wrs w q.a' x.ws
 h3:Prs w q.s x.rs
 h4:Pst w q.p x.P
 h5:Strs w q.t x.ts
theorem Wo.at.I{x:Wo}{w b:Q9}{q:Wp}(h:x.at w q)(a:Q3 w b):x.at b q:=⟨h.h1.I a,h.h2.I a,h.h3.I a,h.h4.I a,h.h5.I a⟩
structure Wo.le(x:Wo)(m:Nat):Prop where
 l1:x.ss.length<=m
 s1:∀s∈x.ss,s.size<=m
 l2:x.ws.length<=m
 s2:∀s∈x.ws,s.2.size<=m
 l3:x.rs.length<=m
 s3:∀s∈x.rs,s.1.size<=m/\s.2.size<=m
 l4:x.P.length<=m
 s4:∀rs∈x.P,rs.length<=m/\∀s∈rs,s.1.size<=m/\s.2.size<=m
 l5:x.ts.length<=m
 s5:∀s∈x.ts,s.size<=m
@[reducible] def wA(x:Wo)(q:Wp):Array Ra:=#[Z x.w,Y q.a x.ss.length q.c,Y q.a' x.ws.length q.c',Q1 x.up,Z x.W,Z x.S,Z x.L,Z x.T,Z x.H,Z x.F,Z x.R,Z x.U,Z x.O,Y q.s x.rs.length q.cs,Y q.p x.P.length q.cp,Y q.t x.ts.length q.ct]
@[reducible] def wL(x:Wo)(q:Wp):List Ra:=[Z x.w,Y q.a x.ss.length q.c,Y q.a' x.ws.length q.c',Q1 x.up,Z x.W,Z x.S,Z x.L,Z x.T,Z x.H,Z x.F,Z x.R,Z x.U,Z x.O,Y q.s x.rs.length q.cs,Y q.p x.P.length q.cp,Y q.t x.ts.length q.ct]
def RQ(x:Wo):Bool:=decide (x.W=0/\x.S=0/\x.L=0/\(x.T=0/\x.H=0/\x.F=0/\x.R=0)/\x.U=0/\x.O=0/\x.rs.length=0)
def QJ(x:Wo):Bool:=if x.up=true then OW x.W x.S x.L x.T x.H x.F x.R x.U x.O x.rs && decide (x.W=x.w/\x.S=(x.ss.length:Int)) else RQ x
def RJ(P:List (List (Q4×Q4))):Bool:=decide (1<=P.length/\P.length<=200) && P.all MH
def ST(a:List Q4):Bool:=decide (a.length<=2000) && a.all λs=>decide (s.size=64)
def MF(x:Wo):Bool:=decide (1<=x.w/\x.w<=8) && (LT x.ss x.ws && (QJ x && (RJ x.P && ST x.ts)))
theorem Eg(a:Q5)(P:List (List (Q4×Q4)))(c:Nat)(w:Q9)(h:Pst w a P)(M:P.length<=1048576)(E:∀g∈P,g.length<=1048576/\∀s∈g,s.1.size<=1048576/\s.2.size<=1048576):Calls prog 86 #[Y a P.length c] w λe b=>e=Q2 (Q1 (RJ P))/\Q3 w b:=by
 by_cases f:P.length<1
 .have e:RJ P=false:=by unfold RJ;rw[AH d];rfl
  rw[e];have G:(P.length:Int)<1:=d
  go_enter func86,ntmps86;go_wp2;go_ret;exact⟨z,D⟩
 have G:¬(P.length:Int)<1:=d
 by_cases i:200<P.length
 .have e:RJ P=false:=by unfold RJ;rw[AH d];rfl
  rw[e];have H:(200:Int)<(P.length:Int):=d
  go_enter func86,ntmps86;go_wp2;go_ret;exact⟨z,D⟩
 have H:¬(200:Int)<(P.length:Int):=d
 have v:Hid (∀k,k<P.length->MH (P.getD k [])=false->RJ P=false):=λk l b=>by
  unfold RJ;have:P.all MH=false:=FN.2 ⟨P.getD k [],by simp[List.getD,l],by rw[b];simp⟩;rw[this,IK]
 have A:Hid ((∀k,k<P.length->MH (P.getD k [])=true)->RJ P=true):=λb=>by
  unfold RJ;rw[AM d,GL]
  refine DI.2 λg m=>?_
  obtain⟨k,l,rfl⟩:=EM m;have:=b k l;simpa[List.getD,l] using this
 obtain⟨B,F⟩:=x (RJ P);rw[<-F.j]at v A⊢;clear f i;go_enter func86,ntmps86;go_wp2;go_loopw [4,15] (λ_ i wr=>∃k:Nat,k<=P.length/\i=Z (k:Int)/\Hid (∀f,f<k->MH (P.getD f [])=true)/\Q3 w wr) (λ_ i _=>P.length-(intOf i).toNat)
 case atStart=>exact⟨0,AL,z,λf t=>absurd t d,D⟩
 case round =>
  obtain⟨k,l,rfl,u,m⟩:=hrel
  by_cases s:k<P.length
  .obtain⟨b,o,p,J,rfl,L,I,y⟩:=(h.I m).at s
   obtain⟨g,q⟩:=x (P.getD k []);rw[<-q.j]at I y;have C:g∈P:=by rw[q.j];simp[List.getD,s]
   have i:=LE (λn=>ky p g J (wr.alloc n) (y.j.I (MI _ _)) (E g C).1 (E g C).2);have n:=LE m;clear m
   cases hst:MH g with
   | false =>
    rw[hst]at i;obtain rfl:B=false:=v.j k s (by rw[<-q.j];exact hst);go_wp2_with (go_at_call 97;refine(i.j _).J ?_;rintro e K ⟨rfl,r⟩);go_ret;exact⟨z,n.j.E (((MI wr _).E (r.J j)).J n.j.size)⟩
   | true =>
    rw[hst]at i;go_wp2_with (go_at_call 97;refine(i.j _).J ?_;rintro e K ⟨rfl,r⟩);go_roundw
    case rel=>exact⟨k+1,d,ν,λf t=>by
     by_cases e:f=k
     .subst e;rw[<-q.j];exact hst
     exact u.j f d,n.j.E (((MI wr _).E (r.J j)).J n.j.size)⟩
    case measure=>simp[intOf];omega
  obtain rfl:B=true:=A.j (λf t=>u.j f d)
  go_wp2;go_ret;exact⟨z,m⟩
theorem Jf(a:Q5)(f:List Q4)(c:Nat)(w:Q9)(h:Strs w a f)(E:f.length<=1048576)(y:∀s∈f,s.size<=1048576):Calls prog 87 #[Y a f.length c] w λe b=>e=Q2 (Q1 (ST f))/\Q3 w b:=by
 by_cases i:2000<f.length
 .have e:ST f=false:=by unfold ST;rw[AH d];rfl
  rw[e];have v:(2000:Int)<(f.length:Int):=d
  go_enter func87,ntmps87;go_wp2;go_ret;exact⟨z,D⟩
 have v:¬(2000:Int)<(f.length:Int):=d
 have p:Hid (∀k,k<f.length->¬(f.getD k empty).size=64->ST f=false):=λk g b=>by
  unfold ST;have:(f.all λs=>decide (s.size=64))=false:=FN.2 ⟨f.getD k empty,by simp[List.getD,g],by simpa using b⟩;rw[this,IK]
 have q:Hid ((∀k,k<f.length->(f.getD k empty).size=64)->ST f=true):=λb=>by
  unfold ST;rw[AM d,GL]
  refine DI.2 λs j=>?_
  obtain⟨k,g,rfl⟩:=EM j;have:=b k g;simpa[List.getD,g] using this
 obtain⟨B,t⟩:=x (ST f);rw[<-t.j]at p q⊢;clear i;go_enter func87,ntmps87;go_wp2;go_loopw [4,10] (λ_ i wr=>∃k:Nat,k<=f.length/\i=Z (k:Int)/\Hid (∀j,j<k->(f.getD j empty).size=64)/\wr=w) (λ_ i _=>f.length-(intOf i).toNat)
 case atStart=>exact⟨0,AL,z,λj m=>absurd m d,z⟩
 case round =>
  obtain⟨k,g,rfl,n,rfl⟩:=hrel
  by_cases l:k<f.length
  .obtain⟨b,o,s,rfl,C,i⟩:=h.at l
   have A:=y s (by rw[i.j];simp[List.getD,l])
   by_cases r:s.size=64
   .have u:(s.size:Int)=64:=d
    go_wp2;go_roundw
    case rel=>exact⟨k+1,d,ν,λj m=>by
     by_cases e:j=k
     .subst e;rw[<-i.j];exact r
     exact n.j j d,by first|rfl|trivial⟩
    case measure=>simp[intOf];omega
   have u:¬(s.size:Int)=64:=d
   obtain rfl:B=false:=p.j k l (by rw[<-i.j];exact r);go_wp2;go_ret;exact⟨z,D⟩
  obtain rfl:B=true:=q.j (λj m=>n.j j d)
  go_wp2;go_ret;exact⟨z,D⟩
