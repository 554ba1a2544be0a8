import Derived.Test.YteflhojcomcfaaaGreatDoorPrG34
import Derived.Test.YteflhojcomcfaaaGreatDoorPrWoE
import Derived.Test.YteflhojcomcfaaaGreatDoorPrG22
import Derived.Test.YteflhojcomcfaaaGreatDoorPrG23
import Derived.Lib.ItoaMem
import Derived.Lib.AtoiAllCases
import Derived.Lib.Bytealg
import Derived.Lib.Strings
import Derived.Lib.IndexLaws
import Derived.Shelf.LaysM
import Derived.Shelf.LaysC
import Derived.Shelf.Strconv.Itoa3
import Derived.Shelf.Strconv.AtoiAll
import Derived.Lib.AppendIntMem
set_option maxHeartbeats 16000000
set_option maxRecDepth 8000
set_option linter.all false
namespace Go.Proofs.YteflhojcomcfaaaGreatDoor
open _root_.ByteArray(empty)
section
open Tryz
open Go.RowKit
variable {s t:Q4}{ts ws:List Q4}{cs:List Ra}{i k n:Nat}{v:Ra}{w:Q9}
section
theorem zF{a:List Q4}(h:a.map Value.string=[]):a.length=0:=by have:=BD List.length h;simpa using this
theorem qI{ws:List (Int×Q4)}(h:MZ ws=[]):ws.length=0:=by
 cases ws with
 | nil=>rfl
 | cons a l=>simp[MZ]at h
theorem OwL.other{c:Q9}{o:Nat->Nat}{a:Q5}{b:List Ra}(h:OwL w o k a cs)(l:OwnS c a b)(e:b≠[]->cs≠[]):OwL c o k a b :=nC l (λg d f=>h.gb (m:=1) (λj=>absurd j (e f)) (by rw[d];rfl))
theorem OwL.apart{o:Nat->Nat}{f m c:Nat}{a b:Q5}{d:List Ra}(h:OwL w o k a cs)(p:OwL w o f b d)(q:k≠f)(r:cs=[]->m=0)(j:d=[]->c=0):blk a m=none\/blk b c=none\/blk a m≠blk b c:=by
 cases e:blk a m with
 | none=>exact .inl rfl
 | some g=>exact .inr (.inr λl=>q ((h.gb r e).symm.E (p.gb j l.symm)))
theorem Row.only{b:Q9}{o:Nat->Nat}{K:Nat->Prop}{g:Nat}(r:Row w g cs)(a:Only o K w b)(c:¬K (o g)):Row b g cs:=VM r (a.block g r.lt c) (AC r.lt a.size)
section
variable (x:Wo) (q:Wp) (o:Nat->Nat) (w:Q9)
end
end
theorem Jd{P:List (List (Q4×Q4))}(k:Nat)(a:k<P.length)(b:MH (P.getD k [])=false):RJ P=false:=by
 unfold RJ;have:P.all MH=false:=FN.2 ⟨P.getD k [],by simp[List.getD,a],by rw[b];simp⟩;rw[this,IK]
theorem Mm{P:List (List (Q4×Q4))}(h:1<=P.length/\P.length<=200)(c:∀k,k<P.length->MH (P.getD k [])=true):RJ P=true:=by
 unfold RJ;rw[AM h,GL]
 refine DI.2 λd b=>?_
 obtain⟨k,a,rfl⟩:=EM b;have:=c k a;simpa[List.getD,a] using this
theorem Ja(k:Nat)(a:k<ts.length)(b:¬(ts.getD k empty).size=64):ST ts=false:=by
 unfold ST;have:(ts.all λs=>decide (s.size=64))=false:=FN.2 ⟨ts.getD k empty,by simp[List.getD,a],by simpa using b⟩;rw[this,IK]
theorem L2(h:ts.length<=2000)(c:∀k,k<ts.length->(ts.getD k empty).size=64):ST ts=true:=by
 unfold ST;rw[AM h,GL]
 refine DI.2 λs b=>?_
 obtain⟨k,a,rfl⟩:=EM b;have:=c k a;simpa[List.getD,a] using this
theorem P6{x:Wo}(h:decide (1<=x.w/\x.w<=8)=false):MF x=false:=by unfold MF;rw[h];rfl
theorem Gz{x:Wo}(h:LT x.ss x.ws=false):MF x=false:=by unfold MF;rw[h];simp
theorem Ii{x:Wo}(h:QJ x=false):MF x=false:=by unfold MF;rw[h];simp
theorem A6{x:Wo}(h:RJ x.P=false):MF x=false:=by unfold MF;rw[h];simp
theorem qY{x:Wo}(h:ST x.ts=false):MF x=false:=by unfold MF;rw[h];simp
theorem Qp{x:Wo}(a:decide (1<=x.w/\x.w<=8)=true)(b:LT x.ss x.ws=true)(c:QJ x=true)(d:RJ x.P=true)(e:ST x.ts=true):MF x=true:=by unfold MF;rw[a,b,c,d,e];rfl
theorem Py{x:Wo}(a:x.up=true):QJ x=(OW x.W x.S x.L x.T x.H x.F x.R x.U x.O x.rs && decide (x.W=x.w/\x.S=(x.ss.length:Int))):=by unfold QJ;rw[G a]
theorem Na{x:Wo}(a:x.up=false):QJ x=RQ x:=by unfold QJ;rw[A (by rw[a];simp)]
theorem pT(a:Wo)(q:Wp)(w:Q9)(h:a.at w q)(f:a.le 1048576):Calls prog 76 #[MD a q] w λe c=>e=Q2 (Q1 (MF a))/\Q3 w c:=by
 have bY:=f.l4;have bZ:=f.l5;have bW:=f.l1;obtain⟨L,o⟩:∃b,decide (1<=a.w/\a.w<=8)=b:=⟨_,z⟩;obtain⟨M,p⟩:∃b,LT a.ss a.ws=b:=⟨_,z⟩;obtain⟨F,K⟩:∃b,decide ((1:Int)<=(a.P.length:Int)/\(a.P.length:Int)<=200)=b:=⟨_,z⟩;obtain⟨ds,T⟩:∃b,OW a.W a.S a.L a.T a.H a.F a.R a.U a.O a.rs=b:=⟨_,z⟩;obtain⟨D,S⟩:∃b,RQ a=b:=⟨_,z⟩;obtain⟨N,j⟩:∃b,decide (a.ts.length<=2000)=b:=⟨_,z⟩;obtain⟨O,y⟩:∃b,QJ a=b:=⟨_,z⟩;have P:=LE (RZ a.w);have Q:=LE (λc b g=>ZX q.a a.ss q.c q.a' a.ws q.c' c b g f.l1 f.l2 f.s1 f.s2);have W:=LE (λc=>jy (a.P.length:Int) 1 200 F K c);have G:=LE (λc=>Jh a q c f.l3);have H:=LE (λc k=>sk a.W a.S a.L a.T a.H a.F a.R a.U a.O q.s a.rs q.cs c k f.l3 f.s3);unfold NA at G H;rw[o]at P;rw[p]at Q;rw[T]at H;rw[S]at G;obtain⟨E,l⟩:=nHz (MF a);rw[<-l.j];have R:=LE f;have u:=LE h;clear f h;unfold MD
 go_enter func76,ntmps76;go_upto_region 1 with fail;generalize b:w.alloc _=v1;obtain⟨c,m,g⟩:=LP b;have r:Row v1 w.heap.size (wL a q):=g.q;clear b m g;generalize Value.agg _=A0;go_cut [27] from 5 to 26 (λU V=>U=Q1 (!(L && M && F && N))/\Q3 v1 V)
 case first =>
  have A:=r.y 0;have g:=r.lt;go_wp2_with fail;refine(P.j _).J ?_;refine OF ?_
  cases L with
  | false=>go_wp2_with fail;go_meet;exact⟨z,AB⟩
  | true =>
  have B:=r.y 1;have C:=r.y 2;go_wp2_with fail;refine(Q.j _ (u.j.h1.I c) (u.j.h2.I c)).J ?_;rintro e v2 ⟨rfl,b⟩;clear A B C g
  cases M with
  | false=>go_wp2_with fail;go_meet;exact⟨z,b⟩
  | true =>
  have m:=(r.I b).y 14;have g:=(r.I b).lt;go_wp2_with fail;refine(W.j _).J ?_;refine OF ?_
  cases F with
  | false=>go_wp2_with fail;go_meet;exact⟨z,b⟩
  | true =>
  have J:=(r.I b).y 15
  cases N with
  | false =>
   have A:(2000:Int)<(a.ts.length:Int):=by have:=GV j;omega
   go_wp2_with fail;go_meet;exact⟨z,b⟩
  | true =>
   have A:¬(2000:Int)<(a.ts.length:Int):=by have:=AW j;omega
   go_wp2_with fail;go_meet;exact⟨by rw[AH (show ¬(2000:Int)<(a.ts.length:Int) by omega)];rfl,b⟩
 case rest =>
 obtain⟨rfl,b⟩:=hcut
 rename World=>v2
 replace r:=r.I b;replace c:=c.E (b.J c.size);clear b P Q W
 cases hall:(L && M && F && N) with
 | false =>
  obtain rfl:E=false:=by
   rw[l.j]
   cases L with
   | false=>exact P6 o
   | true =>
   cases M with
   | false=>exact Gz p
   | true =>
   cases F with
   | false=>exact A6 (by unfold RJ;rw[AH (λk=>GV K ⟨d,d⟩)];rfl)
   | true =>
   cases N with
   | false=>exact qY (by unfold ST;rw[j];rfl)
   | true=>cases hall
  go_wp2;go_ret;exact⟨z,c⟩
 | true =>
  simp only[BF]at hall;obtain⟨⟨⟨rfl,rfl⟩,rfl⟩,rfl⟩:=hall;have hP:1<=a.P.length/\a.P.length<=200:=by have:=AW K;omega
  have bT:=AW j;have bB:=LE o;have bC:=LE p;clear o p K j;go_upto_region 3 with fail;go_cut [64] from 28 to 63 (λU V=>U=Q1 (!O)/\Q3 v2 V)
  case first =>
   obtain⟨A,B,C,o,Q,U,V,W,X,I,c10,K,c12,P,m,J,g⟩:=c16 r
   cases hup:a.up with
   | false =>
    rw[hup]at o;have j:=LE (show O=D by rw[<-y,Na hup];exact S);clear hup;go_wp2_with fail;clear A B C o Q U V W X I c10 K c12 P m J g;refine(G.j _).J ?_;rintro e x ⟨rfl,b⟩
    cases D with
    | false=>go_wp2_with fail;go_meet;exact⟨by rw[j.j];rfl,b⟩
    | true=>go_wp2_with fail;go_meet;exact⟨by rw[j.j];rfl,b⟩
   | true =>
    rw[hup]at o;have j:=LE (show O=(ds && decide (a.W=a.w/\a.S=(a.ss.length:Int))) by rw[<-y,Py hup,T]);go_wp2_with fail;clear A B C o Q U V W X I c10 K c12 P m J g;refine(H.j _ (u.j.h3.I c)).J ?_;rintro e x ⟨rfl,b⟩;replace r:=r.I b;obtain⟨A,B,C,o,Q,U,V,W,X,I,c10,K,c12,P,m,J,g⟩:=c16 r;rw[hup]at o;clear hup
    cases ds with
    | false=>go_wp2_with fail;go_meet;exact⟨by rw[j.j];rfl,b⟩
    | true =>
    by_cases hw:a.W=a.w
    .by_cases hs:a.S=(a.ss.length:Int)
     .have p:=LE (AG hw hs)
      go_wp2_with fail;go_meet;exact⟨by rw[j.j,AM p.j];rfl,b⟩
     have p:=LE hs
     go_wp2_with fail;go_meet;exact⟨by rw[j.j,AH (λk=>p.j k.2)];rfl,b⟩
    have p:=LE hw
    go_wp2_with fail;go_meet;exact⟨by rw[j.j,AH (λk=>p.j k.1)];rfl,b⟩
  case rest =>
  obtain⟨rfl,b⟩:=hcut
  rename World=>x
  replace r:=r.I b;replace c:=c.E (b.J c.size);clear b G H T S
  cases O with
  | false =>
   obtain rfl:E=false:=by rw[l.j];exact Ii y
   go_wp2;go_ret;exact⟨z,c⟩
  | true =>
   have Q:=LE y;clear y;have m:=r.y 14;have g:=r.lt;go_wp2_with fail;clear m g;go_loopw [3] (λi wr=>∃k:Nat,k<=a.P.length/\i=Z (k:Int)/\Hid (∀j,j<k->MH (a.P.getD j [])=true)/\Hid (Q3 x wr)) (λi _=>a.P.length-(intOf i).toNat)
   case atStart=>exact⟨0,AL,z,λj g=>absurd g d,AB⟩
   case round =>
    obtain⟨k,hk,rfl,K,B⟩:=hrel;have m:=c.E (B.j.J c.size);replace r:=r.I B.j;have W:=r.y 14;have ql:=r.lt
    by_cases J:k<a.P.length
    .have T:(k:Int)<(a.P.length:Int):=d
     obtain⟨b,o,p,U,P,V,S,G⟩:=(u.j.h4.I m).at J;obtain⟨y,C⟩:=nHz (a.P.getD k []);rw[<-C.j]at S G;have H:y∈a.P:=by rw[C.j];simp[List.getD,J]
     have A:=LE (lk p y U wr G.j (R.j.s4 y H).1 (R.j.s4 y H).2);clear H G r;rw[P]at W;clear P
     cases hst:MH y with
     | false =>
      obtain rfl:E=false:=by rw[l.j];exact A6 (Jd k J (by rw[<-C.j];exact hst))
      rw[hst]at A;go_wp2_with (go_at_call 106;refine A.j.J ?_;rintro e P ⟨rfl,G⟩);go_ret;exact⟨z,m.E (G.J m.size)⟩
     | true =>
      rw[hst]at A;have H:=LE hst;clear hst;go_wp2_with (go_at_call 106;refine A.j.J ?_;rintro e P ⟨rfl,G⟩);go_roundw
      case rel =>
       refine⟨_,_,_,_,_,_,_,_,_,_,_,_,_,_,_,_,?_,z⟩
       exact⟨k+1,d,ν,λj g=>by
        by_cases e:j=k
        .subst e;rw[<-C.j];exact H.j
        exact K.j j d,B.j.E (G.J B.j.size)⟩
      case measure=>simp[intOf];omega
    have T:¬(k:Int)<(a.P.length:Int):=d
    have S:=LE (Mm hP (λj g=>K.j j d));have X:=r.y 15;go_wp2;go_loopw [4] (λi b=>∃k:Nat,k<=a.ts.length/\i=Z (k:Int)/\Hid (∀j,j<k->(a.ts.getD j empty).size=64)/\b=wr) (λi _=>a.ts.length-(intOf i).toNat)
    case atStart=>exact⟨0,AL,z,λj g=>absurd g d,by first|rfl|trivial⟩
    case round =>
     obtain⟨p,I,rfl,C,V⟩:=hrel;subst V
     by_cases A:p<a.ts.length
     .have P:(p:Int)<(a.ts.length:Int):=d
      obtain⟨b,o,s,U,hc,y⟩:=(u.j.h5.I m).at A;rw[U]at X;have cA:=R.j.s5 s (by rw[y.j];simp[List.getD,A])
      by_cases G:s.size=64
      .have H:(s.size:Int)=64:=d
       go_wp2;go_roundw
       case rel=>exact⟨p+1,d,ν,λj g=>by
        by_cases e:j=p
        .subst e;rw[<-y.j];exact G
        exact C.j j d,by first|rfl|trivial⟩
       case measure=>simp[intOf];omega
      have H:¬(s.size:Int)=64:=d
      obtain rfl:E=false:=by rw[l.j];exact qY (Ja p A (by rw[<-y.j];exact G))
      go_wp2;go_ret;exact⟨z,m⟩
     have P:¬(p:Int)<(a.ts.length:Int):=d
     obtain rfl:E=true:=by rw[l.j];exact Qp bB.j bC.j Q.j S.j (L2 d (λj g=>C.j j d))
     go_wp2;go_ret;exact⟨z,m⟩
def WC(n:Int)(ts:List Q4)(s:Q4):Bool:=(OA s n).isSome && !(ts.any λt=>decide (s=t))
def ZJ(n:Int)(ts:List Q4):List Q4->Q4
 | []=>empty
 | s::r=>if WC n ts s=true then s else ZJ n ts r
def XF(x:Wo):Q4:=if MF x=true then ZJ x.w x.ts x.ss else empty
theorem qx{n:Int}{r:List Q4}(h:WC n ts s=false):ZJ n ts (s::r)=ZJ n ts r:=by rw[ZJ,A (by rw[h];simp)]
theorem zE{n:Int}{r:List Q4}(h:WC n ts s=true):ZJ n ts (s::r)=s:=by rw[ZJ,G h]
theorem As(h:∀j,j<ts.length->¬s=ts.getD j empty):(ts.any λt=>decide (s=t))=false:=by
 refine List.any_eq_false.2 λt b=>?_
 obtain⟨k,a,rfl⟩:=EM b;have:=h k a;simpa[List.getD,a] using this
theorem sQ(j:Nat)(a:j<ts.length)(h:s=ts.getD j empty):(ts.any λt=>decide (s=t))=true:=by
 refine List.any_eq_true.2 ⟨ts.getD j empty,by simp[List.getD,a],by simpa using h⟩
theorem sR(h:¬s=t):(s.toList == t.toList)=false:=by
 rw[BL];intro a;rw[CZ,CZ]at a;exact h (EV (Array.toList_inj.1 a))
theorem C6(a:Q5)(ts:List Q4)(c:Nat)(s:Q4)(w:Q9)(h:Strs w a ts)(y:ts.length<=1048576):Calls prog 68 #[Y a ts.length c,Ow s] w λe b=>(∃r:Int,e=Q2 (Z r)/\(ts.any λt=>decide (s=t))=decide (0<=r))/\b=w:=by
 go_enter func68,ntmps68;go_wp2;go_loopw [5,8] (λ_ i wr=>∃k:Nat,k<=ts.length/\i=Z (k:Int)/\Hid (∀j,j<k->¬s=ts.getD j empty)/\wr=w) (λ_ i _=>ts.length-(intOf i).toNat)
 case atStart=>exact⟨0,AL,z,λj l=>absurd l d,by first|rfl|trivial⟩
 case round =>
  obtain⟨k,x,rfl,m,rfl⟩:=hrel
  by_cases q:k<ts.length
  .have r:(k:Int)<(ts.length:Int):=d
   obtain⟨b,o,t,rfl,u,p⟩:=h.at q
   by_cases g:s=t
   .have f:=sQ k q (g.E p.j)
    go_wp2;go_ret
    exact⟨⟨(k:Int),z,by first|(rw[f,AM d])|omega|(simp[f];done)⟩,by first|rfl|trivial⟩
   have f:=sR g
   go_wp2;go_roundw
   case rel=>exact⟨k+1,d,ν,λj l=>by
    by_cases e:j=k
    .subst e;rw[<-p.j];exact g
    exact m.j j d,by first|rfl|trivial⟩
   case measure=>simp[intOf];omega
  have r:¬(k:Int)<(ts.length:Int):=d
  have f:=As (ts:=ts) (s:=s) (λj l=>m.j j d);go_wp2;go_ret
  exact⟨⟨-1,z,by first|(rw[f,AH d])|omega|(simp[f];done)⟩,by first|rfl|trivial⟩
theorem rQ(a:Q5)(ts:List Q4)(c:Nat)(s:Q4)(w:Q9)(h:Strs w a ts)(f:ts.length<=1048576):Calls prog 41 #[Y a ts.length c,Ow s] w λe b=>e=Q2 (Q1 (ts.any λt=>decide (s=t)))/\b=w:=by
 obtain⟨B,d⟩:=x (ts.any λt=>decide (s=t));have b:=LE (C6 a ts c s w h f);rw[<-d.j]at b⊢;go_enter func41,ntmps41;go_wp2_with (go_at_call 68;refine b.j.J ?_;rintro e j ⟨⟨r,rfl,g⟩,rfl⟩);go_ret;exact⟨by rw[g];rfl,z⟩
theorem Kf(a:Wo)(q:Wp)(w:Q9)(h:a.at w q)(hc:a.rs.length<=q.cs)(G:a.le 1048576)(ty:TypeId)(v:Ra)(hv:w.cell? (Ki 7 0)=some (.iface ty v))(h0:w.cell? (Ki 1 0)=some (.iface 318 (.agg #[Dr 10 58])))(hg:7<w.heap.size):Calls prog 65 #[MD a q] w λe b=>e=Q2 (Ow (XF a))/\Q3 w b:=by
 have r:=LE (λb k=>vo a q b k hc G);have CR:=LE (λs F (c:Q3 w F)=>oD s a.w F ty v ((c.cell (p:=(Ki 7 0)) hg).E hv) ((c.cell (p:=(Ki 1 0)) (by show 1<_;omega)).E h0) (by have:=c.size;omega));have u:=LE (λs F k=>rQ q.t a.ts q.ct s F k G.l5);have b:Q3 w w:=D
 cases hok:MF a with
 | false =>
  have e:XF a=empty:=by unfold XF;rw[AF (by rw[hok];simp)]
  rw[e];rw[hok]at r;unfold MD at r⊢;clear e;go_enter func65,ntmps65;go_wp2_with fail;obtain⟨l,f⟩:=nMz (w.alloc (.cells (wA a q) 47));have bV:l.heap.size=w.heap.size+1:=by rw[f];simp
  have c:Q3 w l:=by rw[f];exact(D).alloc (by exact C) _
  have m:Row l (w.heap.size) (wL a q):=by rw[f];exact(rq w (wA a q) 47 (w.heap.size) σ)
  have g:Dep l (w.heap.size) (w.heap.size+1) (λW=>Row W (w.heap.size) (wL a q)):=jl m C d d;clear m;rw[<-f];clear f;have f:=b.E (c.J b.size);clear b;have b:=f;clear f;clear c;refine(r.j _ (h.I b)).J ?_;rintro e V ⟨rfl,c⟩;have bU:l.heap.size<=V.heap.size:=c.size;have f:=g.I c;clear g;have g:=f;clear f;have f:=b.E (c.J b.size);clear b;have b:=f;clear f;clear c;go_wp2;go_ret;exact⟨z,b⟩
 | true =>
  have cC:0<a.ss.length:=by
   have f:LT a.ss a.ws=true:=by
    unfold MF at hok;simp only[BF]at hok;exact hok.2.1
   have:=(QH f).1;omega
  obtain⟨J,o⟩:=nHz (XF a);have HF:Hid (ZJ a.w a.ts a.ss=J):=by show _=_;rw[o.j];unfold XF;rw[AI hok]
  rw[<-o.j];rw[hok]at r;have cI:=G.l1;obtain⟨qa,R,L,M,T,O,S,N,U,P⟩:=q;obtain⟨b0,Q,cJ,bW,_,_⟩:=h.h1.at cC;simp only at bW;subst bW;unfold MD at r⊢;simp only at r u hc⊢;go_enter func65,ntmps65;go_wp2_with fail;obtain⟨l,f⟩:=nMz (w.alloc (.cells #[Z a.w,Y (Hw b0 Q) a.ss.length R,Y L a.ws.length M,Q1 a.up,Z a.W,Z a.S,Z a.L,Z a.T,Z a.H,Z a.F,Z a.R,Z a.U,Z a.O,Y T a.rs.length O,Y S a.P.length N,Y U a.ts.length P] 47));have bV:l.heap.size=w.heap.size+1:=by rw[f];simp
  have c:Q3 w l:=by rw[f];exact(D).alloc (by exact C) _
  have m:Row l (w.heap.size) [Z a.w,Y (Hw b0 Q) a.ss.length R,Y L a.ws.length M,Q1 a.up,Z a.W,Z a.S,Z a.L,Z a.T,Z a.H,Z a.F,Z a.R,Z a.U,Z a.O,Y T a.rs.length O,Y S a.P.length N,Y U a.ts.length P]:=by rw[f];exact(rq w #[Z a.w,Y (Hw b0 Q) a.ss.length R,Y L a.ws.length M,Q1 a.up,Z a.W,Z a.S,Z a.L,Z a.T,Z a.H,Z a.F,Z a.R,Z a.U,Z a.O,Y T a.rs.length O,Y S a.P.length N,Y U a.ts.length P] 47 (w.heap.size) σ)
  have g:Dep l (w.heap.size) (w.heap.size+1) (λW=>Row W (w.heap.size) [Z a.w,Y (Hw b0 Q) a.ss.length R,Y L a.ws.length M,Q1 a.up,Z a.W,Z a.S,Z a.L,Z a.T,Z a.H,Z a.F,Z a.R,Z a.U,Z a.O,Y T a.rs.length O,Y S a.P.length N,Y U a.ts.length P]):=jl m C d d;clear m;rw[<-f];clear f;have f:=b.E (c.J b.size);clear b;have b:=f;clear f;clear c;refine(r.j _ (h.I b)).J ?_;rintro e V ⟨rfl,c⟩;have bU:l.heap.size<=V.heap.size:=c.size;have f:=g.I c;clear g;have g:=f;clear f;have f:=b.E (c.J b.size);clear b;have b:=f;clear f;clear c;obtain⟨E,H,I,K,W,X,x,A,j,bB,c,f,m,p,y,B⟩:=g.q.k16;have bC:=g.q.lt;go_wp2;clear E H I K W X x A j bB c f m p y B bC;have E:=LE g;have HE:=LE b
  clear g b o;go_loopw [4,5,6,14] (λ_ _ _ i wr=>∃k:Nat,k<=a.ss.length/\i=Z (k:Int)/\Hid (ZJ a.w a.ts (a.ss.drop k)=J)/\Hid (Q3 V wr)) (λ_ _ _ i _=>a.ss.length-(intOf i).toNat)
  case atStart=>exact⟨0,AL,z,by show _=_;rw[FI];exact HF.j,D⟩
  case round =>
   obtain⟨k,hk,rfl,I,c⟩:=hrel;have K:=HE.j.E (c.j.J HE.j.size)
   by_cases bY:k<a.ss.length
   .have bZ:(k:Int)<(a.ss.length:Int):=d
    obtain⟨b,o,s,he,cF,HS⟩:=(h.h1.I K).at bY;simp only at he
    cases he
    have W:Hid (a.ss.drop k=s::a.ss.drop (k+1)):=by show _=_;rw[eg a.ss k empty bY,<-HS.j]
    have q0:=(E.j.I c.j).q.y 0;have cH:=(E.j.I c.j).q.lt;have m:=LE K;clear K;have p:=LE (CR.j s wr m.j)
    cases hR:OA s a.w with
    | none =>
     have H:WC a.w a.ts s=false:=by unfold WC;rw[hR];rfl
     rw[hR]at p;unfold WJ OD at p;go_wp2_with (go_at_call 104;refine p.j.J ?_;rintro e y ⟨rfl,g⟩;have f:=LE g;clear g);go_roundw
     case rel=>exact⟨k+1,d,ν,by show _=_;rw[<-I.j,W.j,qx H],c.j.E ((f.j.J c.j.size).E ((MI y _).J (AJ c.j.size f.j.size)))⟩
     case measure=>simp[intOf];omega
    | some pg =>
     rw[hR]at p;obtain⟨pk,pl,pm,pp⟩:=pg;unfold WJ OD at p;simp only at p;obtain⟨B,A⟩:∃B,(a.ts.any λt=>decide (s=t))=B:=⟨_,z⟩;have x:=LE (λF k=>u.j s F k);rw[A]at x
     cases B with
     | true =>
      have H:WC a.w a.ts s=false:=by unfold WC;rw[hR,A];rfl
      go_wp2_with (first|(go_at_call 104;refine p.j.J ?_;rintro e y ⟨rfl,g⟩;have cE:=((E.j.I c.j).I g).q.y 15;have cA:=((E.j.I c.j).I g).q.lt;have f:=LE g;clear g)|(go_at_call 41;refine(x.j _ (h.h5.I (m.j.E ((f.j.J m.j.size).E ((MI y _).J (AJ m.j.size f.j.size)))))).J ?_;rintro e j ⟨rfl,F⟩;rw[F];clear F j))
      go_roundw
      case rel=>exact⟨k+1,d,ν,by show _=_;rw[<-I.j,W.j,qx H],c.j.E ((f.j.J c.j.size).E ((MI y _).J (AJ c.j.size f.j.size)))⟩
      case measure=>simp[intOf];omega
     | false =>
      have H:WC a.w a.ts s=true:=by unfold WC;rw[hR,A];rfl
      have X:J=s:=by rw[<-I.j,W.j,zE H]
      go_wp2_with (first|(go_at_call 104;refine p.j.J ?_;rintro e y ⟨rfl,g⟩;have cE:=((E.j.I c.j).I g).q.y 15;have cA:=((E.j.I c.j).I g).q.lt;have f:=LE g;clear g)|(go_at_call 41;refine(x.j _ (h.h5.I (m.j.E ((f.j.J m.j.size).E ((MI y _).J (AJ m.j.size f.j.size)))))).J ?_;rintro e j ⟨rfl,F⟩;rw[F];clear F j))
      go_ret
      exact⟨by first|rfl|(rw[X];rfl),m.j.E ((f.j.J m.j.size).E ((MI y _).J (AJ m.j.size f.j.size)))⟩
   have bZ:¬(k:Int)<(a.ss.length:Int):=d
   have X:J=empty:=by rw[<-I.j,EA d];rfl
   go_wp2;go_ret
   exact⟨by first|rfl|(rw[X];rfl),K⟩
theorem Po(a:Wo)(q:Wp)(w:Q9)(h:a.at w q)(L:a.le 1048576):Calls prog 74 #[MD a q] w λe b=>e=Q2 (Ow (XF a))/\Q3 w b:=by
 have F:=LE (λb k=>pT a q b k L);have CR:=LE (λs wx (hs:s.size<=1048576)=>mR s a.w wx hs);have b:Q3 w w:=D;have cX:=L.l1;have cZ:=L.l5;unfold MD at F⊢
 cases hok:MF a with
 | false =>
  have e:XF a=empty:=by unfold XF;rw[AF (by rw[hok];simp)]
  rw[e];rw[hok]at F;clear e;go_enter func74,ntmps74;go_wp2_with fail;obtain⟨r,f⟩:=nMz (w.alloc (.cells (wA a q) 47));have bU:r.heap.size=w.heap.size+1:=by rw[f];simp
  have c:Q3 w r:=by rw[f];exact(D).alloc (by exact C) _
  have l:Row r (w.heap.size) (wL a q):=by rw[f];exact(rq w (wA a q) 47 (w.heap.size) σ)
  have g:Dep r (w.heap.size) (w.heap.size+1) (λW=>Row W (w.heap.size) (wL a q)):=jl l C d d;clear l;rw[<-f];clear f;have f:=b.E (c.J b.size);clear b;have b:=f;clear f;clear c;refine(F.j _ (h.I b)).J ?_;rintro e M ⟨rfl,c⟩;have bT:r.heap.size<=M.heap.size:=c.size;have f:=g.I c;clear g;have g:=f;clear f;have f:=b.E (c.J b.size);clear b;have b:=f;clear f;clear c;go_wp2;go_ret;exact⟨z,b⟩
 | true =>
  obtain⟨I,m⟩:=nHz (XF a);have HF:Hid (ZJ a.w a.ts a.ss=I):=by show _=_;rw[m.j];unfold XF;rw[AI hok]
  rw[<-m.j];rw[hok]at F;go_enter func74,ntmps74;go_wp2_with fail;obtain⟨r,f⟩:=nMz (w.alloc (.cells (wA a q) 47));have bU:r.heap.size=w.heap.size+1:=by rw[f];simp
  have c:Q3 w r:=by rw[f];exact(D).alloc (by exact C) _
  have l:Row r (w.heap.size) (wL a q):=by rw[f];exact(rq w (wA a q) 47 (w.heap.size) σ)
  have g:Dep r (w.heap.size) (w.heap.size+1) (λW=>Row W (w.heap.size) (wL a q)):=jl l C d d;clear l;rw[<-f];clear f;have f:=b.E (c.J b.size);clear b;have b:=f;clear f;clear c;refine(F.j _ (h.I b)).J ?_;rintro e M ⟨rfl,c⟩;have bT:r.heap.size<=M.heap.size:=c.size;have f:=g.I c;clear g;have g:=f;clear f;have f:=b.E (c.J b.size);clear b;have b:=f;clear f;clear c;obtain⟨B,E,H,J,K,N,O,P,Q,R,c,f,l,o,p,y⟩:=g.q.k16;have S:=g.q.lt;go_wp2;clear B E H J K N O P Q R c f l o p y S;have E:=LE g;have G:=LE b;clear g b m;go_loopw [3,4,5,6,7] (λi _ _ _ _ wr=>∃k:Nat,k<=a.ss.length/\i=Z (k:Int)/\Hid (ZJ a.w a.ts (a.ss.drop k)=I)/\Hid (Q3 M wr)) (λi _ _ _ _ _=>a.ss.length-(intOf i).toNat)
  case atStart=>exact⟨0,AL,z,by show _=_;rw[FI];exact HF.j,D⟩
  case round =>
   obtain⟨k,hk,rfl,H,g⟩:=hrel;have K:=G.j.E (g.j.J G.j.size);have A:=(E.j.I g.j).q.y 1;have cW:=(E.j.I g.j).q.lt
   by_cases S:k<a.ss.length
   .have cO:(k:Int)<(a.ss.length:Int):=d
    obtain⟨b,o,s,c,P,j⟩:=(h.h1.I K).at S;rw[c]at A;clear c;have cP:=L.s1 s (by rw[j.j];simp[List.getD,S]);have N:Hid (a.ss.drop k=s::a.ss.drop (k+1)):=by show _=_;rw[eg a.ss k empty S,<-j.j]
    have Q:=(E.j.I g.j).q.y 0;have u:=LE K;clear K;have J:=LE (CR.j s wr cP);obtain⟨R,U⟩:∃R,OA s a.w=R:=⟨_,z⟩;rw[U]at J
    obtain⟨V,W,X,x,B,hV,O⟩:∃V W X x B,WJ R=.tuple #[OD V W X x,Q1 B]/\B=R.isSome:=by
     cases R with
     | none=>exact⟨_,_,_,_,_,z,z⟩
     | some y=>obtain⟨k,l,m,p⟩:=y;exact⟨_,_,_,_,_,z,z⟩
    rw[hV]at J;unfold OD at J;go_wp2_with (go_at_call 110;refine J.j.J ?_;rintro e w2 ⟨rfl,c⟩;have f:=LE c;clear c);obtain⟨w3,c⟩:=nMz (w2.alloc (.cells #[Z V,Z W,Z X,Ow x] 156));rw[<-c];have m:Hid (Q3 wr w3):=by rw[c];exact f.j.E ((MI w2 _).J f.j.size)
    clear c f Q A P;have cS:=((E.j.I g.j).I m.j).q.y 15;have A:=((E.j.I g.j).I m.j).q.y 1;have cY:=((E.j.I g.j).I m.j).q.lt;have bW:=u.j.E (m.j.J u.j.size);go_loopw [6,7] (λl f p=>∃(n:Nat) (c:Bool),n<=a.ts.length/\f=Z (n:Int)/\l=Q1 c/\Hid ((c=true/\R.isSome=true/\∀i,i<n->¬s=a.ts.getD i empty)\/(c=false/\WC a.w a.ts s=false))/\Hid (p=w3)) (λ_ f _=>a.ts.length-(intOf f).toNat)
    case atStart =>
     refine⟨0,B,AL,z,by first|rfl|(rw[O]),?_,by first|rfl|trivial⟩
     cases B with
     | true=>exact .inl ⟨z,O.symm,λi hi=>absurd hi d⟩
     | false=>exact .inr ⟨z,by unfold WC;rw[U,<-O];rfl⟩
    case round =>
     obtain⟨n,c,hn,rfl,rfl,y,cI⟩:=hrel;have cQ:=cI.j;subst cQ
     by_cases p:n<a.ts.length/\c=true
     .obtain⟨T,rfl⟩:=p
      have cC:(n:Int)<(a.ts.length:Int):=d
      obtain⟨bt,ot,t,l,cV,P⟩:=(h.h5.I bW).at T;rw[l]at cS;clear l;rcases y.j with ⟨_,cL,cM⟩|⟨cJ,_⟩
      rotate_left
      .cases cJ
      by_cases l:t=s
      .have Q:WC a.w a.ts s=false:=by unfold WC;rw[sQ n T (by rw[<-P.j];exact l.symm)];simp
       have cH:=LE Q;clear Q;go_wp2;go_roundw
       case rel=>exact⟨n+1,false,d,ν,by first|rfl|simp[l],.inr ⟨z,cH.j⟩,by first|rfl|trivial⟩
       case measure=>simp[intOf];omega
      have cT:=sR l
      have Q:Hid (∀i,i<n+1->¬s=a.ts.getD i empty):=λi hi=>by
       by_cases e:i=n
       .subst e;rw[<-P.j];exactλe=>l e.symm
       exact cM i d
      go_wp2;go_roundw
      case rel=>exact⟨n+1,true,d,ν,by first|rfl|simp[l],.inl ⟨z,cL,Q.j⟩,by first|rfl|trivial⟩
      case measure=>simp[intOf];omega
     have Q:Hid (WC a.w a.ts s=c):=by
      rcases y.j with ⟨rfl,l,T⟩|⟨rfl,l⟩
      .have dB:¬n<a.ts.length:=λP=>p ⟨P,z⟩
       show _=_;unfold WC;rw[U,l,As (λf P=>T f d)];rfl
      exact l
     clear y
     have y:∀(P:Prop),(¬n<a.ts.length->P)->(n<a.ts.length->c=false->P)->P:=λP f T=>by
      by_cases l:n<a.ts.length
      .cases c with
       | true=>exact absurd ⟨l,z⟩ p
       | false=>exact T l z
      exact f l
     refine y _ (λl=>?_) (λl T=>?_)
     .have cC:¬(n:Int)<(a.ts.length:Int):=d
      clear p y
      cases c with
      | true =>
       have f:I=s:=by rw[<-H.j,N.j,zE Q.j]
       go_wp2;go_ret
       exact⟨by first|rfl|(rw[f];rfl),bW⟩
      | false =>
       go_wp2;go_roundw
       case rel=>exact⟨k+1,d,ν,by show _=_;rw[<-H.j,N.j,qx Q.j],g.j.E (m.j.J g.j.size)⟩
       case measure=>simp[intOf];omega
     have cC:(n:Int)<(a.ts.length:Int):=d
     subst T;clear p y;go_wp2;go_roundw
     case rel=>exact⟨k+1,d,ν,by show _=_;rw[<-H.j,N.j,qx Q.j],g.j.E (m.j.J g.j.size)⟩
     case measure=>simp[intOf];omega
   have cO:¬(k:Int)<(a.ss.length:Int):=d
   have f:I=empty:=by rw[<-H.j,EA d];rfl
   go_wp2;go_ret
   exact⟨by first|rfl|(rw[f];rfl),K⟩
def y0p(n:Nat):Q4:=if h:n<10 then strOfNums [((48+n:Nat):Int)] else y0p (n / 10)++strOfNums [((48+n % 10:Nat):Int)]
theorem yu:∀(k n:Nat),n<10 ^ (k+1)->(y0p n).size<=k+1:=by
 intro k
 induction k with
 | zero=>intro n a;unfold y0p;rw[dif_pos d,CY];simp
 | succ k b =>
  intro n a;unfold y0p
  split
  .rw[CY];simp
  rw[AP,CY]
  have:=b (n / 10) (by rw[Nat.pow_succ]at a;omega);simp only[EJ];omega
theorem pz(w:Q9)(b:Nat)(n:Int)(h:w.cell? (Ki b 0)=some (.int .u8 n)):(convert 22 9 (Y (Hw b 0) 1 1)).run prog w=.ok (Ow (strOfNums [n])) w :=EO (P:=prog) _ 22 5 underlying22 underlying5 b 0 1 1 [n] z (λi a=>by
  have:i=0:=d
  subst this
  simpa using h) 9 underlying9
theorem xZ(x:Int)(a:0<=x)(b:x<=255):IntKind.u8.wrap x=x:=by simp[IntKind.wrap,IntKind.bits,IntKind.signed];omega
theorem kg:∀(k n:Nat) (w:Q9),n<10 ^ k->k<=15->Calls prog 22 #[Z (n:Int)] w λe g=>e=Q2 (Ow (y0p n))/\Q3 w g:=by
 intro k
 induction k with
 | zero =>
  intro n w b N;have a:n=0:=by simpa using b
  subst a;have r:=pz (w.alloc (.cells #[.int .u8 48] 5)) w.heap.size 48 j;go_enter func22,ntmps22;go_wp2;go_ret;exact⟨by unfold y0p;rfl,YU _ _⟩
 | succ k q =>
  intro n w b N;have E:(10:Nat) ^ (k+1)<=10 ^ 15:=Nat.pow_le_pow_right d N;have y:(10:Nat) ^ 15=1000000000000000:=δ
  by_cases M:n<10
  .have P:(n:Int)<10:=d
   have R:IntKind.i64.wrap (48+(n:Int))=48+(n:Int):=PT _ d d;have Q:IntKind.u8.wrap (48+(n:Int))=48+(n:Int):=xZ _ d d;have r:=pz (w.alloc (.cells #[.int .u8 (48+(n:Int))] 5)) w.heap.size (48+(n:Int)) j;have a:y0p n=strOfNums [48+(n:Int)]:=by unfold y0p;rw[dif_pos M];congr 2
   have A:=LE a;clear a;go_enter func22,ntmps22;go_wp2;go_ret;exact⟨by rw[A.j];rfl,YU _ _⟩
  have P:¬(n:Int)<10:=d
  obtain⟨a,c⟩:∃a:Nat,n / 10=a:=⟨_,z⟩;obtain⟨m,o⟩:∃m:Nat,n % 10=m:=⟨_,z⟩;have W:(n:Int).tdiv 10=(a:Int):=by rw[<-c];rfl
  have hr:(n:Int).tmod 10=(m:Int):=by rw[<-o];rfl
  have U:IntKind.i64.wrap (a:Int)=(a:Int):=PT _ d d;have R:IntKind.i64.wrap (48+(m:Int))=48+(m:Int):=PT _ d d;have Q:IntKind.u8.wrap (48+(m:Int))=48+(m:Int):=xZ _ d d;have p:=LE (yu 14 a d);have A:Hid (y0p n=y0p a++strOfNums [48+(m:Int)]):=LE (by rw[show y0p n=y0p (n / 10)++strOfNums [((48+n % 10:Nat):Int)] by rw[y0p,dif_neg M],c,o];congr 2);have J:=LE (λg=>q a g (by rw[Nat.pow_succ]at b;omega) d);obtain⟨B,L⟩:=x (y0p a);obtain⟨H,C⟩:=x (strOfNums [48+(m:Int)]);have T:H.size=1:=by rw[C.j,CY];rfl
  have S:B.size<=15:=by rw[L.j];exact p.j
  rw[<-L.j]at J;rw[<-L.j,<-C.j]at A;have V:B.size<=9223372036854775806:=d
  have zk:¬(9223372036854775807<B.size+H.size):=d
  clear c o q E y b p;go_enter func22,ntmps22;go_upto_region 3 with fail;refine AN (S:=λg=>True) h (trivial) (λc=>?_);refine TY 0 (Z (n:Int)) z c (TY 1 (Z (a:Int)) z c (TY 3 (Z (n:Int)) z c (TY 4 (Z (m:Int)) z c (TY 5 (Z (48+(m:Int))) z c (TY 6 (.int .u8 (48+(m:Int))) z c ?_)))));simp only[PS];refine EU (rs:=[2,7]) h j ?_;refine DA z (λo b=>?_) (DA z (λo b=>?_) EQ)
  .obtain⟨y,g⟩:=u w.drew
   rw[<-g];have F:Q3 w y:=by rw[g];exact(D).drew
   clear g;refine LM f 22 #[Z (a:Int)] l (J.j _) ?_;rintro e I ⟨rfl,K⟩;refine⟨_,z,?_⟩;have q:=F.E (K.J F.size);refine b.j _ _ c (λ_=>?_)
   try simp only[PS]
   refine RD 7 z (λo b=>?_);go_simp;have p:=YU I (.cells #[.int .u8 (48+(m:Int))] 5);have g:=LZ I #[.int .u8 (48+(m:Int))] 5;obtain⟨O,E⟩:=u (I.alloc (.cells #[.int .u8 (48+(m:Int))] 5));obtain⟨X,r⟩:=u I.heap.size;rw[<-E]at p g⊢;rw[<-r]at g⊢;have G:=q.E (p.J q.size);clear E r;refine b.j _ _ c (λ_=>?_)
   try simp only[PS]
   refine RD 8 z (λo b=>?_);have r:=pz _ _ _ (g.y 0);rw[<-C.j]at r;go_simp;refine b.j _ _ c (λ_=>?_)
   try simp only[PS]
   refine TY 9 (Ow (B++H)) z c ?_;simp only[PS];refine RD 10 z (λo b=>?_);go_simp;refine b.j _ _ c (λ_=>?_)
   try simp only[PS]
   refine DN ?_;go_wp2;go_ret;exact⟨by rw[A.j];rfl,G⟩
  obtain⟨y,g⟩:=u w.drew
  rw[<-g];have F:Q3 w y:=by rw[g];exact(D).drew
  clear g;go_simp;have K:=YU y (.cells #[.int .u8 (48+(m:Int))] 5);have g:=LZ y #[.int .u8 (48+(m:Int))] 5;obtain⟨I,E⟩:=u (y.alloc (.cells #[.int .u8 (48+(m:Int))] 5));obtain⟨X,r⟩:=u y.heap.size;rw[<-E]at K g⊢;rw[<-r]at g⊢;have q:=F.E (K.J F.size);clear E r;refine b.j _ _ c (λ_=>?_)
  try simp only[PS]
  refine EU (rs:=[2,8]) h j ?_;refine DA z (λo b=>?_) (DA z (λo b=>?_) EQ)
  .refine LM f 22 #[Z (a:Int)] l (J.j _) ?_
   rintro e O ⟨rfl,p⟩;refine⟨_,z,?_⟩;have G:=q.E (p.J q.size);have g:=g.I p;refine b.j _ _ c (λ_=>?_)
   try simp only[PS]
   refine RD 8 z (λo b=>?_);have r:=pz _ _ _ (g.y 0);rw[<-C.j]at r;go_simp;refine b.j _ _ c (λ_=>?_)
   try simp only[PS]
   refine TY 9 (Ow (B++H)) z c ?_;simp only[PS];refine RD 10 z (λo b=>?_);go_simp;refine b.j _ _ c (λ_=>?_)
   try simp only[PS]
   refine DN ?_;go_wp2;go_ret;exact⟨by rw[A.j];rfl,G⟩
  have r:=pz _ _ _ (g.y 0)
  rw[<-C.j]at r;go_simp;refine b.j _ _ c (λ_=>?_)
  try simp only[PS]
  refine RD 2 z (λo b=>?_);refine LM f 22 #[Z (a:Int)] l (J.j _) ?_;rintro e O ⟨rfl,p⟩;refine⟨_,z,?_⟩;have G:=q.E (p.J q.size);have g:=g.I p;refine b.j _ _ c (λ_=>?_)
  try simp only[PS]
  refine TY 9 (Ow (B++H)) z c ?_;simp only[PS];refine RD 10 z (λo b=>?_);go_simp;refine b.j _ _ c (λ_=>?_)
  try simp only[PS]
  refine DN ?_;go_wp2;go_ret;exact⟨by rw[A.j];rfl,G⟩
theorem oY(n:Nat)(h:n<256):(strOfNums [(n:Int)]).data.toList=[UInt8.ofNat n]:=by
 simp[strOfNums]
theorem pH:∀(k n:Nat),n<10 ^ (k+1)->(y0p n).data.toList=Lib.decDigits n:=by
 intro k
 induction k with
 | zero =>
  intro n a;rw[y0p,Lib.decDigits,dif_pos d,dif_pos d];exact oY (48+n) d
 | succ k b =>
  intro n a
  by_cases h:n<10
  .rw[y0p,Lib.decDigits,dif_pos h,dif_pos h]
   exact oY (48+n) d
  rw[y0p,Lib.decDigits,dif_neg h,dif_neg h]
  have:=b (n / 10) (by rw[Nat.pow_succ]at a;omega);rw[ByteArray.data_append,Array.toList_append,this,oY (48+n % 10) d]
def XQ(l:List UInt8):Nat:=l.foldl (λa c=>a*10+(c.toNat-48)) 0
def YD(l:List UInt8):Bool:=l.all λc=>decide (48<=c.toNat/\c.toNat<=57)
theorem Bx(l:List UInt8)(c:UInt8):XQ (l++[c])=XQ l*10+(c.toNat-48):=by simp[XQ]
theorem pG(d:Nat)(h:d<10):(UInt8.ofNat (48+d)).toNat=48+d:=q
theorem mv:∀(k n:Nat),n<10 ^ (k+1)->XQ (Lib.decDigits n)=n/\YD (Lib.decDigits n)=true/\1<=(Lib.decDigits n).length:=by
 intro k
 induction k with
 | zero =>
  intro n b;rw[Lib.decDigits,dif_pos d];have:=pG n d;refine⟨?_,?_,j⟩
  .simp only[XQ,GX,List.foldl_nil];omega
  simp only[YD,List.all_cons,List.all_nil,Bool.and_true,BH];omega
 | succ k e =>
  intro n b
  by_cases h:n<10
  .have:=pG n h
   rw[Lib.decDigits,dif_pos h];refine⟨?_,?_,j⟩
   .simp only[XQ,GX,List.foldl_nil];omega
   simp only[YD,List.all_cons,List.all_nil,Bool.and_true,BH];omega
  rw[Lib.decDigits,dif_neg h]
  obtain⟨c,a,f⟩:=e (n / 10) (by rw[Nat.pow_succ]at b;omega);have:=pG (n % 10) d;refine⟨?_,?_,j⟩
  .rw[Bx,c];omega
  unfold YD at a⊢
  rw[List.all_append,a];simp only[List.all_cons,List.all_nil,Bool.and_true,GL,BH];omega
def VF(s:Q4):Option Nat:=if s.size<=6/\Lib.decDigits (XQ s.data.toList)=s.data.toList then some (XQ s.data.toList) else none
theorem uR:∀(l:List UInt8) (aA:Nat),YD l=true->l.foldl (λa c=>a*10+(c.toNat-48)) aA<(aA+1)*10 ^ l.length
 | [],aA,_=>σ
 | c::r,aA,hd=>by
  unfold YD at hd;rw[List.all_cons,BF,BH]at hd;rw[GX,BN,Nat.pow_succ,Nat.mul_comm (10 ^ r.length),<-Nat.mul_assoc];exact AC (uR r _ hd.2) (Nat.mul_le_mul_right _ ω)
theorem tL(l:List UInt8)(k:Nat)(b:l.length<=k)(a:YD l=true):XQ l<10 ^ k:=by
 have:=uR l 0 a;rw[BK,JY]at this;exact AC this (Nat.pow_le_pow_right d b)
theorem ro(h:VF s=some n):s.size<=6/\s.data.toList=Lib.decDigits n/\n<1000000:=by
 unfold VF at h
 split at h
 .rename_i a
  injection h with h;subst h;refine⟨a.1,a.2.symm,?_⟩;obtain⟨k,c⟩:∃k,XQ s.data.toList<10 ^ (k+1):=⟨XQ s.data.toList,AC (Nat.lt_pow_self d) (Nat.pow_le_pow_right d d)⟩;have b:=(mv k _ c).2.1;rw[a.2]at b;exact tL s.data.toList 6 a.1 b
 cases h
theorem Nr(b:s.size<=6)(a:s.data.toList=Lib.decDigits n)(c:n<10 ^ 19):VF s=some n:=by
 have hv:XQ s.data.toList=n:=by rw[a];exact(mv 18 n c).1
 unfold VF;rw[G ⟨b,by rw[hv,a]⟩,hv]
theorem qJ:∀(l:List UInt8) (aA:Nat),YD l=true->(aA+1)*10 ^ l.length<=1000000000->Lib.parseUint10 aA l=.ok (l.foldl (λa c=>a*10+(c.toNat-48)) aA)
 | [],aA,_,_=>rfl
 | c::r,aA,hd,hl=>by
  unfold YD at hd;rw[List.all_cons,BF,BH]at hd;have hp:(aA+1)*10<=(aA+1)*10 ^ (c::r).length:=Nat.mul_le_mul_left _ (by rw[BN,Nat.pow_succ];have:=Nat.pow_pos (n:=r.length) (show 0<10 by omega);omega);unfold Lib.parseUint10;rw[AI hd.1,AF ω,AF ω,qJ r _ hd.2 ?_]
  .rfl
  rw[BN,Nat.pow_succ]at hl
  refine AJ (Nat.mul_le_mul_right _ (show aA*10+(c.toNat-48)+1<=(aA+1)*10 by omega)) ?_;rw[Nat.mul_assoc,Nat.mul_comm 10];exact hl
theorem yI(h:VF s=some n):Lib.atoiAll s.data.toList=.ok (n:Int)/\Lib.itoa (n:Int)=s.data.toList:=by
 obtain⟨j,f,l⟩:=ro h;have b:=mv 18 n d;rw[<-f]at b;refine⟨?_,by rw[Lib.itoa_nonneg,f]⟩;have o:s.data.toList.length=s.size:=z;have g:=qJ s.data.toList 0 b.2.1 (by have:=Nat.pow_le_pow_right (show 0<10 by omega) (show s.data.toList.length<=6 by omega);omega)
 obtain⟨c,r,e⟩:∃c r,s.data.toList=c::r:=by
  cases hh:s.data.toList with
  | nil=>rw[hh]at b;simp at b
  | cons c r=>exact⟨c,r,z⟩
 have m:48<=c.toNat/\c.toNat<=57:=by have:=b.2.1;rw[e]at this;unfold YD at this;rw[List.all_cons,BF,BH]at this;exact this.1
 have hv:List.foldl (λa c=>a*10+(c.toNat-48)) 0 s.data.toList=n:=b.1;rw[hv]at g;rw[e,Lib.atoiAll_plain c r d d,<-e];unfold Lib.parseMag;rw[A (by rw[e];simp),g];simp[Lib.signless];omega
theorem Gp{v:Int}(c:0<=v)(e:v<=9223372036854775807)(a:s.size<=6)(b:(⟨(Lib.itoa v).toArray⟩:Q4)=s):VF s=some v.toNat:=by
 obtain⟨n,rfl⟩:∃n:Nat,v=(n:Int):=⟨v.toNat,d⟩;refine Nr a ?_ q;rw[<-b,Lib.itoa_nonneg];simp
theorem bm{P:Program}(w:Q9){F:Array Oper}{E:List Oper}{o:Oper}{a:Act}{Q:Exit->Act->Q9->Prop}(I:o.guard=none)(s x:Operand)(t:TypeId)
  (O:o.op=.call { callee:=.builtin .append,args:=#[s,x],argTypes:=#[t,t] })
  (l:Nat){e:TypeId}{i:TypeInfo}{z:Ra}{b A:Nat}(S:P.underlying t=some (.slice e))(y:P.info? e=some i/\i.zero=some z/\i.size=b/\i.bytes=A)(K:z.cells.size=b)(J:0<b)
 (n:Nat){B:List Ra}(C:w.ownsRow l e b v n B)(R:a.eval s=v)
  (G:TypeId)(f:List Ra)(m c:Nat)(T:a.eval x=Y (Hw w.heap.size 0) m c)(M:f.length=m*b)(L:∀u∈f,u.oneCell'=true)
  (W:l<=w.heap.size)(N:0<m)(H:n+m<=1048576)(u:A<=64)
  (h:∀g p r,r.ownsRow l e b (Y (Hw g 0) (n+m) p) (n+m) (B++f)->Below l w r->wpList P F Q E (a.put o.dst (Y (Hw g 0) (n+m) p)) r):wpList P F Q (o::E) a (w.alloc (.cells f.toArray G)):=by
 refine wpList_append_lies _ I s x t O l e i z b A S y.1 y.2.1 y.2.2.1 y.2.2.2 K J v n B R (C.alloc _) (Ki w.heap.size 0) m c f T M (World.news_of_block (by simpa using AV w (.cells f.toArray G))) L N (by unfold maxLen;omega) ?_ q (w.heap.size+1) j ?_
 .exact AJ (Nat.mul_le_mul H u) d
 intro g p r U V k3 X
 exact h g p r U (UJ ((D).alloc d _) (C.alloc _) V q)
theorem yi{P:Program}(w:Q9){L:Array Oper}{o:Oper}{a:Act}{K:Act->Q9->Prop}{Q:Exit->Act->Q9->Prop}{E:Prop}(H:o.guard=none)(s x:Operand)(t:TypeId)
  (R:o.op=.call { callee:=.builtin .append,args:=#[s,x],argTypes:=#[t,t] })
  (l:Nat){e:TypeId}{i:TypeInfo}{z:Ra}{b A:Nat}(T:P.underlying t=some (.slice e))(y:P.info? e=some i/\i.zero=some z/\i.size=b/\i.bytes=A)(J:z.cells.size=b)(I:0<b)
 (n:Nat){B:List Ra}(C:w.ownsRow l e b v n B)(S:a.eval s=v)
  (F:TypeId)(f:List Ra)(m c:Nat)(U:a.eval x=Y (Hw w.heap.size 0) m c)(N:f.length=m*b)(M:∀u∈f,u.oneCell'=true)
  (X:l<=w.heap.size)(O:0<m)(G:n+m<=1048576)(u:A<=64)
  (h:∀g p r,r.ownsRow l e b (Y (Hw g 0) (n+m) p) (n+m) (B++f)->Below l w r->K (a.put o.dst (Y (Hw g 0) (n+m) p)) r):if Region.wanted o (yielded L a.tmps)=true then Oper.wp P o a (w.alloc (.cells f.toArray F)) K Q else E:=by
 refine step_append_lies _ H s x t R l e i z b A T y.1 y.2.1 y.2.2.1 y.2.2.2 J I v n B S (C.alloc _) (Ki w.heap.size 0) m c f U N (World.news_of_block (by simpa using AV w (.cells f.toArray F))) M O (by unfold maxLen;omega) ?_ q (w.heap.size+1) σ ?_
 .exact AJ (Nat.mul_le_mul G u) d
 intro g p r V W k3 j
 exact h g p r V (UJ ((D).alloc d _) (C.alloc _) W q)
def Cc(s:Q4)(b:UInt8)(w wr:Q9)(d a c:Ra):Prop:=∃(i f:Nat) (Q:List Q4),a=Z (f:Int)/\c=Z (i:Int)/\ee s b i f Q/\wr.ownsRow w.heap.size 9 1 d Q.length (Q.map Value.string)/\Q3 w wr
theorem mD:(prog.info? 9).map (λi=>(i.zero,i.size,i.bytes))=some (some (Ow empty),1,16):=h
theorem oH(s:Q4):∀u∈[Ow s],u.oneCell'=true:=by intro u a;rw[DL.1 a];rfl
theorem qF(s:Q4)(b:UInt8)(w:Q9)(K:s.size<=30000):Calls prog 19 #[Ow s,.int .u8 (b.toNat:Int)] w λr a=>∃v,r=Q2 v/\a.ownsRow w.heap.size 9 1 v (MO b s).length ((MO b s).map Value.string)/\Q3 w a:=by
 obtain⟨L,p,a,c,e⟩:=YO mD;have q:=LE (I p (I a (I c e)));clear p a c e;go_enter func19,ntmps19;go_wp2;go_loopw [5,6,7] (λe c a wr=>Cc s b w wr e c a) (λ_ _ a _=>s.size-(intOf a).toNat)
 case atStart=>exact⟨0,0,[],z,z,Db s b,DH _ #[] 0 C j j,(D).alloc C _⟩
 case round =>
  obtain⟨i,f,Q,rfl,rfl,a,e,c⟩:=hrel;have H:=Gc a;have F:=a.1;have G:=a.2.1;have g:=LE a;have o:=LE e;have l:=LE c;have u:=c.size;clear a e c
  by_cases r:i<s.size
  .have E:(i:Int)<(s.size:Int):=d
   have p:(0:Int)<=(i:Int):=d
   have J:IntKind.i64.wrap ((i:Int)+1)=((i+1:Nat):Int):=by rw[QC _ d d];omega
   by_cases e:s[i]=b
   .have y:((s[i].toNat:Int)=(b.toNat:Int)):=by rw[e]
    go_upto_region 7 with fail;refine AX ?_;go_wp2_with (at_builtin;refine bm wr z _ _ 29 z w.heap.size underlying29 q.j z d Q.length o.j z _ [Ow (s.extract f i)] 1 1 z z (oH _) u d d d ?_;intro A x B a c;have m:=LE a;have h:=LE c;clear a c);go_roundw
    case rel=>exact⟨i+1,i+1,_,z,ν,Kx g.j r e,by simpa using m.j,l.j.E h.j⟩
    case measure=>simp[intOf];omega
   have y:¬((s[i].toNat:Int)=(b.toNat:Int)):=λh=>e (by have:s[i].toNat=b.toNat:=ω;exact UInt8.toNat_inj.1 this)
   go_wp2;go_roundw
   case rel=>exact⟨i+1,f,Q,z,ν,F9 g.j r e,o.j,l.j⟩
   case measure=>simp[intOf];omega
  obtain rfl:i=s.size:=d
  go_wp2_with (at_builtin;refine bm wr z _ _ 29 z w.heap.size underlying29 q.j z d Q.length o.j z _ [Ow (s.extract f s.size)] 1 1 z z (oH _) u d d d ?_;intro A x B a c;have m:=LE a;have h:=LE c;clear a c);go_ret;rw[Hn g.j];exact⟨_,z,by simpa using m.j,l.j.E h.j⟩
def TQ(s:Q4):Int:=match VF s with
 | some n=>(n:Int)
 | none=>-1
theorem Bu(h:s.size=0\/6<s.size):VF s=none:=by
 cases e:VF s with
 | none=>rfl
 | some n =>
  obtain⟨b,a,c⟩:=ro e;have:=(mv 18 n d).2.2;rw[<-a]at this;have f:s.data.toList.length=s.size:=z;omega
theorem Az(c:i<s.size)(h:¬(48<=s[i].toNat/\s[i].toNat<=57)):VF s=none:=by
 cases e:VF s with
 | none=>rfl
 | some n =>
  obtain⟨f,b,g⟩:=ro e;have a:=(mv 18 n d).2.1;rw[<-b]at a;unfold YD at a;rw[DI]at a;have:=a s[i] (FU (show i<s.data.toList.length from c));exact absurd (AW this) h
theorem vy(a:i<s.size):s.data.toList.take (i+1)=s.data.toList.take i++[s[i]]:=by
 rw[List.take_add_one,AO (show i<s.data.toList.length from a)];rfl
def mh(s:Q4)(i n:Nat):Prop:=i<=s.size/\YD (s.data.toList.take i)=true/\n=XQ (s.data.toList.take i)
theorem Cn(h:mh s i n)(b:i<s.size)(e:48<=s[i].toNat/\s[i].toNat<=57):mh s (i+1) (n*10+(s[i].toNat-48)):=by
 obtain⟨f,a,c⟩:=h;refine⟨d,?_,by rw[vy b,Bx,c]⟩;rw[vy b];unfold YD at a⊢;rw[List.all_append,a];simp[e]
theorem Al(h:mh s i n)(a:s.size<=6):n<1000000:=by
 rw[h.2.2];exact tL _ 6 (by rw[AZ];have:=h.1;omega) h.2.1
theorem Ob(h:mh s s.size n)(b:s.size<=6):VF s=if y0p n=s then some n else none:=by
 have f:=Al h b;have e:XQ s.data.toList=n:=by rw[h.2.2,AS (show s.data.toList.length<=s.size from C)]
 unfold VF;rw[e];have a:=pH 5 n d
 by_cases k:y0p n=s
 .rw[G k,G ⟨b,by rw[<-a,k]⟩]
 rw[A k,A (λc=>k (VT (by rw[a,c.2])))]
theorem Mu(s:Q4)(w:Q9)(y:s.size<=30000):Calls prog 75 #[Ow s] w λr b=>r=Q2 (Z (TQ s))/\Q3 w b:=by
 go_enter func75,ntmps75
 by_cases o:s.size=0
 .have l:(s.size:Int)=0:=d
  go_wp2;go_ret;exact⟨by unfold TQ;rw[Bu (.inl o)];rfl,D⟩
 have l:¬(s.size:Int)=0:=d
 by_cases p:6<s.size
 .have m:(6:Int)<(s.size:Int):=d
  go_wp2;go_ret;exact⟨by unfold TQ;rw[Bu (.inr p)];rfl,D⟩
 have m:¬(6:Int)<(s.size:Int):=d
 go_wp2;go_loop [3,4] (λc a=>∃i n:Nat,c=Z (n:Int)/\a=Z (i:Int)/\mh s i n) (λ_ a=>s.size-(intOf a).toNat)
 case atStart=>exact⟨0,0,z,z,AL,z,z⟩
 case round =>
  obtain⟨i,n,rfl,rfl,a⟩:=hrel;have u:=a.1;have x:=Al a d;have j:=LE a;clear a
  by_cases c:i<s.size
  .have q:(i:Int)<(s.size:Int):=d
   have r:(0:Int)<=(i:Int):=d
   by_cases g:48<=s[i].toNat
   .have e:¬((s[i].toNat:Int)<48):=d
    by_cases h:s[i].toNat<=57
    .have f:¬((57:Int)<(s[i].toNat:Int)):=d
     have B:IntKind.u8.wrap ((s[i].toNat:Int)-48)=((s[i].toNat-48:Nat):Int):=by simp[IntKind.wrap,IntKind.bits,IntKind.signed];omega
     have C:IntKind.i64.wrap ((n:Int)*10)=((n*10:Nat):Int):=by rw[QC _ d d];omega
     have E:IntKind.i64.wrap ((s[i].toNat-48:Nat):Int)=((s[i].toNat-48:Nat):Int):=QC _ d d;have F:IntKind.i64.wrap (((n*10:Nat):Int)+((s[i].toNat-48:Nat):Int))=((n*10+(s[i].toNat-48):Nat):Int):=by rw[QC _ d d];omega
     have a:=LE (Cn j.j c ⟨g,h⟩);go_wp2;go_round
     case rel=>exact⟨i+1,_,z,ν,a.j⟩
     case measure=>simp[intOf];omega
    have f:(57:Int)<(s[i].toNat:Int):=d
    go_wp2;go_ret;exact⟨by unfold TQ;rw[Az c d];rfl,D⟩
   have e:(s[i].toNat:Int)<48:=d
   go_wp2;go_ret;exact⟨by unfold TQ;rw[Az c d];rfl,D⟩
  obtain rfl:i=s.size:=d
  have g:=LE (Ob j.j d);have f:=LE (λb=>kg 6 n b d d)
  by_cases k:y0p n=s
  .have q:((y0p n).toList == s.toList)=true:=by rw[k];simp
   go_wp2_with (go_at_call 22;refine(f.j _).J ?_;rintro e r ⟨rfl,a⟩;have b:=LE a;clear a);go_ret;exact⟨by unfold TQ;rw[g.j,G k];rfl,b.j⟩
  have q:((y0p n).toList == s.toList)=false:=by rw[GF];intro h;exact k (EV (by have:=beq_iff_eq.1 h;simpa[CZ] using BD List.toArray this))
  go_wp2_with (go_at_call 22;refine(f.j _).J ?_;rintro e r ⟨rfl,a⟩;have b:=LE a;clear a);go_ret;exact⟨by unfold TQ;rw[g.j,A k];rfl,b.j⟩
theorem pq(c:UInt8)(w:Q9):Calls prog 105 #[.int .u8 (c.toNat:Int)] w λr a=>r=Q2 (Z (NG c))/\a=w:=by
 go_enter func105,ntmps105;have m:=c.toNat_lt;unfold NG
 by_cases f:48<=c.toNat/\c.toNat<=57
 .rw[G f]
  have a:(48:Int)<=(c.toNat:Int):=d
  have b:(c.toNat:Int)<=57:=d
  have j:IntKind.u8.wrap ((c.toNat:Int)-48)=(c.toNat:Int)-48:=by simp[IntKind.wrap,IntKind.bits,IntKind.signed];omega
  have l:IntKind.i64.wrap ((c.toNat:Int)-48)=(c.toNat:Int)-48:=QC _ d d;go_wp2;go_ret;exact⟨z,z⟩
 rw[A f]
 by_cases g:97<=c.toNat/\c.toNat<=102
 .rw[G g]
  have a:(48:Int)<=(c.toNat:Int):=d
  have b:¬(c.toNat:Int)<=57:=d
  have e:(97:Int)<=(c.toNat:Int):=d
  have h:(c.toNat:Int)<=102:=d
  have j:IntKind.u8.wrap ((c.toNat:Int)-97)=(c.toNat:Int)-97:=by simp[IntKind.wrap,IntKind.bits,IntKind.signed];omega
  have l:IntKind.i64.wrap ((c.toNat:Int)-97)=(c.toNat:Int)-97:=QC _ d d;have o:IntKind.i64.wrap ((c.toNat:Int)-97+10)=(c.toNat:Int)-87:=by rw[QC _ d d];omega
  go_wp2;go_ret;exact⟨z,z⟩
 rw[A g]
 by_cases a:(48:Int)<=(c.toNat:Int)
 .have b:¬(c.toNat:Int)<=57:=d
  by_cases e:(97:Int)<=(c.toNat:Int)
  .have h:¬(c.toNat:Int)<=102:=d
   go_wp2;go_ret;exact⟨z,z⟩
  go_wp2
  go_ret;exact⟨z,z⟩
 have e:¬(97:Int)<=(c.toNat:Int):=d
 go_wp2;go_ret;exact⟨z,z⟩
theorem Ak:(prog.info? 3).map (λi=>(i.zero,i.size,i.bytes))=some (some (Z 0),1,8):=h
theorem vu:(prog.info? 5).map (λi=>(i.zero,i.size,i.bytes))=some (some (.int .u8 0),1,1):=h
theorem ja(k:IntKind)(n:Int):∀u∈[Value.int k n],u.oneCell'=true:=by intro u a;rw[DL.1 a];rfl
def NY(ws:List Q4):Bool:=ws.all λs=>decide (0<=TQ s)
def QM(ws:List Q4):List Int:=ws.map TQ
theorem mX(a:k<ws.length)(h:TQ (ws.getD k empty)<0):NY ws=false:=by
 unfold NY;refine FN.2 ⟨ws.getD k empty,by simp[List.getD,a],by rw[BH];omega⟩
theorem sM(h:∀k,k<ws.length->0<=TQ (ws.getD k empty)):NY ws=true:=by
 unfold NY;rw[DI];intro s b;obtain⟨k,a,rfl⟩:=EM b;have:=h k a;simpa[List.getD,a] using this
theorem xQ(a:k<ws.length):QM (ws.take (k+1))=QM (ws.take k)++[TQ (ws.getD k empty)]:=by
 unfold QM;rw[List.take_add_one,DC];simp[List.getD,a]
def rH(ws:List Q4)(w wr:Q9)(b a:Ra):Prop:=∃i:Nat,i<=ws.length/\a=Z (i:Int)/\(∀k,k<i->0<=TQ (ws.getD k empty))/\wr.ownsRow w.heap.size 3 1 b i ((QM (ws.take i)).map (Value.int .i64))/\Q3 w wr
theorem Pl(a:Q5)(ws:List Q4)(c:Nat)(w:Q9)(h:Strs w a ws)(hl:ws.length<=30000)(T:∀s∈ws,s.size<=30000):Calls prog 48 #[Y a ws.length c] w λr e=>∃v,r=Q2 (.tuple #[v,Q1 (NY ws)])/\(NY ws=true->e.ownsRow w.heap.size 3 1 v ws.length ((QM ws).map (Value.int .i64)))/\Q3 w e:=by
 obtain⟨i0,E,b,f,F⟩:=YO Ak;have P:=LE (I E (I b (I f F)));clear E b f F;go_enter func48,ntmps48;go_wp2;go_loopw [4,5] (λf b wr=>rH ws w wr f b) (λ_ b _=>ws.length-(intOf b).toNat)
 case atStart=>exact⟨0,AL,z,λk r=>d,DH _ #[] 0 C j j,(AB).alloc C _⟩
 case round =>
  obtain⟨i,D,rfl,G,y,g⟩:=hrel;have M:=g.size;have J:=LE G;have B:=LE y;have A:=LE g
  by_cases q:i<ws.length
  .obtain⟨b,o,s,rfl,x,m⟩:=(h.I g).at q
   have V:(i:Int)<(ws.length:Int):=d
   have E:(0:Int)<=(i:Int):=d
   have W:IntKind.i64.wrap ((i:Int)+1)=((i+1:Nat):Int):=by rw[QC _ d d];omega
   have u:=LE (λe=>Mu s e (by rw[m.j];have:=T (ws.getD i empty) (by simp[List.getD,q]);exact this));obtain⟨N,l⟩:=nHz (TQ s);rw[<-l.j]at u;clear G y g h
   by_cases S:N<0
   .go_wp2_with (go_at_call 75;refine(u.j _).J ?_;rintro e O ⟨rfl,f⟩;have p:=LE f;clear f)
    have e:NY ws=false:=mX q (by rw[<-m.j,<-l.j];exact S);refine H (by simp[results,results48,go_sem];rfl) z ⟨_,by rw[e],(λk=>(by rw[e]at k;cases k)),A.j.E (p.j.J M)⟩
   go_wp2_with (first|(go_at_call 75;refine(u.j _).J ?_;rintro e O ⟨rfl,f⟩;have p:=LE f;have F:=f.size;clear f)|(at_builtin;refine bm O z _ _ 82 z w.heap.size underlying82 P.j z d i (MK B.j p.j) z _ [Z N] 1 1 z z (ja _ _) d d d d ?_;intro X U w9 K L;have R:=LE K;have Q:=LE L;clear K L))
   go_roundw
   case rel =>
    refine⟨i+1,d,ν,λk r=>?_,?_,(A.j.E (p.j.J M)).E Q.j⟩
    .rcases Nat.lt_succ_iff_lt_or_eq.1 r with r|rfl
     .exact J.j k r
     rw[<-m.j,<-l.j];omega
    rw[xQ q,<-m.j,<-l.j,DC];exact R.j
   case measure=>simp[intOf];omega
  obtain rfl:i=ws.length:=d
  rw[DG]at B;clear G y g h;have e:NY ws=true:=sM J.j;go_wp2;refine H (by simp[results,results48,go_sem];rfl) z ⟨_,by rw[e],λ_=>B.j,A.j⟩
def uv(c:UInt8):Ra:=.int .u8 (c.toNat:Int)
theorem mg{a:Nat}{D:List UInt8}(h:w.ownsRow a 5 1 v D.length (D.map uv)):(convert 22 9 v).run prog w=.ok (Ow ⟨D.toArray⟩) w:=by
 rcases MS h with ⟨rfl,d⟩|⟨g,b,rfl,_,_,l⟩
 .rw[AD d]
  exact run_convert_bytes_nil w _ 5 underlying22 underlying5 0 0 _ underlying9
 have e:strOfNums (D.map λc=>(c.toNat:Int))=⟨D.toArray⟩:=VT (by
  rw[strOfNums_data,IP];refine(IJ λc _=>?_).E (List.map_id _)
  simp)
 rw[<-e]
 exact EO (P:=prog) _ 22 5 underlying22 underlying5 g 0 D.length b (D.map λc=>(c.toNat:Int)) j (λi f=>by
  rw[BK];refine l.cell i _ ?_
  simp[List.getD,f,uv]) 9 underlying9
def Fj(s:Q4)(w wr:Q9)(b a:Ra):Prop:=∃(i:Nat) (D:List UInt8),a=Z (i:Int)/\XT s i D/\wr.ownsRow w.heap.size 5 1 b D.length (D.map uv)/\Q3 w wr
theorem Ai(a:s.data.toList≠[45])(h:RG s.data.toList=none):NN s=none:=by unfold NN;rw[A a,h];rfl
theorem xL{D:List UInt8}(a:s.data.toList≠[45])(h:RG s.data.toList=some D):NN s=some ⟨D.toArray⟩:=by unfold NN;rw[A a,h];rfl
theorem TO(s:Q4):s.toList=s.data.toList:=CZ s
theorem Nu(x y:Int)(a:0<=x/\x<=15)(b:0<=y/\y<=15):IntKind.u8.wrap (16*x+y)=((UInt8.ofNat (16*x.toNat+y.toNat)).toNat:Int):=by
 have:(UInt8.ofNat (16*x.toNat+y.toNat)).toNat=16*x.toNat+y.toNat:=q
 rw[this];simp[IntKind.wrap,IntKind.bits,IntKind.signed];omega
theorem By(h:NN s=none):(Value.tuple #[Ow ((NN s).getD empty),Q1 (NN s).isSome])=.tuple #[Ow ⟨#[]⟩,Q1 false]:=by rw[h];rfl
theorem oS(s:Q4)(w:Q9)(hs:s.size<=30000):Calls prog 70 #[Ow s] w λr q=>r=Q2 (.tuple #[Ow ((NN s).getD empty),Q1 (NN s).isSome])/\Q3 w q:=by
 obtain⟨i0,L,a,b,c⟩:=YO vu;have O:=LE (I L (I a (I b c)));clear L a b c;obtain⟨aX,A⟩:=x (Value.tuple #[Ow ((NN s).getD empty),Q1 (NN s).isSome]);rw[<-A.j];go_enter func70,ntmps70
 by_cases y:s.data.toList=[45]
 .have g:(s.toList == [45])=true:=by rw[TO,y];rfl
  go_wp2;refine H (v:=.tuple #[Ow ⟨#[]⟩,Q1 true]) (by simp[results,results70,go_sem]) z ⟨?_,D⟩;rw[A.j];unfold NN;rw[AI y];rfl
 have g:(s.toList == [45])=false:=by rw[TO];exact BL.2 y
 have u:=LE (λ(k:RG s.data.toList=none)=>A.j.E (By (Ai y k)));have S:=LE (λa (k:RG s.data.toList=some a)=>A.j.E (show _=Value.tuple #[Ow ⟨a.toArray⟩,Q1 true] by rw[xL y k];rfl));go_wp2;go_loopw [4,5] (λc b wr=>Fj s w wr c b) (λ_ b _=>s.size-(intOf b).toNat)
 case atStart=>exact⟨0,[],z,zO s,DH _ #[] 0 C j j,(D).alloc C _⟩
 case round =>
  obtain⟨i,a,rfl,b,e,c⟩:=hrel;have aZ:=b.1;have bB:=b.2.1;have o:=LE b;have K:=LE e;have p:=LE c;have Q:=c.size;clear b e c g
  by_cases B:i<s.size
  .have G:(i:Int)<(s.size:Int):=d
   have L:(0:Int)<=(i:Int):=d
   by_cases k1:33<=s[i].toNat
   rotate_left
   .have T:(s[i].toNat:Int)<33:=d
    go_wp2;refine H (v:=.tuple #[Ow ⟨#[]⟩,Q1 false]) (by simp[results,results70,go_sem]) z ⟨by rw[u.j (mU o.j B (by unfold SM;rw[AH d]) d)],p.j⟩
   have T:¬(s[i].toNat:Int)<33:=d
   by_cases k2:s[i].toNat<=126
   rotate_left
   .have U:(126:Int)<(s[i].toNat:Int):=d
    go_wp2;refine H (v:=.tuple #[Ow ⟨#[]⟩,Q1 false]) (by simp[results,results70,go_sem]) z ⟨by rw[u.j (mU o.j B (by unfold SM;rw[AH d]) d)],p.j⟩
   have U:¬(126:Int)<(s[i].toNat:Int):=d
   by_cases k3:s[i].toNat=37
   rotate_left
   .have V:¬(s[i].toNat:Int)=37:=d
    have b:IntKind.i64.wrap ((i:Int)+1)=((i+1:Nat):Int):=by rw[QC _ d d];omega
    go_wp2_with (at_builtin;refine bm wr z _ _ 22 z w.heap.size underlying22 O.j z d a.length K.j z _ [.int .u8 (s[i].toNat:Int)] 1 1 z z (ja _ _) Q d d d ?_;intro R P h c m;have J:=LE c;have F:=LE m;clear c m);go_roundw
    case rel=>exact⟨i+1,_,ν,zW o.j B (by unfold SM;exact AM d),by simpa[uv] using J.j,p.j.E F.j⟩
    case measure=>simp[intOf];omega
   have V:(s[i].toNat:Int)=37:=d
   have bE:IntKind.i64.wrap ((i:Int)+2)=((i+2:Nat):Int):=by rw[QC _ d d];omega
   by_cases X:s.size<=i+2
   .have W:(s.size:Int)<=((i+2:Nat):Int):=d
    go_wp2;refine H (v:=.tuple #[Ow ⟨#[]⟩,Q1 false]) (by simp[results,results70,go_sem]) z ⟨by rw[u.j (t7 o.j B k3 X)],p.j⟩
   have W:¬(s.size:Int)<=((i+2:Nat):Int):=d
   have bC:IntKind.i64.wrap ((i:Int)+1)=((i+1:Nat):Int):=by rw[QC _ d d];omega
   have l1:((i+1:Nat):Int)<(s.size:Int):=d
   have l2:((i+2:Nat):Int)<(s.size:Int):=d
   have l3:(0:Int)<=((i+1:Nat):Int):=d
   have l4:(0:Int)<=((i+2:Nat):Int):=d
   have m1:i+1<s.size:=d
   have t2:((i:Int)+2).toNat=i+2:=d
   have M:i+2<s.size:=d
   have b1:=tp s[i+1];have b2:=tp s[i+2]
   by_cases k5:NG s[i+1]<0
   .go_wp2_with (go_at_call 105;refine(pq _ _).J ?_;rintro e m ⟨rfl,c⟩;rw[c];clear c m)
    refine H (v:=.tuple #[Ow ⟨#[]⟩,Q1 false]) (by simp[results,results70,go_sem]) z ⟨by rw[u.j (zx o.j M k3 d)],p.j⟩
   by_cases k6:NG s[i+2]<0
   .go_wp2_with (go_at_call 105;refine(pq _ _).J ?_;rintro e m ⟨rfl,c⟩;rw[c];clear c m)
    refine H (v:=.tuple #[Ow ⟨#[]⟩,Q1 false]) (by simp[results,results70,go_sem]) z ⟨by rw[u.j (zx o.j M k3 d)],p.j⟩
   go_upto_region 13 with (go_at_call 105;refine(pq _ _).J ?_;rintro e m ⟨rfl,c⟩;rw[c];clear c m);obtain⟨b,N⟩:=x (UInt8.ofNat (16*(NG s[i+1]).toNat+(NG s[i+2]).toNat));have x1:IntKind.i64.wrap (16*NG s[i+1])=16*NG s[i+1]:=QC _ d d;have x2:IntKind.i64.wrap (16*NG s[i+1]+NG s[i+2])=16*NG s[i+1]+NG s[i+2]:=QC _ d d;have x3:IntKind.u8.wrap (16*NG s[i+1]+NG s[i+2])=(b.toNat:Int):=by rw[N.j];exact Nu _ _ d d
   have bG:IntKind.i64.wrap (((i+2:Nat):Int)+1)=((i+3:Nat):Int):=by rw[QC _ d d];omega
   refine AN (S:=λq=>True) κ (trivial) (λg=>?_);refine TY 0 (u4) z g (TY 1 (Ow s) z g (TY 2 (Z (i:Int)) z g (TY 3 (Z ((i+1:Nat):Int)) z g (TY 4 (.int .u8 (s[i+1].toNat:Int)) z g (TY 7 (Ow s) z g (TY 8 (Z (i:Int)) z g (TY 9 (Z ((i+2:Nat):Int)) z g (TY 10 (.int .u8 (s[i+2].toNat:Int)) z g ?_))))))));simp only[PS];have q:=g;refine RD 5 z (λE r=>?_);refine LM f 105 #[.int .u8 (s[i+1].toNat:Int)] l (pq _ _) ?_;rintro e m ⟨rfl,c⟩;rw[c];clear c m;refine⟨_,z,?_⟩;refine r.j _ _ q (λ_=>?_)
   try simp only[PS]
   refine TY 6 (Z (16*NG s[i+1])) z q ?_;simp only[PS];refine RD 11 z (λE r=>?_);refine LM f 105 #[.int .u8 (s[i+2].toNat:Int)] l (pq _ _) ?_;rintro e m ⟨rfl,c⟩;rw[c];clear c m;refine⟨_,z,?_⟩;refine r.j _ _ q (λ_=>?_)
   try simp only[PS]
   refine TY 12 (Z (16*NG s[i+1]+NG s[i+2])) z q (TY 13 (.int .u8 (b.toNat:Int)) z q ?_);simp only[PS];refine RD 14 z (λE r=>?_);go_simp;refine r.j _ _ q (λ_=>?_)
   try simp only[PS]
   refine RD 15 z (λE r=>?_);refine yi wr.drew z _ _ 22 z w.heap.size underlying22 O.j z d a.length (K.j.drew) z _ [.int .u8 (b.toNat:Int)] 1 1 z z (ja _ _) Q d d d ?_;intro R P h c m;have J:=LE c;have F:=LE m;clear c m;refine r.j _ _ q (λ_=>?_)
   try simp only[PS]
   refine TY 16 (Y (Hw R 0) (a.length+1) P) z q ?_;simp only[PS];refine DN ?_
   all_goals
    go_wp2_with fail;go_roundw
    case rel=>exact⟨i+3,_,ν,vZ o.j M k3 d d,by rw[<-N.j];simpa[uv] using J.j,p.j.E ((D).drew.E F.j)⟩
    case measure=>simp[intOf];omega
  obtain rfl:i=s.size:=d
  have b:=mg K.j;go_wp2;refine H (v:=.tuple #[Ow ⟨a.toArray⟩,Q1 true]) (by simp[results,results70,go_sem]) z ⟨by rw[S.j a (zL o.j)],p.j⟩
@[reducible] def WO:Q4:=⟨#[48,49,50,51,52,53,54,55,56,57,97,98,99,100,101,102]⟩
theorem ur(j:Nat)(h:k=j)(b:j<16)(a:k<WO.size:=by(show _<16;omega)):WO[k]'a=WH j:=by
 subst h;have:k=0\/k=1\/k=2\/k=3\/k=4\/k=5\/k=6\/k=7\/k=8\/k=9\/k=10\/k=11\/k=12\/k=13\/k=14\/k=15:=d
 rcases this with rfl|rfl|rfl|rfl|rfl|rfl|rfl|rfl|rfl|rfl|rfl|rfl|rfl|rfl|rfl|rfl<;>rfl
theorem tP{a b c:Int}:∀u∈[Value.int .u8 a,.int .u8 b,.int .u8 c],u.oneCell'=true:=by intro u d;simp at d;rcases d with rfl|rfl|rfl<;>rfl
def Fe(s:Q4)(w wr:Q9)(b a:Ra):Prop:=∃i:Nat,i<=s.size/\a=Z (i:Int)/\wr.ownsRow w.heap.size 5 1 b (UP (s.data.toList.take i)).length ((UP (s.data.toList.take i)).map uv)/\Q3 w wr
theorem tK(s:Q4)(w:Q9)(hs:s.size<=30000):Calls prog 24 #[Ow s] w λr E=>r=Q2 (Ow (shO s))/\Q3 w E:=by
 obtain⟨i0,F,a,b,c⟩:=YO vu;have H:=LE (I F (I a (I b c)));clear F a b c;obtain⟨Q,o⟩:=x (shO s);rw[<-o.j];go_enter func24,ntmps24
 by_cases m:s.size=0
 .have f:(s.toList == [])=true:=by rw[TO,AD (show s.data.toList.length=0 from m)];rfl
  go_wp2;go_ret;exact⟨by rw[o.j];unfold shO;rw[G m];rfl,D⟩
 have g:(s.toList == [])=false:=by rw[TO];exact BL.2 (λe=>m (BD List.length e))
 by_cases p:s.data.toList=[45]
 .have f:(s.toList == [45])=true:=by rw[TO,p];rfl
  go_wp2;go_ret;exact⟨by rw[o.j];unfold shO;rw[A m,G p];rfl,D⟩
 have f:(s.toList == [45])=false:=by rw[TO];exact BL.2 p
 have O:=LE (show Q=⟨(UP s.data.toList).toArray⟩ by rw[o.j];unfold shO;rw[A m,A p]);go_wp2;go_loopw [4,5] (λb a wr=>Fe s w wr b a) (λ_ a _=>s.size-(intOf a).toNat)
 case atStart=>exact⟨0,AL,z,DH _ #[] 0 C j j,(D).alloc C _⟩
 case round =>
  obtain⟨i,hi,rfl,b,c⟩:=hrel;obtain⟨a,e⟩:=x (UP (s.data.toList.take i));rw[<-e.j]at b;have h:a.length<=90000:=by rw[e.j];have:=pS (s.data.toList.take i);rw[AZ]at this;omega
  have B:=LE b;have u:=LE c;have M:=c.size;clear b c f g
  by_cases R:i<s.size
  .have W:(i:Int)<(s.size:Int):=d
   have F:(0:Int)<=(i:Int):=d
   have aY:IntKind.i64.wrap ((i:Int)+1)=((i+1:Nat):Int):=by rw[QC _ d d];omega
   have g:=LE (show UP (s.data.toList.take (i+1))=_ by rw[vy R,uM,<-e.j])
   by_cases q:SM s[i]=true
   .have S:=AW q
    have c:(33:Int)<=(s[i].toNat:Int):=d
    have P:(s[i].toNat:Int)<=126:=d
    have k3:¬(s[i].toNat:Int)=37:=d
    rw[G q]at g;go_wp2_with (at_builtin;refine bm wr z _ _ 22 z w.heap.size underlying22 H.j z d a.length B.j z _ [.int .u8 (s[i].toNat:Int)] 1 1 z z (ja _ _) M d d d ?_;intro N L T f l;have y:=LE f;have r:=LE l;clear f l);go_roundw
    case rel=>exact⟨i+1,d,ν,by rw[g.j];simpa[uv] using y.j,u.j.E r.j⟩
    case measure=>simp[intOf];omega
   have S:¬(33<=s[i].toNat/\s[i].toNat<=126/\s[i].toNat≠37):=λk=>q (AM k)
   rw[A q]at g;have hc:=s[i].toNat_lt;have y1:IntKind.u8.wrap ((s[i].toNat:Int) / 16)=(s[i].toNat:Int) / 16:=by simp[IntKind.wrap,IntKind.bits,IntKind.signed];omega
   have y2:((s[i].toNat:Int)).tmod 16=(s[i].toNat:Int) % 16:=by rw[DQ d]
   have y3:0<=(s[i].toNat:Int) / 16/\(s[i].toNat:Int) / 16<16:=d
   have y4:0<=(s[i].toNat:Int) % 16/\(s[i].toNat:Int) % 16<16:=d
   have U:WO[((s[i].toNat:Int) / 16).toNat]'(by show _<16;omega)=WH (s[i].toNat / 16):=ur _ d d;have V:WO[((s[i].toNat:Int) % 16).toNat]'(by show _<16;omega)=WH (s[i].toNat % 16):=ur _ d d;obtain⟨X,J⟩:=x (WH (s[i].toNat / 16));obtain⟨b,K⟩:=x (WH (s[i].toNat % 16));rw[<-J.j]at U;rw[<-K.j]at V;rw[<-J.j,<-K.j]at g;go_upto_region 10 with fail;go_cut [32] from 17 to 32 (λc f=>c=Q1 false/\f=wr)
   case first =>
    by_cases c:(33:Int)<=(s[i].toNat:Int)
    .by_cases P:(s[i].toNat:Int)<=126
     .have k3:(s[i].toNat:Int)=37:=d
      go_wp2_with fail;go_meet;exact⟨z,z⟩
     go_wp2_with fail
     go_meet;exact⟨z,z⟩
    go_wp2_with fail
    go_meet;exact⟨z,z⟩
   case rest =>
   obtain⟨rfl,c⟩:=hcut;rw[c];clear c wc;go_upto_region 12 with fail;refine AN (S:=λE=>True) κ (trivial) (λc=>?_);refine TY 0 (u4) z c (TY 1 (Ow WO) z c (TY 2 (Ow s) z c (TY 3 (Z (i:Int)) z c (TY 4 (.int .u8 (s[i].toNat:Int)) z c (TY 5 (.int .u8 (s[i].toNat / 16:Nat)) z c (TY 6 (.int .u8 (X.toNat:Int)) z c (TY 7 (Ow WO) z c (TY 8 (Ow s) z c (TY 9 (Z (i:Int)) z c (TY 10 (.int .u8 (s[i].toNat:Int)) z c (TY 11 (.int .u8 (s[i].toNat % 16:Nat)) z c ?_)))))))))));simp only[PS];refine TY 12 (.int .u8 (b.toNat:Int)) z c ?_;simp only[PS];refine RD 13 z (λP E=>?_);go_simp;refine E.j _ _ c (λ_=>?_)
   try simp only[PS]
   refine RD 14 z (λP E=>?_);refine yi wr.drew z _ _ 22 z w.heap.size underlying22 H.j z d a.length (B.j.drew) z _ [.int .u8 37,.int .u8 (X.toNat:Int),.int .u8 (b.toNat:Int)] 3 3 z z tP M d d d ?_;intro N L T f l;have y:=LE f;have r:=LE l;clear f l;refine E.j _ _ c (λ_=>?_)
   try simp only[PS]
   refine TY 15 (Y (Hw N 0) (a.length+3) L) z c ?_;simp only[PS];refine DN ?_;go_wp2_with fail;go_roundw
   case rel=>exact⟨i+1,d,ν,by rw[g.j];simpa[uv] using y.j,u.j.E ((D).drew.E r.j)⟩
   case measure=>simp[intOf];omega
  obtain rfl:i=s.size:=d
  rw[AS (show s.data.toList.length<=s.size from C)]at e;have b:=mg B.j;go_wp2;go_ret;exact⟨by rw[O.j,<-e.j];rfl,u.j⟩
theorem wG(s:Q4)(c:UInt8)(w:Q9):Calls prog 178 #[Ow s,.int .u8 (c.toNat:Int)] w λe a=>e=Q2 (Z (Lib.indexByte s.data.toList c))/\a=w:=by
 have a:((c.toNat:Int)).toNat.toUInt8=c:=j
 have b:∀w,(callFunc 242 #[Ow s,.int .u8 (c.toNat:Int)]).run prog w=.ok (.value (Z (Lib.indexByte s.data.toList c))) w:=λw=>by
  rw[EH func242 h h h (e:=Extern.BytealgIndexByte.indexByte) h,Lib.run_indexByteString,a];rfl
 go_enter func178,ntmps178;go_wp2;go_ret;exact⟨z,z⟩
theorem xU(s:Q4)(c:UInt8)(w:Q9):Calls prog 188 #[Ow s,.int .u8 (c.toNat:Int)] w λe a=>e=Q2 (Z (Lib.indexByte s.data.toList c))/\a=w:=by
 go_enter func188,ntmps188;go_wp2_with (go_at_call 178;refine(wG _ _ _).J ?_;rintro e a ⟨rfl,b⟩;rw[b];clear b a);go_ret;exact⟨z,z⟩
theorem Cv(s:Q4)(c:UInt8)(w:Q9):Calls prog 81 #[Ow s,Ow ⟨#[c]⟩] w λe a=>e=Q2 (Z (s.data.toList.count c:Int))/\a=w:=by
 have b:∀w,(callFunc 123 #[Ow s,.int .u8 (c.toNat:Int)]).run prog w=.ok (.value (Z (s.data.toList.count c:Int))) w:=λw=>by
  rw[EH func123 h h h (e:=Extern.BytealgCount.count) h,Lib.run_countString];simp[Lib.countByte,Result.andThen]
 obtain⟨K,a⟩:=x (s.data.toList.count c:Int);rw[<-a.j]at b⊢;have d:(⟨#[c]⟩:Q4)[0]'(by show 0<1;omega)=c:=rfl;go_enter func81,ntmps81;go_wp2;go_ret;exact⟨z,z⟩
theorem Oy(s:Q4)(c:UInt8)(w:Q9):Calls prog 82 #[Ow s,Ow ⟨#[c]⟩] w λe a=>e=Q2 (Z (Lib.indexByte s.data.toList c))/\a=w:=by
 have g:Calls prog 124 #[Ow s,Ow ⟨#[c]⟩] w λe a=>e=Q2 (Z (Lib.indexByte s.data.toList c))/\a=w:=by
  go_enter func124,ntmps124
  by_cases d:s.data.toList=[c]
  .have h:([c] == s.toList)=true:=by rw[TO,d];exact beq_self_eq_true _
   go_wp2;go_ret;exact⟨by rw[d];simp[Lib.indexByte],z⟩
  have h:([c] == s.toList)=false:=by rw[TO];exact BL.2 (λe=>d e.symm)
  have f:=LE (λw=>wG s c w);go_wp2_with (go_at_call 178;refine(f.j _).J ?_;rintro e a ⟨rfl,b⟩;rw[b];clear b a);go_ret;exact⟨z,z⟩
 go_enter func82,ntmps82;go_wp2_with (go_at_call 124;refine g.J ?_;rintro e a ⟨rfl,b⟩;rw[b];clear b a);go_ret;exact⟨z,z⟩
theorem A5(c:UInt8)(w:Q9):Calls prog 99 #[.int .u8 (c.toNat:Int)] w λe a=>e=Q2 (Q1 (SM c))/\a=w:=by
 go_enter func99,ntmps99;unfold SM
 by_cases b:(32:Int)<(c.toNat:Int)
 .by_cases e:(c.toNat:Int)<=126
  .by_cases k3:(c.toNat:Int)=37
   .have a:((c.toNat:Int) != 37)=false:=by simp[k3]
    rw[AH d];go_wp2;go_ret;exact⟨z,z⟩
   have a:((c.toNat:Int) != 37)=true:=by simpa using k3
   rw[AM d];go_wp2;go_ret;exact⟨z,z⟩
  rw[AH d]
  go_wp2;go_ret;exact⟨z,z⟩
 rw[AH d]
 go_wp2;go_ret;exact⟨z,z⟩
theorem tF{c:UInt8}:∀ {l:List UInt8},Lib.indexByte l c=-1->c ∉ l
 | [],_=>σ
 | x::l,h=>by
  unfold Lib.indexByte at h
  split at h
  .omega
  rename_i hx
  split at h
  .rename_i hl
   rw[DZ,not_or];exact⟨λe=>hx (by rw[e];exact beq_self_eq_true _),tF (by simpa using hl)⟩
  have:=Lib.indexByte_ge l c;omega
theorem zY{c:UInt8}:∀ {l:List UInt8} {m:Nat},Lib.indexByte l c=m->∃p a,l=p++c::a/\p.length=m/\c ∉ p
 | [],m,h=>by unfold Lib.indexByte at h;omega
 | x::l,m,h=>by
  unfold Lib.indexByte at h
  split at h
  .rename_i b
   exact⟨[],l,by rw[eq_of_beq b];rfl,q,j⟩
  rename_i b
  split at h
  .omega
  rename_i f
  have f:Lib.indexByte l c≠-1:=by simpa using f
  have o:=Lib.indexByte_ge l c;obtain⟨p,a,rfl,r,g⟩:=zY (c:=c) (l:=l) (m:=(Lib.indexByte l c).toNat) d;refine⟨x::p,a,z,q,?_⟩;rw[DZ,not_or];exact⟨λe=>b (by rw[e];exact beq_self_eq_true _),g⟩
def ry(s:Q4)(c:UInt8)(Q:List Q4)(t:Q4):Prop:=t.size<=s.size/\MO c s=Q++MO c t/\Q.length+t.data.toList.count c=s.data.toList.count c
theorem Dv{c:UInt8}{Q:List Q4}(h:ry s c Q t)(o:Q.length<s.data.toList.count c):∃m:Nat,Lib.indexByte t.data.toList c=m/\m<t.size/\ry s c (Q++[t.extract 0 m]) (t.extract (m+1) t.size):=by
 obtain⟨m,f,g⟩:=h;have r:=Lib.indexByte_ge t.data.toList c
 have l:Lib.indexByte t.data.toList c≠-1:=λe=>by have:=List.count_eq_zero.2 (tF e);omega
 obtain⟨p,q,e,u,b⟩:=zY (c:=c) (l:=t.data.toList) (m:=(Lib.indexByte t.data.toList c).toNat) d;have x:t.size=p.length+1+q.length:=by have:t.data.toList.length=t.size:=z;rw[<-this,e];simp;omega
 have a:(t.extract (p.length+1) t.size).data.toList=q:=by rw[Lib.extract_to_end,e,List.drop_append];simp
 have j:t.extract 0 p.length=⟨p.toArray⟩:=VT (by rw[Lib.extract_from_zero,e];simp);refine⟨p.length,d,d,by rw[AQ];omega,?_,?_⟩
 .have:MO c t=t.extract 0 p.length::MO c (t.extract (p.length+1) t.size):=by
   unfold MO;rw[a,e,uf q b,j];rfl
  rw[f,this,BY];rfl
 rw[a,AK,EJ]
 rw[e,List.count_append,List.count_cons_self,List.count_eq_zero.2 b]at g;omega
theorem N1{c:UInt8}{Q:List Q4}(h:ry s c Q t)(g:¬Q.length<s.data.toList.count c):MO c s=Q++[t]/\Q.length=s.data.toList.count c:=by
 obtain⟨e,b,f⟩:=h;have a:t.data.toList.count c=0:=d
 refine⟨?_,d⟩;rw[b];unfold MO;rw[uo (List.count_eq_zero.1 a)];rfl
def ZU(Q:List Q4)(n:Nat):List Ra:=Q.map Value.string++List.replicate n (Ow empty)
theorem sW(Q:List Q4)(n:Nat)(t:Q4):(ZU Q (n+1)).set Q.length (Ow t)=ZU (Q++[t]) n:=by
 unfold ZU;rw[IS _ _ j];simp[LB]
theorem Lk(Q:List Q4)(n:Nat):(ZU Q n).length=Q.length+n:=by simp[ZU]
def Ff(s:Q4)(c:UInt8)(w wr:Q9)(b a:Ra):Prop:=∃(Q:List Q4) (t:Q4),b=Ow t/\a=Z (Q.length:Int)/\ry s c Q t/\Row wr w.heap.size (ZU Q (s.data.toList.count c+1-Q.length))/\Q3 w wr
theorem Dt(s:Q4)(c:UInt8)(w:Q9)(hs:s.size<=30000):Calls prog 52 #[Ow s,Ow ⟨#[c]⟩,Z 0,Z (-1)] w λr b=>r=Q2 (Y (Hw w.heap.size 0) (MO c s).length (MO c s).length)/\Row b w.heap.size ((MO c s).map Value.string)/\Q3 w b:=by
 obtain⟨K,f⟩:=nHz (s.data.toList.count c);have X:K<=s.size:=by rw[f.j];exact List.count_le_length
 have q:=LE (λb=>Cv s c b);rw[<-f.j]at q;have l:IntKind.i64.wrap ((K:Int)+1)=((K+1:Nat):Int):=by rw[QC _ d d];omega
 have m:IntKind.i64.wrap ((s.size:Int)+1)=((s.size+1:Nat):Int):=by rw[QC _ d d];omega
 have o:IntKind.i64.wrap (K:Int)=(K:Int):=QC _ d d;have g:min (K:Int) (s.size:Int)=(K:Int):=d
 go_enter func52,ntmps52
 go_wp2_with (first|(go_at_call 81;refine(q.j _).J ?_;rintro e b ⟨rfl,h⟩;rw[h];clear h b)|(at_make;refine vm z _ _ 29 z 9 _ 1 16 underlying29 mD (K+1) z z d d ?_;intro M a E P;rw[N6]at a))
 have G:Row M w.heap.size (ZU [] (K+1)):=a;clear a g l m o;go_loopw [0,10] (λb a wr=>Ff s c w wr b a) (λ_ a _=>K-(intOf a).toNat)
 case atStart=>exact⟨[],s,z,z,⟨C,z,j⟩,by rw[<-f.j];exact G,E⟩
 case round =>
  obtain⟨Q,t,rfl,rfl,g,a,p⟩:=hrel;rw[<-f.j]at a;have A:=LE p;have R:=g.1;have F:=g.2.2;rw[<-f.j]at F;have y:=Lk Q (K+1-Q.length);obtain⟨u,hu⟩:∃u,wr.cell? (Ki w.heap.size Q.length)=some u:=⟨_,a.cell Q.length _ (AO d)⟩;have x:=a.froz Q.length d;have N:=a.lt
  by_cases B:Q.length<K
  .obtain⟨m,L,O,h⟩:=Dv g (by rw[<-f.j];exact B)
   have D:=LE h;have H:(Q.length:Int)<(K:Int):=d
   have S:¬((m:Int)<0):=d
   have T:IntKind.i64.wrap (m:Int)=(m:Int):=QC _ d d;have U:IntKind.i64.wrap ((m:Int)+1)=((m+1:Nat):Int):=by rw[QC _ d d];omega
   have I:IntKind.i64.wrap ((Q.length:Int)+1)=((Q.length+1:Nat):Int):=by rw[QC _ d d];omega
   have V:(m:Int)<=(t.size:Int):=d
   have W:(m:Int)+1<=(t.size:Int):=d
   have J:(Q.length:Int)<(K:Int)+1:=d
   have l:=LE (a.set Q.length d (Ow (t.extract 0 m)));have o:=LE (show(ZU Q (K+1-Q.length)).set Q.length (Ow (t.extract 0 m))=ZU (Q++[t.extract 0 m]) (K+1-(Q++[t.extract 0 m]).length) by rw[show K+1-Q.length=(K-Q.length)+1 by omega,sW];simp);have r:=LE (λb=>Oy t c b);rw[L]at r;clear a g h y p;go_wp2_with (go_at_call 82;refine(r.j _).J ?_;rintro e b ⟨rfl,h⟩;rw[h];clear h b);exact⟨⟨_,_,z,j,D.j,by rw[<-f.j,<-o.j];exact l.j,A.j.setCell C _⟩,by simp[intOf];omega⟩
  obtain⟨b,h⟩:=N1 g (by rw[<-f.j];exact B)
  rw[<-f.j]at h;have H:¬(Q.length:Int)<(K:Int):=d
  have J:(Q.length:Int)<(K:Int)+1:=d
  have I:IntKind.i64.wrap ((Q.length:Int)+1)=((Q.length+1:Nat):Int):=by rw[QC _ d d];omega
  have D:(Q.length:Int)+1<=(K:Int)+1:=d
  have l:=LE (a.set Q.length d (Ow t));have o:=LE (show(ZU Q (K+1-Q.length)).set Q.length (Ow t)=(MO c s).map Ow by rw[show K+1-Q.length=0+1 by omega,sW,b];simp[ZU]);have m:=LE (show(MO c s).length=Q.length+1 by rw[b];simp);have r:=LE h;clear a g y p b h;go_wp2;go_ret;rw[m.j,<-o.j];exact⟨by rw[r.j];rfl,l.j,A.j.setCell C _⟩
theorem xN(s:Q4)(c:UInt8)(w:Q9)(h:s.size<=30000):Calls prog 25 #[Ow s,Ow ⟨#[c]⟩] w λr a=>r=Q2 (Y (Hw w.heap.size 0) (MO c s).length (MO c s).length)/\Row a w.heap.size ((MO c s).map Value.string)/\Q3 w a:=by
 go_enter func25,ntmps25;go_wp2_with (go_at_call 52;refine(Dt s c _ h).J ?_;rintro e a ⟨rfl,b,d⟩;have f:=LE b;have g:=LE d;clear b d);go_ret;exact⟨z,f.j,g.j⟩
def WP(s:Q4):List Q4:=if (MO 10 s).getD ((MO 10 s).length-1) empty=empty then (MO 10 s).dropLast else MO 10 s
theorem xW:s=empty<->s.data.toList=[]:=⟨λh=>by rw[h];rfl,λh=>VT (by rw[h];rfl)⟩
theorem Cb{g:Nat}(h:Row w g cs)(k:Nat):Row w g (cs.take k):=⟨h.lt,λi v hv=>h.cell i v (by rw[FQ]at hv;split at hv;exact hv;cases hv),λi a=>h.froz i (by rw[AZ]at a;omega)⟩
theorem Df(s:Q4)(w:Q9)(C:s.size<=20000):Calls prog 12 #[Ow s] w λr f=>∃g,r=Q2 (Y (Hw w.heap.size 0) (WP s).length g)/\Row f w.heap.size ((WP s).map Value.string)/\Q3 w f:=by
 have h:=LE (λf=>xN s 10 f d);obtain⟨L,l⟩:=x (MO 10 s);have u:=rn 10 s;have q:=nf 10 s;rw[<-l.j]at h u q;have z:IntKind.i64.wrap ((L.length:Int)-1)=((L.length-1:Nat):Int):=by rw[QC _ d d];omega
 have p:=LE (λ(k:WP s=if L.getD (L.length-1) empty=empty then L.dropLast else L)=>k);have b:=LE (show WP s=if L.getD (L.length-1) empty=empty then L.dropLast else L by unfold WP;rw[<-l.j]);clear p;go_enter func12,ntmps12;go_wp2_with (go_at_call 25;refine(h.j _).J ?_;rintro e D ⟨rfl,c,o⟩;have j:=LE o;have m:=LE c;have B:=c.cell (L.length-1) (Ow (L.getD (L.length-1) empty)) (by simp[List.getD,AO (show L.length-1<L.length by omega)]);have y:=c.lt;clear o c)
 .rename_i a
  have a:L.getD (L.length-1) empty=empty:=xW.2 (by rw[<-TO];exact List.isEmpty_iff.1 a);rw[G a]at b;go_ret;exact⟨L.length,by rw[b.j,List.length_dropLast];rfl,by rw[b.j,List.dropLast_eq_take,GT];exact Cb m.j _,j.j⟩
 rename_i a
 have a:¬L.getD (L.length-1) empty=empty:=λe=>by
  have:=xW.1 e;rw[<-TO]at this;exact absurd (List.isEmpty_iff.2 this) (by simpa using a)
 rw[A a]at b;go_ret;exact⟨L.length,by rw[b.j];rfl,by rw[b.j];exact m.j,j.j⟩
theorem Lo(c:UInt8):Lib.indexByte WO.data.toList c=NG c:=by
 have a:(List.range 256).all (λn=>decide (Lib.indexByte WO.data.toList (UInt8.ofNat n)=NG (UInt8.ofNat n)))=true:=h
 have:=DI.1 a c.toNat (FR.2 c.toNat_lt);simpa using this
theorem Oz(x y:Int)(g:0<=x/\x<=15)(j:0<=y/\y<=15):bits BinOp.or IntKind.i64 (x*16) y % 256=((UInt8.ofNat (16*x.toNat+y.toNat)).toNat:Int):=by
 have c:(List.range 16).all (λa=>(List.range 16).all λb=>decide (bits BinOp.or IntKind.i64 ((a:Int)*16) (b:Int)=(a:Int)*16+(b:Int)))=true:=h
 have f:=DI.1 (DI.1 c x.toNat (FR.2 d)) y.toNat (FR.2 d);have e:=AW f;rw[show((x.toNat:Nat):Int)=x by omega,show((y.toNat:Nat):Int)=y by omega]at e;have:(UInt8.ofNat (16*x.toNat+y.toNat)).toNat=16*x.toNat+y.toNat:=q
 rw[e,this];omega
def WE(t:Q4)(h:0<t.size):UInt8×Nat :=if SM t[0]=true then (t[0],1)
 else if h3:t[0].toNat=37/\3<=t.size then
  (if (0:Int)<=NG t[1]/\(0:Int)<=NG t[2] then (UInt8.ofNat (16*(NG t[1]).toNat+(NG t[2]).toNat),3) else (0,0))
 else (0,0)
theorem Ml(t:Q4)(a:0<t.size)(w:Q9)(Q:t.size<=30000):Calls prog 130 #[Ow t] w λr b=>r=Q2 (.tuple #[.int .u8 ((WE t a).1.toNat:Int),Z ((WE t a).2:Int)])/\Q3 w b:=by
 have P:(0:Int)<(t.size:Int):=d
 have j:=LE (λb=>A5 t[0] b);obtain⟨B,q⟩:=x (SM t[0]);rw[<-q.j]at j;obtain⟨F,m⟩:=x (WE t a);rw[<-m.j];go_enter func130,ntmps130
 cases B with
 | true =>
  have e:F=(t[0],1):=by rw[m.j];unfold WE;rw[G q.j.symm]
  subst e;go_wp2_with (go_at_call 99;refine(j.j _).J ?_;rintro e b ⟨rfl,c⟩;rw[c];clear c b);refine H (v:=.tuple #[.int .u8 (t[0].toNat:Int),Z 1]) (by simp[results,results130,go_sem]) z ⟨z,D⟩
 | false =>
 have u:¬SM t[0]=true:=by rw[<-q.j];simp
 by_cases o:t[0].toNat=37
 rotate_left
 .have e:F=(0,0):=by rw[m.j];unfold WE;rw[A u,dif_neg (λk=>o k.1)]
  subst e;have L:¬(t[0].toNat:Int)=37:=d
  go_wp2_with (go_at_call 99;refine(j.j _).J ?_;rintro e b ⟨rfl,c⟩;rw[c];clear c b);refine H (v:=.tuple #[.int .u8 0,Z 0]) (by simp[results,results130,go_sem]) z ⟨z,D⟩
 have L:((t[0].toNat:Int) != 37)=false:=by simp[o]
 by_cases J:3<=t.size
 rotate_left
 .have e:F=(0,0):=by rw[m.j];unfold WE;rw[A u,dif_neg (λk=>J k.2)]
  subst e;have M:(t.size:Int)<3:=d
  clear o;go_wp2_with (go_at_call 99;refine(j.j _).J ?_;rintro e b ⟨rfl,c⟩;rw[c];clear c b);refine H (v:=.tuple #[.int .u8 0,Z 0]) (by simp[results,results130,go_sem]) z ⟨z,D⟩
 have M:¬(t.size:Int)<3:=d
 have S:(1:Int)<(t.size:Int):=d
 have T:(2:Int)<(t.size:Int):=d
 have N:=tp t[1];have O:=tp t[2];have E:=LE (λb=>xU WO t[1] b);have I:=LE (λb=>xU WO t[2] b);rw[Lo]at E I;have g:=LE (show F=if (0:Int)<=NG t[1]/\(0:Int)<=NG t[2] then (UInt8.ofNat (16*(NG t[1]).toNat+(NG t[2]).toNat),3) else (0,0) by rw[m.j];unfold WE;rw[A u,dif_pos ⟨o,J⟩]);clear o;go_upto_region 5 with (go_at_call 99;refine(j.j _).J ?_;rintro e b ⟨rfl,c⟩;rw[c];clear c b);refine AN (S:=λb=>True) h (trivial) (λc=>?_);refine TY 0 (Ow t) z c (TY 1 (.int .u8 (t[1].toNat:Int)) z c (TY 3 (Ow t) z c (TY 4 (.int .u8 (t[2].toNat:Int)) z c ?_)));simp only[PS];have p:=c;refine RD 2 z (λK r=>?_);refine LM f 188 #[Ow WO,.int .u8 (t[1].toNat:Int)] l (E.j _) ?_;rintro e y ⟨rfl,o⟩;rw[o];clear o y;refine⟨_,z,?_⟩;refine r.j _ _ p (λ_=>?_)
 try simp only[PS]
 refine RD 5 z (λK r=>?_);refine LM f 188 #[Ow WO,.int .u8 (t[2].toNat:Int)] l (I.j _) ?_;rintro e y ⟨rfl,o⟩;rw[o];clear o y;refine⟨_,z,?_⟩;refine r.j _ _ p (λ_=>?_)
 try simp only[PS]
 refine TY 6 (Z (NG t[1])) z p (TY 7 (Z (NG t[2])) z p ?_);simp only[PS];refine DN ?_
 all_goals
  by_cases k3:NG t[1]<0
  .rw[A d]at g
   obtain rfl:=g.j;go_wp2_with fail;refine H (v:=.tuple #[.int .u8 0,Z 0]) (by simp[results,results130,go_sem]) z ⟨z,(D).drew⟩
  by_cases R:NG t[2]<0
  .rw[A d]at g
   obtain rfl:=g.j;go_wp2_with fail;refine H (v:=.tuple #[.int .u8 0,Z 0]) (by simp[results,results130,go_sem]) z ⟨z,(D).drew⟩
  rw[G d]at g;obtain⟨C,o⟩:=x (UInt8.ofNat (16*(NG t[1]).toNat+(NG t[2]).toNat));rw[<-o.j]at g;have y:=LE (Oz (NG t[1]) (NG t[2]) d d);rw[<-o.j]at y;obtain rfl:=g.j;go_wp2_with fail;refine H (v:=.tuple #[.int .u8 (C.toNat:Int),Z 3]) (by simp[results,results130,go_sem,y.j]) z ⟨z,(D).drew⟩
theorem lU(a:i+k<s.size)(h:k<(s.extract i s.size).size):(s.extract i s.size)[k]'h=s[i+k]:=by
 have e:(s.extract i s.size).data.toList=s.data.toList.drop i:=Lib.extract_to_end s i;show(s.extract i s.size).data.toList[k]'h=s.data.toList[i+k]'a;simp only[e,List.getElem_drop]
theorem I4(s:Q4)(i k:Nat):(s.extract i s.size).extract k (s.extract i s.size).size=s.extract (i+k) s.size:=VT (by rw[Lib.extract_to_end,Lib.extract_to_end,Lib.extract_to_end,GO])
theorem yJ(s:Q4)(i:Nat):(s.extract i s.size).size=s.size-i:=by rw[AQ];omega
theorem Qs{D:List UInt8}(h:XT s i D)(f:i<s.size)(a:0<(s.extract i s.size).size):((WE (s.extract i s.size) a).2=0/\RG s.data.toList=none)\/(0<(WE (s.extract i s.size) a).2/\i+(WE (s.extract i s.size) a).2<=s.size/\XT s (i+(WE (s.extract i s.size) a).2) (D++[(WE (s.extract i s.size) a).1])):=by
 have u:=yJ s i;have c:(s.extract i s.size)[0]'a=s[i]:=lU (k:=0) f a;unfold WE
 by_cases g:SM s[i]=true
 .rw[G (by rw[c];exact g),c]
  exact .inr ⟨j,q,zW h f g⟩
 have o:SM s[i]=false:=by simpa using g
 have l:¬SM ((s.extract i s.size)[0]'a)=true:=by rw[c];exact g
 by_cases b:s[i].toNat=37
 rotate_left
 .rw[A l,dif_neg (λk=>b (by rw[<-c];exact k.1))]
  exact .inl ⟨z,mU h f o b⟩
 by_cases m:3<=(s.extract i s.size).size
 rotate_left
 .rw[A l,dif_neg (λk=>m k.2)]
  exact .inl ⟨z,t7 h f b d⟩
 have p:(s.extract i s.size)[1]' d=s[i+1]:=lU (k:=1) d d;have r:(s.extract i s.size)[2]' d=s[i+2]:=lU (k:=2) d d;rw[A l,dif_pos ⟨by rw[c];exact b,m⟩,p,r]
 by_cases e:0<=NG s[i+1]/\0<=NG s[i+2]
 .rw[G e]
  exact .inr ⟨j,q,vZ h d b e.1 e.2⟩
 rw[A e]
 exact .inl ⟨z,zx h d b e⟩
def Fh(s:Q4)(w wr:Q9)(b a:Ra):Prop:=∃(i:Nat) (D:List UInt8),b=Ow (s.extract i s.size)/\XT s i D/\wr.ownsRow w.heap.size 5 1 a D.length (D.map uv)/\Q3 w wr
def qX:Ra->Nat
 | .string s=>s.size
 | _=>0
theorem Ef(s:Q4)(w:Q9)(hs:s.size<=30000):Calls prog 88 #[Ow s] w λr e=>r=Q2 (.tuple #[Ow ((NN s).getD empty),Q1 (NN s).isSome])/\Q3 w e:=by
 obtain⟨i0,a,b,q,c⟩:=YO vu;have L:=LE (I a (I b (I q c)));clear a b q c;obtain⟨U,j⟩:=x (Value.tuple #[Ow ((NN s).getD empty),Q1 (NN s).isSome]);rw[<-j.j];go_enter func88,ntmps88
 by_cases g:s.data.toList=[45]
 .have b:(s.toList == [45])=true:=by rw[TO,g];rfl
  go_wp2;refine H (v:=.tuple #[Ow ⟨#[]⟩,Q1 true]) (by simp[results,results88,go_sem]) z ⟨?_,D⟩;rw[j.j];unfold NN;rw[AI g];rfl
 have b:(s.toList == [45])=false:=by rw[TO];exact BL.2 g
 have N:=LE (λ(k:RG s.data.toList=none)=>j.j.E (By (Ai g k)));have O:=LE (λa (k:RG s.data.toList=some a)=>j.j.E (show _=Value.tuple #[Ow ⟨a.toArray⟩,Q1 true] by rw[xL g k];rfl));go_wp2;clear b;go_loopw [0,4] (λb c wr=>Fh s w wr b c) (λb _ _=>qX b)
 case atStart=>exact⟨0,[],by rw[show s.extract 0 s.size=s from VT (by rw[Lib.extract_to_end];rfl)],zO s,BU _ _ _ _,D⟩
 case round =>
  obtain⟨i,a,rfl,b,f,c⟩:=hrel;have aY:=b.1;have aZ:=b.2.1;have r:=LE b;have A:=LE f;have p:=LE c;have C:=c.size;have F:=yJ s i;have y:=LE (I4 s i);clear b f c
  by_cases S:i<s.size
  .have f:0<(s.extract i s.size).size:=d
   have m:=LE (Qs r.j S f);have h:=LE (λe=>Ml (s.extract i s.size) f e d);obtain⟨c,K⟩:=x ((WE (s.extract i s.size) f).1);obtain⟨k,M⟩:=x ((WE (s.extract i s.size) f).2);rw[<-K.j,<-M.j]at h m;obtain⟨t,o⟩:=x (s.extract i s.size);rw[<-o.j]at h y F f⊢;have V:(0:Int)<(t.size:Int):=d
   by_cases E:k=0
   .subst E
    go_wp2_with (go_at_call 130;refine(h.j _).J ?_;rintro e J ⟨rfl,b⟩;have l:=LE b;clear b);refine H (v:=.tuple #[Ow ⟨#[]⟩,Q1 false]) (by simp[results,results88,go_sem]) z ⟨by rw[N.j (m.j.resolve_right (λb=>d)).2],p.j.E (l.j.J C)⟩
   obtain⟨_,f2,e⟩:=m.j.resolve_left (λb=>E b.1)
   have W:¬(k:Int)=0:=d
   have G:(k:Int)<=(t.size:Int):=d
   have X:(0:Int)<=(k:Int):=d
   have Q:=LE e;clear e
   go_wp2_with (first|(go_at_call 130;refine(h.j _).J ?_;rintro e J ⟨rfl,b⟩;have l:=LE b;have q:=b.size;clear b)|(at_builtin;refine bm J z _ _ 22 z w.heap.size underlying22 L.j z d a.length (MK A.j l.j) z _ [.int .u8 (c.toNat:Int)] 1 1 z z (ja _ _) d d d d ?_;intro g9 T w9 u B;have R:=LE u;have P:=LE B;clear u B))
   go_roundw
   case rel=>exact⟨i+k,_,by rw[<-y.j k,F],Q.j,by simpa[uv] using R.j,(p.j.E (l.j.J C)).E P.j⟩
   case measure=>simp[qX,AQ];omega
  have b:i=s.size:=d
  have c:=LE (b ▸ r.j);have f:¬(0:Int)<((s.extract i s.size).size:Int):=d
  obtain⟨t,o⟩:=x (s.extract i s.size);rw[<-o.j]at f⊢;have e:=mg A.j;clear b;go_wp2;refine H (v:=.tuple #[Ow ⟨a.toArray⟩,Q1 true]) (by simp[results,results88,go_sem]) z ⟨by rw[O.j a (zL c.j)],p.j⟩
def TL(ws:List Q4):Bool:=ws.all λs=>(NN s).isSome
def QQ(ws:List Q4):List Q4:=ws.map λs=>(NN s).getD empty
theorem E7(a:k<ws.length)(h:(NN (ws.getD k empty)).isSome=false):TL ws=false:=by
 unfold TL;exact FN.2 ⟨ws.getD k empty,by simp[List.getD,a],by rw[h];simp⟩
theorem Ik(h:∀k,k<ws.length->(NN (ws.getD k empty)).isSome=true):TL ws=true:=by
 unfold TL;rw[DI];intro s b;obtain⟨k,a,rfl⟩:=EM b;have:=h k a;simpa[List.getD,a] using this
theorem Pp(a:k<ws.length):QQ (ws.take (k+1))=QQ (ws.take k)++[(NN (ws.getD k empty)).getD empty]:=by
 unfold QQ;rw[List.take_add_one,DC];simp[List.getD,a]
def Fi(ws:List Q4)(w wr:Q9)(b a:Ra):Prop:=∃i:Nat,i<=ws.length/\a=Z (i:Int)/\(∀k,k<i->(NN (ws.getD k empty)).isSome=true)/\wr.ownsRow w.heap.size 9 1 b i ((QQ (ws.take i)).map Value.string)/\Q3 w wr
theorem pD(a:Q5)(ws:List Q4)(c:Nat)(w:Q9)(h:Strs w a ws)(hl:ws.length<=30000)(R:∀s∈ws,s.size<=30000):Calls prog 56 #[Y a ws.length c] w λr e=>∃v,r=Q2 (.tuple #[v,Q1 (TL ws)])/\(TL ws=true->e.ownsRow w.heap.size 9 1 v ws.length ((QQ ws).map Value.string))/\Q3 w e:=by
 obtain⟨i0,C,b,f,E⟩:=YO mD;have O:=LE (I C (I b (I f E)));clear C b f E;go_enter func56,ntmps56;go_wp2;go_loopw [4,11] (λf b wr=>Fi ws w wr f b) (λ_ b _=>ws.length-(intOf b).toNat)
 case atStart=>exact⟨0,AL,z,λk p=>d,BU _ _ _ _,AB⟩
 case round =>
  obtain⟨i,D,rfl,F,u,g⟩:=hrel;have M:=g.size;have G:=LE F;have A:=LE u;have y:=LE g
  by_cases m:i<ws.length
  .obtain⟨b,o,s,rfl,W,j⟩:=(h.I g).at m
   have T:(i:Int)<(ws.length:Int):=d
   have C:(0:Int)<=(i:Int):=d
   have U:IntKind.i64.wrap ((i:Int)+1)=((i+1:Nat):Int):=by rw[QC _ d d];omega
   have q:=LE (λe=>Ef s e (by rw[j.j];have:=R (ws.getD i empty) (by simp[List.getD,m]);exact this));obtain⟨X,J⟩:=x ((NN s).getD empty);obtain⟨B,r⟩:=x ((NN s).isSome);rw[<-J.j,<-r.j]at q;clear F u g h
   cases B with
   | false =>
    go_wp2_with (go_at_call 88;refine(q.j _).J ?_;rintro e N ⟨rfl,f⟩;have l:=LE f;clear f);have e:TL ws=false:=E7 m (by rw[<-j.j];exact r.j.symm);refine H (by simp[results,results56,go_sem];rfl) z ⟨_,by rw[e],(λk=>(by rw[e]at k;cases k)),y.j.E (l.j.J M)⟩
   | true =>
    go_wp2_with (first|(go_at_call 88;refine(q.j _).J ?_;rintro e N ⟨rfl,f⟩;have l:=LE f;have E:=f.size;clear f)|(at_builtin;refine bm N z _ _ 29 z w.heap.size underlying29 O.j z d i (MK A.j l.j) z _ [Ow X] 1 1 z z (oH _) d d d d ?_;intro V S w9 K L;have Q:=LE K;have P:=LE L;clear K L))
    go_roundw
    case rel =>
     refine⟨i+1,d,ν,λk p=>?_,?_,(y.j.E (l.j.J M)).E P.j⟩
     .rcases Nat.lt_succ_iff_lt_or_eq.1 p with p|rfl
      .exact G.j k p
      rw[<-j.j,<-r.j]
     rw[Pp m,<-j.j,<-J.j,DC];exact Q.j
    case measure=>simp[intOf];omega
  obtain rfl:i=ws.length:=d
  rw[DG]at A;clear F u g h;have e:TL ws=true:=Ik G.j;go_wp2;refine H (by simp[results,results56,go_sem];rfl) z ⟨_,by rw[e],λ_=>A.j,y.j⟩
def Fo(s:Q4)(w wr:Q9)(b a:Ra):Prop:=∃i:Nat,i<=s.size/\a=Z (i:Int)/\wr.ownsRow w.heap.size 5 1 b (UP (s.data.toList.take i)).length ((UP (s.data.toList.take i)).map uv)/\Q3 w wr
theorem Pk(c:UInt8):bits BinOp.and IntKind.u8 (c.toNat:Int) 15=(c.toNat:Int) % 16:=by
 have a:(List.range 256).all (λn=>decide (bits BinOp.and IntKind.u8 (n:Int) 15=(n:Int) % 16))=true:=h
 exact AW (DI.1 a c.toNat (FR.2 c.toNat_lt))
theorem Dh(s:Q4)(w:Q9)(hs:s.size<=30000):Calls prog 61 #[Ow s] w λr g=>r=Q2 (Ow (shO s))/\Q3 w g:=by
 obtain⟨i0,M,a,b,c⟩:=YO vu;have P:=LE (I M (I a (I b c)));clear M a b c;obtain⟨aW,r⟩:=x (shO s);rw[<-r.j];go_enter func61,ntmps61
 by_cases q:s.size=0
 .have a:(s.toList == [])=true:=by rw[TO,AD (show s.data.toList.length=0 from q)];rfl
  go_wp2;go_ret;exact⟨by rw[r.j];unfold shO;rw[G q];rfl,D⟩
 have l:(s.toList == [])=false:=by rw[TO];exact BL.2 (λe=>q (BD List.length e))
 by_cases E:s.data.toList=[45]
 .have a:(s.toList == [45])=true:=by rw[TO,E];rfl
  go_wp2;go_ret;exact⟨by rw[r.j];unfold shO;rw[A q,G E];rfl,D⟩
 have a:(s.toList == [45])=false:=by rw[TO];exact BL.2 E
 have W:=LE (show aW=⟨(UP s.data.toList).toArray⟩ by rw[r.j];unfold shO;rw[A q,A E]);obtain⟨cap,N,c,b,bB,f,aX⟩:=zN w s;go_wp2;clear a l c;have j:=LE f;have C:=LE b;clear f b;go_loopw [3,14] (λb a wr=>Fo s N wr b a) (λ_ a _=>s.size-(intOf a).toNat)
 case atStart=>exact⟨0,AL,z,BU _ _ _ _,D⟩
 case round =>
  obtain⟨i,hi,rfl,b,c⟩:=hrel;obtain⟨a,m⟩:=x (UP (s.data.toList.take i));rw[<-m.j]at b;have bE:a.length<=90000:=by rw[m.j];have:=pS (s.data.toList.take i);rw[AZ]at this;omega
  have K:=LE b;have u:=LE c;have T:=c.size;clear b c
  by_cases y:i<s.size
  .have aZ:(i:Int)<(s.size:Int):=d
   have M:(0:Int)<=(i:Int):=d
   have bF:IntKind.i64.wrap ((i:Int)+1)=((i+1:Nat):Int):=by rw[QC _ d d];omega
   have l:=LE (show UP (s.data.toList.take (i+1))=_ by rw[vy y,uM,<-m.j]);obtain⟨c,O⟩:=x (s[i]);rw[<-O.j]at l
   have hc:wr.cell? (Ki w.heap.size i)=some (.int .u8 (c.toNat:Int)):=by
    rw[u.j.cell (p:=(Ki w.heap.size i)) (by show w.heap.size<_;omega),j.j.cell i (by rw[NK];exact y),O.j];simp[LF,List.getD,y,AO (show i<s.data.toList.length from y)];rfl
   have lw:w.heap.size<wr.heap.size:=d
   have F:=LE (λg=>A5 c g);obtain⟨B,V⟩:=x (SM c);rw[<-V.j]at F l
   cases B with
   | true =>
    rw[G z]at l
    go_wp2_with (first|(go_at_call 99;refine(F.j _).J ?_;rintro e g ⟨rfl,f⟩;rw[f];clear f g)|(at_builtin;refine bm wr z _ _ 22 z N.heap.size underlying22 P.j z d a.length K.j z _ [.int .u8 (c.toNat:Int)] 1 1 z z (ja _ _) T d d d ?_;intro U S w9 o p;have J:=LE o;have H:=LE p;clear o p))
    go_roundw
    case rel=>exact⟨i+1,d,ν,by rw[l.j];simpa[uv] using J.j,u.j.E H.j⟩
    case measure=>simp[intOf];omega
   | false =>
    rw[A σ]at l;have bC:=c.toNat_lt;have y3:0<=(c.toNat:Int) / 16/\(c.toNat:Int) / 16<16:=d
    have y4:0<=(c.toNat:Int) % 16/\(c.toNat:Int) % 16<16:=d
    have y5:WO[((c.toNat:Int) / 16).toNat]'(by show _<16;omega)=WH (c.toNat / 16):=ur _ d d;have y6:WO[((c.toNat:Int) % 16).toNat]'(by show _<16;omega)=WH (c.toNat % 16):=ur _ d d;have y7:=Pk c;obtain⟨X,Q⟩:=x (WH (c.toNat / 16));obtain⟨b,R⟩:=x (WH (c.toNat % 16));rw[<-Q.j]at y5;rw[<-R.j]at y6;rw[<-Q.j,<-R.j]at l;go_upto_region 12 with (go_at_call 99;refine(F.j _).J ?_;rintro e g ⟨rfl,f⟩;rw[f];clear f g);refine AN (S:=λg=>True) κ (trivial) (λf=>?_);refine TY 0 (u3) z f (TY 1 (.int .u8 (c.toNat:Int)) z f (TY 2 (.int .u8 ((c.toNat:Int) / 16)) z f (TY 3 (.int .u8 (X.toNat:Int)) z f (TY 4 (.int .u8 (c.toNat:Int)) z f (TY 5 (.int .u8 ((c.toNat:Int) % 16)) z f (TY 6 (.int .u8 (b.toNat:Int)) z f ?_))))));simp only[PS];refine RD 7 z (λh L=>?_)
    go_simp;refine L.j _ _ f (λ_=>?_)
    try simp only[PS]
    refine RD 8 z (λh L=>?_);refine yi wr.drew z _ _ 22 z N.heap.size underlying22 P.j z d a.length (K.j.drew) z _ [.int .u8 37,.int .u8 (X.toNat:Int),.int .u8 (b.toNat:Int)] 3 3 z z tP T d d d ?_;intro U S w9 o p;have J:=LE o;have H:=LE p;clear o p;refine L.j _ _ f (λ_=>?_)
    try simp only[PS]
    refine TY 9 (Y (Hw U 0) (a.length+3) S) z f ?_;simp only[PS];refine DN ?_;go_wp2_with fail;go_roundw
    case rel=>exact⟨i+1,d,ν,by rw[l.j];simpa[uv] using J.j,u.j.E ((D).drew.E H.j)⟩
    case measure=>simp[intOf];omega
  obtain rfl:i=s.size:=d
  rw[AS (show s.data.toList.length<=s.size from AA)]at m;have c:=mg K.j;go_wp2;go_ret;exact⟨by rw[W.j,<-m.j];rfl,C.j.E (u.j.J d)⟩
end
section
open Tryz
open Go.Shelf
def Kb:Go.Shelf.Ren:=⟨fun|172=>83|244=>125|245=>126|247=>182|279=>183|280=>184|281=>185|282=>186|287=>244|316=>245|171=>63|205=>246|321=>286|322=>287|243=>101|246=>154|283=>218|284=>219|285=>220|286=>221|129=>276|317=>275|318=>277|319=>278|320=>279|337=>300|338=>301|n=>n,fun|9=>9|3=>3|75=>58|76=>59|4=>4|5=>5|167=>210|37=>22|0=>0|85=>211|2=>2|168=>213|53=>249|175=>280|46=>71|210=>283|127=>80|145=>336|143=>334|21=>21|171=>248|173=>252|212=>312|51=>134|20=>20|213=>313|232=>352|233=>120|80=>63|n=>n,fun|15=>4|16=>5|17=>6|18=>8|19=>9|n=>n⟩
theorem qE:Go.Proofs.LaysM.n171 prog Kb:=by
 constructor
 constructor
 all_goals first|kernel_rfl|(intro w;kernel_rfl)
theorem oO:Go.Proofs.LaysC.n172 prog Kb:=by
 constructor
 constructor
 constructor
 all_goals first|kernel_rfl|(intro w;kernel_rfl)
structure Vz(w:Q9):Prop where
 sz:10<=w.heap.size
 np:∃ty v,w.cell? (Ki 7 0)=some (.iface ty v)
 et:w.cell? (Ki 1 0)=some (.iface 318 (.agg #[Dr 10 58]))
 es:∃ty v,w.cell? (Ki 4 0)=some (.iface ty v)
 er:∃ty v,w.cell? (Ki 5 0)=some (.iface ty v)
 tb:Lib.TabIs prog w "internal/strconv.uint64pow10" .u64 Lib.pow10Tab
theorem vG:prog.globalNamed "internal/strconv.uint64pow10"=some 6:=h
theorem Vz.low{w c:Q9}(h:Vz w)(a:RowKit.Below 10 w c):Vz c:=by
 obtain⟨d,⟨j,m,e⟩,f,⟨k,n,g⟩,⟨l,o,i⟩,b⟩:=h;refine⟨AJ d a.size,⟨j,m,(a.cell (p:=(Ki 7 0)) δ).E e⟩,(a.cell (p:=(Ki 1 0)) δ).E f,⟨k,n,(a.cell (p:=(Ki 4 0)) δ).E g⟩,⟨l,o,(a.cell (p:=(Ki 5 0)) δ).E i⟩,?_⟩;unfold Lib.TabIs World.var? at b⊢;rw[vG]at b⊢;simp only[Option.bind_some]at b⊢;rw[a.block _ δ];exact b
theorem Vz.I{w b:Q9}(h:Vz w)(a:RowKit.Below w.heap.size w b):Vz b:=h.low ⟨a.os,a.tape,a.output,a.size,λk c=>a.block k (AC c h.sz)⟩
theorem Cr(n:Nat)(a:n<10 ^ 19):(⟨(Lib.itoa (n:Int)).toArray⟩:Q4)=y0p n:=VT (by rw[pH 18 n a,Lib.itoa_nonneg])
theorem qh(n:Nat)(c:n<=1000000000)(w:Q9)(hv:Vz w):Calls prog 63 #[Z (n:Int)] w λe a=>e=Q2 (Ow (y0p n))/\RowKit.Below w.heap.size w a:=by
 refine(Any.strconv_Itoa qE (n:Int) d d w hv.tb).J ?_;rintro e a ⟨rfl,k,b,rfl⟩;exact⟨by rw[Cr n d],Lib.below_grow _ w C k b⟩
theorem Cq(v:Int)(f:0<=v)(b:v<=9223372036854775807)(w:Q9)(hv:Vz w):Calls prog 63 #[Z v] w λe a=>e=Q2 (Ow ⟨(Lib.itoa v).toArray⟩)/\RowKit.Below w.heap.size w a:=by
 refine(Any.strconv_Itoa qE v d b w hv.tb).J ?_;rintro e a ⟨rfl,k,c,rfl⟩;exact⟨z,Lib.below_grow _ w C k c⟩
theorem Pu(s:Q4)(g:s.size<=30000)(w:Q9)(hv:Vz w):Calls prog 83 #[Ow s] w λe a=>(∃v,Lib.atoiAll s.data.toList=.ok v/\e=Q2 (.tuple #[Z v,.nilIface])\/(∀v,Lib.atoiAll s.data.toList≠.ok v)/\∃f p,e=Q2 (.tuple #[Z v,.iface f p]))/\RowKit.Below w.heap.size w a:=by
 rcases h:Lib.atoiAll s.data.toList with v|_|_
 .refine(Any.strconv_Atoi_ok oO s d v h w).J ?_
  rintro e a ⟨rfl,b⟩;refine⟨⟨v,.inl ⟨z,z⟩⟩,?_⟩;rcases b with rfl|⟨t,rfl⟩
  .exact RowKit.Below.refl _ _
  exact Lib.bytesWorld_below _ _ _
 .obtain⟨f,p,c⟩:=hv.es
  refine(Any.strconv_Atoi_syntax oO s d h _ w c (.inr ⟨_,_,z⟩)).J ?_;rintro e a ⟨N,rfl,_,_,b⟩;exact⟨⟨_,.inr ⟨λv=>j,_,_,z⟩⟩,b⟩
 obtain⟨f,p,c⟩:=hv.er
 refine(Any.strconv_Atoi_range oO s d h _ w c (.inr ⟨_,_,z⟩)).J ?_;rintro e a ⟨N,rfl,_,_,b⟩;exact⟨⟨_,.inr ⟨λv=>j,_,_,z⟩⟩,b⟩
end
section
open Tryz
open Go.RowKit
theorem qL{s:Q4}(h:VF s=none):TQ s=-1:=by unfold TQ;rw[h]
theorem G5{s:Q4}{n:Nat}(h:VF s=some n):TQ s=(n:Int):=by unfold TQ;rw[h]
theorem oA(a:Q5)(f:List Q4)(c:Nat)(w:Q9)(h:Strs w a f)(x:f.length<=30000)(D:∀s∈f,s.size<=30000)(hv:Vz w):Calls prog 54 #[Y a f.length c] w λr b=>∃v,r=Q2 (.tuple #[v,Q1 (NY f)])/\(NY f=true->b.ownsRow w.heap.size 3 1 v f.length ((QM f).map (Value.int .i64)))/\Q3 w b:=by
 obtain⟨i0,G,b,J,e⟩:=YO Ak;have U:=LE (I G (I b (I J e)));have V:=LE hv;clear G b J e hv;go_enter func54,ntmps54;go_wp2;go_loopw [4,11] (λe b wr=>rH f w wr e b) (λ_ b _=>f.length-(intOf b).toNat)
 case atStart=>exact⟨0,AL,z,λk C=>d,BU _ _ _ _,AB⟩
 case round =>
  obtain⟨i,hi,rfl,K,E,r⟩:=hrel;have A:=r.size;have L:=LE K;have F:=LE E;have q:=LE r
  by_cases y:i<f.length
  .obtain⟨b,o,s,rfl,hc,u⟩:=(h.I r).at y
   have aV:(i:Int)<(f.length:Int):=d
   have G:(0:Int)<=(i:Int):=d
   have aX:IntKind.i64.wrap ((i:Int)+1)=((i+1:Nat):Int):=by rw[QC _ d d];omega
   have X:s.size<=30000:=by rw[u.j];have:=D (f.getD i empty) (by simp[List.getD,y]);exact this
   have N:=LE (V.j.I r);have t:=LE (Pu s X wr N.j);clear K E r h;go_upto_region 5 with fail;refine AX ?_;go_wp2_with fail;refine t.j.J ?_;rintro e R ⟨⟨v,⟨j,rfl⟩|⟨j,ty,p,rfl⟩⟩,g⟩
   rotate_left
   .have l:=LE (show NY f=false from mX y (by
     rw[<-u.j]
     cases hn:VF s with
     | none=>rw[qL hn];omega
     | some n=>exact absurd (yI hn).1 (j _)))
    have m:=LE g;clear g j;go_wp2_with fail;refine H (by simp[results,results54,go_sem];rfl) z ⟨_,by rw[l.j],(λk=>(by rw[l.j]at k;cases k)),q.j.E (m.j.J A)⟩
   have P:=Lib.atoiAll_bounds j;have J:=g.size;have m:=LE g;have M:=LE (N.j.I g);clear g t
   cases hn:VF s with
   | none =>
    have l:=LE (show NY f=false from mX y (by rw[<-u.j,qL hn];omega))
    by_cases k1:v<0
    .go_wp2_with fail
     refine H (by simp[results,results54,go_sem];rfl) z ⟨_,by rw[l.j],(λk=>(by rw[l.j]at k;cases k)),q.j.E (m.j.J A)⟩
    by_cases O:6<s.size
    .have Q:(6:Int)<(s.size:Int):=d
     go_wp2_with fail;refine H (by simp[results,results54,go_sem];rfl) z ⟨_,by rw[l.j],(λk=>(by rw[l.j]at k;cases k)),q.j.E (m.j.J A)⟩
    have Q:¬(6:Int)<(s.size:Int):=d
    have t:=LE (Cq v d P.2 R M.j);obtain⟨T,n⟩:=nHz (⟨(Lib.itoa v).toArray⟩:Q4);rw[<-n.j]at t
    have x:(T.toList == s.toList)=false:=by
     rw[TO,TO]
     refine BL.2 λe=>?_
     have:=Gp (s:=s) (v:=v) d P.2 d (by rw[<-n.j];exact VT e)
     rw[hn]at this;cases this
    clear hn j;go_wp2_with (go_at_call 63;refine t.j.J ?_;rintro e S ⟨rfl,g⟩;have B:=LE g;clear g);refine H (by simp[results,results54,go_sem];rfl) z ⟨_,by rw[l.j],(λk=>(by rw[l.j]at k;cases k)),(q.j.E (m.j.J A)).E (B.j.J d)⟩
   | some n =>
    obtain⟨B,S⟩:=yI hn;obtain⟨q3,O,q5⟩:=ro hn;obtain rfl:v=(n:Int):=by rw[B]at j;injection j with j;exact j.symm
    have k1:¬(n:Int)<0:=d
    have Q:¬(6:Int)<(s.size:Int):=d
    have l:=LE (show TQ s=(n:Int) from G5 hn);have t:=LE (qh n d R M.j);have g:y0p n=s:=VT (by rw[pH 18 n d,O]);rw[g]at t;clear g B S O hn j
    go_wp2_with (first|(go_at_call 63;refine t.j.J ?_;rintro e S ⟨rfl,g⟩;have B:=LE g;have aY:=g.size;clear g)|(at_builtin;refine bm S z _ _ 82 z w.heap.size underlying82 U.j z d i (MK (MK F.j m.j) B.j) z _ [Z (n:Int)] 1 1 z z (ja _ _) d d d d ?_;intro g9 aU w9 j O;have W:=LE j;have T:=LE O;clear j O))
    go_roundw
    case rel =>
     refine⟨i+1,d,ν,λk C=>?_,?_,((q.j.E (m.j.J A)).E (B.j.J d)).E T.j⟩
     .rcases Nat.lt_succ_iff_lt_or_eq.1 C with C|rfl
      .exact L.j k C
      rw[<-u.j,l.j];omega
     rw[xQ y,<-u.j,l.j,DC];exact W.j
    case measure=>simp[intOf];omega
  obtain rfl:i=f.length:=d
  rw[DG]at F;clear K E r h;have e:NY f=true:=sM L.j;go_wp2;refine H (by simp[results,results54,go_sem];rfl) z ⟨_,by rw[e],λ_=>F.j,q.j⟩
