import Derived.Test.YtjdmogljfdffeaaGreatDoorPrG44
set_option maxHeartbeats 32000000
namespace Go.Proofs.YtjdmogljfdffeaaGreatDoor
open Tryz
open Go.RowKit nw
set_option maxRecDepth 8000
set_option linter.all false
theorem Ag(R:Nat)(a:Option Addr)(n c:Nat)(p:Int)(w:World)(h:Rdr w R a n c p)(hp:p<99980000):Calls prog 86 #[.pointer (some ⟨R,0,none⟩)] w λr s=>Bv w s r/\TU w R a n c p 60 s:=by
 have p0:=h.p0;obtain⟨x,HX⟩:∃x,Hid (x=(KV 12 1).doE ZE):=⟨_,Z rfl⟩;have u:Hid (x.good 12):=by show Wo.good _ _;rw[HX.l];exact(xj (n:=12) (wd:=1) ω).doE ZE
 have HU:Hid (x.up=true\/x.S<=0):=by show _\/_;rw[HX.l];exact Hf (.inr (Int.le_refl 0)) _
 have HW:Hid (x.w=1):=by show _=_;rw[HX.l,ft];rfl
 have HM:=Z u.l.ok.le;go_enter func86,ntmps86;go_wp2_with fail;generalize b:w.alloc _=v1;obtain⟨f,o,g⟩:=LF b;clear b;have d:Below w.heap.size w v1:=f;clear f;refine(dx 12 1 _ ω ω).A ?_;rintro e v2 ⟨q0,rfl,l,i⟩;have t:=i.size;replace g:=g.z i;replace d:=d.j (i.A d.size);have f:=l.A (G:=λb=>w.heap.size+1<=b) (λb _ k=>by rcases k with k|k;exact k.elim;omega);have j:=Z (sD (KV 12 1) q0 _ v2 f (p6 ω));rw[<-HX.l]at j;clear l f i;unfold LO at j⊢;go_wp2_with fail;refine j.l.A ?_;rintro e v3 ⟨q,rfl,i,f⟩;have v:=f.size;replace g:=g.z f;replace d:=d.j (f.A d.size);clear f j;unfold LO;go_upto_region 2 with fail;generalize l:v3.alloc _=v4;obtain⟨f,r,j⟩:=LF l;clear l;replace g:=g.z f;replace i:=(i.A (G:=λb=>w.heap.size+1<=b/\b≠v3.heap.size) (λb l k=>by rcases k with k|k<;>omega)).z f
 replace d:=d.j (f.A d.size);obtain⟨B,m⟩:∃B,B=v3.heap.size:=⟨_,rfl⟩;rw[<-m]at j i⊢;have l:FgS w v4 R a n c p B x q:=⟨h.keep (N:=w.heap.size) h.lts.1 h.lts.2 d,RW _ d,h.lts.1,h.lts.2,g.q,j.q,ω,i⟩;clear f g j i d m r v t o h;generalize Value.agg _=A0;generalize Value.agg _=A1;generalize Value.agg _=A2;go_wp2_with fail;go_loopw [4] (λd wr=>vZ w R a n c p B x q d wr) (λd _=>60-(intOf d).toNat)
 case atStart=>exact⟨0,ω,rfl,by rw[show p+((0:Nat):Int)=p by omega];exact l⟩
 case round =>
  obtain⟨i,hi,rfl,F⟩:=hrel;clear l
  by_cases fF:i<60
  ·have bU:(i:Int)<60:=ω
   go_wp2_with fail;refine(WI _ 20 _ δ ω).A ?_;rintro e w1 ⟨⟨t,rfl,ht⟩,f⟩;have d:=F.z f;clear f F;go_wp2_with fail;refine(KX R a n c (p+i) 900 _ d.rd ω).A ?_;rintro e w2 ⟨⟨v',rfl,v0,v1⟩,j,f⟩;have g:=d.pick j f;clear j f d;obtain⟨v,rfl⟩:∃k:Nat,v'=(k:Int):=⟨v'.toNat,ω⟩;have vl:i+v<1000:=ω
   have d:=zU 3 (i+v) w2 (by simpa using vl) ω;rw[Int.natCast_add]at d;go_wp2_with fail;refine d.A ?_;rintro e w3 ⟨rfl,f⟩;have j:=g.z f;clear f g d;have r:(TS (i+v)).size<=64000:=by have:=oD 2 (i+v) (by simpa using vl);omega
   go_upto_region 6 with fail;generalize g:w3.alloc _=v5;obtain⟨f,m,d⟩:=LF g;clear g;have g:=j.z f;clear f j;obtain⟨TX,j⟩:∃T,T=t++TS (i+v):=⟨_,rfl⟩;have o:TX.size<=128000:=by rw[j,BK];omega
   rw[<-j]at d⊢;obtain⟨b,HB⟩:∃b:List Ch,Hid (b=[(⟨#[107]⟩,TX,false)]):=⟨_,Z rfl⟩;have cU:b.length=1:=by rw[HB.l];rfl
   have l:∀y∈b,y.1.size<=1048576/\y.2.1.size<=1048576:=by
    rw[HB.l];intro y f;rw[DJ.1 f];exact⟨by show(1:Nat)<=_;omega,by show TX.size<=_;omega⟩
   have f:Chs v5 (some ⟨w3.heap.size,0,none⟩) b:=by
    rw[HB.l];exact Row.chs d.q
   have cH:=Z l;clear l;obtain⟨G,l⟩:∃k,k=w3.heap.size:=⟨_,rfl⟩;rw[<-l]at f⊢;clear j d m l o r;generalize Value.agg _=A3;have d:=vj x.W x.S x.L x.T x.H x.F x.R x.U x.O q.s x.rs q.cs (some ⟨G,0,none⟩) b 1 v5 g.wo.at.h3 HM.l.l3 HM.l.s3 f ω cH.l;rw[cU]at d;obtain⟨D,j⟩:∃D,D=NR x.W x.S x.L x.T x.H x.F x.R x.U x.O x.rs b:=⟨_,rfl⟩;rw[<-j]at d;have HD:=Z j;clear j;have l:=Z d;clear d;refine BG ?_;refine ic rfl _ _ _ rfl (.pointer (some ⟨B,4,none⟩)) γ ?_;simp only[J];refine AS rfl 33 _ rfl (B) 4 rfl (sJ x.W x.S x.L x.T x.H x.F x.R x.U x.O (.slice q.s x.rs.length q.cs)) _ (Row.rangeMid (pre:=[.int .i64 x.w,.slice q.a x.ss.length q.c,.slice q.a' x.ws.length q.c',.bool x.up]) (cs:=(sJ x.W x.S x.L x.T x.H x.F x.R x.U x.O (.slice q.s x.rs.length q.cs))) (post:=[.slice q.p x.P.length q.cp,.slice q.t x.ts.length q.ct]) g.r3) underlying33 rfl ZH ?_
   simp only[J];go_wp2_with fail;refine l.l.A ?_;rintro e v6 ⟨oa,oc,ob,A,rfl,o,own,r,M,d⟩;have j:=g.z d;have m:=f.z d;clear g f d l r M o;unfold MV;go_upto_region 7 with fail;generalize g:v6.alloc _=C;obtain⟨f,o,d⟩:=LF g;clear g;obtain⟨X,g⟩:∃k,k=v6.heap.size:=⟨_,rfl⟩;rw[<-g]at d⊢;have l:FgJ w C R a n c (p+i+1) B x q X D oa oc ob A G b:=⟨j.z f,d.q,(own.z f).p.ops,m.z f⟩;clear j own m f d o g;generalize Value.agg _=A4;generalize Value.agg _=A5
   by_cases hC:D.C=0
   ·obtain⟨cI,d,rest,f,h0,h1,hd⟩:=zF (W:=x.W) (S:=x.S) (L:=x.L) (T:=x.T) (H:=x.H) (F:=x.F) (R:=x.R) (U:=x.U) (O:=x.O) (rs:=x.rs) (b:=b) (by rw[<-HD.l];exact hC)
    rw[<-HD.l]at f
    have hS:x.S<=(x.ss.length:Int):=by
     rcases HU.l with k|k
     ·rw[u.l.u k];omega
     omega
    obtain⟨z,rfl⟩:∃k:Nat,cI=(k:Int):=⟨cI.toNat,ω⟩;have cP:z<x.ss.length:=ω
    have dL:0<D.ops.length:=by rw[f];simp
    have HO:=Z f;have HC:=Z hC;clear f hC;obtain⟨gs,os,o,f,I,bG⟩:=l.s.wo.at.h1.at cP;have dU:=Z f;clear f
    have fG:o.size=64:=by
     have:=(PA u.l.d).2.1 o (by rw[bG.l];simp[List.getD,cP]);omega
    obtain⟨g,j,eK,m⟩:∃g j,ob=some ⟨g,j,none⟩/\∀r:World,Ops r ob D.ops->r.cell? ⟨g,j+1,none⟩=some (.int .i64 (z:Int))/\r.cell? ⟨g,j+2,none⟩=some (.string d):=by
     obtain⟨g,j,_,_,_,E,_⟩:=l.o.at dL;refine⟨g,j,E,λr N=>?_⟩;obtain⟨M,P,Q,S,T,H,O,K,L,f⟩:=N.at dL;rw[E]at H
     cases H
     have f:=f.l;rw[HO.l]at f;simp only[List.getD_cons_zero,EG]at f;simp only[Nat.zero_mul,FX]at K L;exact⟨K.j (by rw[f.2.1]),L.j (by rw[f.2.2])⟩
    have bH:=Z m;clear m;subst eK;obtain⟨oN,dV⟩:∃k,k=D.ops.length:=⟨_,rfl⟩;have K:=l.r.y 0;have f:=l.r.y 11;have m:=l.s.r3.y 1;have E:=(bH.l _ l.o).1;rw[HC.l]at K;rw[dU.l]at m;have fI:=l.r.lt;have fH:=l.s.r3.lt;have eC:(z:Int)<(x.ss.length:Int):=ω
    have eL:(0:Int)<(D.ops.length:Int):=ω
    go_upto_region 9 with fail;have H:Hid (C.cell? ⟨B,1,none⟩=some (.slice (some ⟨gs,os,none⟩) x.ss.length q.c)/\C.cell? ⟨X,11,none⟩=some (.slice (some ⟨g,j,none⟩) D.ops.length A)/\C.cell? ⟨g,j+1,none⟩=some (.int .i64 (z:Int))/\C.cell? ⟨gs,os+z,none⟩=some (.string o)):=⟨m,f,E,I⟩;clear K f m E I
    go_region_held3 (λs=>s.cell? ⟨B,1,none⟩=some (.slice (some ⟨gs,os,none⟩) x.ss.length q.c)/\s.cell? ⟨X,11,none⟩=some (.slice (some ⟨g,j,none⟩) D.ops.length A)/\s.cell? ⟨g,j+1,none⟩=some (.int .i64 (z:Int))/\s.cell? ⟨gs,os+z,none⟩=some (.string o))
     (first|assumption|exact H.l)
     (fail)
    have f:=l.z (AC _ _).drew;clear l H;go_wp2_with fail;obtain⟨wo,m⟩:∃wo:World,wo=C.drew:=⟨_,rfl⟩;rw[<-m]at f⊢;clear m;go_loopw [8] (λm wr=>vY w R a n c (p+i+1) B x q X D oa oc (some ⟨g,j,none⟩) A G b m wr) (λm _=>60-(intOf m).toNat)
    case atStart=>exact⟨10,ω,ω,rfl,f⟩
    case round =>
     obtain⟨k,fB,fC,rfl,E⟩:=hrel;clear f
     by_cases fE:k<60
     ·have bT:(k:Int)<60:=ω
      have H:Hid (wr.cell? ⟨X,11,none⟩=some (.slice (some ⟨g,j,none⟩) D.ops.length A)/\wr.cell? ⟨g,j+2,none⟩=some (.string d)):=⟨E.r.y 11,(bH.l _ E.o).2⟩;have eG:(0:Int)<=(k:Int):=ω
      have eH:¬(64:Int)<(k:Int):=ω
      have eI:min k 64+(64-k)<=9223372036854775807:=ω
      have eV:(k:Int)<=(d.size:Int):=ω
      have eX:(k:Int)<=(o.size:Int):=ω
      have eY:¬(9223372036854775807<(d.extract 0 k).size+(o.extract k o.size).size):=by rw[AK,AK];omega
      have eZ:¬(9223372036854775807<min k d.size+(o.size-k)):=ω
      have fA:¬(9223372036854775807<k+(o.size-k)):=ω
      have eM:=E.r.lt;go_upto_region 13 with fail;go_cut [9] from 50 to 60 (λf r=>∃m:ByteArray,f=.string m/\m.size<=128/\r=wr.drew)
      case first =>
       refine AN (S:=λs=>s.cell? ⟨X,11,none⟩=some (.slice (some ⟨g,j,none⟩) D.ops.length A)/\s.cell? ⟨g,j+2,none⟩=some (.string d)) κ (H.l) (λf=>?_);refine V 0 (.pointer (some ⟨X,11,none⟩)) rfl f (V 1 (.slice (some ⟨g,j,none⟩) D.ops.length A) rfl f (V 2 (.pointer (some ⟨g,j,none⟩)) rfl f (V 3 (.pointer (some ⟨g,j+2,none⟩)) rfl f (V 4 (.string d) rfl f (V 5 (.int .i64 (k:Int)) rfl f (V 6 (.string (d.extract 0 k)) rfl f (V 7 (.string o) rfl f (V 8 (.int .i64 (k:Int)) rfl f (V 9 (.string (o.extract k 64)) rfl f (V 10 (.string (d.extract 0 k++o.extract k 64)) rfl f ?_))))))))));simp only[J];refine RD 11 rfl (λr m=>?_);go_simp;refine m.l _ _ f (λ_=>?_)
       try simp only[J]
       refine DN ?_;go_wp2_with fail;go_meet;exact⟨_,rfl,by rw[BK,AK,AK];omega,rfl⟩
      case rest =>
      obtain⟨bE,rfl,cY,f⟩:=hcut;have m:=E.z (AC _ _).drew;clear E H;rw[<-f]at m;clear f
      rename World=>wd
      replace cY:bE.size<=1048576:=ω
      obtain⟨pk,pl,pm,pp,ok,r⟩:=Cw (MI bE 1);have f:=Z (uh bE 1 wd cY);rw[r]at f;clear r;unfold NK at f;go_wp2_with fail;refine f.l.A ?_;rintro e w5 ⟨rfl,s⟩;have r:=m.z s;clear m s f;go_upto_region 15 with fail;generalize m:w5.alloc _=w6;obtain⟨f,H,s⟩:=LF m;clear m;have m:=r.z f;clear f s H r;generalize Value.tuple _=A6;generalize Value.agg _=A7
      cases ok with
      | false =>
       go_wp2_with fail;go_roundw
       case rel=>exact⟨k+1,ω,ω,ν,m⟩
       case measure=>simp[intOf];omega
      | true =>
       have f:=m.r.y 11;have r:=(bH.l _ m.o).2;have eN:=m.r.lt
       by_cases cW:bE=d
       ·subst cW
        go_wp2_with fail;go_roundw
        case rel=>exact⟨k+1,ω,ω,ν,m⟩
        case measure=>simp[intOf];omega
       have eU:=yB cW
       go_upto_region 16 with fail;clear f r;refine BG ?_;refine AS rfl 36 _ rfl (B) 0 rfl (wL x q) _ m.s.r3.range underlying36 rfl LX ?_;simp only[J];go_wp2_with fail;generalize r:w6.alloc _=w7;obtain⟨f,eP,s⟩:=LF r;clear r;have r:=m.z f;clear f m;obtain⟨y,HY⟩:∃y,Hid (y=x.doE ⟨2,b,1,[(k:Int)]⟩):=⟨_,Z rfl⟩;have f:=jm x q ⟨2,b,1,[(k:Int)]⟩ (some ⟨G,0,none⟩) 1 (some ⟨w6.heap.size,0,none⟩) 1 _ w7 r.s.wo u.l.ok r.b (Row.ints s.q) ⟨⟨by show b.length<=_;omega,cH.l⟩,σ⟩;rw[<-HY.l]at f;have m:NH ⟨2,b,1,[(k:Int)]⟩ (some ⟨G,0,none⟩) 1 (some ⟨w6.heap.size,0,none⟩) 1=.agg #[.int .i64 2,.slice (some ⟨G,0,none⟩) 1 1,.int .i64 1,.slice (some ⟨w6.heap.size,0,none⟩) 1 1]:=by unfold NH;simp only[cU];rfl
       rw[m]at f;clear m;unfold LO at f;have m:=Z f;clear f;refine m.l.A ?_;rintro e w8 ⟨q1,rfl,f,H⟩;have J7:=r.z H;have hJ:=r.s.lB;have eT:=r.s.r3.lt;have F2:=f.A (G:=λb=>w.heap.size+1<=b) (λb _ k=>by rcases k with k|k;exact k.1;omega);clear f H r s m;unfold LO
       try simp only[J]
       refine‹∀(a:Act) (w:World),wpList _ _ _ _ a w->_› _ _ ?_
       refine BI rfl 36 _ _ rfl (w.heap.size) 0 (wA y q1) rfl rfl (J7.s.r2.there rfl) LX κ ?_
       try simp only[J]
       obtain⟨s,r,m,f⟩:=J7.s.fin (wL y q1) rfl (F2);generalize H:w8.setCells _ _ _=y8 at s r m f⊢;clear H
       try go_wp2
       obtain⟨O,P,Q,S,T,U,W,z7,z8,z9,H,I,K,L,M,N,dR⟩:=c16 s;exact AI (v:=.agg (wA y q1)) (by simp[results,results86,go_sem,O,P,Q,S,T,U,W,z7,z8,z9,H,I,K,L,M,N]) rfl ⟨⟨y,q1,12,rfl,(by rw[HY.l];exact u.l.doE _),⟨ω,ω⟩,by rw[HY.l,ft];have:=HW.l;omega,f⟩,⟨p+i+1,ω,ω,r⟩,m⟩
     have bT:¬(k:Int)<60:=ω
     go_wp2_with fail;go_roundw
     case rel=>exact⟨i+1,ω,ν,by rw[show p+((i+1:Nat):Int)=p+i+1 by omega];exact E.s⟩
     case measure=>simp[intOf];omega
   have g:(D.C == 0)=false:=by simp[hC]
   have f:=l.r.y 0;have d:=l.r.lt;go_upto_region 8 with fail;clear f d;refine BG ?_;refine AS rfl 36 _ rfl (B) 0 rfl (wL x q) _ l.s.r3.range underlying36 rfl LX ?_;simp only[J];refine BI rfl 36 _ _ rfl (w.heap.size) 0 (wA x q) rfl rfl (l.s.r2.there rfl) LX κ ?_
   try simp only[J]
   obtain⟨s,r,m,f⟩:=l.s.fin (wL x q) rfl (l.s.wo.A (λb _ k=>k.1));generalize H:C.setCells _ _ _=y8 at s r m f⊢;clear H
   try go_wp2
   obtain⟨O,P,Q,S,T,U,W,z7,z8,z9,H,I,K,L,M,N,dR⟩:=c16 s;exact AI (v:=.agg (wA x q)) (by simp[results,results86,go_sem,O,P,Q,S,T,U,W,z7,z8,z9,H,I,K,L,M,N]) rfl ⟨⟨x,q,12,rfl,u.l,⟨ω,ω⟩,by have:=HW.l;omega,f⟩,⟨p+i+1,ω,ω,r⟩,m⟩
  have bU:¬(i:Int)<60:=ω
  go_upto_region 17 with fail;refine BG ?_;refine AS rfl 36 _ rfl (B) 0 rfl (wL x q) _ F.r3.range underlying36 rfl LX ?_;simp only[J];refine BI rfl 36 _ _ rfl (w.heap.size) 0 (wA x q) rfl rfl (F.r2.there rfl) LX κ ?_
  try simp only[J]
  obtain⟨s,r,m,f⟩:=F.fin (wL x q) rfl (F.wo.A (λb _ k=>k.1));generalize H:wr.setCells _ _ _=y8 at s r m f⊢;clear H
  try go_wp2
  obtain⟨O,P,Q,S,T,U,W,z7,z8,z9,H,I,K,L,M,N,dR⟩:=c16 s;exact AI (v:=.agg (wA x q)) (by simp[results,results86,go_sem,O,P,Q,S,T,U,W,z7,z8,z9,H,I,K,L,M,N]) rfl ⟨⟨x,q,12,rfl,u.l,⟨ω,ω⟩,by have:=HW.l;omega,f⟩,⟨p+i,ω,ω,r⟩,m⟩
