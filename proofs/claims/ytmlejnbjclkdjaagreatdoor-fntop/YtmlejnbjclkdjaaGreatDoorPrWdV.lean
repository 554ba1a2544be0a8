import Derived.Test.YtmlejnbjclkdjaaGreatDoorPrG32
set_option maxHeartbeats 32000000
namespace Go.Proofs.YtmlejnbjclkdjaaGreatDoor
open Tryz
open Go.RowKit nw
set_option maxRecDepth 8000
set_option linter.all false
theorem Bl(R:Nat)(a:M6)(n c:Nat)(p:Int)(w:Nb)(h:Rdr w R a n c p)(hp:p<99980000):Calls prog 106 #[Mv R 0] w λr s=>Da w s r/\dr w R a n c p 60 s:=by
 have p0:=h.p0;obtain⟨x,HX⟩:∃x,Hid (x=(LN 12 1).doE YU):=⟨_,Z rfl⟩;have u:Hid (x.good 12):=by show Wo.good _ _;rw[HX.l];exact(wn (n:=12) (wd:=1) ω).doE YU
 have HU:Hid (x.up=true\/x.S<=0):=by show _\/_;rw[HX.l];exact Jk (.inr (Int.le_refl 0)) _
 have HW:Hid (x.w=1):=by show _=_;rw[HX.l,cd];rfl
 have HM:=Z u.l.ok.le;go_enter func106,ntmps106;go_wp2_with fail;generalize b:w.alloc _=v1;obtain⟨f,o,g⟩:=LY b;clear b;have d:Below w.heap.size w v1:=f;clear f;refine(dq 12 1 _ ω ω).z ?_;rintro e v2 ⟨q0,rfl,l,i⟩;have t:=i.size;replace g:=g.I i;replace d:=d.j (i.z d.size);have f:=l.z (G:=λb=>w.heap.size+1<=b) (λb _ k=>by rcases k with k|k;exact k.elim;omega);have j:=Z (sF (LN 12 1) q0 _ v2 f (pY ω));rw[<-HX.l]at j;clear l f i;unfold MB at j⊢;go_wp2_with fail;refine j.l.z ?_;rintro e v3 ⟨q,rfl,i,f⟩;have v:=f.size;replace g:=g.I f;replace d:=d.j (f.z d.size);clear f j;unfold MB;go_upto_region 2 with fail;generalize l:v3.alloc _=v4;obtain⟨f,r,j⟩:=LY l;clear l;replace g:=g.I f;replace i:=(i.z (G:=λb=>w.heap.size+1<=b/\b≠v3.heap.size) (λb l k=>by rcases k with k|k<;>omega)).I f
 replace d:=d.j (f.z d.size);obtain⟨B,m⟩:∃B,B=v3.heap.size:=⟨_,rfl⟩;rw[<-m]at j i⊢;have l:FgS w v4 R a n c p B x q:=⟨h.keep (N:=w.heap.size) h.lts.1 h.lts.2 d,UA _ d,h.lts.1,h.lts.2,g.q,j.q,ω,i⟩;clear f g j i d m r v t o h;generalize Value.agg _=A0;generalize Value.agg _=A1;generalize Value.agg _=A2;go_wp2_with fail;go_loopw [4] (λd wr=>xA w R a n c p B x q d wr) (λd _=>60-(intOf d).toNat)
 case atStart=>exact⟨0,ω,rfl,by rw[show p+((0:Nat):Int)=p by omega];exact l⟩
 case round =>
  obtain⟨i,hi,rfl,F⟩:=hrel;clear l
  by_cases eY:i<60
  ·have bR:(i:Int)<60:=ω
   go_wp2_with fail;refine(sU _ 20 _ δ ω).z ?_;rintro e w1 ⟨⟨t,rfl,ht⟩,f⟩;have d:=F.I f;clear f F;go_wp2_with fail;refine(PZ R a n c (p+i) 900 _ d.rd ω).z ?_;rintro e w2 ⟨⟨v',rfl,v0,v1⟩,j,f⟩;have g:=d.pick j f;clear j f d;obtain⟨v,rfl⟩:∃k:Nat,v'=(k:Int):=⟨v'.toNat,ω⟩;have vl:i+v<1000:=ω
   have d:=Az 3 (i+v) w2 (by simpa using vl) ω;rw[Int.natCast_add]at d;go_wp2_with fail;refine d.z ?_;rintro e w3 ⟨rfl,f⟩;have j:=g.I f;clear f g d;have r:(UI (i+v)).size<=64000:=by have:=oC 2 (i+v) (by simpa using vl);omega
   go_upto_region 6 with fail;generalize g:w3.alloc _=v5;obtain⟨f,m,d⟩:=LY g;clear g;have g:=j.I f;clear f j;obtain⟨TX,j⟩:∃T,T=t++UI (i+v):=⟨_,rfl⟩;have o:TX.size<=128000:=by rw[j,BN];omega
   rw[<-j]at d⊢;obtain⟨b,HB⟩:∃b:List Ch,Hid (b=[(⟨#[107]⟩,TX,false)]):=⟨_,Z rfl⟩;have cN:b.length=1:=by rw[HB.l];rfl
   have l:∀y∈b,y.1.size<=1048576/\y.2.1.size<=1048576:=by
    rw[HB.l];intro y f;rw[BL.1 f];exact⟨by show(1:Nat)<=_;omega,by show TX.size<=_;omega⟩
   have f:Chs v5 (Mw w3.heap.size 0) b:=by
    rw[HB.l];exact Row.chs d.q
   have cB:=Z l;clear l;obtain⟨G,l⟩:∃k,k=w3.heap.size:=⟨_,rfl⟩;rw[<-l]at f⊢;clear j d m l o r;generalize Value.agg _=A3;have d:=sN x.W x.S x.L x.T x.H x.F x.R x.U x.O q.s x.rs q.cs (Mw G 0) b 1 v5 g.wo.at.h3 HM.l.l3 HM.l.s3 f ω cB.l;rw[cN]at d;obtain⟨D,j⟩:∃D,D=QE x.W x.S x.L x.T x.H x.F x.R x.U x.O x.rs b:=⟨_,rfl⟩;rw[<-j]at d;have HD:=Z j;clear j;have l:=Z d;clear d;refine BE ?_;refine MS rfl _ _ _ rfl (Mv B 4) γ ?_;simp only[PS];refine AS rfl 33 _ rfl (B) 4 rfl (sJ x.W x.S x.L x.T x.H x.F x.R x.U x.O (.slice q.s x.rs.length q.cs)) _ (Row.rangeMid (pre:=[.int .i64 x.w,.slice q.a x.ss.length q.c,.slice q.a' x.ws.length q.c',M0 x.up]) (cs:=(sJ x.W x.S x.L x.T x.H x.F x.R x.U x.O (.slice q.s x.rs.length q.cs))) (post:=[.slice q.p x.P.length q.cp,.slice q.t x.ts.length q.ct]) g.r3) underlying33 rfl aw ?_
   simp only[PS];go_wp2_with fail;refine l.l.z ?_;rintro e v6 ⟨oa,oc,ob,A,rfl,o,own,r,L,d⟩;have j:=g.I d;have m:=f.I d;clear g f d l r L o;unfold NZ;go_upto_region 7 with fail;generalize g:v6.alloc _=C;obtain⟨f,o,d⟩:=LY g;clear g;obtain⟨X,g⟩:∃k,k=v6.heap.size:=⟨_,rfl⟩;rw[<-g]at d⊢;have l:FgJ w C R a n c (p+i+1) B x q X D oa oc ob A G b:=⟨j.I f,d.q,(own.I f).p.ops,m.I f⟩;clear j own m f d o g;generalize Value.agg _=A4;generalize Value.agg _=A5
   by_cases hC:D.C=0
   ·obtain⟨cC,d,rest,f,h0,h1,hd⟩:=Al (W:=x.W) (S:=x.S) (L:=x.L) (T:=x.T) (H:=x.H) (F:=x.F) (R:=x.R) (U:=x.U) (O:=x.O) (rs:=x.rs) (b:=b) (by rw[<-HD.l];exact hC)
    rw[<-HD.l]at f
    have hS:x.S<=(x.ss.length:Int):=by
     rcases HU.l with k|k
     ·rw[u.l.u k];omega
     omega
    obtain⟨z,rfl⟩:∃k:Nat,cC=(k:Int):=⟨cC.toNat,ω⟩;have cI:z<x.ss.length:=ω
    have cU:0<D.ops.length:=by rw[f];simp
    have HO:=Z f;have HC:=Z hC;clear f hC;obtain⟨gs,os,o,f,I,bE⟩:=l.s.wo.at.h1.at cI;have dL:=Z f;clear f
    have eZ:o.size=64:=by
     have:=(LK u.l.d).2.1 o (by rw[bE.l];simp[List.getD,cI]);omega
    obtain⟨g,j,eC,m⟩:∃g j,ob=Mw g j/\∀r:Nb,Ops r ob D.ops->r.cell? ⟨g,j+1,none⟩=some (.int .i64 (z:Int))/\r.cell? ⟨g,j+2,none⟩=some (Mz d):=by
     obtain⟨g,j,_,_,_,E,_⟩:=l.o.at cU;refine⟨g,j,E,λr M=>?_⟩;obtain⟨L,O,P,Q,S,H,N,J,K,f⟩:=M.at cU;rw[E]at H
     cases H
     have f:=f.l;rw[HO.l]at f;simp only[List.getD_cons_zero,BV]at f;simp only[Nat.zero_mul,FX]at J K;exact⟨J.j (by rw[f.2.1]),K.j (by rw[f.2.2])⟩
    have bG:=Z m;clear m;subst eC;obtain⟨oN,dM⟩:∃k,k=D.ops.length:=⟨_,rfl⟩;have J:=l.r.y 0;have f:=l.r.y 11;have m:=l.s.r3.y 1;have E:=(bG.l _ l.o).1;rw[HC.l]at J;rw[dL.l]at m;have fB:=l.r.lt;have fA:=l.s.r3.lt;have dQ:(z:Int)<(x.ss.length:Int):=ω
    have eF:(0:Int)<(D.ops.length:Int):=ω
    go_upto_region 9 with fail;have H:Hid (C.cell? ⟨B,1,none⟩=some (.slice (Mw gs os) x.ss.length q.c)/\C.cell? ⟨X,11,none⟩=some (.slice (Mw g j) D.ops.length A)/\C.cell? ⟨g,j+1,none⟩=some (.int .i64 (z:Int))/\C.cell? ⟨gs,os+z,none⟩=some (Mz o)):=⟨m,f,E,I⟩;clear J f m E I
    go_region_held3 (λs=>s.cell? ⟨B,1,none⟩=some (.slice (Mw gs os) x.ss.length q.c)/\s.cell? ⟨X,11,none⟩=some (.slice (Mw g j) D.ops.length A)/\s.cell? ⟨g,j+1,none⟩=some (.int .i64 (z:Int))/\s.cell? ⟨gs,os+z,none⟩=some (Mz o))
     (first|assumption|exact H.l)
     (fail)
    have f:=l.I (AB _ _).drew;clear l H;go_wp2_with fail;obtain⟨wo,m⟩:∃wo:Nb,wo=C.drew:=⟨_,rfl⟩;rw[<-m]at f⊢;clear m;go_loopw [8] (λm wr=>wZ w R a n c (p+i+1) B x q X D oa oc (Mw g j) A G b m wr) (λm _=>60-(intOf m).toNat)
    case atStart=>exact⟨10,ω,ω,rfl,f⟩
    case round =>
     obtain⟨k,eU,eV,rfl,E⟩:=hrel;clear f
     by_cases eX:k<60
     ·have bQ:(k:Int)<60:=ω
      have H:Hid (wr.cell? ⟨X,11,none⟩=some (.slice (Mw g j) D.ops.length A)/\wr.cell? ⟨g,j+2,none⟩=some (Mz d)):=⟨E.r.y 11,(bG.l _ E.o).2⟩;have dU:(0:Int)<=(k:Int):=ω
      have dV:¬(64:Int)<(k:Int):=ω
      have dZ:min k 64+(64-k)<=9223372036854775807:=ω
      have eN:(k:Int)<=(d.size:Int):=ω
      have eO:(k:Int)<=(o.size:Int):=ω
      have eP:¬(9223372036854775807<(d.extract 0 k).size+(o.extract k o.size).size):=by rw[AO,AO];omega
      have eQ:¬(9223372036854775807<min k d.size+(o.size-k)):=ω
      have eT:¬(9223372036854775807<k+(o.size-k)):=ω
      have eG:=E.r.lt;go_upto_region 13 with fail;go_cut [9] from 50 to 60 (λf r=>∃m:Y,f=Mz m/\m.size<=128/\r=wr.drew)
      case first =>
       refine AN (S:=λs=>s.cell? ⟨X,11,none⟩=some (.slice (Mw g j) D.ops.length A)/\s.cell? ⟨g,j+2,none⟩=some (Mz d)) κ (H.l) (λf=>?_);refine TY 0 (Mv X 11) rfl f (TY 1 (.slice (Mw g j) D.ops.length A) rfl f (TY 2 (Mv g j) rfl f (TY 3 (Mv g (j+2)) rfl f (TY 4 (Mz d) rfl f (TY 5 (.int .i64 (k:Int)) rfl f (TY 6 (Mz (d.extract 0 k)) rfl f (TY 7 (Mz o) rfl f (TY 8 (.int .i64 (k:Int)) rfl f (TY 9 (Mz (o.extract k 64)) rfl f (TY 10 (Mz (d.extract 0 k++o.extract k 64)) rfl f ?_))))))))));simp only[PS];refine RD 11 rfl (λr m=>?_);go_simp;refine m.l _ _ f (λ_=>?_)
       try simp only[PS]
       refine DN ?_;go_wp2_with fail;go_meet;exact⟨_,rfl,by rw[BN,AO,AO];omega,rfl⟩
      case rest =>
      obtain⟨bC,rfl,cQ,f⟩:=hcut;have m:=E.I (AB _ _).drew;clear E H;rw[<-f]at m;clear f
      rename World=>wd
      replace cQ:bC.size<=1048576:=ω
      obtain⟨pk,pl,pm,pp,ok,r⟩:=En (MA bC 1);have f:=Z (ma bC 1 wd cQ);rw[r]at f;clear r;unfold OE at f;go_wp2_with fail;refine f.l.z ?_;rintro e w5 ⟨rfl,s⟩;have r:=m.I s;clear m s f;go_upto_region 15 with fail;generalize m:w5.alloc _=w6;obtain⟨f,H,s⟩:=LY m;clear m;have m:=r.I f;clear f s H r;generalize Value.tuple _=A6;generalize Value.agg _=A7
      cases ok with
      | false =>
       go_wp2_with fail;go_roundw
       case rel=>exact⟨k+1,ω,ω,ν,m⟩
       case measure=>simp[intOf];omega
      | true =>
       have f:=m.r.y 11;have r:=(bG.l _ m.o).2;have eH:=m.r.lt
       by_cases cP:bC=d
       ·subst cP
        go_wp2_with fail;go_roundw
        case rel=>exact⟨k+1,ω,ω,ν,m⟩
        case measure=>simp[intOf];omega
       have eM:=cu cP
       go_upto_region 16 with fail;clear f r;refine BE ?_;refine AS rfl 36 _ rfl (B) 0 rfl (wL x q) _ m.s.r3.range underlying36 rfl MO ?_;simp only[PS];go_wp2_with fail;generalize r:w6.alloc _=w7;obtain⟨f,eJ,s⟩:=LY r;clear r;have r:=m.I f;clear f m;obtain⟨y,HY⟩:∃y,Hid (y=x.doE ⟨2,b,1,[(k:Int)]⟩):=⟨_,Z rfl⟩;have f:=ew x q ⟨2,b,1,[(k:Int)]⟩ (Mw G 0) 1 (Mw w6.heap.size 0) 1 _ w7 r.s.wo u.l.ok r.b (Row.ints s.q) ⟨⟨by show b.length<=_;omega,cB.l⟩,σ⟩;rw[<-HY.l]at f;have m:OD ⟨2,b,1,[(k:Int)]⟩ (Mw G 0) 1 (Mw w6.heap.size 0) 1=.agg #[.int .i64 2,.slice (Mw G 0) 1 1,.int .i64 1,.slice (Mw w6.heap.size 0) 1 1]:=by unfold OD;simp only[cN];rfl
       rw[m]at f;clear m;unfold MB at f;have m:=Z f;clear f;refine m.l.z ?_;rintro e w8 ⟨q1,rfl,f,H⟩;have J7:=r.I H;have hJ:=r.s.lB;have eL:=r.s.r3.lt;have F2:=f.z (G:=λb=>w.heap.size+1<=b) (λb _ k=>by rcases k with k|k;exact k.1;omega);clear f H r s m;unfold MB
       try simp only[PS]
       refine‹∀(a:Act) (w:Nb),wpList _ _ _ _ a w->_› _ _ ?_
       refine BI rfl 36 _ _ rfl (w.heap.size) 0 (wA y q1) rfl rfl (J7.s.r2.there rfl) MO κ ?_
       try simp only[PS]
       obtain⟨s,r,m,f⟩:=J7.s.fin (wL y q1) rfl (F2);generalize H:w8.setCells _ _ _=y8 at s r m f⊢;clear H
       try go_wp2
       obtain⟨N,O,P,Q,S,T,U,V,W,z9,H,I,J,K,L,M,dH⟩:=c16 s;exact AJ (v:=.agg (wA y q1)) (by simp[results,results106,go_sem,N,O,P,Q,S,T,U,V,W,z9,H,I,J,K,L,M]) rfl ⟨⟨y,q1,12,rfl,(by rw[HY.l];exact u.l.doE _),⟨ω,ω⟩,by rw[HY.l,cd];have:=HW.l;omega,f⟩,⟨p+i+1,ω,ω,r⟩,m⟩
     have bQ:¬(k:Int)<60:=ω
     go_wp2_with fail;go_roundw
     case rel=>exact⟨i+1,ω,ν,by rw[show p+((i+1:Nat):Int)=p+i+1 by omega];exact E.s⟩
     case measure=>simp[intOf];omega
   have g:(D.C == 0)=false:=by simp[hC]
   have f:=l.r.y 0;have d:=l.r.lt;go_upto_region 8 with fail;clear f d;refine BE ?_;refine AS rfl 36 _ rfl (B) 0 rfl (wL x q) _ l.s.r3.range underlying36 rfl MO ?_;simp only[PS];refine BI rfl 36 _ _ rfl (w.heap.size) 0 (wA x q) rfl rfl (l.s.r2.there rfl) MO κ ?_
   try simp only[PS]
   obtain⟨s,r,m,f⟩:=l.s.fin (wL x q) rfl (l.s.wo.z (λb _ k=>k.1));generalize H:C.setCells _ _ _=y8 at s r m f⊢;clear H
   try go_wp2
   obtain⟨N,O,P,Q,S,T,U,V,W,z9,H,I,J,K,L,M,dH⟩:=c16 s;exact AJ (v:=.agg (wA x q)) (by simp[results,results106,go_sem,N,O,P,Q,S,T,U,V,W,z9,H,I,J,K,L,M]) rfl ⟨⟨x,q,12,rfl,u.l,⟨ω,ω⟩,by have:=HW.l;omega,f⟩,⟨p+i+1,ω,ω,r⟩,m⟩
  have bR:¬(i:Int)<60:=ω
  go_upto_region 17 with fail;refine BE ?_;refine AS rfl 36 _ rfl (B) 0 rfl (wL x q) _ F.r3.range underlying36 rfl MO ?_;simp only[PS];refine BI rfl 36 _ _ rfl (w.heap.size) 0 (wA x q) rfl rfl (F.r2.there rfl) MO κ ?_
  try simp only[PS]
  obtain⟨s,r,m,f⟩:=F.fin (wL x q) rfl (F.wo.z (λb _ k=>k.1));generalize H:wr.setCells _ _ _=y8 at s r m f⊢;clear H
  try go_wp2
  obtain⟨N,O,P,Q,S,T,U,V,W,z9,H,I,J,K,L,M,dH⟩:=c16 s;exact AJ (v:=.agg (wA x q)) (by simp[results,results106,go_sem,N,O,P,Q,S,T,U,V,W,z9,H,I,J,K,L,M]) rfl ⟨⟨x,q,12,rfl,u.l,⟨ω,ω⟩,by have:=HW.l;omega,f⟩,⟨p+i,ω,ω,r⟩,m⟩
