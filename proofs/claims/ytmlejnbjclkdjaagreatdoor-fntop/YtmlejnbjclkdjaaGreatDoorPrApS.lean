import Derived.Test.YtmlejnbjclkdjaaGreatDoorPrG41
set_option maxHeartbeats 16000000
namespace Go.Proofs.YtmlejnbjclkdjaaGreatDoor
open _root_.ByteArray(empty)
open Tryz
open Go.RowKit
set_option linter.all false
set_option maxRecDepth 8000
variable {v:Nc}{w w' wb wr:Nb}
theorem XM(k v:Y):∀u∈[Mz k,Mz v],u.oneCell'=true:=by
 intro u a;simp only[DY,EJ,GV]at a;rcases a with rfl|rfl<;>rfl
theorem ut(o:List Pr)(c:Pr):MC (o++[c])=MC o++[Mz c.1,Mz c.2]:=by rw[VK];rfl
theorem em{A:Array Nc}{t:TypeId}{g:Nat}(a:w.heap.size=g):Row (w.alloc (.cells A t)) g A.toList:=by subst a;exact MT w A t
theorem Cy{o:Obj}{r:Option Nat}(h:(w.drew.alloc o).grownBy w' r):(w.alloc o).grownBy w' r:=⟨h.os,h.tape,h.output,h.size,h.block⟩
theorem Io{a:Nat}{e:TypeId}{s:Nat}{n:Nat}{i:List Nc}(h:w.ownsRow a e s v n i)(k:∀b,a<=b->b<w.heap.size->w'.heap[b]?=w.heap[b]?):w'.ownsRow a e s v n i:=by
 refine⟨h.1,?_⟩;rcases h.2 with l|⟨g,b,c,rfl,f,d,j⟩
 ·exact .inl l
 exact .inr ⟨g,b,c,rfl,f,(k g f (AW.1 d).1).j d,j⟩
theorem lj{α:Type}(l:List α)(k:Nat)(d:α)(h:k<l.length):l.take (k+1)=l.take k++[l.getD k d]:=by
 rw[AY h];simp[List.getD,h]
structure OutX(w wb wr:Nb)(v:Nc)(o:List Pr):Prop where
 row:Row wr (w.heap.size+1+1+1) [v]
 own:wr.ownsRow (w.heap.size+1+1+1+1) 103 2 v o.length (MC o)
 bel:Below (w.heap.size+1+1+1) wb wr
theorem OutX.I{o:List Pr}(h:OutX w wb wr v o)(a:Below wr.heap.size wr w'):OutX w wb w' v o:=⟨h.row.I a,NC h.own a,h.bel.j (a.z (by have:=h.row.lt;omega))⟩
theorem OutX.sl{o:List Pr}(h:OutX w wb wr v o):∃a b,v=Value.slice a o.length b:=by
 rcases NU h.own with ⟨b,c⟩|⟨g,a,b,_⟩
 ·exact⟨none,0,by rw[b,c]⟩
 exact⟨_,a,b⟩
theorem OutX.push{b:Nb}{g:M6}{i g9 f:Nat}{a:List Pr}{x:Pr}{o:Obj}(h:OutX w wb wr (.slice g a.length i) a)
  (j:b.ownsRow (w.heap.size+1+1+1+1) 103 2 (.slice (Mw g9 0) (a.length+1) f) (a.length+1) (MC a++[Mz x.1,Mz x.2]))(c:(wr.alloc o).grownBy b (Value.slice g a.length i).ownBlock):Row b (w.heap.size+1+1+1) [.slice g a.length i]/\OutX w wb (b.setCell ⟨w.heap.size+1+1+1,0,none⟩ (.slice (Mw g9 0) (a.length+1) f)) (.slice (Mw g9 0) (a.length+1) f) (a++[x])/\Below (w.heap.size+1+1+1) wb b:=by
 have q:=h.row.lt;have m:Row b (w.heap.size+1+1+1) [.slice g a.length i]:=(h.row.alloc o).J c (λe=>by have:=(h.own.lt _ e.symm).1;omega);have l:Below (w.heap.size+1+1+1) wb b:=h.bel.j (YE (w:=wr) ⟨c.os,c.tape,c.output,AK σ c.size,λk d n=>(c.block k τ n).j (((AB wr.heap.size wr).alloc (AA _) o).block k d)⟩ ω (λk d=>by have:=(h.own.lt k d).1;omega));have p:=(j.lt g9 rfl).1;refine⟨m,⟨m.set 0 σ _,?_,l.setCell (p:=⟨w.heap.size+1+1+1,0,none⟩) (AA _) _⟩,l⟩;have n:b.grownBy (b.setCell ⟨w.heap.size+1+1+1,0,none⟩ (.slice (Mw g9 0) (a.length+1) f)) (some (w.heap.size+1+1+1)):=⟨rfl,rfl,rfl,by simp[World.setCell],λk _ d=>BF _ _ _ k (λe=>d (by rw[e]))⟩;have:=j.kept n (.inr (by simp[Value.ownBlock];omega));rw[AF,ut];exact this
def wM(w w':Nb)(e:Ending)(b:List Pr):Prop:=∃a c,e=M3 (MH a b.length c)/\b.length<=c/\OwnS w' a (MC b)/\(∀g,blk a b.length=some g->w.heap.size<=g)/\Below w.heap.size w w'/\w'.ownsRow w.heap.size 103 2 (.slice a b.length c) b.length (MC b)
theorem yS{B c:Nat}{e:TypeId}{k:Nat}{n:Nat}{d:List Nc}(h:w.ownsRow B e k v n d)(j:c<=B):w.ownsRow c e k v n d:=⟨h.1,h.2.imp id (λ⟨g,a,b,f,i,r⟩=>⟨g,a,b,f,AK j i,r⟩)⟩
theorem nQ{d:M6}{e:Nat}{a:List Pr}(h:OutX w wb wr (.slice d a.length e) a)(n:Below w.heap.size wr w')(o:∀k,w.heap.size+1+1+1+1<=k->w'.heap[k]?=wr.heap[k]?)(l:Below w.heap.size w wb)(p:w.heap.size+1+1+1+1<=wb.heap.size):wM w w' (M3 (MH d a.length e)) a:=by
 have k:a.length<=e:=by
  rcases h.own.2 with ⟨c,i⟩|⟨g,f,b,c,_,_,j,_⟩
  ·rw[i];omega
  cases c;exact j
 have j:=Io h.own (λb c _=>o b c);refine⟨d,e,rfl,k,?_,λg b=>?_,l.j ((h.bel.z ω).j n),yS j ω⟩
 ·rcases NU j with ⟨_,i⟩|⟨g,f,c,_,_,m⟩
  ·exact .inl (by rw[AC i];rfl)
  cases c;exact .inr ⟨g,rfl,m⟩
 unfold blk at b
 split at b
 ·cases b
 cases d with
 | none=>cases b
 | some c =>
  simp at b;subst b;have:=(h.own.lt c.block rfl).1;omega
theorem xD(a:M6)(m:List Pr)(c:Nat)(j n:Y)(s:Bool)(w:Nb)(h:Prs w a m)(hl:m.length<=100000):Calls prog 217 #[MH a m.length c,.agg #[Mz j,Mz n,M0 s]] w λe w'=>wM w w' e (PX (j,n,s) m):=by
 obtain⟨i0,b,d,f,g⟩:=WT ec;have D:=Z (AH b (AH d (AH f g)));clear b d f g;unfold MH;obtain⟨wb,b⟩:∃wb,wb=(((w.alloc (.cells #[.slice a m.length c] 31)).alloc (.cells #[Mz j,Mz n,M0 s] 171)).alloc (.cells #[.slice none 0 0] 31)).alloc (.cells #[.slice none 0 0] 31):=⟨_,rfl⟩;have eG:wb.heap.size=w.heap.size+1+1+1+1:=by rw[b];simp
 have P:Hid (Below w.heap.size w wb):=by show Below _ _ _;rw[b];exact(((LO _ _).alloc σ _).alloc ξ _).alloc ξ _
 have z:Hid (∀w',Below (w.heap.size+1+1+1) wb w'->Row w' (w.heap.size) [.slice a m.length c]/\Row w' (w.heap.size+1) [Mz j,Mz n,M0 s]/\Row w' (w.heap.size+1+1) [.slice none 0 0]):=λw' q=>by
  have l:Row wb (w.heap.size) [.slice a m.length c]:=by rw[b];exact(((MT w _ _).alloc _).alloc _).alloc _
  have p:Row wb (w.heap.size+1) [Mz j,Mz n,M0 s]:=by rw[b];exact((em (w:=w.alloc _) σ).alloc _).alloc _
  have o:Row wb (w.heap.size+1+1) [.slice none 0 0]:=by rw[b];exact(em (w:=(w.alloc _).alloc _) σ).alloc _
  have j:∀ {g:Nat} {d:List Nc},g<w.heap.size+1+1+1->Row wb g d->Row w' g d:=λf r=>⟨AD r.lt q.size,λi v hv=>(q.cell (p:=⟨_,i,none⟩) f).j (r.cell i v hv),λi k=>(q.frozen (p:=⟨_,i,none⟩) f).j (r.froz i k)⟩
  exact⟨j ω l,j ω p,j ω o⟩
 have d:Row wb (w.heap.size+1+1+1) [.slice none 0 0]:=by rw[b];exact em (w:=((w.alloc _).alloc _).alloc _) σ
 have dN:Hid (Row wb (w.heap.size+1+1+1) [.slice none 0 0]):=d;clear d;go_enter func217,ntmps217;go_wp2_with fail;rw[<-b];clear b;go_loopw [6,7] (λd i wr=>∃k:Nat,k<=m.length/\i=.int .i64 (k:Int)/\d=M0 (chW (j,n,s) (m.take k)).1/\∃y,OutX w wb wr y (chW (j,n,s) (m.take k)).2) (λ_ i _=>m.length-(intOf i).toNat)
 case atStart =>
  exact⟨0,AM _,rfl,by simp[chW],.slice none 0 0,⟨dN.l,DA _ _ _ _,AB _ _⟩⟩
 case round =>
  obtain⟨k,M,rfl,rfl,y,b⟩:=hrel;obtain⟨g,f⟩:∃g,g=(chW (j,n,s) (m.take k)).2:=⟨_,rfl⟩;obtain⟨d,i⟩:∃d,d=(chW (j,n,s) (m.take k)).1:=⟨_,rfl⟩;have C:chW (j,n,s) (m.take k)=(d,g):=by rw[i,f]
  rw[<-f]at b;rw[<-i]
  have cU:g.length<=100001:=by
   have:=(xf (j,n,s) (m.take k) _ rfl).1;rw[<-f,AP]at this
   split at this<;>omega
  clear f i;obtain⟨T,U,rfl⟩:=b.sl;obtain⟨L,B,G⟩:=z.l _ b.bel;have q0:=L.y 0;have R:=B.y 0;have S:=B.y 1;have q3:=b.row.y 0;have r3:=b.row.A 0;have l3:=b.row.lt;have cI:Below w.heap.size w wr:=P.l.j (b.bel.z ω);have p:=Z b;clear b
  by_cases cN:k<m.length
  ·obtain⟨b,o,i,r,rfl,A,F,f⟩:=(h.I cI).at cN
   have Q:b<w.heap.size:=by
    rcases h with h|⟨u,x,l,t,_⟩
    ·subst h;simp at cN
    cases l;exact t
   have dV:(k:Int)<(m.length:Int):=ω
   have eJ:(0:Int)<=(k:Int):=ω
   have l:chW (j,n,s) (m.take (k+1))=VB j n (d,g) (i,r):=by rw[lj m k (empty,empty) cN,pz,<-f.l,C]
   have J:=Z l;clear l C f L B G
   have I:Hid (∀w',Below (w.heap.size+1+1+1) wr w'->w'.cell? ⟨w.heap.size,0,none⟩=some (.slice (Mw b o) m.length c)/\w'.cell? ⟨b,o+k*2,none⟩=some (Mz i)/\w'.cell? ⟨b,o+k*2+1,none⟩=some (Mz r)/\w'.cell? ⟨w.heap.size+1,0,none⟩=some (Mz j)/\w'.cell? ⟨w.heap.size+1,1,none⟩=some (Mz n)):=λw' q=>⟨(q.cell (p:=⟨w.heap.size,0,none⟩) (by show w.heap.size<_;omega)).j q0,(q.cell (p:=⟨b,o+k*2,none⟩) (by show b<_;omega)).j A,(q.cell (p:=⟨b,o+k*2+1,none⟩) (by show b<_;omega)).j F,(q.cell (p:=⟨w.heap.size+1,0,none⟩) (by show w.heap.size+1<_;omega)).j R,(q.cell (p:=⟨w.heap.size+1,1,none⟩) (by show w.heap.size+1<_;omega)).j S⟩
   have dP:Hid (∀w',Below w.heap.size w w'->w'.cell? ⟨b,o+k*2,none⟩=some (Mz i)/\w'.cell? ⟨b,o+k*2+1,none⟩=some (Mz r)):=λw' q=>⟨(q.cell (p:=⟨b,o+k*2,none⟩) Q).j ((cI.cell (p:=⟨b,o+k*2,none⟩) Q).symm.j A),(q.cell (p:=⟨b,o+k*2+1,none⟩) Q).j ((cI.cell (p:=⟨b,o+k*2+1,none⟩) Q).symm.j F)⟩
   have E:Hid (∀w',Below (w.heap.size+1+1+1) wb w'->w'.cell? ⟨w.heap.size,0,none⟩=some (.slice (Mw b o) m.length c)/\w'.cell? ⟨b,o+k*2,none⟩=some (Mz i)/\w'.cell? ⟨b,o+k*2+1,none⟩=some (Mz r)/\w'.cell? ⟨w.heap.size+1,0,none⟩=some (Mz j)/\w'.cell? ⟨w.heap.size+1,1,none⟩=some (Mz n)):=λw' q=>by
    obtain⟨L,B,G⟩:=z.l _ q;obtain⟨f,l⟩:=dP.l w' (P.l.j (q.z ω));exact⟨L.y 0,f,l,B.y 0,B.y 1⟩
   obtain⟨N,x⟩:∃b,b=(!d && TG j i):=⟨_,rfl⟩;obtain⟨d1,H⟩:∃b,b=(d || N):=⟨_,rfl⟩;obtain⟨t,u⟩:∃l,l=(if N=true then g++[(j,n)] else g):=⟨_,rfl⟩;have eB:t.length<=100002:=by rw[u];split<;>(try rw[AF])<;>(try simp only[CY,AR])<;>omega
   have l:VB j n (d,g) (i,r)=(d1,if i=j then t else t++[(i,r)]):=by
    rw[H,u,x];unfold VB;cases d<;>cases M:TG j i<;>by_cases f:i=j<;>simp[f,M]<;>(first|done|(rw[f]at M;simp_all))
   rw[l]at J;have O:=Z x;have W:=Z H;have X:=Z u;clear x H u l;have u:Below wr.heap.size wr wr.drew:=(AB _ _).drew;go_upto_region 6 with fail;clear I A F q0 R S q3 r3 l3;go_cut [30] from 18 to 30 (λf A=>f=M0 N/\Below wr.heap.size wr A)
   case first =>
    cases d with
    | true =>
     refine AN (S:=λw'=>w'.cell? ⟨w.heap.size,0,none⟩=some (.slice (Mw b o) m.length c)/\w'.cell? ⟨b,o+k*2,none⟩=some (Mz i)/\w'.cell? ⟨b,o+k*2+1,none⟩=some (Mz r)/\w'.cell? ⟨w.heap.size+1,0,none⟩=some (Mz j)/\w'.cell? ⟨w.heap.size+1,1,none⟩=some (Mz n)) κ (E.l _ (p.l.bel.j (u.z (by have:=p.l.row.lt;omega)))) (λf=>?_);refine TY 0 (M0 true) rfl f ?_;simp only[PS];refine TY 1 (M0 false) rfl f ?_;simp only[PS];refine TY 2 (M0 false) rfl f ?_;simp only[PS];refine TK 3 (undef) rfl (GD ⟨κ,rfl⟩) f ?_;simp only[PS];refine TK 4 (undef) rfl (GD ⟨κ,rfl⟩) f ?_;simp only[PS];refine TK 5 (undef) rfl (GD ⟨κ,rfl⟩) f ?_;simp only[PS];refine TK 6 (undef) rfl (GD ⟨κ,rfl⟩) f ?_;simp only[PS];refine TK 7 (undef) rfl (GD ⟨κ,rfl⟩) f ?_;simp only[PS]
     refine TK 8 (undef) rfl (GD ⟨κ,rfl⟩) f ?_;simp only[PS];refine TK 9 (undef) rfl (GD ⟨κ,rfl⟩) f ?_;simp only[PS];refine TK 10 (undef) rfl (GD ⟨κ,rfl⟩) f ?_;simp only[PS];refine TK 11 (undef) rfl (GD ⟨κ,rfl⟩) f ?_;simp only[PS];refine TY 12 (M0 false) rfl f ?_;simp only[PS];refine DN ?_;go_wp2_with fail;go_meet;exact⟨by rw[O.l];rfl,u⟩
    | false =>
     rcases KI (NA i j) 0 with l|l|l
     focus
      have x:Hid (TG j i=false):=uV l;have F:Op.bytesLess i.toList j.toList=true:=(XT _ _).1 l
     rotate_left
     focus
      have f:=(dh _ _).1 l;have x:Hid (TG j i=false):=by show _=_;rw[f];exact rj _
      have F:i.toList=j.toList:=by rw[f]
      clear f
     rotate_left
     ·have x:Hid (TG j i=true):=jt l
      have F:¬(i.toList=j.toList):=λf=>by rw[DF,DF]at f;rw[EP (JB f),ZE]at l;omega
      have H:Op.bytesLess i.toList j.toList=false:=by cases hq:Op.bytesLess i.toList j.toList with|false=>rfl|true=>(have:=(XT _ _).2 hq;omega)
      refine AN (S:=λw'=>w'.cell? ⟨w.heap.size,0,none⟩=some (.slice (Mw b o) m.length c)/\w'.cell? ⟨b,o+k*2,none⟩=some (Mz i)/\w'.cell? ⟨b,o+k*2+1,none⟩=some (Mz r)/\w'.cell? ⟨w.heap.size+1,0,none⟩=some (Mz j)/\w'.cell? ⟨w.heap.size+1,1,none⟩=some (Mz n)) κ (E.l _ (p.l.bel.j (u.z (by have:=p.l.row.lt;omega)))) (λf=>?_);refine TY 0 (M0 false) rfl f ?_;simp only[PS];refine TY 1 (M0 true) rfl f ?_;simp only[PS];refine TY 2 (M0 true) rfl f ?_;simp only[PS];refine TY 3 (Mv w.heap.size 0) rfl f ?_;simp only[PS];refine TY 4 (.slice (Mw b o) m.length c) rfl f ?_;simp only[PS];refine TY 5 (.int .i64 (k:Int)) rfl f ?_;simp only[PS];refine TY 6 (Mv b (o+k*2)) rfl f ?_;simp only[PS];refine TY 7 (Mv b (o+k*2)) rfl f ?_;simp only[PS];refine TY 8 (Mz i) rfl f ?_
      simp only[PS];refine TY 9 (Mv (w.heap.size+1) 0) rfl f ?_;simp only[PS];refine TY 10 (Mz j) rfl f ?_;simp only[PS];refine TY 11 (M0 true) rfl f ?_;simp only[PS];refine TY 12 (M0 true) rfl f ?_;simp only[PS];refine DN ?_;go_wp2_with fail;go_meet;exact⟨by rw[O.l,x.l];rfl,u⟩
     all_goals
      refine AN (S:=λw'=>w'.cell? ⟨w.heap.size,0,none⟩=some (.slice (Mw b o) m.length c)/\w'.cell? ⟨b,o+k*2,none⟩=some (Mz i)/\w'.cell? ⟨b,o+k*2+1,none⟩=some (Mz r)/\w'.cell? ⟨w.heap.size+1,0,none⟩=some (Mz j)/\w'.cell? ⟨w.heap.size+1,1,none⟩=some (Mz n)) κ (E.l _ (p.l.bel.j (u.z (by have:=p.l.row.lt;omega)))) (λf=>?_);refine TY 0 (M0 false) rfl f ?_;simp only[PS];refine TY 1 (M0 true) rfl f ?_;simp only[PS];refine TY 2 (M0 true) rfl f ?_;simp only[PS];refine TY 3 (Mv w.heap.size 0) rfl f ?_;simp only[PS];refine TY 4 (.slice (Mw b o) m.length c) rfl f ?_;simp only[PS];refine TY 5 (.int .i64 (k:Int)) rfl f ?_;simp only[PS];refine TY 6 (Mv b (o+k*2)) rfl f ?_;simp only[PS];refine TY 7 (Mv b (o+k*2)) rfl f ?_;simp only[PS];refine TY 8 (Mz i) rfl f ?_
      simp only[PS];refine TY 9 (Mv (w.heap.size+1) 0) rfl f ?_;simp only[PS];refine TY 10 (Mz j) rfl f ?_;simp only[PS];refine TY 11 (M0 false) rfl f ?_;simp only[PS];refine TY 12 (M0 false) rfl f ?_;simp only[PS];refine DN ?_;go_wp2_with fail;go_meet;exact⟨by rw[O.l,x.l];rfl,u⟩
   case rest =>
    obtain⟨rfl,q⟩:=hcut
    rename World=>wa
    have F:=Z (p.l.I q);clear p q u;have p:=F;clear F;obtain⟨-,-,-,R,S⟩:=E.l _ p.l.bel;have q3:=p.l.row.y 0;have r3:=p.l.row.A 0;have l3:=p.l.row.lt;go_upto_if 30 with fail;go_cut [6] from 31 to 40 (λf A=>f=M0 d1/\∃T U,OutX w wb A (.slice T t.length U) t)
    case first =>
     cases N with
     | true =>
      have H:=X.l;rw[AE rfl]at H;subst H;have I:=W.l;rw[Bool.or_true]at I;subst I;go_wp2_with (at_builtin;refine QY _ rfl _ _ 29 rfl (w.heap.size+1+1+1+1) underlying29 D.l rfl ω _ g.length _ rfl (p.l.own.alloc _) ⟨wa.heap.size,0,none⟩ 1 1 [Mz j,Mz n] rfl rfl (World.news_of_block (AU wa _)) (XM _ _) τ (wa.heap.size+1) σ ?_;intro x f w7 F A V cO;have l:=OutX.push (x:=(j,n)) p.l F A;have q7:=l.1.y 0;have r7:=l.1.A 0;have l7:=l.1.lt;have cP:=(z.l _ l.2.2).2.2.y 0;have eH:=(z.l _ l.2.2).2.2.A 0;have K:=Z l;clear F A V l);have l:=K.l.2.1;have A:Value.slice (Mw x 0) (g.length+1) f=.slice (Mw x 0) (g++[(j,n)]).length f:=by rw[AF];rfl
      go_meet;refine⟨rfl,Mw x 0,f,?_⟩;rw[<-A];exact l
     | false =>
      have H:=X.l;rw[AG σ]at H;subst H;have I:=W.l;rw[Bool.or_false]at I;subst I;go_wp2_with fail;go_meet;exact⟨rfl,T,U,p.l⟩
    case rest =>
     obtain⟨rfl,H,I,l⟩:=hcut
     rename World=>K
     clear q3 r3 l3 R S p X W O;have p:=Z l;clear l;obtain⟨F,l⟩:∃F,(i.toList == j.toList)=F:=⟨_,rfl⟩;have u:Below K.heap.size K K.drew:=(AB _ _).drew;go_upto_region 9 with fail;refine AN (S:=λw'=>w'.cell? ⟨w.heap.size,0,none⟩=some (.slice (Mw b o) m.length c)/\w'.cell? ⟨b,o+k*2,none⟩=some (Mz i)/\w'.cell? ⟨b,o+k*2+1,none⟩=some (Mz r)/\w'.cell? ⟨w.heap.size+1,0,none⟩=some (Mz j)/\w'.cell? ⟨w.heap.size+1,1,none⟩=some (Mz n)) κ (E.l _ (p.l.bel.j (u.z (by have:=p.l.row.lt;omega)))) (λf=>?_);refine TY 0 (Mv w.heap.size 0) rfl f ?_;simp only[PS];refine TY 1 (.slice (Mw b o) m.length c) rfl f ?_;simp only[PS];refine TY 2 (.int .i64 (k:Int)) rfl f ?_;simp only[PS];refine TY 3 (Mv b (o+k*2)) rfl f ?_;simp only[PS];refine TY 4 (Mv b (o+k*2)) rfl f ?_
     simp only[PS];refine TY 5 (Mz i) rfl f ?_;simp only[PS];refine TY 6 (Mv (w.heap.size+1) 0) rfl f ?_;simp only[PS];refine TY 7 (Mz j) rfl f ?_;simp only[PS];refine TY 8 (M0 (!F)) rfl f ?_;simp only[PS];refine DN ?_;obtain⟨x,V⟩:∃x,x=K.drew:=⟨_,rfl⟩;rw[<-V]at u⊢;have A:=Z (p.l.I u);clear V p u f;have f:=A.l.row.lt;have V:=A.l.row.y 0;have rd:=A.l.row.A 0
     cases F with
   | true =>
    have V:Hid (i=j):=by have:=eq_of_beq l;rw[DF,DF]at this;exact EP (JB this)
    clear l;go_wp2;refine⟨⟨k+1,ω,ν,by rw[J.l],.slice H t.length I,?_⟩,by simp[intOf];omega⟩;rw[J.l,AE V.l];exact A.l
   | false =>
    have V:Hid (¬i=j):=λe=>by rw[e]at l;simp at l
    clear l;go_upto_region 10 with fail
    have cB:Hid (∀w',Below (w.heap.size+1+1+1) wb w'->Row w' (w.heap.size+1+1+1) [.slice H t.length I]->w'.cell? ⟨w.heap.size,0,none⟩=some (.slice (Mw b o) m.length c)/\w'.cell? ⟨b,o+k*2,none⟩=some (Mz i)/\w'.cell? ⟨b,o+k*2+1,none⟩=some (Mz r)/\w'.cell? ⟨w.heap.size+1,0,none⟩=some (Mz j)/\w'.cell? ⟨w.heap.size+1,1,none⟩=some (Mz n)/\w'.cell? ⟨w.heap.size+1+1+1,0,none⟩=some (.slice H t.length I)):=λw' q e=>by obtain⟨a1,a2,a3,a4,a5⟩:=E.l _ q;exact⟨a1,a2,a3,a4,a5,e.y 0⟩
    have dR:Below x.heap.size x (x.drew.alloc (.cells #[Mz i,Mz r] 103)):=(AB _ _).drew.alloc (AA _) _;have F:=Z (A.l.I dR);have cS:=A.l.I (AB x.heap.size x).drew;refine VS (10) (S:=λw'=>w'.cell? ⟨w.heap.size,0,none⟩=some (.slice (Mw b o) m.length c)/\w'.cell? ⟨b,o+k*2,none⟩=some (Mz i)/\w'.cell? ⟨b,o+k*2+1,none⟩=some (Mz r)/\w'.cell? ⟨w.heap.size+1,0,none⟩=some (Mz j)/\w'.cell? ⟨w.heap.size+1,1,none⟩=some (Mz n)/\w'.cell? ⟨w.heap.size+1+1+1,0,none⟩=some (.slice H t.length I)) κ (cB.l _ cS.bel cS.row) (λf=>?_);refine NN 0 (Mv (w.heap.size+1+1+1) 0) rfl f ?_;simp only[PS];refine NN 1 (.slice H t.length I) rfl f ?_;simp only[PS];refine NN 2 (Mv w.heap.size 0) rfl f ?_;simp only[PS];refine NN 3 (.slice (Mw b o) m.length c) rfl f ?_
    simp only[PS];refine NN 4 (.int .i64 (k:Int)) rfl f ?_;simp only[PS];refine NN 5 (Mv b (o+k*2)) rfl f ?_;simp only[PS];refine NN 6 (.agg #[Mz i,Mz r]) rfl f ?_;simp only[PS];refine PH 7 rfl (λKq K=>?_);go_simp;refine K.l _ _ (cB.l _ F.l.bel F.l.row) (λdQ=>?_)
    try simp only[PS]
    refine PH 8 rfl (λKq K=>?_);refine step_append_lies _ ρ _ _ _ ρ (w.heap.size+1+1+1+1) 103 i0 (.agg #[Mz empty,Mz empty]) 2 32 underlying29 D.l.1 D.l.2.1 D.l.2.2.1 D.l.2.2.2 rfl ω (.slice H t.length I) t.length _ ρ F.l.own ⟨x.heap.size,0,none⟩ 1 1 [Mz i,Mz r] ρ rfl (World.news_of_block (AU x.drew _)) (XM _ _) ω (by unfold maxLen;(try simp)<;>omega) (by(try simp)<;>omega) (by(try simp)<;>omega) (x.heap.size+1) σ ?_;intro g9 cC w9 aO aL cF dZ;have l:=OutX.push (x:=(i,r)) A.l aO (Cy aL);have e:=Z l;clear aO aL cF l;refine K.l _ _ (cB.l _ e.l.2.2 e.l.1) (λl=>?_)
    try simp only[PS]
    refine NN 9 (Mv (w.heap.size+1+1+1) 0) rfl l ?_;simp only[PS];refine RT (rs:=[10]) κ σ ?_;refine AllReadyT.last rfl (λKq K=>?_);have q9:=e.l.1.y 0;have r9:=e.l.1.A 0;have l9:=e.l.1.lt;go_simp;clear q9 r9 l9;refine K.l _ _ trivial (λ_=>?_)
    try simp only[PS]
    refine UY κ ?_ _;go_wp2;refine⟨⟨k+1,ω,ν,by rw[J.l],.slice (Mw g9 0) (t.length+1) cC,?_⟩,by simp[intOf];omega⟩;rw[J.l,AG V.l];simpa only[AF,EU] using e.l.2.1
  have e:k=m.length:=ω
  subst e;rw[CW]at C;have i:=G.y 0;have o:=G.A 0;have r:=G.lt;clear L B G
  cases d with
  | true =>
   have hF:PX (j,n,s) m=g:=by unfold PX;rw[C];rfl
   have b:=Z hF;clear C hF;go_wp2_with fail;rw[b.l];refine AJ (v:=MH T g.length U) (by simp[results,results217,go_sem,MH,i]) rfl (nQ p.l ?_ ?_ P.l ω)
   ·exact((AB _ _).setCell (p:=⟨w.heap.size+1+1,0,none⟩) (by show w.heap.size<=w.heap.size+1+1;omega) _)
   exactλk M=>BF _ _ _ k (by show _≠w.heap.size+1+1;omega)
  | false =>
   have hF:PX (j,n,s) m=g++[(j,n)]:=by unfold PX;rw[C];rfl
   have b:=Z hF;clear C hF;go_wp2_with (at_builtin;refine QY _ rfl _ _ 29 rfl (w.heap.size+1+1+1+1) underlying29 D.l rfl ω _ g.length _ rfl (p.l.own.alloc _) ⟨wr.heap.size,0,none⟩ 1 1 [Mz j,Mz n] rfl rfl (World.news_of_block (AU wr _)) (XM _ _) τ (wr.heap.size+1) σ ?_;intro x f w7 F A V cO;have l:=OutX.push (x:=(j,n)) p.l F A;have q7:=l.1.y 0;have r7:=l.1.A 0;have l7:=l.1.lt;have cP:=(z.l _ l.2.2).2.2.y 0;have eH:=(z.l _ l.2.2).2.2.A 0;have K:=Z l;clear F A V l);have cP:w7.cell? ⟨w.heap.size+1+1,0,none⟩=some (.slice none 0 0):=(z.l _ K.l.2.2).2.2.y 0;rw[b.l];have A:Value.slice (Mw x 0) (g.length+1) f=.slice (Mw x 0) (g++[(j,n)]).length f:=by rw[AF];rfl
   have l:=K.l.2.1;rw[A]at l;refine AJ (v:=MH (Mw x 0) (g++[(j,n)]).length f) (by simp[results,results217,go_sem,MH,cP]) rfl (nQ l ?_ ?_ P.l ω)
   ·rw[<-A];exact((AB _ _).setCell (p:=⟨w.heap.size+1+1,0,none⟩) (by show w.heap.size<=w.heap.size+1+1;omega) _)
   rw[<-A];exactλk M=>BF _ _ _ k (by show _≠w.heap.size+1+1;omega)
theorem Gm(a:M6)(b:List Pr)(c:Nat)(f g:Y)(d:Bool)(w:Nb)(h:Prs w a b)(p:b.length<=100000):Calls prog 217 #[MH a b.length c,.agg #[Mz f,Mz g,M0 d]] w λe w'=>fx w w' e (PX (f,g,d) b):=by
 refine(xD a b c f g d w h p).z ?_;rintro e w' ⟨i,j,k,l,m,n,o,-⟩;exact⟨i,j,k,l,m,n,o⟩
