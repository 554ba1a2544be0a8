import Derived.Test.YtkdedmclofhndaaGreatDoorPrG32
set_option maxHeartbeats 16000000
namespace Go.Proofs.YtkdedmclofhndaaGreatDoor
open _root_.ByteArray(empty)
open Tryz
open Go.RowKit
set_option linter.all false
set_option maxRecDepth 8000
variable {v:qD}{w w' wb wr:xV}
theorem XJ(k v:yZ):∀u∈[yQ k,yQ v],u.oneCell'=true:=by
 intro u a;simp only[DX,EW,IX]at a;rcases a with rfl|rfl<;>rfl
theorem vu(o:List Pr)(c:Pr):LN (o++[c])=LN o++[yQ c.1,yQ c.2]:=by rw[UV];rfl
theorem ey{A:Array qD}{t:TypeId}{g:Nat}(a:w.heap.size=g):Row (w.alloc (.cells A t)) g A.toList:=by subst a;exact LS w A t
theorem Ga{o:Obj}{r:Option Nat}(h:(w.drew.alloc o).grownBy w' r):(w.alloc o).grownBy w' r:=⟨h.os,h.tape,h.output,h.size,h.block⟩
theorem K8{a:Nat}{e:TypeId}{s:Nat}{n:Nat}{i:List qD}(h:w.ownsRow a e s v n i)(k:∀b,a<=b->b<w.heap.size->w'.heap[b]?=w.heap[b]?):w'.ownsRow a e s v n i:=by
 refine⟨h.1,?_⟩;rcases h.2 with l|⟨g,b,c,rfl,f,d,j⟩
 ·exact .inl l
 exact .inr ⟨g,b,c,rfl,f,(k g f (AP.1 d).1).E d,j⟩
theorem mo{α:Type}(l:List α)(k:Nat)(d:α)(h:k<l.length):l.take (k+1)=l.take k++[l.getD k d]:=by
 rw[BH h];simp[List.getD,h]
structure OutX(w wb wr:xV)(v:qD)(o:List Pr):Prop where
 row:Row wr (w.heap.size+1+1+1) [v]
 own:wr.ownsRow (w.heap.size+1+1+1+1) 122 2 v o.length (LN o)
 bel:Below (w.heap.size+1+1+1) wb wr
theorem OutX.I{o:List Pr}(h:OutX w wb wr v o)(a:yX wr w'):OutX w wb w' v o:=⟨h.row.I a,LZ h.own a,h.bel.E (a.J (by have:=h.row.lt;omega))⟩
theorem OutX.sl{o:List Pr}(h:OutX w wb wr v o):∃a b,v=yI a o.length b:=by
 rcases MC h.own with ⟨b,c⟩|⟨g,a,b,_⟩
 ·exact⟨none,0,by rw[b,c]⟩
 exact⟨_,a,b⟩
theorem OutX.push{b:xV}{g:xA}{i g9 f:Nat}{a:List Pr}{x:Pr}{o:Obj}(h:OutX w wb wr (yI g a.length i) a)
  (j:b.ownsRow (w.heap.size+1+1+1+1) 122 2 (yI (zY g9 0) (a.length+1) f) (a.length+1) (LN a++[yQ x.1,yQ x.2]))(c:(wr.alloc o).grownBy b (yI g a.length i).ownBlock):Row b (w.heap.size+1+1+1) [yI g a.length i]/\OutX w wb (b.setCell (yA (w.heap.size+1+1+1) 0) (yI (zY g9 0) (a.length+1) f)) (yI (zY g9 0) (a.length+1) f) (a++[x])/\Below (w.heap.size+1+1+1) wb b:=by
 have q:=h.row.lt;have m:Row b (w.heap.size+1+1+1) [yI g a.length i]:=(h.row.alloc o).V c (λe=>by have:=(h.own.lt _ e.symm).1;omega);have l:Below (w.heap.size+1+1+1) wb b:=h.bel.E (Ow (w:=wr) ⟨c.os,c.tape,c.output,AJ σ c.size,λk d n=>(c.block k τ n).E (((AB wr.heap.size wr).alloc (AA _) o).block k d)⟩ ω (λk d=>by have:=(h.own.lt k d).1;omega));have p:=(j.lt g9 rfl).1;refine⟨m,⟨m.set 0 σ _,?_,l.setCell (p:=(yA (w.heap.size+1+1+1) 0)) (AA _) _⟩,l⟩;have n:b.grownBy (b.setCell (yA (w.heap.size+1+1+1) 0) (yI (zY g9 0) (a.length+1) f)) (some (w.heap.size+1+1+1)):=⟨rfl,rfl,rfl,by simp[World.setCell],λk _ d=>BM _ _ _ k (λe=>d (by rw[e]))⟩;have:=j.kept n (.inr (by simp[Value.ownBlock];omega));rw[AK,vu];exact this
def zC(w w':xV)(e:Ending)(b:List Pr):Prop:=∃a c,e=yT (LR a b.length c)/\b.length<=c/\OwnS w' a (LN b)/\(∀g,blk a b.length=some g->w.heap.size<=g)/\yX w w'/\w'.ownsRow w.heap.size 122 2 (yI a b.length c) b.length (LN b)
theorem Bt{B c:Nat}{e:TypeId}{k:Nat}{n:Nat}{d:List qD}(h:w.ownsRow B e k v n d)(j:c<=B):w.ownsRow c e k v n d:=⟨h.1,h.2.imp id (λ⟨g,a,b,f,i,r⟩=>⟨g,a,b,f,AJ j i,r⟩)⟩
theorem pK{d:xA}{e:Nat}{a:List Pr}(h:OutX w wb wr (yI d a.length e) a)(n:Below w.heap.size wr w')(o:∀k,w.heap.size+1+1+1+1<=k->w'.heap[k]?=wr.heap[k]?)(l:yX w wb)(p:w.heap.size+1+1+1+1<=wb.heap.size):zC w w' (yT (LR d a.length e)) a:=by
 have k:a.length<=e:=by
  rcases h.own.2 with ⟨c,i⟩|⟨g,f,b,c,_,_,j,_⟩
  ·rw[i];omega
  cases c;exact j
 have j:=K8 h.own (λb c _=>o b c);refine⟨d,e,rfl,k,?_,λg b=>?_,l.E ((h.bel.J ω).E n),Bt j ω⟩
 ·rcases MC j with ⟨_,i⟩|⟨g,f,c,_,_,m⟩
  ·exact .inl (by rw[AD i];rfl)
  cases c;exact .inr ⟨g,rfl,m⟩
 unfold blk at b
 split at b
 ·cases b
 cases d with
 | none=>cases b
 | some c =>
  simp at b;subst b;have:=(h.own.lt c.block rfl).1;omega
theorem zV(a:xA)(m:List Pr)(c:Nat)(j n:yZ)(s:Bool)(w:xV)(h:Prs w a m)(hl:m.length<=100000):Calls prog 187 #[LR a m.length c,.agg #[yQ j,yQ n,yR s]] w λe w'=>zC w w' e (OJ (j,n,s) m):=by
 obtain⟨i0,b,d,f,g⟩:=WE ed;have D:=Y (AG b (AG d (AG f g)));clear b d f g;unfold LR;obtain⟨wb,b⟩:∃wb,wb=(((w.alloc (.cells #[yI a m.length c] 37)).alloc (.cells #[yQ j,yQ n,yR s] 92)).alloc (.cells #[yI none 0 0] 37)).alloc (.cells #[yI none 0 0] 37):=⟨_,rfl⟩;have dZ:wb.heap.size=w.heap.size+1+1+1+1:=by rw[b];simp
 have P:Hid (yX w wb):=by show Below _ _ _;rw[b];exact(((LG _ _).alloc σ _).alloc ξ _).alloc ξ _
 have z:Hid (∀w',Below (w.heap.size+1+1+1) wb w'->Row w' (w.heap.size) [yI a m.length c]/\Row w' (w.heap.size+1) [yQ j,yQ n,yR s]/\Row w' (w.heap.size+1+1) [yI none 0 0]):=λw' q=>by
  have l:Row wb (w.heap.size) [yI a m.length c]:=by rw[b];exact(((LS w _ _).alloc _).alloc _).alloc _
  have p:Row wb (w.heap.size+1) [yQ j,yQ n,yR s]:=by rw[b];exact((ey (w:=w.alloc _) σ).alloc _).alloc _
  have o:Row wb (w.heap.size+1+1) [yI none 0 0]:=by rw[b];exact(ey (w:=(w.alloc _).alloc _) σ).alloc _
  have j:∀ {g:Nat} {d:List qD},g<w.heap.size+1+1+1->Row wb g d->Row w' g d:=λf r=>⟨AC r.lt q.size,λi v hv=>(q.cell (p:=⟨_,i,none⟩) f).E (r.cell i v hv),λi k=>(q.frozen (p:=⟨_,i,none⟩) f).E (r.froz i k)⟩
  exact⟨j ω l,j ω p,j ω o⟩
 have d:Row wb (w.heap.size+1+1+1) [yI none 0 0]:=by rw[b];exact ey (w:=((w.alloc _).alloc _).alloc _) σ
 have dF:Hid (Row wb (w.heap.size+1+1+1) [yI none 0 0]):=d;clear d;go_enter func187,ntmps187;go_wp2_with fail;rw[<-b];clear b;go_loopw [6,7] (λd i wr=>∃k:Nat,k<=m.length/\i=Z (k:Int)/\d=yR (chW (j,n,s) (m.take k)).1/\∃y,OutX w wb wr y (chW (j,n,s) (m.take k)).2) (λ_ i _=>m.length-(intOf i).toNat)
 case atStart =>
  exact⟨0,AL _,rfl,by simp[chW],yI none 0 0,⟨dF.j,BT _ _ _ _,AB _ _⟩⟩
 case round =>
  obtain⟨k,M,rfl,rfl,y,b⟩:=hrel;obtain⟨g,f⟩:∃g,g=(chW (j,n,s) (m.take k)).2:=⟨_,rfl⟩;obtain⟨d,i⟩:∃d,d=(chW (j,n,s) (m.take k)).1:=⟨_,rfl⟩;have C:chW (j,n,s) (m.take k)=(d,g):=by rw[i,f]
  rw[<-f]at b;rw[<-i]
  have cT:g.length<=100001:=by
   have:=(Sl (j,n,s) (m.take k) _ rfl).1;rw[<-f,AX]at this
   split at this<;>omega
  clear f i;obtain⟨U,V,rfl⟩:=b.sl;obtain⟨K,B,G⟩:=z.j _ b.bel;have q0:=K.y 0;have S:=B.y 0;have T:=B.y 1;have q3:=b.row.y 0;have r3:=b.row.A 0;have l3:=b.row.lt;have cH:yX w wr:=P.j.E (b.bel.J ω);have p:=Y b;clear b
  by_cases cM:k<m.length
  ·obtain⟨b,o,i,r,rfl,A,F,f⟩:=(h.I cH).at cM
   have R:b<w.heap.size:=by
    rcases h with h|⟨u,x,l,t,_⟩
    ·subst h;simp at cM
    cases l;exact t
   have dP:(k:Int)<(m.length:Int):=ω
   have eF:(0:Int)<=(k:Int):=ω
   have l:chW (j,n,s) (m.take (k+1))=P1 j n (d,g) (i,r):=by rw[mo m k (empty,empty) cM,Rr,<-f.j,C]
   have J:=Y l;clear l C f K B G
   have I:Hid (∀w',Below (w.heap.size+1+1+1) wr w'->w'.cell? (yA w.heap.size 0)=some (yI (zY b o) m.length c)/\w'.cell? (yA b (o+k*2))=some (yQ i)/\w'.cell? (yA b (o+k*2+1))=some (yQ r)/\w'.cell? (yA (w.heap.size+1) 0)=some (yQ j)/\w'.cell? (yA (w.heap.size+1) 1)=some (yQ n)):=λw' q=>⟨(q.cell (p:=(yA w.heap.size 0)) (by show w.heap.size<_;omega)).E q0,(q.cell (p:=(yA b (o+k*2))) (by show b<_;omega)).E A,(q.cell (p:=(yA b (o+k*2+1))) (by show b<_;omega)).E F,(q.cell (p:=(yA (w.heap.size+1) 0)) (by show w.heap.size+1<_;omega)).E S,(q.cell (p:=(yA (w.heap.size+1) 1)) (by show w.heap.size+1<_;omega)).E T⟩
   have dH:Hid (∀w',yX w w'->w'.cell? (yA b (o+k*2))=some (yQ i)/\w'.cell? (yA b (o+k*2+1))=some (yQ r)):=λw' q=>⟨(q.cell (p:=(yA b (o+k*2))) R).E ((cH.cell (p:=(yA b (o+k*2))) R).symm.E A),(q.cell (p:=(yA b (o+k*2+1))) R).E ((cH.cell (p:=(yA b (o+k*2+1))) R).symm.E F)⟩
   have E:Hid (∀w',Below (w.heap.size+1+1+1) wb w'->w'.cell? (yA w.heap.size 0)=some (yI (zY b o) m.length c)/\w'.cell? (yA b (o+k*2))=some (yQ i)/\w'.cell? (yA b (o+k*2+1))=some (yQ r)/\w'.cell? (yA (w.heap.size+1) 0)=some (yQ j)/\w'.cell? (yA (w.heap.size+1) 1)=some (yQ n)):=λw' q=>by
    obtain⟨K,B,G⟩:=z.j _ q;obtain⟨f,l⟩:=dH.j w' (P.j.E (q.J ω));exact⟨K.y 0,f,l,B.y 0,B.y 1⟩
   obtain⟨N,u⟩:∃b,b=(!d && RX j i):=⟨_,rfl⟩;obtain⟨d1,H⟩:∃b,b=(d || N):=⟨_,rfl⟩;obtain⟨t,f⟩:∃l,l=(if N=true then g++[(j,n)] else g):=⟨_,rfl⟩;have dR:t.length<=100002:=by rw[f];split<;>(try rw[AK])<;>(try simp only[BJ,AT])<;>omega
   have l:P1 j n (d,g) (i,r)=(d1,if i=j then t else t++[(i,r)]):=by
    rw[H,f,u];unfold P1;cases d<;>cases M:RX j i<;>by_cases x:i=j<;>simp[x,M]<;>(first|done|(rw[x]at M;simp_all))
   rw[l]at J;have O:=Y u;have X:=Y H;have bY:=Y f;clear u H f l;have u:yX wr wr.drew:=(AB _ _).drew;go_upto_region 6 with fail;clear I A F q0 S T q3 r3 l3;go_cut [30] from 18 to 30 (λf H=>f=yR N/\yX wr H)
   case first =>
    cases d with
    | true =>
     refine AN (S:=λw'=>w'.cell? (yA w.heap.size 0)=some (yI (zY b o) m.length c)/\w'.cell? (yA b (o+k*2))=some (yQ i)/\w'.cell? (yA b (o+k*2+1))=some (yQ r)/\w'.cell? (yA (w.heap.size+1) 0)=some (yQ j)/\w'.cell? (yA (w.heap.size+1) 1)=some (yQ n)) κ (E.j _ (p.j.bel.E (u.J (by have:=p.j.row.lt;omega)))) (λf=>?_);refine TY 0 (yR true) rfl f ?_;simp only[PS];refine TY 1 (yR false) rfl f ?_;simp only[PS];refine TY 2 (yR false) rfl f ?_;simp only[PS];refine TK 3 (undef) rfl (IS ⟨κ,rfl⟩) f ?_;simp only[PS];refine TK 4 (undef) rfl (IS ⟨κ,rfl⟩) f ?_;simp only[PS];refine TK 5 (undef) rfl (IS ⟨κ,rfl⟩) f ?_;simp only[PS];refine TK 6 (undef) rfl (IS ⟨κ,rfl⟩) f ?_;simp only[PS];refine TK 7 (undef) rfl (IS ⟨κ,rfl⟩) f ?_;simp only[PS]
     refine TK 8 (undef) rfl (IS ⟨κ,rfl⟩) f ?_;simp only[PS];refine TK 9 (undef) rfl (IS ⟨κ,rfl⟩) f ?_;simp only[PS];refine TK 10 (undef) rfl (IS ⟨κ,rfl⟩) f ?_;simp only[PS];refine TK 11 (undef) rfl (IS ⟨κ,rfl⟩) f ?_;simp only[PS];refine TY 12 (yR false) rfl f ?_;simp only[PS];refine DN ?_;go_wp2_with fail;go_meet;exact⟨by rw[O.j];rfl,u⟩
    | false =>
     rcases KN (Ou i j) 0 with l|l|l
     focus
      have A:Hid (RX j i=false):=U9 l;have F:Op.bytesLess i.toList j.toList=true:=(Pt _ _).1 l
     rotate_left
     focus
      have x:=(O9 _ _).1 l;have A:Hid (RX j i=false):=by show _=_;rw[x];exact Rz _
      have F:i.toList=j.toList:=by rw[x]
      clear x
     rotate_left
     ·have A:Hid (RX j i=true):=Qp l
      have F:¬(i.toList=j.toList):=λx=>by rw[CZ,CZ]at x;rw[EQ (IE x),Pf]at l;omega
      have x:Op.bytesLess i.toList j.toList=false:=by cases hq:Op.bytesLess i.toList j.toList with|false=>rfl|true=>(have:=(Pt _ _).2 hq;omega)
      refine AN (S:=λw'=>w'.cell? (yA w.heap.size 0)=some (yI (zY b o) m.length c)/\w'.cell? (yA b (o+k*2))=some (yQ i)/\w'.cell? (yA b (o+k*2+1))=some (yQ r)/\w'.cell? (yA (w.heap.size+1) 0)=some (yQ j)/\w'.cell? (yA (w.heap.size+1) 1)=some (yQ n)) κ (E.j _ (p.j.bel.E (u.J (by have:=p.j.row.lt;omega)))) (λf=>?_);refine TY 0 (yR false) rfl f ?_;simp only[PS];refine TY 1 (yR true) rfl f ?_;simp only[PS];refine TY 2 (yR true) rfl f ?_;simp only[PS];refine TY 3 (zW w.heap.size 0) rfl f ?_;simp only[PS];refine TY 4 (yI (zY b o) m.length c) rfl f ?_;simp only[PS];refine TY 5 (Z (k:Int)) rfl f ?_;simp only[PS];refine TY 6 (zW b (o+k*2)) rfl f ?_;simp only[PS];refine TY 7 (zW b (o+k*2)) rfl f ?_;simp only[PS];refine TY 8 (yQ i) rfl f ?_
      simp only[PS];refine TY 9 (zW (w.heap.size+1) 0) rfl f ?_;simp only[PS];refine TY 10 (yQ j) rfl f ?_;simp only[PS];refine TY 11 (yR true) rfl f ?_;simp only[PS];refine TY 12 (yR true) rfl f ?_;simp only[PS];refine DN ?_;go_wp2_with fail;go_meet;exact⟨by rw[O.j,A.j];rfl,u⟩
     all_goals
      refine AN (S:=λw'=>w'.cell? (yA w.heap.size 0)=some (yI (zY b o) m.length c)/\w'.cell? (yA b (o+k*2))=some (yQ i)/\w'.cell? (yA b (o+k*2+1))=some (yQ r)/\w'.cell? (yA (w.heap.size+1) 0)=some (yQ j)/\w'.cell? (yA (w.heap.size+1) 1)=some (yQ n)) κ (E.j _ (p.j.bel.E (u.J (by have:=p.j.row.lt;omega)))) (λf=>?_);refine TY 0 (yR false) rfl f ?_;simp only[PS];refine TY 1 (yR true) rfl f ?_;simp only[PS];refine TY 2 (yR true) rfl f ?_;simp only[PS];refine TY 3 (zW w.heap.size 0) rfl f ?_;simp only[PS];refine TY 4 (yI (zY b o) m.length c) rfl f ?_;simp only[PS];refine TY 5 (Z (k:Int)) rfl f ?_;simp only[PS];refine TY 6 (zW b (o+k*2)) rfl f ?_;simp only[PS];refine TY 7 (zW b (o+k*2)) rfl f ?_;simp only[PS];refine TY 8 (yQ i) rfl f ?_
      simp only[PS];refine TY 9 (zW (w.heap.size+1) 0) rfl f ?_;simp only[PS];refine TY 10 (yQ j) rfl f ?_;simp only[PS];refine TY 11 (yR false) rfl f ?_;simp only[PS];refine TY 12 (yR false) rfl f ?_;simp only[PS];refine DN ?_;go_wp2_with fail;go_meet;exact⟨by rw[O.j,A.j];rfl,u⟩
   case rest =>
    obtain⟨rfl,q⟩:=hcut
    rename World=>wa
    have F:=Y (p.j.I q);clear p q u;have p:=F;clear F;obtain⟨-,-,-,S,T⟩:=E.j _ p.j.bel;have q3:=p.j.row.y 0;have r3:=p.j.row.A 0;have l3:=p.j.row.lt;go_upto_if 30 with fail;go_cut [6] from 31 to 40 (λl H=>l=yR d1/\∃U V,OutX w wb H (yI U t.length V) t)
    case first =>
     cases N with
     | true =>
      have I:=bY.j;rw[AI rfl]at I;subst I;have L:=X.j;rw[Bool.or_true]at L;subst L;go_wp2_with (at_builtin;refine QS _ rfl _ _ 35 rfl (w.heap.size+1+1+1+1) underlying35 D.j rfl ω _ g.length _ rfl (p.j.own.alloc _) (yA wa.heap.size 0) 1 1 [yQ j,yQ n] rfl rfl (World.news_of_block (AU wa _)) (XJ _ _) τ (wa.heap.size+1) σ ?_;intro A x w7 H F W cN;have l:=OutX.push (x:=(j,n)) p.j H F;have q7:=l.1.y 0;have r7:=l.1.A 0;have l7:=l.1.lt;have cO:=(z.j _ l.2.2).2.2.y 0;have eB:=(z.j _ l.2.2).2.2.A 0;have Q:=Y l;clear H F W l);have l:=Q.j.2.1;have F:yI (zY A 0) (g.length+1) x=yI (zY A 0) (g++[(j,n)]).length x:=by rw[AK];rfl
      go_meet;refine⟨rfl,zY A 0,x,?_⟩;rw[<-F];exact l
     | false =>
      have I:=bY.j;rw[AF σ]at I;subst I;have L:=X.j;rw[Bool.or_false]at L;subst L;go_wp2_with fail;go_meet;exact⟨rfl,U,V,p.j⟩
    case rest =>
     obtain⟨rfl,H,I,l⟩:=hcut
     rename World=>L
     clear q3 r3 l3 S T p bY X O;have p:=Y l;clear l;obtain⟨F,l⟩:∃F,(i.toList == j.toList)=F:=⟨_,rfl⟩;have u:yX L L.drew:=(AB _ _).drew;go_upto_region 9 with fail;refine AN (S:=λw'=>w'.cell? (yA w.heap.size 0)=some (yI (zY b o) m.length c)/\w'.cell? (yA b (o+k*2))=some (yQ i)/\w'.cell? (yA b (o+k*2+1))=some (yQ r)/\w'.cell? (yA (w.heap.size+1) 0)=some (yQ j)/\w'.cell? (yA (w.heap.size+1) 1)=some (yQ n)) κ (E.j _ (p.j.bel.E (u.J (by have:=p.j.row.lt;omega)))) (λf=>?_);refine TY 0 (zW w.heap.size 0) rfl f ?_;simp only[PS];refine TY 1 (yI (zY b o) m.length c) rfl f ?_;simp only[PS];refine TY 2 (Z (k:Int)) rfl f ?_;simp only[PS];refine TY 3 (zW b (o+k*2)) rfl f ?_;simp only[PS];refine TY 4 (zW b (o+k*2)) rfl f ?_
     simp only[PS];refine TY 5 (yQ i) rfl f ?_;simp only[PS];refine TY 6 (zW (w.heap.size+1) 0) rfl f ?_;simp only[PS];refine TY 7 (yQ j) rfl f ?_;simp only[PS];refine TY 8 (yR (!F)) rfl f ?_;simp only[PS];refine DN ?_;obtain⟨x,Q⟩:∃x,x=L.drew:=⟨_,rfl⟩;rw[<-Q]at u⊢;have A:=Y (p.j.I u);clear Q p u f;have Q:=A.j.row.lt;have W:=A.j.row.y 0;have rd:=A.j.row.A 0
     cases F with
   | true =>
    have L:Hid (i=j):=by have:=eq_of_beq l;rw[CZ,CZ]at this;exact EQ (IE this)
    clear l;go_wp2;refine⟨⟨k+1,ω,ν,by rw[J.j],yI H t.length I,?_⟩,by simp[intOf];omega⟩;rw[J.j,AI L.j];exact A.j
   | false =>
    have L:Hid (¬i=j):=λe=>by rw[e]at l;simp at l
    clear l;go_upto_region 10 with fail
    have Q:Hid (∀w',Below (w.heap.size+1+1+1) wb w'->Row w' (w.heap.size+1+1+1) [yI H t.length I]->w'.cell? (yA w.heap.size 0)=some (yI (zY b o) m.length c)/\w'.cell? (yA b (o+k*2))=some (yQ i)/\w'.cell? (yA b (o+k*2+1))=some (yQ r)/\w'.cell? (yA (w.heap.size+1) 0)=some (yQ j)/\w'.cell? (yA (w.heap.size+1) 1)=some (yQ n)/\w'.cell? (yA (w.heap.size+1+1+1) 0)=some (yI H t.length I)):=λw' q e=>by obtain⟨a1,a2,a3,a4,a5⟩:=E.j _ q;exact⟨a1,a2,a3,a4,a5,e.y 0⟩
    have dM:yX x (x.drew.alloc (.cells #[yQ i,yQ r] 122)):=(AB _ _).drew.alloc (AA _) _;have F:=Y (A.j.I dM);have cQ:=A.j.I (AB x.heap.size x).drew;refine TU (10) (S:=λw'=>w'.cell? (yA w.heap.size 0)=some (yI (zY b o) m.length c)/\w'.cell? (yA b (o+k*2))=some (yQ i)/\w'.cell? (yA b (o+k*2+1))=some (yQ r)/\w'.cell? (yA (w.heap.size+1) 0)=some (yQ j)/\w'.cell? (yA (w.heap.size+1) 1)=some (yQ n)/\w'.cell? (yA (w.heap.size+1+1+1) 0)=some (yI H t.length I)) κ (Q.j _ cQ.bel cQ.row) (λf=>?_);refine NL 0 (zW (w.heap.size+1+1+1) 0) rfl f ?_;simp only[PS];refine NL 1 (yI H t.length I) rfl f ?_;simp only[PS];refine NL 2 (zW w.heap.size 0) rfl f ?_;simp only[PS];refine NL 3 (yI (zY b o) m.length c) rfl f ?_
    simp only[PS];refine NL 4 (Z (k:Int)) rfl f ?_;simp only[PS];refine NL 5 (zW b (o+k*2)) rfl f ?_;simp only[PS];refine NL 6 (.agg #[yQ i,yQ r]) rfl f ?_;simp only[PS];refine NK 7 rfl (λW f=>?_);go_simp;refine f.j _ _ (Q.j _ F.j.bel F.j.row) (λe=>?_)
    try simp only[PS]
    refine NK 8 rfl (λW f=>?_);refine step_append_lies _ ρ _ _ _ ρ (w.heap.size+1+1+1+1) 122 i0 (.agg #[yQ empty,yQ empty]) 2 32 underlying35 D.j.1 D.j.2.1 D.j.2.2.1 D.j.2.2.2 rfl ω (yI H t.length I) t.length _ ρ F.j.own (yA x.heap.size 0) 1 1 [yQ i,yQ r] ρ rfl (World.news_of_block (AU x.drew _)) (XJ _ _) ω (by unfold maxLen;(try simp)<;>omega) (by(try simp)<;>omega) (by(try simp)<;>omega) (x.heap.size+1) σ ?_;intro g9 cA w9 aO aL cE dQ;have l:=OutX.push (x:=(i,r)) A.j aO (Ga aL);have e:=Y l;clear aO aL cE l;refine f.j _ _ (Q.j _ e.j.2.2 e.j.1) (λl=>?_)
    try simp only[PS]
    refine NL 9 (zW (w.heap.size+1+1+1) 0) rfl l ?_;simp only[PS];refine PM (rs:=[10]) κ σ ?_;refine AllReadyT.last rfl (λW f=>?_);have W:=e.j.1.y 0;have r9:=e.j.1.A 0;have l:=e.j.1.lt;go_simp;clear W r9 l;refine f.j _ _ trivial (λ_=>?_)
    try simp only[PS]
    refine SP κ ?_ _;go_wp2;refine⟨⟨k+1,ω,ν,by rw[J.j],yI (zY g9 0) (t.length+1) cA,?_⟩,by simp[intOf];omega⟩;rw[J.j,AF L.j];simpa only[AK,EI] using e.j.2.1
  have e:k=m.length:=ω
  subst e;rw[DF]at C;have f:=G.y 0;have o:=G.A 0;have i:=G.lt;clear K B G
  cases d with
  | true =>
   have hF:OJ (j,n,s) m=g:=by unfold OJ;rw[C];rfl
   have b:=Y hF;clear C hF;go_wp2_with fail;rw[b.j];refine AE (v:=LR U g.length V) (by simp[results,results187,go_sem,LR,f]) rfl (pK p.j ?_ ?_ P.j ω)
   ·exact((AB _ _).setCell (p:=(yA (w.heap.size+1+1) 0)) (by show w.heap.size<=w.heap.size+1+1;omega) _)
   exactλk M=>BM _ _ _ k (by show _≠w.heap.size+1+1;omega)
  | false =>
   have hF:OJ (j,n,s) m=g++[(j,n)]:=by unfold OJ;rw[C];rfl
   have b:=Y hF;clear C hF;go_wp2_with (at_builtin;refine QS _ rfl _ _ 35 rfl (w.heap.size+1+1+1+1) underlying35 D.j rfl ω _ g.length _ rfl (p.j.own.alloc _) (yA wr.heap.size 0) 1 1 [yQ j,yQ n] rfl rfl (World.news_of_block (AU wr _)) (XJ _ _) τ (wr.heap.size+1) σ ?_;intro A x w7 H F W cN;have l:=OutX.push (x:=(j,n)) p.j H F;have q7:=l.1.y 0;have r7:=l.1.A 0;have l7:=l.1.lt;have cO:=(z.j _ l.2.2).2.2.y 0;have eB:=(z.j _ l.2.2).2.2.A 0;have Q:=Y l;clear H F W l);have cO:w7.cell? (yA (w.heap.size+1+1) 0)=some (yI none 0 0):=(z.j _ Q.j.2.2).2.2.y 0;rw[b.j];have F:yI (zY A 0) (g.length+1) x=yI (zY A 0) (g++[(j,n)]).length x:=by rw[AK];rfl
   have l:=Q.j.2.1;rw[F]at l;refine AE (v:=LR (zY A 0) (g++[(j,n)]).length x) (by simp[results,results187,go_sem,LR,cO]) rfl (pK l ?_ ?_ P.j ω)
   ·rw[<-F];exact((AB _ _).setCell (p:=(yA (w.heap.size+1+1) 0)) (by show w.heap.size<=w.heap.size+1+1;omega) _)
   rw[<-F];exactλk M=>BM _ _ _ k (by show _≠w.heap.size+1+1;omega)
theorem Jg(a:xA)(b:List Pr)(c:Nat)(f g:yZ)(d:Bool)(w:xV)(h:Prs w a b)(p:b.length<=100000):Calls prog 187 #[LR a b.length c,.agg #[yQ f,yQ g,yR d]] w λe w'=>gp w w' e (OJ (f,g,d) b):=by
 refine(zV a b c f g d w h p).J ?_;rintro e w' ⟨i,j,k,l,m,n,o,-⟩;exact⟨i,j,k,l,m,n,o⟩
