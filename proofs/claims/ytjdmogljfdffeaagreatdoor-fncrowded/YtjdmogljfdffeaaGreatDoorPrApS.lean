import Derived.Test.YtjdmogljfdffeaaGreatDoorPrG29
import Derived.Test.YtjdmogljfdffeaaGreatDoorPrG31
set_option maxHeartbeats 16000000
namespace Go.Proofs.YtjdmogljfdffeaaGreatDoor
open _root_.ByteArray(empty)
open Tryz
open Go.RowKit
set_option linter.all false
set_option maxRecDepth 8000
variable {v:Value}{w w' wb wr:World}
theorem XP(k v:ByteArray):∀u∈[Value.string k,.string v],u.oneCell'=true:=by
 intro u a;simp only[DX,EE,GR]at a;rcases a with rfl|rfl<;>rfl
theorem vf(o:List Pr)(c:Pr):LH (o++[c])=LH o++[.string c.1,.string c.2]:=by rw[VB];rfl
theorem fj{A:Array Value}{t:TypeId}{g:Nat}(a:w.heap.size=g):Row (w.alloc (.cells A t)) g A.toList:=by subst a;exact LU w A t
theorem Br{o:Obj}{r:Option Nat}(h:(w.drew.alloc o).grownBy w' r):(w.alloc o).grownBy w' r:=⟨h.os,h.tape,h.output,h.size,h.block⟩
theorem Gl{a:Nat}{e:TypeId}{s:Nat}{n:Nat}{i:List Value}(h:w.ownsRow a e s v n i)(k:∀b,a<=b->b<w.heap.size->w'.heap[b]?=w.heap[b]?):w'.ownsRow a e s v n i:=by
 refine⟨h.1,?_⟩;rcases h.2 with l|⟨g,b,c,rfl,f,d,j⟩
 ·exact .inl l
 exact .inr ⟨g,b,c,rfl,f,(k g f (AT.1 d).1).j d,j⟩
theorem mi{α:Type}(l:List α)(k:Nat)(d:α)(h:k<l.length):l.take (k+1)=l.take k++[l.getD k d]:=by
 rw[AX h];simp[List.getD,h]
structure OutX(w wb wr:World)(v:Value)(o:List Pr):Prop where
 row:Row wr (w.heap.size+1+1+1) [v]
 own:wr.ownsRow (w.heap.size+1+1+1+1) 136 2 v o.length (LH o)
 bel:Below (w.heap.size+1+1+1) wb wr
theorem OutX.z{o:List Pr}(h:OutX w wb wr v o)(a:Below wr.heap.size wr w'):OutX w wb w' v o:=⟨h.row.z a,LR h.own a,h.bel.j (a.A (by have:=h.row.lt;omega))⟩
theorem OutX.sl{o:List Pr}(h:OutX w wb wr v o):∃a b,v=Value.slice a o.length b:=by
 rcases MO h.own with ⟨b,c⟩|⟨g,a,b,_⟩
 ·exact⟨none,0,by rw[b,c]⟩
 exact⟨_,a,b⟩
theorem OutX.push{b:World}{g:Option Addr}{i g9 f:Nat}{a:List Pr}{x:Pr}{o:Obj}(h:OutX w wb wr (.slice g a.length i) a)
  (j:b.ownsRow (w.heap.size+1+1+1+1) 136 2 (.slice (some ⟨g9,0,none⟩) (a.length+1) f) (a.length+1) (LH a++[.string x.1,.string x.2]))(c:(wr.alloc o).grownBy b (Value.slice g a.length i).ownBlock):Row b (w.heap.size+1+1+1) [.slice g a.length i]/\OutX w wb (b.setCell ⟨w.heap.size+1+1+1,0,none⟩ (.slice (some ⟨g9,0,none⟩) (a.length+1) f)) (.slice (some ⟨g9,0,none⟩) (a.length+1) f) (a++[x])/\Below (w.heap.size+1+1+1) wb b:=by
 have q:=h.row.lt;have m:Row b (w.heap.size+1+1+1) [.slice g a.length i]:=(h.row.alloc o).I c (λe=>by have:=(h.own.lt _ e.symm).1;omega);have l:Below (w.heap.size+1+1+1) wb b:=h.bel.j (YL (w:=wr) ⟨c.os,c.tape,c.output,AL σ c.size,λk d n=>(c.block k τ n).j (((AC wr.heap.size wr).alloc (Y _) o).block k d)⟩ ω (λk d=>by have:=(h.own.lt k d).1;omega));have p:=(j.lt g9 rfl).1;refine⟨m,⟨m.set 0 σ _,?_,l.setCell (p:=⟨w.heap.size+1+1+1,0,none⟩) (Y _) _⟩,l⟩;have n:b.grownBy (b.setCell ⟨w.heap.size+1+1+1,0,none⟩ (.slice (some ⟨g9,0,none⟩) (a.length+1) f)) (some (w.heap.size+1+1+1)):=⟨rfl,rfl,rfl,by simp[World.setCell],λk _ d=>BD _ _ _ k (λe=>d (by rw[e]))⟩;have:=j.kept n (.inr (by simp[Value.ownBlock];omega));rw[AE,vf];exact this
def vM(w w':World)(e:Ending)(b:List Pr):Prop:=∃a c,e=.returned (LQ a b.length c)/\b.length<=c/\OwnS w' a (LH b)/\(∀g,blk a b.length=some g->w.heap.size<=g)/\Below w.heap.size w w'/\w'.ownsRow w.heap.size 136 2 (.slice a b.length c) b.length (LH b)
theorem xS{B c:Nat}{e:TypeId}{k:Nat}{n:Nat}{d:List Value}(h:w.ownsRow B e k v n d)(j:c<=B):w.ownsRow c e k v n d:=⟨h.1,h.2.imp id (λ⟨g,a,b,f,i,r⟩=>⟨g,a,b,f,AL j i,r⟩)⟩
theorem nT{d:Option Addr}{e:Nat}{a:List Pr}(h:OutX w wb wr (.slice d a.length e) a)(n:Below w.heap.size wr w')(o:∀k,w.heap.size+1+1+1+1<=k->w'.heap[k]?=wr.heap[k]?)(l:Below w.heap.size w wb)(p:w.heap.size+1+1+1+1<=wb.heap.size):vM w w' (.returned (LQ d a.length e)) a:=by
 have k:a.length<=e:=by
  rcases h.own.2 with ⟨c,i⟩|⟨g,f,b,c,_,_,j,_⟩
  ·rw[i];omega
  cases c;exact j
 have j:=Gl h.own (λb c _=>o b c);refine⟨d,e,rfl,k,?_,λg b=>?_,l.j ((h.bel.A ω).j n),xS j ω⟩
 ·rcases MO j with ⟨_,i⟩|⟨g,f,c,_,_,m⟩
  ·exact .inl (by rw[AB i];rfl)
  cases c;exact .inr ⟨g,rfl,m⟩
 unfold blk at b
 split at b
 ·cases b
 cases d with
 | none=>cases b
 | some c =>
  simp at b;subst b;have:=(h.own.lt c.block rfl).1;omega
theorem wF(a:Option Addr)(m:List Pr)(c:Nat)(j n:ByteArray)(s:Bool)(w:World)(h:Prs w a m)(hl:m.length<=100000):Calls prog 64 #[LQ a m.length c,.agg #[.string j,.string n,.bool s]] w λe w'=>vM w w' e (ON (j,n,s) m):=by
 obtain⟨i0,b,d,f,g⟩:=WP eo;have D:=Z (AH b (AH d (AH f g)));clear b d f g;unfold LQ;obtain⟨wb,b⟩:∃wb,wb=(((w.alloc (.cells #[.slice a m.length c] 31)).alloc (.cells #[.string j,.string n,.bool s] 45)).alloc (.cells #[.slice none 0 0] 31)).alloc (.cells #[.slice none 0 0] 31):=⟨_,rfl⟩;have eM:wb.heap.size=w.heap.size+1+1+1+1:=by rw[b];simp
 have Q:Hid (Below w.heap.size w wb):=by show Below _ _ _;rw[b];exact(((KW _ _).alloc σ _).alloc ξ _).alloc ξ _
 have z:Hid (∀w',Below (w.heap.size+1+1+1) wb w'->Row w' (w.heap.size) [.slice a m.length c]/\Row w' (w.heap.size+1) [.string j,.string n,.bool s]/\Row w' (w.heap.size+1+1) [.slice none 0 0]):=λw' q=>by
  have l:Row wb (w.heap.size) [.slice a m.length c]:=by rw[b];exact(((LU w _ _).alloc _).alloc _).alloc _
  have p:Row wb (w.heap.size+1) [.string j,.string n,.bool s]:=by rw[b];exact((fj (w:=w.alloc _) σ).alloc _).alloc _
  have o:Row wb (w.heap.size+1+1) [.slice none 0 0]:=by rw[b];exact(fj (w:=(w.alloc _).alloc _) σ).alloc _
  have j:∀ {g:Nat} {d:List Value},g<w.heap.size+1+1+1->Row wb g d->Row w' g d:=λf r=>⟨AD r.lt q.size,λi v hv=>(q.cell (p:=⟨_,i,none⟩) f).j (r.cell i v hv),λi k=>(q.frozen (p:=⟨_,i,none⟩) f).j (r.froz i k)⟩
  exact⟨j ω l,j ω p,j ω o⟩
 have d:Row wb (w.heap.size+1+1+1) [.slice none 0 0]:=by rw[b];exact fj (w:=((w.alloc _).alloc _).alloc _) σ
 have dZ:Hid (Row wb (w.heap.size+1+1+1) [.slice none 0 0]):=d;clear d;go_enter func64,ntmps64;go_wp2_with fail;rw[<-b];clear b;go_loopw [6,7] (λd i wr=>∃k:Nat,k<=m.length/\i=.int .i64 (k:Int)/\d=.bool (chW (j,n,s) (m.take k)).1/\∃y,OutX w wb wr y (chW (j,n,s) (m.take k)).2) (λ_ i _=>m.length-(intOf i).toNat)
 case atStart =>
  exact⟨0,AO _,rfl,by simp[chW],.slice none 0 0,⟨dZ.l,CE _ _ _ _,AC _ _⟩⟩
 case round =>
  obtain⟨k,N,rfl,rfl,y,b⟩:=hrel;obtain⟨g,f⟩:∃g,g=(chW (j,n,s) (m.take k)).2:=⟨_,rfl⟩;obtain⟨d,i⟩:∃d,d=(chW (j,n,s) (m.take k)).1:=⟨_,rfl⟩;have C:chW (j,n,s) (m.take k)=(d,g):=by rw[i,f]
  rw[<-f]at b;rw[<-i]
  have dL:g.length<=100001:=by
   have:=(xz (j,n,s) (m.take k) _ rfl).1;rw[<-f,BF]at this
   split at this<;>omega
  clear f i;obtain⟨U,W,rfl⟩:=b.sl;obtain⟨M,B,G⟩:=z.l _ b.bel;have q0:=M.y 0;have S:=B.y 0;have T:=B.y 1;have q3:=b.row.y 0;have r3:=b.row.E 0;have l3:=b.row.lt;have cP:Below w.heap.size w wr:=Q.l.j (b.bel.A ω);have p:=Z b;clear b
  by_cases cU:k<m.length
  ·obtain⟨b,o,i,r,rfl,A,F,f⟩:=(h.z cP).at cU
   have R:b<w.heap.size:=by
    rcases h with h|⟨u,x,l,t,_⟩
    ·subst h;simp at cU
    cases l;exact t
   have eH:(k:Int)<(m.length:Int):=ω
   have eP:(0:Int)<=(k:Int):=ω
   have l:chW (j,n,s) (m.take (k+1))=UP j n (d,g) (i,r):=by rw[mi m k (empty,empty) cU,qu,<-f.l,C]
   have K:=Z l;clear l C f M B G
   have I:Hid (∀w',Below (w.heap.size+1+1+1) wr w'->w'.cell? ⟨w.heap.size,0,none⟩=some (.slice (some ⟨b,o,none⟩) m.length c)/\w'.cell? ⟨b,o+k*2,none⟩=some (.string i)/\w'.cell? ⟨b,o+k*2+1,none⟩=some (.string r)/\w'.cell? ⟨w.heap.size+1,0,none⟩=some (.string j)/\w'.cell? ⟨w.heap.size+1,1,none⟩=some (.string n)):=λw' q=>⟨(q.cell (p:=⟨w.heap.size,0,none⟩) (by show w.heap.size<_;omega)).j q0,(q.cell (p:=⟨b,o+k*2,none⟩) (by show b<_;omega)).j A,(q.cell (p:=⟨b,o+k*2+1,none⟩) (by show b<_;omega)).j F,(q.cell (p:=⟨w.heap.size+1,0,none⟩) (by show w.heap.size+1<_;omega)).j S,(q.cell (p:=⟨w.heap.size+1,1,none⟩) (by show w.heap.size+1<_;omega)).j T⟩
   have eB:Hid (∀w',Below w.heap.size w w'->w'.cell? ⟨b,o+k*2,none⟩=some (.string i)/\w'.cell? ⟨b,o+k*2+1,none⟩=some (.string r)):=λw' q=>⟨(q.cell (p:=⟨b,o+k*2,none⟩) R).j ((cP.cell (p:=⟨b,o+k*2,none⟩) R).symm.j A),(q.cell (p:=⟨b,o+k*2+1,none⟩) R).j ((cP.cell (p:=⟨b,o+k*2+1,none⟩) R).symm.j F)⟩
   have E:Hid (∀w',Below (w.heap.size+1+1+1) wb w'->w'.cell? ⟨w.heap.size,0,none⟩=some (.slice (some ⟨b,o,none⟩) m.length c)/\w'.cell? ⟨b,o+k*2,none⟩=some (.string i)/\w'.cell? ⟨b,o+k*2+1,none⟩=some (.string r)/\w'.cell? ⟨w.heap.size+1,0,none⟩=some (.string j)/\w'.cell? ⟨w.heap.size+1,1,none⟩=some (.string n)):=λw' q=>by
    obtain⟨M,B,G⟩:=z.l _ q;obtain⟨f,l⟩:=eB.l w' (Q.l.j (q.A ω));exact⟨M.y 0,f,l,B.y 0,B.y 1⟩
   obtain⟨O,x⟩:∃b,b=(!d && SD j i):=⟨_,rfl⟩;obtain⟨d1,H⟩:∃b,b=(d || O):=⟨_,rfl⟩;obtain⟨t,u⟩:∃l,l=(if O=true then g++[(j,n)] else g):=⟨_,rfl⟩;have eJ:t.length<=100002:=by rw[u];split<;>(try rw[AE])<;>(try simp only[CA,AR])<;>omega
   have l:UP j n (d,g) (i,r)=(d1,if i=j then t else t++[(i,r)]):=by
    rw[H,u,x];unfold UP;cases d<;>cases N:SD j i<;>by_cases f:i=j<;>simp[f,N]<;>(first|done|(rw[f]at N;simp_all))
   rw[l]at K;have P:=Z x;have cE:=Z H;have cF:=Z u;clear x H u l;have u:Below wr.heap.size wr wr.drew:=(AC _ _).drew;go_upto_region 6 with fail;clear I A F q0 S T q3 r3 l3;go_cut [30] from 18 to 30 (λf A=>f=.bool O/\Below wr.heap.size wr A)
   case first =>
    cases d with
    | true =>
     refine AN (S:=λw'=>w'.cell? ⟨w.heap.size,0,none⟩=some (.slice (some ⟨b,o,none⟩) m.length c)/\w'.cell? ⟨b,o+k*2,none⟩=some (.string i)/\w'.cell? ⟨b,o+k*2+1,none⟩=some (.string r)/\w'.cell? ⟨w.heap.size+1,0,none⟩=some (.string j)/\w'.cell? ⟨w.heap.size+1,1,none⟩=some (.string n)) κ (E.l _ (p.l.bel.j (u.A (by have:=p.l.row.lt;omega)))) (λf=>?_);refine V 0 (.bool true) rfl f ?_;simp only[J];refine V 1 (.bool false) rfl f ?_;simp only[J];refine V 2 (.bool false) rfl f ?_;simp only[J];refine TK 3 (undef) rfl (II ⟨κ,rfl⟩) f ?_;simp only[J];refine TK 4 (undef) rfl (II ⟨κ,rfl⟩) f ?_;simp only[J];refine TK 5 (undef) rfl (II ⟨κ,rfl⟩) f ?_;simp only[J];refine TK 6 (undef) rfl (II ⟨κ,rfl⟩) f ?_;simp only[J];refine TK 7 (undef) rfl (II ⟨κ,rfl⟩) f ?_;simp only[J]
     refine TK 8 (undef) rfl (II ⟨κ,rfl⟩) f ?_;simp only[J];refine TK 9 (undef) rfl (II ⟨κ,rfl⟩) f ?_;simp only[J];refine TK 10 (undef) rfl (II ⟨κ,rfl⟩) f ?_;simp only[J];refine TK 11 (undef) rfl (II ⟨κ,rfl⟩) f ?_;simp only[J];refine V 12 (.bool false) rfl f ?_;simp only[J];refine DN ?_;go_wp2_with fail;go_meet;exact⟨by rw[P.l];rfl,u⟩
    | false =>
     rcases KA (LY i j) 0 with l|l|l
     focus
      have x:Hid (SD j i=false):=uD l;have F:Op.bytesLess i.toList j.toList=true:=(XV _ _).1 l
     rotate_left
     focus
      have f:=(dr _ _).1 l;have x:Hid (SD j i=false):=by show _=_;rw[f];exact ry _
      have F:i.toList=j.toList:=by rw[f]
      clear f
     rotate_left
     ·have x:Hid (SD j i=true):=ka l
      have F:¬(i.toList=j.toList):=λf=>by rw[DF,DF]at f;rw[EP (IU f),ZQ]at l;omega
      have H:Op.bytesLess i.toList j.toList=false:=by cases hq:Op.bytesLess i.toList j.toList with|false=>rfl|true=>(have:=(XV _ _).2 hq;omega)
      refine AN (S:=λw'=>w'.cell? ⟨w.heap.size,0,none⟩=some (.slice (some ⟨b,o,none⟩) m.length c)/\w'.cell? ⟨b,o+k*2,none⟩=some (.string i)/\w'.cell? ⟨b,o+k*2+1,none⟩=some (.string r)/\w'.cell? ⟨w.heap.size+1,0,none⟩=some (.string j)/\w'.cell? ⟨w.heap.size+1,1,none⟩=some (.string n)) κ (E.l _ (p.l.bel.j (u.A (by have:=p.l.row.lt;omega)))) (λf=>?_);refine V 0 (.bool false) rfl f ?_;simp only[J];refine V 1 (.bool true) rfl f ?_;simp only[J];refine V 2 (.bool true) rfl f ?_;simp only[J];refine V 3 (.pointer (some ⟨w.heap.size,0,none⟩)) rfl f ?_;simp only[J];refine V 4 (.slice (some ⟨b,o,none⟩) m.length c) rfl f ?_;simp only[J];refine V 5 (.int .i64 (k:Int)) rfl f ?_;simp only[J];refine V 6 (.pointer (some ⟨b,o+k*2,none⟩)) rfl f ?_;simp only[J];refine V 7 (.pointer (some ⟨b,o+k*2,none⟩)) rfl f ?_;simp only[J];refine V 8 (.string i) rfl f ?_
      simp only[J];refine V 9 (.pointer (some ⟨w.heap.size+1,0,none⟩)) rfl f ?_;simp only[J];refine V 10 (.string j) rfl f ?_;simp only[J];refine V 11 (.bool true) rfl f ?_;simp only[J];refine V 12 (.bool true) rfl f ?_;simp only[J];refine DN ?_;go_wp2_with fail;go_meet;exact⟨by rw[P.l,x.l];rfl,u⟩
     all_goals
      refine AN (S:=λw'=>w'.cell? ⟨w.heap.size,0,none⟩=some (.slice (some ⟨b,o,none⟩) m.length c)/\w'.cell? ⟨b,o+k*2,none⟩=some (.string i)/\w'.cell? ⟨b,o+k*2+1,none⟩=some (.string r)/\w'.cell? ⟨w.heap.size+1,0,none⟩=some (.string j)/\w'.cell? ⟨w.heap.size+1,1,none⟩=some (.string n)) κ (E.l _ (p.l.bel.j (u.A (by have:=p.l.row.lt;omega)))) (λf=>?_);refine V 0 (.bool false) rfl f ?_;simp only[J];refine V 1 (.bool true) rfl f ?_;simp only[J];refine V 2 (.bool true) rfl f ?_;simp only[J];refine V 3 (.pointer (some ⟨w.heap.size,0,none⟩)) rfl f ?_;simp only[J];refine V 4 (.slice (some ⟨b,o,none⟩) m.length c) rfl f ?_;simp only[J];refine V 5 (.int .i64 (k:Int)) rfl f ?_;simp only[J];refine V 6 (.pointer (some ⟨b,o+k*2,none⟩)) rfl f ?_;simp only[J];refine V 7 (.pointer (some ⟨b,o+k*2,none⟩)) rfl f ?_;simp only[J];refine V 8 (.string i) rfl f ?_
      simp only[J];refine V 9 (.pointer (some ⟨w.heap.size+1,0,none⟩)) rfl f ?_;simp only[J];refine V 10 (.string j) rfl f ?_;simp only[J];refine V 11 (.bool false) rfl f ?_;simp only[J];refine V 12 (.bool false) rfl f ?_;simp only[J];refine DN ?_;go_wp2_with fail;go_meet;exact⟨by rw[P.l,x.l];rfl,u⟩
   case rest =>
    obtain⟨rfl,q⟩:=hcut
    rename World=>wa
    have F:=Z (p.l.z q);clear p q u;have p:=F;clear F;obtain⟨-,-,-,S,T⟩:=E.l _ p.l.bel;have q3:=p.l.row.y 0;have r3:=p.l.row.E 0;have l3:=p.l.row.lt;go_upto_if 30 with fail;go_cut [6] from 31 to 40 (λf A=>f=.bool d1/\∃U W,OutX w wb A (.slice U t.length W) t)
    case first =>
     cases O with
     | true =>
      have H:=cF.l;rw[AF rfl]at H;subst H;have I:=cE.l;rw[Bool.or_true]at I;subst I;go_wp2_with (at_builtin;refine QN _ rfl _ _ 29 rfl (w.heap.size+1+1+1+1) underlying29 D.l rfl ω _ g.length _ rfl (p.l.own.alloc _) ⟨wa.heap.size,0,none⟩ 1 1 [.string j,.string n] rfl rfl (World.news_of_block (AW wa _)) (XP _ _) τ (wa.heap.size+1) σ ?_;intro x f w7 F A X cV;have l:=OutX.push (x:=(j,n)) p.l F A;have q7:=l.1.y 0;have r7:=l.1.E 0;have l7:=l.1.lt;have cW:=(z.l _ l.2.2).2.2.y 0;have eN:=(z.l _ l.2.2).2.2.E 0;have L:=Z l;clear F A X l);have l:=L.l.2.1;have A:Value.slice (some ⟨x,0,none⟩) (g.length+1) f=.slice (some ⟨x,0,none⟩) (g++[(j,n)]).length f:=by rw[AE];rfl
      go_meet;refine⟨rfl,some ⟨x,0,none⟩,f,?_⟩;rw[<-A];exact l
     | false =>
      have H:=cF.l;rw[AG σ]at H;subst H;have I:=cE.l;rw[Bool.or_false]at I;subst I;go_wp2_with fail;go_meet;exact⟨rfl,U,W,p.l⟩
    case rest =>
     obtain⟨rfl,H,I,l⟩:=hcut
     rename World=>L
     clear q3 r3 l3 S T p cF cE P;have p:=Z l;clear l;obtain⟨F,l⟩:∃F,(i.toList == j.toList)=F:=⟨_,rfl⟩;have u:Below L.heap.size L L.drew:=(AC _ _).drew;go_upto_region 9 with fail;refine AN (S:=λw'=>w'.cell? ⟨w.heap.size,0,none⟩=some (.slice (some ⟨b,o,none⟩) m.length c)/\w'.cell? ⟨b,o+k*2,none⟩=some (.string i)/\w'.cell? ⟨b,o+k*2+1,none⟩=some (.string r)/\w'.cell? ⟨w.heap.size+1,0,none⟩=some (.string j)/\w'.cell? ⟨w.heap.size+1,1,none⟩=some (.string n)) κ (E.l _ (p.l.bel.j (u.A (by have:=p.l.row.lt;omega)))) (λf=>?_);refine V 0 (.pointer (some ⟨w.heap.size,0,none⟩)) rfl f ?_;simp only[J];refine V 1 (.slice (some ⟨b,o,none⟩) m.length c) rfl f ?_;simp only[J];refine V 2 (.int .i64 (k:Int)) rfl f ?_;simp only[J];refine V 3 (.pointer (some ⟨b,o+k*2,none⟩)) rfl f ?_;simp only[J];refine V 4 (.pointer (some ⟨b,o+k*2,none⟩)) rfl f ?_
     simp only[J];refine V 5 (.string i) rfl f ?_;simp only[J];refine V 6 (.pointer (some ⟨w.heap.size+1,0,none⟩)) rfl f ?_;simp only[J];refine V 7 (.string j) rfl f ?_;simp only[J];refine V 8 (.bool (!F)) rfl f ?_;simp only[J];refine DN ?_;obtain⟨x,X⟩:∃x,x=L.drew:=⟨_,rfl⟩;rw[<-X]at u⊢;have A:=Z (p.l.z u);clear X p u f;have f:=A.l.row.lt;have X:=A.l.row.y 0;have rd:=A.l.row.E 0
     cases F with
   | true =>
    have X:Hid (i=j):=by have:=eq_of_beq l;rw[DF,DF]at this;exact EP (IU this)
    clear l;go_wp2;refine⟨⟨k+1,ω,ν,by rw[K.l],.slice H t.length I,?_⟩,by simp[intOf];omega⟩;rw[K.l,AF X.l];exact A.l
   | false =>
    have X:Hid (¬i=j):=λe=>by rw[e]at l;simp at l
    clear l;go_upto_region 10 with fail
    have cH:Hid (∀w',Below (w.heap.size+1+1+1) wb w'->Row w' (w.heap.size+1+1+1) [.slice H t.length I]->w'.cell? ⟨w.heap.size,0,none⟩=some (.slice (some ⟨b,o,none⟩) m.length c)/\w'.cell? ⟨b,o+k*2,none⟩=some (.string i)/\w'.cell? ⟨b,o+k*2+1,none⟩=some (.string r)/\w'.cell? ⟨w.heap.size+1,0,none⟩=some (.string j)/\w'.cell? ⟨w.heap.size+1,1,none⟩=some (.string n)/\w'.cell? ⟨w.heap.size+1+1+1,0,none⟩=some (.slice H t.length I)):=λw' q e=>by obtain⟨a1,a2,a3,a4,a5⟩:=E.l _ q;exact⟨a1,a2,a3,a4,a5,e.y 0⟩
    have eF:Below x.heap.size x (x.drew.alloc (.cells #[.string i,.string r] 136)):=(AC _ _).drew.alloc (Y _) _;have F:=Z (A.l.z eF);have cZ:=A.l.z (AC x.heap.size x).drew;refine YH (10) (S:=λw'=>w'.cell? ⟨w.heap.size,0,none⟩=some (.slice (some ⟨b,o,none⟩) m.length c)/\w'.cell? ⟨b,o+k*2,none⟩=some (.string i)/\w'.cell? ⟨b,o+k*2+1,none⟩=some (.string r)/\w'.cell? ⟨w.heap.size+1,0,none⟩=some (.string j)/\w'.cell? ⟨w.heap.size+1,1,none⟩=some (.string n)/\w'.cell? ⟨w.heap.size+1+1+1,0,none⟩=some (.slice H t.length I)) κ (cH.l _ cZ.bel cZ.row) (λf=>?_);refine MZ 0 (.pointer (some ⟨w.heap.size+1+1+1,0,none⟩)) rfl f ?_;simp only[J];refine MZ 1 (.slice H t.length I) rfl f ?_;simp only[J];refine MZ 2 (.pointer (some ⟨w.heap.size,0,none⟩)) rfl f ?_;simp only[J];refine MZ 3 (.slice (some ⟨b,o,none⟩) m.length c) rfl f ?_
    simp only[J];refine MZ 4 (.int .i64 (k:Int)) rfl f ?_;simp only[J];refine MZ 5 (.pointer (some ⟨b,o+k*2,none⟩)) rfl f ?_;simp only[J];refine MZ 6 (.agg #[.string i,.string r]) rfl f ?_;simp only[J];refine OY 7 rfl (λKq L=>?_);go_simp;refine L.l _ _ (cH.l _ F.l.bel F.l.row) (λeC=>?_)
    try simp only[J]
    refine OY 8 rfl (λKq L=>?_);refine step_append_lies _ ρ _ _ _ ρ (w.heap.size+1+1+1+1) 136 i0 (.agg #[.string empty,.string empty]) 2 32 underlying29 D.l.1 D.l.2.1 D.l.2.2.1 D.l.2.2.2 rfl ω (.slice H t.length I) t.length _ ρ F.l.own ⟨x.heap.size,0,none⟩ 1 1 [.string i,.string r] ρ rfl (World.news_of_block (AW x.drew _)) (XP _ _) ω (by unfold maxLen;(try simp)<;>omega) (by(try simp)<;>omega) (by(try simp)<;>omega) (x.heap.size+1) σ ?_;intro g9 cI w9 aO aL cL eI;have l:=OutX.push (x:=(i,r)) A.l aO (Br aL);have e:=Z l;clear aO aL cL l;refine L.l _ _ (cH.l _ e.l.2.2 e.l.1) (λl=>?_)
    try simp only[J]
    refine MZ 9 (.pointer (some ⟨w.heap.size+1+1+1,0,none⟩)) rfl l ?_;simp only[J];refine RZ (rs:=[10]) κ σ ?_;refine AllReadyT.last rfl (λKq L=>?_);have q9:=e.l.1.y 0;have r9:=e.l.1.E 0;have l9:=e.l.1.lt;go_simp;clear q9 r9 l9;refine L.l _ _ trivial (λ_=>?_)
    try simp only[J]
    refine XH κ ?_ _;go_wp2;refine⟨⟨k+1,ω,ν,by rw[K.l],.slice (some ⟨g9,0,none⟩) (t.length+1) cI,?_⟩,by simp[intOf];omega⟩;rw[K.l,AG X.l];simpa only[AE,EQ] using e.l.2.1
  have e:k=m.length:=ω
  subst e;rw[DA]at C;have i:=G.y 0;have o:=G.E 0;have r:=G.lt;clear M B G
  cases d with
  | true =>
   have hF:ON (j,n,s) m=g:=by unfold ON;rw[C];rfl
   have b:=Z hF;clear C hF;go_wp2_with fail;rw[b.l];refine AI (v:=LQ U g.length W) (by simp[results,results64,go_sem,LQ,i]) rfl (nT p.l ?_ ?_ Q.l ω)
   ·exact((AC _ _).setCell (p:=⟨w.heap.size+1+1,0,none⟩) (by show w.heap.size<=w.heap.size+1+1;omega) _)
   exactλk N=>BD _ _ _ k (by show _≠w.heap.size+1+1;omega)
  | false =>
   have hF:ON (j,n,s) m=g++[(j,n)]:=by unfold ON;rw[C];rfl
   have b:=Z hF;clear C hF;go_wp2_with (at_builtin;refine QN _ rfl _ _ 29 rfl (w.heap.size+1+1+1+1) underlying29 D.l rfl ω _ g.length _ rfl (p.l.own.alloc _) ⟨wr.heap.size,0,none⟩ 1 1 [.string j,.string n] rfl rfl (World.news_of_block (AW wr _)) (XP _ _) τ (wr.heap.size+1) σ ?_;intro x f w7 F A X cV;have l:=OutX.push (x:=(j,n)) p.l F A;have q7:=l.1.y 0;have r7:=l.1.E 0;have l7:=l.1.lt;have cW:=(z.l _ l.2.2).2.2.y 0;have eN:=(z.l _ l.2.2).2.2.E 0;have L:=Z l;clear F A X l);have cW:w7.cell? ⟨w.heap.size+1+1,0,none⟩=some (.slice none 0 0):=(z.l _ L.l.2.2).2.2.y 0;rw[b.l];have A:Value.slice (some ⟨x,0,none⟩) (g.length+1) f=.slice (some ⟨x,0,none⟩) (g++[(j,n)]).length f:=by rw[AE];rfl
   have l:=L.l.2.1;rw[A]at l;refine AI (v:=LQ (some ⟨x,0,none⟩) (g++[(j,n)]).length f) (by simp[results,results64,go_sem,LQ,cW]) rfl (nT l ?_ ?_ Q.l ω)
   ·rw[<-A];exact((AC _ _).setCell (p:=⟨w.heap.size+1+1,0,none⟩) (by show w.heap.size<=w.heap.size+1+1;omega) _)
   rw[<-A];exactλk N=>BD _ _ _ k (by show _≠w.heap.size+1+1;omega)
theorem Ek(a:Option Addr)(b:List Pr)(c:Nat)(f g:ByteArray)(d:Bool)(w:World)(h:Prs w a b)(p:b.length<=100000):Calls prog 64 #[LQ a b.length c,.agg #[.string f,.string g,.bool d]] w λe w'=>gp w w' e (ON (f,g,d) b):=by
 refine(wF a b c f g d w h p).A ?_;rintro e w' ⟨i,j,k,l,m,n,o,-⟩;exact⟨i,j,k,l,m,n,o⟩
