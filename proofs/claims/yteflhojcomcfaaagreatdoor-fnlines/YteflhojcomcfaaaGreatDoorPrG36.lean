import Derived.Test.YteflhojcomcfaaaGreatDoorPrRpS
import Derived.Test.YteflhojcomcfaaaGreatDoorPrG46
import Derived.Test.YteflhojcomcfaaaGreatDoorPrFbS
import Derived.Laws.Bits64b
import Derived.Test.YteflhojcomcfaaaGreatDoorPrG40
set_option maxHeartbeats 16000000
set_option maxRecDepth 8000
set_option linter.all false
namespace Go.Proofs.YteflhojcomcfaaaGreatDoor
open _root_.ByteArray(empty)
open Tryz
open Go.RowKit
variable {op p:Q4}{first k m n wk wl:Int}{f frm i size:Nat}{W w:Q9}
theorem mq(r:Q4):∀y∈LF r,0<=y/\y<=255:=by
 intro y a;unfold LF at a;obtain⟨c,_,rfl⟩:=DW.1 a;have:=GU c;omega
theorem qf(b:Q4)(i j:Nat):LF (b.extract i j)=((LF b).take j).drop i:=by
 unfold LF;rw[<-GT,<-KS,IN,JV];simp[List.extract,FX]
theorem fy:∀(k:Nat) (a:List Int),a.length=k->(∀y∈a,0<=y/\y<=255)->0<=NV a/\NV a<(256:Int) ^ k:=by
 intro k
 induction k with
 | zero=>intro a b _;have:a=[]:=AD b;subst this;simp[NV]
 | succ k g =>
  intro a b d;have c:a≠[]:=by intro h;subst h;simp at b
  have e:=JZ c;have j:=g a.dropLast q (λy h=>d y (List.dropLast_subset _ h));have l:=d _ (List.getLast_mem c);rw[<-e,vn,LC];omega
theorem s6(y:Int):NV [y]=y:=by simp[NV]
theorem Kv(s:Q4)(n:Nat)(g:s.size=64)(l:n<=8){b:Q4}(e:b=s.extract n 64):(rpN b:Int)=NV (((LF s).drop (n+7)).take 1)/\XG b=NV (((LF s).drop n).take 1)/\XH b=NV (((LF s).drop (n+1)).take 2)/\XI b=NV (((LF s).drop (n+3)).take 4)/\WI b=strOfNums (((LF s).drop (n+8)).take (rpN b)):=by
 have a:LF b=(LF s).drop n:=by rw[e,qf,AS (by rw[NK];omega)]
 have j:b.data.toList.length=64-n:=by have:=NK s;have h:=BD List.length a;rw[BS,NK,NK,g]at h;exact h
 have c:∀i,i<64-n->NV (((LF s).drop (n+i)).take 1)=((b.data.toList.getD i 0).toNat:Int):=λi o=>by
  rw[<-GO,<-a];unfold LF;rw[<-KS,<-GT,FW d];simp only[KD,FZ,FY,JN,s6];rw[AY,AO d];rfl
 refine⟨?_,?_,?_,?_,?_⟩
 .rw[c 7 d];rfl
 .have:=c 0 d;rw[IQ]at this;rw[this];rfl
 .unfold XH;rw[qf,a];simp[FX,GO]
 .unfold XI;rw[qf,a];simp[FX,GO]
 unfold WI
 rw[<-WR (b.extract 8 (8+rpN b)),qf,a];simp[FX,GO]
abbrev RtT:=Int×Int×Int×Int
def UC(p:Q4):Int:=NV ((LF p).take 1)
def TJ(p:Q4):Int:=NV (((LF p).drop 1).take 4)
def OR(s:Q4)(a n:Int):Option RtT :=match OA s n with
 | none=>none
 | some (_,l,m,p)=>if p.size=5/\QE m (UC p) (TJ p) l n=s/\m % 2=a then some (m,UC p,TJ p,l) else none
theorem XL{s:Q4}{l:Int}(h:OA s n=some (k,l,m,p)):s.size=64/\NB k l m p n=s/\1<=m/\m<=1000000000/\1<=l/\l<=60000/\p.size<=64:=by
 unfold OA at h
 split at h
 .rename_i d
  obtain⟨e,g,b,o,a⟩:=d;simp only[EZ,EK]at h;obtain⟨rfl,rfl,rfl,rfl⟩:=h;refine⟨b,a,?_⟩
  have c:OB (XG (s.extract n.toNat 64)) (XH (s.extract n.toNat 64)) (XI (s.extract n.toNat 64)) (WI (s.extract n.toNat 64)) n=true:=by
   cases hc:OB (XG (s.extract n.toNat 64)) (XH (s.extract n.toNat 64)) (XI (s.extract n.toNat 64)) (WI (s.extract n.toNat 64)) n with
   | true=>rfl
   | false =>
    exfalso;unfold NB at a;rw[hc,A j]at a;rw[<-a]at b;exact absurd b δ
  have q:=AW (by unfold OB at c;exact c);omega
 cases h
theorem pK{s:Q4}{a:Int}{x:RtT}(h:OR s a n=some x):1<=x.1:=by
 unfold OR at h
 split at h
 .cases h
 rename_i k l m p b
 split at h
 .simp only[EZ]at h
  subst h;exact(XL b).2.2.1
 cases h
def WA(b:RtT)(o:Option RtT):RtT:=match o with
 | none=>b
 | some r=>if b.1<r.1 then r else b
def nz(a b:Q4)(n:Int):RtT:=WA (WA (0,0,1,0) (OR a 0 n)) (OR b 1 n)
def NM:RtT:=(0,0,0,0)
def SP(b r:RtT):RtT:=if b.1<r.1 then r else b
theorem Is(e b:Q4)(n:Int):(if SP (SP NM ((OR e 0 n).getD NM)) ((OR b 1 n).getD NM)=NM then ((0,0,1,0):RtT) else SP (SP NM ((OR e 0 n).getD NM)) ((OR b 1 n).getD NM))=nz e b n:=by
 unfold nz
 cases h0:OR e 0 n with
 | none =>
  cases h1:OR b 1 n with
  | none=>simp[SP,NM,WA]
  | some y =>
   have:=pK h1;obtain⟨a,r,s,t⟩:=y;have g:(0:Int)<a:=by show 0<a;have:1<=a:=this;omega
   have c:¬a=0:=d
   simp[SP,NM,WA,g,c]
 | some x =>
  have o:=pK h0;obtain⟨c,u,v,z⟩:=x;have h:(0:Int)<c:=by have:1<=c:=o;omega
  have g:¬c=0:=d
  cases h1:OR b 1 n with
  | none =>
   have a:¬c<0:=d
   simp[SP,NM,WA,h,g,a]
  | some y =>
   have q:=pK h1;obtain⟨a,r,s,t⟩:=y;have j:¬a=0:=by have:1<=a:=q;omega
   by_cases l:c<a
   .simp[SP,NM,WA,h,g,l,j]
   simp[SP,NM,WA,h,g,l,j]
def RW(wk wl k l:Int):Bool:=decide (wl<=l) && (if k=3 then decide (wk≠1) else (decide (k=1) || decide (k=2)) && (decide (wk≠1) || decide (wl=l)))
abbrev Scd:=List Q4×Int×Int
def OV(S:Nat->Q4)(frm:Nat)(first n:Int):Nat->Nat->Int->Int->Q4->Scd->Scd
 | 0,_,_,_,_,out=>out
 | f+1,i,wk,wl,op,out =>
  match OA (S (frm+i)) n with
  | none=>out
  | some (k,l,m,p)=>if IntKind.i64.wrap (m-(i:Int))=first/\RW wk wl k l=true then
    (if k=1 then OV S frm first n f (i+1) k l (op++p) out
     else OV S frm first n f (i+1) k l empty (if k=2 then out.1++[op++p] else out.1,(i:Int)+1,l))
   else out
theorem wR{S:Nat->Q4}{a:Scd}(h:OA (S (frm+i)) n=none):OV S frm first n f i wk wl op a=a:=by
 cases f with
 | zero=>rfl
 | succ f=>rw[OV,h]
theorem ze{S:Nat->Q4}{l:Int}{a:Scd}(h:OA (S (frm+i)) n=some (k,l,m,p))(b:¬(IntKind.i64.wrap (m-(i:Int))=first/\RW wk wl k l=true)):OV S frm first n f i wk wl op a=a:=by
 cases f with
 | zero=>rfl
 | succ f=>rw[OV,h];simp only;rw[A b]
theorem uI{S:Nat->Q4}{l:Int}{a:Scd}(h:OA (S (frm+i)) n=some (1,l,m,p))(c:IntKind.i64.wrap (m-(i:Int))=first)(b:RW wk wl 1 l=true):OV S frm first n (f+1) i wk wl op a=OV S frm first n f (i+1) 1 l (op++p) a:=by
 rw[OV,h];simp only;rw[G ⟨c,b⟩,G trivial]
theorem qQ{S:Nat->Q4}{l:Int}{out:Scd}(h:OA (S (frm+i)) n=some (k,l,m,p))(c:IntKind.i64.wrap (m-(i:Int))=first)(a:RW wk wl k l=true)(b:k≠1):OV S frm first n (f+1) i wk wl op out=OV S frm first n f (i+1) k l empty (if k=2 then out.1++[op++p] else out.1,(i:Int)+1,l):=by
 rw[OV,h];simp only;rw[G ⟨c,a⟩,A b]
def ZN(wk wl k l:Int):Bool:=if k=1\/k=2 then (decide (l=wl) || (!decide (wk=1) && decide (wl<l))) else if k=3 then decide (wl<=l) && !decide (wk=1) else false
theorem Od(wk wl k l:Int):ZN wk wl k l=RW wk wl k l:=by
 unfold ZN RW;rw[JB]
 by_cases b:k=3
 .subst b
  simp
 by_cases a:k=1\/k=2
 .have c:(decide (k=1) || decide (k=2))=true:=by simpa using a
  rw[G a,A b,c]
  by_cases d:wk=1
  .subst d;simp;omega
  simp[d];omega
 have c:(decide (k=1) || decide (k=2))=false:=by simpa using a
 rw[A a,A b,A b,c];simp
theorem J2(S:Nat->Q4)(frm:Nat)(first n:Int)(f i:Nat)(wl:Int)(op:Q4)(a:Scd):OV S frm first n f i 2 wl op a=OV S frm first n f i 0 wl op a:=by
 cases f with
 | zero=>rfl
 | succ f =>
  rw[OV,OV]
  have:∀k l,RW 2 wl k l=RW 0 wl k l:=λk l=>by unfold RW;simp
  simp only[this]
theorem pX(S:Nat->Q4)(frm:Nat)(first n:Int):∀(f i:Nat) (wk wl:Int) (op:Q4) (out:Scd) (B:Nat),op.size+64*f<=B->(∀e∈out.1,e.size<=B)->(∀e∈(OV S frm first n f i wk wl op out).1,e.size<=B)/\(OV S frm first n f i wk wl op out).1.length<=out.1.length+f
 | 0,i,wk,wl,op,out,B,_,h2=>⟨h2,by simp[OV]⟩
 | f+1,i,wk,wl,op,out,B,h1,h2=>by
  rw[OV]
  split
  .exact⟨h2,ω⟩
  rename_i k l m p hp
  have hps:=(XL hp).2.2.2.2.2.2
  split
  .split
   .have:=pX S frm first n f (i+1) k l (op++p) out B (by rw[AP];omega) h2
    exact⟨this.1,ω⟩
   have:=pX S frm first n f (i+1) k l empty (if k=2 then out.1++[op++p] else out.1,(i:Int)+1,l) B (by show 0+_<=_;omega) (by
    intro e he;simp only at he
    split at he
    .rw[BZ]at he
     rcases he with he|he
     .exact h2 e he
     simp at he;subst he;rw[AP];omega
    .exact h2 e he)
   refine⟨this.1,AJ this.2 ?_⟩;simp only
   split
   .simp;omega
   omega
  exact⟨h2,ω⟩
theorem nK(S:Nat->Q4)(frm:Nat)(first n:Int):∀(f i:Nat) (wk wl:Int) (op:Q4) (out:Scd),(0<=out.2.1/\out.2.1<=(i:Int))->0<=(OV S frm first n f i wk wl op out).2.1/\(OV S frm first n f i wk wl op out).2.1<=(i:Int)+f
 | 0,i,wk,wl,op,out,h=>by rw[OV];omega
 | f+1,i,wk,wl,op,out,h=>by
  rw[OV]
  split
  .omega
  rename_i k l m p hp
  split
  .split
   .have:=nK S frm first n f (i+1) k l (op++p) out ω
    omega
   have:=nK S frm first n f (i+1) k l empty (if k=2 then out.1++[op++p] else out.1,(i:Int)+1,l) (by show 0<=(i:Int)+1/\(i:Int)+1<=_;omega)
   omega
  omega
theorem oE(S:Nat->Q4)(frm:Nat)(first n:Int):∀(f i:Nat) (wk wl:Int) (op:Q4) (out:Scd),(OV S frm first n f i wk wl op out).2.2=out.2.2\/(1<=(OV S frm first n f i wk wl op out).2.2/\(OV S frm first n f i wk wl op out).2.2<=60000)
 | 0,i,wk,wl,op,out=>.inl rfl
 | f+1,i,wk,wl,op,out=>by
  rw[OV]
  split
  .exact .inl rfl
  rename_i k l m p hp
  have hl:=XL hp
  split
  .split
   .exact oE S frm first n f (i+1) k l (op++p) out
   rcases oE S frm first n f (i+1) k l empty (if k=2 then out.1++[op++p] else out.1,(i:Int)+1,l) with h|h
   .right
    rw[h];show 1<=l/\l<=60000;omega
   exact .inr h
  exact .inl rfl
theorem mR(s:Q4)(n:Int)(w:Q9)(I:s.size<=1048576):Calls prog 110 #[Ow s,Z n] w λe a=>e=Q2 (WJ (OA s n))/\Q3 w a:=by
 have t:∀o,Q3 w (w.alloc o):=λo=>LH _ _
 by_cases r:1<=n/\n<=8
 focus
  obtain⟨m,rfl⟩:∃m:Nat,n=(m:Int):=⟨n.toNat,d⟩;have o:decide (1<=(m:Int)/\(m:Int)<=8)=true:=q
  by_cases l:s.size=64
  .by_cases j:rpN (s.extract m 64)<=56-m
   .exact Hq s m w l d d j
   have g:=LV (kf (s:=s) (n:=(m:Int)) (λc=>j (by have:=c.2.2.2.1;rw[DO]at this;omega)))
   have y:(s.size:Int)=64:=d
   obtain⟨b,v⟩:∃b,s.extract m 64=b:=⟨_,z⟩;have x:b.size=64-m:=by rw[<-v];simp only[AQ];omega
   obtain⟨a,G⟩:∃a:Nat,b.size=a:=⟨_,z⟩;have B:7<b.size:=d
   have A:=wu b 7 B;rw[v]at j;obtain⟨N,h⟩:=u ((b.data.toList.getD 7 0).toNat);rw[<-h]at A;have D:(64-(m:Int)-8)<(N:Int):=by have:rpN b=N:=h.symm;omega
   have C:N<=255:=by rw[h];have:=GU (b.data.toList.getD 7 0);omega
   have F:(7:Int)<(a:Int):=d
   have E:m+a=64:=d
   clear x h j;go_enter func110,ntmps110
   go_wp2_with (first|(go_at_call 43;refine(RZ _ _).J ?_;rw[o];rintro e h ⟨rfl,rfl⟩)|(go_at_call 168;refine(ms _ _ d d).J ?_;rintro e h ⟨rfl,rfl⟩))
   refine H (v:=.tuple #[OD 0 0 0 ⟨#[]⟩,Q1 false]) (by simp[results,results110,go_sem]) z ⟨by rw[g.j];rfl,?_⟩;exact t _
  focus
   have g:=LV (kf (s:=s) (n:=(m:Int)) (λc=>l c.2.2.1));have y:((s.size:Int) != 64)=true:=q
   clear l
  rotate_left
 rotate_left
 focus
  have g:=LV (kf (s:=s) (n:=n) (λc=>r ⟨c.1,c.2.1⟩));have o:decide (1<=n/\n<=8)=false:=by simpa using r
  clear r
 rotate_left
 all_goals
  go_enter func110,ntmps110
  go_wp2_with (first|(go_at_call 43;refine(RZ _ _).J ?_;rw[o];rintro e h ⟨rfl,rfl⟩))
  refine H (v:=.tuple #[OD 0 0 0 ⟨#[]⟩,Q1 false]) (by simp[results,results110,go_sem]) z ⟨by rw[g.j];rfl,?_⟩;exact t _
theorem ku{B:Nat}{e:TypeId}{y:Ra}{n b:Nat}{a:List Ra}(h:w.ownsRow B e size y n a)(c:y.ownBlock≠some b)(u:Ra):(w.setCell (Ki b i) u).ownsRow B e size y n a:=BT h c u
theorem tN(X:Q9)(b:Nat)(c:X.heap.size=b)(a:Array Ra)(t:TypeId):∀j u,a.toList[j]?=some u->(X.alloc (.cells a t)).cell? (((Ki b 0):Addr).add j)=some u:=by
 subst c;exact World.news_of_block (AV X _)
theorem Ey(s:Q4)(w:Q9)(hs:s.size<=1048576):Calls prog 233 #[Ow s] w λe a=>ug w a e (XN s):=by
 have bU:∀o,Q3 w (w.alloc o):=λo=>LH _ _
 obtain⟨R,I⟩:=nHz (XN s);rw[<-I.j];obtain⟨i0,a,b,c,g⟩:=xO xF;have HI:=LE (AG a (AG b (AG c g)));clear a b c g;go_enter func233,ntmps233;go_wp2_with fail;go_loopw [4,5] (λy b wr=>∃(a:Nat) (o:List Ch) (r:Q4),b=Ow r/\a+o.length=21/\r.size<=1048576/\Hid (run a r o=run 21 s [])/\Hid (∀c∈o,c.1.size<=1048576/\c.2.1.size<=1048576)/\wr.ownsRow w.heap.size 102 3 y o.length (NL o)/\Q3 w wr) (λ_ b _=>match b with | .string r=>r.size|_=>0)
 case atStart =>
  exact⟨21,[],s,z,z,hs,z,λc l=>(by simp at l),DH _ #[] 0 AA j j,bU _⟩
 case round =>
  obtain⟨a,o,r,rfl,hj,bZ,aX,x,g,b⟩:=hrel;obtain⟨ya,yc,rfl,h⟩:=tR g;have J:=LE g;have D:=LE b;have t:=b.size;have HC:=LE h;clear g b h
  have M:(Y ya o.length yc).ownBlock≠some wr.heap.size:=λh=>by have:=(J.j.lt _ h).2;omega
  have G:Hid (run a r o=some (o,r))->Hid (R=if s.size≠0/\MN o=s then some o else none):=λE=>by
   show _=_;have:=aX.j;rw[E.j]at this;rw[I.j];unfold XN;rw[<-this]
  by_cases h0:0<(r.size:Int)
  focus
   by_cases hl:(o.length:Int)<=20
   .obtain⟨V,rfl⟩:∃V,a=V+1:=⟨a-1,d⟩
    have y:=aX.j;rw[run,A d]at y;have hg:=dt r d;obtain⟨b,U⟩:=nMz (b0 r);have bY:b<=255:=by rw[U];exact ri r
    rw[<-U]at hg;have C:(r.extract 1 r.size).size<=1048576:=by simp only[AQ];omega
    clear G
    cases hp:pc (r.extract 1 r.size) with
    | none =>
     have L:=LE (ml hp)
     have g:Hid (R=none):=by
      show _=_;have e:TM r=none:=by unfold TM;rw[hp]
      rw[e]at y;rw[I.j];unfold XN;rw[<-y]
     clear hp U y
     by_cases bG:b=1
     .subst bG
      go_wp2_with (go_at_call 285;refine(jk _ _ C).J ?_;rw[L.j];rintro e H ⟨rfl,h⟩;have F:=h.size;simp only[BG,BI]at F;obtain⟨Q,N,S,O,T,P⟩:=k3 h wr.heap.size (Ow ⟨#[]⟩) (Ow ⟨#[]⟩) (Q1 true);have B:=LE (D.j.E ((ak h).J t));have K:=LE (MK (J.j.alloc _) h);clear h);go_ret2;rw[g.j];exact bw z (B.j.alloc d _)
     have h:((b:Int) == 1)=false:=q
     go_wp2_with (go_at_call 285;refine(jk _ _ C).J ?_;rw[L.j];rintro e H ⟨rfl,h⟩;have F:=h.size;simp only[BG,BI]at F;obtain⟨Q,N,S,O,T,P⟩:=k3 h wr.heap.size (Ow ⟨#[]⟩) (Ow ⟨#[]⟩) (Q1 false);have B:=LE (D.j.E ((ak h).J t));have K:=LE (MK (J.j.alloc _) h);clear h);go_ret2;rw[g.j];exact bw z (B.j.alloc d _)
    | some p =>
     obtain⟨k,m⟩:=p;have L:=LE (kz hp);have bW:m.size<=1048576:=by have:=rV hp;simp only[AQ]at this;omega
     by_cases bG:b=1
     .have e:TM r=some ((k,empty,true),m):=by unfold TM;rw[hp];simp only;rw[AI d]
      obtain⟨q1,q2,q3⟩:=nG d e;rw[e]at y;have bF:Hid (run V m (o++[(k,empty,true)])=run 21 s []):=y;simp only at q2 q3;clear hp U y e;subst bG
      go_wp2_with (first|(go_at_call 285;refine(jk _ _ C).J ?_;rw[L.j];rintro e H ⟨rfl,h⟩;have F:=h.size;simp only[BG,BI]at F;obtain⟨Q,N,S,O,T,P⟩:=k3 h wr.heap.size (Ow ⟨#[]⟩) (Ow ⟨#[]⟩) (Q1 true);have B:=LE (D.j.E ((ak h).J t));have K:=LE (MK (J.j.alloc _) h);clear h)|(at_builtin;refine SX _ z _ _ 49 z w.heap.size underlying49 HI.j z d _ o.length _ z ((ku K.j M (Ow k)).alloc (.cells #[Ow k,Ow ⟨#[]⟩,Q1 true] 102)) (Ki H.heap.size 0) 1 1 [Ow k,Ow ⟨#[]⟩,Q1 true] z z (tN _ _ j _ _) (mQ _ _ _) q (H.heap.size+1) j ?_;intro ga cap w7 u X aL bH;have bE:=LE u;have aZ:=LE (xy ((B.j.setCell (p:=(Ki wr.heap.size 0)) t (Ow k)).alloc q _) ((ku K.j M (Ow k)).alloc _) X q);clear u X aL))
      refine⟨⟨V,o++[(k,empty,true)],m,z,q,d,bF.j,λc l=>?_,?_,aZ.j⟩,by simp only;omega⟩
      .rcases BZ.1 l with l|l
       .exact x.j c l
       simp at l;subst l;exact⟨by simp only;omega,by simp only;first|omega|simp⟩
      rw[pJ,AK];exact bE.j
     have h:((b:Int) == 1)=false:=q
     have aW:m.size<=1048576:=bW
     cases hq:pc m with
     | none =>
      have HQ:=LE (ml hq)
      have g:Hid (R=none):=by
       show _=_;have e:TM r=none:=by unfold TM;rw[hp];simp only;rw[A d,hq]
       rw[e]at y;rw[I.j];unfold XN;rw[<-y]
      clear hp hq U y
      go_wp2_with (first|(have _g:=B;go_at_call 285;refine(jk _ _ aW).J ?_;rw[HQ.j];rintro e w3 ⟨rfl,l⟩;have aO:=l.size;simp only[BG,BI]at aO;obtain⟨d0,bQ,d1,bR,d2,bT⟩:=k3 l wr.heap.size (Ow k) (Ow ⟨#[]⟩) (Q1 false);have aY:=LE ((B.j.setCell (p:=(Ki wr.heap.size 0)) t (Ow k)).E (l.J ξ));have bC:=LE (MK (ku K.j M (Ow k)) l);clear l Q S T N O P)|(go_at_call 285;refine(jk _ _ C).J ?_;rw[L.j];rintro e H ⟨rfl,h⟩;have F:=h.size;simp only[BG,BI]at F;obtain⟨Q,N,S,O,T,P⟩:=k3 h wr.heap.size (Ow ⟨#[]⟩) (Ow ⟨#[]⟩) (Q1 false);have B:=LE (D.j.E ((ak h).J t));have K:=LE (MK (J.j.alloc _) h);clear h))
      go_ret2;rw[g.j];exact bw z (aY.j.alloc d _)
     | some g =>
      obtain⟨v,m'⟩:=g;have HQ:=LE (kz hq);have e:TM r=some ((k,v,false),m'):=by unfold TM;rw[hp];simp only;rw[A d,hq]
      obtain⟨q1,q2,q3⟩:=nG d e;rw[e]at y;have bF:Hid (run V m' (o++[(k,v,false)])=run 21 s []):=y;simp only at q2 q3;clear hp hq U y e
      go_wp2_with (first|(have _g:=B;go_at_call 285;refine(jk _ _ aW).J ?_;rw[HQ.j];rintro e w3 ⟨rfl,l⟩;have aO:=l.size;simp only[BG,BI]at aO;obtain⟨d0,bQ,d1,bR,d2,bT⟩:=k3 l wr.heap.size (Ow k) (Ow ⟨#[]⟩) (Q1 false);have aY:=LE ((B.j.setCell (p:=(Ki wr.heap.size 0)) t (Ow k)).E (l.J ξ));have bC:=LE (MK (ku K.j M (Ow k)) l);clear l Q S T N O P)|(go_at_call 285;refine(jk _ _ C).J ?_;rw[L.j];rintro e H ⟨rfl,h⟩;have F:=h.size;simp only[BG,BI]at F;obtain⟨Q,N,S,O,T,P⟩:=k3 h wr.heap.size (Ow ⟨#[]⟩) (Ow ⟨#[]⟩) (Q1 false);have B:=LE (D.j.E ((ak h).J t));have K:=LE (MK (J.j.alloc _) h);clear h)|(at_builtin;refine SX _ z _ _ 49 z w.heap.size underlying49 HI.j z d _ o.length _ z ((ku bC.j M (Ow v)).alloc (.cells #[Ow k,Ow v,Q1 false] 102)) (Ki w3.heap.size 0) 1 1 [Ow k,Ow v,Q1 false] z z (tN _ _ j _ _) (mQ _ _ _) q (w3.heap.size+1) j ?_;intro ga cap w7 u X aL bH;have bE:=LE u;have aZ:=LE (xy ((aY.j.setCell (p:=(Ki wr.heap.size 1)) t (Ow v)).alloc q _) ((ku bC.j M (Ow v)).alloc _) X q);clear u X aL))
      refine⟨⟨V,o++[(k,v,false)],m',z,q,d,bF.j,λc l=>?_,?_,aZ.j⟩,by simp only;omega⟩
      .rcases BZ.1 l with l|l
       .exact x.j c l
       simp at l;subst l;exact⟨by simp only;omega,by simp only;first|omega|simp⟩
      rw[pJ,AK];exact bE.j
   focus
    have y:a=0:=d
    subst y;have g:=G z;clear G aX
    by_cases l:s.size=0
    .have c:((s.size:Int) == 0)=true:=by rw[beq_iff_eq];omega
     rw[A (λE=>E.1 l)]at g;go_wp2;go_ret2;rw[g.j];exact bw z (D.j.alloc t _)
    focus
     have c:((s.size:Int) == 0)=false:=by rw[BL];omega
     by_cases hF:MN o=s
     .rw[AI ⟨l,hF⟩]at g
      have b:=LE hF;clear hF;go_wp2_with (go_at_call 176;refine(jz _ o _ _ HC.j d x.j).J ?_;rw[b.j];rintro e H ⟨rfl,h⟩);go_ret2;rw[g.j];exact pU (MK J.j h) z (D.j.E (h.J t))
     focus
     rotate_left
    rotate_left
   rotate_left
  rotate_left
  focus
   have g:=G (by show _=_;exact Dg _ _ _ d);clear G aX
   by_cases l:s.size=0
   .have c:((s.size:Int) == 0)=true:=by rw[beq_iff_eq];omega
    rw[A (λE=>E.1 l)]at g;go_wp2;go_ret2;rw[g.j];exact bw z (D.j.alloc t _)
   focus
    have c:((s.size:Int) == 0)=false:=by rw[BL];omega
    by_cases hF:MN o=s
    .rw[AI ⟨l,hF⟩]at g
     have b:=LE hF;clear hF;go_wp2_with (go_at_call 176;refine(jz _ o _ _ HC.j d x.j).J ?_;rw[b.j];rintro e H ⟨rfl,h⟩);go_ret2;rw[g.j];exact pU (MK J.j h) z (D.j.E (h.J t))
    focus
    rotate_left
   rotate_left
  rotate_left
  all_goals
   rw[A (λE=>hF E.2)]at g;obtain⟨b,v⟩:=nHz (MN o);have B:(!b.toList == s.toList)=true:=by rw[v.j];simp only[KM,BL];intro E;rw[CZ,CZ]at E;exact hF (EV (IH E))
   clear hF;go_wp2_with (go_at_call 176;refine(jz _ o _ _ HC.j d x.j).J ?_;rw[<-v.j];rintro e H ⟨rfl,h⟩);go_ret2;rw[g.j];exact bw z ((D.j.E (h.J t)).alloc (by have:=h.size;omega) _)
section
@[reducible] def qe(a b:Ra)(frm size n:Int):Ra:=.agg #[.iface 299 (.agg #[a,b]),Z frm,Z size,Z n]
abbrev Pgs(S:Nat->Q4)(frm:Nat)(n:Int)(size:Nat):Type:={ x:Nat // x<size/\(OA (S (frm+x)) n).isSome=true }
def VP(S:Nat->Q4)(frm:Nat)(n:Int)(x:Nat):Int×Int×Int×Q4:=(OA (S (frm+x)) n).getD (0,0,0,empty)
theorem wj{S:Nat->Q4}(x:Pgs S frm n size){l:Int}(h:VP S frm n x.1=(k,l,m,p)):OA (S (frm+x.1)) n=some (k,l,m,p):=by
 unfold VP at h;obtain⟨y,a⟩:=II.1 x.2.2;rw[a]at h⊢;simp at h;rw[h]
def Good{S:Nat->Q4}{frm:Nat}{n:Int}{size:Nat}(u:Nat)(a:List (Pgs S frm n size)):Prop:=a.map Subtype.val=List.range' u a.length
theorem Good.nil{S:Nat->Q4}(u:Nat):Good u ([]:List (Pgs S frm n size)):=rfl
theorem Good.snoc{S:Nat->Q4}{u:Nat}{a:List (Pgs S frm n size)}{x:Pgs S frm n size}(h:Good u (a++[x])):Good u a/\x.1=u+a.length:=by
 unfold Good at h⊢;rw[DC,AK,EJ,List.range'_concat]at h;have:=List.append_inj h σ;exact⟨this.1,by simpa using this.2⟩
theorem Good.push{S:Nat->Q4}{u:Nat}{a:List (Pgs S frm n size)}{x:Pgs S frm n size}(h:Good u a)(b:x.1=u+a.length):Good u (a++[x]):=by
 unfold Good at h⊢;rw[DC,AK,EJ,List.range'_concat,h];simp[b]
def Chn{S:Nat->Q4}{frm:Nat}{n:Int}{size:Nat}(first:Int)(c:Scd)(u:Nat)(a:List (Pgs S frm n size))(wk wl:Int)(op:Q4)(b:Scd):Prop :=Good u a->u+a.length<=size/\OV S frm first n (size-(u+a.length)) (u+a.length) wk wl op b=c
section
variable {S:Nat->Q4} {frm:Nat} {n:Int} {size:Nat} {first:Int} {RES:Scd} {u:Nat} {pre:List (Pgs S frm n size)} {x:Pgs S frm n size} {wk wl k l m:Int} {p op:Q4} {out:Scd}
theorem pE{x:Nat}(b:0<=m/\m<=4294967296)(a:-9223372036854775808<=first/\first<=9223372036854775807):IntKind.i64.wrap (m-(x:Int))=first<->m=IntKind.i64.wrap (first+(x:Int)):=by
 simp[IntKind.wrap,IntKind.bits,IntKind.signed];omega
theorem Chn.no(h:Chn first RES u pre wk wl op out)(j:VP S frm n x.1=(k,l,m,p))(d:-9223372036854775808<=first/\first<=9223372036854775807)(g:¬(m=IntKind.i64.wrap (first+(x.1:Int))/\RW wk wl k l=true))(e:Good u (pre++[x])):out=RES:=by
 obtain⟨b,o⟩:=e.snoc;obtain⟨q,c⟩:=h b;have a:=wj x j;have r:=XL a;rw[<-c,<-o];refine(ze a ?_).symm;rw[pE ω d];exact g
theorem Chn.part(h:Chn first RES u pre wk wl op out)(o:VP S frm n x.1=(1,l,m,p))(g:-9223372036854775808<=first/\first<=9223372036854775807)(d:m=IntKind.i64.wrap (first+(x.1:Int)))(c:RW wk wl 1 l=true):Chn first RES u (pre++[x]) 1 l (op++p) out:=by
 intro j;obtain⟨b,q⟩:=j.snoc;obtain⟨s,e⟩:=h b;have a:=wj x o;have t:=XL a;have r:=x.2.1;rw[AK,EJ];refine⟨ω,?_⟩;rw[<-e,show size-(u+pre.length)=(size-(u+(pre.length+1)))+1 by omega,<-q,uI a ((pE ω g).2 d) c,show u+(pre.length+1)=x.1+1 by omega]
theorem Chn.end(h:Chn first RES u pre wk wl op out)(q:VP S frm n x.1=(k,l,m,p))(g:-9223372036854775808<=first/\first<=9223372036854775807)(d:m=IntKind.i64.wrap (first+(x.1:Int)))(c:RW wk wl k l=true)(o:k≠1)(j:Good u (pre++[x])):Chn first RES (x.1+1) ([]:List (Pgs S frm n size)) k l empty (if k=2 then out.1++[op++p] else out.1,(x.1:Int)+1,l):=by
 intro _;obtain⟨b,r⟩:=j.snoc;obtain⟨t,e⟩:=h b;have a:=wj x q;have v:=XL a;have s:=x.2.1;refine⟨τ,?_⟩;rw[<-e,show size-(u+pre.length)=(size-(x.1+1))+1 by omega,<-r,qQ a ((pE ω g).2 d) c o];simp
theorem Chn.done(h:Chn first RES u pre wk wl op out)(c:Good u pre)(a:size<=u+pre.length\/OA (S (frm+(u+pre.length))) n=none):out=RES:=by
 obtain⟨d,b⟩:=h c;rw[<-b];rcases a with a|a
 .rw[show size-(u+pre.length)=0 by omega];rfl
 exact(wR a).symm
end
end
theorem Dp(y b:Int)(h:0<=y)(j:y<=1099511627776)(c:0<=b)(g:b<=255):bits .or .u64 (IntKind.u64.wrap (y*256)) (IntKind.u64.wrap b)=y*256+b:=by
 rw[dj _ d d,dj _ d d];obtain⟨a,rfl⟩:∃a:Nat,y=(a:Int):=⟨y.toNat,d⟩;obtain⟨C,rfl⟩:∃C:Nat,b=(C:Int):=⟨b.toNat,d⟩;have e:((a:Int)*256)=((256*a:Nat):Int):=d
 rw[e,bits_or_u64_nat _ _ d d];have:=Nat.two_pow_add_eq_or_of_lt (i:=8) (b:=C) d a;simp only[Nat.reducePow]at this;rw[<-this];omega
theorem oM(s:Q4)(a:TypeId)(v:Ra)(w:Q9)(hv:w.cell? (Ki 7 0)=some (.iface a v)):Calls prog 222 #[Ow s] w λe b=>e=Q2 (.iface 198 (Dr w.heap.size 0))/\b=w.alloc (.cells #[Ow s,.iface a v] 316):=by
 go_enter func222,ntmps222;go_wp2;go_ret;exact⟨z,z⟩
theorem Cm(F o:Nat)(a:List Int)(c:Nat)(w:Q9)(D:∀y∈a,0<=y/\y<=255)(H:a.length<=4)(q:∀i,i<a.length->w.cell? (Ki F (o+i))=some (.int .u8 (a.getD i 0))):Calls prog 223 #[Y (Hw F o) a.length c] w λe b=>e=Q2 (.int .u64 (NV a))/\b=w:=by
 have r:=LV q;clear q;go_enter func223,ntmps223;go_wp2;go_loop [3,5,8] (λx _ i=>∃(k:Nat) (y:Int),k<=a.length/\i=Z (k:Int)/\x=.int .u64 y/\Hid (y=NV (a.take k))/\0<=y/\Hid (y<(256:Int) ^ k)) (λ_ _ i=>a.length-(intOf i).toNat)
 case atStart=>exact⟨0,0,AL,z,z,by show _=_;simp[NV],d,by show _<_;simp⟩
 case round =>
  obtain⟨k,y,G,rfl,rfl,j,C,l⟩:=hrel
  by_cases e:k<a.length
  .have B:=r.j k e
   obtain⟨b,g⟩:∃b,a.getD k 0=b:=⟨_,z⟩;rw[g]at B;obtain⟨v,x⟩:0<=b/\b<=255:=by rw[<-g];exact D _ (by simp[List.getD,e])
   have E:(k:Int)<(a.length:Int):=d
   have t:(256:Int) ^ k<=16777216:=by
    have:k=0\/k=1\/k=2\/k=3:=d
    rcases this with h|h|h|h<;>rw[h]<;>decide
   have s:Hid (y*256+b=NV (a.take (k+1))):=by
    show _=_;rw[BJ e,vn,<-j.j,<-g];simp[List.getD,e]
   have h:=Dp y b C (by have:=l.j;omega) v x;have u:Hid (bits .or .u64 (IntKind.u64.wrap (y*256)) b=y*256+b):=by show _=_;rw[dj b d d]at h;exact h
   have A:0<=y*256+b:=d
   clear h;have h:Hid (y*256+b<(256:Int) ^ (k+1)):=by show _<_;rw[LC];have:=l.j;omega
   clear g t;go_wp2;go_round
   case rel=>exact⟨k+1,y*256+b,d,ν,BD _ u.j,s.j,A,h.j⟩
   case measure=>simp[intOf];omega
  go_wp2
  go_ret;refine⟨yV ?_,z⟩;rw[j.j,AS d]
def ix(E:Addr)(o:Option (Int×Int×Int×Q4)):Ra:=match o with
 | none=>.tuple #[OD 0 0 0 ⟨#[]⟩,.iface 198 (.pointer (some E))]
 | some (k,l,m,p)=>.tuple #[OD k l m p,.nilIface]
theorem ju(F:Nat)(a:List Int)(l:Hid (∀y∈a,0<=y/\y<=255))(o k c:Nat)(s:k<=4)(t:o+k<=a.length)(w:Q9)(j:Fm w F a)(V:Int)(g:V=NV ((a.drop o).take k)):Calls prog 223 #[Y (Hw F o) k c] w λe b=>e=Q2 (.int .u64 V)/\b=w:=by
 have e:((a.drop o).take k).length=k:=q
 have h:=Cm F o ((a.drop o).take k) c w (λy r=>l.j y (FA (DR r))) d (λi b=>by
  rw[j.cell (o+i) d];rw[e]at b
  simp[List.getD,GM b,FE])
 rw[e,<-g]at h;exact h
theorem Mv(s:Q4)(n:Int)(w:Q9)(a:TypeId)(v:Ra)(hv:w.cell? (Ki 7 0)=some (.iface a v))(h:7<w.heap.size)(b:¬(1<=n/\n<=8)):Calls prog 157 #[Ow s,Z n] w λe c=>(∃E,e=Q2 (ix E none))/\Q3 w c:=by
 have g:decide (1<=n/\n<=8)=false:=by simpa using b
 have d:∀o c,Q3 w ((w.alloc o).alloc c):=λo c=>(LH _ _).alloc j _
 have c:∀o,(w.alloc o).cell? (Ki 7 0)=some (.iface a v):=λo=>(ES _ _ _ (by exact h)).E hv
 clear b;go_enter func157,ntmps157
 go_wp2_with (first|(go_at_call 27;refine(TX _ _).J ?_;rw[g];rintro e l ⟨rfl,rfl⟩)|(go_at_call 222;refine(oM _ a v _ (c _)).J ?_;rintro e l ⟨rfl,rfl⟩))
 refine H (v:=.tuple #[OD 0 0 0 ⟨#[]⟩,.iface 198 (Dr (w.heap.size+1) 0)]) (by simp[results,results157,go_sem]) z ⟨⟨_,z⟩,?_⟩;exact d _ _
theorem L6(s:Q4)(n:Int)(w:Q9)(a:TypeId)(v:Ra)(hv:w.cell? (Ki 7 0)=some (.iface a v))(h:7<w.heap.size)(b:1<=n/\n<=8)(l:s.size≠64):Calls prog 157 #[Ow s,Z n] w λe c=>(∃E,e=Q2 (ix E none))/\Q3 w c:=by
 have g:decide (1<=n/\n<=8)=true:=by simpa using b
 have r:((s.size:Int) != 64)=true:=q
 have d:∀o c,Q3 w ((w.alloc o).alloc c):=λo c=>(LH _ _).alloc j _
 have c:∀o,(w.alloc o).cell? (Ki 7 0)=some (.iface a v):=λo=>(ES _ _ _ (by exact h)).E hv
 clear b l;go_enter func157,ntmps157
 go_wp2_with (first|(go_at_call 27;refine(TX _ _).J ?_;rw[g];rintro e o ⟨rfl,rfl⟩)|(go_at_call 222;refine(oM _ a v _ (c _)).J ?_;rintro e o ⟨rfl,rfl⟩))
 refine H (v:=.tuple #[OD 0 0 0 ⟨#[]⟩,.iface 198 (Dr (w.heap.size+1) 0)]) (by simp[results,results157,go_sem]) z ⟨⟨_,z⟩,?_⟩;exact d _ _
structure RB(W w:Q9):Prop where
 size:W.heap.size+1<=w.heap.size
 bel:Q3 W w
 c0:w.cell? (Ki W.heap.size 0)=some (Z 0)
 c1:w.cell? (Ki W.heap.size 1)=some (Z 0)
 c2:w.cell? (Ki W.heap.size 2)=some (Z 0)
 c3:w.cell? (Ki W.heap.size 3)=some (Ow ⟨#[]⟩)
 f0:w.frozen? (Ki W.heap.size 0)=false
 f1:w.frozen? (Ki W.heap.size 1)=false
 f2:w.frozen? (Ki W.heap.size 2)=false
 f3:w.frozen? (Ki W.heap.size 3)=false
theorem RB.I{d:Q9}(h:RB W w)(a:Q3 w d):RB W d:=by
 have e:=h.size
 have b:∀i,d.cell? (Ki W.heap.size i)=w.cell? (Ki W.heap.size i):=λi=>a.cell (p:=(Ki W.heap.size i)) (by show W.heap.size<_;omega)
 have c:∀i,d.frozen? (Ki W.heap.size i)=w.frozen? (Ki W.heap.size i):=λi=>a.frozen (p:=(Ki W.heap.size i)) (by show W.heap.size<_;omega)
 exact⟨AJ e a.size,h.bel.E (a.J ω),(b _).E h.c0,(b _).E h.c1,(b _).E h.c2,(b _).E h.c3,(c _).E h.f0,(c _).E h.f1,(c _).E h.f2,(c _).E h.f3⟩
theorem RB.drew(h:RB W w):RB W w.drew:=⟨h.size,h.bel.drew,h.c0,h.c1,h.c2,h.c3,h.f0,h.f1,h.f2,h.f3⟩
theorem RB.alloc(h:RB W w)(o:Obj):RB W (w.alloc o):=h.I (LH _ _)
theorem RB.new(W:Q9)(t:TypeId):RB W (W.alloc (.cells #[Z 0,Z 0,Z 0,Ow ⟨#[]⟩] t)):=by
 refine⟨σ,LH _ _,?_,?_,?_,?_,?_,?_,?_,?_⟩<;>first|(simp;done)|(rw[DU];exact de _ _ _ AA)
theorem yv(s:Q4)(a:TypeId)(v:Ra)(w:Q9)(hv:w.cell? (Ki 7 0)=some (.iface a v)):Calls prog 222 #[Ow s] w λe b=>(∃E,e=Q2 (.iface 198 (.pointer (some E))))/\Q3 w b :=(oM s a v w hv).J λe b h=>⟨⟨_,h.1⟩,by rw[h.2];exact LH _ _⟩
set_option maxRecDepth 4000 in
theorem Gs(s:Q4)(n N:Nat)(w:Q9)(t:TypeId)(v:Ra)(hv:w.cell? (Ki 7 0)=some (.iface t v))(X:7<w.heap.size)(r:s.size=64)(h1:1<=n)(h2:n<=8)(B:(N:Int)=NV (((LF s).drop (n+7)).take 1))(x:56<N+n)(H:N<=255):Calls prog 157 #[Ow s,Z (n:Int)] w λe a=>(∃E,e=Q2 (ix E none))/\Q3 w a:=by
 have V:decide (1<=(n:Int)/\(n:Int)<=8)=true:=τ
 have aU:(s.size:Int)=64:=d
 have aQ:∀o,Q3 w (w.alloc o):=λo=>LH _ _
 have Q:∀a,Q3 w a->a.cell? (Ki 7 0)=some (.iface t v):=λa b=>(b.cell (p:=(Ki 7 0)) X).E hv
 obtain⟨c,j⟩:=nHz (LF s);have l:c.length=64:=by rw[j.j,NK];exact r
 have aV:(c.map (Value.int .u8)).toArray.size=64:=by simp[l]
 have M:Hid (∀y∈c,0<=y/\y<=255):=by rw[j.j];exact mq s
 have I:=LV r;clear r
 have O:=λg F=>ux (P:=prog) (t:=121) underlying121 (λ_=>κ) g 0 n d .i64 (n:Int) z F
 obtain⟨a,h⟩:∃a,64-n=a:=⟨_,z⟩;rw[h]at O;have aT:(8:Int)<=(a:Int):=d
 have aS:(7:Int)<=(a:Int):=d
 have G:Hid ((N:Int)=NV ((c.drop (n+7)).take 1)):=by rw[j.j];exact LV B
 clear B;have aR:(64-(n:Int)-8)<(N:Int):=d
 go_enter func157,ntmps157
 go_wp2_with (first|(go_at_call 27;refine(TX _ _).J ?_;rw[V];rintro e D ⟨rfl,rfl⟩)|(go_at_call 224;refine(nH _ _ d d).J ?_;rintro e q ⟨rfl,rfl⟩)|(go_at_call 196;refine(om s _ I.j).J ?_;rw[<-j.j];rintro e D ⟨rfl,o⟩;have J:=LV ((RB.new w _).I o);clear o)|(refine lQ z 121 _ _ z c z z _ _ (.int .u8 0) (by rw[l];rfl) (by rw[l];kernel_rfl) ?_;intro F A y P;have K:=LV A;clear A;have g:=LV (J.j.I y);clear y P)|(go_at_call 223;refine(ju D.heap.size c M (n+7) 1 _ d d _ K.j (N:Int) G.j).J ?_;rintro e q ⟨rfl,rfl⟩)|(go_at_call 222;refine(yv _ t v _ (Q _ g.j.bel)).J ?_;rintro e w4 ⟨⟨E,rfl⟩,u⟩;have b:=g.j.I u;clear u;have R:=b.c0;have S:=b.c1;have T:=b.c2;have U:=b.c3;have f0:=b.f0;have f1:=b.f1;have f2:=b.f2;have f3:=b.f3;have L:=LV b;clear b))
 refine AE (v:=.tuple #[OD 0 0 0 ⟨#[]⟩,.iface 198 (.pointer (some E))]) (by simp[results,results157,go_sem,R,S,T,U]) z ⟨⟨E,z⟩,?_⟩;exact(((L.j.bel.setCell C _).setCell C _).setCell C _).setCell C _
