import Derived.Test.YtkdedmclofhndaaGreatDoorPrRpS
import Derived.Test.YtkdedmclofhndaaGreatDoorPrG23
import Derived.Test.YtkdedmclofhndaaGreatDoorPrFbS
import Derived.Laws.Bits64b
import Derived.Test.YtkdedmclofhndaaGreatDoorPrG28
set_option maxHeartbeats 16000000
set_option maxRecDepth 8000
set_option linter.all false
namespace Go.Proofs.YtkdedmclofhndaaGreatDoor
open _root_.ByteArray(empty)
open Tryz
open Go.RowKit
variable {op p:yZ}{first k m n wk wl:Int}{f frm i size:Nat}{W w:xV}
theorem gj(r:yZ):∀y∈LF r,0<=y/\y<=255:=by
 intro y a;unfold LF at a;obtain⟨c,_,rfl⟩:=DT.1 a;have:=IJ c;omega
theorem jf(b:yZ)(i j:Nat):LF (b.extract i j)=((LF b).take j).drop i:=by
 unfold LF;rw[<-GS,<-KS,IL,JV];simp[List.extract,FT]
theorem YZ:∀(k:Nat) (a:List Int),a.length=k->(∀y∈a,0<=y/\y<=255)->0<=MY a/\MY a<(256:Int) ^ k:=by
 intro k
 induction k with
 | zero=>intro a b _;have:a=[]:=AD b;subst this;simp[MY]
 | succ k g =>
  intro a b d;have c:a≠[]:=by intro h;subst h;simp at b
  have e:=JZ c;have j:=g a.dropLast τ (λy h=>d y (List.dropLast_subset _ h));have l:=d _ (List.getLast_mem c);rw[<-e,pz,LC];omega
theorem pD(y:Int):MY [y]=y:=by simp[MY]
theorem I0(s:yZ)(n:Nat)(e:s.size=64)(j:n<=8){b:yZ}(d:b=s.extract n 64):(rpN b:Int)=MY (((LF s).drop (n+7)).take 1)/\UF b=MY (((LF s).drop n).take 1)/\UG b=MY (((LF s).drop (n+1)).take 2)/\UH b=MY (((LF s).drop (n+3)).take 4)/\TR b=strOfNums (((LF s).drop (n+8)).take (rpN b)):=by
 have a:LF b=(LF s).drop n:=by rw[d,jf,AR (by rw[MR];omega)]
 have g:b.data.toList.length=64-n:=by have:=MR s;have h:=BC List.length a;rw[BQ,MR,MR,e]at h;exact h
 have c:∀i,i<64-n->MY (((LF s).drop (n+i)).take 1)=((b.data.toList.getD i 0).toNat:Int):=λi l=>by
  rw[<-GN,<-a];unfold LF;rw[<-KS,<-GS,FR ω];simp only[KD,FV,FU,JN,pD];rw[BF,AO ω];rfl
 refine⟨?_,?_,?_,?_,?_⟩
 ·rw[c 7 ω];rfl
 ·have:=c 0 ω;rw[IN]at this;rw[this];rfl
 ·unfold UG;rw[jf,a];simp[FT,GN]
 ·unfold UH;rw[jf,a];simp[FT,GN]
 unfold TR
 rw[<-UA (b.extract 8 (8+rpN b)),jf,a];simp[FT,GN]
abbrev RtT:=Int×Int×Int×Int
def RL(p:yZ):Int:=MY ((LF p).take 1)
def QW(p:yZ):Int:=MY (((LF p).drop 1).take 4)
def NT(s:yZ)(a n:Int):Option RtT :=match NB s n with
 | none=>none
 | some (_,l,m,p)=>if p.size=5/\OS m (RL p) (QW p) l n=s/\m % 2=a then some (m,RL p,QW p,l) else none
theorem UJ{s:yZ}{l:Int}(h:NB s n=some (k,l,m,p)):s.size=64/\MJ k l m p n=s/\1<=m/\m<=1000000000/\1<=l/\l<=60000/\p.size<=64:=by
 unfold NB at h
 split at h
 ·rename_i d
  obtain⟨e,g,b,j,a⟩:=d;simp only[EX,EJ]at h;obtain⟨rfl,rfl,rfl,rfl⟩:=h;refine⟨b,a,?_⟩
  have c:NC (UF (s.extract n.toNat 64)) (UG (s.extract n.toNat 64)) (UH (s.extract n.toNat 64)) (TR (s.extract n.toNat 64)) n=true:=by
   cases hc:NC (UF (s.extract n.toNat 64)) (UG (s.extract n.toNat 64)) (UH (s.extract n.toNat 64)) (TR (s.extract n.toNat 64)) n with
   | true=>rfl
   | false =>
    exfalso;unfold MJ at a;rw[hc,AF σ]at a;rw[<-a]at b;exact absurd b δ
  have o:=AW (by unfold NC at c;exact c);omega
 cases h
theorem zw{s:yZ}{a:Int}{x:RtT}(h:NT s a n=some x):1<=x.1:=by
 unfold NT at h
 split at h
 ·cases h
 rename_i k l m p b
 split at h
 ·simp only[EX]at h
  subst h;exact(UJ b).2.2.1
 cases h
def TL(b:RtT)(o:Option RtT):RtT:=match o with
 | none=>b
 | some r=>if b.1<r.1 then r else b
def ik(a b:yZ)(n:Int):RtT:=TL (TL (0,0,1,0) (NT a 0 n)) (NT b 1 n)
def MT:RtT:=(0,0,0,0)
def QM(b r:RtT):RtT:=if b.1<r.1 then r else b
theorem Gl(d b:yZ)(n:Int):(if QM (QM MT ((NT d 0 n).getD MT)) ((NT b 1 n).getD MT)=MT then ((0,0,1,0):RtT) else QM (QM MT ((NT d 0 n).getD MT)) ((NT b 1 n).getD MT))=ik d b n:=by
 unfold ik
 cases h0:NT d 0 n with
 | none =>
  cases h1:NT b 1 n with
  | none=>simp[QM,MT,TL]
  | some y =>
   have:=zw h1;obtain⟨a,q,r,s⟩:=y;have e:(0:Int)<a:=by show 0<a;have:1<=a:=this;omega
   have c:¬a=0:=ω
   simp[QM,MT,TL,e,c]
 | some x =>
  have l:=zw h0;obtain⟨c,t,u,v⟩:=x;have g:(0:Int)<c:=by have:1<=c:=l;omega
  have e:¬c=0:=ω
  cases h1:NT b 1 n with
  | none =>
   have a:¬c<0:=ω
   simp[QM,MT,TL,g,e,a]
  | some y =>
   have o:=zw h1;obtain⟨a,q,r,s⟩:=y;have h:¬a=0:=by have:1<=a:=o;omega
   by_cases j:c<a
   ·simp[QM,MT,TL,g,e,j,h]
   simp[QM,MT,TL,g,e,j,h]
def QE(wk wl k l:Int):Bool:=decide (wl<=l) && (if k=3 then decide (wk≠1) else (decide (k=1) || decide (k=2)) && (decide (wk≠1) || decide (wl=l)))
abbrev Scd:=List yZ×Int×Int
def NW(S:Nat->yZ)(frm:Nat)(first n:Int):Nat->Nat->Int->Int->yZ->Scd->Scd
 | 0,_,_,_,_,out=>out
 | f+1,i,wk,wl,op,out =>
  match NB (S (frm+i)) n with
  | none=>out
  | some (k,l,m,p)=>if IntKind.i64.wrap (m-(i:Int))=first/\QE wk wl k l=true then
    (if k=1 then NW S frm first n f (i+1) k l (op++p) out
     else NW S frm first n f (i+1) k l empty (if k=2 then out.1++[op++p] else out.1,(i:Int)+1,l))
   else out
theorem tM{S:Nat->yZ}{a:Scd}(h:NB (S (frm+i)) n=none):NW S frm first n f i wk wl op a=a:=by
 cases f with
 | zero=>rfl
 | succ f=>rw[NW,h]
theorem tp{S:Nat->yZ}{l:Int}{a:Scd}(h:NB (S (frm+i)) n=some (k,l,m,p))(b:¬(IntKind.i64.wrap (m-(i:Int))=first/\QE wk wl k l=true)):NW S frm first n f i wk wl op a=a:=by
 cases f with
 | zero=>rfl
 | succ f=>rw[NW,h];simp only;rw[AF b]
theorem qJ{S:Nat->yZ}{l:Int}{a:Scd}(h:NB (S (frm+i)) n=some (1,l,m,p))(c:IntKind.i64.wrap (m-(i:Int))=first)(b:QE wk wl 1 l=true):NW S frm first n (f+1) i wk wl op a=NW S frm first n f (i+1) 1 l (op++p) a:=by
 rw[NW,h];simp only;rw[AI ⟨c,b⟩,AI trivial]
theorem nN{S:Nat->yZ}{l:Int}{out:Scd}(h:NB (S (frm+i)) n=some (k,l,m,p))(c:IntKind.i64.wrap (m-(i:Int))=first)(a:QE wk wl k l=true)(b:k≠1):NW S frm first n (f+1) i wk wl op out=NW S frm first n f (i+1) k l empty (if k=2 then out.1++[op++p] else out.1,(i:Int)+1,l):=by
 rw[NW,h];simp only;rw[AI ⟨c,a⟩,AF b]
def WD(wk wl k l:Int):Bool:=if k=1\/k=2 then (decide (l=wl) || (!decide (wk=1) && decide (wl<l))) else if k=3 then decide (wl<=l) && !decide (wk=1) else false
theorem Mf(wk wl k l:Int):WD wk wl k l=QE wk wl k l:=by
 unfold WD QE;rw[JB]
 by_cases b:k=3
 ·subst b
  simp
 by_cases a:k=1\/k=2
 ·have c:(decide (k=1) || decide (k=2))=true:=by simpa using a
  rw[AI a,AF b,c]
  by_cases d:wk=1
  ·subst d;simp;omega
  simp[d];omega
 have c:(decide (k=1) || decide (k=2))=false:=by simpa using a
 rw[AF a,AF b,AF b,c];simp
theorem Ib(S:Nat->yZ)(frm:Nat)(first n:Int)(f i:Nat)(wl:Int)(op:yZ)(a:Scd):NW S frm first n f i 2 wl op a=NW S frm first n f i 0 wl op a:=by
 cases f with
 | zero=>rfl
 | succ f =>
  rw[NW,NW]
  have:∀k l,QE 2 wl k l=QE 0 wl k l:=λk l=>by unfold QE;simp
  simp only[this]
theorem mH(S:Nat->yZ)(frm:Nat)(first n:Int):∀(f i:Nat) (wk wl:Int) (op:yZ) (out:Scd) (B:Nat),op.size+64*f<=B->(∀e∈out.1,e.size<=B)->(∀e∈(NW S frm first n f i wk wl op out).1,e.size<=B)/\(NW S frm first n f i wk wl op out).1.length<=out.1.length+f
 | 0,i,wk,wl,op,out,B,_,h2=>⟨h2,by simp[NW]⟩
 | f+1,i,wk,wl,op,out,B,h1,h2=>by
  rw[NW]
  split
  ·exact⟨h2,ω⟩
  rename_i k l m p hp
  have hps:=(UJ hp).2.2.2.2.2.2
  split
  ·split
   ·have:=mH S frm first n f (i+1) k l (op++p) out B (by rw[BW];omega) h2
    exact⟨this.1,ω⟩
   have:=mH S frm first n f (i+1) k l empty (if k=2 then out.1++[op++p] else out.1,(i:Int)+1,l) B (by show 0+_<=_;omega) (by
    intro e he;simp only at he
    split at he
    ·rw[BZ]at he
     rcases he with he|he
     ·exact h2 e he
     simp at he;subst he;rw[BW];omega
    ·exact h2 e he)
   refine⟨this.1,AJ this.2 ?_⟩;simp only
   split
   ·simp;omega
   omega
  exact⟨h2,ω⟩
theorem vr(S:Nat->yZ)(frm:Nat)(first n:Int):∀(f i:Nat) (wk wl:Int) (op:yZ) (out:Scd),(0<=out.2.1/\out.2.1<=(i:Int))->0<=(NW S frm first n f i wk wl op out).2.1/\(NW S frm first n f i wk wl op out).2.1<=(i:Int)+f
 | 0,i,wk,wl,op,out,h=>by rw[NW];omega
 | f+1,i,wk,wl,op,out,h=>by
  rw[NW]
  split
  ·omega
  rename_i k l m p hp
  split
  ·split
   ·have:=vr S frm first n f (i+1) k l (op++p) out ω
    omega
   have:=vr S frm first n f (i+1) k l empty (if k=2 then out.1++[op++p] else out.1,(i:Int)+1,l) (by show 0<=(i:Int)+1/\(i:Int)+1<=_;omega)
   omega
  omega
theorem xu(S:Nat->yZ)(frm:Nat)(first n:Int):∀(f i:Nat) (wk wl:Int) (op:yZ) (out:Scd),(NW S frm first n f i wk wl op out).2.2=out.2.2\/(1<=(NW S frm first n f i wk wl op out).2.2/\(NW S frm first n f i wk wl op out).2.2<=60000)
 | 0,i,wk,wl,op,out=>.inl rfl
 | f+1,i,wk,wl,op,out=>by
  rw[NW]
  split
  ·exact .inl rfl
  rename_i k l m p hp
  have hl:=UJ hp
  split
  ·split
   ·exact xu S frm first n f (i+1) k l (op++p) out
   rcases xu S frm first n f (i+1) k l empty (if k=2 then out.1++[op++p] else out.1,(i:Int)+1,l) with h|h
   ·right
    rw[h];show 1<=l/\l<=60000;omega
   exact .inr h
  exact .inl rfl
theorem ux(s:yZ)(n:Int)(w:xV)(D:s.size<=1048576):Calls prog 86 #[yQ s,Z n] w λe a=>e=yT (TS (NB s n))/\yX w a:=by
 have r:∀o,yX w (w.alloc o):=λo=>LG _ _
 by_cases l:1<=n/\n<=8
 focus
  obtain⟨m,rfl⟩:∃m:Nat,n=(m:Int):=⟨n.toNat,ω⟩;have j:decide (1<=(m:Int)/\(m:Int)<=8)=true:=τ
  by_cases h:s.size=64
  ·by_cases g:rpN (s.extract m 64)<=56-m
   ·exact Fi s m w h ω ω g
   have c:=LQ (df (s:=s) (n:=(m:Int)) (λa=>g (by have:=a.2.2.2.1;rw[DS]at this;omega)))
   have u:(s.size:Int)=64:=ω
   obtain⟨b,o⟩:∃b,s.extract m 64=b:=⟨_,rfl⟩;have t:b.size=64-m:=by rw[<-o];simp only[AQ];omega
   obtain⟨q,C⟩:∃q:Nat,b.size=q:=⟨_,rfl⟩;have x:7<b.size:=ω
   have v:=qr b 7 x;rw[o]at g;obtain⟨N,d⟩:∃N,N=(b.data.toList.getD 7 0).toNat:=⟨_,rfl⟩;rw[<-d]at v;have z:(64-(m:Int)-8)<(N:Int):=by have:rpN b=N:=d.symm;omega
   have y:N<=255:=by rw[d];have:=IJ (b.data.toList.getD 7 0);omega
   have B:(7:Int)<(q:Int):=ω
   have A:m+q=64:=ω
   clear t d g;go_enter func86,ntmps86
   go_wp2_with (first|(go_at_call 24;refine(QH _ _).J ?_;rw[j];rintro e d ⟨rfl,rfl⟩)|(go_at_call 131;refine(gk _ _ ω ω).J ?_;rintro e d ⟨rfl,rfl⟩))
   refine AE (v:=.tuple #[ND 0 0 0 ⟨#[]⟩,yR false]) (by simp[results,results86,go_sem]) rfl ⟨by rw[c.j];rfl,?_⟩;exact r _
  focus
   have c:=LQ (df (s:=s) (n:=(m:Int)) (λa=>h a.2.2.1));have u:((s.size:Int) != 64)=true:=τ
   clear h
  rotate_left
 rotate_left
 focus
  have c:=LQ (df (s:=s) (n:=n) (λa=>l ⟨a.1,a.2.1⟩));have j:decide (1<=n/\n<=8)=false:=by simpa using l
  clear l
 rotate_left
 all_goals
  go_enter func86,ntmps86
  go_wp2_with (first|(go_at_call 24;refine(QH _ _).J ?_;rw[j];rintro e d ⟨rfl,rfl⟩))
  refine AE (v:=.tuple #[ND 0 0 0 ⟨#[]⟩,yR false]) (by simp[results,results86,go_sem]) rfl ⟨by rw[c.j];rfl,?_⟩;exact r _
theorem ee{B:Nat}{e:TypeId}{y:qD}{n b:Nat}{a:List qD}(h:w.ownsRow B e size y n a)(c:y.ownBlock≠some b)(u:qD):(w.setCell (yA b i) u).ownsRow B e size y n a:=BS h c u
theorem pS(X:xV)(b:Nat)(c:X.heap.size=b)(a:Array qD)(t:TypeId):∀j u,a.toList[j]?=some u->(X.alloc (.cells a t)).cell? (((yA b 0):Addr).add j)=some u:=by
 subst c;exact World.news_of_block (AU X _)
theorem Cl(s:yZ)(w:xV)(hs:s.size<=1048576):Calls prog 180 #[yQ s] w λe a=>nh w a e (UM s):=by
 have bU:∀o,yX w (w.alloc o):=λo=>LG _ _
 obtain⟨R,Q⟩:∃R,Hid (R=UM s):=⟨_,Y rfl⟩;rw[<-Q.j];obtain⟨i0,a,c,b,d⟩:=uN uE;have HI:=Y (AG a (AG c (AG b d)));clear a c b d;go_enter func180,ntmps180;go_wp2_with fail;go_loopw [4,5] (λy x wr=>∃(j:Nat) (o:List Ch) (r:yZ),x=yQ r/\j+o.length=21/\r.size<=1048576/\Hid (run j r o=run 21 s [])/\Hid (∀z∈o,z.1.size<=1048576/\z.2.1.size<=1048576)/\wr.ownsRow w.heap.size 92 3 y o.length (MS o)/\yX w wr) (λ_ x _=>match x with | .string r=>r.size|_=>0)
 case atStart =>
  exact⟨21,[],s,rfl,rfl,hs,rfl,λz c=>(by simp at c),DG _ #[] 0 (AA _) σ σ,bU _⟩
 case round =>
  obtain⟨j,o,r,rfl,hj,bZ,S,O,b,a⟩:=hrel;obtain⟨ya,yc,rfl,c⟩:=pW b;have A:=Y b;have t:=Y a;have g:=a.size;have T:=Y c;clear b a c
  have D:(yI ya o.length yc).ownBlock≠some wr.heap.size:=λh=>by have:=(A.j.lt _ h).2;omega
  have P:Hid (run j r o=some (o,r))->Hid (R=if s.size≠0/\MA o=s then some o else none):=λu=>by
   show _=_;have:=S.j;rw[u.j]at this;rw[Q.j];unfold UM;rw[<-this]
  by_cases h0:0<(r.size:Int)
  focus
   by_cases hl:(o.length:Int)<=20
   ·obtain⟨L,rfl⟩:∃L,j=L+1:=⟨j-1,ω⟩
    have h:=S.j;rw[run,AF ω]at h;have hg:=XX r ω;obtain⟨b,K⟩:∃b,b=b0 r:=⟨_,rfl⟩;have bY:b<=255:=by rw[K];exact ka r
    rw[<-K]at hg;have N:(r.extract 1 r.size).size<=1048576:=by simp only[AQ];omega
    clear P
    cases hp:pc (r.extract 1 r.size) with
    | none =>
     have C:=Y (fx hp)
     have d:Hid (R=none):=by
      show _=_;have e:QY r=none:=by unfold QY;rw[hp]
      rw[e]at h;rw[Q.j];unfold UM;rw[<-h]
     clear hp K h
     by_cases bG:b=1
     ·subst bG
      go_wp2_with (go_at_call 243;refine(bh _ _ N).J ?_;rw[C.j];rintro e y ⟨rfl,a⟩;have x:=a.size;simp only[BE,BL]at x;obtain⟨H,E,I,F,J,G⟩:=k3 a wr.heap.size (yQ ⟨#[]⟩) (yQ ⟨#[]⟩) (yR true);have l:=Y (t.j.E ((WT a).J g));have B:=Y (LZ (A.j.alloc _) a);clear a);go_ret2;rw[d.j];exact XL rfl (l.j.alloc ω _)
     have a:((b:Int) == 1)=false:=τ
     go_wp2_with (go_at_call 243;refine(bh _ _ N).J ?_;rw[C.j];rintro e y ⟨rfl,a⟩;have x:=a.size;simp only[BE,BL]at x;obtain⟨H,E,I,F,J,G⟩:=k3 a wr.heap.size (yQ ⟨#[]⟩) (yQ ⟨#[]⟩) (yR false);have l:=Y (t.j.E ((WT a).J g));have B:=Y (LZ (A.j.alloc _) a);clear a);go_ret2;rw[d.j];exact XL rfl (l.j.alloc ω _)
    | some p =>
     obtain⟨k,m⟩:=p;have C:=Y (ek hp);have bW:m.size<=1048576:=by have:=oE hp;simp only[AQ]at this;omega
     by_cases bG:b=1
     ·have e:QY r=some ((k,empty,true),m):=by unfold QY;rw[hp];simp only;rw[AI ω]
      obtain⟨q1,q2,q3⟩:=vm ω e;rw[e]at h;have bF:Hid (run L m (o++[(k,empty,true)])=run 21 s []):=h;simp only at q2 q3;clear hp K h e;subst bG
      go_wp2_with (first|(go_at_call 243;refine(bh _ _ N).J ?_;rw[C.j];rintro e y ⟨rfl,a⟩;have x:=a.size;simp only[BE,BL]at x;obtain⟨H,E,I,F,J,G⟩:=k3 a wr.heap.size (yQ ⟨#[]⟩) (yQ ⟨#[]⟩) (yR true);have l:=Y (t.j.E ((WT a).J g));have B:=Y (LZ (A.j.alloc _) a);clear a)|(at_builtin;refine QS _ rfl _ _ 44 rfl w.heap.size underlying44 HI.j rfl ω _ o.length _ rfl ((ee B.j D (yQ k)).alloc (.cells #[yQ k,yQ ⟨#[]⟩,yR true] 92)) (yA y.heap.size 0) 1 1 [yQ k,yQ ⟨#[]⟩,yR true] rfl rfl (pS _ _ σ _ _) (uw _ _ _) τ (y.heap.size+1) σ ?_;intro ga cap w7 M d V bH;have bE:=Y M;have aZ:=Y (sd ((l.j.setCell (p:=(yA wr.heap.size 0)) g (yQ k)).alloc τ _) ((ee B.j D (yQ k)).alloc _) d τ);clear M d V))
      refine⟨⟨L,o++[(k,empty,true)],m,rfl,τ,ω,bF.j,λz c=>?_,?_,aZ.j⟩,by simp only;omega⟩
      ·rcases BZ.1 c with c|c
       ·exact O.j z c
       simp at c;subst c;exact⟨by simp only;omega,by simp only;first|omega|simp⟩
      rw[zp,AK];exact bE.j
     have a:((b:Int) == 1)=false:=τ
     have aW:m.size<=1048576:=bW
     cases hq:pc m with
     | none =>
      have U:=Y (fx hq)
      have d:Hid (R=none):=by
       show _=_;have e:QY r=none:=by unfold QY;rw[hp];simp only;rw[AF ω,hq]
       rw[e]at h;rw[Q.j];unfold UM;rw[<-h]
      clear hp hq K h
      go_wp2_with (first|(have _g:=l;go_at_call 243;refine(bh _ _ aW).J ?_;rw[U.j];rintro e w3 ⟨rfl,c⟩;have X:=c.size;simp only[BE,BL]at X;obtain⟨d0,bQ,d1,bR,d2,bT⟩:=k3 c wr.heap.size (yQ k) (yQ ⟨#[]⟩) (yR false);have Z:=Y ((l.j.setCell (p:=(yA wr.heap.size 0)) g (yQ k)).E (c.J ξ));have bC:=Y (LZ (ee B.j D (yQ k)) c);clear c H I J E F G)|(go_at_call 243;refine(bh _ _ N).J ?_;rw[C.j];rintro e y ⟨rfl,a⟩;have x:=a.size;simp only[BE,BL]at x;obtain⟨H,E,I,F,J,G⟩:=k3 a wr.heap.size (yQ ⟨#[]⟩) (yQ ⟨#[]⟩) (yR false);have l:=Y (t.j.E ((WT a).J g));have B:=Y (LZ (A.j.alloc _) a);clear a))
      go_ret2;rw[d.j];exact XL rfl (Z.j.alloc ω _)
     | some q =>
      obtain⟨v,m'⟩:=q;have U:=Y (ek hq);have e:QY r=some ((k,v,false),m'):=by unfold QY;rw[hp];simp only;rw[AF ω,hq]
      obtain⟨q1,q2,q3⟩:=vm ω e;rw[e]at h;have bF:Hid (run L m' (o++[(k,v,false)])=run 21 s []):=h;simp only at q2 q3;clear hp hq K h e
      go_wp2_with (first|(have _g:=l;go_at_call 243;refine(bh _ _ aW).J ?_;rw[U.j];rintro e w3 ⟨rfl,c⟩;have X:=c.size;simp only[BE,BL]at X;obtain⟨d0,bQ,d1,bR,d2,bT⟩:=k3 c wr.heap.size (yQ k) (yQ ⟨#[]⟩) (yR false);have Z:=Y ((l.j.setCell (p:=(yA wr.heap.size 0)) g (yQ k)).E (c.J ξ));have bC:=Y (LZ (ee B.j D (yQ k)) c);clear c H I J E F G)|(go_at_call 243;refine(bh _ _ N).J ?_;rw[C.j];rintro e y ⟨rfl,a⟩;have x:=a.size;simp only[BE,BL]at x;obtain⟨H,E,I,F,J,G⟩:=k3 a wr.heap.size (yQ ⟨#[]⟩) (yQ ⟨#[]⟩) (yR false);have l:=Y (t.j.E ((WT a).J g));have B:=Y (LZ (A.j.alloc _) a);clear a)|(at_builtin;refine QS _ rfl _ _ 44 rfl w.heap.size underlying44 HI.j rfl ω _ o.length _ rfl ((ee bC.j D (yQ v)).alloc (.cells #[yQ k,yQ v,yR false] 92)) (yA w3.heap.size 0) 1 1 [yQ k,yQ v,yR false] rfl rfl (pS _ _ σ _ _) (uw _ _ _) τ (w3.heap.size+1) σ ?_;intro ga cap w7 M d V bH;have bE:=Y M;have aZ:=Y (sd ((Z.j.setCell (p:=(yA wr.heap.size 1)) g (yQ v)).alloc τ _) ((ee bC.j D (yQ v)).alloc _) d τ);clear M d V))
      refine⟨⟨L,o++[(k,v,false)],m',rfl,τ,ω,bF.j,λz c=>?_,?_,aZ.j⟩,by simp only;omega⟩
      ·rcases BZ.1 c with c|c
       ·exact O.j z c
       simp at c;subst c;exact⟨by simp only;omega,by simp only;first|omega|simp⟩
      rw[zp,AK];exact bE.j
   focus
    have l:j=0:=ω
    subst l;have d:=P rfl;clear P S
    by_cases c:s.size=0
    ·have b:((s.size:Int) == 0)=true:=by rw[beq_iff_eq];omega
     rw[AF (λu=>u.1 c)]at d;go_wp2;go_ret2;rw[d.j];exact XL rfl (t.j.alloc g _)
    focus
     have b:((s.size:Int) == 0)=false:=by rw[BI];omega
     by_cases hF:MA o=s
     ·rw[AI ⟨c,hF⟩]at d
      have h:=Y hF;clear hF;go_wp2_with (go_at_call 139;refine(cw _ o _ _ T.j ω O.j).J ?_;rw[h.j];rintro e y ⟨rfl,a⟩);go_ret2;rw[d.j];exact Oc (LZ A.j a) rfl (t.j.E (a.J g))
     focus
     rotate_left
    rotate_left
   rotate_left
  rotate_left
  focus
   have d:=P (by show _=_;exact Aw _ _ _ ω);clear P S
   by_cases c:s.size=0
   ·have b:((s.size:Int) == 0)=true:=by rw[beq_iff_eq];omega
    rw[AF (λu=>u.1 c)]at d;go_wp2;go_ret2;rw[d.j];exact XL rfl (t.j.alloc g _)
   focus
    have b:((s.size:Int) == 0)=false:=by rw[BI];omega
    by_cases hF:MA o=s
    ·rw[AI ⟨c,hF⟩]at d
     have h:=Y hF;clear hF;go_wp2_with (go_at_call 139;refine(cw _ o _ _ T.j ω O.j).J ?_;rw[h.j];rintro e y ⟨rfl,a⟩);go_ret2;rw[d.j];exact Oc (LZ A.j a) rfl (t.j.E (a.J g))
    focus
    rotate_left
   rotate_left
  rotate_left
  all_goals
   rw[AF (λu=>hF u.2)]at d;obtain⟨G,b⟩:∃G,Hid (G=MA o):=⟨_,Y rfl⟩;have c:(!G.toList == s.toList)=true:=by rw[b.j];simp only[KM,BI];intro u;rw[CZ,CZ]at u;exact hF (EQ (IE u))
   clear hF;go_wp2_with (go_at_call 139;refine(cw _ o _ _ T.j ω O.j).J ?_;rw[<-b.j];rintro e y ⟨rfl,a⟩);go_ret2;rw[d.j];exact XL rfl ((t.j.E (a.J g)).alloc (by have:=a.size;omega) _)
section
@[reducible] def je(a b:qD)(frm size n:Int):qD:=.agg #[.iface 301 (.agg #[a,b]),Z frm,Z size,Z n]
abbrev Pgs(S:Nat->yZ)(frm:Nat)(n:Int)(size:Nat):Type:={ x:Nat // x<size/\(NB (S (frm+x)) n).isSome=true }
def SZ(S:Nat->yZ)(frm:Nat)(n:Int)(x:Nat):Int×Int×Int×yZ:=(NB (S (frm+x)) n).getD (0,0,0,empty)
theorem qo{S:Nat->yZ}(x:Pgs S frm n size){l:Int}(h:SZ S frm n x.1=(k,l,m,p)):NB (S (frm+x.1)) n=some (k,l,m,p):=by
 unfold SZ at h;obtain⟨y,a⟩:=IF.1 x.2.2;rw[a]at h⊢;simp at h;rw[h]
def Good{S:Nat->yZ}{frm:Nat}{n:Int}{size:Nat}(u:Nat)(a:List (Pgs S frm n size)):Prop:=a.map Subtype.val=List.range' u a.length
theorem Good.nil{S:Nat->yZ}(u:Nat):Good u ([]:List (Pgs S frm n size)):=rfl
theorem Good.snoc{S:Nat->yZ}{u:Nat}{a:List (Pgs S frm n size)}{x:Pgs S frm n size}(h:Good u (a++[x])):Good u a/\x.1=u+a.length:=by
 unfold Good at h⊢;rw[DA,AK,EI,List.range'_concat]at h;have:=List.append_inj h σ;exact⟨this.1,by simpa using this.2⟩
theorem Good.push{S:Nat->yZ}{u:Nat}{a:List (Pgs S frm n size)}{x:Pgs S frm n size}(h:Good u a)(b:x.1=u+a.length):Good u (a++[x]):=by
 unfold Good at h⊢;rw[DA,AK,EI,List.range'_concat,h];simp[b]
def Chn{S:Nat->yZ}{frm:Nat}{n:Int}{size:Nat}(first:Int)(c:Scd)(u:Nat)(a:List (Pgs S frm n size))(wk wl:Int)(op:yZ)(b:Scd):Prop :=Good u a->u+a.length<=size/\NW S frm first n (size-(u+a.length)) (u+a.length) wk wl op b=c
section
variable {S:Nat->yZ} {frm:Nat} {n:Int} {size:Nat} {first:Int} {RES:Scd} {u:Nat} {pre:List (Pgs S frm n size)} {x:Pgs S frm n size} {wk wl k l m:Int} {p op:yZ} {out:Scd}
theorem zf{x:Nat}(b:0<=m/\m<=4294967296)(a:-9223372036854775808<=first/\first<=9223372036854775807):IntKind.i64.wrap (m-(x:Int))=first<->m=IntKind.i64.wrap (first+(x:Int)):=by
 simp[IntKind.wrap,IntKind.bits,IntKind.signed];omega
theorem Chn.no(h:Chn first RES u pre wk wl op out)(j:SZ S frm n x.1=(k,l,m,p))(d:-9223372036854775808<=first/\first<=9223372036854775807)(g:¬(m=IntKind.i64.wrap (first+(x.1:Int))/\QE wk wl k l=true))(e:Good u (pre++[x])):out=RES:=by
 obtain⟨b,o⟩:=e.snoc;obtain⟨q,c⟩:=h b;have a:=qo x j;have r:=UJ a;rw[<-c,<-o];refine(tp a ?_).symm;rw[zf ω d];exact g
theorem Chn.part(h:Chn first RES u pre wk wl op out)(o:SZ S frm n x.1=(1,l,m,p))(g:-9223372036854775808<=first/\first<=9223372036854775807)(d:m=IntKind.i64.wrap (first+(x.1:Int)))(c:QE wk wl 1 l=true):Chn first RES u (pre++[x]) 1 l (op++p) out:=by
 intro j;obtain⟨b,q⟩:=j.snoc;obtain⟨s,e⟩:=h b;have a:=qo x o;have t:=UJ a;have r:=x.2.1;rw[AK,EI];refine⟨ω,?_⟩;rw[<-e,show size-(u+pre.length)=(size-(u+(pre.length+1)))+1 by omega,<-q,qJ a ((zf ω g).2 d) c,show u+(pre.length+1)=x.1+1 by omega]
theorem Chn.end(h:Chn first RES u pre wk wl op out)(q:SZ S frm n x.1=(k,l,m,p))(g:-9223372036854775808<=first/\first<=9223372036854775807)(d:m=IntKind.i64.wrap (first+(x.1:Int)))(c:QE wk wl k l=true)(o:k≠1)(j:Good u (pre++[x])):Chn first RES (x.1+1) ([]:List (Pgs S frm n size)) k l empty (if k=2 then out.1++[op++p] else out.1,(x.1:Int)+1,l):=by
 intro _;obtain⟨b,r⟩:=j.snoc;obtain⟨t,e⟩:=h b;have a:=qo x q;have v:=UJ a;have s:=x.2.1;refine⟨τ,?_⟩;rw[<-e,show size-(u+pre.length)=(size-(x.1+1))+1 by omega,<-r,nN a ((zf ω g).2 d) c o];simp
theorem Chn.done(h:Chn first RES u pre wk wl op out)(c:Good u pre)(a:size<=u+pre.length\/NB (S (frm+(u+pre.length))) n=none):out=RES:=by
 obtain⟨d,b⟩:=h c;rw[<-b];rcases a with a|a
 ·rw[show size-(u+pre.length)=0 by omega];rfl
 exact(tM a).symm
end
end
theorem Bb(y b:Int)(d:0<=y)(g:y<=1099511627776)(a:0<=b)(c:b<=255):bits .or .u64 (IntKind.u64.wrap (y*256)) (IntKind.u64.wrap b)=y*256+b:=by
 rw[XU _ ω ω,XU _ ω ω];obtain⟨Y,rfl⟩:∃Y:Nat,y=(Y:Int):=⟨y.toNat,ω⟩;obtain⟨C,rfl⟩:∃C:Nat,b=(C:Int):=⟨b.toNat,ω⟩;have e:((Y:Int)*256)=((256*Y:Nat):Int):=ω
 rw[e,bits_or_u64_nat _ _ ω ω];have:=Nat.two_pow_add_eq_or_of_lt (i:=8) (b:=C) ω Y;simp only[Nat.reducePow]at this;rw[<-this];omega
theorem yg(s:yZ)(a:TypeId)(v:qD)(w:xV)(hv:w.cell? (yA 7 0)=some (.iface a v)):Calls prog 234 #[yQ s] w λe b=>e=yT (.iface 207 (zW w.heap.size 0))/\b=w.alloc (.cells #[yQ s,.iface a v] 318):=by
 go_enter func234,ntmps234;go_wp2;go_ret;exact⟨rfl,rfl⟩
theorem zZ(F o:Nat)(a:List Int)(c:Nat)(w:xV)(B:∀y∈a,0<=y/\y<=255)(E:a.length<=4)(q:∀i,i<a.length->w.cell? (yA F (o+i))=some (.int .u8 (a.getD i 0))):Calls prog 235 #[yI (zY F o) a.length c] w λe b=>e=yT (.int .u64 (MY a))/\b=w:=by
 have r:=LQ q;clear q;go_enter func235,ntmps235;go_wp2;go_loop [3,5,8] (λx _ i=>∃(k:Nat) (y:Int),k<=a.length/\i=Z (k:Int)/\x=.int .u64 y/\Hid (y=MY (a.take k))/\0<=y/\Hid (y<(256:Int) ^ k)) (λ_ _ i=>a.length-(intOf i).toNat)
 case atStart=>exact⟨0,0,AL _,rfl,rfl,by show _=_;simp[MY],ω,by show _<_;simp⟩
 case round =>
  obtain⟨k,y,D,rfl,rfl,j,A,l⟩:=hrel
  by_cases d:k<a.length
  ·have z:=r.j k d
   obtain⟨b,e⟩:∃b,a.getD k 0=b:=⟨_,rfl⟩;rw[e]at z;obtain⟨u,v⟩:0<=b/\b<=255:=by rw[<-e];exact B _ (by simp[List.getD,d])
   have C:(k:Int)<(a.length:Int):=ω
   have s:(256:Int) ^ k<=16777216:=by
    have:k=0\/k=1\/k=2\/k=3:=ω
    rcases this with h|h|h|h<;>rw[h]<;>decide
   have h:Hid (y*256+b=MY (a.take (k+1))):=by
    show _=_;rw[BH d,pz,<-j.j,<-e];simp[List.getD,d]
   have g:=Bb y b A (by have:=l.j;omega) u v;have t:Hid (bits .or .u64 (IntKind.u64.wrap (y*256)) b=y*256+b):=by show _=_;rw[XU b ω ω]at g;exact g
   have x:0<=y*256+b:=ω
   clear g;have g:Hid (y*256+b<(256:Int) ^ (k+1)):=by show _<_;rw[LC];have:=l.j;omega
   clear e s;go_wp2;go_round
   case rel=>exact⟨k+1,y*256+b,ω,ν,BC _ t.j,h.j,x,g.j⟩
   case measure=>simp[intOf];omega
  go_wp2
  go_ret;refine⟨vY ?_,rfl⟩;rw[j.j,AR ω]
def ae(E:Addr)(o:Option (Int×Int×Int×yZ)):qD:=match o with
 | none=>.tuple #[ND 0 0 0 ⟨#[]⟩,.iface 207 (.pointer (some E))]
 | some (k,l,m,p)=>.tuple #[ND k l m p,.nilIface]
theorem cd(F:Nat)(a:List Int)(l:Hid (∀y∈a,0<=y/\y<=255))(o k c:Nat)(q:k<=4)(r:o+k<=a.length)(w:xV)(j:Fm w F a)(V:Int)(g:V=MY ((a.drop o).take k)):Calls prog 235 #[yI (zY F o) k c] w λe b=>e=yT (.int .u64 V)/\b=w:=by
 have d:((a.drop o).take k).length=k:=τ
 have h:=zZ F o ((a.drop o).take k) c w (λy e=>l.j y (EY (DM e))) ω (λi b=>by
  rw[j.cell (o+i) ω];rw[d]at b
  simp[List.getD,GL b,FC])
 rw[d,<-g]at h;exact h
theorem Kw(s:yZ)(n:Int)(w:xV)(a:TypeId)(v:qD)(hv:w.cell? (yA 7 0)=some (.iface a v))(h:7<w.heap.size)(b:¬(1<=n/\n<=8)):Calls prog 176 #[yQ s,Z n] w λe c=>(∃E,e=yT (ae E none))/\yX w c:=by
 have g:decide (1<=n/\n<=8)=false:=by simpa using b
 have d:∀o c,yX w ((w.alloc o).alloc c):=λo c=>(LG _ _).alloc σ _
 have c:∀o,(w.alloc o).cell? (yA 7 0)=some (.iface a v):=λo=>(FD _ _ _ (by exact h)).E hv
 clear b;go_enter func176,ntmps176
 go_wp2_with (first|(go_at_call 36;refine(RH _ _).J ?_;rw[g];rintro e j ⟨rfl,rfl⟩)|(go_at_call 234;refine(yg _ a v _ (c _)).J ?_;rintro e j ⟨rfl,rfl⟩))
 refine AE (v:=.tuple #[ND 0 0 0 ⟨#[]⟩,.iface 207 (zW (w.heap.size+1) 0)]) (by simp[results,results176,go_sem]) rfl ⟨⟨_,rfl⟩,?_⟩;exact d _ _
theorem J5(s:yZ)(n:Int)(w:xV)(a:TypeId)(v:qD)(hv:w.cell? (yA 7 0)=some (.iface a v))(h:7<w.heap.size)(b:1<=n/\n<=8)(j:s.size≠64):Calls prog 176 #[yQ s,Z n] w λe c=>(∃E,e=yT (ae E none))/\yX w c:=by
 have g:decide (1<=n/\n<=8)=true:=by simpa using b
 have q:((s.size:Int) != 64)=true:=τ
 have d:∀o c,yX w ((w.alloc o).alloc c):=λo c=>(LG _ _).alloc σ _
 have c:∀o,(w.alloc o).cell? (yA 7 0)=some (.iface a v):=λo=>(FD _ _ _ (by exact h)).E hv
 clear b j;go_enter func176,ntmps176
 go_wp2_with (first|(go_at_call 36;refine(RH _ _).J ?_;rw[g];rintro e l ⟨rfl,rfl⟩)|(go_at_call 234;refine(yg _ a v _ (c _)).J ?_;rintro e l ⟨rfl,rfl⟩))
 refine AE (v:=.tuple #[ND 0 0 0 ⟨#[]⟩,.iface 207 (zW (w.heap.size+1) 0)]) (by simp[results,results176,go_sem]) rfl ⟨⟨_,rfl⟩,?_⟩;exact d _ _
structure RB(W w:xV):Prop where
 size:W.heap.size+1<=w.heap.size
 bel:yX W w
 c0:w.cell? (yA W.heap.size 0)=some (Z 0)
 c1:w.cell? (yA W.heap.size 1)=some (Z 0)
 c2:w.cell? (yA W.heap.size 2)=some (Z 0)
 c3:w.cell? (yA W.heap.size 3)=some (yQ ⟨#[]⟩)
 f0:w.frozen? (yA W.heap.size 0)=false
 f1:w.frozen? (yA W.heap.size 1)=false
 f2:w.frozen? (yA W.heap.size 2)=false
 f3:w.frozen? (yA W.heap.size 3)=false
theorem RB.I{d:xV}(h:RB W w)(a:yX w d):RB W d:=by
 have e:=h.size
 have b:∀i,d.cell? (yA W.heap.size i)=w.cell? (yA W.heap.size i):=λi=>a.cell (p:=(yA W.heap.size i)) (by show W.heap.size<_;omega)
 have c:∀i,d.frozen? (yA W.heap.size i)=w.frozen? (yA W.heap.size i):=λi=>a.frozen (p:=(yA W.heap.size i)) (by show W.heap.size<_;omega)
 exact⟨AJ e a.size,h.bel.E (a.J ω),(b _).E h.c0,(b _).E h.c1,(b _).E h.c2,(b _).E h.c3,(c _).E h.f0,(c _).E h.f1,(c _).E h.f2,(c _).E h.f3⟩
theorem RB.drew(h:RB W w):RB W w.drew:=⟨h.size,h.bel.drew,h.c0,h.c1,h.c2,h.c3,h.f0,h.f1,h.f2,h.f3⟩
theorem RB.alloc(h:RB W w)(o:Obj):RB W (w.alloc o):=h.I (LG _ _)
theorem RB.new(W:xV)(t:TypeId):RB W (W.alloc (.cells #[Z 0,Z 0,Z 0,yQ ⟨#[]⟩] t)):=by
 refine⟨σ,LG _ _,?_,?_,?_,?_,?_,?_,?_,?_⟩<;>first|(simp;done)|(rw[EA];exact XP _ _ _ (AA _))
theorem th(s:yZ)(a:TypeId)(v:qD)(w:xV)(hv:w.cell? (yA 7 0)=some (.iface a v)):Calls prog 234 #[yQ s] w λe b=>(∃E,e=yT (.iface 207 (.pointer (some E))))/\yX w b :=(yg s a v w hv).J λe b h=>⟨⟨_,h.1⟩,by rw[h.2];exact LG _ _⟩
set_option maxRecDepth 4000 in
theorem El(s:yZ)(n N:Nat)(w:xV)(j:TypeId)(v:qD)(hv:w.cell? (yA 7 0)=some (.iface j v))(P:7<w.heap.size)(h:s.size=64)(h1:1<=n)(h2:n<=8)(u:(N:Int)=MY (((LF s).drop (n+7)).take 1))(S:56<N+n)(T:N<=255):Calls prog 176 #[yQ s,Z (n:Int)] w λe a=>(∃E,e=yT (ae E none))/\yX w a:=by
 have O:decide (1<=(n:Int)/\(n:Int)<=8)=true:=τ
 have aU:(s.size:Int)=64:=ω
 have U:∀o,yX w (w.alloc o):=λo=>LG _ _
 have I:∀a,yX w a->a.cell? (yA 7 0)=some (.iface j v):=λa b=>(b.cell (p:=(yA 7 0)) P).E hv
 obtain⟨b,c⟩:∃b,Hid (b=LF s):=⟨_,LQ rfl⟩;have d:b.length=64:=by rw[c.j,MR];exact h
 have aV:(b.map (Value.int .u8)).toArray.size=64:=by simp[d]
 have F:Hid (∀y∈b,0<=y/\y<=255):=by rw[c.j];exact gj s
 have A:=LQ h;clear h
 have G:=λg y=>ox (P:=prog) (t:=143) underlying143 (λ_=>κ) g 0 n ω .i64 (n:Int) rfl y
 obtain⟨q,Q⟩:∃q,64-n=q:=⟨_,rfl⟩;rw[Q]at G;have Y:(8:Int)<=(q:Int):=ω
 have X:(7:Int)<=(q:Int):=ω
 have z:Hid ((N:Int)=MY ((b.drop (n+7)).take 1)):=by rw[c.j];exact LQ u
 clear u;have V:(64-(n:Int)-8)<(N:Int):=ω
 go_enter func176,ntmps176
 go_wp2_with (first|(go_at_call 36;refine(RH _ _).J ?_;rw[O];rintro e x ⟨rfl,rfl⟩)|(go_at_call 236;refine(vn _ _ ω ω).J ?_;rintro e R ⟨rfl,rfl⟩)|(go_at_call 208;refine(im s _ A.j).J ?_;rw[<-c.j];rintro e x ⟨rfl,l⟩;have B:=LQ ((RB.new w _).I l);clear l)|(refine ui rfl 143 _ _ rfl b rfl rfl _ _ (.int .u8 0) (by rw[d];rfl) (by rw[d];kernel_rfl) ?_;intro y t r H;have C:=LQ t;clear t;have g:=LQ (B.j.I r);clear r H)|(go_at_call 235;refine(cd x.heap.size b F (n+7) 1 _ ω ω _ C.j (N:Int) z.j).J ?_;rintro e R ⟨rfl,rfl⟩)|(go_at_call 234;refine(th _ j v _ (I _ g.j.bel)).J ?_;rintro e w4 ⟨⟨E,rfl⟩,o⟩;have a:=g.j.I o;clear o;have J:=a.c0;have K:=a.c1;have L:=a.c2;have M:=a.c3;have f0:=a.f0;have f1:=a.f1;have f2:=a.f2;have f3:=a.f3;have D:=LQ a;clear a))
 refine AE (v:=.tuple #[ND 0 0 0 ⟨#[]⟩,.iface 207 (.pointer (some E))]) (by simp[results,results176,go_sem,J,K,L,M]) rfl ⟨⟨E,rfl⟩,?_⟩;exact(((D.j.bel.setCell (AA _) _).setCell (AA _) _).setCell (AA _) _).setCell (AA _) _
