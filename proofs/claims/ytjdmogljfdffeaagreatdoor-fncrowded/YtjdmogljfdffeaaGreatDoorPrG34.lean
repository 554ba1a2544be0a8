import Derived.Test.YtjdmogljfdffeaaGreatDoorPrG33
set_option maxHeartbeats 16000000
set_option maxRecDepth 8000
set_option linter.all false
namespace Go.Proofs.YtjdmogljfdffeaaGreatDoor
open Tryz
open Go.RowKit
variable {e:TypeId}{v:Value}{w:World}
theorem Ey(r:ByteArray)(w:World)(L:r.size<=1048576)(E:0<r.size)(g:b0 r=0)(k m:ByteArray)(h:pc (r.extract 1 r.size)=some (k,m))(u:m.size<=1048576)(v d:ByteArray)(i:pc m=some (v,d)):Calls prog 166 #[.string r] w λe a=>e=.returned (.tuple #[.agg #[.string k,.string v,.bool false],.string d,.bool true])/\Below w.heap.size w a:=by
 have F:=YC r E;rw[g]at F;have j:=Z (fg h);have l:=Z (fg i);have x:(r.extract 1 r.size).size<=1048576:=by simp only[AK];omega
 have p:m.size<=1048576:=u;clear h g i;go_enter func166,ntmps166
 go_wp2_with (first|(have G:=f;go_at_call 187;refine(bd _ _ p).A ?_;rw[l.l];rintro e N ⟨rfl,c⟩;have o:=c.size;simp only[BB,BJ]at o;obtain⟨B,H,C,I,D,K⟩:=k3 c w.heap.size (.string k) (.string ⟨#[]⟩) (.bool false);have a:=Z ((f.l.setCell (p:=⟨w.heap.size,0,none⟩) (Y _) (.string k)).j (c.A ξ));clear c y z A q s t)|(go_at_call 187;refine(bd _ _ x).A ?_;rw[j.l];rintro e M ⟨rfl,b⟩;have n:=b.size;simp only[BB,BJ]at n;obtain⟨y,q,z,s,A,t⟩:=k3 b w.heap.size (.string ⟨#[]⟩) (.string ⟨#[]⟩) (.bool false);have f:=Z (XG b);clear b))
 refine AI (v:=.tuple #[.agg #[.string k,.string v,.bool false],.string d,.bool true]) (by simp[results,results166,go_sem,B,C,D]) rfl ⟨rfl,?_⟩
 (first|exact(((a.l.setCell (Y _) _).setCell (Y _) _).setCell (Y _) _)|exact((((a.l.setCell (Y _) _).setCell (Y _) _).setCell (Y _) _).setCell (Y _) _)|exact(((((a.l.setCell (Y _) _).setCell (Y _) _).setCell (Y _) _).setCell (Y _) _).setCell (Y _) _)|exact((((((a.l.setCell (Y _) _).setCell (Y _) _).setCell (Y _) _).setCell (Y _) _).setCell (Y _) _).setCell (Y _) _)|exact(((((((a.l.setCell (Y _) _).setCell (Y _) _).setCell (Y _) _).setCell (Y _) _).setCell (Y _) _).setCell (Y _) _).setCell (Y _) _))
theorem Dm(r:ByteArray)(w:World)(K:r.size<=1048576)(D:0<r.size)(f:b0 r=0)(k m:ByteArray)(h:pc (r.extract 1 r.size)=some (k,m))(t:m.size<=1048576)(i:pc m=none):Calls prog 166 #[.string r] w λe a=>(∃k v g b,e=.returned (.tuple #[.agg #[.string k,.string v,.bool g],.string b,.bool false]))/\Below w.heap.size w a:=by
 have E:=YC r D;rw[f]at E;have g:=Z (fg h);have j:=Z (gd i);have u:(r.extract 1 r.size).size<=1048576:=by simp only[AK];omega
 have o:m.size<=1048576:=t;clear h f i;go_enter func166,ntmps166
 go_wp2_with (first|(have F:=d;go_at_call 187;refine(bd _ _ o).A ?_;rw[j.l];rintro e M ⟨rfl,c⟩;have n:=c.size;simp only[BB,BJ]at n;obtain⟨A,G,B,H,C,I⟩:=k3 c w.heap.size (.string k) (.string ⟨#[]⟩) (.bool false);have a:=Z ((d.l.setCell (p:=⟨w.heap.size,0,none⟩) (Y _) (.string k)).j (c.A ξ));clear c x y z p q s)|(go_at_call 187;refine(bd _ _ u).A ?_;rw[g.l];rintro e L ⟨rfl,b⟩;have l:=b.size;simp only[BB,BJ]at l;obtain⟨x,p,y,q,z,s⟩:=k3 b w.heap.size (.string ⟨#[]⟩) (.string ⟨#[]⟩) (.bool false);have d:=Z (XG b);clear b))
 refine AI (v:=.tuple #[.agg #[.string k,.string ⟨#[]⟩,.bool false],.string ⟨#[]⟩,.bool false]) (by simp[results,results166,go_sem,A,B,C]) rfl ⟨⟨_,_,_,_,rfl⟩,?_⟩
 (first|exact(((a.l.setCell (Y _) _).setCell (Y _) _).setCell (Y _) _)|exact((((a.l.setCell (Y _) _).setCell (Y _) _).setCell (Y _) _).setCell (Y _) _)|exact(((((a.l.setCell (Y _) _).setCell (Y _) _).setCell (Y _) _).setCell (Y _) _).setCell (Y _) _)|exact((((((a.l.setCell (Y _) _).setCell (Y _) _).setCell (Y _) _).setCell (Y _) _).setCell (Y _) _).setCell (Y _) _)|exact(((((((a.l.setCell (Y _) _).setCell (Y _) _).setCell (Y _) _).setCell (Y _) _).setCell (Y _) _).setCell (Y _) _).setCell (Y _) _))
theorem mU{r k m:ByteArray}(h:pc r=some (k,m)):m.size<=r.size:=by
 have:=BY List.length (ui h).1;simp[ME]at this;omega
theorem Fk(r:ByteArray)(w:World)(c:r.size<=1048576)(a:0<r.size):Calls prog 166 #[.string r] w λe b=>pN (fi r) e/\Below w.heap.size w b:=by
 unfold fi
 by_cases d:1<b0 r
 ·rw[AF d];exact C7 r w c a d
 rw[AG d]
 unfold QI
 cases hp:pc (r.extract 1 r.size) with
 | none =>
  rcases FL (b0 r) with b|b
  ·exact Ca r w c a b hp
  exact Gq r w c a ω hp
 | some p =>
  obtain⟨k,m⟩:=p;have f:m.size<=1048576:=by have:=mU hp;simp only[AK]at this;omega
  rcases FL (b0 r) with b|b
  ·simp only
   rw[AG ω]
   cases hq:pc m with
   | none=>exact Dm r w c a b k m hp f hq
   | some q =>
    obtain⟨v,g⟩:=q;exact Ey r w c a b k m hp f v g hq
  simp only
  rw[AF ω];exact Bi r w c a ω k m hp
theorem rL:(prog.info? 45).map (λi=>(i.zero,i.size,i.bytes))=some (some (.agg #[.string ByteArray.empty,.string ByteArray.empty,.bool false]),3,40):=κ
theorem sC{P:Program}{z:Value}{a b:Nat}(h:(P.info? e).map (λi=>(i.zero,i.size,i.bytes))=some (some z,a,b)):∃i,P.info? e=some i/\i.zero=some z/\i.size=a/\i.bytes=b:=by
 obtain⟨i,d,c⟩:=EM.1 h;simp only[EG]at c;exact⟨i,d,c⟩
theorem rk{W c:World}{b:Nat}{n B:Nat}{g:List Value}(d:Below B W w)(own:w.ownsRow B e b v n g)(a:w.grownBy c v.ownBlock)(h:B<=w.heap.size):Below B W c :=d.j ⟨a.os,a.tape,a.output,a.size,λk i=>a.block k ω (λf=>by have:=(own.lt k f.symm).1;omega)⟩
theorem uv{r d:ByteArray}{c:Ch}(f:0<r.size)(h:QI r=some (c,d)):d.size<r.size/\c.1.size<=255/\c.2.1.size<=255:=by
 obtain⟨g,i,t,k3,j⟩:=qO f h;refine⟨?_,g,i⟩;have a:=BY List.length k3;have b:=BY List.length j;rw[ME]at b;rw[AE,ME]at a;have k:2<=(MQ c).length:=by unfold MQ;split<;>simp<;>omega
 simp only[CA]at a b;omega
def mz(w d:World)(e:Ending)(b:Option (List Ch)):Prop:=∃a c,e=.returned (.tuple #[.slice a (b.getD []).length c,.bool b.isSome])/\OwnS d a (MJ (b.getD []))/\(∀g,blk a (b.getD []).length=some g->w.heap.size<=g)/\Below w.heap.size w d
theorem XQ{b:World}{a:Option Addr}{c:Nat}(hv:v=.tuple #[.slice a 0 c,.bool false])(d:Below w.heap.size w b):mz w b (.returned v) none:=⟨a,c,by rw[hv];rfl,.inl rfl,λg h=>(by cases h),d⟩
theorem yy{f:World}{y:Value}{o:List Ch}(h:f.ownsRow w.heap.size e 3 y o.length (MJ o))(hv:v=.tuple #[y,.bool true])(j:Below w.heap.size w f):mz w f (.returned v) (some o):=by
 rcases MO h with ⟨c,d⟩|⟨g,b,c,d,_,k⟩
 ·have:o=[]:=AB d
  subst this;exact⟨none,0,by rw[hv,c];rfl,.inl rfl,λg h=>(by cases h),j⟩
 refine⟨_,b,by rw[hv,c];rfl,.inr ⟨g,rfl,k⟩,λl a=>?_,j⟩
 simp only[GF]at a
 by_cases i:o.length=0
 ·rw[i]at a;cases a
 rw[MS g 0 _ i]at a;cases a;exact d
theorem oA{B:Nat}{y:Value}{o:List Ch}(h:w.ownsRow B e 3 y o.length (MJ o)):∃a c,y=.slice a o.length c/\Chs w a o:=by
 rcases MO h with ⟨b,c⟩|⟨g,a,b,c,_,d⟩
 ·have:o=[]:=AB c
  subst this;exact⟨none,0,b,.inl rfl⟩
 exact⟨_,a,b,d.chs⟩
theorem yq(o:List Ch)(c:Ch):MJ (o++[c])=MJ o++[.string c.1,.string c.2.1,.bool c.2.2]:=by rw[xq];rfl
theorem Dj(w:World)(A:Obj)(a:Array Value)(t:TypeId):∀j u,a.toList[j]?=some u->((w.alloc A).alloc (.cells a t)).cell? ((⟨w.heap.size+1,0,none⟩:Addr).add j)=some u:=by
 have h:=AW (w.alloc A) (.cells a t);rw[BB]at h;exact World.news_of_block h
theorem uf(k v:ByteArray)(g:Bool):∀u∈[Value.string k,.string v,.bool g],u.oneCell'=true:=by
 intro u a;simp only[DX,EE,GR]at a;rcases a with rfl|rfl|rfl<;>rfl
theorem By(s:ByteArray)(w:World)(hs:s.size<=1048576):Calls prog 133 #[.string s] w λe w'=>mz w w' e (YX s):=by
 obtain⟨R,C⟩:∃R,Hid (R=YX s):=⟨_,Z rfl⟩;rw[<-C.l];obtain⟨i0,S,T,U,W⟩:=sC rL;have HI:=Z (AH S (AH T (AH U W)));clear S T U W;go_enter func133,ntmps133;go_wp2_with fail;go_loopw [0,4] (λx y wr=>∃(j:Nat) (o:List Ch) (r:ByteArray),x=.string r/\j+o.length=21/\r.size<=1048576/\Hid (RV j r o=RV 21 s [])/\Hid (∀z∈o,z.1.size<=1048576/\z.2.1.size<=1048576)/\wr.ownsRow w.heap.size 45 3 y o.length (MJ o)/\Below w.heap.size w wr) (λx _ _=>match x with | .string r=>r.size|_=>0)
 case atStart =>
  exact⟨21,[],s,rfl,rfl,hs,rfl,λz f=>(by simp at f),CE _ _ _ _,AC _ _⟩
 case round =>
  obtain⟨j,o,r,rfl,hj,bH,K,D,I,H⟩:=hrel;obtain⟨ya,yc,rfl,O⟩:=oA I;have L:=Z I;have h:=Z H;have k:=H.size;have G:=Z O;clear I H O
  have A:∀(b:Bool),Hid (RV j r o=some (o,r))->Hid (R=if NL o=true then some o else none):=λb hh=>by
   show _=_;have:=K.l;rw[hh.l]at this;rw[C.l];unfold YX;rw[<-this]
  by_cases E:r.size=0
  ·have he:r.toList.isEmpty=true:=by rw[VF];exact AM E
   have c:=A true (by show _=_;cases j<;>simp[RV,E]);clear A
   cases i:NL o with
   | true =>
    rw[i,AF rfl]at c;go_wp2_with (go_at_call 29;refine(dk _ o _ _ G.l ω D.l).A ?_;rw[i];rintro e q ⟨rfl,a⟩);go_ret2;rw[c.l];exact yy (LR L.l a) rfl (h.l.j (a.A k))
   | false =>
    rw[i,AG σ]at c;go_wp2_with (go_at_call 29;refine(dk _ o _ _ G.l ω D.l).A ?_;rw[i];rintro e q ⟨rfl,a⟩);go_ret2;rw[c.l]
    exact XQ rfl (by first|exact h.l.j (a.A k)|exact(h.l.j (a.A k)).alloc (by have:=a.size;omega) _)
  have he:r.toList.isEmpty=false:=by rw[VF];exact AJ E
  by_cases hl:(o.length:Int)<=20
  ·obtain⟨F,rfl⟩:∃F,j=F+1:=⟨j-1,ω⟩
   have d:=K.l;rw[RV,AG E]at d;have u:=Z (Fk r · bH ω);clear A
   by_cases t:1<b0 r
   focus
    have B:fi r=none:=by unfold fi;exact AF t
    rw[AF t]at d;have c:Hid (R=none):=by show _=_;rw[C.l];unfold YX;rw[<-d]
    rw[B]at u;clear t B
   rotate_left
   focus
    rw[AG t]at d;have B:fi r=QI r:=by unfold fi;exact AG t
    rw[B]at u;clear t B
    cases hq:QI r
    focus
     rw[hq]at d u;have c:Hid (R=none):=by show _=_;rw[C.l];unfold YX;rw[<-d]
     clear hq
    rotate_left
    focus
     rename_i p;obtain⟨⟨m,n,l⟩,X⟩:=p;obtain⟨q1,q2,q3⟩:=uv ω hq;rw[hq]at d u;have aZ:Hid (RV F X (o++[(m,n,l)])=RV 21 s []):=d;clear hq d K;simp only at q2 q3
     go_wp2_with (first|(go_at_call 166;refine(u.l _).A ?_;rintro e q ⟨Q,a⟩;simp only[pN]at Q;subst Q;have bI:=a.size;have P:=Z (((LR L.l a).alloc (.cells #[.string m,.string n,.bool l] 45)).alloc (.cells #[.string m,.string n,.bool l] 45));have aW:=Z (((h.l.j (a.A k)).alloc ω (.cells #[.string m,.string n,.bool l] 45)).alloc τ (.cells #[.string m,.string n,.bool l] 45));clear a)|(at_builtin;refine QN _ rfl _ _ 40 rfl w.heap.size underlying40 HI.l rfl ω _ o.length _ rfl P.l ⟨q.heap.size+1,0,none⟩ 1 1 [.string m,.string n,.bool l] rfl rfl (Dj q _ _ _) (uf _ _ _) τ (q.heap.size+1+1) σ ?_;intro g cap w7 N M aP bG;have aY:=Z N;have aX:=Z (rk aW.l P.l M τ);clear N M aP))
     refine⟨⟨F,o++[(m,n,l)],X,rfl,τ,ω,aZ.l,λz f=>?_,?_,aX.l⟩,by simp only;omega⟩
     ·rcases BS.1 f with f|f
      ·exact D.l z f
      simp at f;subst f;exact⟨by simp only;omega,by simp only;omega⟩
     rw[yq,AE];exact aY.l
   rotate_left
   all_goals
    go_wp2_with (go_at_call 166;refine(u.l _).A ?_;rintro e q ⟨⟨a1,a2,a3,a4,rfl⟩,a⟩);go_ret2;rw[c.l]
    exact XQ rfl (by first|exact h.l.j (a.A k)|exact(h.l.j (a.A k)).alloc (by have:=a.size;omega) _)
  have bE:j=0:=ω
  subst bE;have c:=A true rfl;clear A;have i:NL o=false:=gi ω;rw[i,AG σ]at c;go_wp2_with (go_at_call 29;refine(dk _ o _ _ G.l ω D.l).A ?_;rw[i];rintro e q ⟨rfl,a⟩);go_ret2;rw[c.l];exact XQ rfl (h.l.j (a.A k))
