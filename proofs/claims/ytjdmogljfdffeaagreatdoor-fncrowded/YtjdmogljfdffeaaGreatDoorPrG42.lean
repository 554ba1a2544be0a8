import Derived.Test.YtjdmogljfdffeaaGreatDoorPrRpS
import Derived.Test.YtjdmogljfdffeaaGreatDoorPrFate
import Derived.Test.YtjdmogljfdffeaaGreatDoorPrG38
import Derived.Test.YtjdmogljfdffeaaGreatDoorPrG34
import Derived.Test.YtjdmogljfdffeaaGreatDoorPrFbS
set_option maxHeartbeats 16000000
set_option maxRecDepth 8000
set_option linter.all false
namespace Go.Proofs.YtjdmogljfdffeaaGreatDoor
open Tryz
open Go.RowKit
theorem uh(s:ByteArray)(n:Int)(w:World)(z:s.size<=1048576):Calls prog 121 #[.string s,.int .i64 n] w λe a=>e=.returned (VC (MI s n))/\Below w.heap.size w a:=by
 have j:∀o,Below w.heap.size w (w.alloc o):=λo=>KW _ _
 by_cases i:1<=n/\n<=8
 focus
  obtain⟨m,rfl⟩:∃m:Nat,n=(m:Int):=⟨n.toNat,ω⟩;have h:decide (1<=(m:Int)/\(m:Int)<=8)=true:=τ
  by_cases g:s.size=64
  ·by_cases f:rpN (s.extract m 64)<=56-m
   ·exact Av s m w g ω ω f
   have c:=LN (YV (s:=s) (n:=(m:Int)) (λa=>f (by have:=a.2.2.2.1;rw[BM]at this;omega)))
   have o:(s.size:Int)=64:=ω
   obtain⟨b,k⟩:∃b,s.extract m 64=b:=⟨_,rfl⟩;have l:b.size=64-m:=by rw[<-k];simp only[AK];omega
   obtain⟨q,y⟩:∃q:Nat,b.size=q:=⟨_,rfl⟩;have r:7<b.size:=ω
   have p:=qg b 7 r;rw[k]at f;obtain⟨N,d⟩:∃N,N=(b.data.toList.getD 7 0).toNat:=⟨_,rfl⟩;rw[<-d]at p;have u:(64-(m:Int)-8)<(N:Int):=by have:rpN b=N:=d.symm;omega
   have t:N<=255:=by rw[d];have:=GT (b.data.toList.getD 7 0);omega
   have x:(7:Int)<(q:Int):=ω
   have v:m+q=64:=ω
   clear l d f;go_enter func121,ntmps121
   go_wp2_with (first|(go_at_call 37;refine(QO _ _).A ?_;rw[h];rintro e d ⟨rfl,rfl⟩)|(go_at_call 106;refine(gm _ _ ω ω).A ?_;rintro e d ⟨rfl,rfl⟩))
   refine AI (v:=.tuple #[NK 0 0 0 ⟨#[]⟩,.bool false]) (by simp[results,results121,go_sem]) rfl ⟨by rw[c.l];rfl,?_⟩;exact j _
  focus
   have c:=LN (YV (s:=s) (n:=(m:Int)) (λa=>g a.2.2.1));have o:((s.size:Int) != 64)=true:=τ
   clear g
  rotate_left
 rotate_left
 focus
  have c:=LN (YV (s:=s) (n:=n) (λa=>i ⟨a.1,a.2.1⟩));have h:decide (1<=n/\n<=8)=false:=by simpa using i
  clear i
 rotate_left
 all_goals
  go_enter func121,ntmps121
  go_wp2_with (first|(go_at_call 37;refine(QO _ _).A ?_;rw[h];rintro e d ⟨rfl,rfl⟩))
  refine AI (v:=.tuple #[NK 0 0 0 ⟨#[]⟩,.bool false]) (by simp[results,results121,go_sem]) rfl ⟨by rw[c.l];rfl,?_⟩;exact j _
def rU(a:List Int):List Value:=a.map (Value.int .i64)
theorem Row.ints{w:World}{g:Nat}{a:List Int}(h:Row w g (rU a)):Ints w (some ⟨g,0,none⟩) a :=.inr ⟨g,0,rfl,h.lt,λi b=>by rw[BH];exact h.cell i _ (by simp[rU,List.getD,b])⟩
theorem ew{w:World}{B:Nat}{e:TypeId}{a:Nat}{y:Value}{n b i:Nat}{c:List Value}(h:w.ownsRow B e a y n c)(d:y.ownBlock≠some b)(u:Value):(w.setCell ⟨b,i,none⟩ u).ownsRow B e a y n c:=AQ h d u
theorem n4(X:World)(b:Nat)(c:X.heap.size=b)(a:Array Value)(t:TypeId):∀j u,a.toList[j]?=some u->(X.alloc (.cells a t)).cell? ((⟨b,0,none⟩:Addr).add j)=some u:=by
 subst c;exact World.news_of_block (AW X _)
theorem yG(s:ByteArray)(w:World)(hs:s.size<=1048576):Calls prog 190 #[.string s] w λe a=>mz w a e (RU s):=by
 have cA:∀o,Below w.heap.size w (w.alloc o):=λo=>KW _ _
 obtain⟨R,O⟩:∃R,Hid (R=RU s):=⟨_,Z rfl⟩;rw[<-O.l];obtain⟨i0,a,c,b,d⟩:=sC rL;have HI:=Z (AH a (AH c (AH b d)));clear a c b d;go_enter func190,ntmps190;go_wp2_with fail;go_loopw [4,5] (λy x wr=>∃(j:Nat) (o:List Ch) (r:ByteArray),x=.string r/\j+o.length=21/\r.size<=1048576/\Hid (run j r o=run 21 s [])/\Hid (∀z∈o,z.1.size<=1048576/\z.2.1.size<=1048576)/\wr.ownsRow w.heap.size 45 3 y o.length (MJ o)/\Below w.heap.size w wr) (λ_ x _=>match x with | .string r=>r.size|_=>0)
 case atStart =>
  exact⟨21,[],s,rfl,rfl,hs,rfl,λz c=>(by simp at c),CJ _ #[] 0 (Y _) σ σ,cA _⟩
 case round =>
  obtain⟨j,o,r,rfl,hj,cH,P,M,b,a⟩:=hrel;obtain⟨ya,yc,rfl,c⟩:=oA b;have u:=Z b;have i:=Z a;have f:=a.size;have Q:=Z c;clear b a c
  have A:(Value.slice ya o.length yc).ownBlock≠some wr.heap.size:=λh=>by have:=(u.l.lt _ h).2;omega
  have N:Hid (run j r o=some (o,r))->Hid (R=if s.size≠0/\KZ o=s then some o else none):=λl=>by
   show _=_;have:=P.l;rw[l.l]at this;rw[O.l];unfold RU;rw[<-this]
  by_cases h0:0<(r.size:Int)
  focus
   by_cases hl:(o.length:Int)<=20
   ·obtain⟨I,rfl⟩:∃I,j=I+1:=⟨j-1,ω⟩
    have g:=P.l;rw[run,AG ω]at g;have hg:=YC r ω;obtain⟨b,H⟩:∃b,b=b0 r:=⟨_,rfl⟩;have cF:b<=255:=by rw[H];exact jy r
    rw[<-H]at hg;have L:(r.extract 1 r.size).size<=1048576:=by simp only[AK];omega
    clear N
    cases hp:pc (r.extract 1 r.size) with
    | none =>
     have y:=Z (gd hp)
     have d:Hid (R=none):=by
      show _=_;have e:QI r=none:=by unfold QI;rw[hp]
      rw[e]at g;rw[O.l];unfold RU;rw[<-g]
     clear hp H g
     by_cases bJ:b=1
     ·subst bJ
      go_wp2_with (go_at_call 194;refine(ch _ _ L).A ?_;rw[y.l];rintro e t ⟨rfl,a⟩;have n:=a.size;simp only[BB,BJ]at n;obtain⟨E,B,F,C,G,D⟩:=k3 a wr.heap.size (.string ⟨#[]⟩) (.string ⟨#[]⟩) (.bool true);have h:=Z (i.l.j ((XG a).A f));have x:=Z (LR (u.l.alloc _) a);clear a);go_ret2;rw[d.l];exact XQ rfl (h.l.alloc ω _)
     have a:((b:Int) == 1)=false:=τ
     go_wp2_with (go_at_call 194;refine(ch _ _ L).A ?_;rw[y.l];rintro e t ⟨rfl,a⟩;have n:=a.size;simp only[BB,BJ]at n;obtain⟨E,B,F,C,G,D⟩:=k3 a wr.heap.size (.string ⟨#[]⟩) (.string ⟨#[]⟩) (.bool false);have h:=Z (i.l.j ((XG a).A f));have x:=Z (LR (u.l.alloc _) a);clear a);go_ret2;rw[d.l];exact XQ rfl (h.l.alloc ω _)
    | some p =>
     obtain⟨k,m⟩:=p;have y:=Z (fg hp);have cE:m.size<=1048576:=by have:=mU hp;simp only[AK]at this;omega
     by_cases bJ:b=1
     ·have e:QI r=some ((k,ByteArray.empty,true),m):=by unfold QI;rw[hp];simp only;rw[AF ω]
      obtain⟨q1,q2,q3⟩:=uv ω e;rw[e]at g;have bI:Hid (run I m (o++[(k,ByteArray.empty,true)])=run 21 s []):=g;simp only at q2 q3;clear hp H g e;subst bJ
      go_wp2_with (first|(go_at_call 194;refine(ch _ _ L).A ?_;rw[y.l];rintro e t ⟨rfl,a⟩;have n:=a.size;simp only[BB,BJ]at n;obtain⟨E,B,F,C,G,D⟩:=k3 a wr.heap.size (.string ⟨#[]⟩) (.string ⟨#[]⟩) (.bool true);have h:=Z (i.l.j ((XG a).A f));have x:=Z (LR (u.l.alloc _) a);clear a)|(at_builtin;refine QN _ rfl _ _ 40 rfl w.heap.size underlying40 HI.l rfl ω _ o.length _ rfl ((ew x.l A (.string k)).alloc (.cells #[.string k,.string ⟨#[]⟩,.bool true] 45)) ⟨t.heap.size,0,none⟩ 1 1 [.string k,.string ⟨#[]⟩,.bool true] rfl rfl (n4 _ _ σ _ _) (uf _ _ _) τ (t.heap.size+1) σ ?_;intro ga cap w7 K d T bQ;have bH:=Z K;have X:=Z (rk ((h.l.setCell (p:=⟨wr.heap.size,0,none⟩) f (.string k)).alloc τ _) ((ew x.l A (.string k)).alloc _) d τ);clear K d T))
      refine⟨⟨I,o++[(k,ByteArray.empty,true)],m,rfl,τ,ω,bI.l,λz c=>?_,?_,X.l⟩,by simp only;omega⟩
      ·rcases BS.1 c with c|c
       ·exact M.l z c
       simp at c;subst c;exact⟨by simp only;omega,by simp only;first|omega|simp⟩
      rw[yq,AE];exact bH.l
     have a:((b:Int) == 1)=false:=τ
     have aW:m.size<=1048576:=cE
     cases hq:pc m with
     | none =>
      have S:=Z (gd hq)
      have d:Hid (R=none):=by
       show _=_;have e:QI r=none:=by unfold QI;rw[hp];simp only;rw[AG ω,hq]
       rw[e]at g;rw[O.l];unfold RU;rw[<-g]
      clear hp hq H g
      go_wp2_with (first|(have _g:=h;go_at_call 194;refine(ch _ _ aW).A ?_;rw[S.l];rintro e w3 ⟨rfl,c⟩;have U:=c.size;simp only[BB,BJ]at U;obtain⟨d0,bW,d1,bY,d2,bZ⟩:=k3 c wr.heap.size (.string k) (.string ⟨#[]⟩) (.bool false);have W:=Z ((h.l.setCell (p:=⟨wr.heap.size,0,none⟩) f (.string k)).j (c.A ξ));have bG:=Z (LR (ew x.l A (.string k)) c);clear c E F G B C D)|(go_at_call 194;refine(ch _ _ L).A ?_;rw[y.l];rintro e t ⟨rfl,a⟩;have n:=a.size;simp only[BB,BJ]at n;obtain⟨E,B,F,C,G,D⟩:=k3 a wr.heap.size (.string ⟨#[]⟩) (.string ⟨#[]⟩) (.bool false);have h:=Z (i.l.j ((XG a).A f));have x:=Z (LR (u.l.alloc _) a);clear a))
      go_ret2;rw[d.l];exact XQ rfl (W.l.alloc ω _)
     | some q =>
      obtain⟨v,m'⟩:=q;have S:=Z (fg hq);have e:QI r=some ((k,v,false),m'):=by unfold QI;rw[hp];simp only;rw[AG ω,hq]
      obtain⟨q1,q2,q3⟩:=uv ω e;rw[e]at g;have bI:Hid (run I m' (o++[(k,v,false)])=run 21 s []):=g;simp only at q2 q3;clear hp hq H g e
      go_wp2_with (first|(have _g:=h;go_at_call 194;refine(ch _ _ aW).A ?_;rw[S.l];rintro e w3 ⟨rfl,c⟩;have U:=c.size;simp only[BB,BJ]at U;obtain⟨d0,bW,d1,bY,d2,bZ⟩:=k3 c wr.heap.size (.string k) (.string ⟨#[]⟩) (.bool false);have W:=Z ((h.l.setCell (p:=⟨wr.heap.size,0,none⟩) f (.string k)).j (c.A ξ));have bG:=Z (LR (ew x.l A (.string k)) c);clear c E F G B C D)|(go_at_call 194;refine(ch _ _ L).A ?_;rw[y.l];rintro e t ⟨rfl,a⟩;have n:=a.size;simp only[BB,BJ]at n;obtain⟨E,B,F,C,G,D⟩:=k3 a wr.heap.size (.string ⟨#[]⟩) (.string ⟨#[]⟩) (.bool false);have h:=Z (i.l.j ((XG a).A f));have x:=Z (LR (u.l.alloc _) a);clear a)|(at_builtin;refine QN _ rfl _ _ 40 rfl w.heap.size underlying40 HI.l rfl ω _ o.length _ rfl ((ew bG.l A (.string v)).alloc (.cells #[.string k,.string v,.bool false] 45)) ⟨w3.heap.size,0,none⟩ 1 1 [.string k,.string v,.bool false] rfl rfl (n4 _ _ σ _ _) (uf _ _ _) τ (w3.heap.size+1) σ ?_;intro ga cap w7 K d T bQ;have bH:=Z K;have X:=Z (rk ((W.l.setCell (p:=⟨wr.heap.size,1,none⟩) f (.string v)).alloc τ _) ((ew bG.l A (.string v)).alloc _) d τ);clear K d T))
      refine⟨⟨I,o++[(k,v,false)],m',rfl,τ,ω,bI.l,λz c=>?_,?_,X.l⟩,by simp only;omega⟩
      ·rcases BS.1 c with c|c
       ·exact M.l z c
       simp at c;subst c;exact⟨by simp only;omega,by simp only;first|omega|simp⟩
      rw[yq,AE];exact bH.l
   focus
    have h:j=0:=ω
    subst h;have d:=N rfl;clear N P
    by_cases c:s.size=0
    ·have b:((s.size:Int) == 0)=true:=by rw[beq_iff_eq];omega
     rw[AG (λl=>l.1 c)]at d;go_wp2;go_ret2;rw[d.l];exact XQ rfl (i.l.alloc f _)
    focus
     have b:((s.size:Int) == 0)=false:=by rw[ET];omega
     by_cases hF:KZ o=s
     ·rw[AF ⟨c,hF⟩]at d
      have g:=Z hF;clear hF;go_wp2_with (go_at_call 25;refine(dh _ o _ _ Q.l ω M.l).A ?_;rw[g.l];rintro e t ⟨rfl,a⟩);go_ret2;rw[d.l];exact yy (LR u.l a) rfl (i.l.j (a.A f))
     focus
     rotate_left
    rotate_left
   rotate_left
  rotate_left
  focus
   have d:=N (by show _=_;exact mL _ _ _ ω);clear N P
   by_cases c:s.size=0
   ·have b:((s.size:Int) == 0)=true:=by rw[beq_iff_eq];omega
    rw[AG (λl=>l.1 c)]at d;go_wp2;go_ret2;rw[d.l];exact XQ rfl (i.l.alloc f _)
   focus
    have b:((s.size:Int) == 0)=false:=by rw[ET];omega
    by_cases hF:KZ o=s
    ·rw[AF ⟨c,hF⟩]at d
     have g:=Z hF;clear hF;go_wp2_with (go_at_call 25;refine(dh _ o _ _ Q.l ω M.l).A ?_;rw[g.l];rintro e t ⟨rfl,a⟩);go_ret2;rw[d.l];exact yy (LR u.l a) rfl (i.l.j (a.A f))
    focus
    rotate_left
   rotate_left
  rotate_left
  all_goals
   rw[AG (λl=>hF l.2)]at d;obtain⟨G,g⟩:∃G,Hid (G=KZ o):=⟨_,Z rfl⟩;have k:(!G.toList == s.toList)=true:=by rw[g.l];simp only[JB,ET];intro l;rw[DF,DF]at l;exact hF (EP (IU l))
   clear hF;go_wp2_with (go_at_call 25;refine(dh _ o _ _ Q.l ω M.l).A ?_;rw[<-g.l];rintro e t ⟨rfl,a⟩);go_ret2;rw[d.l];exact XQ rfl ((i.l.j (a.A f)).alloc (by have:=a.size;omega) _)
