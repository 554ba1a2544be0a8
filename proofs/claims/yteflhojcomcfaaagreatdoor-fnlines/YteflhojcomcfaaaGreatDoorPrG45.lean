import Derived.Test.YteflhojcomcfaaaGreatDoorPrG26
set_option maxHeartbeats 16000000
set_option maxRecDepth 8000
set_option linter.all false
namespace Go.Proofs.YteflhojcomcfaaaGreatDoor
open Tryz
open Go.RowKit
def UN(r:Q4):Ra:=match pc r with|none=>.tuple #[Ow ⟨#[]⟩,Ow ⟨#[]⟩,Q1 false]|some (k,m)=>.tuple #[Ow k,Ow m,Q1 true]
theorem dt(r:Q4)(h:0<r.size):(r[0]'h).toNat=b0 r:=by
 unfold b0;have a:0<r.data.toList.length:=h;rw[AY,AO a];rfl
theorem jk(r:Q4)(w:Q9)(s:r.size<=1048576):Calls prog 285 #[Ow r] w λe a=>e=Q2 (UN r)/\Q3 w a:=by
 by_cases j:0<r.size
 .have k:=dt r j
  obtain⟨b,a⟩:=u (b0 r);obtain⟨e,g⟩:=u (1+b);have o:b<=255:=by rw[a];exact ri r
  rw[<-a]at k;have p:(1:Int)<=(r.size:Int):=d
  have i:r.toList.isEmpty=false:=by rw[YH];exact AH d
  have q:(1:Int)+(b:Int)=(e:Int):=d
  have l:(0:Int)<=(e:Int):=d
  have m:(1:Int)<=(e:Int):=d
  have n:IntKind.i64.wrap (e:Int)=(e:Int):=by simp[IntKind.wrap,IntKind.bits,IntKind.signed];omega
  by_cases f:1+b<=r.size
  .have c:Hid (UN r=.tuple #[Ow (r.extract 1 e),Ow (r.extract e r.size),Q1 true]):=by
    show _=_;unfold UN pc;rw[<-a,G ⟨d,f⟩,<-g]
   have h:(e:Int)<=(r.size:Int):=d
   clear a f g;go_enter func285,ntmps285;go_wp2;go_quiet (fail);go_wp2;go_ret3;exact⟨by rw[c.j];rfl,below_drewN D _⟩
  have c:Hid (UN r=.tuple #[Ow ⟨#[]⟩,Ow ⟨#[]⟩,Q1 false]):=by
   show _=_;unfold UN pc;rw[<-a,A d]
  have h:(r.size:Int)<(e:Int):=d
  clear a f g;go_enter func285,ntmps285;go_wp2;go_ret3;exact⟨by rw[c.j];rfl,D⟩
 have c:Hid (UN r=.tuple #[Ow ⟨#[]⟩,Ow ⟨#[]⟩,Q1 false]):=by
  show _=_;unfold UN pc;rw[A d]
 have a:(r.size:Int)<1:=d
 have i:r.toList.isEmpty=true:=by rw[YH];exact AM d
 go_enter func285,ntmps285;go_wp2;go_ret3;exact⟨by rw[c.j];rfl,D⟩
theorem iz(r:Q4)(w:Q9)(s:r.size<=1048576):Calls prog 298 #[Ow r] w λe a=>e=Q2 (UN r)/\Q3 w a:=by
 by_cases j:0<r.size
 .have k:=dt r j
  obtain⟨b,a⟩:=u (b0 r);obtain⟨e,g⟩:=u (1+b);have o:b<=255:=by rw[a];exact ri r
  rw[<-a]at k;have p:(1:Int)<=(r.size:Int):=d
  have i:r.toList.isEmpty=false:=by rw[YH];exact AH d
  have q:(1:Int)+(b:Int)=(e:Int):=d
  have l:(0:Int)<=(e:Int):=d
  have m:(1:Int)<=(e:Int):=d
  have n:IntKind.i64.wrap (e:Int)=(e:Int):=by simp[IntKind.wrap,IntKind.bits,IntKind.signed];omega
  by_cases f:1+b<=r.size
  .have c:Hid (UN r=.tuple #[Ow (r.extract 1 e),Ow (r.extract e r.size),Q1 true]):=by
    show _=_;unfold UN pc;rw[<-a,G ⟨d,f⟩,<-g]
   have h:(e:Int)<=(r.size:Int):=d
   clear a f g;go_enter func298,ntmps298;go_wp2;go_quiet (fail);go_wp2;go_ret3;exact⟨by rw[c.j];rfl,below_drewN D _⟩
  have c:Hid (UN r=.tuple #[Ow ⟨#[]⟩,Ow ⟨#[]⟩,Q1 false]):=by
   show _=_;unfold UN pc;rw[<-a,A d]
  have h:(r.size:Int)<(e:Int):=d
  clear a f g;go_enter func298,ntmps298;go_wp2;go_ret3;exact⟨by rw[c.j];rfl,D⟩
 have c:Hid (UN r=.tuple #[Ow ⟨#[]⟩,Ow ⟨#[]⟩,Q1 false]):=by
  show _=_;unfold UN pc;rw[A d]
 have a:(r.size:Int)<1:=d
 have i:r.toList.isEmpty=true:=by rw[YH];exact AM d
 go_enter func298,ntmps298;go_wp2;go_ret3;exact⟨by rw[c.j];rfl,D⟩
theorem ak{w a:Q9}{o:Obj}(h:Below (w.alloc o).heap.size (w.alloc o) a):Q3 w a:=(LH _ _).E (h.J j)
def lm(r:Q4):Option (Ch×Q4):=if 1<b0 r then none else TM r
def vE(o:Option (Ch×Q4))(e:Ending):Prop:=match o with
 | none=>∃k v g b,e=.returned (.tuple #[.agg #[.string k,.string v,.bool g],.string b,.bool false])
 | some (c,r')=>e=.returned (.tuple #[.agg #[.string c.1,.string c.2.1,.bool c.2.2],.string r',.bool true])
theorem ml{r:Q4}(h:pc r=none):UN r=.tuple #[Ow ⟨#[]⟩,Ow ⟨#[]⟩,Q1 false]:=by unfold UN;rw[h]
theorem kz{r k m:Q4}(h:pc r=some (k,m)):UN r=.tuple #[Ow k,Ow m,Q1 true]:=by unfold UN;rw[h]
theorem H7(r:Q4)(w:Q9)(t:r.size<=1048576)(n:0<r.size)(c:b0 r=1)(k m:Q4)(d:pc (r.extract 1 r.size)=some (k,m)):Calls prog 270 #[Ow r] w λe a=>e=Q2 (.tuple #[.agg #[Ow k,Ow ⟨#[]⟩,Q1 true],Ow m,Q1 true])/\Q3 w a:=by
 have o:=dt r n;rw[c]at o;have f:=LE (kz d);have h:(r.extract 1 r.size).size<=1048576:=by simp only[AQ];omega
 clear d c;go_enter func270,ntmps270;go_wp2_with (go_at_call 298;refine(iz _ _ h).J ?_;rw[f.j];rintro e u ⟨rfl,b⟩;have g:=b.size;simp only[BG,BI]at g;obtain⟨i,p,j,q,l,s⟩:=k3 b w.heap.size (Ow ⟨#[]⟩) (Ow ⟨#[]⟩) (Q1 true);have a:=LE (ak b);clear b);refine H (v:=.tuple #[.agg #[Ow k,Ow ⟨#[]⟩,Q1 true],Ow m,Q1 true]) (by simp[results,results270,go_sem,i,j,l]) z ⟨z,?_⟩
 (first|exact(((a.j.setCell C _).setCell C _).setCell C _)|exact((((a.j.setCell C _).setCell C _).setCell C _).setCell C _)|exact(((((a.j.setCell C _).setCell C _).setCell C _).setCell C _).setCell C _)|exact((((((a.j.setCell C _).setCell C _).setCell C _).setCell C _).setCell C _).setCell C _)|exact(((((((a.j.setCell C _).setCell C _).setCell C _).setCell C _).setCell C _).setCell C _).setCell C _))
theorem Jr(r:Q4)(w:Q9)(h:r.size<=1048576)(c:0<r.size)(d:1<b0 r):Calls prog 270 #[Ow r] w λe a=>(∃k v g b,e=Q2 (.tuple #[.agg #[Ow k,Ow v,Q1 g],Ow b,Q1 false]))/\Q3 w a:=by
 have e:=dt r c;obtain⟨b,a⟩:=u (b0 r);rw[<-a]at e d;have f:((b:Int) != 0)=true:=q
 have g:((b:Int) != 1)=true:=q
 clear a;go_enter func270,ntmps270;go_wp2;refine H (v:=.tuple #[.agg #[Ow ⟨#[]⟩,Ow ⟨#[]⟩,Q1 false],Ow ⟨#[]⟩,Q1 false]) (by simp[results,results270,go_sem]) z ⟨⟨_,_,_,_,z⟩,?_⟩;exact LH _ _
