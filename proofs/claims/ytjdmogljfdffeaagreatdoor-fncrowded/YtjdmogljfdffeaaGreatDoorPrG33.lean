import Derived.Test.YtjdmogljfdffeaaGreatDoorPrG35
set_option maxHeartbeats 16000000
set_option maxRecDepth 8000
set_option linter.all false
namespace Go.Proofs.YtjdmogljfdffeaaGreatDoor
open Tryz
open Go.RowKit
def SG(r:ByteArray):Value:=match pc r with|none=>.tuple #[.string ⟨#[]⟩,.string ⟨#[]⟩,.bool false]|some (k,m)=>.tuple #[.string k,.string m,.bool true]
theorem YC(r:ByteArray)(h:0<r.size):(r[0]'h).toNat=b0 r:=by
 unfold b0;have a:0<r.data.toList.length:=h;rw[AZ,BQ a];rfl
theorem ch(r:ByteArray)(w:World)(q:r.size<=1048576):Calls prog 194 #[.string r] w λe a=>e=.returned (SG r)/\Below w.heap.size w a:=by
 by_cases i:0<r.size
 ·have j:=YC r i
  obtain⟨b,a⟩:∃b,b=b0 r:=⟨_,rfl⟩;obtain⟨e,f⟩:∃e,e=1+b:=⟨_,rfl⟩;have n:b<=255:=by rw[a];exact jy r
  rw[<-a]at j;have o:(1:Int)<=(r.size:Int):=ω
  have h:r.toList.isEmpty=false:=by rw[VF];exact AJ ω
  have p:(1:Int)+(b:Int)=(e:Int):=ω
  have k:(0:Int)<=(e:Int):=ω
  have l:(1:Int)<=(e:Int):=ω
  have m:IntKind.i64.wrap (e:Int)=(e:Int):=by simp[IntKind.wrap,IntKind.bits,IntKind.signed];omega
  by_cases d:1+b<=r.size
  ·have c:Hid (SG r=.tuple #[.string (r.extract 1 e),.string (r.extract e r.size),.bool true]):=by
    show _=_;unfold SG pc;rw[<-a,AF ⟨ω,d⟩,<-f]
   have g:(e:Int)<=(r.size:Int):=ω
   clear a d f;go_enter func194,ntmps194;go_wp2;go_quiet (fail);go_wp2;go_ret3;exact⟨by rw[c.l];rfl,below_drewN (AC _ _) _⟩
  have c:Hid (SG r=.tuple #[.string ⟨#[]⟩,.string ⟨#[]⟩,.bool false]):=by
   show _=_;unfold SG pc;rw[<-a,AG ω]
  have g:(r.size:Int)<(e:Int):=ω
  clear a d f;go_enter func194,ntmps194;go_wp2;go_ret3;exact⟨by rw[c.l];rfl,AC _ _⟩
 have c:Hid (SG r=.tuple #[.string ⟨#[]⟩,.string ⟨#[]⟩,.bool false]):=by
  show _=_;unfold SG pc;rw[AG ω]
 have a:(r.size:Int)<1:=ω
 have h:r.toList.isEmpty=true:=by rw[VF];exact AM ω
 go_enter func194,ntmps194;go_wp2;go_ret3;exact⟨by rw[c.l];rfl,AC _ _⟩
theorem bd(r:ByteArray)(w:World)(q:r.size<=1048576):Calls prog 187 #[.string r] w λe a=>e=.returned (SG r)/\Below w.heap.size w a:=by
 by_cases i:0<r.size
 ·have j:=YC r i
  obtain⟨b,a⟩:∃b,b=b0 r:=⟨_,rfl⟩;obtain⟨e,f⟩:∃e,e=1+b:=⟨_,rfl⟩;have n:b<=255:=by rw[a];exact jy r
  rw[<-a]at j;have o:(1:Int)<=(r.size:Int):=ω
  have h:r.toList.isEmpty=false:=by rw[VF];exact AJ ω
  have p:(1:Int)+(b:Int)=(e:Int):=ω
  have k:(0:Int)<=(e:Int):=ω
  have l:(1:Int)<=(e:Int):=ω
  have m:IntKind.i64.wrap (e:Int)=(e:Int):=by simp[IntKind.wrap,IntKind.bits,IntKind.signed];omega
  by_cases d:1+b<=r.size
  ·have c:Hid (SG r=.tuple #[.string (r.extract 1 e),.string (r.extract e r.size),.bool true]):=by
    show _=_;unfold SG pc;rw[<-a,AF ⟨ω,d⟩,<-f]
   have g:(e:Int)<=(r.size:Int):=ω
   clear a d f;go_enter func187,ntmps187;go_wp2;go_quiet (fail);go_wp2;go_ret3;exact⟨by rw[c.l];rfl,below_drewN (AC _ _) _⟩
  have c:Hid (SG r=.tuple #[.string ⟨#[]⟩,.string ⟨#[]⟩,.bool false]):=by
   show _=_;unfold SG pc;rw[<-a,AG ω]
  have g:(r.size:Int)<(e:Int):=ω
  clear a d f;go_enter func187,ntmps187;go_wp2;go_ret3;exact⟨by rw[c.l];rfl,AC _ _⟩
 have c:Hid (SG r=.tuple #[.string ⟨#[]⟩,.string ⟨#[]⟩,.bool false]):=by
  show _=_;unfold SG pc;rw[AG ω]
 have a:(r.size:Int)<1:=ω
 have h:r.toList.isEmpty=true:=by rw[VF];exact AM ω
 go_enter func187,ntmps187;go_wp2;go_ret3;exact⟨by rw[c.l];rfl,AC _ _⟩
theorem XG{w a:World}{o:Obj}(h:Below (w.alloc o).heap.size (w.alloc o) a):Below w.heap.size w a:=(KW _ _).j (h.A σ)
def fi(r:ByteArray):Option (Ch×ByteArray):=if 1<b0 r then none else QI r
def pN(o:Option (Ch×ByteArray))(e:Ending):Prop:=match o with
 | none=>∃k v g b,e=.returned (.tuple #[.agg #[.string k,.string v,.bool g],.string b,.bool false])
 | some (c,r')=>e=.returned (.tuple #[.agg #[.string c.1,.string c.2.1,.bool c.2.2],.string r',.bool true])
theorem gd{r:ByteArray}(h:pc r=none):SG r=.tuple #[.string ⟨#[]⟩,.string ⟨#[]⟩,.bool false]:=by unfold SG;rw[h]
theorem fg{r k m:ByteArray}(h:pc r=some (k,m)):SG r=.tuple #[.string k,.string m,.bool true]:=by unfold SG;rw[h]
theorem Bi(r:ByteArray)(w:World)(t:r.size<=1048576)(n:0<r.size)(c:b0 r=1)(k m:ByteArray)(d:pc (r.extract 1 r.size)=some (k,m)):Calls prog 166 #[.string r] w λe a=>e=.returned (.tuple #[.agg #[.string k,.string ⟨#[]⟩,.bool true],.string m,.bool true])/\Below w.heap.size w a:=by
 have o:=YC r n;rw[c]at o;have f:=Z (fg d);have h:(r.extract 1 r.size).size<=1048576:=by simp only[AK];omega
 clear d c;go_enter func166,ntmps166;go_wp2_with (go_at_call 187;refine(bd _ _ h).A ?_;rw[f.l];rintro e u ⟨rfl,b⟩;have g:=b.size;simp only[BB,BJ]at g;obtain⟨i,p,j,q,l,s⟩:=k3 b w.heap.size (.string ⟨#[]⟩) (.string ⟨#[]⟩) (.bool true);have a:=Z (XG b);clear b);refine AI (v:=.tuple #[.agg #[.string k,.string ⟨#[]⟩,.bool true],.string m,.bool true]) (by simp[results,results166,go_sem,i,j,l]) rfl ⟨rfl,?_⟩
 (first|exact(((a.l.setCell (Y _) _).setCell (Y _) _).setCell (Y _) _)|exact((((a.l.setCell (Y _) _).setCell (Y _) _).setCell (Y _) _).setCell (Y _) _)|exact(((((a.l.setCell (Y _) _).setCell (Y _) _).setCell (Y _) _).setCell (Y _) _).setCell (Y _) _)|exact((((((a.l.setCell (Y _) _).setCell (Y _) _).setCell (Y _) _).setCell (Y _) _).setCell (Y _) _).setCell (Y _) _)|exact(((((((a.l.setCell (Y _) _).setCell (Y _) _).setCell (Y _) _).setCell (Y _) _).setCell (Y _) _).setCell (Y _) _).setCell (Y _) _))
theorem C7(r:ByteArray)(w:World)(h:r.size<=1048576)(c:0<r.size)(d:1<b0 r):Calls prog 166 #[.string r] w λe a=>(∃k v g b,e=.returned (.tuple #[.agg #[.string k,.string v,.bool g],.string b,.bool false]))/\Below w.heap.size w a:=by
 have e:=YC r c;obtain⟨b,a⟩:∃b,b=b0 r:=⟨_,rfl⟩;rw[<-a]at e d;have f:((b:Int) != 0)=true:=τ
 have g:((b:Int) != 1)=true:=τ
 clear a;go_enter func166,ntmps166;go_wp2;refine AI (v:=.tuple #[.agg #[.string ⟨#[]⟩,.string ⟨#[]⟩,.bool false],.string ⟨#[]⟩,.bool false]) (by simp[results,results166,go_sem]) rfl ⟨⟨_,_,_,_,rfl⟩,?_⟩;exact KW _ _
theorem Gq(r:ByteArray)(w:World)(q:r.size<=1048576)(l:0<r.size)(c:b0 r=1)(d:pc (r.extract 1 r.size)=none):Calls prog 166 #[.string r] w λe a=>(∃k v g b,e=.returned (.tuple #[.agg #[.string k,.string v,.bool g],.string b,.bool false]))/\Below w.heap.size w a:=by
 have m:=YC r l;rw[c]at m;have f:=Z (gd d);have h:(r.extract 1 r.size).size<=1048576:=by simp only[AK];omega
 clear d c;go_enter func166,ntmps166;go_wp2_with (go_at_call 187;refine(bd _ _ h).A ?_;rw[f.l];rintro e s ⟨rfl,b⟩;have g:=b.size;simp only[BB,BJ]at g;obtain⟨i,n,j,o,k,p⟩:=k3 b w.heap.size (.string ⟨#[]⟩) (.string ⟨#[]⟩) (.bool true);have a:=Z (XG b);clear b);refine AI (v:=.tuple #[.agg #[.string ⟨#[]⟩,.string ⟨#[]⟩,.bool true],.string ⟨#[]⟩,.bool false]) (by simp[results,results166,go_sem,i,j,k]) rfl ⟨⟨_,_,_,_,rfl⟩,?_⟩
 (first|exact(((a.l.setCell (Y _) _).setCell (Y _) _).setCell (Y _) _)|exact((((a.l.setCell (Y _) _).setCell (Y _) _).setCell (Y _) _).setCell (Y _) _)|exact(((((a.l.setCell (Y _) _).setCell (Y _) _).setCell (Y _) _).setCell (Y _) _).setCell (Y _) _)|exact((((((a.l.setCell (Y _) _).setCell (Y _) _).setCell (Y _) _).setCell (Y _) _).setCell (Y _) _).setCell (Y _) _)|exact(((((((a.l.setCell (Y _) _).setCell (Y _) _).setCell (Y _) _).setCell (Y _) _).setCell (Y _) _).setCell (Y _) _).setCell (Y _) _))
theorem Ca(r:ByteArray)(w:World)(q:r.size<=1048576)(l:0<r.size)(c:b0 r=0)(d:pc (r.extract 1 r.size)=none):Calls prog 166 #[.string r] w λe a=>(∃k v g b,e=.returned (.tuple #[.agg #[.string k,.string v,.bool g],.string b,.bool false]))/\Below w.heap.size w a:=by
 have m:=YC r l;rw[c]at m;have f:=Z (gd d);have h:(r.extract 1 r.size).size<=1048576:=by simp only[AK];omega
 clear d c;go_enter func166,ntmps166;go_wp2_with (go_at_call 187;refine(bd _ _ h).A ?_;rw[f.l];rintro e s ⟨rfl,b⟩;have g:=b.size;simp only[BB,BJ]at g;obtain⟨i,n,j,o,k,p⟩:=k3 b w.heap.size (.string ⟨#[]⟩) (.string ⟨#[]⟩) (.bool false);have a:=Z (XG b);clear b);refine AI (v:=.tuple #[.agg #[.string ⟨#[]⟩,.string ⟨#[]⟩,.bool false],.string ⟨#[]⟩,.bool false]) (by simp[results,results166,go_sem,i,j,k]) rfl ⟨⟨_,_,_,_,rfl⟩,?_⟩
 (first|exact(((a.l.setCell (Y _) _).setCell (Y _) _).setCell (Y _) _)|exact((((a.l.setCell (Y _) _).setCell (Y _) _).setCell (Y _) _).setCell (Y _) _)|exact(((((a.l.setCell (Y _) _).setCell (Y _) _).setCell (Y _) _).setCell (Y _) _).setCell (Y _) _)|exact((((((a.l.setCell (Y _) _).setCell (Y _) _).setCell (Y _) _).setCell (Y _) _).setCell (Y _) _).setCell (Y _) _)|exact(((((((a.l.setCell (Y _) _).setCell (Y _) _).setCell (Y _) _).setCell (Y _) _).setCell (Y _) _).setCell (Y _) _).setCell (Y _) _))
