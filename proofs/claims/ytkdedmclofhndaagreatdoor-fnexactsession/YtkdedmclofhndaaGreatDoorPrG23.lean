import Derived.Test.YtkdedmclofhndaaGreatDoorPrG34
set_option maxHeartbeats 16000000
set_option maxRecDepth 8000
set_option linter.all false
namespace Go.Proofs.YtkdedmclofhndaaGreatDoor
open Tryz
open Go.RowKit
variable {r:yZ}{e:TypeId}{v:qD}{w w':xV}
def RY(r:yZ):qD:=match pc r with|none=>.tuple #[yQ ⟨#[]⟩,yQ ⟨#[]⟩,yR false]|some (k,m)=>.tuple #[yQ k,yQ m,yR true]
theorem XX(r:yZ)(h:0<r.size):(r[0]'h).toNat=b0 r:=by
 unfold b0;have a:0<r.data.toList.length:=h;rw[BF,AO a];rfl
theorem bh(r:yZ)(w:xV)(q:r.size<=1048576):Calls prog 243 #[yQ r] w λe w'=>e=yT (RY r)/\yX w w':=by
 by_cases i:0<r.size
 ·have j:=XX r i
  obtain⟨b,a⟩:∃b,b=b0 r:=⟨_,rfl⟩;obtain⟨e,f⟩:∃e,e=1+b:=⟨_,rfl⟩;have n:b<=255:=by rw[a];exact ka r
  rw[<-a]at j;have o:(1:Int)<=(r.size:Int):=ω
  have h:r.toList.isEmpty=false:=by rw[VA];exact AH ω
  have p:(1:Int)+(b:Int)=(e:Int):=ω
  have k:(0:Int)<=(e:Int):=ω
  have l:(1:Int)<=(e:Int):=ω
  have m:IntKind.i64.wrap (e:Int)=(e:Int):=by simp[IntKind.wrap,IntKind.bits,IntKind.signed];omega
  by_cases d:1+b<=r.size
  ·have c:Hid (RY r=.tuple #[yQ (r.extract 1 e),yQ (r.extract e r.size),yR true]):=by
    show _=_;unfold RY pc;rw[<-a,AI ⟨ω,d⟩,<-f]
   have g:(e:Int)<=(r.size:Int):=ω
   clear a d f;go_enter func243,ntmps243;go_wp2;go_quiet (fail);go_wp2;go_ret3;exact⟨by rw[c.j];rfl,below_drewN (AB _ _) _⟩
  have c:Hid (RY r=.tuple #[yQ ⟨#[]⟩,yQ ⟨#[]⟩,yR false]):=by
   show _=_;unfold RY pc;rw[<-a,AF ω]
  have g:(r.size:Int)<(e:Int):=ω
  clear a d f;go_enter func243,ntmps243;go_wp2;go_ret3;exact⟨by rw[c.j];rfl,AB _ _⟩
 have c:Hid (RY r=.tuple #[yQ ⟨#[]⟩,yQ ⟨#[]⟩,yR false]):=by
  show _=_;unfold RY pc;rw[AF ω]
 have a:(r.size:Int)<1:=ω
 have h:r.toList.isEmpty=true:=by rw[VA];exact AM ω
 go_enter func243,ntmps243;go_wp2;go_ret3;exact⟨by rw[c.j];rfl,AB _ _⟩
theorem ah(r:yZ)(w:xV)(q:r.size<=1048576):Calls prog 299 #[yQ r] w λe w'=>e=yT (RY r)/\yX w w':=by
 by_cases i:0<r.size
 ·have j:=XX r i
  obtain⟨b,a⟩:∃b,b=b0 r:=⟨_,rfl⟩;obtain⟨e,f⟩:∃e,e=1+b:=⟨_,rfl⟩;have n:b<=255:=by rw[a];exact ka r
  rw[<-a]at j;have o:(1:Int)<=(r.size:Int):=ω
  have h:r.toList.isEmpty=false:=by rw[VA];exact AH ω
  have p:(1:Int)+(b:Int)=(e:Int):=ω
  have k:(0:Int)<=(e:Int):=ω
  have l:(1:Int)<=(e:Int):=ω
  have m:IntKind.i64.wrap (e:Int)=(e:Int):=by simp[IntKind.wrap,IntKind.bits,IntKind.signed];omega
  by_cases d:1+b<=r.size
  ·have c:Hid (RY r=.tuple #[yQ (r.extract 1 e),yQ (r.extract e r.size),yR true]):=by
    show _=_;unfold RY pc;rw[<-a,AI ⟨ω,d⟩,<-f]
   have g:(e:Int)<=(r.size:Int):=ω
   clear a d f;go_enter func299,ntmps299;go_wp2;go_quiet (fail);go_wp2;go_ret3;exact⟨by rw[c.j];rfl,below_drewN (AB _ _) _⟩
  have c:Hid (RY r=.tuple #[yQ ⟨#[]⟩,yQ ⟨#[]⟩,yR false]):=by
   show _=_;unfold RY pc;rw[<-a,AF ω]
  have g:(r.size:Int)<(e:Int):=ω
  clear a d f;go_enter func299,ntmps299;go_wp2;go_ret3;exact⟨by rw[c.j];rfl,AB _ _⟩
 have c:Hid (RY r=.tuple #[yQ ⟨#[]⟩,yQ ⟨#[]⟩,yR false]):=by
  show _=_;unfold RY pc;rw[AF ω]
 have a:(r.size:Int)<1:=ω
 have h:r.toList.isEmpty=true:=by rw[VA];exact AM ω
 go_enter func299,ntmps299;go_wp2;go_ret3;exact⟨by rw[c.j];rfl,AB _ _⟩
theorem WT{o:Obj}(h:Below (w.alloc o).heap.size (w.alloc o) w'):yX w w':=(LG _ _).E (h.J σ)
def ex(r:yZ):Option (Ch×yZ):=if 1<b0 r then none else QY r
def rQ(o:Option (Ch×yZ))(e:Ending):Prop:=match o with
 | none=>∃k v g b,e=.returned (.tuple #[.agg #[.string k,.string v,.bool g],.string b,.bool false])
 | some (c,r')=>e=.returned (.tuple #[.agg #[.string c.1,.string c.2.1,.bool c.2.2],.string r',.bool true])
theorem fx(h:pc r=none):RY r=.tuple #[yQ ⟨#[]⟩,yQ ⟨#[]⟩,yR false]:=by unfold RY;rw[h]
theorem ek{k m:yZ}(h:pc r=some (k,m)):RY r=.tuple #[yQ k,yQ m,yR true]:=by unfold RY;rw[h]
theorem Fw(r:yZ)(w:xV)(t:r.size<=1048576)(n:0<r.size)(c:b0 r=1)(k m:yZ)(d:pc (r.extract 1 r.size)=some (k,m)):Calls prog 272 #[yQ r] w λe w'=>e=yT (.tuple #[.agg #[yQ k,yQ ⟨#[]⟩,yR true],yQ m,yR true])/\yX w w':=by
 have o:=XX r n;rw[c]at o;have f:=Y (ek d);have h:(r.extract 1 r.size).size<=1048576:=by simp only[AQ];omega
 clear d c;go_enter func272,ntmps272;go_wp2_with (go_at_call 299;refine(ah _ _ h).J ?_;rw[f.j];rintro e u ⟨rfl,b⟩;have g:=b.size;simp only[BE,BL]at g;obtain⟨i,p,j,q,l,s⟩:=k3 b w.heap.size (yQ ⟨#[]⟩) (yQ ⟨#[]⟩) (yR true);have a:=Y (WT b);clear b);refine AE (v:=.tuple #[.agg #[yQ k,yQ ⟨#[]⟩,yR true],yQ m,yR true]) (by simp[results,results272,go_sem,i,j,l]) rfl ⟨rfl,?_⟩
 (first|exact(((a.j.setCell (AA _) _).setCell (AA _) _).setCell (AA _) _)|exact((((a.j.setCell (AA _) _).setCell (AA _) _).setCell (AA _) _).setCell (AA _) _)|exact(((((a.j.setCell (AA _) _).setCell (AA _) _).setCell (AA _) _).setCell (AA _) _).setCell (AA _) _)|exact((((((a.j.setCell (AA _) _).setCell (AA _) _).setCell (AA _) _).setCell (AA _) _).setCell (AA _) _).setCell (AA _) _)|exact(((((((a.j.setCell (AA _) _).setCell (AA _) _).setCell (AA _) _).setCell (AA _) _).setCell (AA _) _).setCell (AA _) _).setCell (AA _) _))
theorem Ht(r:yZ)(w:xV)(i:r.size<=1048576)(c:0<r.size)(d:1<b0 r):Calls prog 272 #[yQ r] w λe w'=>(∃k v g b,e=yT (.tuple #[.agg #[yQ k,yQ v,yR g],yQ b,yR false]))/\yX w w':=by
 have f:=XX r c;obtain⟨b,a⟩:∃b,b=b0 r:=⟨_,rfl⟩;rw[<-a]at f d;have g:((b:Int) != 0)=true:=τ
 have h:((b:Int) != 1)=true:=τ
 clear a;go_enter func272,ntmps272;go_wp2;refine AE (v:=.tuple #[.agg #[yQ ⟨#[]⟩,yQ ⟨#[]⟩,yR false],yQ ⟨#[]⟩,yR false]) (by simp[results,results272,go_sem]) rfl ⟨⟨_,_,_,_,rfl⟩,?_⟩;exact LG _ _
theorem Lf(r:yZ)(w:xV)(q:r.size<=1048576)(l:0<r.size)(c:b0 r=1)(d:pc (r.extract 1 r.size)=none):Calls prog 272 #[yQ r] w λe w'=>(∃k v g b,e=yT (.tuple #[.agg #[yQ k,yQ v,yR g],yQ b,yR false]))/\yX w w':=by
 have m:=XX r l;rw[c]at m;have f:=Y (fx d);have h:(r.extract 1 r.size).size<=1048576:=by simp only[AQ];omega
 clear d c;go_enter func272,ntmps272;go_wp2_with (go_at_call 299;refine(ah _ _ h).J ?_;rw[f.j];rintro e s ⟨rfl,b⟩;have g:=b.size;simp only[BE,BL]at g;obtain⟨i,n,j,o,k,p⟩:=k3 b w.heap.size (yQ ⟨#[]⟩) (yQ ⟨#[]⟩) (yR true);have a:=Y (WT b);clear b);refine AE (v:=.tuple #[.agg #[yQ ⟨#[]⟩,yQ ⟨#[]⟩,yR true],yQ ⟨#[]⟩,yR false]) (by simp[results,results272,go_sem,i,j,k]) rfl ⟨⟨_,_,_,_,rfl⟩,?_⟩
 (first|exact(((a.j.setCell (AA _) _).setCell (AA _) _).setCell (AA _) _)|exact((((a.j.setCell (AA _) _).setCell (AA _) _).setCell (AA _) _).setCell (AA _) _)|exact(((((a.j.setCell (AA _) _).setCell (AA _) _).setCell (AA _) _).setCell (AA _) _).setCell (AA _) _)|exact((((((a.j.setCell (AA _) _).setCell (AA _) _).setCell (AA _) _).setCell (AA _) _).setCell (AA _) _).setCell (AA _) _)|exact(((((((a.j.setCell (AA _) _).setCell (AA _) _).setCell (AA _) _).setCell (AA _) _).setCell (AA _) _).setCell (AA _) _).setCell (AA _) _))
theorem Gq(r:yZ)(w:xV)(q:r.size<=1048576)(l:0<r.size)(c:b0 r=0)(d:pc (r.extract 1 r.size)=none):Calls prog 272 #[yQ r] w λe w'=>(∃k v g b,e=yT (.tuple #[.agg #[yQ k,yQ v,yR g],yQ b,yR false]))/\yX w w':=by
 have m:=XX r l;rw[c]at m;have f:=Y (fx d);have h:(r.extract 1 r.size).size<=1048576:=by simp only[AQ];omega
 clear d c;go_enter func272,ntmps272;go_wp2_with (go_at_call 299;refine(ah _ _ h).J ?_;rw[f.j];rintro e s ⟨rfl,b⟩;have g:=b.size;simp only[BE,BL]at g;obtain⟨i,n,j,o,k,p⟩:=k3 b w.heap.size (yQ ⟨#[]⟩) (yQ ⟨#[]⟩) (yR false);have a:=Y (WT b);clear b);refine AE (v:=.tuple #[.agg #[yQ ⟨#[]⟩,yQ ⟨#[]⟩,yR false],yQ ⟨#[]⟩,yR false]) (by simp[results,results272,go_sem,i,j,k]) rfl ⟨⟨_,_,_,_,rfl⟩,?_⟩
 (first|exact(((a.j.setCell (AA _) _).setCell (AA _) _).setCell (AA _) _)|exact((((a.j.setCell (AA _) _).setCell (AA _) _).setCell (AA _) _).setCell (AA _) _)|exact(((((a.j.setCell (AA _) _).setCell (AA _) _).setCell (AA _) _).setCell (AA _) _).setCell (AA _) _)|exact((((((a.j.setCell (AA _) _).setCell (AA _) _).setCell (AA _) _).setCell (AA _) _).setCell (AA _) _).setCell (AA _) _)|exact(((((((a.j.setCell (AA _) _).setCell (AA _) _).setCell (AA _) _).setCell (AA _) _).setCell (AA _) _).setCell (AA _) _).setCell (AA _) _))
theorem Jz(r:yZ)(w:xV)(K:r.size<=1048576)(E:0<r.size)(g:b0 r=0)(k m:yZ)(h:pc (r.extract 1 r.size)=some (k,m))(u:m.size<=1048576)(v d:yZ)(i:pc m=some (v,d)):Calls prog 272 #[yQ r] w λe w'=>e=yT (.tuple #[.agg #[yQ k,yQ v,yR false],yQ d,yR true])/\yX w w':=by
 have F:=XX r E;rw[g]at F;have j:=Y (ek h);have l:=Y (ek i);have x:(r.extract 1 r.size).size<=1048576:=by simp only[AQ];omega
 have p:m.size<=1048576:=u;clear h g i;go_enter func272,ntmps272
 go_wp2_with (first|(have G:=f;go_at_call 299;refine(ah _ _ p).J ?_;rw[l.j];rintro e M ⟨rfl,c⟩;have o:=c.size;simp only[BE,BL]at o;obtain⟨B,H,C,I,D,J⟩:=k3 c w.heap.size (yQ k) (yQ ⟨#[]⟩) (yR false);have a:=Y ((f.j.setCell (p:=(yA w.heap.size 0)) (AA _) (yQ k)).E (c.J ξ));clear c y z A q s t)|(go_at_call 299;refine(ah _ _ x).J ?_;rw[j.j];rintro e L ⟨rfl,b⟩;have n:=b.size;simp only[BE,BL]at n;obtain⟨y,q,z,s,A,t⟩:=k3 b w.heap.size (yQ ⟨#[]⟩) (yQ ⟨#[]⟩) (yR false);have f:=Y (WT b);clear b))
 refine AE (v:=.tuple #[.agg #[yQ k,yQ v,yR false],yQ d,yR true]) (by simp[results,results272,go_sem,B,C,D]) rfl ⟨rfl,?_⟩
 (first|exact(((a.j.setCell (AA _) _).setCell (AA _) _).setCell (AA _) _)|exact((((a.j.setCell (AA _) _).setCell (AA _) _).setCell (AA _) _).setCell (AA _) _)|exact(((((a.j.setCell (AA _) _).setCell (AA _) _).setCell (AA _) _).setCell (AA _) _).setCell (AA _) _)|exact((((((a.j.setCell (AA _) _).setCell (AA _) _).setCell (AA _) _).setCell (AA _) _).setCell (AA _) _).setCell (AA _) _)|exact(((((((a.j.setCell (AA _) _).setCell (AA _) _).setCell (AA _) _).setCell (AA _) _).setCell (AA _) _).setCell (AA _) _).setCell (AA _) _))
theorem Il(r:yZ)(w:xV)(J:r.size<=1048576)(D:0<r.size)(f:b0 r=0)(k m:yZ)(h:pc (r.extract 1 r.size)=some (k,m))(t:m.size<=1048576)(i:pc m=none):Calls prog 272 #[yQ r] w λe w'=>(∃k v g b,e=yT (.tuple #[.agg #[yQ k,yQ v,yR g],yQ b,yR false]))/\yX w w':=by
 have E:=XX r D;rw[f]at E;have g:=Y (ek h);have j:=Y (fx i);have u:(r.extract 1 r.size).size<=1048576:=by simp only[AQ];omega
 have o:m.size<=1048576:=t;clear h f i;go_enter func272,ntmps272
 go_wp2_with (first|(have F:=d;go_at_call 299;refine(ah _ _ o).J ?_;rw[j.j];rintro e L ⟨rfl,c⟩;have n:=c.size;simp only[BE,BL]at n;obtain⟨A,G,B,H,C,I⟩:=k3 c w.heap.size (yQ k) (yQ ⟨#[]⟩) (yR false);have a:=Y ((d.j.setCell (p:=(yA w.heap.size 0)) (AA _) (yQ k)).E (c.J ξ));clear c x y z p q s)|(go_at_call 299;refine(ah _ _ u).J ?_;rw[g.j];rintro e K ⟨rfl,b⟩;have l:=b.size;simp only[BE,BL]at l;obtain⟨x,p,y,q,z,s⟩:=k3 b w.heap.size (yQ ⟨#[]⟩) (yQ ⟨#[]⟩) (yR false);have d:=Y (WT b);clear b))
 refine AE (v:=.tuple #[.agg #[yQ k,yQ ⟨#[]⟩,yR false],yQ ⟨#[]⟩,yR false]) (by simp[results,results272,go_sem,A,B,C]) rfl ⟨⟨_,_,_,_,rfl⟩,?_⟩
 (first|exact(((a.j.setCell (AA _) _).setCell (AA _) _).setCell (AA _) _)|exact((((a.j.setCell (AA _) _).setCell (AA _) _).setCell (AA _) _).setCell (AA _) _)|exact(((((a.j.setCell (AA _) _).setCell (AA _) _).setCell (AA _) _).setCell (AA _) _).setCell (AA _) _)|exact((((((a.j.setCell (AA _) _).setCell (AA _) _).setCell (AA _) _).setCell (AA _) _).setCell (AA _) _).setCell (AA _) _)|exact(((((((a.j.setCell (AA _) _).setCell (AA _) _).setCell (AA _) _).setCell (AA _) _).setCell (AA _) _).setCell (AA _) _).setCell (AA _) _))
theorem oE{k m:yZ}(h:pc r=some (k,m)):m.size<=r.size:=by
 have:=BC List.length (vg h).1;simp[MR]at this;omega
theorem Kd(r:yZ)(w:xV)(c:r.size<=1048576)(a:0<r.size):Calls prog 272 #[yQ r] w λe w'=>rQ (ex r) e/\yX w w':=by
 unfold ex
 by_cases d:1<b0 r
 ·rw[AI d];exact Ht r w c a d
 rw[AF d]
 unfold QY
 cases hp:pc (r.extract 1 r.size) with
 | none =>
  rcases IP (b0 r) with b|b
  ·exact Gq r w c a b hp
  exact Lf r w c a ω hp
 | some p =>
  obtain⟨k,m⟩:=p;have f:m.size<=1048576:=by have:=oE hp;simp only[AQ]at this;omega
  rcases IP (b0 r) with b|b
  ·simp only
   rw[AF ω]
   cases hq:pc m with
   | none=>exact Il r w c a b k m hp f hq
   | some q =>
    obtain⟨v,g⟩:=q;exact Jz r w c a b k m hp f v g hq
  simp only
  rw[AI ω];exact Fw r w c a ω k m hp
theorem uE:(prog.info? 92).map (λi=>(i.zero,i.size,i.bytes))=some (some (.agg #[yQ ByteArray.empty,yQ ByteArray.empty,yR false]),3,40):=κ
theorem uN{P:Program}{z:qD}{a b:Nat}(h:(P.info? e).map (λi=>(i.zero,i.size,i.bytes))=some (some z,a,b)):∃i,P.info? e=some i/\i.zero=some z/\i.size=a/\i.bytes=b:=by
 obtain⟨i,d,c⟩:=DZ.1 h;simp only[EJ]at c;exact⟨i,d,c⟩
theorem sd{W c:xV}{b:Nat}{n B:Nat}{g:List qD}(d:Below B W w)(own:w.ownsRow B e b v n g)(a:w.grownBy c v.ownBlock)(h:B<=w.heap.size):Below B W c :=d.E ⟨a.os,a.tape,a.output,a.size,λk i=>a.block k ω (λf=>by have:=(own.lt k f.symm).1;omega)⟩
theorem vm{d:yZ}{c:Ch}(f:0<r.size)(h:QY r=some (c,d)):d.size<r.size/\c.1.size<=255/\c.2.1.size<=255:=by
 obtain⟨g,i,t,k3,j⟩:=tL f h;refine⟨?_,g,i⟩;have a:=BC List.length k3;have b:=BC List.length j;rw[MR]at b;rw[AK,MR]at a;have k:2<=(NN c).length:=by unfold NN;split<;>simp<;>omega
 simp only[BJ]at a b;omega
def nh(w w':xV)(e:Ending)(b:Option (List Ch)):Prop:=∃a c,e=yT (.tuple #[yI a (b.getD []).length c,yR b.isSome])/\OwnS w' a (MS (b.getD []))/\(∀g,blk a (b.getD []).length=some g->w.heap.size<=g)/\yX w w'
theorem XL{a:xA}{c:Nat}(hv:v=.tuple #[yI a 0 c,yR false])(b:yX w w'):nh w w' (yT v) none:=⟨a,c,by rw[hv];rfl,.inl rfl,λg h=>(by cases h),b⟩
theorem Oc{y:qD}{o:List Ch}(h:w'.ownsRow w.heap.size e 3 y o.length (MS o))(hv:v=.tuple #[y,yR true])(i:yX w w'):nh w w' (yT v) (some o):=by
 rcases MC h with ⟨c,d⟩|⟨g,b,c,d,_,j⟩
 ·have:o=[]:=AD d
  subst this;exact⟨none,0,by rw[hv,c];rfl,.inl rfl,λg h=>(by cases h),i⟩
 refine⟨_,b,by rw[hv,c];rfl,.inr ⟨g,rfl,j⟩,λf a=>?_,i⟩
 simp only[GC]at a
 by_cases f:o.length=0
 ·rw[f]at a;cases a
 rw[ML g 0 _ f]at a;cases a;exact d
theorem pW{B:Nat}{y:qD}{o:List Ch}(h:w.ownsRow B e 3 y o.length (MS o)):∃a c,y=yI a o.length c/\Chs w a o:=by
 rcases MC h with ⟨b,c⟩|⟨g,a,b,c,_,d⟩
 ·have:o=[]:=AD c
  subst this;exact⟨none,0,b,.inl rfl⟩
 exact⟨_,a,b,d.chs⟩
theorem zp(o:List Ch)(c:Ch):MS (o++[c])=MS o++[yQ c.1,yQ c.2.1,yR c.2.2]:=by rw[yq];rfl
theorem Ig(w:xV)(A:Obj)(a:Array qD)(t:TypeId):∀j u,a.toList[j]?=some u->((w.alloc A).alloc (.cells a t)).cell? (((yA (w.heap.size+1) 0):Addr).add j)=some u:=by
 have h:=AU (w.alloc A) (.cells a t);rw[BE]at h;exact World.news_of_block h
theorem uw(k v:yZ)(g:Bool):∀u∈[yQ k,yQ v,yR g],u.oneCell'=true:=by
 intro u a;simp only[DX,EW,IX]at a;rcases a with rfl|rfl|rfl<;>rfl
theorem Gi(s:yZ)(w:xV)(hs:s.size<=1048576):Calls prog 223 #[yQ s] w λe w'=>nh w w' e (YN s):=by
 obtain⟨R,C⟩:∃R,Hid (R=YN s):=⟨_,Y rfl⟩;rw[<-C.j];obtain⟨i0,Q,S,T,U⟩:=uN uE;have W:=Y (AG Q (AG S (AG T U)));clear Q S T U;go_enter func223,ntmps223;go_wp2_with fail;go_loopw [0,4] (λx y wr=>∃(j:Nat) (o:List Ch) (r:yZ),x=yQ r/\j+o.length=21/\r.size<=1048576/\Hid (RO j r o=RO 21 s [])/\Hid (∀z∈o,z.1.size<=1048576/\z.2.1.size<=1048576)/\wr.ownsRow w.heap.size 92 3 y o.length (MS o)/\yX w wr) (λx _ _=>match x with | .string r=>r.size|_=>0)
 case atStart =>
  exact⟨21,[],s,rfl,rfl,hs,rfl,λz f=>(by simp at f),BT _ _ _ _,AB _ _⟩
 case round =>
  obtain⟨j,o,r,rfl,hj,bE,J,D,I,H⟩:=hrel;obtain⟨ya,yc,rfl,N⟩:=pW I;have K:=Y I;have h:=Y H;have k:=H.size;have G:=Y N;clear I H N
  have A:∀(b:Bool),Hid (RO j r o=some (o,r))->Hid (R=if OM o=true then some o else none):=λb hh=>by
   show _=_;have:=J.j;rw[hh.j]at this;rw[C.j];unfold YN;rw[<-this]
  by_cases E:r.size=0
  ·have he:r.toList.isEmpty=true:=by rw[VA];exact AM E
   have c:=A true (by show _=_;cases j<;>simp[RO,E]);clear A
   cases i:OM o with
   | true =>
    rw[i,AI rfl]at c;go_wp2_with (go_at_call 201;refine(de _ o _ _ G.j ω D.j).J ?_;rw[i];rintro e q ⟨rfl,a⟩);go_ret2;rw[c.j];exact Oc (LZ K.j a) rfl (h.j.E (a.J k))
   | false =>
    rw[i,AF σ]at c;go_wp2_with (go_at_call 201;refine(de _ o _ _ G.j ω D.j).J ?_;rw[i];rintro e q ⟨rfl,a⟩);go_ret2;rw[c.j]
    exact XL rfl (by first|exact h.j.E (a.J k)|exact(h.j.E (a.J k)).alloc (by have:=a.size;omega) _)
  have he:r.toList.isEmpty=false:=by rw[VA];exact AH E
  by_cases hl:(o.length:Int)<=20
  ·obtain⟨F,rfl⟩:∃F,j=F+1:=⟨j-1,ω⟩
   have d:=J.j;rw[RO,AF E]at d;have u:=Y (Kd r · bE ω);clear A
   by_cases t:1<b0 r
   focus
    have B:ex r=none:=by unfold ex;exact AI t
    rw[AI t]at d;have c:Hid (R=none):=by show _=_;rw[C.j];unfold YN;rw[<-d]
    rw[B]at u;clear t B
   rotate_left
   focus
    rw[AF t]at d;have B:ex r=QY r:=by unfold ex;exact AF t
    rw[B]at u;clear t B
    cases hq:QY r
    focus
     rw[hq]at d u;have c:Hid (R=none):=by show _=_;rw[C.j];unfold YN;rw[<-d]
     clear hq
    rotate_left
    focus
     rename_i p;obtain⟨⟨m,n,l⟩,V⟩:=p;obtain⟨q1,q2,q3⟩:=vm ω hq;rw[hq]at d u;have aZ:Hid (RO F V (o++[(m,n,l)])=RO 21 s []):=d;clear hq d J;simp only at q2 q3
     go_wp2_with (first|(go_at_call 272;refine(u.j _).J ?_;rintro e q ⟨P,a⟩;simp only[rQ]at P;subst P;have bF:=a.size;have O:=Y (((LZ K.j a).alloc (.cells #[yQ m,yQ n,yR l] 92)).alloc (.cells #[yQ m,yQ n,yR l] 92));have Z:=Y (((h.j.E (a.J k)).alloc ω (.cells #[yQ m,yQ n,yR l] 92)).alloc τ (.cells #[yQ m,yQ n,yR l] 92));clear a)|(at_builtin;refine QS _ rfl _ _ 44 rfl w.heap.size underlying44 W.j rfl ω _ o.length _ rfl O.j (yA (q.heap.size+1) 0) 1 1 [yQ m,yQ n,yR l] rfl rfl (Ig q _ _ _) (uw _ _ _) τ (q.heap.size+1+1) σ ?_;intro g cap w7 M L X bC;have aY:=Y M;have aX:=Y (sd Z.j O.j L τ);clear M L X))
     refine⟨⟨F,o++[(m,n,l)],V,rfl,τ,ω,aZ.j,λz f=>?_,?_,aX.j⟩,by simp only;omega⟩
     ·rcases BZ.1 f with f|f
      ·exact D.j z f
      simp at f;subst f;exact⟨by simp only;omega,by simp only;omega⟩
     rw[zp,AK];exact aY.j
   rotate_left
   all_goals
    go_wp2_with (go_at_call 272;refine(u.j _).J ?_;rintro e q ⟨⟨a1,a2,a3,a4,rfl⟩,a⟩);go_ret2;rw[c.j]
    exact XL rfl (by first|exact h.j.E (a.J k)|exact(h.j.E (a.J k)).alloc (by have:=a.size;omega) _)
  have bB:j=0:=ω
  subst bB;have c:=A true rfl;clear A;have i:OM o=false:=gd ω;rw[i,AF σ]at c;go_wp2_with (go_at_call 201;refine(de _ o _ _ G.j ω D.j).J ?_;rw[i];rintro e q ⟨rfl,a⟩);go_ret2;rw[c.j];exact XL rfl (h.j.E (a.J k))
