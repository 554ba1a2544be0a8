import Derived.Test.YtkdedmclofhndaaGreatDoorPrWdS
import Derived.Test.YtkdedmclofhndaaGreatDoorPrPfS
import Derived.Lib.AppendZeros
import Derived.Test.YtkdedmclofhndaaGreatDoorPrOpI
import Derived.Test.YtkdedmclofhndaaGreatDoorPrG25
set_option maxHeartbeats 16000000
set_option maxRecDepth 8000
set_option linter.all false
namespace Go.Proofs.YtkdedmclofhndaaGreatDoor
open _root_.ByteArray(empty)
section
open Tryz
open Go.RowKit
variable {cs xs:List qD}{B SB c g k lo n s:Nat}{a:xA}{P:Program}{e:TypeId}{w w':xV}
theorem dw:(prog.info? 9).map (λi=>(i.zero,i.size,i.bytes))=some (some (yQ empty),1,16):=κ
theorem mw:(prog.info? 37).map (λi=>(i.zero,i.size,i.bytes))=some (some (.agg #[yI none 0 0]),1,24):=κ
theorem WW{z:qD}{b d:Nat}(h:(P.info? e).map (λi=>(i.zero,i.size,i.bytes))=some (some z,b,d)):∃i,P.info? e=some i/\i.zero=some z/\i.size=b/\i.bytes=d:=by
 obtain⟨i,j,f⟩:=DZ.1 h;simp only[EJ]at f;exact⟨i,j,f⟩
theorem tQ(b:List OpT)(j:Nat)(h:j<b.length):NH (b.take (j+1))=NH (b.take j)++(if (b.getD j (false,0,empty)).1=true then [] else [(b.getD j (false,0,empty)).2.2]):=by
 rw[BH h,Fj];simp[List.getD,h]
theorem YQ{x:Wo}{e:Ev}{D:Dd}{u:Bool}(b:¬e.K=5)(d:x.call e=(D,u))(h:u=false\/D.C≠0):x.doE e=x:=by unfold Wo.doE;rw[AF b,d,AI h]
theorem vo{x:Wo}{e:Ev}{D:Dd}(d:¬e.K=5)(f:x.call e=(D,true))(b:D.C=0)(h:2000<(QJ x e D).length\/200<(OF x e D).length):x.doE e=x:=by unfold Wo.doE;rw[AF d,f,AF (by simp[b]),AI h]
theorem yr{x:Wo}{e:Ev}{D:Dd}(d:¬e.K=5)(i:x.call e=(D,true))(b:D.C=0)(h:¬(2000<(QJ x e D).length\/200<(OF x e D).length))(f:QV e D=true):x.doE e=(x.ran e D).pow e.fs:=by unfold Wo.doE;rw[AF d,i,AF (by simp[b]),AF h,AI f]
theorem xX{x:Wo}{e:Ev}{D:Dd}(f:¬e.K=5)(j:x.call e=(D,true))(b:D.C=0)(h:¬(2000<(QJ x e D).length\/200<(OF x e D).length))(i:QV e D=false)(d:e.K=2):x.doE e=(x.ran e D).upS D:=by unfold Wo.doE;rw[AF f,j,AF (by simp[b]),AF h,AF (by simp[i]),AI d]
theorem wF{x:Wo}{e:Ev}{D:Dd}(f:¬e.K=5)(j:x.call e=(D,true))(b:D.C=0)(h:¬(2000<(QJ x e D).length\/200<(OF x e D).length))(i:QV e D=false)(d:¬e.K=2):x.doE e={ (x.ran e D).upS D with P:=[D.rs] }:=by unfold Wo.doE;rw[AF f,j,AF (by simp[b]),AF h,AF (by simp[i]),AF d]
theorem B6(b:xA)(n f:Nat)(d:Int)(w:xV)(l:n<=f)(o:n<=1000):Calls prog 209 #[yI b n f,Z d] w λr w'=>r=yT (.tuple #[yI b (if 0<=d/\d<=n then d.toNat else n) f,yR (decide (0<=d/\d<=n))])/\w'=w:=by
 go_enter func209,ntmps209
 by_cases i:0<=d
 ·by_cases j:d<=(n:Int)
  ·obtain⟨m,rfl⟩:∃m:Nat,d=(m:Int):=⟨d.toNat,ω⟩
   have k3:m<=f:=ω
   rw[AI ⟨i,j⟩,AM ⟨i,j⟩];go_wp2;exact AE (v:=.tuple #[yI b m f,yR true]) (by simp[results,results209,go_sem]) rfl ⟨rfl,rfl⟩
  rw[AF (λh=>j h.2),AH (λh=>j h.2)]
  go_wp2;exact AE (v:=.tuple #[yI b n f,yR false]) (by simp[results,results209,go_sem]) rfl ⟨rfl,rfl⟩
 rw[AF (λh=>i h.1),AH (λh=>i h.1)]
 go_wp2;exact AE (v:=.tuple #[yI b n f,yR false]) (by simp[results,results209,go_sem]) rfl ⟨rfl,rfl⟩
theorem La(t m e:TypeId)(i:TypeInfo)(b:Nat)(l:P.underlying t=some (.slice e))(h:P.info? e=some i)(o:i.size=b)(B n:Nat)(v:qD)(xs:List qD)(own:w.ownsRow B e b v n xs)(x:qD)(d:Src P b t x 0 [] w):(Builtin.append_ #[t,t] m #[v,x]).run P w=.ok v w:=by
 subst o;rcases own.2 with ⟨rfl,_⟩|⟨g,f,p,rfl,_,_,r,_⟩
 ·rcases d.kind with ⟨q,j⟩|j<;>simp[Builtin.append_,GG l,GG j,sizeOf,typeInfo,h,d.len,d.cells]
 exact run_append_room_src (P:=P) w t t m e i l h g 0 n f x 0 [] d ω σ σ
theorem At(b:xA)(d:List OpT)(H:Nat)(w:xV)(h:Ops w b d)(X:d.length<=1000):Calls prog 211 #[yI b d.length H] w λr w'=>∃v,r=yT v/\w'.ownsRow w.heap.size 9 1 v (NH d).length ((NH d).map Value.string)/\yX w w':=by
 obtain⟨i0,f,i,j,l⟩:=WW dw;have A:=Y (AG f (AG i (AG j l)));clear f i j l;go_enter func211,ntmps211;go_wp2;go_loopw [3,8] (λi f wr=>∃j:Nat,j<=d.length/\f=Z (j:Int)/\wr.ownsRow w.heap.size 9 1 i (NH (d.take j)).length ((NH (d.take j)).map Value.string)/\yX w wr) (λ_ f _=>d.length-(intOf f).toNat)
 case atStart=>exact⟨0,AL _,rfl,BT _ _ _ _,AB _ _⟩
 case round =>
  rename qD=>i
  obtain⟨j,W,rfl,l,i⟩:=hrel;have v:=zb (d.take j);rw[AX]at v;obtain⟨q,m⟩:∃y,Hid (y=NH (d.take j)):=⟨_,Y rfl⟩;rw[<-m.j]at l v
  by_cases x:j<d.length
  ·have L:(j:Int)<(d.length:Int):=ω
   have N:(0:Int)<=(j:Int):=ω
   obtain⟨R,o1,I,n1,z,rfl,G,T,U,F⟩:=(h.I i).at x;have p:=tQ d j x;rw[<-F.j]at p;have t:=Y p;have o:=Y l;have f:=Y i;have S:=qX G;have O:=i.size;clear l i p;have Q:IntKind.i64.wrap ((j:Int)+1)=((j+1:Nat):Int):=by rw[OP _ ω ω];omega
   cases I with
   | true =>
    go_wp2;exact⟨⟨j+1,ω,ν,by rw[t.j];simpa[m.j] using(o.j.alloc _),f.j.alloc f.j.size _⟩,by simp[intOf];omega⟩
   | false =>
    go_wp2_with (at_builtin;refine QS _ rfl _ _ 27 rfl w.heap.size underlying27 A.j rfl ω _ q.length _ rfl ((o.j.alloc _).alloc _) (yA (wr.heap.size+1) 0) 1 1 [yQ z] rfl rfl (World.news_of_block (by simpa using AU (wr.alloc _) _)) (by intro u y;simp at y;subst y;rfl) τ (wr.heap.size+1+1) σ ?_;intro V K J r p C M;have E:=Y r;have D:=Y p;clear r p C);have r:NH (d.take (j+1))=q++[z]:=by rw[t.j,m.j];simp
    have p:yX w J:=RU ((f.j.alloc f.j.size _).alloc τ _) ((o.j.alloc _).alloc _) D.j τ;exact⟨⟨j+1,ω,ν,by rw[r];simpa using E.j,p⟩,by simp[intOf];omega⟩
  obtain rfl:j=d.length:=ω
  rw[DF]at m;have o:=Y l;have f:=Y i;clear l i;go_wp2;go_ret;rw[<-m.j];exact⟨_,rfl,o.j,f.j⟩
theorem Df(n:Nat)(w:xV)(q:n<=100000):Calls prog 255 #[yI none 0 0,Z (n:Int)] w λr w'=>∃v,r=yT v/\w'.ownsRow w.heap.size 9 1 v 0 []/\yX w w':=by
 obtain⟨m,b,d,j,f⟩:=WW dw;go_enter func255,ntmps255
 by_cases l:n=0
 ·subst l
  go_wp2;go_ret;exact⟨_,rfl,BT _ _ _ _,AB _ _⟩
 have p:(0:Int)<(n:Int):=ω
 have h:=Y (λi=>Lib.run_append_nil_zeros (P:=prog) w 27 3 i 9 m _ .i64 .i64 underlying27 underlying3 b d n ω ω ω (by rw[f];omega));have o:=JL w n 0 9;have i:=IQ w n 0 9 (by unfold maxLen;omega);clear b d j f;go_wp2_with (at_builtin;refine Lib.wpList_append_run _ rfl _ _ _ _ rfl _ _ rfl rfl _ _ (h.j _) ?_);go_ret;refine⟨_,rfl,⟨σ,.inr ⟨w.heap.size,_,_,rfl,AA _,AU w.drew _,ω,i,?_,σ⟩⟩,(AB _ _).drew.alloc (AA _) _⟩;simp[KJ,Value.cells];omega
def SM(b:List (List yZ))(j:Nat):List yZ:=(b.take j).flatten
theorem pZ(b:List (List yZ))(j:Nat)(h:j<b.length):SM b (j+1)=SM b j++b.getD j []:=by
 unfold SM;rw[List.take_add_one,List.flatten_append];simp[AO h,List.getD]
theorem rq(b:List (List yZ)):SM b b.length=b.flatten:=by unfold SM;rw[DF]
theorem ml(b:List (List yZ))(j:Nat):(SM b j).length<=(SM b b.length).length:=by
 have:=BC (λl:List (List yZ)=>l.flatten.length) (FJ j b);simp only[List.flatten_append,AK]at this;rw[rq];unfold SM;omega
theorem M9(g U:Nat)(d:List (List yZ))(w:xV)(G:∀j,j<d.length->∃a c,w.cell? (yA g j)=some (yI a (d.getD j []).length c)/\Strs w a (d.getD j []))(hg:g<w.heap.size)(hl:(SM d d.length).length<=10000)(hk:d.length<=100):Calls prog 210 #[yI (zY g 0) d.length U] w λr w'=>∃v,r=yT v/\w'.ownsRow w.heap.size 9 1 v (SM d d.length).length ((SM d d.length).map Value.string)/\yX w w':=by
 obtain⟨H,b,f,i,l⟩:=WW dw;have h:=Y (AG b (AG f (AG i l)));clear b f i l;have E:=Y G;clear G;go_enter func210,ntmps210;go_wp2;go_loopw [3,11] (λf b wr=>∃j:Nat,j<=d.length/\b=Z (j:Int)/\f=Z (((SM d j).length:Nat):Int)/\wr=w) (λ_ b _=>d.length-(intOf b).toNat)
 case atStart=>exact⟨0,AL _,rfl,rfl,rfl⟩
 case round =>
  obtain⟨j,V,rfl,rfl,S⟩:=hrel;subst S;have z:=ml d j
  by_cases r:j<d.length
  ·have L:(j:Int)<(d.length:Int):=ω
   have T:(0:Int)<=(j:Int):=ω
   obtain⟨a,c,i,_⟩:=E.j j r;have x:=ml d (j+1);have f:=BC List.length (pZ d j r);rw[AK]at f;obtain⟨m,y⟩:∃m,Hid (m=(d.getD j []).length):=⟨_,Y rfl⟩;obtain⟨n,l⟩:∃n,Hid (n=(SM d j).length):=⟨_,Y rfl⟩;rw[<-y.j]at i f;rw[<-l.j]at f z⊢;have o:¬((n:Int)+(m:Int)<0):=ω
   go_wp2
   exact⟨⟨j+1,ω,ν,by congr 2;rw[f];omega,by first|rfl|trivial⟩,by simp[intOf];omega⟩
  obtain rfl:j=d.length:=ω
  have I:=Y (Df (SM d d.length).length wr ω);go_wp2_with (go_at_call 255;refine I.j.J ?_;rintro e w2 ⟨v2,rfl,f,i⟩);go_loopw [6,27] (λl b m=>∃j:Nat,j<=d.length/\b=Z (j:Int)/\m.ownsRow wr.heap.size 9 1 l (SM d j).length ((SM d j).map Value.string)/\yX wr m) (λ_ b _=>d.length-(intOf b).toNat)
  case atStart=>exact⟨0,AL _,rfl,f,i⟩
  case round =>
   rename World=>m
   rename qD=>l
   clear f i;obtain⟨j,V,rfl,p,f⟩:=hrel;have z:=ml d j
   by_cases r:j<d.length
   ·have L:(j:Int)<(d.length:Int):=ω
    have T:(0:Int)<=(j:Int):=ω
    obtain⟨a,c,i,t⟩:=E.j j r;replace i:=NF f i;replace t:=t.I f;have x:=ml d (j+1);have q:=Y (pZ d j r);rw[q.j,AK]at x;obtain⟨M,y⟩:∃M,Hid (M=d.getD j []):=⟨_,Y rfl⟩;obtain⟨J,O⟩:∃M,Hid (M=(SM d j)):=⟨_,Y rfl⟩;rw[<-y.j]at i t q x;rw[<-O.j]at p z x q;have l:=Y p;have v:=Y f;have bI:=f.size;have lg:g<m.heap.size:=ω
    clear p f
    by_cases C:M=[]
    ·subst C
     have b:=Y (λo=>La (P:=prog) 27 o 9 H 1 underlying27 h.j.1 h.j.2.2.1 _ _ _ _ l.j _ (Qj t _ _ underlying27 c));simp only[AT]at i b;go_wp2_with (at_builtin;refine Lib.wpList_append_run _ rfl _ _ _ _ rfl _ _ rfl rfl _ _ (b.j _) ?_);exact⟨⟨j+1,ω,ν,by rw[q.j,FQ];exact l.j,v.j⟩,by simp[intOf];omega⟩
    obtain⟨b,o,rfl,hb,F⟩:=t.resolve_left C
    have W:0<M.length:=by cases M;exact absurd rfl C;simp
    have Q:Hid (∀k u,(M.map Value.string)[k]?=some u->m.cell? (((yA b o):Addr).add k)=some u):=λk u D=>by
     obtain⟨A,K⟩:=DI.1 D;simp only[BO]at A;rw[show((yA b o):Addr).add k=(yA b (o+k)) by unfold Addr.add;split<;>simp_all,F k A,<-K];simp[List.getD,A]
    clear F;go_wp2_with (at_builtin;refine wpList_append_lies _ rfl _ _ 27 rfl wr.heap.size 9 H (yQ empty) 1 16 underlying27 h.j.1 h.j.2.1 h.j.2.2.1 h.j.2.2.2 rfl ω _ J.length _ rfl l.j (yA b o) M.length c (M.map Value.string) rfl σ Q.j (by intro u D;obtain⟨s,_,rfl⟩:=DT.1 D;rfl) W (by unfold maxLen;omega) ω ω m.heap.size rfl ?_;intro g9 bB X F A K bG;have R:=Y F;have N:=Y A;clear F A K);have A:yX wr X:=RU v.j l.j N.j ω;exact⟨⟨j+1,ω,ν,by rw[q.j,AK,DA];exact R.j,A⟩,by simp[intOf];omega⟩
   obtain rfl:j=d.length:=ω
   have l:=Y p;have v:=Y f;clear p f;go_wp2;go_ret;exact⟨_,rfl,l.j,v.j⟩
section
@[reducible] def RN(l:Int)(x:Wo)(q:Wp):List qD:=[.int .i32 l,.int .u32 0,Z x.w,yI q.a x.ss.length q.c,yI q.a' x.ws.length q.c',yR x.up,Z x.W,Z x.S,Z x.L,Z x.T,Z x.H,Z x.F,Z x.R,Z x.U,Z x.O,yI q.s x.rs.length q.cs,yI q.p x.P.length q.cp,yI q.t x.ts.length q.ct]
structure Sc(w v:xV)(SB:Nat)(cs:List qD)(M:xV->Prop):Prop where
 e:w.grownBy v (some SB)
 r:Row v SB cs
 m:DepF v (λb=>b≠SB) M
section
variable {w v v':xV} {SB:Nat} {cs cs':List qD} {M N:xV->Prop}
theorem Sc.I(h:Sc w v SB cs M)(d:yX v v'):Sc w v' SB cs M :=⟨⟨d.os.E h.e.os,d.tape.E h.e.tape,d.output.E h.e.output,AJ h.e.size d.size,λb f i=>(d.block b (AC f h.e.size)).E (h.e.block b f i)⟩,h.r.I d,h.m.I d⟩
theorem Sc.put(h:Sc w v SB cs M)(b:v.grownBy v' (some SB))(d:Row v' SB cs'):Sc w v' SB cs' M:=⟨VL h.e b,d,h.m.V b (λg e k=>by cases e;exact k rfl)⟩
theorem Sc.set(h:Sc w v SB cs M)(i:Nat)(b:i<cs.length)(u:qD):Sc w (v.setCell (yA SB i) u) SB (cs.set i u) M:=h.put (NA (AY _ _) _ _) (h.r.set i b u)
theorem Sc.add(h:Sc w v SB cs M)(k:DepF v (λb=>b≠SB) N):Sc w v SB cs (λW=>M W/\N W):=⟨h.e,h.r,h.m.and k⟩
theorem Sc.map(h:Sc w v SB cs M)(f:∀W,M W->N W):Sc w v SB cs N:=⟨h.e,h.r,h.m.map f⟩
theorem XZ(r:Row w SB cs)(m:DepF w (λb=>b≠SB) M):Sc w w SB cs M:=⟨AY _ _,r,m⟩
end
theorem WoG.depF{f i j:List qD}{R:Nat->List Pr}{l:List qD}{q:Wp}{o:Nat->Nat}(h:WoG f i j n R l w q o)(m:o SB=0):DepF w (λb=>b≠SB) (λW=>WoG f i j n R l W q o) :=⟨h,λw' d p=>h.only (K:=λk=>k=0) ⟨d.os,d.tape,d.output,d.size,λb r t=>p b (λe=>t (by rw[e];exact m)) r⟩ (λ_ k=>k)⟩
def YW(w w':xV)(SB:Nat)(l:Int)(o:Nat->Nat)(y:Wo):Prop:=∃q d,Row w' SB (RN l y q)/\QG y w' q d/\(∀b,b<w.heap.size->d b=o b)/\w.grownBy w' (some SB)/\y.rs.length<=q.cs
theorem WoG.all{i j l:List qD}{R:Nat->List Pr}{m:List qD}{q:Wp}{o:Nat->Nat}(h:WoG i j l n R m w q o)(p:o SB=0)(u:SB<w.heap.size):DepF w (λb=>b≠SB) (λW=>∀f:Nat->Nat,(∀b,b<w.heap.size->f b=o b)->WoG i j l n R m W q f) :=⟨λf d=>h.lab d,λw' r t f d=>((h.lab d).depF ((d SB u).E p)).keep w' r t⟩
theorem OwL.all{o:Nat->Nat}(h:OwL w o k a cs)(j:k≠0)(l:o SB=0)(p:SB<w.heap.size):DepF w (λb=>b≠SB) (λW=>∀i:Nat->Nat,(∀b,b<w.heap.size->i b=o b)->OwL W i k a cs) :=⟨λi f=>h.lab f,λw' d m i f=>(h.lab f).only (K:=λk=>k=0) ⟨d.os,d.tape,d.output,d.size,λb q j=>m b (λe=>j (by rw[e];exact(f SB p).E l)) q⟩ j⟩
theorem PsR.all{o:Nat->Nat}{R:Nat->List Pr}{p:xA}(h:PsR w o p n R)(l:o SB=0)(q:SB<w.heap.size):DepF w (λb=>b≠SB) (λW=>∀j:Nat->Nat,(∀b,b<w.heap.size->j b=o b)->PsR W j p n R) :=⟨λj f=>h.lab f,λw' d m j f=>(h.lab f).only (K:=λk=>k=0) ⟨d.os,d.tape,d.output,d.size,λb r t=>m b (λe=>t (by rw[e];exact(f SB q).E l)) r⟩ ω (λi=>ω)⟩
theorem OwL.depF{o:Nat->Nat}(h:OwL w o k a cs)(f:k≠0)(i:o SB=0):DepF w (λb=>b≠SB) (λW=>OwL W o k a cs) :=⟨h,λw' d j=>h.only (K:=λk=>k=0) ⟨d.os,d.tape,d.output,d.size,λb l f=>j b (λe=>f (by rw[e];exact i)) l⟩ f⟩
theorem UX{v:qD}(h:w.ownsRow B e s v n xs):∃a c,v=yI a n c:=by
 rcases h.2 with ⟨rfl,rfl⟩|⟨g,b,d,rfl,_⟩
 ·exact⟨_,_,rfl⟩
 exact⟨_,_,rfl⟩
theorem Ey{b:List yZ}(h:w.ownsRow B 9 1 (yI a n c) b.length (b.map Value.string)):Strs w a b:=by
 rcases MC h with ⟨e,f⟩|⟨g,d,e,_,_,i⟩
 ·exact .inl (AD f)
 injection e with e;subst e;exact OwnS.strs (.inr ⟨g,rfl,i⟩)
theorem Np{f:xA}{h:Nat}{b d:List yZ}(i:w.cell? (yA g 0)=some (yI a b.length c))(l:w.cell? (yA g 1)=some (yI f d.length h))(o:Strs w a b)(p:Strs w f d)(j:Nat)(m:j<[b,d].length):∃a c,w.cell? (yA g j)=some (yI a ([b,d].getD j []).length c)/\Strs w a ([b,d].getD j []):=by
 match j,m with
 | 0,_=>exact⟨a,c,i,o⟩
 | 1,_=>exact⟨f,h,l,p⟩
theorem sA(h:w.ownsRow B e s (yI a n c) n xs):OwnS w a xs/\∀g,blk a n=some g->B<=g/\g<w.heap.size:=by
 rcases MC h with ⟨b,d⟩|⟨g,f,b,d,i,j⟩
 ·exact⟨.inl (AD (by rw[h.1,d,Nat.zero_mul])),λg k=>by rw[d]at k;simp[blk]at k⟩
 injection b with b _ _
 subst b;exact⟨.inr ⟨g,rfl,j⟩,λl k=>by rw[du k];exact⟨d,i⟩⟩
def YP(N:Nat)(o:Nat->Nat)(d f:Option Nat)(b:Nat):Nat:=if b<N then o b else if d=some b then 1 else if f=some b then 2 else 4
section
variable {N:Nat} {o:Nat->Nat} {r1 r2:Option Nat} {b:Nat}
theorem L5(h:b<N):YP N o r1 r2 b=o b:=AI h
theorem I1(h:N<=b)(d:r1=some b):YP N o r1 r2 b=1:=by unfold YP;rw[AF ω,AI d]
theorem K5(h:N<=b)(d:r2=some b)(f:r1=none\/r2=none\/r1≠r2):YP N o r1 r2 b=2:=by unfold YP;rw[AF ω,AF (λe=>by rw[e,d]at f;simp at f),AI d]
theorem zU(h:N<=b)(d:r1≠some b)(f:r2≠some b):YP N o r1 r2 b=4:=by unfold YP;rw[AF ω,AF d,AF f]
end
theorem TC{o:Nat->Nat}(h:OwnS w a cs)(f:cs≠[]->n≠0)(j:∀g,blk a n=some g->lo<=g)(i:∀g,blk a n=some g->o g=k):OwL w o k a cs :=vi h (λg b d=>i g (by rw[b];exact ML _ _ _ (f d)))
theorem UR(h:OwnS w a cs)(f:cs≠[]->n≠0)(d:∀g,blk a n=some g->lo<=g)(j:SB<lo):DepF w (λb=>b≠SB) (λW=>OwnS W a cs):=ZA (QF h f d) (λb i _=>ω)
theorem tS(x:Wo)(q:Wp)(f:xA)(j:List Int)(d SB:Nat)(l:Int)(o:Nat->Nat)(w:xV)(y:Row w SB (RN l x q))(h:QG x w q o)(h0:o SB=0)(F:Ints w f j)(t:x.le 1048576)(D:j.length<=1048576):Calls prog 157 #[zW SB 0,yI f j.length d] w λr w'=>r=yT (.tuple #[])/\YW w w' SB l o (x.pow j):=by
 have b:=Y (K2 q.a x.ss q.c q.a' x.ws q.c' f j d w h.at.h1 h.at.h2 F D t.l1 t.l2 t.s1 t.s2);unfold LM at b;have G:=y.lt;have i:=XZ y (h.all h0 G);clear y F t D h;go_enter func157,ntmps157;have m:=i.r.y 3;have p:=i.r.y 4;have v:=i.r.lt;go_wp2_with fail;clear m p v;refine b.j.J ?_;rintro r v1 ⟨z,E,A,C,rfl,v,u,m⟩;replace i:=i.I m;have aN:=m.size;obtain⟨X,p⟩:∃X,Hid (X=PL j x.ss x.ws):=⟨_,Y rfl⟩;rw[<-p.j]at v u⊢;have H:Hid (x.pow j={ x with ss:=X,ws:=[],up:=false,W:=0,S:=0,L:=0,T:=0,H:=0,F:=0,R:=0,U:=0,O:=0,rs:=[] }):=Y (by rw[p.j];rfl);replace i:=i.add (UR v VJ u G);clear m b p v;have m:=i.r.y 3;have p:=i.r.y 4;have S:=i.r.y 5;have T:=i.r.y 6;have U:=i.r.y 7;have V:=i.r.y 8;have W:=i.r.y 9;have c10:=i.r.y 10;have b:=i.r.y 11
 have c12:=i.r.y 12;have I:=i.r.y 13;have J:=i.r.y 14;have K:=i.r.y 15;have f3:=i.r.A 3;have f4:=i.r.A 4;have f5:=i.r.A 5;have f6:=i.r.A 6;have f7:=i.r.A 7;have f8:=i.r.A 8;have f9:=i.r.A 9;have L:=i.r.A 10;have M:=i.r.A 11;have N:=i.r.A 12;have O:=i.r.A 13;have Q:=i.r.A 14;have R:=i.r.A 15;have v:=i.r.lt;go_wp2;clear m f3 p f4 S f5 T f6 U f7 V f8 W f9 c10 L b M c12 N I O J Q K R v;have p:=(((((((((((((i.set 3 σ (yI z X.length E)).set 4 σ (yI A 0 C)).set 5 σ (yR false)).set 6 σ (Z 0)).set 7 σ (Z 0)).set 8 σ (Z 0)).set 9 σ (Z 0)).set 10 σ (Z 0)).set 11 σ (Z 0)).set 12 σ (Z 0)).set 13 σ (Z 0)).set 14 σ (Z 0)).set 15 σ (yI none 0 0))
 generalize World.setCell _ _ _=I at p⊢;rw[H.j];refine GM (v:=.tuple #[]) (by simp[results,results157]) rfl ⟨rfl,⟨z,E,A,C,none,0,q.p,q.cp,q.t,q.ct⟩,λb=>if b<w.heap.size then o b else 1,p.r,?_,λb m=>AI m,p.e,AL _⟩;have v:=p.m.q.1 (λb=>if b<w.heap.size then o b else 1) (λb m=>AI m);exact⟨TC p.m.q.2 VJ u (λg e=>AF (by have:=u g e;omega)),.inl rfl,.inl rfl,v.h4,v.h5⟩
def Wo.no(x:Wo)(e:Ev)(D:Dd):Prop:=D.C≠0\/200<(OF x e D).length\/2000<(QJ x e D).length
def Wo.runE(x:Wo)(e:Ev)(D:Dd):Wo:=if D.C≠0\/200<(OF x e D).length\/2000<(QJ x e D).length then x else if QV e D=true then (x.ran e D).pow e.fs else (x.ran e D).upS D
def Wo.runB(x:Wo)(e:Ev)(D:Dd):Bool:=if D.C≠0\/200<(OF x e D).length\/2000<(QJ x e D).length then false else !QV e D
theorem Id(d:List yZ)(f:List (Int×yZ))(b:List OpT)(N:Nat)(h:N<=b.length):NU d f (b.take N) (N:Int)=NU d f b (N:Int):=by
 unfold NU QO;simp[AX,Nat.min_eq_left h,II]
theorem Nu{d:List OpT}(h:Ops w a d)(k:Nat):Ops w a (d.take k):=by
 rcases h with h|⟨b,o,e,f,j⟩
 ·exact .inl (by rw[h];exact List.take_nil)
 refine .inr ⟨b,o,e,f,λi l=>?_⟩
 rw[AX]at l;have:=j i ω;rw[show(d.take k).getD i (false,0,empty)=d.getD i (false,0,empty) by simp[List.getD,FO,show i<k by omega]];exact this
theorem wU(x:Wo)(q:Wp)(e:Ev)(a:xA)(c:Nat)(f:xA)(d:Nat)(D:Dd)(F:xA)(G:Nat)(z:xA)(H:Nat)(p:xA)(M SB:Nat)(l:Int)(o:Nat->Nat)(w:xV)(hR:Row w SB (RN l x q))(h:QG x w q o)(h0:o SB=0)(hp:XF w o p (OF x e D))(hs:OwL w o 3 F (LN D.rs))(m:OwL w o 6 z (Or D.ops))(cF:D.ops.length<=H)(hf:DepF w (λb=>b≠SB) (λW=>Ints W f e.fs))(T:x.ok)(hd:D.ok)(he:e.le)(cH:x.rs.length<=q.cs)(cI:D.rs.length<=G):Calls prog 156 #[zW SB 0,NR e a c f d,MD D F G z H,yI p (OF x e D).length M] w λr w'=>r=yT (yR (x.runB e D))/\YW w w' SB l o (x.runE e D):=by
 have bV:=Y (AG cH cI);clear cH cI;have i:=T.le;have U:=hR.lt;have j:=((((XZ hR (h.all h0 U)).add (hp.all h0 U)).add (hs.all ω h0 U)).add (m.all ω h0 U)).add hf;clear hR h hp hs m hf;have cS:=hd.2.1;obtain⟨aY,aB⟩:∃y,Hid (y=x.runE e D):=⟨_,Y rfl⟩;obtain⟨RB,aN⟩:∃y,Hid (y=x.runB e D):=⟨_,Y rfl⟩;rw[<-aB.j,<-aN.j];obtain⟨N,R⟩:∃N,Hid (N=VM e D):=⟨_,Y rfl⟩;obtain⟨CB,aW⟩:∃b,Hid (b=QV e D):=⟨_,Y rfl⟩;have cQ:N<=D.ops.length:=by rw[R.j];exact pB e D
 obtain⟨C,I⟩:∃y,Hid (y=OF x e D):=⟨_,Y rfl⟩;rw[<-I.j]at j⊢;have bQ:C.length<=201:=by have:=T.p.1;rw[I.j];unfold OF;split<;>(try simp)<;>omega
 obtain⟨v,J⟩:∃y,Hid (y=QJ x e D):=⟨_,Y rfl⟩;have u:Hid (∀w',Calls prog 209 #[yI z D.ops.length H,Z e.cut] w' λr t=>r=yT (.tuple #[yI z (VM e D) H,yR (QV e D)])/\t=w'):=Y (λw'=>B6 z D.ops.length H e.cut w' cF cS);rw[<-R.j,<-aW.j]at u;obtain⟨A,aM⟩:∃y,Hid (y=D.ops.take N):=⟨_,Y rfl⟩;have cC:A.length=N:=by rw[aM.j,AX];omega
 have L:=Y (λw' k=>At z A H w' k ω);rw[cC]at L;have bW:Hid (∀W,Ops W z D.ops->Ops W z A):=Y (λW k=>by rw[aM.j];exact Nu k N);have aZ:[x.ts,NH A].flatten=v:=by rw[J.j,aM.j,R.j];simp[QJ]
 have bI:v.length<=3000:=by have h1:=T.t.1;have h2:=zb A;rw[<-aZ];simp;omega
 have O:=Y (λw' K t k3=>Jq q.a x.ss q.c q.a' x.ws q.c' z A H (N:Int) w' K t k3 ω ω (λo T=>by have:=hd.2.2 o (by rw[aM.j]at T;exact DM T);omega) i.l1 i.l2 i.s1 i.s2);obtain⟨t,bC⟩:∃y,Hid (y=NU x.ss x.ws D.ops (N:Int)):=⟨_,Y rfl⟩;rw[show NU x.ss x.ws A (N:Int)=t by rw[bC.j,aM.j];exact Id _ _ _ _ cQ,cC]at O;have HD:=Y hd;have HM:=Y i;have HO:=Y T;have HE:=Y he;clear hd i T he cF;unfold LM at O;unfold NR MD;go_enter func156,ntmps156;go_upto_region 1 with fail;generalize i:w.alloc _=v1;obtain⟨cE,S,X⟩:=LK i;clear i;generalize Q:v1.alloc _=v2;obtain⟨E,V,i⟩:=LK Q;clear Q;rw[S]at i V;replace j:=(((j.I cE).I E).add (TP (X.I E).q ω)).add (TP i.q ω);have l2:w.heap.size+1<v2.heap.size:=ω
 clear cE E X i S V;have cY:=j.m.q.1.2.lt;have E:=j.m.q.1.2.y 2;have i:=j.m.q.2.y 11;have dl:=j.m.q.2.lt;go_wp2_with fail;clear E i;refine(u.j _).J ?_;rintro r E ⟨rfl,i⟩;rw[i];clear i E u;go_upto_region 2 with fail;have S:Hid (∀W,yX v2 W->W.cell? (yA SB 17)=some (yI q.t x.ts.length q.ct)):=Y (λW m=>(j.I m).r.y 17);have i:=AB v2.heap.size v2;refine AN (S:=λw'=>w'.cell? (yA SB 17)=some (yI q.t x.ts.length q.ct)) κ (S.j _ i.drew) (λu=>?_);refine TY 0 (zW SB 0) rfl u (TY 1 (zW SB 0) rfl u (TY 2 (zW SB 2) rfl u (TK 3 (zW SB 17) rfl (AS ⟨ρ,λw hw=>by obtain z0:=hw;have l:=DQ _ _ hw;go_simp⟩) u (TY 4 (yI q.t x.ts.length q.ct) rfl u (TY 5 (yI z N H) rfl u ?_)))))
 simp only[PS];refine RD 6 rfl (λKq E=>?_);replace i:=i.drew;refine LI ρ 211 #[yI z N H] γ (L.j _ (bW.j _ ((j.I i).m.q.1.1.1.2 o (λ_ _=>rfl)).own.ops)) ?_;rintro r y1 ⟨vd,rfl,V,m⟩;refine⟨_,rfl,?_⟩;have lD:=i.size;replace i:=i.E (m.J i.size);clear m L;refine E.j _ _ (S.j _ i) (λaD=>?_)
 try simp only[PS]
 refine RD 7 rfl (λKq E=>?_);obtain⟨bR,bT,rfl⟩:∃a c,vd=yI a (NH A).length c:=UX V;go_simp;obtain⟨y2,Q⟩:∃y,y=y1.alloc (.cells #[yI q.t x.ts.length q.ct,yI bR (NH A).length bT] 27):=⟨_,rfl⟩;rw[<-Q];have L:=LS y1 #[yI q.t x.ts.length q.ct,yI bR (NH A).length bT] 27;have m:=LG y1 (.cells #[yI q.t x.ts.length q.ct,yI bR (NH A).length bT] 27);rw[<-Q]at L m;obtain⟨GB,aO⟩:∃y,y=y1.heap.size:=⟨_,rfl⟩;rw[<-aO]at L⊢;have X:=LZ V m;replace i:=i.E (m.J i.size);have lY:=i.size;clear Q aO m V;refine E.j _ _ (S.j _ i) (λaS=>?_)
 try simp only[PS]
 refine RD 8 rfl (λKq E=>?_);have Q:=M9 GB 2 [x.ts,NH A] y2 (Np (L.y 0) (L.y 1) ((j.I i).m.q.1.1.1.1.1.1 o (λ_ _=>rfl)).h5.own.strs (Ey X)) L.lt (by rw[rq,aZ];omega) σ;rw[rq,aZ]at Q;refine LI ρ 210 #[yI (zY GB 0) 2 2] γ Q ?_;rintro r y3 ⟨vt,rfl,ot,m⟩;refine⟨_,rfl,?_⟩;have l3:=m.size;replace i:=i.E (m.J i.size);clear m Q X L;refine E.j _ _ (S.j _ i) (λL=>?_)
 try simp only[PS]
 refine RD 9 rfl (λKq E=>?_);go_simp;refine E.j _ _ L (λ_=>?_)
 try simp only[PS]
 refine DN ?_;obtain⟨Q,V,rfl⟩:=UX ot;obtain⟨X,gT⟩:=sA ot
 have aR:∀g,blk Q v.length=some g->w.heap.size<=g:=λg k=>by have:=(gT g k).1;omega
 replace j:=(j.I i).add (UR X VJ aR U);clear S ot X i lD l3 aD aS L u;have d0:=j.m.q.1.2.y 0;have dl:=j.m.q.1.2.lt;go_upto_region 3 with fail;generalize Value.tuple _=T9;generalize Value.agg _=A8;generalize Value.agg _=A9;go_cut [41] from 29 to 40 (λi u=>i=yR (decide (D.C≠0\/200<C.length\/2000<v.length))/\u=y3)
 case first =>
  by_cases i:D.C=0
  ·have L:(D.C == 0)=true:=by simp[i]
   have u:=Y i;clear i
   by_cases t1:200<C.length
   ·have S:(200:Int)<(C.length:Int):=ω
    go_wp2_with fail;go_meet;exact⟨by rw[AM (.inr (.inl t1))],rfl⟩
   have S:¬((200:Int)<(C.length:Int)):=ω
   by_cases t2:2000<v.length
   ·have X:(2000:Int)<(v.length:Int):=ω
    go_wp2_with fail;go_meet;exact⟨by rw[AM (.inr (.inr t2))],rfl⟩
   have X:¬((2000:Int)<(v.length:Int)):=ω
   go_wp2_with fail;go_meet;exact⟨by rw[AH (by have:=u.j;omega)],rfl⟩
  have L:(D.C == 0)=false:=by simp[i]
  go_wp2_with fail;go_meet;exact⟨by rw[AM (.inl i)],rfl⟩
 case rest =>
 obtain⟨rfl,i⟩:=hcut;rw[i];clear i d0 dl
 by_cases u:D.C≠0\/200<C.length\/2000<v.length
 ·rw[AM u]
  have S:x=aY:=by rw[aB.j];unfold Wo.runE;rw[<-I.j,<-J.j,AI u]
  have eb:false=RB:=by rw[aN.j];unfold Wo.runB;rw[<-I.j,<-J.j,AI u]
  clear aB aN;subst S eb;have X:=Y j;clear j O u;go_wp2;refine AE (v:=yR false) (by simp[results,results156]) rfl ⟨rfl,q,o,X.j.r,X.j.m.q.1.1.1.1.1.1.1 o (λ_ _=>rfl),λ_ _=>rfl,X.j.e,bV.j.1⟩
 rw[AH u];obtain⟨i,L⟩:∃y,Hid (y=x.ran e D):=⟨_,Y rfl⟩;have bE:Hid (i={ x with ss:=t.1,ws:=t.2,P:=C,ts:=v }):=Y (by rw[L.j,bC.j,I.j,J.j,R.j];rfl);have cM:Hid (i.le 1048576):=Y (by rw[L.j];exact(HO.j.ran e (d:=D) HD.j (by rw[<-I.j,<-J.j];omega)).le);have S:aY=if CB=true then i.pow e.fs else i.upS D:=by rw[aB.j,L.j,aW.j];unfold Wo.runE;rw[<-I.j,<-J.j,AF u]
 have eb:RB=!CB:=by rw[aN.j,aW.j];unfold Wo.runB;rw[<-I.j,<-J.j,AF u]
 have ER:=Y S;have EB:=Y eb;clear S eb u aB aN bC R aW L bQ bI aZ J I;have u:=j.r.y 3;have L:=j.r.y 4;have c16:=j.r.y 16;have I:=j.r.y 17;have f16:=j.r.A 16;have J:=j.r.A 17;have S:=j.r.lt;go_wp2_with fail;clear u L c16 f16 I J S;replace j:=(j.set 16 σ (yI p C.length M)).set 17 σ (yI Q v.length V);have z6:((y3.setCell (yA SB 16) (yI p C.length M)).setCell (yA SB 17) (yI Q v.length V)).heap.size=y3.heap.size:=by rw[BL,BL]
 generalize u:World.setCell (World.setCell _ _ _) _ _=v6 at j z6⊢;clear u;have L:=j.m.q.1.1.1.1.1.1.1 o (λ_ _=>rfl);refine(O.j _ L.h1.own.strs L.h2.own.wrs (bW.j _ (j.m.q.1.1.1.1.2 o (λ_ _=>rfl)).own.ops)).J ?_;rintro r7 v7 ⟨I,K,J,R,rfl,u,g1,g2,m⟩;have l6:=j.e.size;have l7:=m.size
 have X:∀g,blk I t.1.length=some g->w.heap.size<=g:=λg k=>by have:=g1 g k;omega
 have gB:∀g,blk J t.2.length=some g->w.heap.size<=g:=λg k=>by have:=g2 g k;omega
 replace j:=((j.I m).add (UR u.s VJ X U)).add (UR u.p af gB U);have bP:=u.ne;clear m O u L;have u:=j.r.y 3;have L:=j.r.y 4;have O:=j.r.A 3;have f4:=j.r.A 4;have S:=j.r.lt;go_upto_region 7 with fail;clear u O L f4 S;replace j:=(j.set 3 σ (yI I t.1.length K)).set 4 σ (yI J t.2.length R);have z8:((v7.setCell (yA SB 3) (yI I t.1.length K)).setCell (yA SB 4) (yI J t.2.length R)).heap.size=v7.heap.size:=by rw[BL,BL]
 generalize u:World.setCell (World.setCell _ _ _) _ _=L at j z8⊢;clear u;obtain⟨O,u⟩:∃y,Hid (y=YP w.heap.size o (blk I t.1.length) (blk J t.2.length)):=⟨_,Y rfl⟩
 have y:∀b,b<w.heap.size->O b=o b:=λb m=>by rw[u.j];exact L5 m
 have aX:DepF L (λb=>b≠SB) (λW=>QG i W ⟨I,K,J,R,q.s,q.cs,p,M,Q,V⟩ O):=j.m.map (λW ⟨⟨⟨⟨⟨⟨⟨⟨⟨mW,mP⟩,mS⟩,mO⟩,mI⟩,rE⟩,rD⟩,mT⟩,mA⟩,mB⟩=>by
  rw[bE.j];refine⟨TC mA VJ X (λg k=>by rw[u.j];exact I1 (X g k) k),TC mB af gB (λg k=>by rw[u.j];exact K5 (gB g k) k bP),(mW O y).h3,mP O y,TC mT VJ aR (λg k=>?_)⟩
  rw[u.j];exact zU (aR g k) (λe=>by have:=g1 g e;have:=(gT g k).2;omega) (λe=>by have:=g2 g e;have:=(gT g k).2;omega))
 have z1:O SB=0:=(y SB U).E h0
 cases CB with
 | true =>
  have S:=tS i ⟨I,K,J,R,q.s,q.cs,p,M,Q,V⟩ f e.fs d SB l O L (by rw[bE.j];exact j.r) aX.q z1 j.m.q.1.1.1.1.1.2 cM.j HE.j.f;have e3:=j.m.q.1.1.1.1.2.y 3;have el:=j.m.q.1.1.1.1.2.lt;have SE:=Y j.e;clear j aX X gB gT aR g1 g2 bP h0 u;have bU:=Y S;clear S;go_wp2_with fail;clear e3 el;refine bU.j.J ?_;rintro r9 v9 ⟨rfl,q2,o2,R9,W9,a9,S,K9⟩;have H9:=Y (AG R9 W9);have cL:=Y K9;have HG:=Y S;clear R9 W9 bU S K9;go_wp2;refine AE (v:=yR false) (by simp[results,results156]) rfl ⟨by rw[EB.j];rfl,q2,o2,?_,?_,λb m=>(a9 b ω).E (y b m),VL SE.j HG.j,by rw[ER.j];exact cL.j⟩
  ·rw[ER.j];exact H9.j.1
  rw[ER.j];exact H9.j.2
 | false =>
  have S:aY=i.upS D:=by rw[ER.j,AF σ]
  have bY:DepF L (λb=>b≠SB) (λW=>QG aY W ⟨I,K,J,R,F,G,p,M,Q,V⟩ O):=(aX.and j.m).map (λW ⟨hW,⟨⟨⟨⟨⟨⟨⟨⟨⟨mW,mP⟩,mS⟩,mO⟩,mI⟩,rE⟩,rD⟩,mT⟩,mA⟩,mB⟩⟩=>by rw[S];exact⟨hW.h1,hW.h2,mS O y,hW.h4,hW.h5⟩);replace j:=j.add bY;clear bY aX X gB gT aR g1 g2 bP h0 u;go_upto_region 10 with fail;refine AN (S:=λw'=>Row w' (w.heap.size+1) (dJ D.C D.W D.S D.L D.T D.H D.F D.R D.U D.O (yI F D.rs.length G) (yI z D.ops.length H))/\SB<w'.heap.size) κ (⟨(j.I (AB L.heap.size L).drew).m.q.1.1.1.1.2,(j.I (AB L.heap.size L).drew).r.lt⟩) (λu=>?_);refine TY 0 (zW SB 0) rfl u (TY 1 (zW SB 0) rfl u (TK 2 (zW (w.heap.size+1) 1) rfl (AS ⟨ρ,λw hw=>by obtain⟨z0,z1⟩:=hw;have l:=z0.lt;go_simp⟩) u (TK 3 (.agg (sK D.W D.S D.L D.T D.H D.F D.R D.U D.O (yI F D.rs.length G))) rfl (AS ⟨ρ,λw hw=>by obtain⟨z0,z1⟩:=hw;exact QI 39 _ rfl _ 1 rfl (sJ D.W D.S D.L D.T D.H D.F D.R D.U D.O (yI F D.rs.length G)) _ (Row.rangeMid (pre:=[Z D.C]) (cs:=(sJ D.W D.S D.L D.T D.H D.F D.R D.U D.O (yI F D.rs.length G))) (post:=[yI z D.ops.length H]) z0) underlying39 rfl OQ⟩) u (TY 4 (zW SB 0) rfl u (TY 5 (zW SB 2) rfl u (TY 6 (zW SB 5) rfl u ?_))))))
  simp only[PS];refine RD 7 rfl (λKq E=>?_);replace j:=j.I (AB L.heap.size L).drew;generalize b:L.drew=y9 at j⊢;clear b;have b:=j.r.y 5;have W:=j.r.A 5;go_simp;clear b W;replace j:=j.set 5 σ (yR true);generalize World.setCell _ _ _=W at j⊢;refine E.j _ _ (⟨j.m.q.1.1.1.1.2,j.r.lt⟩) (λaD=>?_)
  try simp only[PS]
  refine TY 8 (zW SB 0) rfl aD (TY 9 (zW SB 2) rfl aD (TY 10 (zW SB 6) rfl aD ?_));simp only[PS];refine RD 11 rfl (λKq E=>?_);refine SN rfl 39 _ _ rfl SB 6 (sK D.W D.S D.L D.T D.H D.F D.R D.U D.O (yI F D.rs.length G)) rfl rfl (Row.thereMid (pre:=[.int .i32 l,.int .u32 0,Z x.w,yI I t.1.length K,yI J t.2.length R,yR true]) (cs:=(sJ x.W x.S x.L x.T x.H x.F x.R x.U x.O (yI q.s x.rs.length q.cs))) (post:=[yI p C.length M,yI Q v.length V]) j.r rfl) OQ κ ?_;replace j:=j.put (OU _ SB 6 (sJ D.W D.S D.L D.T D.H D.F D.R D.U D.O (yI F D.rs.length G))) (Row.setsMid (pre:=[.int .i32 l,.int .u32 0,Z x.w,yI I t.1.length K,yI J t.2.length R,yR true]) (cs:=(sJ x.W x.S x.L x.T x.H x.F x.R x.U x.O (yI q.s x.rs.length q.cs))) (post:=[yI p C.length M,yI Q v.length V]) j.r (sJ D.W D.S D.L D.T D.H D.F D.R D.U D.O (yI F D.rs.length G)) rfl)
  generalize World.setCells _ _ _ _=y5 at j⊢;refine E.j _ _ (⟨j.m.q.1.1.1.1.2,j.r.lt⟩) (λaS=>?_)
  try simp only[PS]
  refine DN ?_;have X:=Y j;have b:=Y S;clear j S;go_wp2;refine AE (v:=yR true) (by simp[results,results156]) rfl ⟨by rw[EB.j];rfl,⟨I,K,J,R,F,G,p,M,Q,V⟩,O,?_,?_,y,X.j.e,by rw[b.j];exact bV.j.2⟩
  ·rw[b.j,bE.j];exact X.j.r
  exact X.j.m.q.2
end
theorem VV:(prog.info? 78).map (·.size)=some 4:=κ
theorem Mn{o:Nat->Nat}{b:List Pr}(d:Row w g [yI a b.length c])(f:o g=5)(h:OwL w o 7 a (LN b)):XF w o (zY g 0) [b] :=.inr ⟨g,rfl,d.lt,f,λi j=>by
  obtain rfl:i=0:=by simpa using j
  exact⟨a,c,d.y 0,h⟩⟩
def Wo.setE(x:Wo)(e:Ev)(D:Dd):Wo:=if x.runB e D=true then { x.runE e D with P:=[D.rs] } else x.runE e D
theorem rn(x:Wo)(q:Wp)(e:Ev)(a:xA)(c:Nat)(f:xA)(d:Nat)(D:Dd)(z:xA)(A:Nat)(F:xA)(G SB:Nat)(l:Int)(o:Nat->Nat)(w:xV)(R:Row w SB (RN l x q))(h:QG x w q o)(H:o SB=0)(hs:OwL w o 3 z (LN D.rs))(m:OwL w o 6 F (Or D.ops))(aW:D.ops.length<=G)(hf:DepF w (λb=>b≠SB) (λW=>Ints W f e.fs))(ho:x.ok)(S:D.ok)(he:e.le)(hK:e.K≠2)(X:x.rs.length<=q.cs)(aO:D.rs.length<=A):Calls prog 155 #[zW SB 0,NR e a c f d,MD D z A F G] w λr w'=>r=yT (.tuple #[])/\YW w w' SB l o (x.setE e D):=by
 have lS:=R.lt;have i:OF x e D=x.P:=AF hK;have bB:=(UN S.1).1;have j:=((XZ R (h.depF H)).add (hs.depF ω H)).add ((m.depF ω H).and hf);have t:=Y (λw' v u E y C=>wU x q e a c f d D z A F G q.p q.cp SB l o w' v u H (by rw[i];exact u.h4) E y aW C ho S he X aO);rw[i]at t;unfold NR MD at t⊢;clear R h hs m hf ho S he i hK X aO;obtain⟨i,u⟩:∃y,Hid (y=x.runE e D):=⟨_,Y rfl⟩;obtain⟨U,E⟩:∃y,Hid (y=x.runB e D):=⟨_,Y rfl⟩;rw[<-u.j,<-E.j]at t;obtain⟨aP,v⟩:∃y,Hid (y=x.setE e D):=⟨_,Y rfl⟩;rw[<-v.j];have C:Hid (aP=if U=true then { i with P:=[D.rs] } else i):=Y (by rw[v.j,u.j,E.j];rfl);clear v u E;go_enter func155,ntmps155;go_upto_region 1 with fail;generalize u:w.alloc _=v1;obtain⟨K,I,L⟩:=LK u;clear u;generalize E:v1.alloc _=T;obtain⟨u,J,v⟩:=LK E;clear E;rw[I]at v J;replace j:=(((j.I K).I u).add (TP (L.I u).q ω)).add (TP v.q ω)
 clear K u L v I J;replace j:=j.I (AB T.heap.size T).drew;refine AN (S:=λw'=>SB<w'.heap.size/\Row w' w.heap.size [Z e.K,yI a e.b.length c,Z e.cut,yI f e.fs.length d]/\Row w' (w.heap.size+1) (dJ D.C D.W D.S D.L D.T D.H D.F D.R D.U D.O (yI z D.rs.length A) (yI F D.ops.length G))) κ (⟨j.r.lt,j.m.q.1.2,j.m.q.2⟩) (λv=>?_);refine TY 0 (zW SB 0) rfl v (TK 1 (.agg #[Z e.K,yI a e.b.length c,Z e.cut,yI f e.fs.length d]) rfl (AS ⟨ρ,λw u=>by obtain⟨z0,K,z2⟩:=u;exact QI 78 _ rfl _ 0 rfl _ _ K.range underlying78 rfl VV⟩) v (TK 2 (.agg (dK D.C D.W D.S D.L D.T D.H D.F D.R D.U D.O (yI z D.rs.length A) (yI F D.ops.length G))) rfl (AS ⟨ρ,λw u=>by obtain⟨z0,K,z2⟩:=u;exact QI 102 _ rfl _ 0 rfl _ _ z2.range underlying102 rfl RQ⟩) v (TY 3 (zW SB 0) rfl v (TY 4 (zW SB 0) rfl v (TY 5 (zW SB 2) rfl v (TY 6 (zW SB 16) rfl v ?_))))))
 simp only[PS];refine RD 7 rfl (λKq M=>?_);generalize u:T.drew=y at j⊢;clear u;have c16:=j.r.y 16;go_simp;clear c16;refine M.j _ _ (⟨j.r.lt,j.m.q.1.2,j.m.q.2⟩) (λaS=>?_)
 try simp only[PS]
 refine RD 8 rfl (λKq M=>?_);refine LI ρ 156 #[zW SB 0,.agg #[Z e.K,yI a e.b.length c,Z e.cut,yI f e.fs.length d],.agg (dK D.C D.W D.S D.L D.T D.H D.F D.R D.U D.O (yI z D.rs.length A) (yI F D.ops.length G)),yI q.p x.P.length q.cp] γ (t.j _ j.r j.m.q.1.1.1.1 j.m.q.1.1.1.2 j.m.q.1.1.2.1 (j.m.map λW k=>k.1.1.2.2)) ?_;rintro r J ⟨rfl,q1,I,O,u,L,E,N⟩;have W:=Y N;clear N;refine⟨_,rfl,?_⟩;have lw:=j.e.size;replace j:=j.put E O;have l1:=E.size;clear E O t;refine M.j _ _ (⟨j.r.lt,j.m.q.1.2,j.m.q.2⟩) (λaT=>?_)
 try simp only[PS]
 refine DN ?_;have K:I SB=0:=(L SB ω).E H
 cases U with
 | false =>
  have t:=Y j;have E:=Y u;clear j u;go_wp2;refine GM (v:=.tuple #[]) (by simp[results,results155]) rfl ⟨rfl,q1,I,?_,?_,λb m=>L b ω,t.j.e,by rw[C.j];exact W.j⟩
  ·rw[C.j];exact t.j.r
  rw[C.j];exact E.j
 | true =>
  have ly:SB<J.heap.size:=j.r.lt;replace j:=j.add (u.all K ly);clear u;have u:=Y (ZK z D.rs A J j.m.q.1.1.1.1.2.own.prs ω);unfold LR at u;have t:=j.m.q.1.2.y 10;have E:=j.m.q.1.2.lt;go_wp2_with fail;clear t E;refine u.j.J ?_;rintro r t ⟨V,c5,rfl,aZ,E,Q,m⟩;replace j:=j.I m;have l2:=m.size;have d5:=UR E (λN O=>N (by rw[AD O];rfl)) Q ly
  have g6:=λg k=>ZP (g:=g) E k
  replace j:=j.add d5;unfold LR;clear u m E d5;have c16:=j.r.y 16;have f16:=j.r.A 16;have u:=j.r.lt;go_wp2;clear c16 f16 u;have u:=j.set 16 σ (yI (zY t.heap.size 0) 1 1);have zs:(t.setCell (yA SB 16) (yI (zY t.heap.size 0) 1 1)).heap.size=t.heap.size:=BL _ _ _;generalize E:t.setCell _ _=y3 at u zs⊢;clear E j;have rN:=LS y3 #[yI V D.rs.length c5] 37;rw[zs]at rN;replace u:=u.I (LG y3 (.cells #[yI V D.rs.length c5] 37))
  have j:∀b,b<J.heap.size->(λb=>if b<J.heap.size then I b else if b=t.heap.size then 5 else 7) b=I b:=λb m=>AI m
  have E:=u.m.q.1.2 _ j;refine GM (v:=.tuple #[]) (by simp[results,results155]) rfl ⟨rfl,{ q1 with p:=zY t.heap.size 0,cp:=1 },_,?_,?_,λb m=>(j b ω).E (L b ω),u.e,by rw[C.j];exact W.j⟩
  ·rw[C.j];exact u.r
  rw[C.j];exact⟨E.h1,E.h2,E.h3,Mn rN τ (TC u.m.q.2 (λN O=>N (by rw[AD O];rfl)) Q (λg k=>by have b:=Q g k;have h2:=g6 g k;show(if g<J.heap.size then I g else if g=t.heap.size then 5 else 7)=7;rw[AF ω,AF ω])),E.h5⟩
theorem ul{x:Wo}{e:Ev}{D:Dd}(d:e.K≠5)(l:e.K≠2)(f:x.call e=(D,true)):x.doE e=x.setE e D:=by
 by_cases h:D.C≠0\/200<(OF x e D).length\/2000<(QJ x e D).length
 ·have i:x.runB e D=false:=by unfold Wo.runB;rw[AI h]
  have j:x.runE e D=x:=by unfold Wo.runE;rw[AI h]
  unfold Wo.setE;rw[i,j]
  by_cases b:D.C=0
  ·exact vo d f b ω
  exact YQ d f (.inr b)
 have b:D.C=0:=ω
 have i:x.runB e D=!QV e D:=by unfold Wo.runB;rw[AF h]
 have j:x.runE e D=if QV e D=true then (x.ran e D).pow e.fs else (x.ran e D).upS D:=by unfold Wo.runE;rw[AF h]
 unfold Wo.setE;rw[i,j]
 cases hb:QV e D with
 | true=>exact yr d f b ω hb
 | false=>exact wF d f b ω hb l
theorem tr{o:Nat->Nat}{N:Nat}{d:List Pr}{i:List OpT}{b:xA}(h:OwnDn w d i a b)(j:∀g,blk a d.length=some g->N<=g)(l:∀g,blk b i.length=some g->N<=g)(m:o SB=0)(p:SB<N):∃f:Nat->Nat,(∀x,x<N->f x=o x)/\f SB=0/\OwL w f 3 a (LN d)/\OwL w f 6 b (Or i):=by
 refine⟨λx=>if x<N then o x else if blk a d.length=some x then 3 else 6,λx f=>AI f,(AI p).E m,TC h.s RG j (λg k=>?_),TC h.p ju l (λg k=>?_)⟩
 ·show(if g<N then o g else if blk a d.length=some g then 3 else 6)=3
  rw[AF (by have:=j g k;omega),AI k]
 show(if g<N then o g else if blk a d.length=some g then 3 else 6)=6
 rw[AF (by have:=l g k;omega),AF (λe=>by rcases h.ne with h|h|h;rw[h]at e;cases e;rw[h]at k;cases k;exact h (e.E k.symm))]
theorem Ez(x:Wo)(q:Wp)(e:Ev)(a:xA)(c:Nat)(f:xA)(d SB:Nat)(l:Int)(o:Nat->Nat)(w:xV)(L:Row w SB (RN l x q))(h:QG x w q o)(h0:o SB=0)(aO:x.rs.length<=q.cs)(hf:DepF w (λb=>b≠SB) (λW=>Ints W f e.fs))(N:x.ok)(he:e.le)(F:e.K=1)(ty:TypeId)(gv:qD)(aZ:w.cell? (yA 7 0)=some (.iface ty gv))(aY:w.cell? (yA 1 0)=some (.iface 320 (.agg #[zW 10 57])))(aP:7<w.heap.size):Calls prog 108 #[zW SB 0,NR e a c f d] w λr w'=>r=yT (.tuple #[])/\YW w w' SB l o (x.doE e):=by
 have lS:=L.lt;have j:=N.le;have hd:(NM x.ss x.ws x.w).ok:=by have:=N.call e;unfold Wo.call at this;simpa[F] using this
 have i:=(XZ L (h.all h0 lS)).add hf;have E:=Y (λD1 O R Q S o' w' (M:Row w' SB (RN l x q)) h' h0' hs' hb' hbc hf' hd' hdc'=>rn x q e a c f d D1 O R Q S SB l o' w' M h' h0' hs' hb' hbc hf' N hd' he ω aO hdc');have aQ:=Y aO;unfold NR MD at E;unfold NR;have v:=Y (λw' h1 h2 (p:yX w w')=>ug q.a x.ss q.c q.a' x.ws q.c' x.w w' h1 h2 j.l1 j.l2 j.s1 j.s2 ty gv ((p.cell (p:=(yA 7 0)) aP).E aZ) ((p.cell (p:=(yA 1 0)) (by show 1<_;omega)).E aY) (AC aP p.size));unfold LM at v;obtain⟨aN,C⟩:∃y,Hid (y=x.doE e):=⟨_,Y rfl⟩;rw[<-C.j];obtain⟨D,U⟩:∃D,Hid (D=NM x.ss x.ws x.w):=⟨_,Y rfl⟩;rw[<-U.j]at v hd;have aM:Hid (x.call e=(D,!x.up)):=Y (by rw[U.j];unfold Wo.call;simp[F]);have I:=Y F;clear L h hf j F;go_enter func108,ntmps108;go_upto_region 1 with fail;generalize j:w.alloc _=G;obtain⟨t,u,m⟩:=LK j
 clear j;replace i:=(i.I t).add (TP m.q ω);clear m u;have c5:=i.r.y 5;have cl:=i.r.lt;have bE:=t.size;obtain⟨u,J⟩:∃u,Hid (u=x.up):=⟨_,Y rfl⟩;rw[<-J.j]at c5
 cases u with
 | false =>
  have A:aN=x.setE e D:=by rw[C.j];exact ul (by have:=I.j;omega) (by have:=I.j;omega) (by rw[aM.j,<-J.j];rfl)
  go_upto_region 2 with fail;clear c5 cl;replace i:=i.I (AB G.heap.size G).drew;replace t:=t.drew;refine AN (S:=λw'=>SB<w'.heap.size/\Row w' w.heap.size [Z e.K,yI a e.b.length c,Z e.cut,yI f e.fs.length d]) κ (⟨i.r.lt,i.m.q.2⟩) (λm=>?_);refine TY 0 (zW SB 0) rfl m (TK 1 (.agg #[Z e.K,yI a e.b.length c,Z e.cut,yI f e.fs.length d]) rfl (AS ⟨ρ,λw j=>by obtain⟨z0,T⟩:=j;exact QI 78 _ rfl _ 0 rfl _ _ T.range underlying78 rfl VV⟩) m (TY 2 (zW SB 0) rfl m (TY 3 (zW SB 0) rfl m (TY 4 (zW SB 2) rfl m (TY 5 (zW SB 3) rfl m (TY 7 (zW SB 0) rfl m (TY 8 (zW SB 0) rfl m (TY 9 (zW SB 2) rfl m (TY 10 (zW SB 2) rfl m ?_)))))))))
  simp only[PS];refine ET (rs:=[6,11]) κ σ ?_;refine DC rfl (λz j=>?_) (DC rfl (λz j=>?_) EP)
  focus
   generalize H:G.drew=y at i t⊢;clear H;have H:=i.r.y 3;have K:=i.r.y 4;go_simp;clear H K;refine j.j _ _ (⟨i.r.lt,i.m.q.2⟩) (λaT=>?_)
   try simp only[PS]
   refine RD 11 rfl (λz j=>?_);have H:=i.r.y 2;go_simp;clear H;refine j.j _ _ (⟨i.r.lt,i.m.q.2⟩) (λaH=>?_)
   try simp only[PS]
   have aX:=aH
  rotate_left
  focus
   generalize H:G.drew=y at i t⊢;clear H;have H:=i.r.y 2;go_simp;clear H;refine j.j _ _ (⟨i.r.lt,i.m.q.2⟩) (λaU=>?_)
   try simp only[PS]
   refine RD 6 rfl (λz j=>?_);have H:=i.r.y 3;have K:=i.r.y 4;go_simp;clear H K;refine j.j _ _ (⟨i.r.lt,i.m.q.2⟩) (λaI=>?_)
   try simp only[PS]
   have aX:=aI
  all_goals
   refine RD 12 rfl (λz j=>?_);have ly:=i.e.size;refine LI ρ 117 #[.agg #[yI q.a x.ss.length q.c,yI q.a' x.ws.length q.c'],Z x.w] γ (v.j _ (i.m.q.1.1 o (λ_ _=>rfl)).h1.own.strs (i.m.q.1.1 o (λ_ _=>rfl)).h2.own.wrs t) ?_;rintro r y1 ⟨⟨O,R,Q,S,rfl,aK,own,g1,g2,p⟩,H⟩;have bB:=H _ _ _ _ rfl;refine⟨_,rfl,?_⟩;unfold MD;have lb:=p.size;replace i:=i.I p;clear p H v;refine j.j _ _ (⟨i.r.lt,i.m.q.2⟩) (λaV=>?_)
   try simp only[PS]
   refine RD 13 rfl (λz j=>?_);obtain⟨o1,ag,T,bC,aJ⟩:=tr (o:=o) (N:=w.heap.size) own (λg k=>by have:=g1 g k;omega) (λg k=>by have:=g2 g k;omega) h0 lS;refine LI ρ _ _ γ (E.j D O R Q S o1 _ i.r (i.m.q.1.1 o1 ag) T bC aJ bB (i.m.map λW k=>k.1.2) hd aK) ?_;rintro r y2 ⟨rfl,q1,o2,W,X,a1,H,K⟩;have aS:=Y K;clear K;refine⟨_,rfl,?_⟩;have lw:=i.e.size;have K:=VL i.e H;replace i:=i.put H W;clear E own;refine j.j _ _ (⟨i.r.lt,i.m.q.2⟩) (λaW=>?_)
   try simp only[PS]
   refine DN ?_;have V:=Y (AG i.r X);have aR:=Y K;clear i X K W H;go_wp2;refine GM (v:=.tuple #[]) (by simp[results,results108]) rfl ⟨rfl,q1,o2,?_,?_,λb p=>(a1 b ω).E (ag b p),aR.j,by rw[A];exact aS.j⟩
   ·rw[A];exact V.j.1
   ·rw[A];exact V.j.2
 | true =>
  have A:x=aN:=by rw[C.j];exact(YQ (by have:=I.j;omega) aM.j (.inl (by rw[<-J.j];rfl))).symm
  clear C;subst A;have b:=Y i;clear i v E;go_wp2;exact GM (v:=.tuple #[]) (by simp[results,results108]) rfl ⟨rfl,q,o,b.j.r,b.j.m.q.1.1 o (λ_ _=>rfl),λ_ _=>rfl,b.j.e,aQ.j⟩
theorem Bq(x:Wo)(q:Wp)(e:Ev)(a:xA)(c:Nat)(f:xA)(d SB:Nat)(l:Int)(o:Nat->Nat)(w:xV)(I:Row w SB (RN l x q))(h:QG x w q o)(h0:o SB=0)(H:x.rs.length<=q.cs)(hf:DepF w (λb=>b≠SB) (λW=>Ints W f e.fs))(K:x.ok)(he:e.le)(E:e.K=3):Calls prog 110 #[zW SB 0,NR e a c f d] w λr w'=>r=yT (.tuple #[])/\YW w w' SB l o (x.doE e):=by
 have lS:=I.lt;have j:=K.le;have hd:(PZ x.W x.S x.L x.T x.H x.F x.R x.U x.O x.rs).ok:=by have:=K.call e;unfold Wo.call at this;simpa[E] using this
 have i:=(XZ I (h.all h0 lS)).add hf;have C:=Y (λD1 L N M O o' w' (J:Row w' SB (RN l x q)) h' h0' hs' hb' hbc hf' hd' hdc'=>rn x q e a c f d D1 L N M O SB l o' w' J h' h0' hs' hb' hbc hf' K hd' he ω H hdc');have aM:=Y H;unfold NR MD at C;unfold NR;have m:=Y (λw' p=>wV x.W x.S x.L x.T x.H x.F x.R x.U x.O q.s x.rs q.cs w' p H j.l3 j.s3);unfold MI at m;obtain⟨aL,A⟩:∃y,Hid (y=x.doE e):=⟨_,Y rfl⟩;rw[<-A.j];obtain⟨D,S⟩:∃D,Hid (D=PZ x.W x.S x.L x.T x.H x.F x.R x.U x.O x.rs):=⟨_,Y rfl⟩;rw[<-S.j]at m hd;have X:Hid (x.call e=(D,x.up)):=Y (by rw[S.j];unfold Wo.call;simp[E]);have F:=Y E;clear I h hf j E;go_enter func110,ntmps110;go_upto_region 1 with fail;generalize j:w.alloc _=Q;obtain⟨t,u,p⟩:=LK j;clear j;replace i:=(i.I t).add (TP p.q ω);clear p u;have p:=i.r.y 5;have z:=i.r.lt
 have aV:=t.size;obtain⟨u,G⟩:∃u,Hid (u=x.up):=⟨_,Y rfl⟩;rw[<-G.j]at p
 cases u with
 | false =>
  have v:x=aL:=by rw[A.j];exact(YQ (by have:=F.j;omega) X.j (.inl (by rw[<-G.j]))).symm
  clear A;subst v;have j:=Y i;clear i m C;go_wp2;exact GM (v:=.tuple #[]) (by simp[results,results110]) rfl ⟨rfl,q,o,j.j.r,j.j.m.q.1.1 o (λ_ _=>rfl),λ_ _=>rfl,j.j.e,aM.j⟩
 | true =>
  have v:aL=x.setE e D:=by rw[A.j];exact ul (by have:=F.j;omega) (by have:=F.j;omega) (by rw[X.j,<-G.j])
  go_upto_region 2 with fail;clear p z;replace i:=i.I (AB Q.heap.size Q).drew;replace t:=t.drew;refine AN (S:=λw'=>SB<w'.heap.size/\Row w' w.heap.size [Z e.K,yI a e.b.length c,Z e.cut,yI f e.fs.length d]) κ (⟨i.r.lt,i.m.q.2⟩) (λj=>?_);refine TY 0 (zW SB 0) rfl j (TK 1 (.agg #[Z e.K,yI a e.b.length c,Z e.cut,yI f e.fs.length d]) rfl (AS ⟨ρ,λw p=>by obtain⟨z0,R⟩:=p;exact QI 78 _ rfl _ 0 rfl _ _ R.range underlying78 rfl VV⟩) j (TY 2 (zW SB 0) rfl j (TY 3 (zW SB 0) rfl j (TY 4 (zW SB 2) rfl j (TY 5 (zW SB 6) rfl j ?_)))));simp only[PS];refine RD 6 rfl (λT p=>?_);generalize z:Q.drew=y at i t⊢;clear z;refine n7 rfl 39 _ rfl SB 6 rfl (sJ x.W x.S x.L x.T x.H x.F x.R x.U x.O (yI q.s x.rs.length q.cs)) _ (Row.rangeMid (pre:=[.int .i32 l,.int .u32 0,Z x.w,yI q.a x.ss.length q.c,yI q.a' x.ws.length q.c',yR x.up]) (cs:=(sJ x.W x.S x.L x.T x.H x.F x.R x.U x.O (yI q.s x.rs.length q.cs))) (post:=[yI q.p x.P.length q.cp,yI q.t x.ts.length q.ct]) i.r) underlying39 rfl OQ ?_
  refine p.j _ _ (⟨i.r.lt,i.m.q.2⟩) (λaQ=>?_)
  try simp only[PS]
  refine RD 7 rfl (λT p=>?_);have ly:=i.e.size;refine LI ρ 151 #[.agg (sK x.W x.S x.L x.T x.H x.F x.R x.U x.O (yI q.s x.rs.length q.cs))] γ (m.j _ (i.m.q.1.1 o (λ_ _=>rfl)).h3.own.prs) ?_;rintro r y1 ⟨⟨L,N,M,O,rfl,aH,own,g1,g2,z⟩,U⟩;have aT:=U _ _ _ _ rfl;refine⟨_,rfl,?_⟩;unfold MD;have lb:=z.size;replace i:=i.I z;clear z U m;refine p.j _ _ (⟨i.r.lt,i.m.q.2⟩) (λaR=>?_)
  try simp only[PS]
  refine RD 8 rfl (λT p=>?_);obtain⟨o1,ag,R,aU,aG⟩:=tr (o:=o) (N:=w.heap.size) own (λg k=>by have:=g1 g k;omega) (λg k=>by have:=g2 g k;omega) h0 lS;refine LI ρ _ _ γ (C.j D L N M O o1 _ i.r (i.m.q.1.1 o1 ag) R aU aG aT (i.m.map λW k=>k.1.2) hd aH) ?_;rintro r y2 ⟨rfl,q1,o2,U,V,W,m,z⟩;have aO:=Y z;clear z;refine⟨_,rfl,?_⟩;have lw:=i.e.size;have z:=VL i.e m;replace i:=i.put m U;clear C own;refine p.j _ _ (⟨i.r.lt,i.m.q.2⟩) (λaS=>?_)
  try simp only[PS]
  refine DN ?_;have C:=Y (AG i.r V);have aN:=Y z;clear i V z U m;go_wp2;refine GM (v:=.tuple #[]) (by simp[results,results110]) rfl ⟨rfl,q1,o2,?_,?_,λb z=>(W b ω).E (ag b z),aN.j,by rw[v];exact aO.j⟩
  ·rw[v];exact C.j.1
  rw[v];exact C.j.2
theorem Hh(x:Wo)(q:Wp)(e:Ev)(a:xA)(c:Nat)(f:xA)(d SB:Nat)(l:Int)(o:Nat->Nat)(w:xV)(I:Row w SB (RN l x q))(h:QG x w q o)(h0:o SB=0)(H:x.rs.length<=q.cs)(hf:DepF w (λb=>b≠SB) (λW=>Ints W f e.fs))(K:x.ok)(he:e.le)(E:e.K=4):Calls prog 111 #[zW SB 0,NR e a c f d] w λr w'=>r=yT (.tuple #[])/\YW w w' SB l o (x.doE e):=by
 have lS:=I.lt;have j:=K.le;have hd:(OY x.W x.S x.L x.T x.H x.F x.R x.U x.O x.rs).ok:=by have:=K.call e;unfold Wo.call at this;simpa[E] using this
 have i:=(XZ I (h.all h0 lS)).add hf;have C:=Y (λD1 L N M O o' w' (J:Row w' SB (RN l x q)) h' h0' hs' hb' hbc hf' hd' hdc'=>rn x q e a c f d D1 L N M O SB l o' w' J h' h0' hs' hb' hbc hf' K hd' he ω H hdc');have aM:=Y H;unfold NR MD at C;unfold NR;have m:=Y (λw' p=>yH x.W x.S x.L x.T x.H x.F x.R x.U x.O q.s x.rs q.cs w' p H j.l3 j.s3);unfold MI at m;obtain⟨aL,A⟩:∃y,Hid (y=x.doE e):=⟨_,Y rfl⟩;rw[<-A.j];obtain⟨D,S⟩:∃D,Hid (D=OY x.W x.S x.L x.T x.H x.F x.R x.U x.O x.rs):=⟨_,Y rfl⟩;rw[<-S.j]at m hd;have X:Hid (x.call e=(D,x.up)):=Y (by rw[S.j];unfold Wo.call;simp[E]);have F:=Y E;clear I h hf j E;go_enter func111,ntmps111;go_upto_region 1 with fail;generalize j:w.alloc _=Q;obtain⟨t,u,p⟩:=LK j;clear j;replace i:=(i.I t).add (TP p.q ω);clear p u;have p:=i.r.y 5;have z:=i.r.lt
 have aV:=t.size;obtain⟨u,G⟩:∃u,Hid (u=x.up):=⟨_,Y rfl⟩;rw[<-G.j]at p
 cases u with
 | false =>
  have v:x=aL:=by rw[A.j];exact(YQ (by have:=F.j;omega) X.j (.inl (by rw[<-G.j]))).symm
  clear A;subst v;have j:=Y i;clear i m C;go_wp2;exact GM (v:=.tuple #[]) (by simp[results,results111]) rfl ⟨rfl,q,o,j.j.r,j.j.m.q.1.1 o (λ_ _=>rfl),λ_ _=>rfl,j.j.e,aM.j⟩
 | true =>
  have v:aL=x.setE e D:=by rw[A.j];exact ul (by have:=F.j;omega) (by have:=F.j;omega) (by rw[X.j,<-G.j])
  go_upto_region 2 with fail;clear p z;replace i:=i.I (AB Q.heap.size Q).drew;replace t:=t.drew;refine AN (S:=λw'=>SB<w'.heap.size/\Row w' w.heap.size [Z e.K,yI a e.b.length c,Z e.cut,yI f e.fs.length d]) κ (⟨i.r.lt,i.m.q.2⟩) (λj=>?_);refine TY 0 (zW SB 0) rfl j (TK 1 (.agg #[Z e.K,yI a e.b.length c,Z e.cut,yI f e.fs.length d]) rfl (AS ⟨ρ,λw p=>by obtain⟨z0,R⟩:=p;exact QI 78 _ rfl _ 0 rfl _ _ R.range underlying78 rfl VV⟩) j (TY 2 (zW SB 0) rfl j (TY 3 (zW SB 0) rfl j (TY 4 (zW SB 2) rfl j (TY 5 (zW SB 6) rfl j ?_)))));simp only[PS];refine RD 6 rfl (λT p=>?_);generalize z:Q.drew=y at i t⊢;clear z;refine n7 rfl 39 _ rfl SB 6 rfl (sJ x.W x.S x.L x.T x.H x.F x.R x.U x.O (yI q.s x.rs.length q.cs)) _ (Row.rangeMid (pre:=[.int .i32 l,.int .u32 0,Z x.w,yI q.a x.ss.length q.c,yI q.a' x.ws.length q.c',yR x.up]) (cs:=(sJ x.W x.S x.L x.T x.H x.F x.R x.U x.O (yI q.s x.rs.length q.cs))) (post:=[yI q.p x.P.length q.cp,yI q.t x.ts.length q.ct]) i.r) underlying39 rfl OQ ?_
  refine p.j _ _ (⟨i.r.lt,i.m.q.2⟩) (λaQ=>?_)
  try simp only[PS]
  refine RD 7 rfl (λT p=>?_);have ly:=i.e.size;refine LI ρ 152 #[.agg (sK x.W x.S x.L x.T x.H x.F x.R x.U x.O (yI q.s x.rs.length q.cs))] γ (m.j _ (i.m.q.1.1 o (λ_ _=>rfl)).h3.own.prs) ?_;rintro r y1 ⟨⟨L,N,M,O,rfl,aH,own,g1,g2,z⟩,U⟩;have aT:=U _ _ _ _ rfl;refine⟨_,rfl,?_⟩;unfold MD;have lb:=z.size;replace i:=i.I z;clear z U m;refine p.j _ _ (⟨i.r.lt,i.m.q.2⟩) (λaR=>?_)
  try simp only[PS]
  refine RD 8 rfl (λT p=>?_);obtain⟨o1,ag,R,aU,aG⟩:=tr (o:=o) (N:=w.heap.size) own (λg k=>by have:=g1 g k;omega) (λg k=>by have:=g2 g k;omega) h0 lS;refine LI ρ _ _ γ (C.j D L N M O o1 _ i.r (i.m.q.1.1 o1 ag) R aU aG aT (i.m.map λW k=>k.1.2) hd aH) ?_;rintro r y2 ⟨rfl,q1,o2,U,V,W,m,z⟩;have aO:=Y z;clear z;refine⟨_,rfl,?_⟩;have lw:=i.e.size;have z:=VL i.e m;replace i:=i.put m U;clear C own;refine p.j _ _ (⟨i.r.lt,i.m.q.2⟩) (λaS=>?_)
  try simp only[PS]
  refine DN ?_;have C:=Y (AG i.r V);have aN:=Y z;clear i V z U m;go_wp2;refine GM (v:=.tuple #[]) (by simp[results,results111]) rfl ⟨rfl,q1,o2,?_,?_,λb z=>(W b ω).E (ag b z),aN.j,by rw[v];exact aO.j⟩
  ·rw[v];exact C.j.1
  rw[v];exact C.j.2
theorem Fk(t y:TypeId)(h:Nat)(e:TypeId)(i:TypeInfo)(z:qD)(E:P.underlying t=some (.slice e))(C:P.info? e=some i)(L:i.zero=some z)(l:i.size=1)
  (v:qD)(n:Nat)(xs:List qD)(o:w.ownsRow h e 1 v n xs)(x:qD)(u:qD)(m:Src P 1 t x 1 [u] w)(J:(n+1)*i.bytes<=140737488355328)(K:n+1<=maxLen)
 {M:qD}(D:(Builtin.append_ #[t,t] y #[v,x]).run P w=.ok M w'):∀b,v.ownBlock=some b->∀j,j<n->w'.cell? (yA b j)=w.cell? (yA b j):=by
 intro b A j r;rcases o.2 with ⟨rfl,N⟩|⟨g,d,I,rfl,_,q,O,Q,R,S⟩
 ·cases A
 cases A
 replace m:Src P i.size t x 1 [u] w:=by rw[l];exact m
 by_cases F:n+1<=d
 ·have f:=run_append_room_src (P:=P) w t t y e i E C g 0 n d x 1 [u] m F (λj r=>by simp at r;simp[World.cell?,q,l];omega) (λj r=>by simp[World.frozen?,q])
  rw[D]at f;injection f with _ p;rw[p];exact ED g [u] _ w (yA g j) (λ_ _=>.inl (by show j<0+n*i.size;rw[l];omega))
 have G:(Builtin.firstCells i.size n (yI (zY g 0) n d)).run P w.drew=.ok xs.toArray w.drew:=GI w.drew i.size n _ n d xs (by rw[l];exact o.1) (λk p f=>o.cells rfl k p f)
 have f:=run_append_grow_src (P:=P) w t t y e i z E C L (zY g 0) n d xs G x 1 [u] m ω (by unfold maxLen at K;omega) (growslice_fits ω J);rw[D]at f;injection f with _ p;rw[p];have H:g<w.heap.size:=(AP.1 q).1;exact FD (w:=w.drew) _ g j H
theorem Ln(w:xV){D:Array Oper}{o:Oper}{a:Act}{K:Act->xV->Prop}{Q:Exit->Act->xV->Prop}{E:Prop}(J:o.guard=none)(s x:Operand)(t:TypeId)
  (R:o.op=.call { callee:=.builtin .append,args:=#[s,x],argTypes:=#[t,t] })
  (d:Nat)(e:TypeId)(i:TypeInfo)(z:qD)(p:P.underlying t=some (.slice e))(G:P.info? e=some i)(H:i.zero=some z)(r:i.size=1)(L:z.cells.size=1)
  (v:qD)(n:Nat)(xs:List qD)(S:a.eval s=v)(y:w.ownsRow d e 1 v n xs)
  (m:Addr)(c:Nat)(u:qD)(l:a.eval x=yI (some m) 1 c)(T:w.cell? (m.add 0)=some u)(F:u.oneCell'=true)
  (A:n+1<=maxLen)(q:(n+1)*i.bytes<=140737488355328)(I:d<=w.heap.size)
  (h:∀g f w',w'.ownsRow d e 1 (yI (zY g 0) (n+1) f) (n+1) (xs++[u])->w.grownBy w' v.ownBlock->(v.ownBlock=some g\/g=w.heap.size)->(∀b,v.ownBlock=some b->∀j,j<n->w'.cell? (yA b j)=w.cell? (yA b j))->K (a.put o.dst (yI (zY g 0) (n+1) f)) w'):if Region.wanted o (yielded D a.tmps)=true then Oper.wp P o a w K Q else E:=by
 have U:Region.wanted o (yielded D a.tmps)=true:=by simp[Region.wanted,J]
 rw[AI U]
 have C:∀j f,[u][j]?=some f->w.cell? (m.add j)=some f:=λj f b=>by
  match j,b with
  | 0,b=>cases b;exact T
 obtain⟨g,f,w',b,j,M,N,V⟩:=run_append_lies (P:=P) w t o.type d e i z 1 i.bytes p G H r rfl L ω v n xs y m 1 c [u] rfl C (λx l=>by simp at l;rw[l];exact F) ω A q I _ rfl;have O:=Fk t o.type d e i z p G H r v n xs y _ u (Src.ofSlice w p m 1 c [u] rfl C (λx l=>by simp at l;rw[l];exact F)) q A b;unfold Oper.wp execOp;simp only[R,resolve,invoke,builtin,IC,IZ,IB,List.map_toArray,FU,JN,S,l,b];exact h g f w' j M N O
structure HpPost(w w':xV)(SB:Nat)(l:Int)(o:Nat->Nat)(y:Wo)(q:Wp)(o':Nat->Nat):Prop where
 r:Row w' SB (RN l y q)
 h:QG y w' q o'
 ag:∀b,b<w.heap.size->o' b=o b
 os:w'.os=w.os
 tape:w'.tape=w.tape
 output:w'.output=w.output
 size:w.heap.size<=w'.heap.size
 block:∀b,b<w.heap.size->b≠SB->o b=0->w'.heap[b]?=w.heap[b]?
 cap:y.rs.length<=q.cs
theorem fw{l:Int}{o:Nat->Nat}{y:Wo}(h:YW w w' SB l o y):∃q f,HpPost w w' SB l o y q f:=by
 obtain⟨q,f,i,j,m,d,t⟩:=h;exact⟨q,f,i,j,m,d.os,d.tape,d.output,d.size,λb p r _=>d.block b p (λe=>r (by injection e)),t⟩
theorem E4{o:Nat->Nat}{p:xA}{P:List (List Pr)}{v t:Nat}{d:List qD}{f:List Pr}(h:XF w o p P)(N:0<P.length)(own:w.ownsRow lo 37 1 (yI p P.length v) P.length d)
  (M:OwL w o (7+P.length) a (LN f))(r:w'.ownsRow lo 37 1 (yI (zY g 0) (P.length+1) t) (P.length+1) (d++[yI a f.length c]))(E:w.grownBy w' (yI p P.length v).ownBlock)
  (L:o g=5)(G:∀b,(yI p P.length v).ownBlock=some b->∀j,j<P.length->w'.cell? (yA b j)=w.cell? (yA b j)):Only o (λk=>k=5) w w'/\XF w' o p P/\XF w' o (zY g 0) (P++[f]):=by
 obtain⟨b,rfl,K,C,D⟩:=h.resolve_left ω;have l:Only o (λk=>k=5) w w':=iz E (λx e=>by cases e;exact C);refine⟨l,.inr ⟨b,rfl,AC K E.size,C,λi m=>?_⟩,.inr ⟨g,rfl,(RJ r).lt,L,λi m=>?_⟩⟩
 ·obtain⟨q,j,y,z⟩:=D i m
  exact⟨q,j,(G b rfl i m).E y,z.only l ω⟩
 have H:d.length=P.length:=by rw[own.1,JX]
 by_cases A:i<P.length
 ·obtain⟨q,j,y,z⟩:=D i A
  have x:(P++[f]).getD i []=P.getD i []:=by simp[List.getD,BN A]
  simp only[x];obtain⟨u,F⟩:∃u,d[i]?=some u:=⟨_,AO ω⟩;have J:=(RJ own).cell i u F;have I:u=yI q (P.getD i []).length j:=BP (J.symm.E y);exact⟨q,j,(RJ r).cell i _ (by rw[BN ω,F,I]),z.only l ω⟩
 obtain rfl:i=P.length:=by simp at m;omega
 have x:(P++[f]).getD P.length []=f:=by simp[List.getD]
 simp only[x];exact⟨a,c,(RJ r).cell P.length _ (by rw[DW ω,H];simp),M.only l ω⟩
theorem UW(h:OwnS w a cs)(d:n≠0->cs≠[])(k:blk a n=some g):g<w.heap.size:=by
 by_cases b:n=0
 ·rw[b]at k;simp[blk]at k
 obtain⟨i,rfl,f⟩:=h.resolve_left (d b)
 rw[du k];exact f.lt
theorem WR{v:qD}{F:Nat->Prop}(h:w.ownsRow lo e s v n xs)(hF:∀b,v.ownBlock=some b->F b):DepF w F (λW=>W.ownsRow lo e s v n xs) :=⟨h,λw' p o=>by
  refine⟨h.1,h.2.imp_right λ⟨g,d,f,j,l,i,m⟩=>?_⟩;subst j
  exact⟨g,d,f,rfl,l,(o g (hF g rfl) (AP.1 i).1).E i,m⟩⟩
theorem Mz(x:Wo)(q:Wp)(e:Ev)(a:xA)(c:Nat)(f:xA)(d SB:Nat)(l:Int)(o:Nat->Nat)(w:xV)(t:Row w SB (RN l x q))(h:QG x w q o)(C:o SB=0)(F:DepF w (λb=>b≠SB) (λW=>Ints W f e.fs))(G:x.ok)(E:e.le)(D:e.K=5):Calls prog 112 #[zW SB 0,NR e a c f d] w λr w'=>r=yT (.tuple #[])/\YW w w' SB l o (x.doE e):=by
 have M:=t.lt;have u:x.doE e=x.pow e.fs:=by unfold Wo.doE;rw[AI D]
 rw[u];unfold NR;have j:=(XZ t (h.depF C)).add F;have p:=Y (λw' i m v=>tS x q f e.fs d SB l o w' i m C v G.le E.f);obtain⟨i,m⟩:∃y,Hid (y=x.pow e.fs):=⟨_,Y rfl⟩;rw[<-m.j]at p⊢;clear t h F u D G E m;go_enter func112,ntmps112;go_upto_region 1 with fail;generalize u:w.alloc _=N;obtain⟨A,K,m⟩:=LK u;clear u;replace j:=j.I A;have u:=m.q.y 3;have v:=m.q.lt;have L:=A.size;go_wp2_with fail;clear u v m;refine(p.j _ j.r j.m.q.1 j.m.q.2).J ?_;rintro r O ⟨rfl,J,I,y,z,H,u,v⟩;have m:=Y (AG y (AG z (AG (VL j.e u) v)));clear y z u v j p;go_wp2;exact GM (v:=.tuple #[]) (by simp[results,results112]) rfl ⟨rfl,J,I,m.j.1,m.j.2.1,λb j=>H b ω,m.j.2.2.1,m.j.2.2.2⟩
theorem Fp{x:Wo}{e:Ev}{D:Dd}(i:e.K=2)(d:x.call e=(D,true)):x.doE e=x.runE e D:=by
 by_cases f:D.C≠0\/200<(OF x e D).length\/2000<(QJ x e D).length
 ·have h:x.runE e D=x:=by unfold Wo.runE;rw[AI f]
  rw[h]
  by_cases b:D.C=0
  ·exact vo ω d b ω
  exact YQ ω d (.inr b)
 have b:D.C=0:=ω
 unfold Wo.runE;rw[AF f]
 cases hb:QV e D with
 | true=>exact yr ω d b ω hb
 | false=>exact xX ω d b ω hb i
theorem Dt(x:Wo)(q:Wp)(e:Ev)(a:xA)(c:Nat)(f:xA)(d SB:Nat)(l:Int)(o:Nat->Nat)(w:xV)(hR:Row w SB (RN l x q))(h:QG x w q o)(h0:o SB=0)(aV:x.rs.length<=q.cs)(lo:Nat)(M:List qD)(bI:w.ownsRow lo 37 1 (yI q.p x.P.length q.cp) x.P.length M)(cW:0<x.P.length)(cZ:lo<=w.heap.size)(hf:DepF w (λb=>b≠SB/\o b=0) (λW=>Ints W f e.fs))(bU:Chs w a e.b)(ho:x.ok)(he:e.le)(hK:e.K=2):Calls prog 109 #[zW SB 0,NR e a c f d] w λr w'=>r=yT (.tuple #[])/\∃i t,HpPost w w' SB l o (x.doE e) i t:=by
 have lS:=hR.lt;have j:=ho.le;have hd:(PJ x.W x.S x.L x.T x.H x.F x.R x.U x.O x.rs e.b).ok:=by have:=ho.call e;unfold Wo.call at this;simpa[hK] using this
 have bH:∀b,(yI q.p x.P.length q.cp).ownBlock=some b->o b=5:=λb k=>by obtain⟨b',e',_,h5,_⟩:=h.h4.resolve_left ω;rw[e']at k;cases k;exact h5
 have bT:∀b,(yI q.p x.P.length q.cp).ownBlock=some b->b<w.heap.size:=λb k=>(bI.lt b k).2
 have u:DepF w (λb=>b≠SB) (λW=>W.ownsRow lo 37 1 (yI q.p x.P.length q.cp) x.P.length M):=WR bI (λb k e=>by have:=bH b k;rw[e]at this;omega);have m:=((XZ hR (h.all h0 lS)).add (hf.J (λb _ k=>k.1))).add u;have R:=Y (λw' L N=>yU x.W x.S x.L x.T x.H x.F x.R x.U x.O q.s x.rs q.cs a e.b c w' L aV j.l3 j.s3 N he.b.1 he.b.2);unfold MI at R;obtain⟨bP,i⟩:∃y,Hid (y=x.doE e):=⟨_,Y rfl⟩;rw[<-i.j];obtain⟨D,A⟩:∃D,Hid (D=PJ x.W x.S x.L x.T x.H x.F x.R x.U x.O x.rs e.b):=⟨_,Y rfl⟩;rw[<-A.j]at R hd;have F:Hid (x.call e=(D,x.up)):=Y (by rw[A.j];unfold Wo.call;simp[hK]);have v:OF x e D=x.P++[D.rs]:=AI hK;have X:=Y (λC H G O p cp t w' (hR':Row w' SB (RN l x q)) h' h0' hp' hs' hb' hbc hf' hdc'=>wU x q e a c f d D C H G O p cp SB l t w' hR' h' h0' hp' hs' hb' hbc hf' ho hd he aV hdc');have cJ:=Y aV;rw[v,show(x.P++[D.rs]).length=x.P.length+1 by simp]at X
 unfold NR MD at X;unfold NR;have dF:=(UN hd.1).1;have dB:=ho.p.1;have HK:=Y hK;have HF:=Y hf;have W:=Y bU;have HH:=Y h;clear hR h hf j hK bU bI u v ho he aV;obtain⟨i1,j,t,u,v⟩:=WW mw;have HJ:=Y (AG j (AG t (AG u v)));clear j t u v;go_enter func109,ntmps109;go_upto_region 1 with fail;generalize j:w.alloc _=v1;obtain⟨v,u,t⟩:=LK j;clear j;replace m:=(m.I v).add (TP t.q ω);clear t u;have z:=m.r.y 5;have I:=m.r.lt;have cY:=v.size;obtain⟨u,j⟩:∃u,Hid (u=x.up):=⟨_,Y rfl⟩;rw[<-j.j]at z
 cases u with
 | false =>
  have t:x=bP:=by rw[i.j];exact(YQ (by have:=HK.j;omega) F.j (.inl (by rw[<-j.j]))).symm
  clear i;subst t;have E:=Y m;clear m R X;go_wp2;exact AE (v:=.tuple #[]) (by simp[results,results109]) rfl ⟨rfl,fw ⟨q,o,E.j.r,E.j.m.q.1.1.1 o (λ_ _=>rfl),λ_ _=>rfl,E.j.e,cJ.j⟩⟩
 | true =>
  have t:bP=x.runE e D:=by rw[i.j];exact Fp HK.j (by rw[F.j,<-j.j])
  rw[<-t]at X;clear t i F j A;go_upto_region 2 with fail;clear z I;replace m:=m.I (AB v1.heap.size v1).drew;replace v:=v.drew;refine TU (9) (S:=λw'=>Row w' SB (RN l x q)/\Row w' w.heap.size [Z e.K,yI a e.b.length c,Z e.cut,yI f e.fs.length d]) κ (⟨m.r,m.m.q.2⟩) (λA=>?_);refine NL 0 (zW SB 0) rfl A (NL 1 (zW SB 0) rfl A (LU 2 (zW SB 2) rfl (AS ⟨ρ,λw z=>by obtain⟨J,K⟩:=z;have l:=J.lt;go_simp⟩) A (LU 3 (zW SB 6) rfl (AS ⟨ρ,λw z=>by obtain⟨J,K⟩:=z;have l:=J.lt;go_simp⟩) A (LU 4 (.agg (sK x.W x.S x.L x.T x.H x.F x.R x.U x.O (yI q.s x.rs.length q.cs))) rfl (AS ⟨ρ,λw z=>by obtain⟨J,K⟩:=z;exact QI 39 _ rfl _ 6 rfl (sJ x.W x.S x.L x.T x.H x.F x.R x.U x.O (yI q.s x.rs.length q.cs)) _ (Row.rangeMid (pre:=[.int .i32 l,.int .u32 0,Z x.w,yI q.a x.ss.length q.c,yI q.a' x.ws.length q.c',yR x.up]) (cs:=(sJ x.W x.S x.L x.T x.H x.F x.R x.U x.O (yI q.s x.rs.length q.cs))) (post:=[yI q.p x.P.length q.cp,yI q.t x.ts.length q.ct]) J) underlying39 rfl OQ⟩) A (LU 5 (zW w.heap.size 1) rfl (AS ⟨ρ,λw z=>by obtain⟨J,K⟩:=z;have l:=K.lt;go_simp⟩) A (LU 6 (yI a e.b.length c) rfl (AS ⟨ρ,λw z=>by obtain⟨J,K⟩:=z;have c1:=K.y 1;go_simp⟩) A ?_))))))
  simp only[PS];refine PM (rs:=[7,8]) κ σ ?_;refine AllReadyT.cons rfl (λF t=>?_) (AllReadyT.cons rfl (λF t=>?_) AllReadyT.nil)
  focus
   generalize i:v1.drew=y0 at m v⊢;clear i;have ly:=m.e.size;refine LI ρ 150 #[.agg (sK x.W x.S x.L x.T x.H x.F x.R x.U x.O (yI q.s x.rs.length q.cs)),yI a e.b.length c] γ (R.j _ (m.m.q.1.1.1 o (λ_ _=>rfl)).h3.own.prs (W.j.I v)) ?_;rintro r y1 ⟨⟨C,H,G,O,rfl,aR,own,i,Q,j⟩,T⟩;have cA:=T _ _ _ _ rfl;refine⟨_,rfl,?_⟩;unfold MD;have lb:=j.size;replace m:=m.I j;replace v:=v.E (j.J v.size);have V:=pu own i Q
   have gA:∀g,blk C D.rs.length=some g->w.heap.size<=g:=λg k=>by have:=i g k;omega
   have gB:∀g,blk G D.ops.length=some g->w.heap.size<=g:=λg k=>by have:=Q g k;omega
   have bZ:=own.ne;clear j T own;refine t.j _ _ (⟨m.r,m.m.q.2⟩) (λbE=>?_)
   try simp only[PS]
   refine NK 8 rfl (λF t=>?_);go_simp;obtain⟨y2,U⟩:∃y,y=y1.alloc (.cells (dK 0 0 0 0 0 0 0 0 0 0 (yI none 0 0) (yI none 0 0)) 102):=⟨_,rfl⟩;have j:=LG y1 (.cells (dK 0 0 0 0 0 0 0 0 0 0 (yI none 0 0) (yI none 0 0)) 102);have I:=LS y1 (dK 0 0 0 0 0 0 0 0 0 0 (yI none 0 0) (yI none 0 0)) 102;rw[<-U]at j I⊢;obtain⟨E,T⟩:∃y,y=y1.heap.size:=⟨_,rfl⟩;rw[<-T]at I⊢;have cO:SB<E/\w.heap.size<E:=by have:=m.r.lt;have:=m.m.q.2.lt;omega
   have mN:=((m.m.and (ZA V (λb L _=>ω))).J (G:=λb=>b≠SB/\b≠E) (λb j k=>⟨k,ω⟩)).I j;replace m:=m.I j;replace v:=v.E (j.J v.size);have S:E<y2.heap.size:=I.lt;clear U T j i Q V;refine t.j _ _ (⟨m.r,m.m.q.2⟩) (λaN=>?_)
   try simp only[PS]
   have cP:=S;clear S;have aU:=aN
  rotate_left
  focus
   generalize i:v1.drew=y0 at m v⊢;clear i;go_simp;obtain⟨y1,U⟩:∃y,y=y0.alloc (.cells (dK 0 0 0 0 0 0 0 0 0 0 (yI none 0 0) (yI none 0 0)) 102):=⟨_,rfl⟩;have j:=LG y0 (.cells (dK 0 0 0 0 0 0 0 0 0 0 (yI none 0 0) (yI none 0 0)) 102);have I:=LS y0 (dK 0 0 0 0 0 0 0 0 0 0 (yI none 0 0) (yI none 0 0)) 102;rw[<-U]at j I⊢;obtain⟨E,T⟩:∃y,y=y0.heap.size:=⟨_,rfl⟩;rw[<-T]at I⊢;have cO:SB<E/\w.heap.size<E:=by have:=m.r.lt;have:=m.m.q.2.lt;omega
   have cX:=(m.m.J (G:=λb=>b≠SB/\b≠E) (λb j k=>⟨k,ω⟩)).I j;replace m:=m.I j;replace v:=v.E (j.J v.size);have S:E<y1.heap.size:=I.lt;clear U T j;refine t.j _ _ (⟨m.r,m.m.q.2⟩) (λaO=>?_)
   try simp only[PS]
   refine NK 7 rfl (λF t=>?_);have ly:=m.e.size;refine LI ρ 150 #[.agg (sK x.W x.S x.L x.T x.H x.F x.R x.U x.O (yI q.s x.rs.length q.cs)),yI a e.b.length c] γ (R.j _ (m.m.q.1.1.1 o (λ_ _=>rfl)).h3.own.prs (W.j.I v)) ?_;rintro r y2 ⟨⟨C,H,G,O,rfl,aR,own,i,Q,j⟩,T⟩;have cA:=T _ _ _ _ rfl;refine⟨_,rfl,?_⟩;unfold MD;have lb:=j.size;replace m:=m.I j;replace v:=v.E (j.J v.size);have V:=pu own i Q
   have gA:∀g,blk C D.rs.length=some g->w.heap.size<=g:=λg k=>by have:=i g k;omega
   have gB:∀g,blk G D.ops.length=some g->w.heap.size<=g:=λg k=>by have:=Q g k;omega
   have bZ:=own.ne;replace I:=I.I j;have mN:=(cX.I j).and (ZA V (λb L _=>⟨ω,ω⟩));have S:E<y2.heap.size:=I.lt;clear j T own i Q V;refine t.j _ _ (⟨m.r,m.m.q.2⟩) (λaP=>?_)
   try simp only[PS]
   have cP:=S;clear S;have aU:=aP
  all_goals
   refine PM (rs:=[9]) κ σ ?_;refine AllReadyT.last rfl (λF t=>?_);refine SN rfl 102 _ _ rfl E 0 (dK D.C D.W D.S D.L D.T D.H D.F D.R D.U D.O (yI C D.rs.length H) (yI G D.ops.length O)) rfl rfl (I.there rfl) RQ κ ?_;refine t.j _ _ trivial (λ_=>?_)
   try simp only[PS]
   refine SP κ ?_ _;have j:=OU y2 E 0 (dJ D.C D.W D.S D.L D.T D.H D.F D.R D.U D.O (yI C D.rs.length H) (yI G D.ops.length O));have V:=I.sets (dJ D.C D.W D.S D.L D.T D.H D.F D.R D.U D.O (yI C D.rs.length H) (yI G D.ops.length O)) rfl;have i:Sc w (y2.setCells E 0 (dJ D.C D.W D.S D.L D.T D.H D.F D.R D.U D.O (yI C D.rs.length H) (yI G D.ops.length O))) SB (RN l x q) _:=⟨⟨j.os.E m.e.os,j.tape.E m.e.tape,j.output.E m.e.output,AJ m.e.size j.size,λb L N=>(j.block b (by have:=m.e.size;omega) (λe=>by injection e;omega)).E (m.e.block b L N)⟩,m.r.V j (λe=>by injection e;omega),(mN.V j (λg e k=>by cases e;exact k.2 rfl)).J (λb _ k=>k.1)⟩;replace i:=i.add (TP V ω);have l3:=j.size;generalize Q:World.setCells _ _ _ _=y3 at i l3⊢;clear Q m mN I V j v R W;go_upto_region 3 with fail
   replace i:=i.I (AB y3.heap.size y3).drew;refine AN (S:=λw'=>SB<w'.heap.size/\Row w' w.heap.size [Z e.K,yI a e.b.length c,Z e.cut,yI f e.fs.length d]/\Row w' E (dJ D.C D.W D.S D.L D.T D.H D.F D.R D.U D.O (yI C D.rs.length H) (yI G D.ops.length O))) κ (⟨i.r.lt,i.m.q.1.1.2,i.m.q.2⟩) (λA=>?_);refine TY 0 (zW SB 0) rfl A (TK 1 (.agg #[Z e.K,yI a e.b.length c,Z e.cut,yI f e.fs.length d]) rfl (AS ⟨ρ,λw z=>by obtain⟨J,K,T⟩:=z;exact QI 78 _ rfl _ 0 rfl _ _ K.range underlying78 rfl VV⟩) A (TK 2 (.agg (dK D.C D.W D.S D.L D.T D.H D.F D.R D.U D.O (yI C D.rs.length H) (yI G D.ops.length O))) rfl (AS ⟨ρ,λw z=>by obtain⟨J,K,T⟩:=z;exact QI 102 _ rfl _ 0 rfl _ _ T.range underlying102 rfl RQ⟩) A (TY 3 (zW SB 0) rfl A (TY 4 (zW SB 0) rfl A (TY 5 (zW SB 2) rfl A (TY 6 (zW SB 16) rfl A (TK 8 (zW E 1) rfl (AS ⟨ρ,λw z=>by obtain⟨J,K,T⟩:=z;have l:=T.lt;go_simp⟩) A (TK 9 (zW E 10) rfl (AS ⟨ρ,λw z=>by obtain⟨J,K,T⟩:=z;have l:=T.lt;go_simp⟩) A (TK 10 (.agg #[yI C D.rs.length H]) rfl (AS ⟨ρ,λw z=>by obtain⟨J,K,T⟩:=z;have c10:=T.y 10;go_simp⟩) A ?_)))))))))
   simp only[PS];refine ET (rs:=[7,11]) κ σ ?_;refine DC rfl (λF t=>?_) (DC rfl (λF t=>?_) EP)
   focus
    generalize j:y3.drew=u0 at i⊢;clear j;have c16:=i.r.y 16;go_simp;clear c16;refine t.j _ _ (⟨i.r.lt,i.m.q.1.1.2,i.m.q.2⟩) (λbE=>?_)
    try simp only[PS]
    refine RD 11 rfl (λF t=>?_);refine LI ρ _ _ γ (ZK C D.rs H _ i.m.q.1.2.s.prs ω) ?_;rintro r u1 ⟨m,z,rfl,cV,v,W,j⟩;refine⟨_,rfl,?_⟩;unfold LR;have lu:=i.e.size;have R:=UR v RG W (SB:=SB) ω
    have g6:=λg k=>UW (g:=g) v aq k
    have gO:=λg k=>UW (g:=g) i.m.q.1.2.s aq k
    have gP:=λg k=>UW (g:=g) i.m.q.1.2.p uX k
    have lb:=j.size;replace i:=i.I j;clear j v;refine t.j _ _ (⟨i.r.lt,i.m.q.1.1.2,i.m.q.2⟩) (λaN=>?_)
    try simp only[PS]
    refine RD 12 rfl (λF t=>?_);go_simp;obtain⟨u2,I⟩:∃y,y=u1.alloc (.cells #[yI m D.rs.length z] 37):=⟨_,rfl⟩;have j:=LG u1 (.cells #[yI m D.rs.length z] 37);have Q:=LS u1 #[yI m D.rs.length z] 37;rw[<-I]at j Q⊢;obtain⟨GB,v⟩:∃y,y=u1.heap.size:=⟨_,rfl⟩;rw[<-v]at Q⊢;replace i:=i.I j;replace R:=R.I j;have cI:u1.heap.size<=u2.heap.size:=j.size;clear I v j;refine t.j _ _ (⟨i.r.lt,i.m.q.1.1.2,i.m.q.2⟩) (λaO=>?_)
    try simp only[PS]
    have aU:=aO
   rotate_left
   focus
    generalize j:y3.drew=u0 at i⊢;clear j;refine LI ρ _ _ γ (ZK C D.rs H _ i.m.q.1.2.s.prs ω) ?_;rintro r u1 ⟨m,z,rfl,cV,v,W,j⟩;refine⟨_,rfl,?_⟩;unfold LR;have lu:=i.e.size;have R:=UR v RG W (SB:=SB) ω
    have g6:=λg k=>UW (g:=g) v aq k
    have gO:=λg k=>UW (g:=g) i.m.q.1.2.s aq k
    have gP:=λg k=>UW (g:=g) i.m.q.1.2.p uX k
    have lb:=j.size;replace i:=i.I j;clear j v;refine t.j _ _ (⟨i.r.lt,i.m.q.1.1.2,i.m.q.2⟩) (λaP=>?_)
    try simp only[PS]
    refine ET (rs:=[7,12]) κ σ ?_;refine DC rfl (λF t=>?_) (DC rfl (λF t=>?_) EP)
    focus
     have c16:=i.r.y 16;go_simp;clear c16;refine t.j _ _ (⟨i.r.lt,i.m.q.1.1.2,i.m.q.2⟩) (λcQ=>?_)
     try simp only[PS]
     refine RD 12 rfl (λF t=>?_);go_simp;obtain⟨u2,I⟩:∃y,y=u1.alloc (.cells #[yI m D.rs.length z] 37):=⟨_,rfl⟩;have j:=LG u1 (.cells #[yI m D.rs.length z] 37);have Q:=LS u1 #[yI m D.rs.length z] 37;rw[<-I]at j Q⊢;obtain⟨GB,v⟩:∃y,y=u1.heap.size:=⟨_,rfl⟩;rw[<-v]at Q⊢;replace i:=i.I j;replace R:=R.I j;have cI:u1.heap.size<=u2.heap.size:=j.size;clear I v j;refine t.j _ _ (⟨i.r.lt,i.m.q.1.1.2,i.m.q.2⟩) (λbF=>?_)
     try simp only[PS]
     have aU:=bF
    rotate_left
    focus
     go_simp;obtain⟨u2,I⟩:∃y,y=u1.alloc (.cells #[yI m D.rs.length z] 37):=⟨_,rfl⟩;have j:=LG u1 (.cells #[yI m D.rs.length z] 37);have Q:=LS u1 #[yI m D.rs.length z] 37;rw[<-I]at j Q⊢;obtain⟨GB,v⟩:∃y,y=u1.heap.size:=⟨_,rfl⟩;rw[<-v]at Q⊢;replace i:=i.I j;replace R:=R.I j;have cI:u1.heap.size<=u2.heap.size:=j.size;clear I v j;refine t.j _ _ (⟨i.r.lt,i.m.q.1.1.2,i.m.q.2⟩) (λcS=>?_)
     try simp only[PS]
     refine RD 7 rfl (λF t=>?_);have c16:=i.r.y 16;go_simp;clear c16;refine t.j _ _ (⟨i.r.lt,i.m.q.1.1.2,i.m.q.2⟩) (λbG=>?_)
     try simp only[PS]
     have aU:=bG
   all_goals
    refine RD 13 rfl (λF t=>?_);refine Ln _ rfl _ _ 40 rfl lo 37 i1 (.agg #[yI none 0 0]) underlying40 HJ.j.1 HJ.j.2.1 HJ.j.2.2.1 rfl (yI q.p x.P.length q.cp) x.P.length M rfl i.m.q.1.1.1.2 (yA GB 0) 1 (yI m D.rs.length z) rfl (by rw[ZN];exact Q.y 0) rfl (by unfold maxLen;omega) (by rw[HJ.j.2.2.2];omega) (by have:=i.e.size;omega) ?_;intro g9 aY u3 aT I aQ aS;obtain⟨S,aK⟩:∃y,Hid (y=λb=>if b<w.heap.size then o b else if blk m D.rs.length=some b then 7+x.P.length else if blk C D.rs.length=some b then 3 else if blk G D.ops.length=some b then 6 else if b=u2.heap.size then 5 else 0):=⟨_,Y rfl⟩
    have ag:∀b,b<w.heap.size->S b=o b:=λb j=>by rw[aK.j];exact AI j
    have z3:S SB=0:=(ag SB lS).E h0;have dH:=i.e.size;have U:=i.m.q.1.1.1.1.1 S ag;have cC:OwL u2 S (7+x.P.length) m (LN D.rs):=TC R.q RG W (λg k=>by have:=W g k;rw[aK.j];simp only[];rw[AF ω,AI k]);have A2:OwL u2 S 3 C (LN D.rs):=TC i.m.q.1.2.s RG gA (λg k=>by have L:=gA g k;have N:=gO g k;rw[aK.j];simp only[];rw[AF ω,AF (λe=>by have:=W g e;omega),AI k])
    have B2:OwL u2 S 6 G (Or D.ops):=TC i.m.q.1.2.p ju gB (λg k=>by have L:=gB g k;have N:=gP g k;rw[aK.j];simp only[];rw[AF ω,AF (λe=>by have:=W g e;omega),AF (λe=>by rcases bZ with h|h|h;rw[h]at e;cases e;rw[h]at k;cases k;exact h (e.E k.symm)),AI k])
    have bY:S g9=5:=by
     rcases aQ with k|k
     ·obtain⟨b',e',_,h5,_⟩:=U.h4.resolve_left ω
      rw[e']at k
      cases k
      exact h5
     rw[k,aK.j]
     simp only[];rw[AF ω,AF (λe=>by have:=g6 _ e;omega),AF (λe=>by have:=gO _ e;omega),AF (λe=>by have:=gP _ e;omega)];simp
    obtain⟨y,P3,PN⟩:=E4 U.h4 cW i.m.q.1.1.1.2 cC aT I bY aS;have W3:QG x u3 q S:=⟨U.h1.only y ω,U.h2.only y ω,U.h3.only y ω,P3,U.h5.only y ω⟩;have A3:=A2.only y ω;have B3:=B2.only y ω;have R3:=i.r.V I (λe=>by have:=bH SB e.symm;omega);have aW:=i.m.q.1.1.2.V I (λe=>by have:=bT _ e.symm;omega);have V:=i.m.q.2.V I (λe=>by have:=bT _ e.symm;omega)
    have bW:∀b,b<w.heap.size->b≠SB->o b=0->u3.heap[b]?=w.heap[b]?:=λb L N h3=>(I.block b ω (λe=>by have:=bH b e.symm;omega)).E (i.e.block b L (λe=>N (by injection e)))
    have v:Below 0 w u3:=⟨I.os.E i.e.os,I.tape.E i.e.tape,I.output.E i.e.output,AJ i.e.size I.size,λb j=>ω⟩;have I3:=(HF.j.step v (λb k1 k2=>bW b k2 k1.1 k1.2)).J (G:=λb=>b≠SB) (λb _ k=>k.1);clear U cC A2 B2 aQ aT I aS i R Q bY y P3;refine t.j _ _ (⟨R3.lt,aW,V⟩) (λcT=>?_)
    try simp only[PS]
    refine RD 14 rfl (λF t=>?_);refine LI ρ _ _ γ (X.j C H G O _ aY S u3 R3 W3 z3 PN A3 B3 cA I3 aR) ?_;rintro r u4 ⟨rfl,q4,o4,y,Q,R,i,I⟩;have cN:=Y I;clear I;refine⟨_,rfl,?_⟩;replace aW:=aW.V i (λe=>by injection e;omega);replace V:=V.V i (λe=>by injection e;omega);refine t.j _ _ (⟨y.lt,aW,V⟩) (λbR=>?_)
    try simp only[PS]
    refine DN ?_;have I:=Y (AG y Q);have cM:=Y i;have U:=Y v;clear y Q i v W3 R3 X PN A3 B3 I3;go_wp2;have i:=cM.j;have v:=U.j;exact GM (v:=.tuple #[]) (by simp[results,results109]) rfl ⟨rfl,q4,o4,I.j.1,I.j.2,λb j=>(R b (by have:=v.size;omega)).E (ag b j),i.os.E v.os,i.tape.E v.tape,i.output.E v.output,AJ v.size i.size,λb L N h3=>(i.block b (by have:=v.size;omega) (λe=>N (by injection e))).E (bW b L N h3),cN.j⟩
end
section
open Tryz
open Go.RowKit Go.MuLone
theorem Iu(i:Nat)(x y:Wo)(q:Wp)(e:Ev)(a:xA)(c:Nat)(f:xA)(d g:Nat)(o:Nat->Nat)(w:xV)(l:Row w g (RN 0 x q))(C:o g=0)(I:∀b v,Sem.run prog (callFunc i b) v=.ok (.enter i b) v)
  (m:∀b,Row b g (RN 1 x q)->w.grownBy b (some g)->Calls prog i #[zW g 0,NR e a c f d] b (λr k=>r=yT (.tuple #[])/\∃j h,HpPost b k g 1 o y j h)):Calls prog 113 #[zW g 0,.func (.func i) #[] #[],NR e a c f d] w λr b=>r=yT (.tuple #[])/\∃j h,HpPost w b g 0 o y j h:=by
 have D:=l.lt;have h:=XZ (M:=λ_=>True) l (UO (λ_=>trivial));have j:=Y m;clear l m;unfold NR at j⊢;go_enter_defers func113,ntmps113;go_upto_region 1 with fail;generalize b:w.alloc _=K;obtain⟨n,p,k⟩:=LK b;clear b;replace h:=(h.I n).add (TP k.q ω);clear k p;have p:=h.r.y 0;have s:=h.r.A 0;have t:=h.r.lt;have J:=n.size;go_wp2_with (go_at_call 158;refine(lock_free vX (yA g 0) _ p s).J ?_;rintro r F ⟨rfl,k⟩;have b:=h.set 0 σ (.int .i32 1);rw[<-k]at b;have u:=b.m.q.2.y 0;have v:=b.m.q.2.y 1;have z:=b.m.q.2.y 2;have A:=b.m.q.2.y 3;have B:=b.m.q.2.lt;clear k h p s t);clear u v z A B;refine(j.j F b.r b.e).J ?_;rintro r z ⟨rfl,v,u,k⟩;have h:=Y k;have p:=Y b.e;clear k b j;go_wp2;refine leaves_cons (f:=159) (args:=#[zW g 0]) σ (by simp[go_sem]) ?_
 refine(unlock_deferred vX (yA g 0) .returning _ (h.j.r.y 0) (h.j.r.A 0)).J ?_;rintro r A B ⟨rfl,rfl,rfl⟩;refine⟨_,KG rfl _ _ _,rfl,v,u,?_⟩;have H:=h.j;have E:=p.j;have G:=NA (AY z (some g)) 0 (.int .i32 0);exact⟨H.r.set 0 σ (.int .i32 0),H.h.V G ((H.ag g (AC D E.size)).E C),λb t=>H.ag b (AC t E.size),G.os.E (H.os.E E.os),G.tape.E (H.tape.E E.tape),G.output.E (H.output.E E.output),AJ E.size (AJ H.size G.size),λb j k s=>(G.block b (AC j (AJ E.size H.size)) (λe=>k (by injection e))).E ((H.block b (AC j E.size) k s).E (E.block b j (λe=>k (by injection e)))),H.cap⟩
end
section
open Tryz
open Go.RowKit
variable {F H L S T W:Int}{news:List qD}{B:Nat}{w w':xV}
structure PcI(B:Nat)(w:xV)(o:Nat->Nat)(v:qD)(P:List (List Pr))(j:Nat)(news:List qD):Prop where
 own:w.ownsRow B 37 1 v j news
 lab:∀g,v.ownBlock=some g->o g=5
 low:∀b,o b≠0->B<=b
 ech:∀i,i<j->∃p c,news[i]?=some (yI p (P.getD i []).length c)/\OwL w o (7+i) p (LN (P.getD i []))
theorem PcI.I{o:Nat->Nat}{v:qD}{P:List (List Pr)}{j:Nat}(h:PcI B w o v P j news)(a:yX w w'):PcI B w' o v P j news :=⟨LZ h.own a,h.lab,h.low,λi e=>by obtain⟨p,c,b,d⟩:=h.ech i e;exact⟨p,c,b,d.only (K:=λ_=>False) (tu a) id⟩⟩
theorem PcI.push{g cap:Nat}{W:xV}{o:Nat->Nat}{v:qD}{P:List (List Pr)}{j:Nat}{a:xA}{c:Nat}(h:PcI B w o v P j news)(z:B<=w.heap.size)(d:yX w W)(n:OwnS W a (LN (P.getD j [])))(m:∀g,blk a (P.getD j []).length=some g->w.heap.size<=g)
  (own:w'.ownsRow B 37 1 (yI (zY g 0) (j+1) cap) (j+1) (news++[yI a (P.getD j []).length c]))(p:W.grownBy w' v.ownBlock)(q:v.ownBlock=some g\/g=W.heap.size):∃b,PcI B w' b (yI (zY g 0) (j+1) cap) P (j+1) (news++[yI a (P.getD j []).length c]):=by
 have C:=d.size
 have r:=λb k=>UW (g:=b) n aq k
 have hv:∀b,v.ownBlock=some b->b<w.heap.size:=λb k=>(h.own.lt b k).2
 refine⟨λb=>if b<w.heap.size then o b else if blk a (P.getD j []).length=some b then 7+j else if b=W.heap.size then 5 else 0,own,λx e=>?_,λb=>?_,λi A=>?_⟩
 ·cases e
  rcases q with k|k
  ·exact(AI (hv g k)).E (h.lab g k)
  show(if g<w.heap.size then o g else if blk a (P.getD j []).length=some g then 7+j else if g=W.heap.size then 5 else 0)=5
  rw[AF ω,AF (λe=>by have:=r g e;omega),AI k]
 ·show(if b<w.heap.size then o b else if blk a (P.getD j []).length=some b then 7+j else if b=W.heap.size then 5 else 0)≠0->B<=b
  by_cases f:b<w.heap.size
  ·rw[AI f];exact h.low b
  exactλ_=>ω
 have f:∀b,b<w.heap.size->(λb=>if b<w.heap.size then o b else if blk a (P.getD j []).length=some b then 7+j else if b=W.heap.size then 5 else 0) b=o b:=λb d=>AI d
 have l:Only (λb=>if b<w.heap.size then o b else if blk a (P.getD j []).length=some b then 7+j else if b=W.heap.size then 5 else 0) (λk=>k=5) W w':=iz p (λx e=>(f x (hv x e)).E (h.lab x e));have e:news.length=j:=by rw[h.own.1,JX]
 by_cases b:i<j
 ·obtain⟨y,s,t,u⟩:=h.ech i b
  exact⟨y,s,by rw[BN ω];exact t,((u.lab f).only (K:=λ_=>False) (tu d) id).only l ω⟩
 obtain rfl:i=j:=ω
 refine⟨a,c,by rw[DW ω,e];simp,(TC n RG m (λx k=>?_)).only l ω⟩;show(if x<w.heap.size then o x else if blk a (P.getD i []).length=some x then 7+i else if x=W.heap.size then 5 else 0)=7+i;rw[AF (by have:=m x k;omega),AI k]
theorem PcI.pso{o f:Nat->Nat}{p:xA}{c:Nat}{P:List (List Pr)}(h:PcI B w o (yI p P.length c) P P.length news)(d:∀b,B<=b->b<w.heap.size->f b=o b):XF w f p P:=by
 by_cases q:P.length=0
 ·exact .inl q
 obtain⟨g,k,e,b,a⟩:=h.own.form ω
 injection e with l _ m;subst l m;refine .inr ⟨g,rfl,a,(d g b a).E (h.lab g rfl),λi s=>?_⟩;obtain⟨v,j,t,u⟩:=h.ech i s;exact⟨v,j,(RJ h.own).cell i _ t,u.imp_right λ⟨x,e,r,n⟩=>⟨x,e,r,(d x (h.low x ω) r.lt).E n⟩⟩
def Da(w w':xV)(r:Ending)(x:Wo):Prop:=∃q o news,r=yT (LT x q)/\QG x w' q o/\x.rs.length<=q.cs/\w'.ownsRow w.heap.size 37 1 (yI q.p x.P.length q.cp) x.P.length news/\(∀b,b<w.heap.size->o b=0)/\yX w w'
def A6(V w:xV)(b a:qD)(P:List (List Pr)):Prop:=∃(j:Nat) (o:Nat->Nat) (news:List qD),j<=P.length/\a=Z (j:Int)/\PcI V.heap.size w o b P j news/\yX V w
theorem Km(x:Wo)(q:Wp)(w:xV)(h:x.at w q)(cM:LO x.ss x.ws=true)(A:x.ok):Calls prog 107 #[LT x q] w λr w'=>Da w w' r x:=by
 obtain⟨⟨l,cI,cJ⟩,i,g⟩:=OV cM;have o:=A.le;have dM:=A.p.1;have dQ:=A.t.1;have dN:=(UN A.s).1;have cP:Hid (∀j,j<x.P.length->(x.P.getD j []).length<=1048576):=Y (λj hj=>by have:=(UN (A.p.2 (x.P.getD j []) (by simp[List.getD,hj]))).1;omega);have k:=Y (λw' n c=>gw q.a x.ss q.c q.a' x.ws q.c' w' n c cI cJ (λs b=>by have:=i s b;omega) (λy a=>by have:=AW (g y a);omega));unfold LM at k;have bH:=Y (jy (ws:=x.ws) λy a=>by have:=AW (g y a);omega);have m:DepF w (λb=>b≠w.heap.size) (λW=>x.at W q):=(sk h (λw' c=>h.I c)).J (λb c _=>ω);obtain⟨i0,a,d,e,f⟩:=WW dw;have D:=Y (AG a (AG d (AG e f)));clear a d e f;obtain⟨i1,a,d,e,f⟩:=WW mw;have HJ:=Y (AG a (AG d (AG e f)));clear a d e f;unfold LT;clear h cM l i g o A;go_enter func107,ntmps107
 go_upto_region 1 with fail;generalize a:w.alloc _=v1;obtain⟨d,g,l⟩:=LK a;clear a;generalize a:v1.alloc _=v2;obtain⟨e,i,f⟩:=LK a;clear a;rw[g]at f i;have c:=d.E (e.J d.size);have a:Sc w v2 w.heap.size (wL x q) _:=⟨⟨c.os,c.tape,c.output,c.size,λb P _=>c.block b P⟩,(l.I e).q,((m.I d).I e).and (TP f.q ω)⟩;clear c d e l f g i m;have c:=a.r.y 1;have e:=a.r.y 2;have i:=a.r.lt;go_wp2_with fail;clear c e i;refine(k.j _ a.m.q.1.h1 a.m.q.1.h2).J ?_;rintro r v3 ⟨g,v,rfl,p,own,C,c⟩;replace a:=a.I c;have l3:=c.size;obtain⟨a2,e,rfl⟩:=UX own;have t:=(sA own).1.hld bH.j;clear k c;go_wp2_with fail;have i:=Rl (zY g 0) (x.ss.map LF) x.ss.length x.ss.length a2 (LP x.ws) x.ws.length e σ (QL _) v3 p.plt t cI cJ p.len bH.j;rw[oK,qZ]at i;unfold LM at i;refine i.J ?_
 rintro r G ⟨f,n,m,s,rfl,d,u,z,c⟩;have lw:=a.e.size;have l4:w.heap.size+1<G.heap.size:=(a.I c).m.q.2.lt
 have gA:∀g,blk f x.ss.length=some g->w.heap.size+1<g:=λg k=>by have:=u g k;have:=a.m.q.2.lt;omega
 have gB:∀g,blk m x.ws.length=some g->w.heap.size+1<g:=λg k=>by have:=z g k;have:=a.m.q.2.lt;omega
 have uA:=λg k=>UW (g:=g) d.s (λl o=>l (wH o)) k
 have uB:=λg k=>UW (g:=g) d.p (λl o=>l (nE o)) k
 have cZ:=d.ne;replace a:=(a.I c).add ((UR d.s VJ (λg k=>KF (gA g k)) (SB:=w.heap.size) ω).and (UR d.p af (λg k=>KF (gB g k)) (SB:=w.heap.size) ω));clear i c d own p t C u z;have c:=a.r.y 1;have e:=a.r.y 2;have d:=a.r.A 1;have l:=a.r.A 2;have i:=a.r.lt;go_upto_region 2 with fail;clear c d e l i;replace a:=(a.set 1 σ (yI f x.ss.length n)).set 2 σ (yI m x.ws.length s);have z5:((G.setCell (yA w.heap.size 1) (yI f x.ss.length n)).setCell (yA w.heap.size 2) (yI m x.ws.length s)).heap.size=G.heap.size:=by rw[BL,BL]
 generalize c:World.setCell (World.setCell _ _ _) _ _=v5 at a z5⊢;clear c;have o:=Y (ZK q.s x.rs q.cs v5 a.m.q.1.1.h3 ω);unfold LR at o;have c:=a.r.y 13;have d:=a.r.A 13;have i:=a.r.lt;go_wp2_with fail;clear c d i;refine o.j.J ?_;rintro r v6 ⟨l,t,rfl,cT,d,e,c⟩;unfold LR;have dU:=c.size
 have O:∀g,blk l x.rs.length=some g->G.heap.size<=g:=λg k=>by have:=e g k;omega
 have uC:=λg k=>UW (g:=g) d aq k
 replace a:=(a.I c).add (UR d RG e (SB:=w.heap.size) (by have:=a.r.lt;omega));clear o c d e;have c:=a.r.y 13;have C:=a.r.y 14;have d:=a.r.A 13;have E:=a.r.A 14;have i:=a.r.lt;go_wp2_with fail;clear c d C E i;have dZ:=a.e.size;replace a:=a.set 13 σ (yI l x.rs.length t);have z7:(v6.setCell (yA w.heap.size 13) (yI l x.rs.length t)).heap.size=v6.heap.size:=BL _ _ _;generalize c:World.setCell _ _ _=V at a z7⊢;clear c;go_loopw [3,20] (λd c wr=>A6 V wr d c x.P) (λ_ c _=>x.P.length-(intOf c).toNat)
 case atStart=>exact⟨0,λ_=>0,[],AL _,rfl,⟨BT _ _ _ _,λg e=>by(cases e),λb e=>absurd rfl e,λi c=>ω⟩,AB _ _⟩
 case round =>
  rename qD=>d
  obtain⟨j,oj,news,hj,rfl,z,C⟩:=hrel;have d:=a.I C;have M:=C.size
  by_cases cH:j<x.P.length
  ·have cW:(j:Int)<(x.P.length:Int):=ω
   have dL:(0:Int)<=(j:Int):=ω
   have dR:IntKind.i64.wrap ((j:Int)+1)=((j+1:Nat):Int):=by rw[OP _ ω ω];omega
   obtain⟨b,ob,p,N,c,dH,R,u⟩:=d.m.q.1.1.1.h4.at cH;rw[c];clear c a d;have bZ:=cP.j j cH;obtain⟨c,bJ⟩:∃y,Hid (y=x.P.getD j []):=⟨_,Y rfl⟩;have K:=Y z;have cO:=Y C;rw[<-bJ.j]at R u bZ;clear z C;have o:=Y (ZK p c N (wr.alloc (.cells #[yI p c.length N] 37)) (u.j.I (LG _ _)) bZ);unfold LR at o;go_wp2_with fail;refine o.j.J ?_;rintro r I ⟨J,c6,rfl,cV,X,g6,U⟩;unfold LR;have E:=Y ((LG wr (.cells #[yI p c.length N] 37)).E (U.J σ));have Q:=Y X;have bG:Hid (∀g,blk J c.length=some g->wr.heap.size<=g):=Y (λg k=>by have:=g6 g k;simp at this;omega);have dF:=E.j.size;clear o cV X g6 U R u;go_wp2_with (at_builtin;refine QS _ rfl _ _ 40 rfl V.heap.size underlying40 HJ.j rfl ω _ j _ rfl ((LZ K.j.own E.j).alloc _) (yA I.heap.size 0) 1 1 [yI J c.length c6] rfl rfl (World.news_of_block (AU I _)) (by intro u hu;simp at hu;subst hu;rfl) τ (I.heap.size+1) σ ?_;intro g9 cQ w9 U R X cX;have bI:=Y U;have o:=Y R;have cN:=Y X;clear U R X)
   rw[bJ.j]at bI Q bG o;have R:=E.j.E ((LG I (.cells #[yI J (x.P.getD j []).length c6] 37)).J dF);obtain⟨X,U⟩:=K.j.push M R (Q.j.alloc' _) bG.j bI.j o.j (cN.j.imp_right (λe=>by rw[e];simp));exact⟨⟨j+1,X,_,ω,ν,U,RU (cO.j.E (R.J M)) ((LZ K.j.own E.j).alloc _) o.j τ⟩,by simp[intOf];omega⟩
  obtain rfl:j=x.P.length:=ω
  obtain⟨o,pc,rfl⟩:=UX z.own;have lr:=d.m.q.1.1.2.lt;obtain⟨u,p⟩:∃y,Hid (y=λb=>if V.heap.size<=b then (if b<wr.heap.size then oj b else 4) else if blk f x.ss.length=some b then 1 else if blk m x.ws.length=some b then 2 else if blk l x.rs.length=some b then 3 else 0):=⟨_,Y rfl⟩;have lV:w.heap.size+1<V.heap.size:=a.m.q.1.1.2.lt
  have hF:∀b,b<=w.heap.size+1->u b=0:=λb c=>by rw[p.j];simp only[];rw[AF ω,AF (λe=>by have:=gA b e;omega),AF (λe=>by have:=gB b e;omega),AF (λe=>by have:=O b e;omega)]
  have E:XF wr u o x.P:=z.pso (λb P y=>by rw[p.j];simp only[];rw[AI P,AI y]);have y:DepF wr (λb=>b≠w.heap.size) (λW=>WoG (x.ss.map Value.string) (MH x.ws) (LN x.rs) x.P.length (λi=>x.P.getD i []) [] W ⟨f,n,m,s,l,t,o,pc,none,0⟩ u):=WoG.depF ⟨TC d.m.q.1.2.1 VJ (lo:=0) (λ_ _=>AL _) (λg k=>?_),TC d.m.q.1.2.2 af (lo:=0) (λ_ _=>AL _) (λg k=>?_),TC d.m.q.2 RG (lo:=0) (λ_ _=>AL _) (λg k=>?_),E,.inl rfl⟩ (hF _ ω)
  rotate_left
  ·rw[p.j];simp only[];rw[AF (by have:=uA g k;omega),AI k]
  ·rw[p.j];simp only[];rw[AF (by have:=uB g k;omega),AF (λe=>by rcases cZ with h|h|h;rw[h]at e;cases e;rw[h]at k;cases k;exact h (e.E k.symm)),AI k]
  ·rw[p.j];simp only[];rw[AF (by have:=uC g k;omega),AF (λe=>by have:=uA g e;have:=O g k;omega),AF (λe=>by have:=uB g e;have:=O g k;omega),AI k]
  replace d:=(d.add y).add (WR z.own (λb k e=>by have:=(z.own.lt b k).1;omega));clear a y E C;have a:=d.set 14 σ (yI o x.P.length pc);have dV:=a.m.q.1.1.1.1.2.lt;have K:=Y (Qj (P:=prog) a.m.q.1.1.1.1.1.h5 _ _ underlying27 q.ct);have C:=d.r.y 14;have P:=d.r.y 15;have E:=d.r.A 14;have Q:=d.r.A 15;have i:=d.r.lt;have J:=Y a;have N:(wr.setCell (yA w.heap.size 14) (yI o x.P.length pc)).heap.size=wr.heap.size:=BL _ _ _;clear d a;go_upto_region 11 with (at_builtin;refine yt rfl _ _ 27 rfl 9 i0 _ 1 16 underlying27 D.j.1 D.j.2.1 D.j.2.2.1 D.j.2.2.2 none rfl (.inl rfl) _ rfl x.ts.length _ K.j ω ω ?_;intro d k U X y R;have a:=J.j.I R;have I:=Y y;have P:=a.r.y 15;have Q:=a.r.A 15;have i:=a.r.lt;clear y R)
  clear C E P Q i K;replace a:=a.set 15 σ (yI d x.ts.length k);have E:Hid (x.ts.length=0\/(d=zY wr.heap.size 0/\Row (U.setCell (yA w.heap.size 15) (yI d x.ts.length k)) wr.heap.size (x.ts.map Value.string))):=Y (I.j.imp_right (λ⟨e,r⟩=>⟨by rw[e,N],by rw[<-N];exact r.other _ (by show w.heap.size≠_;rw[N];omega) _⟩));generalize i:World.setCell U _ _=K at a E⊢;clear i I J;have P:QG x K ⟨f,n,m,s,l,t,o,pc,d,k⟩ u:=⟨a.m.q.1.2.h1,a.m.q.1.2.h2,a.m.q.1.2.h3,a.m.q.1.2.h4,?_⟩
  rotate_left
  ·rcases E.j with h|⟨rfl,r⟩
   ·exact .inl (by rw[AD h];rfl)
   exact .inr ⟨_,rfl,r,by rw[p.j];simp only[];rw[AI M,AF ω]⟩
  refine AV ?_;refine AZ rfl 42 _ rfl w.heap.size 0 rfl _ _ a.r.range underlying42 rfl MP ?_;simp only[PS];refine BU rfl 42 _ _ rfl (w.heap.size+1) 0 #[Z x.w,yI f x.ss.length n,yI m x.ws.length s,yR x.up,Z x.W,Z x.S,Z x.L,Z x.T,Z x.H,Z x.F,Z x.R,Z x.U,Z x.O,yI l x.rs.length t,yI o x.P.length pc,yI d x.ts.length k] rfl rfl (a.m.q.1.1.1.1.2.there rfl) MP κ ?_
  try simp only[PS]
  have i:=OU K (w.heap.size+1) 0 [Z x.w,yI f x.ss.length n,yI m x.ws.length s,yR x.up,Z x.W,Z x.S,Z x.L,Z x.T,Z x.H,Z x.F,Z x.R,Z x.U,Z x.O,yI l x.rs.length t,yI o x.P.length pc,yI d x.ts.length k];have Q:=a.m.q.1.1.1.1.2.sets [Z x.w,yI f x.ss.length n,yI m x.ws.length s,yR x.up,Z x.W,Z x.S,Z x.L,Z x.T,Z x.H,Z x.F,Z x.R,Z x.U,Z x.O,yI l x.rs.length t,yI o x.P.length pc,yI d x.ts.length k] rfl;have I:=P.V i (hF _ ω);have J:=a.m.q.2.kept i (.inr (λe=>by have:=(a.m.q.2.lt _ e).1;omega));have y:yX w (K.setCells (w.heap.size+1) 0 [Z x.w,yI f x.ss.length n,yI m x.ws.length s,yR x.up,Z x.W,Z x.S,Z x.L,Z x.T,Z x.H,Z x.F,Z x.R,Z x.U,Z x.O,yI l x.rs.length t,yI o x.P.length pc,yI d x.ts.length k]):=⟨i.os.E a.e.os,i.tape.E a.e.tape,i.output.E a.e.output,AJ a.e.size i.size,λb c=>(i.block b (by have:=a.e.size;omega) (λe=>by injection e;omega)).E (a.e.block b c (λe=>by injection e;omega))⟩
  generalize World.setCells _ _ _ _=R at Q I J y⊢;have C:=Y (AG I (AG J y));clear a P I J y i E
  try go_wp2
  exact UK 2 42 results107 _ rfl [Z x.w,yI f x.ss.length n,yI m x.ws.length s,yR x.up,Z x.W,Z x.S,Z x.L,Z x.T,Z x.H,Z x.F,Z x.R,Z x.U,Z x.O,yI l x.rs.length t,yI o x.P.length pc,yI d x.ts.length k] _ Q underlying42 rfl MP rfl ⟨⟨f,n,m,s,l,t,o,pc,d,k⟩,u,news,rfl,C.j.1,cT,C.j.2.1.J ω,λb c=>hF b ω,C.j.2.2⟩
theorem Dj:(prog.info? 164).map (·.size)=some 6:=κ
def lP:Wo:=⟨0,[],[],false,0,0,0,0,0,0,0,0,0,[],[],[]⟩
def Wo.doR(x:Wo)(e:Ev):Wo:=if LW x=true then x.doE e else lP
theorem Lw{v y:xV}{c:Nat}{l:Int}{o e:Nat->Nat}{x:Wo}{q:Wp}(a:yX v y)(H:HpPost y w' c l o x q e):HpPost v w' c l o x q e :=⟨H.r,H.h,λb h=>H.ag b (AC h a.size),H.os.E a.os,H.tape.E a.tape,H.output.E a.output,AJ a.size H.size,λb d f g=>(H.block b (AC d a.size) f g).E (a.block b d),H.cap⟩
theorem gy{x:Wo}(h:LW x=true):x.ok/\LO x.ss x.ws=true/\0<x.P.length:=by
 unfold LW at h;simp only[BD]at h;obtain⟨_,d,a,b,c⟩:=h;unfold PW at b;unfold QP at c;simp only[BD,BG,DH]at b c;refine⟨⟨.inl d,?_,⟨b.1.2,b.2⟩,c.1,λs e=>by have:=c.2 s e;omega⟩,d,ω⟩;unfold OW at a
 by_cases e:x.up=true
 ·rw[AI e]at a
  unfold NX at a;simp only[BD]at a;exact a.1.1.2
 rw[AF e]at a
 have:=AW (by unfold QC at a;exact a);rw[AD this.2.2.2.2.2.2];exact VB
def jq(w w':xV)(r:Ending)(y:Wo):Prop:=∃q o,r=yT (LT y q)/\QG y w' q o/\(∀b,o b≠0->w.heap.size<=b/\b<w'.heap.size)/\yX w w'
def DoK(w w':xV)(r:Ending)(y:Wo):Prop:=∃q o,r=yT (LT y q)/\QG y w' q o/\(∀b,o b≠0->w.heap.size<=b/\b<w'.heap.size)/\yX w w'/\y.rs.length<=q.cs
theorem DoK.i{r:Ending}{y:Wo}(h:DoK w w' r y):jq w w' r y:=by
 obtain⟨q,o,a,b,c,d,_⟩:=h;exact⟨q,o,a,b,c,d⟩
theorem Fv(x:Wo)(q:Wp)(e:Ev)(a:xA)(c:Nat)(f:xA)(d:Nat)(w:xV)(h:x.at w q)(hc:x.rs.length<=q.cs)(I:x.le 1048576)(bF:Chs w a e.b)(hi:Ints w f e.fs)(he:e.le)(ty:TypeId)(gv:qD)(bH:w.cell? (yA 7 0)=some (.iface ty gv))(bG:w.cell? (yA 1 0)=some (.iface 320 (.agg #[zW 10 57])))(bW:7<w.heap.size):Calls prog 71 #[LT x q,NR e a c f d] w λr w'=>DoK w w' r (x.doR e):=by
 have m:=Y (λw' k=>qf x q w' k hc I);have o:=Y (λw' k (k2:LO x.ss x.ws=true) k3=>Km x q w' k k2 k3);unfold LT at m o⊢;unfold NR;have HH:=Y h;have C:=Y bF;have E:=Y hi;have HE:=Y he;have v:=Y (AG bH bG);clear h bF hi he bH bG hc I;obtain⟨t,j⟩:∃y,Hid (y=x.doR e):=⟨_,Y rfl⟩;rw[<-j.j];go_enter func71,ntmps71;go_upto_region 1 with fail;generalize b:w.alloc _=v1;obtain⟨i,D,b0⟩:=LK b;clear b;generalize g:v1.alloc _=v2;obtain⟨b,K,s⟩:=LK g;clear g;generalize l:v2.alloc _=v3;obtain⟨g,z2,z⟩:=LK l;clear l;rw[D]at s K;rw[K]at z z2;have n:=i.E ((b.E (g.J b.size)).J i.size);have l:=((b0.I b).I g).q;have u:=(s.I g).q;have p:=z.q;clear i b g b0 s z D K;refine AV ?_;refine AZ rfl 42 _ rfl w.heap.size 0 rfl _ _ l.range underlying42 rfl MP ?_;simp only[PS];go_wp2_with fail
 refine(m.j _ (HH.j.I n)).J ?_;rintro r v4 ⟨rfl,i⟩;replace n:=n.E (i.J n.size);replace l:=l.I i;replace u:=u.I i;replace p:=p.I i;clear i m;obtain⟨ok,i⟩:∃y,Hid (y=LW x):=⟨_,Y rfl⟩;rw[<-i.j]
 cases ok with
 | false =>
  have g:t=lP:=by rw[j.j];unfold Wo.doR;rw[<-i.j,AF σ]
  have R:=Y g;clear g o j;go_upto_region 2 with fail;refine AV ?_;refine SO rfl (.agg #[Z 0,yI none 0 0,yI none 0 0,yR false,Z 0,Z 0,Z 0,Z 0,Z 0,Z 0,Z 0,Z 0,Z 0,yI none 0 0,yI none 0 0,yI none 0 0]) γ ?_;simp only[PS];refine BU rfl 42 _ _ rfl (w.heap.size+1+1) 0 #[Z 0,yI none 0 0,yI none 0 0,yR false,Z 0,Z 0,Z 0,Z 0,Z 0,Z 0,Z 0,Z 0,Z 0,yI none 0 0,yI none 0 0,yI none 0 0] rfl rfl (p.there rfl) MP κ ?_
  try simp only[PS]
  have m:=OU v4 (w.heap.size+1+1) 0 [Z 0,yI none 0 0,yI none 0 0,yR false,Z 0,Z 0,Z 0,Z 0,Z 0,Z 0,Z 0,Z 0,Z 0,yI none 0 0,yI none 0 0,yI none 0 0];have K:=p.sets [Z 0,yI none 0 0,yI none 0 0,yR false,Z 0,Z 0,Z 0,Z 0,Z 0,Z 0,Z 0,Z 0,Z 0,yI none 0 0,yI none 0 0,yI none 0 0] rfl;have D:=n.E (MF m n.size (λx e=>by have e:=BP e;omega));generalize World.setCells _ _ _ _=P at K D m⊢;clear m l u p n
  try go_wp2
  exact UK 4 42 results71 _ rfl [Z 0,yI none 0 0,yI none 0 0,yR false,Z 0,Z 0,Z 0,Z 0,Z 0,Z 0,Z 0,Z 0,Z 0,yI none 0 0,yI none 0 0,yI none 0 0] _ K underlying42 rfl MP rfl ⟨⟨none,0,none,0,none,0,none,0,none,0⟩,λ_=>0,by rw[R.j];rfl,by rw[R.j];exact⟨.inl rfl,.inl rfl,.inl rfl,.inl rfl,.inl rfl⟩,λb k=>absurd rfl k,D,by rw[R.j];exact AA _⟩
 | true =>
  obtain⟨ho,bV,bY⟩:=gy i.j.symm;have g:t=x.doE e:=by rw[j.j];unfold Wo.doR;rw[<-i.j,AI rfl]
  have R:=Y g;clear g j i;go_upto_region 3 with fail;refine AV ?_;refine AZ rfl 42 _ rfl w.heap.size 0 rfl _ _ l.range underlying42 rfl MP ?_;simp only[PS];go_wp2_with fail;refine(o.j _ (HH.j.I n) bV ho).J ?_;rintro r v5 ⟨J,o5,news,rfl,O,aR,N,z5,i⟩;have l5:=i.size;have lR:=p.lt;replace n:=n.E (i.J n.size);replace l:=l.I i;replace u:=u.I i;replace p:=p.I i;clear i o;unfold LT;go_upto_region 4 with fail;generalize g:v5.alloc _=A;obtain⟨i,M,X⟩:=LK g;have U:=Y M;clear g M
  iterate 6(generalize Value.agg _=A9)
  refine AV ?_;refine SO rfl (.agg #[.nilFunc,.func (.func 108) #[] #[],.func (.func 109) #[] #[],.func (.func 110) #[] #[],.func (.func 111) #[] #[],.func (.func 112) #[] #[]]) γ ?_;simp only[PS];refine dt rfl (zW A.heap.size 0) (A.alloc (.cells #[.nilFunc,.nilFunc,.nilFunc,.nilFunc,.nilFunc,.nilFunc] 164)) γ ?_;simp only[PS];refine BU rfl 164 _ _ rfl A.heap.size 0 #[.nilFunc,.func (.func 108) #[] #[],.func (.func 109) #[] #[],.func (.func 110) #[] #[],.func (.func 111) #[] #[],.func (.func 112) #[] #[]] rfl rfl ((LS A #[.nilFunc,.nilFunc,.nilFunc,.nilFunc,.nilFunc,.nilFunc] 164).there rfl) Dj κ ?_
  try simp only[PS]
  have P:=(LS A #[.nilFunc,.nilFunc,.nilFunc,.nilFunc,.nilFunc,.nilFunc] 164).sets [.nilFunc,.func (.func 108) #[] #[],.func (.func 109) #[] #[],.func (.func 110) #[] #[],.func (.func 111) #[] #[],.func (.func 112) #[] #[]] rfl;have m:yX A ((A.alloc (.cells #[.nilFunc,.nilFunc,.nilFunc,.nilFunc,.nilFunc,.nilFunc] 164)).setCells A.heap.size 0 [.nilFunc,.func (.func 108) #[] #[],.func (.func 109) #[] #[],.func (.func 110) #[] #[],.func (.func 111) #[] #[],.func (.func 112) #[] #[]]):=(LG A _).E (MF (OU _ _ _ _) σ (λg e=>by cases e;exact AA _));generalize World.setCells _ _ _ _=z at P m⊢;obtain⟨j,K⟩:∃y,y=v5.heap.size:=⟨_,rfl⟩;obtain⟨G,D⟩:∃y,y=A.heap.size:=⟨_,rfl⟩;have bZ:=U.j;obtain⟨s,o⟩:∃y,Hid (y=λb=>if b<v5.heap.size then o5 b else 0):=⟨_,Y rfl⟩;have l4:w.heap.size+1+1<v4.heap.size:=lR
  have M:∀b,b<v4.heap.size->s b=0:=λb i=>by rw[o.j];simp only[];rw[AI ω];exact z5 b i
  have Q:s j=0:=by rw[o.j];simp only[];rw[AF ω]
  have dW:=((((O.lab (o':=s) (λb i=>by rw[o.j];exact AI i)).depF Q).and (WR N (λb k e=>by have:=(N.lt b k).2;omega))).I i).I m;have V:DepF w (λb=>b<w.heap.size) (λW=>Ints W f e.fs/\Chs W a e.b/\W.cell? (yA 7 0)=some (.iface ty gv)/\W.cell? (yA 1 0)=some (.iface 320 (.agg #[zW 10 57]))):=sk ⟨E.j,C.j,v.j⟩ (λw' i=>⟨E.j.I i,C.j.I i,(i.cell (p:=(yA 7 0)) bW).E v.j.1,(i.cell (p:=(yA 1 0)) (by show 1<_;omega)).E v.j.2⟩);replace n:=n.E ((i.E (m.J i.size)).J n.size);replace V:=(V.step (n.J (AL _)) (λb k _=>n.block b k)).J (G:=λb=>b≠j/\s b=0) (λb _ k=>⟨ω,M b ω⟩);have zK:s G=0:=by rw[o.j];simp only[];rw[AF ω]
  have rS:=(X.I m).q;rw[<-K]at rS;replace u:=(u.I i).I m;replace p:=(p.I i).I m;rw[<-D]at P;have cE:j<z.heap.size:=rS.lt;have nS:w.heap.size+1+1<j/\j<G/\v4.heap.size<=j:=ω
  rw[<-K,<-D];clear m i X O N z5 o E C v l bZ U K D l5 z2
  have CH:Hid (1<=e.K->e.K<=5->∃y,([.nilFunc,.func (.func 108) #[] #[],.func (.func 109) #[] #[],.func (.func 110) #[] #[],.func (.func 111) #[] #[],.func (.func 112) #[] #[]]:List qD)[e.K.toNat]?=some (.func (.func y) #[] #[])/\(∀i v,Sem.run prog (callFunc y i) v=.ok (.enter y i) v)/\∀w',Row w' j (RN 1 x J)->z.grownBy w' (some j)->Calls prog y #[zW j 0,NR e a c f d] w' (λr N=>r=yT (.tuple #[])/\∃m l,HpPost w' N j 1 s t m l)):=Y (λO X=>by
   rw[R.j];have o:e.K=1\/e.K=2\/e.K=3\/e.K=4\/e.K=5:=ω
   have kW:=λw' (E:z.grownBy w' (some j))=>dW.V E (λg e k=>by cases e;exact k rfl)
   have kI:=λw' (E:z.grownBy w' (some j))=>V.V E (λg e k=>by cases e;exact k.1 rfl)
   have kJ:=λw' E=>((kI w' E).J (G:=λb=>b≠j) (λb _ k=>k.1)).map (λW k=>k.1)
   rcases o with o|o|o|o|o
   ·refine⟨108,by rw[o];rfl,λi v=>κ,λw' C E=>?_⟩
    refine(Ez x J e a c f d j 1 s w' C (kW w' E).q.1 Q aR (kJ w' E) ho HE.j o ty gv (kI w' E).q.2.2.1 (kI w' E).q.2.2.2 (by have:=E.size;omega)).J (λr N k=>⟨k.1,fw k.2⟩)
   ·refine⟨109,by rw[o];rfl,λi v=>κ,λw' C E=>?_⟩
    exact Dt x J e a c f d j 1 s w' C (kW w' E).q.1 Q aR v4.heap.size news (kW w' E).q.2 bY (by have:=E.size;omega) ((kI w' E).map (λW k=>k.1)) (kI w' E).q.2.1 ho HE.j o
   ·refine⟨110,by rw[o];rfl,λi v=>κ,λw' C E=>?_⟩
    refine(Bq x J e a c f d j 1 s w' C (kW w' E).q.1 Q aR (kJ w' E) ho HE.j o).J (λr N k=>⟨k.1,fw k.2⟩)
   ·refine⟨111,by rw[o];rfl,λi v=>κ,λw' C E=>?_⟩
    refine(Hh x J e a c f d j 1 s w' C (kW w' E).q.1 Q aR (kJ w' E) ho HE.j o).J (λr N k=>⟨k.1,fw k.2⟩)
   ·refine⟨112,by rw[o];rfl,λi v=>κ,λw' C E=>?_⟩
    refine(Mz x J e a c f d j 1 s w' C (kW w' E).q.1 Q (kJ w' E) ho HE.j o).J (λr N k=>⟨k.1,fw k.2⟩))
  have kN:Hid (¬(1<=e.K/\e.K<=5)->t=x):=Y (λg=>by rw[R.j];exact YQ (D:=LJ 0) (u:=false) ω (by unfold Wo.call;rw[AF ω,AF ω,AF ω,AF ω]) (.inl rfl));go_upto_region 5 with fail;go_cut [23] from 16 to 22 (λi g=>i=yR (decide (1<=e.K/\e.K<=5))/\g=z)
  case first =>
   have i:=u.y 0;have v:=u.lt;clear CH dW V
   by_cases O:1<=e.K
   ·by_cases X:e.K<=5
    ·go_wp2_with fail
     go_meet;exact⟨by rw[AM ⟨O,X⟩],rfl⟩
    go_wp2_with fail
    go_meet;exact⟨by rw[AH (λk=>ω)],rfl⟩
   go_wp2_with fail
   go_meet;exact⟨by rw[AH (λk=>ω)],rfl⟩
  case rest =>
  obtain⟨rfl,i⟩:=hcut;rw[i];clear i;go_upto_if 23 with fail;go_cut [] from 23 to 30 (λg=>∃m l,HpPost z g j 0 s t m l)
  case first =>
   by_cases hk:1<=e.K/\e.K<=5
   ·rw[AM hk]
    obtain⟨O,X⟩:=hk;obtain⟨y,g,l,i⟩:=CH.j O X;obtain⟨m,I⟩:∃m:Nat,e.K=(m:Int):=⟨e.K.toNat,ω⟩;have cA:m<6:=ω
    rw[I,DS]at g;have cK:=P.cell m _ g;have HM:=Y I;have bP:=Y l;have bJ:=Y i;clear g I l i;go_upto_region 6 with fail;refine AN (S:=λw'=>Row w' (w.heap.size+1) [Z e.K,yI a e.b.length c,Z e.cut,yI f e.fs.length d]/\w'.cell? (yA G m)=some (.func (.func y) #[] #[])) κ (⟨u.I (AB _ _).drew,NF (AB z.heap.size z).drew cK (by show G<_;exact P.lt)⟩) (λU=>?_);refine TY 0 (zW j 0) rfl U (TK 1 (zW (w.heap.size+1) 0) rfl (AS ⟨ρ,λw g=>by obtain⟨D,K⟩:=g;have l:=D.lt;go_simp⟩) U (TK 2 (Z e.K) rfl (AS ⟨ρ,λw g=>by obtain⟨D,K⟩:=g;have c0:=D.y 0;go_simp⟩) U (TK 3 (zW G m) rfl (AS ⟨ρ,λw g=>by obtain⟨D,K⟩:=g;have I:=HM.j;have l:=DQ _ _ K;have hq:¬(6:Int)<=(m:Int):=ω;rw[I];go_simp⟩) U (TY 4 (.func (.func y) #[] #[]) rfl U (TK 5 (.agg #[Z e.K,yI a e.b.length c,Z e.cut,yI f e.fs.length d]) rfl (AS ⟨ρ,λw g=>by obtain⟨D,K⟩:=g;exact QI 78 _ rfl _ 0 rfl _ _ D.range underlying78 rfl VV⟩) U ?_)))))
    simp only[PS];refine RD 6 rfl (λKq bU=>?_);have i:yX z z.drew:=(AB _ _).drew;have aZ:=rS.I i;have aS:=u.I i;have aV:=NF i cK (by show G<_;exact P.lt);generalize z.drew=y9 at i aZ aS aV⊢;have lh:=i.size;have CO:=Iu y x t J e a c f d j s y9 aZ Q bP.j (λN k2 k3=>bJ.j N k2 ⟨k3.os.E i.os,k3.tape.E i.tape,k3.output.E i.output,AJ i.size k3.size,λb O X=>(k3.block b (AC O i.size) X).E (i.block b O)⟩);unfold NR at CO;refine LI ρ 113 #[zW j 0,.func (.func y) #[] #[],.agg #[Z e.K,yI a e.b.length c,Z e.cut,yI f e.fs.length d]] γ CO ?_;rintro r v8 ⟨rfl,v,N,g⟩;refine⟨_,rfl,?_⟩;have bI:=SX aS (g.block _ aS.lt ω (M _ ω)) (AC aS.lt g.size);have bB:=(DP (a:=(yA G m)) (g.block G (AC P.lt lh) ω zK)).E aV
    refine bU.j _ _ (⟨bI,bB⟩) (λbT=>?_)
    try simp only[PS]
    refine DN ?_;have bR:=Y g;have HD:=Y i;clear g i CO aZ aS aV bI bB;go_wp2_with fail;go_meet;exact⟨v,N,Lw HD.j bR.j⟩
   rw[AH hk]
   have g:=kN.j hk;have i:=Y (AG rS dW.q.1);clear rS dW V CH hk;go_wp2_with fail;go_meet;rw[g];exact⟨J,s,i.j.1,i.j.2,λ_ _=>rfl,rfl,rfl,rfl,AA _,λ_ _ _ _=>rfl,aR⟩
  case rest =>
  obtain⟨v,N,g⟩:=hcut;have lv:=g.size;have cC:=p.lt;have aY:=SX p (g.block _ p.lt ω (M _ l4)) (AC p.lt g.size);have U:yX w wc:=⟨g.os.E n.os,g.tape.E n.tape,g.output.E n.output,AJ n.size g.size,λb i=>(g.block b (by have:=n.size;omega) ω (M b ω)).E (n.block b i)⟩
  have zR:∀b,b<v4.heap.size->N b=0:=λb i=>(g.ag b ω).E (M b i)
  clear dW V rS u p P CH kN n;go_upto_region 7 with fail;refine AV ?_;refine SO rfl (zW j 0) γ ?_;simp only[PS];refine SO rfl (zW j 0) γ ?_;simp only[PS];refine mj rfl _ _ _ rfl (zW j 2) (by have l:=g.r.lt;go_simp) ?_;simp only[PS];refine AZ rfl 42 _ rfl j 2 rfl (wL t v) _ (Row.rangeMid (pre:=[.int .i32 0,.int .u32 0]) (cs:=(wL t v)) (post:=[]) g.r) underlying42 rfl MP ?_;simp only[PS];refine BU rfl 42 _ _ rfl (w.heap.size+1+1) 0 (wA t v) rfl rfl (aY.there rfl) MP κ ?_
  try simp only[PS]
  have m:=OU wc (w.heap.size+1+1) 0 (wL t v);have K:=aY.sets (wL t v) rfl;have n:=g.h.V m (zR _ l4);have D:=U.E (MF m U.size (λx e=>by have e:=BP e;omega));generalize World.setCells _ _ _ _=P at K n D m⊢;have p:=Y n;have u:=Y g.cap;clear n m g U aY
  try go_wp2
  refine UK 4 42 results71 _ rfl (wL t v) _ K underlying42 rfl MP rfl ⟨v,λb=>if w.heap.size<=b/\b<P.heap.size then N b else 0,rfl,p.j.lab (λb i=>?_),λb k=>?_,D,u.j⟩
  ·show(if w.heap.size<=b/\b<P.heap.size then N b else 0)=N b
   by_cases h:w.heap.size<=b
   ·rw[AI ⟨h,i⟩]
   rw[AF (λk=>h k.1),zR b ω]
  by_cases h:w.heap.size<=b/\b<P.heap.size
  ·exact h
  exact absurd (AF h) k
theorem kq{R U O:Int}{a:List Pr}(b:1<=W/\W<=8)(c:8<=S/\S<=200)(d:1<=L/\L<=60000)(e:0<=T/\T<=1000000000)(f:0<=R/\R<=60000)(g:0<=H/\H<=1)(h:1<=F/\F<=999999000)(i:0<=U/\U<=hv S)(j:0<=O/\O<=U)(k:LX a=true)(l:MG (MK a) W<=hv S-1):NX W S L T H F R U O a=true:=by
 unfold NX SY;simp only[BD,BG];exact⟨⟨⟨⟨⟨⟨⟨b,c⟩,d⟩,⟨⟨e,f⟩,g⟩,h⟩,i⟩,j⟩,k⟩,l⟩
theorem xR{R U O:Int}{a:List Pr}(h:NX W S L T H F R U O a=true):(0<=R/\R<=60000)/\MG (MK a) W<=hv S-1:=by
 unfold NX SY at h;simp only[BD,BG]at h;exact⟨h.1.1.1.1.2.1.1.2,h.2⟩
def cn(n N:Int)(D:Dd):Prop:=NX D.W D.S D.L D.T D.H D.F D.R D.U D.O D.rs=true/\D.W=n/\D.S=N/\∀s∈NH D.ops,s.size=64
theorem nO{k l m:Int}{p:yZ}{n:Int}(h:NC k l m p n=true):(MJ k l m p n).size=64:=by
 unfold MJ;rw[AI h];have a:=AW (by unfold NC at h;exact h);exact cz _ _ _ _ _ ω
theorem vT{l m n:Int}(a:1<=l/\l<=60000)(b:1<=m/\m<=1000000000)(c:1<=n/\n<=8):(MJ 3 l m empty n).size=64:=nO (by unfold NC;exact AM τ)
theorem nT{s:yZ}{l f:Int}{n m:Nat}(d:1<=n/\n<=8)(c:n+m=56):∀p∈OC s l f n m,p.size=64:=by
 intro p a
 by_cases h:1<=l/\l<=60000/\1<=f/\f+(PX s.size m:Int)<=1000000001
 ·rw[pw rfl h]at a
  unfold UD at a;obtain⟨k,b,rfl⟩:=DT.1 a;exact Mk d c h (FP.1 b)
 rw[ZF rfl h]at a;cases a
theorem Oo{n m:Nat}(g:1<=n/\n<=8)(f:n+m=56)(e:1<=L/\L<=60000)(hF:1<=F/\F<=1000000000):∀(k:Nat) (c:List (List Ch)),c.length=k->∀p∈ON L F n m c,p.size=64:=by
 intro k
 induction k with
 | zero =>
  intro c d p a;rw[AD d,il]at a;rw[DK.1 a];exact vT e hF ω
 | succ k i =>
  intro c d p a
  obtain⟨l,b,rfl⟩:∃l b,c=l++[b]:=by
   rcases GJ c with h|⟨l,b,h⟩
   ·rw[h]at d;cases d
   exact⟨l,b,by simpa using h⟩
  rw[qy]at a;rcases BZ.1 a with a|a
  ·exact i l (by simpa using d) p a
  exact nT g f p a
theorem p9(a:Int)(l:List yZ):NH (MM a l)=l:=by
 unfold NH MM;rw[List.mapIdx_eq_zipIdx_map,List.filterMap_map]
 have:((λo:OpT=>if o.1=true then none else some o.2.2) ∘ λx:yZ×Nat=>(false,a+(x.2:Int),x.1))=λx:yZ×Nat=>some x.1:=by funext x;simp
 rw[this,List.filterMap_eq_map',List.zipIdx_map_fst]
theorem Ji(a b:List OpT):NH (a++b)=NH a++NH b:=List.filterMap_append
theorem yB{b:List Pr}(h:XD W S L T H F b)(a:LX b=true)(d:(OH W S L T H F b).C=0):cn W S (OH W S L T H F b):=by
 obtain⟨i,f,g,k,l,m,j⟩:=h;unfold OH at d⊢
 split at d
 ·rename_i c
  rw[AI c];have c:=AW (by unfold XO at c;exact c);have o:=PG f;obtain⟨n,rfl⟩:∃n:Nat,W=(n:Int):=⟨W.toNat,ω⟩;have p:=gq L (F+hv S) n (56-n) ω ω ω (MK b);refine⟨kq (S:=S) i f g (T:=T+1) (R:=L) (H:=1-H) (F:=F+hv S) (U:=((ON L (F+hv S) n (56-n) (MK b)).length:Int)) (O:=0) ω ω ω ω ω ω a j,rfl,rfl,?_⟩
  intro s a
  simp only[WU,DS,Ji,p9]at a;rcases BZ.1 a with a|a
  ·exact Oo ω ω g ω _ _ rfl s a
  have e:NH [(true,0,empty),(false,(T+1) % 2,OS (T+1) (1-H) (F+hv S) L (n:Int)),(true,0,empty)]=[OS (T+1) (1-H) (F+hv S) L (n:Int)]:=by simp[NH]
  rw[e,DK]at a;rw[a];unfold OS;rw[AI (by unfold UT;omega)];refine nO ?_;unfold NC;refine AM ?_;have q:(WI (1-H) (F+hv S)).size=5:=by unfold WI;simp[CY,PA]
  omega
 exact absurd d (by simp[LJ])
theorem Fh:∀s∈NH [((true,0,empty):OpT)],s.size=64:=by intro s h;simp[NH]at h
theorem oS{x:Wo}{e:Ev}(C:LW x=true)(b:(x.call e).2=true)(a:(x.call e).1.C=0):cn x.w x.ss.length (x.call e).1:=by
 unfold LW at C;simp only[BD,BG]at C;obtain⟨n,G,d,Y,Z⟩:=C;unfold OW at d;unfold Wo.call at b a⊢
 by_cases j:e.K=1
 ·rw[AI j]at b a⊢
  replace a:(NM x.ss x.ws x.w).C=0:=a;show cn x.w x.ss.length (NM x.ss x.ws x.w);have p:LO x.ss x.ws=true/\1<=x.w/\x.w<=8:=⟨G,n⟩;obtain⟨r1,r2,r3,r4⟩:=mz p;have f:=fg p;obtain⟨⟨Q,R,U⟩,_⟩:=OV G;have A:(8:Int)<=(x.ss.length:Int)/\(x.ss.length:Int)<=200:=ω
  have V:=PG A;unfold NM at a⊢;rw[AI p]at a⊢
  split at a
  ·exact absurd a (by simp[LJ])
  rename_i P l
  have l:=dx _ _ VB _ l
  by_cases j:60000<(OA x.ss x.ws x.w).2.2+1
  ·rw[AI j]at a;exact absurd a (by simp[LJ])
  rw[AF j]at a⊢
  by_cases k:hv x.ss.length-1<MG (MK P) x.w
  ·rw[AI k]at a;exact absurd a (by simp[LJ])
  rw[AF k]at a⊢
  by_cases k3:hv x.ss.length<=(OA x.ss x.ws x.w).2.1
  ·rw[AI k3]at a⊢
   exact yB ⟨n,A,ω,f.1,f.2.1,f.2.2.1,ω⟩ l a
  rw[AF k3]
  refine⟨kq n A (by simp only;omega) f.1 f.2.2.2 f.2.1 f.2.2.1 (by simp only;omega) (by simp only;omega) l (by simp only;omega),rfl,rfl,?_⟩;intro s d;have e:NH [(false,2+(MQ x.ss x.ws x.w).2.1*hv x.ss.length+(OA x.ss x.ws x.w).2.1,MJ 3 ((OA x.ss x.ws x.w).2.2+1) ((MQ x.ss x.ws x.w).2.2.1+(OA x.ss x.ws x.w).2.1) empty x.w),(true,0,empty)]=[MJ 3 ((OA x.ss x.ws x.w).2.2+1) ((MQ x.ss x.ws x.w).2.2.1+(OA x.ss x.ws x.w).2.1) empty x.w]:=by simp[NH]
  simp only[e]at d;rw[DK.1 d];have:=f.2.2.1;exact vT ω ω n
 rw[AF j]at b a⊢
 have q:x.up=true->NX x.W x.S x.L x.T x.H x.F x.R x.U x.O x.rs=true/\x.W=x.w/\x.S=(x.ss.length:Int):=by
  intro O;rw[AI O,BD,BG]at d;exact d
 by_cases k:e.K=2
 ·rw[AI k]at b a⊢
  replace a:(PJ x.W x.S x.L x.T x.H x.F x.R x.U x.O x.rs e.b).C=0:=a;show cn x.w x.ss.length (PJ x.W x.S x.L x.T x.H x.F x.R x.U x.O x.rs e.b);obtain⟨c,h,g⟩:=q b;obtain⟨i,r,t,u,v,y,E,M,m⟩:=WV c;obtain⟨z,_⟩:=xR c;unfold PJ at a⊢
  split at a
  ·rename_i J
   rw[AI J]
   split at a
   ·rename_i o
    rw[AI o]
    split at a
    ·rename_i D
     rw[AI D]
     split at a
     ·rename_i K
      rw[AI K];have X:=mM (MA e.b).size x.W i.1 i.2;refine⟨kq i r t u z v y (by simp only;omega) (by simp only;omega) (by unfold PH;rw[AI o];exact Ro o) D,h,g,?_⟩;intro s d;simp only[p9]at d;exact nT ω ω s d
     exact absurd a (by simp[LJ])
    exact absurd a (by simp[LJ])
   exact absurd a (by simp[LJ])
  exact absurd a (by simp[LJ])
 rw[AF k]at b a⊢
 by_cases k3:e.K=3
 ·rw[AI k3]at b a⊢
  replace a:(PZ x.W x.S x.L x.T x.H x.F x.R x.U x.O x.rs).C=0:=a;show cn x.w x.ss.length (PZ x.W x.S x.L x.T x.H x.F x.R x.U x.O x.rs);obtain⟨c,h,g⟩:=q b;obtain⟨i,r,t,u,v,y,E,M,m⟩:=WV c;obtain⟨z,N⟩:=xR c;unfold PZ;rw[AI c];exact⟨kq (O:=0) (U:=x.U) i r t u z v y E ω m N,h,g,Fh⟩
 rw[AF k3]at b a⊢
 by_cases I:e.K=4
 ·rw[AI I]at b a⊢
  replace a:(OY x.W x.S x.L x.T x.H x.F x.R x.U x.O x.rs).C=0:=a;show cn x.w x.ss.length (OY x.W x.S x.L x.T x.H x.F x.R x.U x.O x.rs);obtain⟨c,h,g⟩:=q b;have m:=(WV c).2.2.2.2.2.2.2.2;unfold OY at a⊢;rw[AI c]at a⊢;have:=yB (nt c) m a;rw[<-h,<-g];exact this
 rw[AF I]at b
 exact absurd b σ
theorem tP{x:Wo}(e:1<=x.w/\x.w<=8)(b:LO x.ss x.ws=true)(c:PW x.P=true)(d:QP x.ts=true)(a:List Int):LW (x.pow a)=true:=by
 unfold LW;simp only[BD,BG];refine⟨e,(ie b a).1,?_,c,d⟩;unfold OW QC;simp[Wo.pow]
theorem Lq{x:Wo}{e:Ev}(d:LW x=true)(j:(x.call e).2=true)(k:(x.call e).1.C=0)(p:¬(2000<(QJ x e (x.call e).1).length\/200<(OF x e (x.call e).1).length)):LO (x.ran e (x.call e).1).ss (x.ran e (x.call e).1).ws=true/\(x.ran e (x.call e).1).ss.length=x.ss.length/\PW (x.ran e (x.call e).1).P=true/\QP (x.ran e (x.call e).1).ts=true:=by
 obtain⟨m,q,t,i⟩:=oS d j k;unfold LW at d;simp only[BD,BG]at d;obtain⟨u,l,b,c,f⟩:=d;obtain⟨g,h⟩:=vP l (x.call e).1.ops (VM e (x.call e).1);refine⟨g,h,?_,?_⟩
 ·unfold PW at c⊢
  simp only[BD,BG,DH]at c⊢;show(1<=(OF x e (x.call e).1).length/\(OF x e (x.call e).1).length<=200)/\∀r∈OF x e (x.call e).1,LX r=true;refine⟨⟨?_,ω⟩,?_⟩
  ·unfold OF;split
   ·rw[AK];omega
   omega
  intro r a
  unfold OF at a
  split at a
  ·rcases BZ.1 a with a|a
   ·exact c.2 r a
   rw[DK.1 a];exact(WV m).2.2.2.2.2.2.2.2
  exact c.2 r a
 unfold QP at f⊢
 simp only[BD,BG,DH]at f⊢;show(QJ x e (x.call e).1).length<=2000/\∀s∈QJ x e (x.call e).1,s.size=64;refine⟨ω,λs b=>?_⟩;unfold QJ at b;rcases BZ.1 b with b|b
 ·exact f.2 s b
 refine i s ?_
 unfold NH at b⊢;obtain⟨o,n,a⟩:=List.mem_filterMap.1 b;exact List.mem_filterMap.2 ⟨o,DM n,a⟩
theorem De{x:Wo}(c:LW x=true)(e:Ev):LW (x.doE e)=true:=by
 have a:=c;unfold LW at c;simp only[BD,BG]at c;obtain⟨b,q,y,r,s⟩:=c;unfold Wo.doE
 split
 ·exact tP b q r s _
 split
 ·exact a
 rename_i m
 have j:(x.call e).2=true:=by cases h:(x.call e).2 with
  | true=>rfl
  | false=>exact absurd (.inl h) m
 have l:(x.call e).1.C=0:=Decidable.not_not.1 (λk=>m (.inr k))
 split
 ·exact a
 rename_i t;obtain⟨d,u,n,f⟩:=Lq a j l t;obtain⟨i,o,p,v⟩:=oS a j l
 split
 ·exact tP (x:=x.ran e (x.call e).1) b d n f _
 have g:∀P,OW { (x.ran e (x.call e).1).upS (x.call e).1 with P:=P }=true:=by
  intro P;show(if true=true then NX (x.call e).1.W (x.call e).1.S (x.call e).1.L (x.call e).1.T (x.call e).1.H (x.call e).1.F (x.call e).1.R (x.call e).1.U (x.call e).1.O (x.call e).1.rs && decide ((x.call e).1.W=x.w/\(x.call e).1.S=((x.ran e (x.call e).1).ss.length:Int)) else _)=true;rw[AI rfl,BD,BG,u];exact⟨i,o,p⟩
 split
 ·unfold LW
  simp only[BD,BG];exact⟨b,d,g _,n,f⟩
 unfold LW
 simp only[BD,BG];refine⟨b,d,g _,?_,f⟩;unfold PW;simp[(WV i).2.2.2.2.2.2.2.2]
