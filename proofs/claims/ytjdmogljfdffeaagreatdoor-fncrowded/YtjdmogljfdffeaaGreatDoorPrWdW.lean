import Derived.Test.YtjdmogljfdffeaaGreatDoorPrWdV
import Derived.Test.YtjdmogljfdffeaaGreatDoorPrWdC
set_option maxHeartbeats 32000000
namespace Go.Proofs.YtjdmogljfdffeaaGreatDoor
open Tryz
open Go.RowKit nw
set_option maxRecDepth 8000
set_option linter.all false
theorem uk{w:World}{B:Nat}{e:TypeId}{k:Nat}{a:Option Addr}{m c:Nat}{g:List Value}(h:w.ownsRow B e k (.slice a m c) m g):m<=c:=by
 rcases h.2 with ⟨b,d⟩|⟨l,f,i,b,d,n,j⟩
 ·rw[d];exact AO _
 cases b;exact j.1
def Fj(w a:World)(r:Ending):Prop:=∃(x:Wo) (q:Wp) (N g c:Nat),r=.returned (LO x q)/\x.good N/\(8<=N/\N<=40)/\(1<=x.w/\x.w<=8)/\WoF x a (λb=>w.heap.size<=b) q/\q.a=some ⟨g,0,none⟩/\q.a'=some ⟨c,0,none⟩/\a.ownsRow w.heap.size 9 1 (.slice q.a x.ss.length q.c) x.ss.length (x.ss.map Value.string)/\a.ownsRow w.heap.size 134 2 (.slice q.a' x.ws.length q.c') x.ws.length (MH x.ws)/\g≠c
def zZ(w a:World)(r:Ending):Prop:=∃(x:Wo) (q:Wp) (N g c:Nat),r=.returned (LO x q)/\x.good N/\(8<=N/\N<=40)/\(1<=x.w/\x.w<=8)/\WoF x a (λb=>w.heap.size<=b) q/\q.a=some ⟨g,0,none⟩/\q.a'=some ⟨c,0,none⟩/\a.ownsRow w.heap.size 9 1 (.slice q.a x.ss.length q.c) x.ss.length (x.ss.map Value.string)/\a.ownsRow w.heap.size 134 2 (.slice q.a' x.ws.length q.c') x.ws.length (MH x.ws)/\g≠c/\x.rs.length<=q.cs/\x.ts.length<=q.ct
structure RcS(w wx:World)(R:Nat)(a:Option Addr)(n c:Nat)(p:Int):Prop where
 rd:Rdr wx R a n c p
 gr:w.grownBy wx (some R)
 lR:R<w.heap.size
 ga:∀g o,a=some ⟨g,o,none⟩->0<n->g<w.heap.size
 r2:Row wx w.heap.size [.int .i64 0,.slice none 0 0,.slice none 0 0,.bool false,.int .i64 0,.int .i64 0,.int .i64 0,.int .i64 0,.int .i64 0,.int .i64 0,.int .i64 0,.int .i64 0,.int .i64 0,.slice none 0 0,.slice none 0 0,.slice none 0 0]
section
variable {w wx wy:World} {R:Nat} {a:Option Addr} {n c:Nat} {p p':Int}
theorem RcS.z(h:RcS w wx R a n c p)(b:Below wx.heap.size wx wy):RcS w wy R a n c p :=⟨h.rd.z b,OS h.gr (RW _ b),h.lR,h.ga,h.r2.z b⟩
theorem RcS.pick(h:RcS w wx R a n c p)(d:Rdr wy R a n c p')(b:wx.grownBy wy (some R)):RcS w wy R a n c p':=by
 have f:=h.lR;exact⟨d,OS h.gr b,h.lR,h.ga,h.r2.I b (λe=>by injection e with e;omega)⟩
theorem FgS.rc{B:Nat}{x:Wo}{q:Wp}(h:FgS w wx R a n c p B x q):RcS w wx R a n c p:=⟨h.rd,h.gr,h.lR,h.ga,h.r2⟩
theorem RcS.fin2(h:RcS w wx R a n c p)(d:List Value)(B:d.length=16){y:Wo}{x:Wp}(D:WoF y wx (λb=>w.heap.size+1<=b) x){s t u v:Nat}{z A:TypeId}{u1 u2:Value}{l m:List Value}(o:wx.ownsRow (w.heap.size+1) z s u1 u l)(q:wx.ownsRow (w.heap.size+1) A t u2 v m):Row (wx.setCells w.heap.size 0 d) w.heap.size d/\Rdr (wx.setCells w.heap.size 0 d) R a n c p/\w.grownBy (wx.setCells w.heap.size 0 d) (some R)/\WoF y (wx.setCells w.heap.size 0 d) (λb=>w.heap.size<=b) x/\(wx.setCells w.heap.size 0 d).ownsRow w.heap.size z s u1 u l/\(wx.setCells w.heap.size 0 d).ownsRow w.heap.size A t u2 v m:=by
 have G:=OQ wx w.heap.size 0 d;have f:Below w.heap.size wx (wx.setCells w.heap.size 0 d):=MR G h.gr.size (λg e=>by cases e;exact Y _);have j:=h.gr
 exact⟨h.r2.sets d B,h.rd.keep (N:=w.heap.size) h.lR h.ga f,⟨f.os.j j.os,f.tape.j j.tape,f.output.j j.output,AL j.size f.size,λi r C=>(f.block i r).j (j.block i r C)⟩,(D.I G (λg e k=>by cases e;omega)).A (λb _ k=>ω),
  (o.kept G (.inr (λe=>by have:=(o.lt _ e).1;omega))).A ω,(q.kept G (.inr (λe=>by have:=(q.lt _ e).1;omega))).A ω⟩
end
def yN(w:World)(R:Nat)(a:Option Addr)(n c:Nat)(p:Int)(B N:Nat)(d:Value)(wr:World):Prop:=∃(m:Nat) (b:Int) (x:Wo) (q:Wp),d=.int .i64 (m:Int)/\m<=30/\p<=b/\b<=p+4+700*(30-m)/\x.good N/\(1<=x.w/\x.w<=8)/\FgS w wr R a n c b B x q
theorem wG(R:Nat)(a:Option Addr)(n c:Nat)(p:Int)(w:World)(h:Rdr w R a n c p)(hp:p<99950000):Calls prog 42 #[.pointer (some ⟨R,0,none⟩)] w λr u=>zZ w u r/\TU w R a n c p 21010 u:=by
 have p0:=h.p0;go_enter func42,ntmps42;go_wp2_with fail;generalize b:w.alloc _=v1;obtain⟨i,e,d⟩:=LF b;clear b;have b:RcS w v1 R a n c p:=⟨h.z i,RW _ i,h.lts.1,h.lts.2,d.q⟩;have k:w.heap.size+1<=v1.heap.size:=ω
 clear i d e h;refine(KX R a n c p 16 _ b.rd ω).A ?_;rintro e v2 ⟨⟨t,rfl,t0,t1⟩,g,f⟩;have M:w.heap.size+1<=v2.heap.size:=AL k f.size;have j:=b.pick g f;clear b g f k
 by_cases D:t=0
 ·subst D
  go_wp2_with fail;refine(Ag R a n c (p+1) _ j.rd ω).A ?_;rintro e L ⟨⟨x,q,N,rfl,i,hN,l,d⟩,⟨W,q0,q1,g⟩,f⟩;have o:=j.pick g f;have I:=f.size;have s:=Z i;have K:=Z l;clear g f j i l;have l:=Z (ue x q L d.at s.l.ok.le);clear d;unfold LO at l⊢;go_wp2_with fail;refine l.l.A ?_;rintro e v4 ⟨m,g,U,rfl,r,H,F,d,f,G,i,z⟩;have v:=o.z i;have y:w.heap.size+1<=L.heap.size:=ω
  replace r:=r.A (G:=λb=>w.heap.size+1<=b) (λb _ k=>ω);replace d:=d.A y;replace f:=f.A y;clear i o l;unfold LO
  try simp only[J]
  refine‹∀(a:Act) (w:World),wpList _ _ _ _ a w->_› _ _ ?_
  refine BI rfl 36 _ _ rfl (w.heap.size) 0 (wA x m) rfl rfl (v.r2.there rfl) LX κ ?_
  try simp only[J]
  obtain⟨C,A,l,i,d,f⟩:=v.fin2 (wL x m) rfl r d f;generalize E:v4.setCells _ _ _=y8 at C A l i d f⊢;clear E;go_wp2;obtain⟨z0,z1,z2,z3,z4,z5,z6,z7,z8,z9,E,O,P,Q,S,T,cH⟩:=c16 C;exact AI (v:=.agg (wA x m)) (by simp[results,results42,go_sem,z0,z1,z2,z3,z4,z5,z6,z7,z8,z9,E,O,P,Q,S,T]) rfl ⟨⟨x,m,N,g,U,rfl,s.l,hN,K.l,i,H,F,d,f,G,z.cs,uk z.tt.1⟩,⟨W,ω,ω,A⟩,l⟩
 go_wp2_with fail
 refine(zV R a n c (p+1) _ j.rd ω).A ?_;rintro e L ⟨⟨m,wd,q,hm,z,rfl,d⟩,⟨W,q0,q1,g⟩,f⟩;have o:=j.pick g f;have I:=f.size;clear j g f;unfold LO;go_upto_region 4 with fail;generalize f:L.alloc _=v4;obtain⟨i,A,j⟩:=LF f;clear f;replace d:=(d.A (G:=λb=>w.heap.size+1<=b/\b≠L.heap.size) (λb f k=>ω)).z i;obtain⟨B,s⟩:∃B,B=L.heap.size:=⟨_,rfl⟩;rw[<-s]at j d⊢;obtain⟨N,y⟩:∃N:Nat,N=m.toNat:=⟨_,rfl⟩;have hN:8<=N/\N<=40:=ω
 obtain⟨X,g⟩:∃x,Hid (x=KV m wd):=⟨_,Z rfl⟩;rw[<-g.l]at j d⊢;have f:=o.z i;have l:FgS w v4 R a n c W B X q:=⟨f.rd,f.gr,f.lR,f.ga,f.r2,j.q,ω,d⟩;have r:Hid (X.good N):=by show Wo.good _ _;rw[g.l,y];exact xj ω
 have v:Hid (1<=X.w/\X.w<=8):=by show _/\_;rw[g.l];exact z
 clear i j d f o A s I M y g hm z D t0 t1;generalize Value.agg _=A0;go_wp2_with fail;refine(KX R a n c W 30 _ l.rd ω).A ?_;rintro e v5 ⟨⟨k',rfl,k0,k1⟩,g,f⟩;obtain⟨k,rfl⟩:∃k:Nat,k'=(k:Int):=⟨k'.toNat,ω⟩;have j:=l.pick g f;clear l g f;go_wp2_with fail;go_loopw [4] (λd wr=>yN w R a n c p B N d wr) (λd _=>(intOf d).toNat)
 case atStart=>exact⟨k,W+1,X,q,rfl,ω,ω,ω,r.l,v.l,j⟩
 case round =>
  obtain⟨m,I,x,q,rfl,hm,cO,cP,i,l,M⟩:=hrel;have s:=Z i;have K:=Z l;clear j r v i l
  by_cases cL:0<m
  ·have bI:(0:Int)<(m:Int):=ω
   go_upto_region 7 with fail;refine AN (S:=λu=>True) κ (trivial) (λj=>?_);refine V 1 (.pointer (some ⟨R,0,none⟩)) rfl j (V 2 (.pointer (some ⟨B,3,none⟩)) rfl j ?_);simp only[J];refine DH (rs:=[0,3]) κ σ ?_;refine AY rfl (λu d=>?_) (AY rfl (λu d=>?_) DE)
   ·obtain⟨T,f⟩:∃y,y=wr.drew:=⟨_,rfl⟩
    rw[<-f];have r:FgS w T R a n c I B x q:=by rw[f];exact M.z (AC _ _).drew
    clear f;refine fy ρ 36 _ ρ B 0 ρ (wL x q) _ r.r3.range underlying36 rfl LX ?_;refine d.l _ _ j (λ_=>?_)
    try simp only[J]
    refine RD 3 rfl (λu d=>?_);have f:=r.r3.y 3;have g:=r.r3.lt;go_simp;clear f g;refine d.l _ _ j (λ_=>?_)
    try simp only[J]
    refine RD 4 rfl (λu d=>?_);refine LC ρ _ _ γ (zb R a n c I x.up _ r.rd ω) ?_;rintro e Q ⟨⟨i,E,F,G,H,rfl,O,z,hF⟩,⟨P,U,cF,g⟩,f⟩;refine⟨_,rfl,?_⟩;have l:=r.pick g f;have z:=z.q;have hF:=hF.q;clear g f;unfold NH;refine d.l _ _ j (λ_=>?_)
    try simp only[J]
    refine RD 5 rfl (λu d=>?_);obtain⟨y,o⟩:∃y,Hid (y=x.doE i):=⟨_,Z rfl⟩;have f:=jm x q i E F G H _ Q l.wo s.l.ok z hF O;rw[<-o.l]at f;refine LC ρ 88 #[.agg (wA x q),.agg #[.int .i64 i.K,.slice E i.b.length F,.int .i64 i.cut,.slice G i.fs.length H]] γ f ?_;rintro e S ⟨v,rfl,g,D⟩;refine⟨_,rfl,?_⟩;have bG:=l.r3.lt;have bH:=l.lB;have C:=g.A (G:=λb=>w.heap.size+1<=b/\b≠B) (λb _ k=>by rcases k with k|k;exact k;omega);have A:=l.z D;clear f g D;unfold LO;refine d.l _ _ j (λ_=>?_)
    try simp only[J]
    refine RD 6 rfl (λu d=>?_);refine SU ρ 36 _ _ ρ B 0 (wA y v) ρ ρ (A.r3.there rfl) LX κ ?_;refine d.l _ _ j (λ_=>?_)
    try simp only[J]
    refine DN ?_;have f:=A.put C;generalize g:S.setCells _ _ _=D at f⊢;clear g;go_wp2_with fail;go_roundw
    case rel=>exact⟨m-1,P,y,v,by first|go_num|(congr 1;omega),ω,ω,ω,by rw[o.l];exact s.l.doE _,by rw[o.l,ft];exact K.l,f⟩
    case measure=>simp[intOf];omega
   obtain⟨T,f⟩:∃y,y=wr.drew:=⟨_,rfl⟩
   rw[<-f];have r:FgS w T R a n c I B x q:=by rw[f];exact M.z (AC _ _).drew
   clear f;have f:=r.r3.y 3;have g:=r.r3.lt;go_simp;clear f g;refine d.l _ _ j (λ_=>?_)
   try simp only[J]
   refine DH (rs:=[0,4]) κ σ ?_;refine AY rfl (λu d=>?_) (AY rfl (λu d=>?_) DE)
   ·refine fy ρ 36 _ ρ B 0 ρ (wL x q) _ r.r3.range underlying36 rfl LX ?_
    refine d.l _ _ j (λ_=>?_)
    try simp only[J]
    refine RD 4 rfl (λu d=>?_);refine LC ρ _ _ γ (zb R a n c I x.up _ r.rd ω) ?_;rintro e Q ⟨⟨i,E,F,G,H,rfl,O,z,hF⟩,⟨P,U,cF,g⟩,f⟩;refine⟨_,rfl,?_⟩;have l:=r.pick g f;have z:=z.q;have hF:=hF.q;clear g f;unfold NH;refine d.l _ _ j (λ_=>?_)
    try simp only[J]
    refine RD 5 rfl (λu d=>?_);obtain⟨y,o⟩:∃y,Hid (y=x.doE i):=⟨_,Z rfl⟩;have f:=jm x q i E F G H _ Q l.wo s.l.ok z hF O;rw[<-o.l]at f;refine LC ρ 88 #[.agg (wA x q),.agg #[.int .i64 i.K,.slice E i.b.length F,.int .i64 i.cut,.slice G i.fs.length H]] γ f ?_;rintro e S ⟨v,rfl,g,D⟩;refine⟨_,rfl,?_⟩;have bG:=l.r3.lt;have bH:=l.lB;have C:=g.A (G:=λb=>w.heap.size+1<=b/\b≠B) (λb _ k=>by rcases k with k|k;exact k;omega);have A:=l.z D;clear f g D;unfold LO;refine d.l _ _ j (λ_=>?_)
    try simp only[J]
    refine RD 6 rfl (λu d=>?_);refine SU ρ 36 _ _ ρ B 0 (wA y v) ρ ρ (A.r3.there rfl) LX κ ?_;refine d.l _ _ j (λ_=>?_)
    try simp only[J]
    refine DN ?_;have f:=A.put C;generalize g:S.setCells _ _ _=D at f⊢;clear g;go_wp2_with fail;go_roundw
    case rel=>exact⟨m-1,P,y,v,by first|go_num|(congr 1;omega),ω,ω,ω,by rw[o.l];exact s.l.doE _,by rw[o.l,ft];exact K.l,f⟩
    case measure=>simp[intOf];omega
   refine LC ρ _ _ γ (zb R a n c I x.up _ r.rd ω) ?_
   rintro e Q ⟨⟨i,E,F,G,H,rfl,O,z,hF⟩,⟨P,U,cF,g⟩,f⟩;refine⟨_,rfl,?_⟩;have l:=r.pick g f;have z:=z.q;have hF:=hF.q;clear g f;unfold NH;refine d.l _ _ j (λ_=>?_)
   try simp only[J]
   refine RD 0 rfl (λu d=>?_);refine fy ρ 36 _ ρ B 0 ρ (wL x q) _ l.r3.range underlying36 rfl LX ?_;refine d.l _ _ j (λ_=>?_)
   try simp only[J]
   refine RD 5 rfl (λu d=>?_);obtain⟨y,o⟩:∃y,Hid (y=x.doE i):=⟨_,Z rfl⟩;have f:=jm x q i E F G H _ Q l.wo s.l.ok z hF O;rw[<-o.l]at f;refine LC ρ 88 #[.agg (wA x q),.agg #[.int .i64 i.K,.slice E i.b.length F,.int .i64 i.cut,.slice G i.fs.length H]] γ f ?_;rintro e S ⟨v,rfl,g,D⟩;refine⟨_,rfl,?_⟩;have bG:=l.r3.lt;have bH:=l.lB;have C:=g.A (G:=λb=>w.heap.size+1<=b/\b≠B) (λb _ k=>by rcases k with k|k;exact k;omega);have A:=l.z D;clear f g D;unfold LO;refine d.l _ _ j (λ_=>?_)
   try simp only[J]
   refine RD 6 rfl (λu d=>?_);refine SU ρ 36 _ _ ρ B 0 (wA y v) ρ ρ (A.r3.there rfl) LX κ ?_;refine d.l _ _ j (λ_=>?_)
   try simp only[J]
   refine DN ?_;have f:=A.put C;generalize g:S.setCells _ _ _=D at f⊢;clear g;go_wp2_with fail;go_roundw
   case rel=>exact⟨m-1,P,y,v,by first|go_num|(congr 1;omega),ω,ω,ω,by rw[o.l];exact s.l.doE _,by rw[o.l,ft];exact K.l,f⟩
   case measure=>simp[intOf];omega
  have bI:¬(0:Int)<(m:Int):=ω
  go_wp2_with fail;refine(KX R a n c I 4 _ M.rd ω).A ?_;rintro e v6 ⟨⟨t,rfl,t0,t1⟩,g,f⟩;have j:=M.pick g f;clear M g f
  by_cases ht:0<t
  ·go_upto_region 9 with fail
   refine BG ?_;refine AS rfl 36 _ rfl (B) 0 rfl (wL x q) _ j.r3.range underlying36 rfl LX ?_;simp only[J];obtain⟨y,o⟩:∃y,Hid (y=x.doE ZE):=⟨_,Z rfl⟩;have f:=sD x q _ v6 j.wo s.l.ok;rw[<-o.l]at f;have l:=Z f;clear f;unfold LO at l;go_wp2_with fail;refine l.l.A ?_;rintro e v7 ⟨v,rfl,g,i⟩;have d:=j.z i;have bG:=j.r3.lt;have bH:=j.lB;have C:=g.A (G:=λb=>w.heap.size+1<=b/\b≠B) (λb _ k=>by rcases k with k|k;exact k;omega);have bU:Hid (y.good N):=by show Wo.good _ _;rw[o.l];exact s.l.doE _
   have cI:Hid (1<=y.w/\y.w<=8):=by show _/\_;rw[o.l,ft];exact K.l
   clear j i g l;unfold LO
   try simp only[J]
   refine‹∀(a:Act) (w:World),wpList _ _ _ _ a w->_› _ _ ?_
   refine BI rfl 36 _ _ rfl (B) 0 (wA y v) rfl rfl (d.r3.there rfl) LX κ ?_
   try simp only[J]
   have A:=d.put C;generalize f:v7.setCells _ _ _=v8 at A⊢;clear f d C;go_upto_region 10 with fail;refine BG ?_;refine AS rfl 36 _ rfl (B) 0 rfl (wL y v) _ A.r3.range underlying36 rfl LX ?_;simp only[J];have l:=Z (ue y v v8 A.wo.at bU.l.ok.le);unfold LO at l;go_wp2_with fail;refine l.l.A ?_;rintro e v9 ⟨u,g,U,rfl,r,H,F,d,f,G,i,z⟩;have D:=A.rc.z i;have M:w.heap.size+1<=v8.heap.size:=by have:=A.lB;have:=A.r3.lt;omega
   replace r:=r.A (G:=λb=>w.heap.size+1<=b) (λb _ k=>ω);replace d:=d.A M;replace f:=f.A M;clear i l A;unfold LO
   try simp only[J]
   refine‹∀(a:Act) (w:World),wpList _ _ _ _ a w->_› _ _ ?_
   refine BI rfl 36 _ _ rfl (w.heap.size) 0 (wA y u) rfl rfl (D.r2.there rfl) LX κ ?_
   try simp only[J]
   obtain⟨C,A,l,i,d,f⟩:=D.fin2 (wL y u) rfl r d f;generalize E:v9.setCells _ _ _=y8 at C A l i d f⊢;clear E;go_wp2;obtain⟨z0,z1,z2,z3,z4,z5,z6,z7,z8,z9,E,O,P,Q,S,T,cH⟩:=c16 C;exact AI (v:=.agg (wA y u)) (by simp[results,results42,go_sem,z0,z1,z2,z3,z4,z5,z6,z7,z8,z9,E,O,P,Q,S,T]) rfl ⟨⟨y,u,N,g,U,rfl,bU.l,hN,cI.l,i,H,F,d,f,G,z.cs,uk z.tt.1⟩,⟨I+1,ω,ω,A⟩,l⟩
  go_upto_region 10 with fail
  refine BG ?_;refine AS rfl 36 _ rfl (B) 0 rfl (wL x q) _ j.r3.range underlying36 rfl LX ?_;simp only[J];have l:=Z (ue x q v6 j.wo.at s.l.ok.le);unfold LO at l;go_wp2_with fail;refine l.l.A ?_;rintro e v9 ⟨u,g,U,rfl,r,H,F,d,f,G,i,z⟩;have D:=j.rc.z i;have M:w.heap.size+1<=v6.heap.size:=by have:=j.lB;have:=j.r3.lt;omega
  replace r:=r.A (G:=λb=>w.heap.size+1<=b) (λb _ k=>ω);replace d:=d.A M;replace f:=f.A M;clear i l j;unfold LO
  try simp only[J]
  refine‹∀(a:Act) (w:World),wpList _ _ _ _ a w->_› _ _ ?_
  refine BI rfl 36 _ _ rfl (w.heap.size) 0 (wA x u) rfl rfl (D.r2.there rfl) LX κ ?_
  try simp only[J]
  obtain⟨C,A,l,i,d,f⟩:=D.fin2 (wL x u) rfl r d f;generalize E:v9.setCells _ _ _=y8 at C A l i d f⊢;clear E;go_wp2;obtain⟨z0,z1,z2,z3,z4,z5,z6,z7,z8,z9,E,O,P,Q,S,T,cH⟩:=c16 C;exact AI (v:=.agg (wA x u)) (by simp[results,results42,go_sem,z0,z1,z2,z3,z4,z5,z6,z7,z8,z9,E,O,P,Q,S,T]) rfl ⟨⟨x,u,N,g,U,rfl,s.l,hN,K.l,i,H,F,d,f,G,z.cs,uk z.tt.1⟩,⟨I+1,ω,ω,A⟩,l⟩
theorem zE(R:Nat)(a:Option Addr)(n c:Nat)(p:Int)(w:World)(h:Rdr w R a n c p)(v:p<99950000):Calls prog 42 #[.pointer (some ⟨R,0,none⟩)] w λr b=>Fj w b r/\TU w R a n c p 21010 b:=by
 refine(wG R a n c p w h v).A ?_;rintro e b ⟨⟨x,q,N,g,i,j,k,l,m,o,r,s,t,u,d,-⟩,f⟩;exact⟨⟨x,q,N,g,i,j,k,l,m,o,r,s,t,u,d⟩,f⟩
