import Derived.Test.YtmlejnbjclkdjaaGreatDoorPrG34
set_option maxHeartbeats 16000000
namespace Go.Proofs.YtmlejnbjclkdjaaGreatDoor
open Tryz
open Go.RowKit
set_option maxRecDepth 8000
set_option linter.all false
theorem Hh{w a:Nb}{y:Wo}{q:Wp}{o:Nat->Nat}(h:RE y a q o)(d:∀b,b<w.heap.size->o b=0)(c:Below w.heap.size w a):pi w a (M3 (MB y q)) y:=by
 refine⟨q,λb=>if w.heap.size<=b/\b<a.heap.size then o b else 0,rfl,h.lab (λb c=>?_),λb k=>?_,c⟩
 ·show(if w.heap.size<=b/\b<a.heap.size then o b else 0)=o b
  by_cases h:w.heap.size<=b
  ·rw[AE ⟨h,c⟩]
  rw[AG (λk=>h k.1),d b ω]
 by_cases h:w.heap.size<=b/\b<a.heap.size
 ·exact h
 exact absurd (AG h) k
theorem Jv(x:Wo)(q:Wp)(e:Ev)(a:M6)(c:Nat)(f:M6)(d:Nat)(w:Nb)(h:x.at w q)(J:x.le 1048576)(G:Chs w a e.b)(I:Ints w f e.fs)(H:e.le):Calls prog 8 #[MB x q,OD e a c f d] w λr n=>pi w n r (x.doR e):=by
 have s:=Z (λn k=>yt x q n k J);unfold MB at s⊢;unfold OD;have C:=Z h;have K:=Z G;have M:=Z I;have L:=Z H;clear h G I H J;obtain⟨p,u⟩:∃y,Hid (y=x.doR e):=⟨_,Z rfl⟩;rw[<-u.l];go_enter func8,ntmps8;go_upto_region 1 with fail;generalize b:w.alloc _=P;obtain⟨t,v,b0⟩:=LY b;clear b;generalize g:P.alloc _=Q;obtain⟨b,o,z⟩:=LY g;clear g;generalize i:Q.alloc _=v3;obtain⟨g,B,A⟩:=LY i;clear i;rw[v]at z o;rw[o]at A B;have i:=t.j ((b.j (g.z b.size)).z t.size);have l:=((b0.I b).I g).q;have m:=(z.I g).q;have j:=A.q;clear t b g b0 z A v o B;refine BE ?_;refine AS rfl 36 _ rfl w.heap.size 0 rfl _ _ l.range underlying36 rfl MO ?_;simp only[PS];go_wp2_with fail;refine(s.l _ (C.l.I i)).z ?_;rintro r z ⟨rfl,g⟩;replace i:=i.j (g.z i.size);replace l:=l.I g
 replace m:=m.I g;replace j:=j.I g;clear g s;obtain⟨O,v⟩:∃y,Hid (y=NI x):=⟨_,Z rfl⟩;rw[<-v.l]
 cases O with
 | false =>
  have g:p=yq:=by rw[u.l];unfold Wo.doR;rw[<-v.l,AG σ]
  have s:=Z g;clear g u;go_upto_region 2 with fail;refine BE ?_;refine LU rfl (.agg #[.int .i64 0,.slice none 0 0,.slice none 0 0,M0 false,.int .i64 0,.int .i64 0,.int .i64 0,.int .i64 0,.int .i64 0,.int .i64 0,.int .i64 0,.int .i64 0,.int .i64 0,.slice none 0 0,.slice none 0 0,.slice none 0 0]) γ ?_;simp only[PS];refine BI rfl 36 _ _ rfl (w.heap.size+1+1) 0 #[.int .i64 0,.slice none 0 0,.slice none 0 0,M0 false,.int .i64 0,.int .i64 0,.int .i64 0,.int .i64 0,.int .i64 0,.int .i64 0,.int .i64 0,.int .i64 0,.int .i64 0,.slice none 0 0,.slice none 0 0,.slice none 0 0] rfl rfl (j.there rfl) MO κ ?_
  try simp only[PS]
  have g:=LG z (w.heap.size+1+1) 0 [.int .i64 0,.slice none 0 0,.slice none 0 0,M0 false,.int .i64 0,.int .i64 0,.int .i64 0,.int .i64 0,.int .i64 0,.int .i64 0,.int .i64 0,.int .i64 0,.int .i64 0,.slice none 0 0,.slice none 0 0,.slice none 0 0];have t:=j.sets [.int .i64 0,.slice none 0 0,.slice none 0 0,M0 false,.int .i64 0,.int .i64 0,.int .i64 0,.int .i64 0,.int .i64 0,.int .i64 0,.int .i64 0,.int .i64 0,.int .i64 0,.slice none 0 0,.slice none 0 0,.slice none 0 0] rfl;have o:=i.j (NR g i.size (λx e=>by have e:=CE e;omega));generalize World.setCells _ _ _ _=T at t o g⊢;clear g l m j i
  try go_wp2
  exact LV 4 36 results8 _ rfl _ _ t underlying36 rfl MO rfl ⟨⟨none,0,none,0,none,0,none,0,none,0⟩,λ_=>0,by rw[s.l];rfl,by rw[s.l];exact⟨.inl rfl,.inl rfl,.inl rfl,.inl rfl,.inl rfl⟩,λb k=>absurd rfl k,o⟩
 | true =>
  obtain⟨o,D,E⟩:=dk v.l.symm;have g:p=x.doE e:=by rw[u.l];unfold Wo.doR;rw[<-v.l,AE rfl]
  have B:=Z (o.doE e);rw[<-g]at B;have y:=Z (λn k=>iw x q n k o);have t:=Z (λs F n A N k3=>ew x s e a c f d F n A o N k3 L.l);have A:=Z (λs n k=>iw p s n k B.l);rw[<-g]at t;unfold MB at y t A;unfold OD at t;clear g u v D E o B;go_upto_region 3 with fail;refine VS (5) (S:=λn=>Row n w.heap.size (wL x q)/\Row n (w.heap.size+1) [.int .i64 e.K,.slice a e.b.length c,.int .i64 e.cut,.slice f e.fs.length d]) κ (⟨l.I (AB _ _).drew,m.I (AB _ _).drew⟩) (λE=>?_);refine OZ 0 (.agg (wA x q)) rfl (BO ⟨ρ,λw g=>by obtain⟨v,o⟩:=g;exact LJ 36 _ rfl _ 0 rfl _ _ v.range underlying36 rfl MO⟩) E (OZ 2 (.agg #[.int .i64 e.K,.slice a e.b.length c,.int .i64 e.cut,.slice f e.fs.length d]) rfl (BO ⟨ρ,λw g=>by obtain⟨v,o⟩:=g;exact LJ 45 _ rfl _ 0 rfl _ _ o.range underlying45 rfl ZQ⟩) E ?_)
  simp only[PS];refine PH 1 rfl (λB n=>?_);have g:=(AB z.heap.size z).drew;replace i:=i.j (g.z i.size);replace l:=l.I g;replace m:=m.I g;replace j:=j.I g;generalize u:z.drew=R at i l m j⊢;clear u g;refine LW ρ 33 #[.agg (wA x q)] γ (y.l _ (C.l.I i)) ?_;rintro r y1 ⟨s,o1,rfl,D,o,g⟩;have u:=D.woF (F:=λb=>R.heap.size<=b) (λb k=>KH λh=>k (o b ω));refine⟨_,rfl,?_⟩;unfold MB;replace i:=i.j (g.z i.size);replace l:=l.I g;replace m:=m.I g;replace j:=j.I g;clear g y D o;refine n.l _ _ (⟨l,m⟩) (λU=>?_)
  try simp only[PS]
  refine PH 3 rfl (λB n=>?_);refine LW ρ 34 #[.agg (wA x s),.agg #[.int .i64 e.K,.slice a e.b.length c,.int .i64 e.cut,.slice f e.fs.length d]] γ (t.l s _ _ u (K.l.I i) (M.l.I i)) ?_;rintro r y2 ⟨N,rfl,o,g⟩;refine⟨_,rfl,?_⟩;unfold MB;replace i:=i.j (g.z i.size);replace l:=l.I g;replace m:=m.I g;replace j:=j.I g;clear g t u;refine n.l _ _ (⟨l,m⟩) (λV=>?_)
  try simp only[PS]
  refine PH 4 rfl (λB n=>?_);refine LW ρ _ _ γ (A.l N _ o.at) ?_;rintro r S ⟨k,o3,rfl,y,D,g⟩;refine⟨_,rfl,?_⟩;unfold MB;have X:=i.size;have F:=j.lt;replace i:=i.j (g.z i.size);replace l:=l.I g;replace m:=m.I g;replace j:=j.I g;clear g A o;refine n.l _ _ (⟨l,m⟩) (λW=>?_)
  try simp only[PS]
  refine RT (rs:=[5]) κ σ ?_;refine AllReadyT.last rfl (λB n=>?_);refine LH rfl 36 _ _ rfl (w.heap.size+1+1) 0 (wA p k) rfl rfl (j.there rfl) MO κ ?_;refine n.l _ _ trivial (λ_=>?_)
  try simp only[PS]
  refine UY κ ?_ _;have g:=LG S (w.heap.size+1+1) 0 (wL p k);have t:=j.sets (wL p k) rfl;have u:=y.J g (D _ F);have o:=i.j (NR g i.size (λx e=>by have e:=CE e;omega));generalize World.setCells _ _ _ _=T at t u o g⊢;have A:=Z u;clear g u y l m j i
  try go_wp2
  exact LV 4 36 results8 _ rfl (wL p k) _ t underlying36 rfl MO rfl (Hh A.l (λb g=>D b ω) o)
