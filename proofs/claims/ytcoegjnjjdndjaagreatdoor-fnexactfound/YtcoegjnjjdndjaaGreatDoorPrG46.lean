import Derived.Test.YtcoegjnjjdndjaaGreatDoorPrVStS
import Derived.Test.YtcoegjnjjdndjaaGreatDoorPrG40
import Derived.Test.YtcoegjnjjdndjaaGreatDoorPrG38
import Derived.Test.YtcoegjnjjdndjaaGreatDoorPrG44
import Derived.Test.YtcoegjnjjdndjaaGreatDoorPrG49
import Derived.Test.YtcoegjnjjdndjaaGreatDoorPrG32
set_option maxHeartbeats 16000000
set_option maxRecDepth 8000
set_option linter.unusedVariables false
set_option linter.unusedSimpArgs false
namespace Go.Proofs.YtcoegjnjjdndjaaGreatDoor
open Go.RowKit
def putOps (base:Int) (l:List ByteArray):List OpT:=l.mapIdx fun i p=>(false,base+(i:Int),p)
theorem putOps_nil (base:Int):putOps base []=[]:=rfl
theorem putOps_snoc (base:Int) (l:List ByteArray) (p:ByteArray):putOps base (l++[p])=putOps base l++[(false,base+(l.length:Int),p)]:=by simp [putOps,List.mapIdx_append]
theorem putOps_length (base:Int) (l:List ByteArray):(putOps base l).length=l.length:=by simp [putOps]
def mvStep (L F:Int) (n m:Nat) (acc:List ByteArray) (b:List Ch):List ByteArray:=acc++cutAll (bOut b) L (F+(acc.length:Int)) n m
def mvPages (L F:Int) (n m:Nat) (bss:List (List Ch)):List ByteArray:=bss.foldl (mvStep L F n m) [formOf 3 L F ByteArray.empty (n:Int)]
theorem mvPages_nil (L F:Int) (n m:Nat):mvPages L F n m []=[formOf 3 L F ByteArray.empty (n:Int)]:=rfl
theorem mvPages_snoc (L F:Int) (n m:Nat) (bss:List (List Ch)) (b:List Ch):mvPages L F n m (bss++[b])=mvPages L F n m bss++cutAll (bOut b) L (F+((mvPages L F n m bss).length:Int)) n m:=by
 unfold mvPages;rw [List.foldl_append];rfl
theorem cutAll_len (s:ByteArray) (l f:Int) (n m:Nat) (hm:n+m=56) (h1:1<=n) (h2:n<=8):((cutAll s l f n m).length:Int)<=npages s.size (n:Int):=by
 have e:(56-(n:Int)).toNat=m:=by omega
 unfold npages
 rw [if_pos (by omega),e]
 unfold cutAll
 split
 ·rw [cutList_length];omega
 ·simp
theorem mvPages_len (L F:Int) (n m:Nat) (hm:n+m=56) (h1:1<=n) (h2:n<=8) (bss:List (List Ch)):((mvPages L F n m bss).length:Int)<=1+roomOf bss (n:Int):=by
 obtain ⟨k,hk⟩:∃ k,k=bss.length:=⟨_,rfl⟩
 induction k generalizing bss with
 | zero=>rw [List.eq_nil_of_length_eq_zero hk.symm,mvPages_nil,roomOf_nil];simp
 | succ k ih =>
  obtain ⟨b,bs,rfl⟩:∃ b bs,bss=bs++[b]:=by
   rcases List.eq_nil_or_concat bss with h | ⟨l,a,h⟩
   ·subst h;simp at hk
   ·exact ⟨a,l,by simpa using h⟩
  have:=ih bs (by simp at hk;omega)
  rw [mvPages_snoc,roomOf_snoc,List.length_append]
  have:=cutAll_len (bOut b) L (F+((mvPages L F n m bs).length:Int)) n m hm h1 h2
  omega
theorem room_take (bss:List (List Ch)) (k:Nat) (n:Int):roomOf (bss.take k) n<=roomOf bss n:=by
 have e:roomOf bss n=roomOf (bss.take k) n+roomOf (bss.drop k) n:=by
  unfold roomOf;rw [<-List.sum_append,<-List.map_append,List.take_append_drop]
 have:=(roomOf_bound (bss.drop k) n).1
 omega
def mvOk (W S L T H F:Int) (rs:List Pr):Prop:=(1<=W/\W<=8)/\(8<=S/\S<=200)/\(1<=L/\L<=60000)/\(0<=T/\T<=1000000000)/\(0<=H/\H<=1)/\(1<=F/\F<=999999000)/\roomOf (snapOf rs) W<=hv S-1
def mvFit (S T F:Int):Bool:=decide (T+1<=1000000000/\F+hv S<=999999000)
def mvD (W S L T H F:Int) (rs:List Pr):Dd:=⟨0,W,S,L,T+1,1-H,F+hv S,L,((mvPages L (F+hv S) W.toNat (56-W.toNat) (snapOf rs)).length:Int),0,rs,putOps (2+(1-H)*hv S) (mvPages L (F+hv S) W.toNat (56-W.toNat) (snapOf rs))++[(true,0,ByteArray.empty),(false,(T+1) % 2,rtForm (T+1) (1-H) (F+hv S) L W),(true,0,ByteArray.empty)]⟩
def moveD (W S L T H F:Int) (rs:List Pr):Dd:=if mvFit S T F=true then mvD W S L T H F rs else noD 4
theorem info_opW:(Tryz.prog.info? 100).map (fun i=>(i.zero,i.size,i.bytes))=some (some (.agg #[.bool false,.int .i64 0,.string ByteArray.empty]),3,32):=by kernel_rfl
structure Wrt (w:World) (base g:Nat) (v:Value) (os:List OpT) (at_ nm lf wd:Int):Prop where
 row:Row w g [v,.int .i64 at_,.int .i64 nm,.int .i64 lf,.int .i64 wd]
 own:w.ownsRow base 100 3 v os.length (opcells os)
 ge:base<=g
 ne:v.ownBlock≠some g
theorem Wrt.below {w w':World} {base g:Nat} {v:Value} {os:List OpT} {at_ nm lf wd:Int} (h:Wrt w base g v os at_ nm lf wd) (hb:Below w.heap.size w w'):Wrt w' base g v os at_ nm lf wd:=⟨h.row.below hb,owns_below h.own hb,h.ge,h.ne⟩
theorem oneOp (b:Bool) (n:Int) (s:ByteArray):∀ u∈[Value.bool b,.int .i64 n,.string s],u.oneCell'=true:=by
 intro u hu
 simp only [List.mem_cons,List.not_mem_nil,or_false] at hu
 rcases hu with rfl | rfl | rfl<;>rfl
theorem half_start (n h:Int) (h0:0<=h) (h1:h<=1) (w:World):Calls Tryz.prog 64 #[.int .i64 n,.int .i64 h] w fun e w'=>e=.returned (.int .i64 (2+h*hv n))/\w'=w:=by
 have hQ:0<=hv n/\hv n<=99:=by by_cases h:8<=n/\n<=200;have:=hv_yes h;omega;rw [hv_no h];omega
 obtain ⟨Q,HQ⟩:∃ Q,Hid (Q=hv n):=⟨_,hid rfl⟩
 rw [<-HQ.out] at hQ ⊢
 obtain ⟨q,hq⟩:∃ q,q=h*Q:=⟨_,rfl⟩
 have hqb:0<=q/\q<=99:=by
  rcases (show h=0\/h=1 by omega) with e | e
  ·subst e;omega
  ·subst e;omega
 have hw1:IntKind.i64.wrap (h*Q)=q:=by rw [<-hq];simp [IntKind.wrap,IntKind.bits,IntKind.signed];omega
 have hw2:IntKind.i64.wrap (2+q)=2+q:=by simp [IntKind.wrap,IntKind.bits,IntKind.signed];omega
 rw [<-hq]
 clear hq
 go_enter Tryz.func64,Tryz.ntmps64
 go_wp2_with (go_at_call 65;refine (halves_i _ _).mono ?_;rw [<-HQ.out];rintro e wz ⟨rfl,hwz⟩;rw [hwz];clear hwz wz)
 go_ret
 exact ⟨rfl,rfl⟩
set_option maxHeartbeats 16000000 in
theorem writer_of (W S L T H F R U O:Int) (a:Option Addr) (n c:Nat) (w:World) (h0:0<=H) (h1:H<=1) (f0:1<=F) (f1:F<=999999000) (u0:0<=U) (u1:U<=99) :
  Calls Tryz.prog 116 #[storeV W S L T H F R U O a n c] w fun e w'=>∃ g,e=.returned (.pointer (some ⟨g,0,none⟩))/\Wrt w' w.heap.size g (.slice none 0 0) [] (2+H*hv S+U) (F+U) L W/\Below w.heap.size w w':=by
 have hQ:0<=hv S/\hv S<=99:=by by_cases h:8<=S/\S<=200;have:=hv_yes h;omega;rw [hv_no h];omega
 obtain ⟨q,hq⟩:∃ q,q=H*hv S:=⟨_,rfl⟩
 have hqb:0<=q/\q<=99:=by
  rcases (show H=0\/H=1 by omega) with e | e
  ·subst e;omega
  ·subst e;omega
 have HH:=hid (fun w'=>half_start S H h0 h1 w')
 rw [<-hq] at HH ⊢
 clear hq
 have hw1:IntKind.i64.wrap (2+q+U)=2+q+U:=by simp [IntKind.wrap,IntKind.bits,IntKind.signed];omega
 have hw2:IntKind.i64.wrap (F+U)=F+U:=by simp [IntKind.wrap,IntKind.bits,IntKind.signed];omega
 unfold storeV
 obtain ⟨wb,HWB⟩:∃ wb,wb=w.alloc (.cells #[.int .i64 W,.int .i64 S,.int .i64 L,.int .i64 T,.int .i64 H,.int .i64 F,.int .i64 R,.int .i64 U,.int .i64 O,.slice a n c] 47):=⟨_,rfl⟩
 have HT:Hid (∀ w',Below wb.heap.size wb w'->w'.cell? ⟨w.heap.size,0,none⟩=some (.int .i64 W)/\w'.cell? ⟨w.heap.size,1,none⟩=some (.int .i64 S)/\w'.cell? ⟨w.heap.size,2,none⟩=some (.int .i64 L)/\w'.cell? ⟨w.heap.size,4,none⟩=some (.int .i64 H)/\w'.cell? ⟨w.heap.size,5,none⟩=some (.int .i64 F)/\w'.cell? ⟨w.heap.size,7,none⟩=some (.int .i64 U)):=fun w' hb=>by
  have hsz:w.heap.size<wb.heap.size:=by rw [HWB];simp
  refine ⟨(hb.cell (p:=⟨w.heap.size,0,none⟩) hsz).trans ?_,(hb.cell (p:=⟨w.heap.size,1,none⟩) hsz).trans ?_,(hb.cell (p:=⟨w.heap.size,2,none⟩) hsz).trans ?_,(hb.cell (p:=⟨w.heap.size,4,none⟩) hsz).trans ?_,(hb.cell (p:=⟨w.heap.size,5,none⟩) hsz).trans ?_,(hb.cell (p:=⟨w.heap.size,7,none⟩) hsz).trans ?_⟩<;>(rw [HWB];go_simp)
 have HBB:Hid (Below w.heap.size w wb):=by show Below _ _ _;rw [HWB];exact (Below.refl _ _).alloc (Nat.le_refl _) _
 go_enter Tryz.func116,Tryz.ntmps116
 go_wp2_with fail
 rw [<-HWB]
 clear HWB
 go_region_held3 (fun w'=>w'.cell? ⟨w.heap.size,0,none⟩=some (.int .i64 W)/\w'.cell? ⟨w.heap.size,1,none⟩=some (.int .i64 S)/\w'.cell? ⟨w.heap.size,2,none⟩=some (.int .i64 L)/\w'.cell? ⟨w.heap.size,4,none⟩=some (.int .i64 H)/\w'.cell? ⟨w.heap.size,5,none⟩=some (.int .i64 F)/\w'.cell? ⟨w.heap.size,7,none⟩=some (.int .i64 U))
  (first | assumption | exact HT.out _ ((Below.refl _ _).drew) | exact HT.out _ ((Below.refl _ _).drew.alloc (Nat.le_refl _) _))
  (first | (go_at_call 64;refine (HH.out _).mono ?_;rintro e wz ⟨rfl,rfl⟩))
 all_goals
  go_wp2
  go_ret
  refine ⟨wb.heap.size,rfl,⟨row_at (w:=wb.drew) rfl,World.ownsRow_nil _ _ _ _,HBB.out.size,by simp [Value.ownBlock]⟩,HBB.out.trans (((Below.refl _ _).drew.alloc (Nat.le_refl _) _).mono HBB.out.size)⟩
set_option maxHeartbeats 16000000 in
theorem sync_i (base g:Nat) (v:Value) (os:List OpT) (at_ nm lf wd:Int) (w:World) (h:Wrt w base g v os at_ nm lf wd) (hb:base<=w.heap.size) (hl:os.length<=1000) :
  Calls Tryz.prog 119 #[.pointer (some ⟨g,0,none⟩)] w fun e w'=>(∃ x,e=.returned x)/\(∃ v',Wrt w' base g v' (os++[(true,0,ByteArray.empty)]) at_ nm lf wd)/\Below base w w':=by
 obtain ⟨i0,hi0,hz0,hz1,hz2⟩:=info_partsP info_opW
 have HI:=hid (And.intro hi0 (And.intro hz0 (And.intro hz1 hz2)))
 clear hi0 hz0 hz1 hz2
 obtain ⟨va,vc,rfl⟩:∃ va vc,v=Value.slice va os.length vc:=by
  rcases owns_forms h.own with ⟨e1,e2⟩ | ⟨g,cap,e1,_⟩
  ·exact ⟨none,0,by rw [e1,e2]⟩
  ·exact ⟨_,cap,e1⟩
 have q0:=h.row.cell 0 _ rfl
 have r0:=h.row.froz 0 (by simp)
 have lg:=h.row.lt
 have HOA:=hid (h.own.alloc (.cells #[.bool true,.int .i64 0,.string ⟨#[]⟩] 100))
 go_enter Tryz.func119,Tryz.ntmps119
 go_wp2_with (at_builtin;refine wpList_append_lies _ rfl _ _ 62 rfl base 100 i0 (.agg #[.bool false,.int .i64 0,.string ByteArray.empty]) 3 32 Tryz.underlying62 HI.out.1 HI.out.2.1 HI.out.2.2.1 HI.out.2.2.2 rfl (by omega) _ os.length _ rfl HOA.out ⟨w.heap.size,0,none⟩ 1 1 [.bool true,.int .i64 0,.string ⟨#[]⟩] rfl rfl (World.news_of_block (heap_alloc_new w _)) (oneOp _ _ _) (by omega) (by unfold maxLen;omega) (by omega) (by simp;omega) (w.heap.size+1) (by simp) ?_;intro g9 cap9 w9 hown9 hgrow9 hat9 hlt9;have HR9:=hid ((h.row.alloc _).grown hgrow9 (fun e=>h.ne e.symm));have q9:=HR9.out.cell 0 _ rfl;have r9:=HR9.out.froz 0 (by simp);have HO9:=hid hown9;have HB9:=hid (below_grownS ((Below.refl base w).alloc hb _) HOA.out hgrow9 (by simp;omega));have hne9:g9≠g:=(by rcases hat9 with e | e;exact fun e2=>h.ne (by rw [<-e2];exact e);omega);have HN9:=hid hne9;clear hown9 hgrow9 hat9 hne9)
 go_end0
 have hrow:=HR9.out.set 0 (by simp) (.slice (some ⟨g9,0,none⟩) (os.length+1) cap9)
 refine ⟨⟨_,rfl⟩,⟨.slice (some ⟨g9,0,none⟩) (os.length+1) cap9,hrow,?_,h.ge,by simp [Value.ownBlock];exact HN9.out⟩,HB9.out.setCell (p:=⟨g,0,none⟩) h.ge _⟩
 have hgs:w9.grownBy (w9.setCell ⟨g,0,none⟩ (.slice (some ⟨g9,0,none⟩) (os.length+1) cap9)) (some g):=⟨rfl,rfl,rfl,by simp [World.setCell],fun k _ hk=>Below.heap_setCell _ _ _ k (fun e=>hk (by rw [e]))⟩
 have:=HO9.out.kept hgs (.inr (by simp [Value.ownBlock];exact HN9.out))
 rw [List.length_append,opcells_append]
 exact this
theorem Wrt.set {w:World} {base g:Nat} {v:Value} {os:List OpT} {at_ nm lf wd:Int} (h:Wrt w base g v os at_ nm lf wd) (b o:Nat) (hb:b<base) (u:Value):Wrt (w.setCell ⟨b,o,none⟩ u) base g v os at_ nm lf wd:=by
 have hgs:w.grownBy (w.setCell ⟨b,o,none⟩ u) (some b):=⟨rfl,rfl,rfl,by simp [World.setCell],fun k _ hk=>Below.heap_setCell _ _ _ k (fun e=>hk (by rw [e]))⟩
 refine ⟨h.row.other _ (by show b≠g;have:=h.ge;omega) _,h.own.kept hgs ?_,h.ge,h.ne⟩
 cases hk:v.ownBlock with
 | none=>exact .inl rfl
 | some k =>
  refine .inr fun e=>?_
  cases e
  have:=(h.own.lt b hk).1
  omega
theorem wrt_push {W w w9:World} {base g g9 cap9:Nat} {va:Option Addr} {vc:Nat} {os:List OpT} {x:OpT} {at_ nm lf wd:Int} {o:Obj} (h:Wrt w base g (.slice va os.length vc) os at_ nm lf wd) (hb:base<=w.heap.size) (hB:Below base W w)
  (hown:w9.ownsRow base 100 3 (.slice (some ⟨g9,0,none⟩) (os.length+1) cap9) (os.length+1) (opcells os++[.bool x.1,.int .i64 x.2.1,.string x.2.2])) (hg:(w.alloc o).grownBy w9 (Value.slice va os.length vc).ownBlock)
  (hat:(Value.slice va os.length vc).ownBlock=some g9\/g9=w.heap.size+1) :
  Row w9 g [.slice va os.length vc,.int .i64 at_,.int .i64 nm,.int .i64 lf,.int .i64 wd]/\Wrt (w9.setCell ⟨g,0,none⟩ (.slice (some ⟨g9,0,none⟩) (os.length+1) cap9)) base g (.slice (some ⟨g9,0,none⟩) (os.length+1) cap9) (os++[x]) at_ nm lf wd/\Below base W w9/\Below base W (w9.setCell ⟨g,0,none⟩ (.slice (some ⟨g9,0,none⟩) (os.length+1) cap9)):=by
 have hr:=(h.row.alloc o).grown hg (fun e=>h.ne e.symm)
 have lg:=h.row.lt
 have hne9:g9≠g:=by
  rcases hat with e | e
  ·exact fun e2=>h.ne (by rw [<-e2];exact e)
  ·omega
 have hB9:=below_grownS (hB.alloc hb _) (h.own.alloc o) hg (by simp;omega)
 have hrow:=hr.set 0 (by simp) (.slice (some ⟨g9,0,none⟩) (os.length+1) cap9)
 refine ⟨hr,⟨hrow,?_,h.ge,by simp [Value.ownBlock];exact hne9⟩,hB9,hB9.setCell (p:=⟨g,0,none⟩) h.ge _⟩
 have hgs:w9.grownBy (w9.setCell ⟨g,0,none⟩ (.slice (some ⟨g9,0,none⟩) (os.length+1) cap9)) (some g):=⟨rfl,rfl,rfl,by simp [World.setCell],fun k _ hk=>Below.heap_setCell _ _ _ k (fun e=>hk (by rw [e]))⟩
 have:=hown.kept hgs (.inr (by simp [Value.ownBlock];exact hne9))
 obtain ⟨b,n,s⟩:=x
 rw [List.length_append,opcells_append]
 exact this
theorem Wrt.sl {w:World} {base g:Nat} {v:Value} {os:List OpT} {at_ nm lf wd:Int} (h:Wrt w base g v os at_ nm lf wd):∃ va vc,v=Value.slice va os.length vc:=by
 rcases owns_forms h.own with ⟨e1,e2⟩ | ⟨g,cap,e1,_⟩
 ·exact ⟨none,0,by rw [e1,e2]⟩
 ·exact ⟨_,cap,e1⟩
theorem Wrt.count {w:World} {base g:Nat} {v:Value} {os:List OpT} {at_ nm lf wd:Int} {x y:Int} (h:Wrt w base g v os at_ nm lf wd):Wrt ((w.setCell ⟨g,1,none⟩ (.int .i64 x)).setCell ⟨g,2,none⟩ (.int .i64 y)) base g v os x y lf wd:=by
 refine ⟨(h.row.set 1 (by simp) (.int .i64 x)).set 2 (by simp) (.int .i64 y),?_,h.ge,h.ne⟩
 have hgs:w.grownBy ((w.setCell ⟨g,1,none⟩ (.int .i64 x)).setCell ⟨g,2,none⟩ (.int .i64 y)) (some g):=⟨rfl,rfl,rfl,by simp [World.setCell],fun k _ hk=>(Below.heap_setCell _ _ _ k (fun e=>hk (by rw [e]))).trans (Below.heap_setCell _ _ _ k (fun e=>hk (by rw [e])))⟩
 exact h.own.kept hgs (.inr h.ne)
structure WK (g:Nat) (w:World) (v:Value) (w':World) (v':Value):Prop where
 size:w.heap.size<=w'.heap.size
 own:∀ k,v'.ownBlock=some k->v.ownBlock=some k\/w.heap.size<=k
 blk:∀ b,b<w.heap.size->b≠g->some b≠v.ownBlock->w'.heap[b]?=w.heap[b]?
theorem WK.start (g:Nat) (w:World) (v:Value):WK g w v w v:=⟨Nat.le_refl _,fun _ h=>.inl h,fun _ _ _ _=>rfl⟩
theorem WK.trans {g:Nat} {w w1 w2:World} {v v1 v2:Value} (h:WK g w v w1 v1) (k:WK g w1 v1 w2 v2):WK g w v w2 v2 :=
 ⟨Nat.le_trans h.size k.size,fun j hj=>(k.own j hj).elim (h.own j) (fun e=>.inr (Nat.le_trans h.size e)),fun b hb h1 h2=>(k.blk b (Nat.lt_of_lt_of_le hb h.size) h1 (fun e=>(h.own b e.symm).elim (fun e=>h2 e.symm) (fun e=>by omega))).trans (h.blk b hb h1 h2)⟩
theorem WK.below {g:Nat} {w w1 w2:World} {v v1:Value} (h:WK g w v w1 v1) (k:Below w1.heap.size w1 w2):WK g w v w2 v1:=h.trans ⟨k.size,fun _ h=>.inl h,fun b hb _ _=>k.block b hb⟩
theorem Row.wk {w w':World} {k g:Nat} {v v':Value} {cs:List Value} (h:Row w k cs) (hk:WK g w v w' v') (h1:k≠g) (h2:some k≠v.ownBlock):Row w' k cs:=by
 have e:=hk.blk k h.lt h1 h2
 refine ⟨Nat.lt_of_lt_of_le h.lt hk.size,fun i v hv=>(?_:w'.cell? ⟨k,i,none⟩=some v),fun i hi=>?_⟩
 ·rw [<-h.cell i v hv];simp [World.cell?,e]
 ·rw [<-h.froz i hi];simp [World.frozen?,e]
theorem push_blocks {w w9:World} {g:Nat} {r:Option Nat} {o:Obj} {u x y:Value} (hg:(w.alloc o).grownBy w9 r):∀ b,b<w.heap.size->b≠g->some b≠r->(((w9.setCell ⟨g,0,none⟩ u).setCell ⟨g,1,none⟩ x).setCell ⟨g,2,none⟩ y).heap[b]?=w.heap[b]?:=fun b hb h1 h2=>by
 rw [Below.heap_setCell _ _ _ b (fun e=>h1 (by rw [e])),Below.heap_setCell _ _ _ b (fun e=>h1 (by rw [e])),Below.heap_setCell _ _ _ b (fun e=>h1 (by rw [e])),hg.block b (by simp;omega) h2]
 exact ((Below.refl w.heap.size w).alloc (Nat.le_refl _) o).block b hb
set_option maxHeartbeats 16000000 in
theorem page_i2 (base g:Nat) (v:Value) (os:List OpT) (at_ nm lf wd:Int) (form:ByteArray) (w:World) (h:Wrt w base g v os at_ nm lf wd) (hb:base<=w.heap.size) (hl:os.length<=1000) (ha0:0<=at_) (ha1:at_<=100000) (hn0:0<=nm) (hn1:nm<=2000000000) :
  Calls Tryz.prog 150 #[.pointer (some ⟨g,0,none⟩),.string form] w fun e w'=>(∃ x,e=.returned x)/\∃ v',Wrt w' base g v' (os++[(false,at_,form)]) (at_+1) (nm+1) lf wd/\Below base w w'/\WK g w v w' v':=by
 obtain ⟨i0,hi0,hz0,hz1,hz2⟩:=info_partsP info_opW
 have HI:=hid (And.intro hi0 (And.intro hz0 (And.intro hz1 hz2)))
 clear hi0 hz0 hz1 hz2
 obtain ⟨va,vc,rfl⟩:=h.sl
 have q0:w.drew.cell? ⟨g,0,none⟩=some (.slice va os.length vc):=h.row.drew.cell 0 _ rfl
 have qa:(w.drew.alloc (.cells #[.bool false,.int .i64 at_,.string form] 100)).cell? ⟨g,0,none⟩=some (.slice va os.length vc):=(h.row.drew.alloc _).cell 0 _ rfl
 have q00:w.cell? ⟨g,0,none⟩=some (.slice va os.length vc):=h.row.cell 0 _ rfl
 have lg:=h.row.lt
 have HW:=hid h
 have HOA:=hid (owns_below h.own ((Below.refl _ _).drew.alloc (Nat.le_refl _) (.cells #[.bool false,.int .i64 at_,.string form] 100)))
 have HSA:Hid ((w.drew.alloc (.cells #[.bool false,.int .i64 at_,.string form] 100)).cell? ⟨g,1,none⟩=some (.int .i64 at_)/\g<(w.drew.alloc (.cells #[.bool false,.int .i64 at_,.string form] 100)).heap.size):=⟨(h.row.drew.alloc _).cell 1 _ rfl,(h.row.drew.alloc _).lt⟩
 go_enter Tryz.func150,Tryz.ntmps150
 go_wp2_with fail
 refine wp_region_held_drew (S:=fun w'=>w'.cell? ⟨g,1,none⟩=some (.int .i64 at_)/\g<w'.heap.size) (by kernel_rfl) (⟨h.row.drew.cell 1 _ rfl,h.row.drew.lt⟩) (fun hHeld=>?_)
 refine TY (i:=0) (v:=.pointer (some ⟨g,0,none⟩)) rfl hHeld ?_
 simp only [PS]
 refine TY (i:=1) (v:=.pointer (some ⟨g,0,none⟩)) rfl hHeld ?_
 simp only [PS]
 refine TY (i:=2) (v:=.pointer (some ⟨g,0,none⟩)) rfl hHeld ?_
 simp only [PS]
 refine TY (i:=3) (v:=.pointer (some ⟨g,0,none⟩)) rfl hHeld ?_
 simp only [PS]
 refine TY (i:=5) (v:=.pointer (some ⟨g,0,none⟩)) rfl hHeld ?_
 simp only [PS]
 refine TY (i:=6) (v:=.pointer (some ⟨g,0,none⟩)) rfl hHeld ?_
 simp only [PS]
 refine TY (i:=7) (v:=.pointer (some ⟨g,1,none⟩)) rfl hHeld ?_
 simp only [PS]
 refine TY (i:=8) (v:=.int .i64 at_) rfl hHeld ?_
 simp only [PS]
 refine TY (i:=9) (v:=.string form) rfl hHeld ?_
 simp only [PS]
 refine TY (i:=10) (v:=.agg #[.bool false,.int .i64 at_,.string form]) rfl hHeld ?_
 simp only [PS]
 refine wpAnyH_ready (rs:=[4,11]) (by kernel_rfl) (by simp) ?_
 refine AllReadyH.cons rfl (fun K hK=>?_) (AllReadyH.cons rfl (fun K hK=>?_) AllReadyH.nil)
 ·go_simp
  refine hK.out _ _ hHeld (fun _=>?_)
  clear hK K
  try simp only [PS]
  refine RD (i:=11) rfl (fun K hK=>?_)
  go_simp
  refine hK.out _ _ (HSA.out) (fun hHd2=>?_)
  clear hK K
  try simp only [PS]
  refine RD (i:=12) rfl (fun K hK=>?_)
  refine step_append_lies _ (by rfl) _ _ _ (by rfl) base 100 i0 (.agg #[.bool false,.int .i64 0,.string ByteArray.empty]) 3 32 Tryz.underlying62 HI.out.1 HI.out.2.1 HI.out.2.2.1 HI.out.2.2.2 rfl (by omega) (.slice va os.length vc) os.length _ (by rfl) HOA.out ⟨w.heap.size,0,none⟩ 1 1 [.bool false,.int .i64 at_,.string form] (by rfl) rfl (World.news_of_block (heap_alloc_new w.drew _)) (oneOp _ _ _) (by omega) (by unfold maxLen;omega) (by omega) (by simp<;>omega) (w.heap.size+1) (by simp) ?_
  intro g9 cap9 w9 hown9 hgrow9 hat9 hlt9
  have hend:=wrt_push (x:=(false,at_,form)) HW.out hb (Below.refl _ _) hown9 (undrew' hgrow9) hat9
  have HEND:=hid hend
  have q9:=hend.1.cell 0 _ rfl
  have q91:=hend.1.cell 1 _ rfl
  have r9:=hend.1.froz 0 (by simp)
  have lg9:=hend.1.lt
  have HGR:=hid (undrew' hgrow9)
  have HAT:=hid hat9
  clear hown9 hgrow9 hat9 hend
  refine hK.out _ _ (⟨q91,lg9⟩) (fun hHd3=>?_)
  clear hK K
  try simp only [PS]
  refine TY (i:=13) (v:=.pointer (some ⟨g,0,none⟩)) rfl hHd3 ?_
  simp only [PS]
  refine TY (i:=14) (v:=.pointer (some ⟨g,0,none⟩)) rfl hHd3 ?_
  simp only [PS]
  refine RD (i:=15) rfl (fun K hK=>?_)
  go_simp
  refine hK.out _ _ (⟨by go_simp,by simpa [World.setCell] using lg9⟩) (fun hHd4=>?_)
  clear hK K
  try simp only [PS]
  refine wpAnyH_done (by kernel_rfl) ?_ _
  have h1:=HEND.out.2.1.row.cell 1 _ rfl
  have h2:=HEND.out.2.1.row.cell 2 _ rfl
  have f1:=HEND.out.2.1.row.froz 1 (by simp)
  have f2:=HEND.out.2.1.row.froz 2 (by simp)
  have hl0:=HEND.out.2.1.row.lt
  clear q9 q91 r9 lg9
  have HPB:=hid (fun x y=>push_blocks (g:=g) (u:=.slice (some ⟨g9,0,none⟩) (os.length+1) cap9) (x:=x) (y:=y) HGR.out)
  obtain ⟨w8,hw8⟩:∃ w8,w8=w9.setCell ⟨g,0,none⟩ (.slice (some ⟨g9,0,none⟩) (os.length+1) cap9):=⟨_,rfl⟩
  rw [<-hw8] at h1 h2 f1 f2 HEND HPB hl0 ⊢
  clear hw8
  go_wp2
  go_end0
  refine ⟨⟨_,rfl⟩,.slice (some ⟨g9,0,none⟩) (os.length+1) cap9,HEND.out.2.1.count,(HEND.out.2.2.2.setCell (p:=⟨g,1,none⟩) h.ge _).setCell (p:=⟨g,2,none⟩) h.ge _,((HEND.out.2.2.2.setCell (p:=⟨g,1,none⟩) h.ge _).setCell (p:=⟨g,2,none⟩) h.ge _).size,fun k hk=>?_,HPB.out _ _⟩
  have:k=g9:=by simp [Value.ownBlock] at hk;exact hk.symm
  subst this
  rcases HAT.out with h1 | h1
  ·exact .inl h1
  ·right;omega
 ·go_simp
  refine hK.out _ _ (HSA.out) (fun hHd5=>?_)
  clear hK K
  try simp only [PS]
  refine RD (i:=4) rfl (fun K hK=>?_)
  go_simp
  refine hK.out _ _ hHd5 (fun _=>?_)
  clear hK K
  try simp only [PS]
  refine RD (i:=12) rfl (fun K hK=>?_)
  refine step_append_lies _ (by rfl) _ _ _ (by rfl) base 100 i0 (.agg #[.bool false,.int .i64 0,.string ByteArray.empty]) 3 32 Tryz.underlying62 HI.out.1 HI.out.2.1 HI.out.2.2.1 HI.out.2.2.2 rfl (by omega) (.slice va os.length vc) os.length _ (by rfl) HOA.out ⟨w.heap.size,0,none⟩ 1 1 [.bool false,.int .i64 at_,.string form] (by rfl) rfl (World.news_of_block (heap_alloc_new w.drew _)) (oneOp _ _ _) (by omega) (by unfold maxLen;omega) (by omega) (by simp<;>omega) (w.heap.size+1) (by simp) ?_
  intro g9 cap9 w9 hown9 hgrow9 hat9 hlt9
  have hend:=wrt_push (x:=(false,at_,form)) HW.out hb (Below.refl _ _) hown9 (undrew' hgrow9) hat9
  have HEND:=hid hend
  have q9:=hend.1.cell 0 _ rfl
  have q91:=hend.1.cell 1 _ rfl
  have r9:=hend.1.froz 0 (by simp)
  have lg9:=hend.1.lt
  have HGR:=hid (undrew' hgrow9)
  have HAT:=hid hat9
  clear hown9 hgrow9 hat9 hend
  refine hK.out _ _ (⟨q91,lg9⟩) (fun hHd7=>?_)
  clear hK K
  try simp only [PS]
  refine TY (i:=13) (v:=.pointer (some ⟨g,0,none⟩)) rfl hHd7 ?_
  simp only [PS]
  refine TY (i:=14) (v:=.pointer (some ⟨g,0,none⟩)) rfl hHd7 ?_
  simp only [PS]
  refine RD (i:=15) rfl (fun K hK=>?_)
  go_simp
  refine hK.out _ _ (⟨by go_simp,by simpa [World.setCell] using lg9⟩) (fun hHd8=>?_)
  clear hK K
  try simp only [PS]
  refine wpAnyH_done (by kernel_rfl) ?_ _
  have h1:=HEND.out.2.1.row.cell 1 _ rfl
  have h2:=HEND.out.2.1.row.cell 2 _ rfl
  have f1:=HEND.out.2.1.row.froz 1 (by simp)
  have f2:=HEND.out.2.1.row.froz 2 (by simp)
  have hl0:=HEND.out.2.1.row.lt
  clear q9 q91 r9 lg9
  have HPB:=hid (fun x y=>push_blocks (g:=g) (u:=.slice (some ⟨g9,0,none⟩) (os.length+1) cap9) (x:=x) (y:=y) HGR.out)
  obtain ⟨w8,hw8⟩:∃ w8,w8=w9.setCell ⟨g,0,none⟩ (.slice (some ⟨g9,0,none⟩) (os.length+1) cap9):=⟨_,rfl⟩
  rw [<-hw8] at h1 h2 f1 f2 HEND HPB hl0 ⊢
  clear hw8
  go_wp2
  go_end0
  refine ⟨⟨_,rfl⟩,.slice (some ⟨g9,0,none⟩) (os.length+1) cap9,HEND.out.2.1.count,(HEND.out.2.2.2.setCell (p:=⟨g,1,none⟩) h.ge _).setCell (p:=⟨g,2,none⟩) h.ge _,((HEND.out.2.2.2.setCell (p:=⟨g,1,none⟩) h.ge _).setCell (p:=⟨g,2,none⟩) h.ge _).size,fun k hk=>?_,HPB.out _ _⟩
  have:k=g9:=by simp [Value.ownBlock] at hk;exact hk.symm
  subst this
  rcases HAT.out with h1 | h1
  ·exact .inl h1
  ·right;omega
end Go.Proofs.YtcoegjnjjdndjaaGreatDoor
