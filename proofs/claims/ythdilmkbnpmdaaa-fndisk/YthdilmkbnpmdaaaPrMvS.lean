import Derived.Test.YthdilmkbnpmdaaaPrG42
set_option maxHeartbeats 16000000
namespace Go.Proofs.Ythdilmkbnpmdaaa
open Go.RowKit
set_option linter.unusedVariables false
set_option linter.unusedSimpArgs false
set_option maxRecDepth 8000
theorem info_opS:(Try.prog.info? 34).map (fun i=>(i.zero,i.size,i.bytes))=some (some (.agg #[.bool false,.int .i64 0,.string ByteArray.empty]),3,32):=by kernel_rfl
theorem oneOp3 (b1 b2 b3:Bool) (n1 n2 n3:Int) (s1 s2 s3:ByteArray):∀ u∈[Value.bool b1,.int .i64 n1,.string s1,.bool b2,.int .i64 n2,.string s2,.bool b3,.int .i64 n3,.string s3],u.oneCell'=true:=by
 intro u hu
 simp only [List.mem_cons,List.not_mem_nil,or_false] at hu
 rcases hu with rfl | rfl | rfl | rfl | rfl | rfl | rfl | rfl | rfl<;>rfl
theorem base_s (n h:Int) (h0:0<=h) (h1:h<=1) (w:World):Calls Try.prog 59 #[.int .i64 n,.int .i64 h] w fun e w'=>e=.returned (.int .i64 (2+h*hv n))/\w'=w:=by
 have hQ:0<=hv n/\hv n<=99:=by by_cases h:8<=n/\n<=200;have:=hv_yes h;omega;rw [hv_no h];omega
 obtain ⟨Q,HQ⟩:∃ Q,Hid (Q=hv n):=⟨_,hid rfl⟩
 rw [<-HQ.out] at hQ ⊢
 obtain ⟨q,hq⟩:∃ q,q=h*Q:=⟨_,rfl⟩
 have hqb:0<=q/\q<=99:=by
  rcases (show h=0\/h=1 by omega) with e | e
  ·subst e;omega
  ·subst e;omega
 have hw1:IntKind.i64.wrap (h*Q)=q:=by rw [<-hq];simp [IntKind.wrap,IntKind.bits,IntKind.signed];omega
 have hw2:IntKind.i64.wrap (2+q)=2+q:=by simp [IntKind.wrap,IntKind.bits,IntKind.signed];omega
 rw [<-hq]
 clear hq
 go_enter Try.func59,Try.ntmps59
 go_wp2_with (go_at_call 54;refine (halves_s _ _).mono ?_;rw [<-HQ.out];rintro e wz ⟨rfl,hwz⟩;rw [hwz];clear hwz wz)
 go_ret
 exact ⟨rfl,rfl⟩
theorem put_s (n:Int) (d:ByteArray) (w:World):Calls Try.prog 58 #[.int .i64 n,.string d] w fun e w'=>e=.returned (.agg #[.bool false,.int .i64 n,.string d])/\Below w.heap.size w w':=by
 go_enter Try.func58,Try.ntmps58
 go_wp2
 refine bodyPost_ret (v:=.agg #[.bool false,.int .i64 n,.string d]) (by simp [results,Try.results58,go_sem]) rfl ⟨rfl,(Below.refl _ _).alloc (Nat.le_refl _) _⟩
theorem move_s_ok (S L T H F R U O:Int) (n m:Nat) (a:Option Addr) (rs:List Pr) (c:Nat) (w:World) (h:Prs w a rs) (hl:rs.length<=1048576) (hs:∀ x∈rs,x.1.size<=1048576/\x.2.size<=1048576) (hm:n+m=56) (hn1:1<=n) (hn8:n<=8) (hok:mvOk (n:Int) S L T H F rs) (hfit:T+1<=1000000000/\F+hv S<=999999000) :
  Calls Try.prog 80 #[storeV (n:Int) S L T H F R U O a rs.length c] w fun x w'=>DnPost w w' x (mvD (n:Int) S L T H F rs):=by
 obtain ⟨i0,hi0,hz0,hz1,hz2⟩:=info_partsP info_opS
 have HI:=hid (And.intro hi0 (And.intro hz0 (And.intro hz1 hz2)))
 clear hi0 hz0 hz1 hz2
 obtain ⟨hW,hS,hL,hT,hH,hF,hroom⟩:=hok
 have hQ:=hv_yes hS
 have HH:=hid (fun w'=>halves_s S w')
 have HB:=hid (fun w'=>base_s S (1-H) (by omega) (by omega) w')
 unfold mvD storeV
 have e1:(n:Int).toNat=n:=by omega
 have e2:56-n=m:=by omega
 rw [e1,e2]
 obtain ⟨Q,HQ⟩:∃ Q,Hid (Q=hv S):=⟨_,hid rfl⟩
 rw [<-HQ.out] at hQ HH HB hroom hfit ⊢
 obtain ⟨q,hq⟩:∃ q,q=2+(1-H)*Q:=⟨_,rfl⟩
 have hqb:2<=q/\q<=101:=by
  rcases (show H=0\/H=1 by omega) with e | e
  ·subst e;omega
  ·subst e;omega
 rw [<-hq] at HB ⊢
 clear hq e1 e2
 obtain ⟨hf1,hf2⟩:=hfit
 obtain ⟨bss,hbss⟩:∃ bss,bss=snapOf rs:=⟨_,rfl⟩
 have hbl:=snapOf_len rs
 have HMB:Hid (∀ b∈bss,b.length<=1048576/\∀ x∈b,x.1.size<=1048576/\x.2.1.size<=1048576):=by
  intro b hb
  rw [hbss] at hb
  obtain ⟨h1,h2⟩:=snapOf_mem hb
  exact ⟨by omega,fun x hx=>hs _ (h2 x hx)⟩
 have HSN:=hid (fun w' h'=>snap_s a rs c w' h' hl hs)
 have HLEN:=hid (fun k=>mvPages_len L (F+Q) n m hm hn1 hn8 (bss.take k))
 have HROOM:Hid (∀ k,roomOf (bss.take k) (n:Int)<=Q-1):=fun k=>by
  have:=room_take bss k (n:Int)
  rw [<-hbss] at hroom
  omega
 rw [<-hbss] at hbl HSN ⊢
 clear hbss hroom
 obtain ⟨rp,hrp⟩:∃ rp,rp=rtForm (T+1) (1-H) (F+Q) L (n:Int):=⟨_,rfl⟩
 have HRP:=hid (fun w'=>rootpage_s_any (T+1) (1-H) (F+Q) L (n:Int) w')
 rw [<-hrp] at HRP ⊢
 clear hrp
 obtain ⟨p0,hp0⟩:∃ p0,p0=formOf 3 L (F+Q) ByteArray.empty (n:Int):=⟨_,rfl⟩
 have HFP:=hid (fun w'=>form_s_any 3 L (F+Q) ByteArray.empty (n:Int) w' (by simp))
 rw [<-hp0] at HFP
 have HP0:=hid hp0
 clear hp0
 obtain ⟨wb,HWB⟩:∃ wb,wb=((w.alloc (.cells #[.int .i64 (n:Int),.int .i64 S,.int .i64 L,.int .i64 T,.int .i64 H,.int .i64 F,.int .i64 R,.int .i64 U,.int .i64 O,.slice a rs.length c] 79)).alloc (.cells #[.int .i64 0,.int .i64 0,.int .i64 0,.int .i64 0,.int .i64 0,.int .i64 0,.int .i64 0,.int .i64 0,.int .i64 0,.int .i64 0,.slice none 0 0,.slice none 0 0] 103)).alloc (.cells #[.int .i64 (T+1),.int .i64 (1-H),.int .i64 (F+Q),.int .i64 L] 74):=⟨_,rfl⟩
 have hwbs:wb.heap.size=w.heap.size+1+1+1:=by rw [HWB];simp
 have HBB:Hid (Below w.heap.size w wb):=by show Below _ _ _;rw [HWB];exact (((Below.refl _ _).alloc (Nat.le_refl _) _).alloc (by simp) _).alloc (by simp<;>omega) _
 have HRW:Hid (∀ w',Below (w.heap.size+1+1+1) wb w'->Row w' (w.heap.size) [.int .i64 (n:Int),.int .i64 S,.int .i64 L,.int .i64 T,.int .i64 H,.int .i64 F,.int .i64 R,.int .i64 U,.int .i64 O,.slice a rs.length c]/\Row w' (w.heap.size+1) [.int .i64 0,.int .i64 0,.int .i64 0,.int .i64 0,.int .i64 0,.int .i64 0,.int .i64 0,.int .i64 0,.int .i64 0,.int .i64 0,.slice none 0 0,.slice none 0 0]/\Row w' (w.heap.size+1+1) [.int .i64 (T+1),.int .i64 (1-H),.int .i64 (F+Q),.int .i64 L]):=fun w' hb=>by
  have hb':Below wb.heap.size wb w':=by rw [hwbs];exact hb
  have r0:Row wb (w.heap.size) [.int .i64 (n:Int),.int .i64 S,.int .i64 L,.int .i64 T,.int .i64 H,.int .i64 F,.int .i64 R,.int .i64 U,.int .i64 O,.slice a rs.length c]:=by rw [HWB];exact ((row_new w _ _).alloc _).alloc _
  have r1:Row wb (w.heap.size+1) [.int .i64 0,.int .i64 0,.int .i64 0,.int .i64 0,.int .i64 0,.int .i64 0,.int .i64 0,.int .i64 0,.int .i64 0,.int .i64 0,.slice none 0 0,.slice none 0 0]:=by rw [HWB];exact (row_at (w:=w.alloc _) (by simp)).alloc _
  have r2:Row wb (w.heap.size+1+1) [.int .i64 (T+1),.int .i64 (1-H),.int .i64 (F+Q),.int .i64 L]:=by rw [HWB];exact row_at (w:=(w.alloc _).alloc _) (by simp)
  exact ⟨r0.below hb',r1.below hb',r2.below hb'⟩
 go_enter Try.func80,Try.ntmps80
 go_wp2_with (first | (go_at_call 54;refine (HH.out _).mono ?_;rintro e wz ⟨rfl,hwz⟩;rw [hwz];clear hwz wz) | (go_at_call 59;refine (HB.out _).mono ?_;rintro e wz ⟨rfl,hwz⟩;rw [hwz];clear hwz wz))
 rw [<-HWB]
 clear HWB
 refine (HFP.out _).mono ?_
 rintro e w1 ⟨rfl,hb1⟩
 go_wp2_with fail
 refine (put_s _ _ _).mono ?_
 rintro e w2 ⟨rfl,hb2⟩
 have hb2':Below (w.heap.size+1+1+1) wb w2:=by rw [<-hwbs];exact hb1.trans (hb2.mono hb1.size)
 have hs2:w.heap.size+1+1+1<=w2.heap.size:=by have:=hb2'.size;omega
 clear hb1 hb2 HFP HH HB
 have hs2a:w.heap.size<w2.heap.size:=by omega
 obtain ⟨hR0,_,_⟩:=HRW.out _ hb2'
 have q9:=hR0.cell 9 _ rfl
 clear hR0
 go_wp2_with fail
 clear q9
 have hbx:Below (w.heap.size+1+1+1) wb (w2.alloc (.cells #[.bool false,.int .i64 q,.string p0] 34)):=hb2'.alloc hs2 _
 refine (HSN.out _ (h.below (HBB.out.trans (hbx.mono (by omega))))).mono ?_
 rintro e w3 ⟨v,rfl,hbat,hb3⟩
 have hown3:w3.ownsRow (w.heap.size+1+1+1) 34 3 (.slice (some ⟨w2.heap.size,0,none⟩) 1 1) 1 (opcells (putOps q (mvPages L (F+Q) n m (bss.take 0)))):=by
  have h0:=World.ownsRow_lit w2 (base:=w.heap.size+1+1+1) (e:=34) (size:=3) #[.bool false,.int .i64 q,.string p0] 1 hs2 (by unfold maxLen;omega) (by simp)
  rw [List.take_zero,mvPages_nil,<-HP0.out]
  have e0:opcells (putOps q [p0])=[.bool false,.int .i64 q,.string p0]:=by simp [putOps,opcells]
  rw [e0]
  exact owns_below h0 hb3
 have hG0:=Grow.start hown3
 have hl0:(mvPages L (F+Q) n m (bss.take 0)).length=1:=by rw [List.take_zero,mvPages_nil];rfl
 have hs3:w2.heap.size<w3.heap.size:=by have:=hb3.size;simp at this;omega
 have hb3':Below (w.heap.size+1+1+1) wb w3:=hbx.trans (hb3.mono (by simp;omega))
 have HBA:Hid (Bat w3 (w2.heap.size+1) v bss):=hbat.mono (by simp)
 obtain ⟨va,vc,rfl,_⟩:=hbat.bts
 clear hbat hb3 hbx hb2' hown3 HSN
 have HB3:=hid hb3'
 have HG0:=hid hG0
 clear hb3' hG0
 go_wp2_with fail
 go_loopw [6,8,9] (fun y u i wr=>∃ k:Nat,k<=bss.length/\i=.int .i64 (k:Int)/\u=.int .i64 ((mvPages L (F+Q) n m (bss.take k)).length:Int)/\Grow w3 wr (some w2.heap.size) (w.heap.size+1+1+1) 34 3 y (mvPages L (F+Q) n m (bss.take k)).length (opcells (putOps q (mvPages L (F+Q) n m (bss.take k))))) (fun _ _ i _=>bss.length-(intOf i).toNat)
 case atStart=>exact ⟨0,Nat.zero_le _,rfl,by rw [hl0];rfl,by rw [hl0];exact HG0.out⟩
 case round =>
  obtain ⟨k,hk,rfl,rfl,hgr⟩:=hrel
  have hbw:Below (w.heap.size+1+1+1) wb wr:=HB3.out.trans (below_of_grown hgr.gb (by omega) (fun k hk=>by cases hk;omega))
  have hsr:w.heap.size+1+1+1<=wr.heap.size:=by have:=hbw.size;omega
  have hN:((mvPages L (F+Q) n m (bss.take k)).length:Int)<=99:=by have h1:=HLEN.out k;have h2:=HROOM.out k;omega
  obtain ⟨acc,hacc⟩:∃ acc,acc=mvPages L (F+Q) n m (bss.take k):=⟨_,rfl⟩
  rw [<-hacc] at hgr hN ⊢
  obtain ⟨ya,yc,rfl⟩:∃ ya yc,u6=Value.slice ya acc.length yc:=by
   rcases owns_forms hgr.own with ⟨e1,e2⟩ | ⟨g,cap,e1,_⟩
   ·exact ⟨none,0,by rw [e1,e2]⟩
   ·exact ⟨_,cap,e1⟩
  obtain ⟨hR0,hR1,hR2⟩:=HRW.out _ hbw
  by_cases hlt:k<bss.length
  ·have hba:=HBA.out.kept hgr.gb (fun k hk=>by cases hk;left;omega)
   obtain ⟨va',vc',ev,hbt⟩:=hba.bts
   cases ev
   obtain ⟨gl,p,cc,rfl,hgl,hcl,hch⟩:=hbt.at hlt
   have hlt':(k:Int)<(bss.length:Int):=by omega
   have hk0:(0:Int)<=(k:Int):=by omega
   have hmem:=HMB.out (bss.getD k []) (by simp [List.getD,hlt])
   have hN1:((mvPages L (F+Q) n m (bss.take (k+1))).length:Int)<=99:=by have h1:=HLEN.out (k+1);have h2:=HROOM.out (k+1);omega
   have hst:mvPages L (F+Q) n m (bss.take (k+1))=acc++cutAll (bOut (bss.getD k [])) L (F+Q+(acc.length:Int)) n m:=by rw [takeR_snoc bss k [] hlt,mvPages_snoc,<-hacc]
   have hO:=bOut_bound (bss.getD k [])
   obtain ⟨b,hb⟩:∃ b,b=bss.getD k []:=⟨_,rfl⟩
   rw [<-hb] at hcl hch hmem hst hO
   have HF:=hid (fun W (hW:Chs W p b)=>formbatch_s p b cc W hW hmem.1 hmem.2)
   obtain ⟨bo,hbo⟩:∃ bo,bo=bOut b:=⟨_,rfl⟩
   rw [<-hbo] at HF hst hO
   have HC:=hid (fun W=>cut_s bo L (F+Q+(acc.length:Int)) n m W (by omega) hm hn1 hn8)
   obtain ⟨cut,hcut⟩:∃ cut,cut=cutAll bo L (F+Q+(acc.length:Int)) n m:=⟨_,rfl⟩
   rw [<-hcut] at HC hst
   rw [hst,List.length_append] at hN1
   have HST:=hid hst
   have HACC:=hid hacc
   have hw0:IntKind.i64.wrap (F+Q+(acc.length:Int))=F+Q+(acc.length:Int):=by simp [IntKind.wrap,IntKind.bits,IntKind.signed];omega
   have HT:Hid (∀ w',Below wr.heap.size wr w'->w'.cell? ⟨gl,k,none⟩=some (.slice p b.length cc)/\w'.cell? ⟨w.heap.size,0,none⟩=some (.int .i64 (n:Int))/\w'.cell? ⟨w.heap.size,2,none⟩=some (.int .i64 L)/\w'.cell? ⟨w.heap.size+1+1,2,none⟩=some (.int .i64 (F+Q))/\Below wr.heap.size wr w'):=fun w' hb=>⟨(hb.cell (p:=⟨gl,k,none⟩) hgl).trans hcl,(hR0.below hb).cell 0 _ rfl,(hR0.below hb).cell 2 _ rfl,(hR2.below hb).cell 2 _ rfl,hb⟩
   have HCH:=hid hch
   have HGR:=hid hgr
   have HBW:=hid hbw
   clear hb hbo hcut hst hacc hmem hch hgr hbw hR0 hR1 hR2 hba hcl hbt
   go_wp2_with fail
   refine wp_region_held_drew (S:=fun w'=>w'.cell? ⟨gl,k,none⟩=some (.slice p b.length cc)/\w'.cell? ⟨w.heap.size,0,none⟩=some (.int .i64 (n:Int))/\w'.cell? ⟨w.heap.size,2,none⟩=some (.int .i64 L)/\w'.cell? ⟨w.heap.size+1+1,2,none⟩=some (.int .i64 (F+Q))/\Below wr.heap.size wr w') (by kernel_rfl) (HT.out _ (Below.refl _ _).drew) (fun hHe=>?_)
   refine TY 0 (.slice (some ⟨gl,0,none⟩) bss.length vc) rfl hHe ?_
   simp only [PS]
   refine TY 1 (.int .i64 (k:Int)) rfl hHe ?_
   simp only [PS]
   refine TY 2 (.pointer (some ⟨gl,k,none⟩)) rfl hHe ?_
   simp only [PS]
   refine TY 3 (.slice p b.length cc) rfl hHe ?_
   simp only [PS]
   refine TY 5 (.pointer (some ⟨w.heap.size,2,none⟩)) rfl hHe ?_
   simp only [PS]
   refine TY 6 (.int .i64 L) rfl hHe ?_
   simp only [PS]
   refine TY 7 (.pointer (some ⟨w.heap.size+1+1,2,none⟩)) rfl hHe ?_
   simp only [PS]
   refine TY 8 (.int .i64 (F+Q)) rfl hHe ?_
   simp only [PS]
   refine TY 9 (.int .i64 (acc.length:Int)) rfl hHe ?_
   simp only [PS]
   refine TY 10 (.int .i64 (F+Q+(acc.length:Int))) rfl hHe ?_
   simp only [PS]
   refine TY 11 (.pointer (some ⟨w.heap.size,0,none⟩)) rfl hHe ?_
   simp only [PS]
   refine TY 12 (.int .i64 (n:Int)) rfl hHe ?_
   simp only [PS]
   refine RD 4 rfl (fun K hK=>?_)
   refine step_call (by rfl) 57 #[.slice p b.length cc] (by go_simp) (HF.out _ (HCH.out.below (Below.refl _ _).drew)) ?_
   rintro e w4 ⟨rfl,hb4⟩
   refine ⟨_,rfl,?_⟩
   have hb4':Below wr.heap.size wr w4:=(Below.refl _ _).drew.trans hb4
   refine hK.out _ _ (HT.out _ hb4') (fun hHd1=>?_)
   clear hK K
   try simp only [PS]
   refine RD 13 rfl (fun K hK=>?_)
   refine step_call (by rfl) 56 #[.string bo,.int .i64 L,.int .i64 (F+Q+(acc.length:Int)),.int .i64 (n:Int)] (by go_simp) (HC.out _) ?_
   rintro e w5 ⟨a5,c5,rfl,ho5,hf5,hb5⟩
   refine ⟨_,rfl,?_⟩
   have hb5':Below wr.heap.size wr w5:=hb4'.trans (hb5.mono hb4'.size)
   refine hK.out _ _ (HT.out _ hb5') (fun hHd2=>?_)
   clear hK K
   try simp only [PS]
   refine RD 14 rfl (fun K hK=>?_)
   go_simp
   refine hK.out _ _ hHd2 (fun _=>?_)
   clear hK K
   try simp only [PS]
   refine DN ?_
   have HB5:=hid hb5'
   have HO5:=hid ho5
   have hfr:∀ g,blk a5 cut.length=some g->wr.heap.size<=g:=fun g hg=>Nat.le_trans hb4'.size (hf5 g hg)
   have HFR:=hid hfr
   have hs5:=hb5'.size
   clear hb5' hb5 ho5 hf5 hb4' hb4 hfr HT HF HC HCH hHe hHd1 hHd2
   generalize wr=wo at *
   go_wp2_with fail
   go_loopw [6,8,11] (fun y2 u2 i2 wr=>∃ j:Nat,j<=cut.length/\i2=.int .i64 (j:Int)/\u2=.int .i64 ((acc++cut.take j).length:Int)/\Grow w5 wr (Value.slice ya acc.length yc).ownBlock (w.heap.size+1+1+1) 34 3 y2 (acc++cut.take j).length (opcells (putOps q (acc++cut.take j)))) (fun _ _ i2 _=>cut.length-(intOf i2).toNat)
   case atStart=>exact ⟨0,Nat.zero_le _,rfl,by simp,by rw [List.take_zero,List.append_nil];exact Grow.start (owns_below HGR.out.own HB5.out)⟩
   case round =>
    obtain ⟨j,hj,rfl,rfl,hgr2⟩:=hrel
    have hN2:(acc++cut.take j).length=acc.length+j:=by rw [List.length_append,List.length_take];omega
    obtain ⟨acc2,hacc2⟩:∃ acc2,acc2=acc++cut.take j:=⟨_,rfl⟩
    rw [<-hacc2] at hgr2 hN2 ⊢
    obtain ⟨y2a,y2c,rfl⟩:∃ y2a y2c,u6=Value.slice y2a acc2.length y2c:=by
     rcases owns_forms hgr2.own with ⟨e1,e2⟩ | ⟨g,cap,e1,_⟩
     ·exact ⟨none,0,by rw [e1,e2]⟩
     ·exact ⟨_,cap,e1⟩
    have hsr2:wo.heap.size<=wr.heap.size:=Nat.le_trans hs5 hgr2.gb.size
    by_cases hlt2:j<cut.length
    ·obtain ⟨g5,rfl,hrow5⟩:=HO5.out.resolve_left (by intro e;have:=congrArg List.length e;simp at this;rw [this] at hlt2;simp at hlt2)
     have hg5:wo.heap.size<=g5:=HFR.out g5 (blk_pos _ _ _ (by omega))
     have hrow:=hrow5.grown hgr2.gb (fun e=>by have:=(HGR.out.own.lt g5 e.symm).2;omega)
     have hcj:=hrow.cell j (.string (cut.getD j ByteArray.empty)) (by simp [hlt2,List.getD])
     obtain ⟨pj,hpj⟩:∃ pj,pj=cut.getD j ByteArray.empty:=⟨_,rfl⟩
     rw [<-hpj] at hcj
     have hg5l:=hrow.lt
     have hlt2':(j:Int)<(cut.length:Int):=by omega
     have hj0:(0:Int)<=(j:Int):=by omega
     have hx0:IntKind.i64.wrap (q+(acc2.length:Int))=q+(acc2.length:Int):=by simp [IntKind.wrap,IntKind.bits,IntKind.signed];omega
     have hx1:IntKind.i64.wrap ((acc2.length:Int)+1)=(acc2.length:Int)+1:=by simp [IntKind.wrap,IntKind.bits,IntKind.signed];omega
     have HG2:=hid hgr2
     have HA2:=hid hacc2
     have HPJ:=hid hpj
     have hal:acc2.length<=200:=by omega
     clear hrow hrow5 hgr2 hacc2 hpj hN2
     go_wp2_with (first | (go_at_call 58;refine (put_s _ _ _).mono ?_;rintro e w6 ⟨rfl,hb6⟩;have HOA:=hid ((owns_below HG2.out.own hb6).alloc (.cells #[.bool false,.int .i64 (q+(acc2.length:Int)),.string pj] 34));have hs6:w.heap.size+1+1+1<=w6.heap.size:=Nat.le_trans (Nat.le_trans hsr hsr2) hb6.size) | (at_builtin;refine WAL _ rfl _ _ 27 rfl (w.heap.size+1+1+1) Try.underlying27 HI.out rfl (by omega) _ acc2.length _ rfl HOA.out ⟨w6.heap.size,0,none⟩ 1 1 [.bool false,.int .i64 (q+(acc2.length:Int)),.string pj] rfl rfl (World.news_of_block (heap_alloc_new w6 _)) (oneOp _ _ _) (by simp;omega) (w6.heap.size+1) (by simp) ?_;intro g9 cap9 w9 hown9 hgrow9 hat9 hlt9;have HO9:=hid hown9;have HGW:=hid hgrow9;have HAT:=hid hat9;clear hown9 hgrow9 hat9))
     have hsn:acc++cut.take (j+1)=acc2++[pj]:=by rw [takeR_snoc cut j ByteArray.empty hlt2,<-List.append_assoc,<-HA2.out,<-HPJ.out]
     refine ⟨⟨j+1,by omega,by go_num,by rw [hsn,List.length_append];go_num,?_⟩,by simp [intOf];omega⟩
     rw [hsn,putOps_snoc,opcells_append,List.length_append]
     refine ((HG2.out.below hb6).below ((Below.refl _ _).alloc (Nat.le_refl _) _)).push (H:=w6.heap.size+1) HO9.out HGW.out ?_ (by simp)
     rcases HAT.out with h | h
     ·exact .inl h
     ·right;rw [h];rfl
    ·have hje:j=cut.length:=by omega
     subst hje
     have HG2:=hid hgr2
     have HA2:=hid hacc2
     clear hgr2 hacc2
     go_wp2_with fail
     have he:acc2=mvPages L (F+Q) n m (bss.take (k+1)):=by rw [HA2.out,HST.out,List.take_length]
     refine ⟨⟨k+1,by omega,by go_num,by rw [<-he],?_⟩,by simp [intOf];omega⟩
     rw [<-he]
     exact (HGR.out.below HB5.out).trans HG2.out
  ·have hkl:k=bss.length:=by omega
   subst hkl
   have he:acc=mvPages L (F+Q) n m bss:=by rw [hacc,List.take_length]
   clear hacc
   have HAE:=hid he
   have HGR:=hid hgr
   have HBW:=hid hbw
   have HT:Hid (∀ w',Below (w.heap.size+1+1+1) wr w'->w'.cell? ⟨w.heap.size,0,none⟩=some (.int .i64 (n:Int))/\w'.cell? ⟨w.heap.size+1+1,0,none⟩=some (.int .i64 (T+1))/\w'.cell? ⟨w.heap.size+1+1,1,none⟩=some (.int .i64 (1-H))/\w'.cell? ⟨w.heap.size+1+1,2,none⟩=some (.int .i64 (F+Q))/\w'.cell? ⟨w.heap.size+1+1,3,none⟩=some (.int .i64 L)):=fun w' hb=>by
    obtain ⟨hR0,hR1,hR2⟩:=HRW.out _ (HBW.out.trans hb)
    exact ⟨hR0.cell 0 _ rfl,hR2.cell 0 _ rfl,hR2.cell 1 _ rfl,hR2.cell 2 _ rfl,hR2.cell 3 _ rfl⟩
   have htm:(T+1).tmod 2=(T+1) % 2:=Int.tmod_eq_emod_of_nonneg (by omega)
   clear hgr hbw he hR0 hR1 hR2
   go_wp2_with fail
   refine wp_region_held_drew (S:=fun w'=>w'.cell? ⟨w.heap.size,0,none⟩=some (.int .i64 (n:Int))/\w'.cell? ⟨w.heap.size+1+1,0,none⟩=some (.int .i64 (T+1))/\w'.cell? ⟨w.heap.size+1+1,1,none⟩=some (.int .i64 (1-H))/\w'.cell? ⟨w.heap.size+1+1,2,none⟩=some (.int .i64 (F+Q))/\w'.cell? ⟨w.heap.size+1+1,3,none⟩=some (.int .i64 L)) (by kernel_rfl) (HT.out _ (Below.refl _ _).drew) (fun hHe=>?_)
   refine TY 0 (.slice ya acc.length yc) rfl hHe ?_
   simp only [PS]
   refine TY 1 (.agg #[.bool true,.int .i64 0,.string ⟨#[]⟩]) rfl hHe ?_
   simp only [PS]
   refine TY 2 (.pointer (some ⟨w.heap.size+1+1,0,none⟩)) rfl hHe ?_
   simp only [PS]
   refine TY 3 (.int .i64 (T+1)) rfl hHe ?_
   simp only [PS]
   refine TY 4 (.int .i64 ((T+1) % 2)) rfl hHe ?_
   simp only [PS]
   refine TY 5 (.agg #[.int .i64 (T+1),.int .i64 (1-H),.int .i64 (F+Q),.int .i64 L]) rfl hHe ?_
   simp only [PS]
   refine TY 6 (.pointer (some ⟨w.heap.size,0,none⟩)) rfl hHe ?_
   simp only [PS]
   refine TY 7 (.int .i64 (n:Int)) rfl hHe ?_
   simp only [PS]
   refine TY 10 (.agg #[.bool true,.int .i64 0,.string ⟨#[]⟩]) rfl hHe ?_
   simp only [PS]
   refine RD 8 rfl (fun K hK=>?_)
   refine step_call (by rfl) 84 #[rootV (T+1) (1-H) (F+Q) L,.int .i64 (n:Int)] (by go_simp) (HRP.out _) ?_
   rintro e w4 ⟨rfl,hb4⟩
   refine ⟨_,rfl,?_⟩
   have hb4':Below wr.heap.size wr w4:=(Below.refl _ _).drew.trans hb4
   refine hK.out _ _ (HT.out _ (hb4'.mono hsr)) (fun hHd1=>?_)
   clear hK K
   try simp only [PS]
   refine RD 9 rfl (fun K hK=>?_)
   refine step_call (by rfl) 58 #[.int .i64 ((T+1) % 2),.string rp] (by go_simp) (put_s _ _ _) ?_
   rintro e w5 ⟨rfl,hb5⟩
   refine ⟨_,rfl,?_⟩
   have hb5':Below wr.heap.size wr w5:=hb4'.trans (hb5.mono hb4'.size)
   have hs5:w.heap.size+1+1+1<=w5.heap.size:=Nat.le_trans hsr hb5'.size
   have HOA:=hid ((owns_below HGR.out.own hb5').alloc (.cells #[.bool true,.int .i64 0,.string ⟨#[]⟩,.bool false,.int .i64 ((T+1) % 2),.string rp,.bool true,.int .i64 0,.string ⟨#[]⟩] 34))
   refine hK.out _ _ (HT.out _ (hb5'.mono hsr)) (fun hHd2=>?_)
   clear hK K
   try simp only [PS]
   refine RD 11 rfl (fun K hK=>?_)
   go_simp
   refine hK.out _ _ (HT.out _ ((hb5'.mono hsr).alloc hs5 _)) (fun hHd3=>?_)
   clear hK K
   try simp only [PS]
   refine RD 12 rfl (fun K hK=>?_)
   refine SAL _ (by rfl) _ _ _ (by rfl) (w.heap.size+1+1+1) Try.underlying27 HI.out rfl (by omega) (.slice ya acc.length yc) acc.length _ (by rfl) HOA.out ⟨w5.heap.size,0,none⟩ 3 3 [.bool true,.int .i64 0,.string ⟨#[]⟩,.bool false,.int .i64 ((T+1) % 2),.string rp,.bool true,.int .i64 0,.string ⟨#[]⟩] (by rfl) rfl (World.news_of_block (heap_alloc_new w5 _)) (oneOp3 _ _ _ _ _ _ _ _ _) (by simp<;>omega) (w5.heap.size+1) (by simp) ?_
   intro g9 cap9 w9 hown9 hgrow9 hat9 hlt9
   have hG9:=((HGR.out.below hb5').below ((Below.refl _ _).alloc (Nat.le_refl _) _)).push (H:=w5.heap.size+1) hown9 hgrow9 (by rcases hat9 with h | h;exact .inl h;right;rw [h];rfl) (by simp)
   have hb9:Below (w.heap.size+1+1+1) wr w9:=((hb5'.mono hsr).alloc hs5 _).trans (below_of_grown hgrow9 (by simp;omega) (fun k hk=>(HGR.out.own.lt k hk).1))
   have HG9:=hid hG9
   have HB9:=hid (HBW.out.trans hb9)
   clear hown9 hgrow9 hat9 hG9
   refine hK.out _ _ (HT.out _ hb9) (fun hHd4=>?_)
   clear hK K
   try simp only [PS]
   refine RD 13 rfl (fun K hK=>?_)
   go_simp
   refine hK.out _ _ hHd4 (fun _=>?_)
   clear hK K
   try simp only [PS]
   refine DN ?_
   clear hb9 hb5' hb5 hb4' hb4 hHe hHd1 hHd2 hHd3 hHd4 HOA HGR HBW HT
   obtain ⟨hR0,hR1,hR2⟩:=HRW.out _ HB9.out
   obtain ⟨c00,c01,c02,c03,c04,c05,c06,c07,c08,c09⟩:=hR0.k10
   obtain ⟨c10,c11,c12,c13,c14,c15,c16,c17,c18,c19,c110,c111⟩:=hR1.k12
   obtain ⟨f10,f11,f12,f13,f14,f15,f16,f17,f18,f19,f110,f111⟩:=hR1.z12
   obtain ⟨c20,c21,c22,c23⟩:=hR2.k4
   have hs9:w.heap.size+1+1+1<=w9.heap.size:=by have:=HB9.out.size;omega
   have hlA:w.heap.size<w9.heap.size:=by omega
   have hlB:w.heap.size+1<w9.heap.size:=by omega
   have hlC:w.heap.size+1+1<w9.heap.size:=by omega
   clear hR0 hR1 hR2
   have HXB:=hid (HB9.out.alloc hs9 (.cells #[.int .i64 (n:Int),.int .i64 S,.int .i64 L,.int .i64 (T+1),.int .i64 (1-H),.int .i64 (F+Q),.int .i64 L,.int .i64 (acc.length:Int),.int .i64 0,.slice a rs.length c] 79))
   go_wp2_with (first | (go_at_call 40;refine (copy_st_s a rs c _ (h.below (HBB.out.trans (HXB.out.mono (by omega)))) hl).mono ?_;rintro x w10 ⟨a3,c3,rfl,hc3,ho3,hg3,hb10⟩;have hRo:=(row_new w9 #[.int .i64 (n:Int),.int .i64 S,.int .i64 L,.int .i64 (T+1),.int .i64 (1-H),.int .i64 (F+Q),.int .i64 L,.int .i64 (acc.length:Int),.int .i64 0,.slice a rs.length c] 79).below hb10;have hRd:=(HRW.out _ (HXB.out.trans (hb10.mono (by simp;omega)))).2.1;have o00:w10.cell? ⟨w9.heap.size,0,none⟩=some (.int .i64 (n:Int)):=hRo.cell 0 _ rfl;have p00:=hRo.froz 0 (by simp);have o01:w10.cell? ⟨w9.heap.size,1,none⟩=some (.int .i64 S):=hRo.cell 1 _ rfl;have p01:=hRo.froz 1 (by simp);have o02:w10.cell? ⟨w9.heap.size,2,none⟩=some (.int .i64 L):=hRo.cell 2 _ rfl;have p02:=hRo.froz 2 (by simp);have o03:w10.cell? ⟨w9.heap.size,3,none⟩=some (.int .i64 (T+1)):=hRo.cell 3 _ rfl;have p03:=hRo.froz 3 (by simp);have o04:w10.cell? ⟨w9.heap.size,4,none⟩=some (.int .i64 (1-H)):=hRo.cell 4 _ rfl;have p04:=hRo.froz 4 (by simp);have o05:w10.cell? ⟨w9.heap.size,5,none⟩=some (.int .i64 (F+Q)):=hRo.cell 5 _ rfl;have p05:=hRo.froz 5 (by simp);have o06:w10.cell? ⟨w9.heap.size,6,none⟩=some (.int .i64 L):=hRo.cell 6 _ rfl;have p06:=hRo.froz 6 (by simp);have o07:w10.cell? ⟨w9.heap.size,7,none⟩=some (.int .i64 (acc.length:Int)):=hRo.cell 7 _ rfl;have p07:=hRo.froz 7 (by simp);have o08:w10.cell? ⟨w9.heap.size,8,none⟩=some (.int .i64 0):=hRo.cell 8 _ rfl;have p08:=hRo.froz 8 (by simp);have o09:w10.cell? ⟨w9.heap.size,9,none⟩=some (.slice a rs.length c):=hRo.cell 9 _ rfl;have p09:=hRo.froz 9 (by simp);have d10:=hRd.cell 0 _ rfl;have g10:=hRd.froz 0 (by simp);have d11:=hRd.cell 1 _ rfl;have g11:=hRd.froz 1 (by simp);have d12:=hRd.cell 2 _ rfl;have g12:=hRd.froz 2 (by simp);have d13:=hRd.cell 3 _ rfl;have g13:=hRd.froz 3 (by simp);have d14:=hRd.cell 4 _ rfl;have g14:=hRd.froz 4 (by simp);have d15:=hRd.cell 5 _ rfl;have g15:=hRd.froz 5 (by simp);have d16:=hRd.cell 6 _ rfl;have g16:=hRd.froz 6 (by simp);have d17:=hRd.cell 7 _ rfl;have g17:=hRd.froz 7 (by simp);have d18:=hRd.cell 8 _ rfl;have g18:=hRd.froz 8 (by simp);have d19:=hRd.cell 9 _ rfl;have g19:=hRd.froz 9 (by simp);have d110:=hRd.cell 10 _ rfl;have g110:=hRd.froz 10 (by simp);have d111:=hRd.cell 11 _ rfl;have g111:=hRd.froz 11 (by simp);have HO3:=hid ho3;have HG3:=hid hg3;have hl10:w9.heap.size<w10.heap.size:=hRo.lt;have HB10:=hid (HXB.out.trans (hb10.mono (by simp;omega)));have HW9:=hid hb10;clear hRo hRd ho3 hg3 hb10))
   have hg9s:=HG9.out.own.lt g9 rfl
   have hgn:∀ g,a3=some ⟨g,0,none⟩->prcells rs≠[]->w9.heap.size<g:=fun g hg hne=>by have:=HG3.out g (by subst hg;exact blk_pos _ _ _ (ne_of_prcells hne));simp at this;omega
   have hap:Apart a3 rs.length (some ⟨g9,0,none⟩) (acc.length+3):=by
    cases hb:blk a3 rs.length with
    | none=>exact .inl hb
    | some g =>
     have:=HG3.out g hb
     simp at this
     refine .inr (.inr fun e=>?_)
     rw [hb,blk_pos _ _ _ (by omega)] at e
     cases e
     omega
   have hrow9:Row w10 g9 (opcells (putOps q acc++[(true,0,ByteArray.empty),(false,(T+1) % 2,rp),(true,0,ByteArray.empty)])):=by
    rw [opcells_append]
    exact (owns_row HG9.out.own).below ((Below.refl _ _).alloc (Nat.le_refl _) _ |>.trans (HW9.out.mono (by simp)))
   rw [<-HAE.out]
   have hlen:(putOps q acc++[(true,0,ByteArray.empty),(false,(T+1) % 2,rp),(true,0,ByteArray.empty)]).length=acc.length+3:=by simp [putOps_length]
   refine bodyPost_ret (v:=dnV ⟨0,(n:Int),S,L,T+1,1-H,F+Q,L,(acc.length:Int),0,rs,putOps q acc++[(true,0,ByteArray.empty),(false,(T+1) % 2,rp),(true,0,ByteArray.empty)]⟩ a3 c3 (some ⟨g9,0,none⟩) cap9) (by simp [results,Try.results80,go_sem,dnV,hlen,putOps_length,d10,d11,d12,d13,d14,d15,d16,d17,d18,d19,d110,d111]) rfl ⟨a3,c3,_,cap9,rfl,hc3,⟨?_,?_,?_⟩,?_,?_,?_⟩
   ·iterate 12 (refine OwnS.set' ?_ _ (fun g hg hne=>by have:=hgn g hg hne;show w.heap.size+1≠g;omega) _)
    exact OwnS.set' HO3.out _ (fun g hg hne=>by have:=hgn g hg hne;show w9.heap.size≠g;omega) _
   ·refine .inr ⟨g9,rfl,?_⟩
    iterate 12 (refine Row.other ?_ _ (by show w.heap.size+1≠g9;omega) _)
    exact hrow9.other _ (by show w9.heap.size≠g9;omega) _
   ·show Apart _ _ _ (putOps q acc++_).length
    rw [hlen];exact hap
   ·exact fun g hg=>by have:=HG3.out g hg;simp at this;omega
   ·exact fun g hg=>by change blk _ (putOps q acc++_).length=_ at hg;rw [hlen,blk_pos _ _ _ (by omega)] at hg;cases hg;omega
   ·iterate 12 (refine Below.setCell ?_ (by show w.heap.size<=w.heap.size+1;omega) _)
    exact (HBB.out.trans (HB10.out.mono (by omega))).setCell (p:=⟨w9.heap.size,9,none⟩) (by show w.heap.size<=w9.heap.size;omega) _
theorem move_s (W S L T H F R U O:Int) (a:Option Addr) (rs:List Pr) (c:Nat) (w:World) (h:Prs w a rs) (hl:rs.length<=1048576) (hs:∀ x∈rs,x.1.size<=1048576/\x.2.size<=1048576) (hok:mvOk W S L T H F rs) :
  Calls Try.prog 80 #[storeV W S L T H F R U O a rs.length c] w fun x w'=>DnPost w w' x (moveD W S L T H F rs):=by
 unfold moveD mvFit
 by_cases hfit:T+1<=1000000000/\F+hv S<=999999000
 case pos =>
  rw [decide_eq_true hfit]
  simp only [if_true]
  obtain ⟨hW,_⟩:=id hok
  obtain ⟨n,rfl⟩:∃ n:Nat,W=(n:Int):=⟨W.toNat,by omega⟩
  exact move_s_ok S L T H F R U O n (56-n) a rs c w h hl hs (by omega) (by omega) (by omega) hok hfit
 case neg =>
  rw [decide_eq_false hfit]
  simp only [Bool.false_eq_true,if_false]
  obtain ⟨hW,hS,hL,hT,hH,hF,_⟩:=hok
  have hQ:=hv_yes hS
  have HH:=hid (fun w'=>halves_s S w')
  unfold storeV
  obtain ⟨Q,HQ⟩:∃ Q,Hid (Q=hv S):=⟨_,hid rfl⟩
  rw [<-HQ.out] at hQ HH hfit
  clear h hl hs
  go_enter Try.func80,Try.ntmps80
  go_wp2_with (first | (go_at_call 54;refine (HH.out _).mono ?_;rintro e wz ⟨rfl,hwz⟩;rw [hwz];clear hwz wz))
  all_goals
   refine bodyPost_ret (v:=dnV (noD 4) none 0 none 0) (by simp [results,Try.results80,go_sem,dnV,noD]) rfl (dn_no rfl ?_)
   exact (((Below.refl _ _).alloc (Nat.le_refl _) _).alloc (by simp) _).alloc (by simp<;>omega) _
end Go.Proofs.Ythdilmkbnpmdaaa
