import Derived.Laws.Bits64b
import Derived.Test.YtehbpeinnepdcaaGreatDoorPrRpS
import Derived.Test.YtehbpeinnepdcaaGreatDoorPrG45
import Derived.Test.YtehbpeinnepdcaaGreatDoorPrDrvOf
import Derived.Test.YtehbpeinnepdcaaGreatDoorPrG42
import Derived.Test.YtehbpeinnepdcaaGreatDoorPrFbS
set_option maxHeartbeats 16000000
set_option maxRecDepth 8000
set_option linter.unusedVariables false
set_option linter.unusedSimpArgs false
namespace Go.Proofs.YtehbpeinnepdcaaGreatDoor
open Go.RowKit
theorem Q18 (y b:Int) (aC:0<=y) (aD:y<=1099511627776) (aA:0<=b) (aB:b<=255):bits .or .u64 (IntKind.u64.wrap (y*256)) (IntKind.u64.wrap b)=y*256+b:=by
 rw [khQ _ (by omega) (by omega),khQ _ (by omega) (by omega)];obtain ⟨Y,rfl⟩:∃ Y:Nat,y=(Y:Int):=⟨y.toNat,by omega⟩;obtain ⟨C,rfl⟩:∃ C:Nat,b=(C:Int):=⟨b.toNat,by omega⟩;have e:((Y:Int)*256)=((256*Y:Nat):Int):=by omega
 rw [e,bits_or_u64_nat _ _ (by omega) (by omega)];have:=Nat.two_pow_add_eq_or_of_lt (i:=8) (b:=C) (by omega) Y;simp only [Nat.reducePow] at this;rw [<-this];omega
theorem x9G (s:ByteArray) (ty:TypeId) (v:Value) (w:World) (hv:w.cell? ⟨1,0,none⟩=some (.iface ty v)):Calls Tryz.prog 55 #[.string s] w fun e w'=>e=.returned (.iface 68 (.pointer (some ⟨w.heap.size,0,none⟩)))/\w'=w.alloc (.cells #[.string s,.iface ty v] 139):=by
 go_enter Tryz.func55,Tryz.ntmps55;go_wp2;go_ret;exact ⟨rfl,rfl⟩
theorem JER (F o:Nat) (ys:List Int) (c:Nat) (w:World) (hr:∀ y∈ys,0<=y/\y<=255) (hl:ys.length<=4) (hc:∀ i,i<ys.length->w.cell? ⟨F,o+i,none⟩=some (.int .u8 (ys.getD i 0))):Calls Tryz.prog 57 #[.slice (some ⟨F,o,none⟩) ys.length c] w fun e w'=>e=.returned (.int .u64 (zMt ys))/\w'=w:=by
 have HC:=jjQ hc;clear hc;go_enter Tryz.func57,Tryz.ntmps57;go_wp2;go_loop [3,5,8] (fun x _ i=>∃ (k:Nat) (y:Int),k<=ys.length/\i=.int .i64 (k:Int)/\x=.int .u64 y/\Hid (y=zMt (ys.take k))/\0<=y/\Hid (y<(256:Int) ^ k)) (fun _ _ i=>ys.length-(intOf i).toNat)
 case atStart=>exact ⟨0,0,Nat.zero_le _,rfl,rfl,by show _=_;simp [zMt],by omega,by show _<_;simp⟩
 case round =>
  obtain ⟨k,y,hk,rfl,rfl,HY,aK,aD⟩:=hrel
  by_cases aA:k<ys.length
  ·have aI:=HC.out k aA
   obtain ⟨b,hb⟩:∃ b,ys.getD k 0=b:=⟨_,rfl⟩;rw [hb] at aI;obtain ⟨aF,aG⟩:0<=b/\b<=255:=by rw [<-hb];exact hr _ (by simp [List.getD,aA])
   have aJ:(k:Int)<(ys.length:Int):=by omega
   have aB:(256:Int) ^ k<=16777216:=by
    have:k=0\/k=1\/k=2\/k=3:=by omega
    rcases this with h | h | h | h<;>rw [h]<;>decide
   have HN:Hid (y*256+b=zMt (ys.take (k+1))):=by
    show _=_;rw [List.take_succ_eq_append_getElem aA,yQg,<-HY.out,<-hb];simp [List.getD,aA]
   have aC:=Q18 y b aK (by have:=aD.out;omega) aF aG;have aE:Hid (bits .or .u64 (IntKind.u64.wrap (y*256)) b=y*256+b):=by show _=_;rw [khQ b (by omega) (by omega)] at aC;exact aC
   have aH:0<=y*256+b:=by omega
   clear aC;have H3:Hid (y*256+b<(256:Int) ^ (k+1)):=by show _<_;rw [Int.pow_succ];have:=aD.out;omega
   clear hb aB;go_wp2;go_round
   case rel=>exact ⟨k+1,y*256+b,by omega,by go_num,congrArg _ aE.out,HN.out,aH,H3.out⟩
   case measure=>simp [intOf];omega
  ·go_wp2
   go_ret;refine ⟨vj3 ?_,rfl⟩;rw [HY.out,List.take_of_length_le (by omega)]
theorem X8K (r:ByteArray):∀ y∈zFD r,0<=y/\y<=255:=by
 intro y hy;unfold zFD at hy;obtain ⟨c,_,rfl⟩:=List.mem_map.1 hy;have:=UInt8.toNat_lt c;omega
theorem yPC (b:ByteArray) (i j:Nat):zFD (b.extract i j)=((zFD b).take j).drop i:=by
 unfold zFD;rw [<-List.map_take,<-List.map_drop,ByteArray.data_extract,Array.toList_extract];simp [List.extract,List.drop_take]
theorem xOP:∀ (k:Nat) (ys:List Int),ys.length=k->(∀ y∈ys,0<=y/\y<=255)->0<=zMt ys/\zMt ys<(256:Int) ^ k:=by
 intro k
 induction k with
 | zero=>intro ys hl _;have:ys=[]:=List.eq_nil_of_length_eq_zero hl;subst this;simp [zMt]
 | succ k ih =>
  intro ys hl hy;have aA:ys≠[]:=by intro h;subst h;simp at hl
  have hd:=List.dropLast_concat_getLast aA;have h1:=ih ys.dropLast (by simp;omega) (fun y h=>hy y (List.dropLast_subset _ h));have h2:=hy _ (List.getLast_mem aA);rw [<-hd,yQg,Int.pow_succ];omega
theorem X9q (y:Int):zMt [y]=y:=by simp [zMt]
theorem q0q (s:ByteArray) (n:Nat) (hs:s.size=64) (h2:n<=8) {b:ByteArray} (hb:b=s.extract n 64) :
  (rpN b:Int)=zMt (((zFD s).drop (n+7)).take 1)/\rpK b=zMt (((zFD s).drop n).take 1)/\rpL b=zMt (((zFD s).drop (n+1)).take 2)/\rpM b=zMt (((zFD s).drop (n+3)).take 4)/\rpP b=strOfNums (((zFD s).drop (n+8)).take (rpN b)):=by
 have hn:zFD b=(zFD s).drop n:=by rw [hb,yPC,List.take_of_length_le (by rw [vgz];omega)]
 have aB:b.data.toList.length=64-n:=by have:=vgz s;have h:=congrArg List.length hn;rw [List.length_drop,vgz,vgz,hs] at h;exact h
 have aA:∀ i,i<64-n->zMt (((zFD s).drop (n+i)).take 1)=((b.data.toList.getD i 0).toNat:Int):=fun i hi=>by
  rw [<-List.drop_drop,<-hn];unfold zFD;rw [<-List.map_drop,<-List.map_take,List.drop_eq_getElem_cons (by omega)];simp only [List.take_succ_cons,List.take_zero,List.map_cons,List.map_nil,X9q];rw [List.getD_eq_getElem?_getD,List.getElem?_eq_getElem (by omega)];rfl
 refine ⟨?_,?_,?_,?_,?_⟩
 ·rw [aA 7 (by omega)];rfl
 ·have:=aA 0 (by omega);rw [Nat.add_zero] at this;rw [this];rfl
 ·unfold rpL;rw [yPC,hn];simp [List.drop_take,List.drop_drop]
 ·unfold rpM;rw [yPC,hn];simp [List.drop_take,List.drop_drop]
 ·unfold rpP
  rw [<-ZXs (b.extract 8 (8+rpN b)),yPC,hn];simp [List.drop_take,List.drop_drop]
def prV (E:Addr) (o:Option (Int×Int×Int×ByteArray)):Value:=match o with
 | none=>.tuple #[QAw 0 0 0 ⟨#[]⟩,.iface 68 (.pointer (some E))]
 | some (k,l,m,p)=>.tuple #[QAw k l m p,.nilIface]
theorem zPV (F:Nat) (xs:List Int) (hr:Hid (∀ y∈xs,0<=y/\y<=255)) (o k c:Nat) (hk:k<=4) (ho:o+k<=xs.length) (w:World) (hf:Fm w F xs) (V:Int) (hV:V=zMt ((xs.drop o).take k)):Calls Tryz.prog 57 #[.slice (some ⟨F,o,none⟩) k c] w fun e w'=>e=.returned (.int .u64 V)/\w'=w:=by
 have hl:((xs.drop o).take k).length=k:=by simp;omega
 have h:=JER F o ((xs.drop o).take k) c w (fun y hy=>hr.out y (List.mem_of_mem_drop (List.mem_of_mem_take hy))) (by omega) (fun i hi=>by
  rw [hf.cell (o+i) (by omega)];rw [hl] at hi
  simp [List.getD,List.getElem?_take_of_lt hi,List.getElem?_drop])
 rw [hl,<-hV] at h;exact h
theorem vle (s:ByteArray) (n:Int) (w:World) (ty:TypeId) (v:Value) (hv:w.cell? ⟨1,0,none⟩=some (.iface ty v)) (hg:1<w.heap.size) (hn:¬ (1<=n/\n<=8)):Calls Tryz.prog 32 #[.string s,.int .i64 n] w fun e w'=>(∃ E,e=.returned (prV E none))/\Below w.heap.size w w':=by
 have hd:decide (1<=n/\n<=8)=false:=by simpa using hn
 have aA:∀ o o',Below w.heap.size w ((w.alloc o).alloc o'):=fun o o'=>((Below.refl _ _).alloc (Nat.le_refl _) _).alloc (by simp) _
 have aB:∀ o,(w.alloc o).cell? ⟨1,0,none⟩=some (.iface ty v):=fun o=>(World.cell?_alloc_past _ _ _ (by exact hg)).trans hv
 clear hn;go_enter Tryz.func32,Tryz.ntmps32
 go_wp2_with (first | (go_at_call 27;refine (jnI _ _).mono ?_;rw [hd];rintro e w2 ⟨rfl,rfl⟩) | (go_at_call 55;refine (x9G _ ty v _ (aB _)).mono ?_;rintro e w2 ⟨rfl,rfl⟩))
 refine bodyPost_ret (v:=.tuple #[QAw 0 0 0 ⟨#[]⟩,.iface 68 (.pointer (some ⟨w.heap.size+1,0,none⟩))]) (by simp [results,Tryz.results32,go_sem]) rfl ⟨⟨_,rfl⟩,?_⟩;exact aA _ _
theorem v8A (s:ByteArray) (n:Int) (w:World) (ty:TypeId) (v:Value) (hv:w.cell? ⟨1,0,none⟩=some (.iface ty v)) (hg:1<w.heap.size) (hn:1<=n/\n<=8) (hs:s.size≠64):Calls Tryz.prog 32 #[.string s,.int .i64 n] w fun e w'=>(∃ E,e=.returned (prV E none))/\Below w.heap.size w w':=by
 have hd:decide (1<=n/\n<=8)=true:=by simpa using hn
 have aC:((s.size:Int) != 64)=true:=by simp;omega
 have aA:∀ o o',Below w.heap.size w ((w.alloc o).alloc o'):=fun o o'=>((Below.refl _ _).alloc (Nat.le_refl _) _).alloc (by simp) _
 have aB:∀ o,(w.alloc o).cell? ⟨1,0,none⟩=some (.iface ty v):=fun o=>(World.cell?_alloc_past _ _ _ (by exact hg)).trans hv
 clear hn hs;go_enter Tryz.func32,Tryz.ntmps32
 go_wp2_with (first | (go_at_call 27;refine (jnI _ _).mono ?_;rw [hd];rintro e w2 ⟨rfl,rfl⟩) | (go_at_call 55;refine (x9G _ ty v _ (aB _)).mono ?_;rintro e w2 ⟨rfl,rfl⟩))
 refine bodyPost_ret (v:=.tuple #[QAw 0 0 0 ⟨#[]⟩,.iface 68 (.pointer (some ⟨w.heap.size+1,0,none⟩))]) (by simp [results,Tryz.results32,go_sem]) rfl ⟨⟨_,rfl⟩,?_⟩;exact aA _ _
structure RB (W w:World):Prop where
 size:W.heap.size+1<=w.heap.size
 bel:Below W.heap.size W w
 c0:w.cell? ⟨W.heap.size,0,none⟩=some (.int .i64 0)
 c1:w.cell? ⟨W.heap.size,1,none⟩=some (.int .i64 0)
 c2:w.cell? ⟨W.heap.size,2,none⟩=some (.int .i64 0)
 c3:w.cell? ⟨W.heap.size,3,none⟩=some (.string ⟨#[]⟩)
 f0:w.frozen? ⟨W.heap.size,0,none⟩=false
 f1:w.frozen? ⟨W.heap.size,1,none⟩=false
 f2:w.frozen? ⟨W.heap.size,2,none⟩=false
 f3:w.frozen? ⟨W.heap.size,3,none⟩=false
theorem RB.below {W w w':World} (h:RB W w) (hb:Below w.heap.size w w'):RB W w':=by
 have hs:=h.size
 have hc:∀ i,w'.cell? ⟨W.heap.size,i,none⟩=w.cell? ⟨W.heap.size,i,none⟩:=fun i=>hb.cell (p:=⟨W.heap.size,i,none⟩) (by show W.heap.size<_;omega)
 have hf:∀ i,w'.frozen? ⟨W.heap.size,i,none⟩=w.frozen? ⟨W.heap.size,i,none⟩:=fun i=>hb.frozen (p:=⟨W.heap.size,i,none⟩) (by show W.heap.size<_;omega)
 exact ⟨Nat.le_trans hs hb.size,h.bel.trans (hb.mono (by omega)),(hc _).trans h.c0,(hc _).trans h.c1,(hc _).trans h.c2,(hc _).trans h.c3,(hf _).trans h.f0,(hf _).trans h.f1,(hf _).trans h.f2,(hf _).trans h.f3⟩
theorem RB.drew {W w:World} (h:RB W w):RB W w.drew:=⟨h.size,h.bel.drew,h.c0,h.c1,h.c2,h.c3,h.f0,h.f1,h.f2,h.f3⟩
theorem RB.alloc {W w:World} (h:RB W w) (o:Obj):RB W (w.alloc o):=h.below ((Below.refl _ _).alloc (Nat.le_refl _) _)
theorem RB.new (W:World) (t:TypeId):RB W (W.alloc (.cells #[.int .i64 0,.int .i64 0,.int .i64 0,.string ⟨#[]⟩] t)):=by
 refine ⟨by simp,(Below.refl _ _).alloc (Nat.le_refl _) _,?_,?_,?_,?_,?_,?_,?_,?_⟩<;>first | (simp;done) | (rw [frozen?_alloc_cells];exact jWQ _ _ _ (Nat.le_refl _))
theorem XsM (s:ByteArray) (ty:TypeId) (v:Value) (w:World) (hv:w.cell? ⟨1,0,none⟩=some (.iface ty v)):Calls Tryz.prog 55 #[.string s] w fun e w'=>(∃ E,e=.returned (.iface 68 (.pointer (some E))))/\Below w.heap.size w w' :=
 (x9G s ty v w hv).mono fun e w' h=>⟨⟨_,h.1⟩,by rw [h.2];exact (Below.refl _ _).alloc (Nat.le_refl _) _⟩
set_option maxRecDepth 4000 in
theorem Xs2 (s:ByteArray) (n N:Nat) (w:World) (ty:TypeId) (v:Value) (hv:w.cell? ⟨1,0,none⟩=some (.iface ty v)) (hg:1<w.heap.size) (hs:s.size=64) (h1:1<=n) (h2:n<=8) (hN:(N:Int)=zMt (((zFD s).drop (n+7)).take 1)) (aO:56<N+n) (aP:N<=255):Calls Tryz.prog 32 #[.string s,.int .i64 (n:Int)] w fun e w'=>(∃ E,e=.returned (prV E none))/\Below w.heap.size w w':=by
 have hd:decide (1<=(n:Int)/\(n:Int)<=8)=true:=by simp;omega
 have aU:(s.size:Int)=64:=by omega
 have aQ:∀ o,Below w.heap.size w (w.alloc o):=fun o=>(Below.refl _ _).alloc (Nat.le_refl _) _
 have aN:∀ w',Below w.heap.size w w'->w'.cell? ⟨1,0,none⟩=some (.iface ty v):=fun w' hb=>(hb.cell (p:=⟨1,0,none⟩) hg).trans hv
 obtain ⟨xs,HX⟩:∃ xs,Hid (xs=zFD s):=⟨_,jjQ rfl⟩;have aB:xs.length=64:=by rw [HX.out,vgz];exact hs
 have aV:(xs.map (Value.int .u8)).toArray.size=64:=by simp [aB]
 have aK:Hid (∀ y∈xs,0<=y/\y<=255):=by rw [HX.out];exact X8K s
 have HS:=jjQ hs;clear hs
 have aL:=fun g wx=>xXI (P:=Tryz.prog) (t:=95) Tryz.underlying95 (fun _=>by kernel_rfl) g 0 n (by omega) .i64 (n:Int) rfl wx
 obtain ⟨q,hq⟩:∃ q,64-n=q:=⟨_,rfl⟩;rw [hq] at aL;have aT:(8:Int)<=(q:Int):=by omega
 have aS:(7:Int)<=(q:Int):=by omega
 have HN:Hid ((N:Int)=zMt ((xs.drop (n+7)).take 1)):=by rw [HX.out];exact jjQ hN
 clear hN;have aR:(64-(n:Int)-8)<(N:Int):=by omega
 go_enter Tryz.func32,Tryz.ntmps32
 go_wp2_with (first | (go_at_call 27;refine (jnI _ _).mono ?_;rw [hd];rintro e w2 ⟨rfl,rfl⟩) | (go_at_call 58;refine (qHH _ _ (by omega) (by omega)).mono ?_;rintro e w3 ⟨rfl,rfl⟩) | (go_at_call 56;refine (jsf s _ HS.out).mono ?_;rw [<-HX.out];rintro e w2 ⟨rfl,aD⟩;have aH:=jjQ ((RB.new w _).below aD);clear aD) | (refine jY1 rfl 95 _ _ rfl xs rfl rfl _ _ (.int .u8 0) (by rw [aB];rfl) (by rw [aB];kernel_rfl) ?_;intro wx aG aF aM;have aI:=jjQ aG;clear aG;have aC:=jjQ (aH.out.below aF);clear aF aM) | (go_at_call 57;refine (zPV w2.heap.size xs aK (n+7) 1 _ (by omega) (by omega) _ aI.out (N:Int) HN.out).mono ?_;rintro e w3 ⟨rfl,rfl⟩) | (go_at_call 55;refine (XsM _ ty v _ (aN _ aC.out.bel)).mono ?_;rintro e w4 ⟨⟨E,rfl⟩,aE⟩;have aA:=aC.out.below aE;clear aE;have c0:=aA.c0;have c1:=aA.c1;have c2:=aA.c2;have c3:=aA.c3;have f0:=aA.f0;have f1:=aA.f1;have f2:=aA.f2;have f3:=aA.f3;have aJ:=jjQ aA;clear aA))
 refine bodyPost_ret (v:=.tuple #[QAw 0 0 0 ⟨#[]⟩,.iface 68 (.pointer (some E))]) (by simp [results,Tryz.results32,go_sem,c0,c1,c2,c3]) rfl ⟨⟨E,rfl⟩,?_⟩;exact (((aJ.out.bel.setCell (Nat.le_refl _) _).setCell (Nat.le_refl _) _).setCell (Nat.le_refl _) _).setCell (Nat.le_refl _) _
theorem kfv (s:ByteArray) (n:Int) (w:World) (hs:s.size<=1048576):Calls Tryz.prog 8 #[.string s,.int .i64 n] w fun e w'=>e=.returned (rpV (Jvc s n))/\Below w.heap.size w w':=by
 have aC:∀ o,Below w.heap.size w (w.alloc o):=fun o=>(Below.refl _ _).alloc (Nat.le_refl _) _
 by_cases hn:1<=n/\n<=8
 ·obtain ⟨m,rfl⟩:∃ m:Nat,n=(m:Int):=⟨n.toNat,by omega⟩
  have hd:decide (1<=(m:Int)/\(m:Int)<=8)=true:=by simp;omega
  by_cases aB:s.size=64
  ·by_cases hN:rpN (s.extract m 64)<=56-m
   ·exact ZYx s m w aB (by omega) (by omega) hN
   ·have HR:=jjQ (XRd (s:=s) (n:=(m:Int)) (fun hh=>hN (by have:=hh.2.2.2.1;rw [Int.toNat_natCast] at this;omega)))
    have aE:(s.size:Int)=64:=by omega
    obtain ⟨b,hb⟩:∃ b,s.extract m 64=b:=⟨_,rfl⟩;have aD:b.size=64-m:=by rw [<-hb];simp only [ByteArray.size_extract];omega
    obtain ⟨q,hq⟩:∃ q:Nat,b.size=q:=⟨_,rfl⟩;have l7:7<b.size:=by omega
    have g7:=zN1 b 7 l7;rw [hb] at hN;obtain ⟨N,aA⟩:∃ N,N=(b.data.toList.getD 7 0).toNat:=⟨_,rfl⟩;rw [<-aA] at g7;have aG:(64-(m:Int)-8)<(N:Int):=by have:rpN b=N:=aA.symm;omega
    have aF:N<=255:=by rw [aA];have:=UInt8.toNat_lt (b.data.toList.getD 7 0);omega
    have aI:(7:Int)<(q:Int):=by omega
    have aH:m+q=64:=by omega
    clear aD aA hN;go_enter Tryz.func8,Tryz.ntmps8
    go_wp2_with (first | (go_at_call 15;refine (X3C _ _).mono ?_;rw [hd];rintro e w2 ⟨rfl,rfl⟩) | (go_at_call 21;refine (XAP _ _ (by omega) (by omega)).mono ?_;rintro e w2 ⟨rfl,rfl⟩))
    refine bodyPost_ret (v:=.tuple #[QAw 0 0 0 ⟨#[]⟩,.bool false]) (by simp [results,Tryz.results8,go_sem]) rfl ⟨by rw [HR.out];rfl,?_⟩;exact aC _
  ·have HR:=jjQ (XRd (s:=s) (n:=(m:Int)) (fun hh=>aB hh.2.2.1))
   have aE:((s.size:Int) != 64)=true:=by simp;omega
   clear aB;go_enter Tryz.func8,Tryz.ntmps8
   go_wp2_with (first | (go_at_call 15;refine (X3C _ _).mono ?_;rw [hd];rintro e w2 ⟨rfl,rfl⟩))
   refine bodyPost_ret (v:=.tuple #[QAw 0 0 0 ⟨#[]⟩,.bool false]) (by simp [results,Tryz.results8,go_sem]) rfl ⟨by rw [HR.out];rfl,?_⟩;exact aC _
 ·have HR:=jjQ (XRd (s:=s) (n:=n) (fun hh=>hn ⟨hh.1,hh.2.1⟩))
  have hd:decide (1<=n/\n<=8)=false:=by simpa using hn
  clear hn;go_enter Tryz.func8,Tryz.ntmps8
  go_wp2_with (first | (go_at_call 15;refine (X3C _ _).mono ?_;rw [hd];rintro e w2 ⟨rfl,rfl⟩))
  refine bodyPost_ret (v:=.tuple #[QAw 0 0 0 ⟨#[]⟩,.bool false]) (by simp [results,Tryz.results8,go_sem]) rfl ⟨by rw [HR.out];rfl,?_⟩;exact aC _
abbrev RtT:=Int×Int×Int×Int
def ptH (p:ByteArray):Int:=zMt ((zFD p).take 1)
def ptF (p:ByteArray):Int:=zMt (((zFD p).drop 1).take 4)
def yVH (s:ByteArray) (a n:Int):Option RtT :=
 match Jvc s n with
 | none=>none
 | some (_,l,m,p)=>if p.size=5/\QCt m (ptH p) (ptF p) l n=s/\m % 2=a then some (m,ptH p,ptF p,l) else none
theorem v5k {s:ByteArray} {n k l m:Int} {p:ByteArray} (h:Jvc s n=some (k,l,m,p)):s.size=64/\ZQp k l m p n=s/\1<=m/\m<=1000000000/\1<=l/\l<=60000/\p.size<=64:=by
 unfold Jvc at h
 split at h
 ·rename_i hh
  obtain ⟨h1,h2,h3,h4,h5⟩:=hh;simp only [Option.some.injEq,Prod.mk.injEq] at h;obtain ⟨rfl,rfl,rfl,rfl⟩:=h;refine ⟨h3,h5,?_⟩
  have aA:Xhw (rpK (s.extract n.toNat 64)) (rpL (s.extract n.toNat 64)) (rpM (s.extract n.toNat 64)) (rpP (s.extract n.toNat 64)) n=true:=by
   cases hc:Xhw (rpK (s.extract n.toNat 64)) (rpL (s.extract n.toNat 64)) (rpM (s.extract n.toNat 64)) (rpP (s.extract n.toNat 64)) n with
   | true=>rfl
   | false =>
    exfalso;unfold ZQp at h5;rw [hc,if_neg (by simp)] at h5;rw [<-h5] at h3;exact absurd h3 (by decide)
  have hd:=of_decide_eq_true (by unfold Xhw at aA;exact aA);omega
 ·cases h
def xBi (b:RtT) (o:Option RtT):RtT:=match o with
 | none=>b
 | some r=>if b.1<r.1 then r else b
def jkc (s0 s1:ByteArray) (n:Int):RtT:=xBi (xBi (0,0,1,0) (yVH s0 0 n)) (yVH s1 1 n)
def rtZ:RtT:=(0,0,0,0)
def yoh (wk wl k l:Int):Bool:=decide (wl<=l) && (if k=3 then decide (wk≠1) else (decide (k=1) || decide (k=2)) && (decide (wk≠1) || decide (wl=l)))
abbrev Scd:=List ByteArray×Int×Int
def vb3 (S:Nat->ByteArray) (frm:Nat) (first n:Int):Nat->Nat->Int->Int->ByteArray->Scd->Scd
 | 0,_,_,_,_,out=>out
 | f+1,i,wk,wl,op,out =>
  match Jvc (S (frm+i)) n with
  | none=>out
  | some (k,l,m,p)=>if IntKind.i64.wrap (m-(i:Int))=first/\yoh wk wl k l=true then
    (if k=1 then vb3 S frm first n f (i+1) k l (op++p) out
     else vb3 S frm first n f (i+1) k l ByteArray.empty (if k=2 then out.1++[op++p] else out.1,(i:Int)+1,l))
   else out
theorem kWh {S:Nat->ByteArray} {aA:Nat} {first n:Int} {f i:Nat} {wk wl:Int} {op:ByteArray} {out:Scd} (h:Jvc (S (aA+i)) n=none):vb3 S aA first n f i wk wl op out=out:=by
 cases f with
 | zero=>rfl
 | succ f=>rw [vb3,h]
theorem ZgQ {S:Nat->ByteArray} {aA:Nat} {first n:Int} {f i:Nat} {wk wl k l m:Int} {p op:ByteArray} {out:Scd} (h:Jvc (S (aA+i)) n=some (k,l,m,p)) (hn:¬ (IntKind.i64.wrap (m-(i:Int))=first/\yoh wk wl k l=true)):vb3 S aA first n f i wk wl op out=out:=by
 cases f with
 | zero=>rfl
 | succ f=>rw [vb3,h];simp only;rw [if_neg hn]
theorem ZDW {S:Nat->ByteArray} {aA:Nat} {first n:Int} {f i:Nat} {wk wl l m:Int} {p op:ByteArray} {out:Scd} (h:Jvc (S (aA+i)) n=some (1,l,m,p)) (hn:IntKind.i64.wrap (m-(i:Int))=first) (hg:yoh wk wl 1 l=true):vb3 S aA first n (f+1) i wk wl op out=vb3 S aA first n f (i+1) 1 l (op++p) out:=by
 rw [vb3,h];simp only;rw [if_pos ⟨hn,hg⟩,if_pos trivial]
theorem JRt {S:Nat->ByteArray} {aA:Nat} {first n:Int} {f i:Nat} {wk wl k l m:Int} {p op:ByteArray} {out:Scd} (h:Jvc (S (aA+i)) n=some (k,l,m,p)) (hn:IntKind.i64.wrap (m-(i:Int))=first) (hg:yoh wk wl k l=true) (hk:k≠1):vb3 S aA first n (f+1) i wk wl op out=vb3 S aA first n f (i+1) k l ByteArray.empty (if k=2 then out.1++[op++p] else out.1,(i:Int)+1,l):=by
 rw [vb3,h];simp only;rw [if_pos ⟨hn,hg⟩,if_neg hk]
theorem zjC (S:Nat->ByteArray) (aA:Nat) (first n:Int):∀ (f i:Nat) (wk wl:Int) (op:ByteArray) (out:Scd) (B:Nat),op.size+64*f<=B->(∀ e∈out.1,e.size<=B)->(∀ e∈(vb3 S aA first n f i wk wl op out).1,e.size<=B)/\(vb3 S aA first n f i wk wl op out).1.length<=out.1.length+f
 | 0,i,wk,wl,op,out,B,_,h2=>⟨h2,by simp [vb3]⟩
 | f+1,i,wk,wl,op,out,B,h1,h2=>by
  rw [vb3]
  split
  ·exact ⟨h2,by omega⟩
  ·rename_i k l m p hp
   have hps:=(v5k hp).2.2.2.2.2.2
   split
   ·split
    ·have:=zjC S aA first n f (i+1) k l (op++p) out B (by rw [ByteArray.size_append];omega) h2
     exact ⟨this.1,by omega⟩
    ·have:=zjC S aA first n f (i+1) k l ByteArray.empty (if k=2 then out.1++[op++p] else out.1,(i:Int)+1,l) B (by show 0+_<=_;omega) (by
      intro e he;simp only at he
      split at he
      ·rw [List.mem_append] at he
       rcases he with he | he
       ·exact h2 e he
       ·simp at he;subst he;rw [ByteArray.size_append];omega
      ·exact h2 e he)
     refine ⟨this.1,Nat.le_trans this.2 ?_⟩;simp only
     split
     ·simp;omega
     ·omega
   ·exact ⟨h2,by omega⟩
theorem qNA (S:Nat->ByteArray) (aA:Nat) (first n:Int):∀ (f i:Nat) (wk wl:Int) (op:ByteArray) (out:Scd),(0<=out.2.1/\out.2.1<=(i:Int))->0<=(vb3 S aA first n f i wk wl op out).2.1/\(vb3 S aA first n f i wk wl op out).2.1<=(i:Int)+f
 | 0,i,wk,wl,op,out,h=>by rw [vb3];omega
 | f+1,i,wk,wl,op,out,h=>by
  rw [vb3]
  split
  ·omega
  ·rename_i k l m p hp
   split
   ·split
    ·have:=qNA S aA first n f (i+1) k l (op++p) out (by omega)
     omega
    ·have:=qNA S aA first n f (i+1) k l ByteArray.empty (if k=2 then out.1++[op++p] else out.1,(i:Int)+1,l) (by show 0<=(i:Int)+1/\(i:Int)+1<=_;omega)
     omega
   ·omega
theorem vp8 (S:Nat->ByteArray) (aA:Nat) (first n:Int):∀ (f i:Nat) (wk wl:Int) (op:ByteArray) (out:Scd),(vb3 S aA first n f i wk wl op out).2.2=out.2.2\/(1<=(vb3 S aA first n f i wk wl op out).2.2/\(vb3 S aA first n f i wk wl op out).2.2<=60000)
 | 0,i,wk,wl,op,out=>.inl rfl
 | f+1,i,wk,wl,op,out=>by
  rw [vb3]
  split
  ·exact .inl rfl
  ·rename_i k l m p hp
   have hl:=v5k hp
   split
   ·split
    ·exact vp8 S aA first n f (i+1) k l (op++p) out
    ·rcases vp8 S aA first n f (i+1) k l ByteArray.empty (if k=2 then out.1++[op++p] else out.1,(i:Int)+1,l) with h | h
     ·right
      rw [h];show 1<=l/\l<=60000;omega
     ·exact .inr h
   ·exact .inl rfl
def opD (d:List ByteArray×List (Int×ByteArray)) (o:Bool×Int×ByteArray):List ByteArray×List (Int×ByteArray) :=
 if o.1=true then (syncs d.2 d.1,[]) else if wOk d.1.length o.2=true/\d.2.length<300 then (d.1,d.2++[o.2]) else d
def JKX:List (Bool×Int×ByteArray)->List ByteArray×List (Int×ByteArray)->List ByteArray×List (Int×ByteArray)
 | [],d=>d
 | o::r,d=>JKX r (opD d o)
theorem zSd (d:List ByteArray×List (Int×ByteArray)) (x:Int×ByteArray):opD d (true,x)=(syncs d.2 d.1,[]):=by simp [opD]
theorem zhd (d:List ByteArray×List (Int×ByteArray)) (x:Int×ByteArray) (h:wOk d.1.length x=true) (h2:d.2.length<300):opD d (false,x)=(d.1,d.2++[x]):=by simp [opD,h,h2]
theorem zuS (d:List ByteArray×List (Int×ByteArray)) (x:Int×ByteArray) (h:wOk d.1.length x=false\/¬ d.2.length<300):opD d (false,x)=d:=by
 unfold opD;rw [if_neg (by simp),if_neg];rintro ⟨h1,h2⟩;rcases h with h | h
 ·rw [h] at h1;cases h1
 ·exact h h2
theorem zKN (d:List ByteArray×List (Int×ByteArray)) (o:Bool×Int×ByteArray):(opD d o).1.length=d.1.length:=by
 unfold opD
 split
 ·exact syncs_length _ _
 ·split<;>rfl
theorem jIc:∀ (ws:List (Int×ByteArray)) (ss:List ByteArray),(∀ s∈ss,(s.size:Int)=64)->(∀ x∈ws,(x.2.size:Int)=64)->∀ s∈syncs ws ss,(s.size:Int)=64
 | [],ss,h,_=>h
 | x::r,ss,h,hw=>jIc r _ (fun s hs=>by
   rcases List.mem_or_eq_of_mem_set hs with h3 | h3
   ·exact h s h3
   ·rw [h3];exact hw x (List.mem_cons_self ..)) (fun y hy=>hw y (List.mem_cons_of_mem _ hy))
theorem Zc1 {n:Nat} {x:Int×ByteArray} (h:wOk n x=true):(0<=x.1/\x.1<(n:Int))/\(x.2.size:Int)=64:=by
 have:=of_decide_eq_true h;omega
theorem jhU {ss:List ByteArray} {ws:List (Int×ByteArray)} (h1:8<=ss.length/\ss.length<=200/\ws.length<=300) (h2:∀ s∈ss,(s.size:Int)=64) (h3:∀ x∈ws,wOk ss.length x=true):vlG ss ws=true:=by
 unfold vlG;rw [Bool.and_eq_true,Bool.and_eq_true];exact ⟨⟨decide_eq_true h1,List.all_eq_true.2 fun s hs=>decide_eq_true (h2 s hs)⟩,List.all_eq_true.2 h3⟩
theorem ZO0 (d:List ByteArray×List (Int×ByteArray)) (o:Bool×Int×ByteArray) (h:vlG d.1 d.2=true):vlG (opD d o).1 (opD d o).2=true:=by
 obtain ⟨h1,h2,h3⟩:=q67 h;unfold opD
 split
 ·refine jhU ?_ (jIc _ _ h2 fun x hx=>(Zc1 (h3 x hx)).2) (fun x hx=>by simp at hx)
  show 8<=(syncs d.2 d.1).length/\(syncs d.2 d.1).length<=200/\0<=300;rw [syncs_length];omega
 ·split
  ·rename_i hc
   refine jhU ?_ h2 (fun x hx=>?_)
   ·show 8<=d.1.length/\d.1.length<=200/\(d.2++[o.2]).length<=300
    rw [List.length_append];have:=hc.2;simp;omega
   ·rcases List.mem_append.1 hx with hx | hx
    ·exact h3 x hx
    ·rw [List.mem_singleton.1 hx];exact hc.1
  ·exact h
theorem Ops.take {w:World} {a:Option Addr} {rs:List (Bool×Int×ByteArray)} (h:Ops w a rs) (m:Nat):Ops w a (rs.take m):=by
 rcases h with h | ⟨b,o,h1,h2,h3⟩
 ·exact .inl (by rw [h];simp)
 ·refine .inr ⟨b,o,h1,h2,fun i hi=>?_⟩
  have aA:i<rs.length/\i<m:=by simp at hi;omega
  have e:(rs.take m).getD i (false,0,ByteArray.empty)=rs.getD i (false,0,ByteArray.empty):=by simp [List.getD,List.getElem?_take,aA.2]
  rw [e];exact h3 i aA.1
theorem Row.lowB {w w':World} {R base:Nat} {cs:List Value} (h:Row w R cs) (hb:Below base w w') (hR:R<base):Row w' R cs :=
 ⟨Nat.lt_of_lt_of_le h.lt hb.size,fun i v hv=>(hb.cell (p:=⟨R,i,none⟩) hR).trans (h.cell i v hv),fun i hi=>(hb.frozen (p:=⟨R,i,none⟩) hR).trans (h.froz i hi)⟩
theorem OwnS.setp {w:World} {a:Option Addr} {cs:List Value} (h:OwnS w a cs) (p:Addr) (hp:∀ g,a=some ⟨g,0,none⟩->cs≠[]->p.block≠g) (v:Value):OwnS (w.setCell p v) a cs:=by
 rcases h with h | ⟨g,h1,h2⟩
 ·exact .inl h
 ·by_cases hc:cs=[]
  ·exact .inl hc
  ·exact .inr ⟨g,h1,h2.other p (hp g h1 hc) v⟩
theorem k38:∀ (l:List (Bool×Int×ByteArray)) (d:List ByteArray×List (Int×ByteArray)),(JKX l d).1.length=d.1.length
 | [],_=>rfl
 | o::r,d=>by rw [JKX,k38 r,zKN]
theorem XJb:∀ (l:List (Bool×Int×ByteArray)) (d:List ByteArray×List (Int×ByteArray)),vlG d.1 d.2=true->vlG (JKX l d).1 (JKX l d).2=true
 | [],_,h=>h
 | o::r,d,h=>XJb r _ (ZO0 d o h)
def pfN (z:Int) (n:Nat):Nat:=min z.toNat n
theorem k1Q (z:Int) (n:Nat):pfN z n<=n:=Nat.min_le_right _ _
def pfR (ss:List ByteArray) (ws:List (Int×ByteArray)) (rs:List (Bool×Int×ByteArray)) (z:Int):List ByteArray×List (Int×ByteArray):=if vlG ss ws=true then JKX (rs.take (pfN z rs.length)) (ss,ws) else ([],[])
theorem q5R {w:World} {B:Nat} {e:TypeId} {size:Nat} {y:Value} {n b i:Nat} {xs:List Value} (h:w.ownsRow B e size y n xs) (aA:y.ownBlock≠some b) (u:Value):(w.setCell ⟨b,i,none⟩ u).ownsRow B e size y n xs:=ownsRow_setCell_other h aA u
theorem Xaw (X:World) (b:Nat) (hb:X.heap.size=b) (cs:Array Value) (t:TypeId):∀ j u,cs.toList[j]?=some u->(X.alloc (.cells cs t)).cell? ((⟨b,0,none⟩:Addr).add j)=some u:=by
 subst hb;exact World.news_of_block (heap_alloc_new X _)
theorem Qnj (s:ByteArray) (w:World) (hs:s.size<=1048576):Calls Tryz.prog 115 #[.string s] w fun e w'=>qdZ w w' e (yjX s):=by
 have b8:∀ o,Below w.heap.size w (w.alloc o):=fun o=>(Below.refl _ _).alloc (Nat.le_refl _) _
 obtain ⟨R,HR⟩:∃ R,Hid (R=yjX s):=⟨_,hid rfl⟩;rw [<-HR.out];obtain ⟨i0,bU,bV,aT,bW⟩:=qOH q3H;have HI:=hid (And.intro bU (And.intro bV (And.intro aT bW)));clear bU bV aT bW;go_enter Tryz.func115,Tryz.ntmps115;go_wp2_with fail;go_loopw [4,5] (fun y x wr=>∃ (j:Nat) (o:List Ch) (r:ByteArray),x=.string r/\j+o.length=21/\r.size<=1048576/\Hid (run j r o=run 21 s [])/\Hid (∀ z∈o,z.1.size<=1048576/\z.2.1.size<=1048576)/\wr.ownsRow w.heap.size 121 3 y o.length (jlM o)/\Below w.heap.size w wr) (fun _ x _=>match x with | .string r=>r.size | _=>0)
 case atStart=>exact ⟨21,[],s,rfl,rfl,hs,rfl,fun z hz=>(by simp at hz),World.ownsRow_lit _ #[] 0 (Nat.le_refl _) (by simp) (by simp),b8 _⟩
 case round =>
  obtain ⟨j,o,r,rfl,hj,cH,aX,aP,aN,aM⟩:=hrel;obtain ⟨ya,yc,rfl,aV⟩:=XiI aN;have HO:=hid aN;have HB:=hid aM;have aG:=aM.size;have HC:=hid aV;clear aN aM aV
  have aH:(Value.slice ya o.length yc).ownBlock≠some wr.heap.size:=fun h=>by have:=(HO.out.lt _ h).2;omega
  have aU:Hid (run j r o=some (o,r))->Hid (R=if s.size≠0/\jvj o=s then some o else none):=fun hh=>by
   show _=_;have:=aX.out;rw [hh.out] at this;rw [HR.out];unfold yjX;rw [<-this]
  by_cases h0:0<(r.size:Int)
  ·by_cases hl:(o.length:Int)<=20
   ·obtain ⟨j',rfl⟩:∃ j',j=j'+1:=⟨j-1,by omega⟩
    have aB:=aX.out;rw [run,if_neg (by omega)] at aB;have hg:=q8F r (by omega);obtain ⟨b,hb⟩:∃ b,b=b0 r:=⟨_,rfl⟩;have cF:b<=255:=by rw [hb];exact Q10 r
    rw [<-hb] at hg;have aJ:(r.extract 1 r.size).size<=1048576:=by simp only [ByteArray.size_extract];omega
    clear aU
    cases hp:pc (r.extract 1 r.size) with
    | none =>
     have HP:=hid (Qg6 hp)
     have HF:Hid (R=none):=by
      show _=_;have e:stp r=none:=by unfold stp;rw [hp]
      rw [e] at aB;rw [HR.out];unfold yjX;rw [<-aB]
     clear hp hb aB
     by_cases bJ:b=1
     ·subst bJ
      go_wp2_with (go_at_call 122;refine (xsP _ _ aJ).mono ?_;rw [HP.out];rintro e w2 ⟨rfl,aA⟩;have aE:=aA.size;simp only [World.size_alloc,World.size_setCell] at aE;have c0:w2.cell? ⟨wr.heap.size,0,none⟩=some (.string ⟨#[]⟩):=(aA.cell (p:=⟨wr.heap.size,0,none⟩) (by simp<;>omega)).trans (by go_simp);have aQ:w2.frozen? ⟨wr.heap.size,0,none⟩=false:=(aA.frozen (p:=⟨wr.heap.size,0,none⟩) (by simp<;>omega)).trans (by go_simp);have c1:w2.cell? ⟨wr.heap.size,1,none⟩=some (.string ⟨#[]⟩):=(aA.cell (p:=⟨wr.heap.size,1,none⟩) (by simp<;>omega)).trans (by go_simp);have aR:w2.frozen? ⟨wr.heap.size,1,none⟩=false:=(aA.frozen (p:=⟨wr.heap.size,1,none⟩) (by simp<;>omega)).trans (by go_simp);have c2:w2.cell? ⟨wr.heap.size,2,none⟩=some (.bool true):=(aA.cell (p:=⟨wr.heap.size,2,none⟩) (by simp<;>omega)).trans (by go_simp);have aS:w2.frozen? ⟨wr.heap.size,2,none⟩=false:=(aA.frozen (p:=⟨wr.heap.size,2,none⟩) (by simp<;>omega)).trans (by go_simp);have aI:=hid (HB.out.trans ((bs0 aA).mono aG));have aK:=hid (jcb (HO.out.alloc _) aA);clear aA)
      go_ret2;rw [HF.out];exact ZZy rfl (aI.out.alloc (by omega) _)
     ·have aA:((b:Int) == 1)=false:=by simp;omega
      go_wp2_with (go_at_call 122;refine (xsP _ _ aJ).mono ?_;rw [HP.out];rintro e w2 ⟨rfl,aA⟩;have aE:=aA.size;simp only [World.size_alloc,World.size_setCell] at aE;have c0:w2.cell? ⟨wr.heap.size,0,none⟩=some (.string ⟨#[]⟩):=(aA.cell (p:=⟨wr.heap.size,0,none⟩) (by simp<;>omega)).trans (by go_simp);have aQ:w2.frozen? ⟨wr.heap.size,0,none⟩=false:=(aA.frozen (p:=⟨wr.heap.size,0,none⟩) (by simp<;>omega)).trans (by go_simp);have c1:w2.cell? ⟨wr.heap.size,1,none⟩=some (.string ⟨#[]⟩):=(aA.cell (p:=⟨wr.heap.size,1,none⟩) (by simp<;>omega)).trans (by go_simp);have aR:w2.frozen? ⟨wr.heap.size,1,none⟩=false:=(aA.frozen (p:=⟨wr.heap.size,1,none⟩) (by simp<;>omega)).trans (by go_simp);have c2:w2.cell? ⟨wr.heap.size,2,none⟩=some (.bool false):=(aA.cell (p:=⟨wr.heap.size,2,none⟩) (by simp<;>omega)).trans (by go_simp);have aS:w2.frozen? ⟨wr.heap.size,2,none⟩=false:=(aA.frozen (p:=⟨wr.heap.size,2,none⟩) (by simp<;>omega)).trans (by go_simp);have aI:=hid (HB.out.trans ((bs0 aA).mono aG));have aK:=hid (jcb (HO.out.alloc _) aA);clear aA)
      go_ret2;rw [HF.out];exact ZZy rfl (aI.out.alloc (by omega) _)
    | some p =>
     obtain ⟨k,m⟩:=p;have HP:=hid (xMB hp);have cE:m.size<=1048576:=by have:=QAD hp;simp only [ByteArray.size_extract] at this;omega
     by_cases bJ:b=1
     ·have e:stp r=some ((k,ByteArray.empty,true),m):=by unfold stp;rw [hp];simp only;rw [if_pos (by omega)]
      obtain ⟨q1,q2,q3⟩:=qGp (by omega) e;rw [e] at aB;have bI:Hid (run j' m (o++[(k,ByteArray.empty,true)])=run 21 s []):=aB;simp only at q2 q3;clear hp hb aB e;subst bJ
      go_wp2_with (first | (go_at_call 122;refine (xsP _ _ aJ).mono ?_;rw [HP.out];rintro e w2 ⟨rfl,aA⟩;have aE:=aA.size;simp only [World.size_alloc,World.size_setCell] at aE;have c0:w2.cell? ⟨wr.heap.size,0,none⟩=some (.string ⟨#[]⟩):=(aA.cell (p:=⟨wr.heap.size,0,none⟩) (by simp<;>omega)).trans (by go_simp);have aQ:w2.frozen? ⟨wr.heap.size,0,none⟩=false:=(aA.frozen (p:=⟨wr.heap.size,0,none⟩) (by simp<;>omega)).trans (by go_simp);have c1:w2.cell? ⟨wr.heap.size,1,none⟩=some (.string ⟨#[]⟩):=(aA.cell (p:=⟨wr.heap.size,1,none⟩) (by simp<;>omega)).trans (by go_simp);have aR:w2.frozen? ⟨wr.heap.size,1,none⟩=false:=(aA.frozen (p:=⟨wr.heap.size,1,none⟩) (by simp<;>omega)).trans (by go_simp);have c2:w2.cell? ⟨wr.heap.size,2,none⟩=some (.bool true):=(aA.cell (p:=⟨wr.heap.size,2,none⟩) (by simp<;>omega)).trans (by go_simp);have aS:w2.frozen? ⟨wr.heap.size,2,none⟩=false:=(aA.frozen (p:=⟨wr.heap.size,2,none⟩) (by simp<;>omega)).trans (by go_simp);have aI:=hid (HB.out.trans ((bs0 aA).mono aG));have aK:=hid (jcb (HO.out.alloc _) aA);clear aA) | (at_builtin;refine WAL _ rfl _ _ 84 rfl w.heap.size Tryz.underlying84 HI.out rfl (by omega) _ o.length _ rfl ((q5R aK.out aH (.string k)).alloc (.cells #[.string k,.string ⟨#[]⟩,.bool true] 121)) ⟨w2.heap.size,0,none⟩ 1 1 [.string k,.string ⟨#[]⟩,.bool true] rfl rfl (Xaw _ _ (by simp) _ _) (keR _ _ _) (by simp;omega) (w2.heap.size+1) (by simp) ?_;intro ga cap w7 aF aC aL bQ;have bH:=hid aF;have aZ:=hid (QUO ((aI.out.setCell (p:=⟨wr.heap.size,0,none⟩) aG (.string k)).alloc (by simp;omega) _) ((q5R aK.out aH (.string k)).alloc _) aC (by simp;omega));clear aF aC aL))
      refine ⟨⟨j',o++[(k,ByteArray.empty,true)],m,rfl,by simp;omega,by omega,bI.out,fun z hz=>?_,?_,aZ.out⟩,by simp only;omega⟩
      ·rcases List.mem_append.1 hz with hz | hz
       ·exact aP.out z hz
       ·simp at hz;subst hz;exact ⟨by simp only;omega,by simp only;first | omega | simp⟩
      ·rw [ysK,List.length_append];exact bH.out
     ·have aA:((b:Int) == 1)=false:=by simp;omega
      have aW:m.size<=1048576:=cE
      cases hq:pc m with
      | none =>
       have HQ:=hid (Qg6 hq)
       have HF:Hid (R=none):=by
        show _=_;have e:stp r=none:=by unfold stp;rw [hp];simp only;rw [if_neg (by omega),hq]
        rw [e] at aB;rw [HR.out];unfold yjX;rw [<-aB]
       clear hp hq hb aB
       go_wp2_with (first | (have _g:=aI;go_at_call 122;refine (xsP _ _ aW).mono ?_;rw [HQ.out];rintro e w3 ⟨rfl,aD⟩;have aO:=aD.size;simp only [World.size_alloc,World.size_setCell] at aO;have d0:w3.cell? ⟨wr.heap.size,0,none⟩=some (.string k):=(aD.cell (p:=⟨wr.heap.size,0,none⟩) (by simp<;>omega)).trans (by go_simp);have bY:w3.frozen? ⟨wr.heap.size,0,none⟩=false:=(aD.frozen (p:=⟨wr.heap.size,0,none⟩) (by simp<;>omega)).trans (by go_simp);have d1:w3.cell? ⟨wr.heap.size,1,none⟩=some (.string ⟨#[]⟩):=(aD.cell (p:=⟨wr.heap.size,1,none⟩) (by simp<;>omega)).trans (by go_simp);have bZ:w3.frozen? ⟨wr.heap.size,1,none⟩=false:=(aD.frozen (p:=⟨wr.heap.size,1,none⟩) (by simp<;>omega)).trans (by go_simp);have d2:w3.cell? ⟨wr.heap.size,2,none⟩=some (.bool false):=(aD.cell (p:=⟨wr.heap.size,2,none⟩) (by simp<;>omega)).trans (by go_simp);have b7:w3.frozen? ⟨wr.heap.size,2,none⟩=false:=(aD.frozen (p:=⟨wr.heap.size,2,none⟩) (by simp<;>omega)).trans (by go_simp);have aY:=hid ((aI.out.setCell (p:=⟨wr.heap.size,0,none⟩) aG (.string k)).trans (aD.mono (by simp<;>omega)));have bG:=hid (jcb (q5R aK.out aH (.string k)) aD);clear aD c0 c1 c2 aQ aR aS) | (go_at_call 122;refine (xsP _ _ aJ).mono ?_;rw [HP.out];rintro e w2 ⟨rfl,aA⟩;have aE:=aA.size;simp only [World.size_alloc,World.size_setCell] at aE;have c0:w2.cell? ⟨wr.heap.size,0,none⟩=some (.string ⟨#[]⟩):=(aA.cell (p:=⟨wr.heap.size,0,none⟩) (by simp<;>omega)).trans (by go_simp);have aQ:w2.frozen? ⟨wr.heap.size,0,none⟩=false:=(aA.frozen (p:=⟨wr.heap.size,0,none⟩) (by simp<;>omega)).trans (by go_simp);have c1:w2.cell? ⟨wr.heap.size,1,none⟩=some (.string ⟨#[]⟩):=(aA.cell (p:=⟨wr.heap.size,1,none⟩) (by simp<;>omega)).trans (by go_simp);have aR:w2.frozen? ⟨wr.heap.size,1,none⟩=false:=(aA.frozen (p:=⟨wr.heap.size,1,none⟩) (by simp<;>omega)).trans (by go_simp);have c2:w2.cell? ⟨wr.heap.size,2,none⟩=some (.bool false):=(aA.cell (p:=⟨wr.heap.size,2,none⟩) (by simp<;>omega)).trans (by go_simp);have aS:w2.frozen? ⟨wr.heap.size,2,none⟩=false:=(aA.frozen (p:=⟨wr.heap.size,2,none⟩) (by simp<;>omega)).trans (by go_simp);have aI:=hid (HB.out.trans ((bs0 aA).mono aG));have aK:=hid (jcb (HO.out.alloc _) aA);clear aA))
       go_ret2;rw [HF.out];exact ZZy rfl (aY.out.alloc (by omega) _)
      | some q =>
       obtain ⟨v,m'⟩:=q;have HQ:=hid (xMB hq);have e:stp r=some ((k,v,false),m'):=by unfold stp;rw [hp];simp only;rw [if_neg (by omega),hq]
       obtain ⟨q1,q2,q3⟩:=qGp (by omega) e;rw [e] at aB;have bI:Hid (run j' m' (o++[(k,v,false)])=run 21 s []):=aB;simp only at q2 q3;clear hp hq hb aB e
       go_wp2_with (first | (have _g:=aI;go_at_call 122;refine (xsP _ _ aW).mono ?_;rw [HQ.out];rintro e w3 ⟨rfl,aD⟩;have aO:=aD.size;simp only [World.size_alloc,World.size_setCell] at aO;have d0:w3.cell? ⟨wr.heap.size,0,none⟩=some (.string k):=(aD.cell (p:=⟨wr.heap.size,0,none⟩) (by simp<;>omega)).trans (by go_simp);have bY:w3.frozen? ⟨wr.heap.size,0,none⟩=false:=(aD.frozen (p:=⟨wr.heap.size,0,none⟩) (by simp<;>omega)).trans (by go_simp);have d1:w3.cell? ⟨wr.heap.size,1,none⟩=some (.string ⟨#[]⟩):=(aD.cell (p:=⟨wr.heap.size,1,none⟩) (by simp<;>omega)).trans (by go_simp);have bZ:w3.frozen? ⟨wr.heap.size,1,none⟩=false:=(aD.frozen (p:=⟨wr.heap.size,1,none⟩) (by simp<;>omega)).trans (by go_simp);have d2:w3.cell? ⟨wr.heap.size,2,none⟩=some (.bool false):=(aD.cell (p:=⟨wr.heap.size,2,none⟩) (by simp<;>omega)).trans (by go_simp);have b7:w3.frozen? ⟨wr.heap.size,2,none⟩=false:=(aD.frozen (p:=⟨wr.heap.size,2,none⟩) (by simp<;>omega)).trans (by go_simp);have aY:=hid ((aI.out.setCell (p:=⟨wr.heap.size,0,none⟩) aG (.string k)).trans (aD.mono (by simp<;>omega)));have bG:=hid (jcb (q5R aK.out aH (.string k)) aD);clear aD c0 c1 c2 aQ aR aS) | (go_at_call 122;refine (xsP _ _ aJ).mono ?_;rw [HP.out];rintro e w2 ⟨rfl,aA⟩;have aE:=aA.size;simp only [World.size_alloc,World.size_setCell] at aE;have c0:w2.cell? ⟨wr.heap.size,0,none⟩=some (.string ⟨#[]⟩):=(aA.cell (p:=⟨wr.heap.size,0,none⟩) (by simp<;>omega)).trans (by go_simp);have aQ:w2.frozen? ⟨wr.heap.size,0,none⟩=false:=(aA.frozen (p:=⟨wr.heap.size,0,none⟩) (by simp<;>omega)).trans (by go_simp);have c1:w2.cell? ⟨wr.heap.size,1,none⟩=some (.string ⟨#[]⟩):=(aA.cell (p:=⟨wr.heap.size,1,none⟩) (by simp<;>omega)).trans (by go_simp);have aR:w2.frozen? ⟨wr.heap.size,1,none⟩=false:=(aA.frozen (p:=⟨wr.heap.size,1,none⟩) (by simp<;>omega)).trans (by go_simp);have c2:w2.cell? ⟨wr.heap.size,2,none⟩=some (.bool false):=(aA.cell (p:=⟨wr.heap.size,2,none⟩) (by simp<;>omega)).trans (by go_simp);have aS:w2.frozen? ⟨wr.heap.size,2,none⟩=false:=(aA.frozen (p:=⟨wr.heap.size,2,none⟩) (by simp<;>omega)).trans (by go_simp);have aI:=hid (HB.out.trans ((bs0 aA).mono aG));have aK:=hid (jcb (HO.out.alloc _) aA);clear aA) | (at_builtin;refine WAL _ rfl _ _ 84 rfl w.heap.size Tryz.underlying84 HI.out rfl (by omega) _ o.length _ rfl ((q5R bG.out aH (.string v)).alloc (.cells #[.string k,.string v,.bool false] 121)) ⟨w3.heap.size,0,none⟩ 1 1 [.string k,.string v,.bool false] rfl rfl (Xaw _ _ (by simp) _ _) (keR _ _ _) (by simp;omega) (w3.heap.size+1) (by simp) ?_;intro ga cap w7 aF aC aL bQ;have bH:=hid aF;have aZ:=hid (QUO ((aY.out.setCell (p:=⟨wr.heap.size,1,none⟩) aG (.string v)).alloc (by simp;omega) _) ((q5R bG.out aH (.string v)).alloc _) aC (by simp;omega));clear aF aC aL))
       refine ⟨⟨j',o++[(k,v,false)],m',rfl,by simp;omega,by omega,bI.out,fun z hz=>?_,?_,aZ.out⟩,by simp only;omega⟩
       ·rcases List.mem_append.1 hz with hz | hz
        ·exact aP.out z hz
        ·simp at hz;subst hz;exact ⟨by simp only;omega,by simp only;first | omega | simp⟩
       ·rw [ysK,List.length_append];exact bH.out
   ·have cC:j=0:=by omega
    subst cC;have HF:=aU rfl;clear aU aX
    by_cases hz:s.size=0
    ·have aT:((s.size:Int) == 0)=true:=by rw [beq_iff_eq];omega
     rw [if_neg (fun hh=>hh.1 hz)] at HF;go_wp2;go_ret2;rw [HF.out];exact ZZy rfl (HB.out.alloc aG _)
    ·have aT:((s.size:Int) == 0)=false:=by rw [beq_eq_false_iff_ne];omega
     by_cases hF:jvj o=s
     ·rw [if_pos ⟨hz,hF⟩] at HF
      have bC:=hid hF;clear hF;go_wp2_with (go_at_call 67;refine (Qqx _ o _ _ HC.out (by omega) aP.out).mono ?_;rw [bC.out];rintro e w2 ⟨rfl,aA⟩);go_ret2;rw [HF.out];exact zVX (jcb HO.out aA) rfl (HB.out.trans (aA.mono aG))
     ·rw [if_neg (fun hh=>hF hh.2)] at HF
      obtain ⟨G,HG⟩:∃ G,Hid (G=jvj o):=⟨_,hid rfl⟩;have hG:(!G.toList == s.toList)=true:=by rw [HG.out];simp only [Bool.not_eq_true',beq_eq_false_iff_ne];intro hh;rw [ByteArray.toList_eq,ByteArray.toList_eq] at hh;exact hF (ByteArray.ext (Array.ext' hh))
      clear hF;go_wp2_with (go_at_call 67;refine (Qqx _ o _ _ HC.out (by omega) aP.out).mono ?_;rw [<-HG.out];rintro e w2 ⟨rfl,aA⟩);go_ret2;rw [HF.out];exact ZZy rfl ((HB.out.trans (aA.mono aG)).alloc (by have:=aA.size;omega) _)
  ·have HF:=aU (by show _=_;exact Jpl _ _ _ (by omega))
   clear aU aX
   by_cases hz:s.size=0
   ·have aT:((s.size:Int) == 0)=true:=by rw [beq_iff_eq];omega
    rw [if_neg (fun hh=>hh.1 hz)] at HF;go_wp2;go_ret2;rw [HF.out];exact ZZy rfl (HB.out.alloc aG _)
   ·have aT:((s.size:Int) == 0)=false:=by rw [beq_eq_false_iff_ne];omega
    by_cases hF:jvj o=s
    ·rw [if_pos ⟨hz,hF⟩] at HF
     have bC:=hid hF;clear hF;go_wp2_with (go_at_call 67;refine (Qqx _ o _ _ HC.out (by omega) aP.out).mono ?_;rw [bC.out];rintro e w2 ⟨rfl,aA⟩);go_ret2;rw [HF.out];exact zVX (jcb HO.out aA) rfl (HB.out.trans (aA.mono aG))
    ·rw [if_neg (fun hh=>hF hh.2)] at HF
     obtain ⟨G,HG⟩:∃ G,Hid (G=jvj o):=⟨_,hid rfl⟩;have hG:(!G.toList == s.toList)=true:=by rw [HG.out];simp only [Bool.not_eq_true',beq_eq_false_iff_ne];intro hh;rw [ByteArray.toList_eq,ByteArray.toList_eq] at hh;exact hF (ByteArray.ext (Array.ext' hh))
     clear hF;go_wp2_with (go_at_call 67;refine (Qqx _ o _ _ HC.out (by omega) aP.out).mono ?_;rw [<-HG.out];rintro e w2 ⟨rfl,aA⟩);go_ret2;rw [HF.out];exact ZZy rfl ((HB.out.trans (aA.mono aG)).alloc (by have:=aA.size;omega) _)
end Go.Proofs.YtehbpeinnepdcaaGreatDoor
