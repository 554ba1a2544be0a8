import Derived.Test.YtnmaknnnmjfhkagGreatDoorPrG35
set_option maxHeartbeats 16000000
set_option maxRecDepth 8000
set_option linter.unusedVariables false
set_option linter.unusedSimpArgs false
namespace Go.Proofs.YtnmaknnnmjfhkagGreatDoor
open Go.RowKit
def pcV (r:ByteArray):Value:=match pc r with | none=>.tuple #[.string ⟨#[]⟩,.string ⟨#[]⟩,.bool false] | some (k,m)=>.tuple #[.string k,.string m,.bool true]
theorem get0 (r:ByteArray) (h:0<r.size):(r[0]'h).toNat=b0 r:=by
 unfold b0
 have hl:0<r.data.toList.length:=h
 rw [List.getD_eq_getElem?_getD,List.getElem?_eq_getElem hl]
 rfl
theorem piece_s (r:ByteArray) (w:World) (hs:r.size<=1048576):Calls Tryz.prog 215 #[.string r] w fun e w'=>e=.returned (pcV r)/\Below w.heap.size w w':=by
 by_cases h0:0<r.size
 ·have hg:=get0 r h0
  obtain ⟨b,hb⟩:∃ b,b=b0 r:=⟨_,rfl⟩
  obtain ⟨e,he⟩:∃ e,e=1+b:=⟨_,rfl⟩
  have hbl:b<=255:=by rw [hb];exact b0_lt r
  rw [<-hb] at hg
  have h1:(1:Int)<=(r.size:Int):=by omega
  have hze:r.toList.isEmpty=false:=by rw [isEmpty_size];exact decide_eq_false (by omega)
  have hE:(1:Int)+(b:Int)=(e:Int):=by omega
  have hE0:(0:Int)<=(e:Int):=by omega
  have hE1:(1:Int)<=(e:Int):=by omega
  have hEw:IntKind.i64.wrap (e:Int)=(e:Int):=by simp [IntKind.wrap,IntKind.bits,IntKind.signed];omega
  by_cases h2:1+b<=r.size
  ·have HV:Hid (pcV r=.tuple #[.string (r.extract 1 e),.string (r.extract e r.size),.bool true]):=by
    show _=_
    unfold pcV pc
    rw [<-hb,if_pos ⟨by omega,h2⟩,<-he]
   have h2':(e:Int)<=(r.size:Int):=by omega
   clear hb h2 he
   go_enter Tryz.func215,Tryz.ntmps215
   go_wp2
   go_quiet (fail)
   go_wp2
   go_ret3
   exact ⟨by rw [HV.out];rfl,below_drewN (Below.refl _ _) _⟩
  ·have HV:Hid (pcV r=.tuple #[.string ⟨#[]⟩,.string ⟨#[]⟩,.bool false]):=by
    show _=_
    unfold pcV pc
    rw [<-hb,if_neg (by omega)]
   have h2':(r.size:Int)<(e:Int):=by omega
   clear hb h2 he
   go_enter Tryz.func215,Tryz.ntmps215
   go_wp2
   go_ret3
   exact ⟨by rw [HV.out];rfl,Below.refl _ _⟩
 ·have HV:Hid (pcV r=.tuple #[.string ⟨#[]⟩,.string ⟨#[]⟩,.bool false]):=by
   show _=_
   unfold pcV pc
   rw [if_neg (by omega)]
  have hz:(r.size:Int)<1:=by omega
  have hze:r.toList.isEmpty=true:=by rw [isEmpty_size];exact decide_eq_true (by omega)
  go_enter Tryz.func215,Tryz.ntmps215
  go_wp2
  go_ret3
  exact ⟨by rw [HV.out];rfl,Below.refl _ _⟩
theorem sized_take_i (r:ByteArray) (w:World) (hs:r.size<=1048576):Calls Tryz.prog 261 #[.string r] w fun e w'=>e=.returned (pcV r)/\Below w.heap.size w w':=by
 by_cases h0:0<r.size
 ·have hg:=get0 r h0
  obtain ⟨b,hb⟩:∃ b,b=b0 r:=⟨_,rfl⟩
  obtain ⟨e,he⟩:∃ e,e=1+b:=⟨_,rfl⟩
  have hbl:b<=255:=by rw [hb];exact b0_lt r
  rw [<-hb] at hg
  have h1:(1:Int)<=(r.size:Int):=by omega
  have hze:r.toList.isEmpty=false:=by rw [isEmpty_size];exact decide_eq_false (by omega)
  have hE:(1:Int)+(b:Int)=(e:Int):=by omega
  have hE0:(0:Int)<=(e:Int):=by omega
  have hE1:(1:Int)<=(e:Int):=by omega
  have hEw:IntKind.i64.wrap (e:Int)=(e:Int):=by simp [IntKind.wrap,IntKind.bits,IntKind.signed];omega
  by_cases h2:1+b<=r.size
  ·have HV:Hid (pcV r=.tuple #[.string (r.extract 1 e),.string (r.extract e r.size),.bool true]):=by
    show _=_
    unfold pcV pc
    rw [<-hb,if_pos ⟨by omega,h2⟩,<-he]
   have h2':(e:Int)<=(r.size:Int):=by omega
   clear hb h2 he
   go_enter Tryz.func261,Tryz.ntmps261
   go_wp2
   go_quiet (fail)
   go_wp2
   go_ret3
   exact ⟨by rw [HV.out];rfl,below_drewN (Below.refl _ _) _⟩
  ·have HV:Hid (pcV r=.tuple #[.string ⟨#[]⟩,.string ⟨#[]⟩,.bool false]):=by
    show _=_
    unfold pcV pc
    rw [<-hb,if_neg (by omega)]
   have h2':(r.size:Int)<(e:Int):=by omega
   clear hb h2 he
   go_enter Tryz.func261,Tryz.ntmps261
   go_wp2
   go_ret3
   exact ⟨by rw [HV.out];rfl,Below.refl _ _⟩
 ·have HV:Hid (pcV r=.tuple #[.string ⟨#[]⟩,.string ⟨#[]⟩,.bool false]):=by
   show _=_
   unfold pcV pc
   rw [if_neg (by omega)]
  have hz:(r.size:Int)<1:=by omega
  have hze:r.toList.isEmpty=true:=by rw [isEmpty_size];exact decide_eq_true (by omega)
  go_enter Tryz.func261,Tryz.ntmps261
  go_wp2
  go_ret3
  exact ⟨by rw [HV.out];rfl,Below.refl _ _⟩
theorem bs0 {w w':World} {o:Obj} (h:Below (w.alloc o).heap.size (w.alloc o) w'):Below w.heap.size w w':=((Below.refl _ _).alloc (Nat.le_refl _) _).trans (h.mono (by simp))
def stpV (r:ByteArray):Option (Ch×ByteArray):=if 1<b0 r then none else stp r
def chgPost (o:Option (Ch×ByteArray)) (e:Ending):Prop:=match o with
 | none=>∃ k v g b,e=.returned (.tuple #[.agg #[.string k,.string v,.bool g],.string b,.bool false])
 | some (c,r')=>e=.returned (.tuple #[.agg #[.string c.1,.string c.2.1,.bool c.2.2],.string r',.bool true])
theorem pcV_none {r:ByteArray} (h:pc r=none):pcV r=.tuple #[.string ⟨#[]⟩,.string ⟨#[]⟩,.bool false]:=by unfold pcV;rw [h]
theorem pcV_some {r k m:ByteArray} (h:pc r=some (k,m)):pcV r=.tuple #[.string k,.string m,.bool true]:=by unfold pcV;rw [h]
set_option maxHeartbeats 16000000 in
theorem change_gn (r:ByteArray) (w:World) (hs:r.size<=1048576) (h0:0<r.size) (hb:b0 r=1) (hp:pc (r.extract 1 r.size)=none):Calls Tryz.prog 222 #[.string r] w fun e w'=>(∃ k v g b,e=.returned (.tuple #[.agg #[.string k,.string v,.bool g],.string b,.bool false]))/\Below w.heap.size w w':=by
 have hg:=get0 r h0
 rw [hb] at hg
 have HP:=hid (pcV_none hp)
 have hsz:(r.extract 1 r.size).size<=1048576:=by simp only [ByteArray.size_extract];omega
 clear hp hb
 go_enter Tryz.func222,Tryz.ntmps222
 go_wp2_with (go_at_call 261;refine (sized_take_i _ _ hsz).mono ?_;rw [HP.out];rintro e w2 ⟨rfl,hb2⟩;have hsw2:=hb2.size;simp only [World.size_alloc,World.size_setCell] at hsw2;have c0:w2.cell? ⟨w.heap.size,0,none⟩=some (.string ⟨#[]⟩):=(hb2.cell (p:=⟨w.heap.size,0,none⟩) (by simp<;>omega)).trans (by go_simp);have cf0:w2.frozen? ⟨w.heap.size,0,none⟩=false:=(hb2.frozen (p:=⟨w.heap.size,0,none⟩) (by simp<;>omega)).trans (by go_simp);have c1:w2.cell? ⟨w.heap.size,1,none⟩=some (.string ⟨#[]⟩):=(hb2.cell (p:=⟨w.heap.size,1,none⟩) (by simp<;>omega)).trans (by go_simp);have cf1:w2.frozen? ⟨w.heap.size,1,none⟩=false:=(hb2.frozen (p:=⟨w.heap.size,1,none⟩) (by simp<;>omega)).trans (by go_simp);have c2:w2.cell? ⟨w.heap.size,2,none⟩=some (.bool true):=(hb2.cell (p:=⟨w.heap.size,2,none⟩) (by simp<;>omega)).trans (by go_simp);have cf2:w2.frozen? ⟨w.heap.size,2,none⟩=false:=(hb2.frozen (p:=⟨w.heap.size,2,none⟩) (by simp<;>omega)).trans (by go_simp);have HB2:=hid (bs0 hb2);clear hb2)
 refine bodyPost_ret (v:=.tuple #[.agg #[.string ⟨#[]⟩,.string ⟨#[]⟩,.bool true],.string ⟨#[]⟩,.bool false]) (by simp [results,Tryz.results222,go_sem,c0,c1,c2]) rfl ⟨⟨_,_,_,_,rfl⟩,?_⟩
 (first | exact (((HB2.out.setCell (Nat.le_refl _) _).setCell (Nat.le_refl _) _).setCell (Nat.le_refl _) _) | exact ((((HB2.out.setCell (Nat.le_refl _) _).setCell (Nat.le_refl _) _).setCell (Nat.le_refl _) _).setCell (Nat.le_refl _) _) | exact (((((HB2.out.setCell (Nat.le_refl _) _).setCell (Nat.le_refl _) _).setCell (Nat.le_refl _) _).setCell (Nat.le_refl _) _).setCell (Nat.le_refl _) _) | exact ((((((HB2.out.setCell (Nat.le_refl _) _).setCell (Nat.le_refl _) _).setCell (Nat.le_refl _) _).setCell (Nat.le_refl _) _).setCell (Nat.le_refl _) _).setCell (Nat.le_refl _) _) | exact (((((((HB2.out.setCell (Nat.le_refl _) _).setCell (Nat.le_refl _) _).setCell (Nat.le_refl _) _).setCell (Nat.le_refl _) _).setCell (Nat.le_refl _) _).setCell (Nat.le_refl _) _).setCell (Nat.le_refl _) _))
end Go.Proofs.YtnmaknnnmjfhkagGreatDoor
