import Derived.Test.YteflhojcomcfaaaGreatDoorPrG44
set_option maxHeartbeats 16000000
namespace Go.Proofs.YteflhojcomcfaaaGreatDoor
open Tryz
open Go.RowKit
set_option maxRecDepth 8000
set_option linter.all false
theorem N3(x:Wo)(a:Wp)(w:Q9)(p:x.rs.length<=1048576):Calls prog 128 #[NA x.W x.S x.L x.T x.H x.F x.R x.U x.O a.s x.rs.length a.cs] w λe b=>e=Q2 (Q1 (RQ x))/\Q3 w b:=by
 unfold NA
 by_cases f:x.W=0
 rotate_left
 .have e:RQ x=false:=AH (λb=>f b.1)
  rw[e];go_enter func128,ntmps128;go_wp2;go_ret;exact⟨z,MI _ _⟩
 by_cases g:x.S=0
 rotate_left
 .have e:RQ x=false:=AH (λb=>g b.2.1)
  rw[e];go_enter func128,ntmps128;go_wp2;go_ret;exact⟨z,MI _ _⟩
 by_cases h:x.L=0
 rotate_left
 .have e:RQ x=false:=AH (λb=>h b.2.2.1)
  rw[e];go_enter func128,ntmps128;go_wp2;go_ret;exact⟨z,MI _ _⟩
 by_cases c:(x.T=0/\x.H=0/\x.F=0/\x.R=0)
 rotate_left
 .have e:RQ x=false:=AH (λb=>c b.2.2.2.1)
  rw[e];have i:(Value.agg #[Z x.T,Z x.H,Z x.F,Z x.R]=Value.agg #[Z 0,Z 0,Z 0,Z 0])=False:=q
  go_enter func128,ntmps128;go_wp2
  all_goals (go_ret;exact⟨z,MI _ _⟩)
 by_cases i:x.U=0
 rotate_left
 .have e:RQ x=false:=AH (λb=>i b.2.2.2.2.1)
  rw[e];go_enter func128,ntmps128;go_wp2;go_ret;exact⟨z,MI _ _⟩
 by_cases j:x.O=0
 rotate_left
 .have e:RQ x=false:=AH (λb=>j b.2.2.2.2.2.1)
  rw[e];go_enter func128,ntmps128;go_wp2;go_ret;exact⟨z,MI _ _⟩
 by_cases k:x.rs.length=0
 rotate_left
 .have e:RQ x=false:=AH (λb=>k b.2.2.2.2.2.2)
  rw[e];have b:¬(x.rs.length:Int)=0:=d
  go_enter func128,ntmps128;go_wp2;go_ret;have l:((x.rs.length:Int) == 0)=false:=BL.2 b;exact⟨by show Q2 (Q1 ((x.rs.length:Int) == 0))=_;rw[l],MI _ _⟩
 have e:RQ x=true:=AM ⟨f,g,h,c,i,j,k⟩;rw[e];obtain⟨l,m,n,o⟩:=c;have b:(x.rs.length:Int)=0:=d
 go_enter func128,ntmps128;go_wp2;go_ret;exact⟨z,MI _ _⟩
theorem Jh(x:Wo)(a:Wp)(w:Q9)(p:x.rs.length<=1048576):Calls prog 114 #[NA x.W x.S x.L x.T x.H x.F x.R x.U x.O a.s x.rs.length a.cs] w λe b=>e=Q2 (Q1 (RQ x))/\Q3 w b:=by
 unfold NA
 by_cases f:x.W=0
 rotate_left
 .have e:RQ x=false:=AH (λb=>f b.1)
  rw[e];go_enter func114,ntmps114;go_wp2;go_ret;exact⟨z,MI _ _⟩
 by_cases g:x.S=0
 rotate_left
 .have e:RQ x=false:=AH (λb=>g b.2.1)
  rw[e];go_enter func114,ntmps114;go_wp2;go_ret;exact⟨z,MI _ _⟩
 by_cases h:x.L=0
 rotate_left
 .have e:RQ x=false:=AH (λb=>h b.2.2.1)
  rw[e];go_enter func114,ntmps114;go_wp2;go_ret;exact⟨z,MI _ _⟩
 by_cases c:(x.T=0/\x.H=0/\x.F=0/\x.R=0)
 rotate_left
 .have e:RQ x=false:=AH (λb=>c b.2.2.2.1)
  rw[e];have i:(Value.agg #[Z x.T,Z x.H,Z x.F,Z x.R]=Value.agg #[Z 0,Z 0,Z 0,Z 0])=False:=q
  go_enter func114,ntmps114;go_wp2
  all_goals (go_ret;exact⟨z,MI _ _⟩)
 by_cases i:x.U=0
 rotate_left
 .have e:RQ x=false:=AH (λb=>i b.2.2.2.2.1)
  rw[e];go_enter func114,ntmps114;go_wp2;go_ret;exact⟨z,MI _ _⟩
 by_cases j:x.O=0
 rotate_left
 .have e:RQ x=false:=AH (λb=>j b.2.2.2.2.2.1)
  rw[e];go_enter func114,ntmps114;go_wp2;go_ret;exact⟨z,MI _ _⟩
 by_cases k:x.rs.length=0
 rotate_left
 .have e:RQ x=false:=AH (λb=>k b.2.2.2.2.2.2)
  rw[e];have b:¬(x.rs.length:Int)=0:=d
  go_enter func114,ntmps114;go_wp2;go_ret;have l:((x.rs.length:Int) == 0)=false:=BL.2 b;exact⟨by show Q2 (Q1 ((x.rs.length:Int) == 0))=_;rw[l],MI _ _⟩
 have e:RQ x=true:=AM ⟨f,g,h,c,i,j,k⟩;rw[e];obtain⟨l,m,n,o⟩:=c;have b:(x.rs.length:Int)=0:=d
 go_enter func114,ntmps114;go_wp2;go_ret;exact⟨z,MI _ _⟩
