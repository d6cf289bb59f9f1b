import Derived.Test.YtomiclakhjncbaaGreatDoorJA1a
import Derived.Deep.RegionWith
namespace Go.Proofs.YtomiclakhjncbaaGreatDoor
open Go.RowKit
set_option maxRecDepth 100000
set_option maxHeartbeats 12800000
theorem toAuth_any (a:Au) (w:World) :
  Calls Tryz.prog 124 #[auv a] w fun e w'=>e=.returned (auv a)∧Below w.heap.size w w':=by
 obtain ⟨r,i,c,m,d,u⟩:=a
 simp only [auv]
 go_enter Tryz.func124,Tryz.ntmps124
 go_wp2
 go_returns
 refine ⟨rfl,?_⟩
 go_grown
theorem eqAuth_same (a:Au) (w:World) :
  Calls Tryz.prog 115 #[auv a,auv a] w fun e w'=>e=.returned (.bool true)∧Below w.heap.size w w':=by
 obtain ⟨r,i,c,m,d,u⟩:=a
 simp only [auv]
 have n0:(r == r)=true:=by simp
 have n1:(i != i)=false:=by simp
 have n2:(c != c)=false:=by simp
 have n3:(m != m)=false:=by simp
 have n4:(d != d)=false:=by simp
 cases u
 ·go_enter Tryz.func115,Tryz.ntmps115
  go_wp2
  go_ret
  exact ⟨rfl,by go_grown⟩
 ·go_enter Tryz.func115,Tryz.ntmps115
  go_wp2
  go_ret
  exact ⟨rfl,by go_grown⟩
theorem eqAuthS_same (ao bo:Option Addr) (c1 c2:Nat) (az:List Au) (w:World) (hx:AuthsAt w ao az) (hy:AuthsAt w bo az) (h1:az.length≤1099511627776) :
  Calls Tryz.prog 53 #[.slice ao az.length c1,.slice bo az.length c2] w fun e w'=>e=.returned (.bool true)∧Below w.heap.size w w':=by
 rcases hx with rfl | ⟨b,off,rfl,hb,hcx⟩
 ·go_enter Tryz.func53,Tryz.ntmps53
  go_wp2
  refine wp_loop_rounds 1 ?_
  rw [rounds_succ]
  go_wp2
  go_ret
  exact ⟨rfl,Below.refl _ _⟩
 rcases hy with rfl | ⟨d,off2,rfl,hd,hcy⟩
 ·go_enter Tryz.func53,Tryz.ntmps53
  go_wp2
  refine wp_loop_rounds 1 ?_
  rw [rounds_succ]
  go_wp2
  go_ret
  exact ⟨rfl,Below.refl _ _⟩
 have HCX:Hid (∀ i,i<az.length→w.cell? ⟨b,off+i*6,none⟩=some (.string ⟨(auAt az i).ref.toArray⟩)∧w.cell? ⟨b,off+i*6+1,none⟩=some (.int .i64 (auAt az i).iss)∧w.cell? ⟨b,off+i*6+2,none⟩=some (.int .i64 (auAt az i).cur)∧w.cell? ⟨b,off+i*6+3,none⟩=some (.int .i64 (auAt az i).am)∧w.cell? ⟨b,off+i*6+4,none⟩=some (.int .i64 (auAt az i).day)∧w.cell? ⟨b,off+i*6+5,none⟩=some (.bool (auAt az i).used)):=hcx
 have HCY:Hid (∀ i,i<az.length→w.cell? ⟨d,off2+i*6,none⟩=some (.string ⟨(auAt az i).ref.toArray⟩)∧w.cell? ⟨d,off2+i*6+1,none⟩=some (.int .i64 (auAt az i).iss)∧w.cell? ⟨d,off2+i*6+2,none⟩=some (.int .i64 (auAt az i).cur)∧w.cell? ⟨d,off2+i*6+3,none⟩=some (.int .i64 (auAt az i).am)∧w.cell? ⟨d,off2+i*6+4,none⟩=some (.int .i64 (auAt az i).day)∧w.cell? ⟨d,off2+i*6+5,none⟩=some (.bool (auAt az i).used)):=hcy
 clear hcx hcy
 have nn:((az.length:Int) != (az.length:Int))=false:=by simp
 obtain ⟨n,hn⟩:∃ n,az.length=n:=⟨_,rfl⟩
 rw [hn] at h1 nn HCX HCY ⊢
 clear hn
 go_enter Tryz.func53,Tryz.ntmps53
 go_wp2
 go_loopw [5] (fun i wr=>∃ k:Nat,k≤n∧i=.int .i64 k∧Below w.heap.size w wr) (fun i _=>n - (intOf i).toNat)
 case atStart=>exact ⟨0,Nat.zero_le _,rfl,Below.refl _ _⟩
 case round =>
  obtain ⟨k,hk,rfl,hbr⟩:=hrel
  by_cases hlt:k<n
  ·have x0:wr.cell? ⟨b,off+k*6,none⟩=some (.string ⟨(auAt az k).ref.toArray⟩):=(hbr.cell (p:=⟨b,off+k*6,none⟩) hb).trans (HCX.out k hlt).1
   have x1:wr.cell? ⟨b,off+k*6+1,none⟩=some (.int .i64 (auAt az k).iss):=(hbr.cell (p:=⟨b,off+k*6+1,none⟩) hb).trans (HCX.out k hlt).2.1
   have x2:wr.cell? ⟨b,off+k*6+2,none⟩=some (.int .i64 (auAt az k).cur):=(hbr.cell (p:=⟨b,off+k*6+2,none⟩) hb).trans (HCX.out k hlt).2.2.1
   have x3:wr.cell? ⟨b,off+k*6+3,none⟩=some (.int .i64 (auAt az k).am):=(hbr.cell (p:=⟨b,off+k*6+3,none⟩) hb).trans (HCX.out k hlt).2.2.2.1
   have x4:wr.cell? ⟨b,off+k*6+4,none⟩=some (.int .i64 (auAt az k).day):=(hbr.cell (p:=⟨b,off+k*6+4,none⟩) hb).trans (HCX.out k hlt).2.2.2.2.1
   have x5:wr.cell? ⟨b,off+k*6+5,none⟩=some (.bool (auAt az k).used):=(hbr.cell (p:=⟨b,off+k*6+5,none⟩) hb).trans (HCX.out k hlt).2.2.2.2.2
   have y0:wr.cell? ⟨d,off2+k*6,none⟩=some (.string ⟨(auAt az k).ref.toArray⟩):=(hbr.cell (p:=⟨d,off2+k*6,none⟩) hd).trans (HCY.out k hlt).1
   have y1:wr.cell? ⟨d,off2+k*6+1,none⟩=some (.int .i64 (auAt az k).iss):=(hbr.cell (p:=⟨d,off2+k*6+1,none⟩) hd).trans (HCY.out k hlt).2.1
   have y2:wr.cell? ⟨d,off2+k*6+2,none⟩=some (.int .i64 (auAt az k).cur):=(hbr.cell (p:=⟨d,off2+k*6+2,none⟩) hd).trans (HCY.out k hlt).2.2.1
   have y3:wr.cell? ⟨d,off2+k*6+3,none⟩=some (.int .i64 (auAt az k).am):=(hbr.cell (p:=⟨d,off2+k*6+3,none⟩) hd).trans (HCY.out k hlt).2.2.2.1
   have y4:wr.cell? ⟨d,off2+k*6+4,none⟩=some (.int .i64 (auAt az k).day):=(hbr.cell (p:=⟨d,off2+k*6+4,none⟩) hd).trans (HCY.out k hlt).2.2.2.2.1
   have y5:wr.cell? ⟨d,off2+k*6+5,none⟩=some (.bool (auAt az k).used):=(hbr.cell (p:=⟨d,off2+k*6+5,none⟩) hd).trans (HCY.out k hlt).2.2.2.2.2
   have hki:(k:Int)<(n:Int):=by omega
   obtain ⟨⟨r,i,c,m,e,u⟩,hf⟩:∃ f,auAt az k=f:=⟨_,rfl⟩
   rw [hf] at x0 x1 x2 x3 x4 x5 y0 y1 y2 y3 y4 y5
   simp only at x0 x1 x2 x3 x4 x5 y0 y1 y2 y3 y4 y5
   have HQ:Hid (∀ v,Calls Tryz.prog 115 #[.agg #[.string ⟨r.toArray⟩,.int .i64 i,.int .i64 c,.int .i64 m,.int .i64 e,.bool u],.agg #[.string ⟨r.toArray⟩,.int .i64 i,.int .i64 c,.int .i64 m,.int .i64 e,.bool u]] v fun e v'=>e=.returned (.bool true)∧Below v.heap.size v v'):=fun v=>eqAuth_same ⟨r,i,c,m,e,u⟩ v
   clear hf
   go_wp2
   go_region_with (refine (HQ.out _).mono ?_;rintro e w2 ⟨rfl,b2⟩)
   all_goals
    go_wp2
    go_roundw
    case rel=>exact ⟨k+1,by omega,by go_num,(below_drewN hbr _).trans (b2.mono hbr.size)⟩
    case measure=>simp [intOf];omega
  ·go_wp2
   go_ret
   exact ⟨rfl,hbr⟩
end Go.Proofs.YtomiclakhjncbaaGreatDoor
