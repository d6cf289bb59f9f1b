import Derived.Test.YtomiclakhjncbaaGreatDoorJE2b
namespace Go.Proofs.YtomiclakhjncbaaGreatDoor
open Go.RowKit Go.Proofs.Tryz
set_option maxRecDepth 100000
set_option maxHeartbeats 12800000
theorem mJ {q:Option (Nat×Obj)} {w u:World} {H:List Cd} {g cap:Nat} (h:HP q w H (some ⟨g,0,none⟩) cap u) (m:Nat) (hm:H.length=m+1) (hn:H.length≤1000) :
  Calls prog 311 #[iC w,.int .i64 0,.int .i64 m] u fun e u'=>(∃ z,e=.returned (.bool z))∧∃ G,HP q w G (some ⟨g,0,none⟩) cap u'∧G.length=H.length∧Bc G m=Bc H m:=by
 have HH:Hid (HP q w H (some ⟨g,0,none⟩) cap u):=h
 have hmb:m≤1000:=by omega
 have HM:Hid (H.length=m+1):=hm;clear h hm hn;unfold iC
 go_enter func311,ntmps311
 go_wp2
 go_loopw [7,8,9,10] (fun v _ _ _ wr=>∃ (i:Nat) (G:List Cd),i≤m∧v=.int .i64 i∧HP q w G (some ⟨g,0,none⟩) cap wr∧G.length=H.length∧Bc G m=Bc H m) (fun v _ _ _ _=>m - (intOf v).toNat)
 case atStart=>exact ⟨0,H,Nat.zero_le _,rfl,HH.o,rfl,rfl⟩
 case round =>
  obtain ⟨i,G,hi,rfl,hp,hgl,hls⟩:=hrel;have HGL:Hid (G.length=H.length):=hgl;have HLS:Hid (Bc G m=Bc H m):=hls
  have hgm:m<G.length:=by have:=HM.o;omega
  have HP0:Hid (HP q w G (some ⟨g,0,none⟩) cap wr):=hp;clear HH hp hgl hls
  by_cases h1:2*i+1<m
  ·obtain ⟨x,hx⟩:∃ x,2*i+1=x:=⟨_,rfl⟩
   have hxi:i<x:=by omega
   have hxm:x<m:=by omega
   have hxe:2 * (i:Int)+1=(x:Int):=by omega
   have hxl:(x:Int)<(m:Int):=by omega
   have HX:Hid _:=hx;clear hx h1
   by_cases h2:x+1<m
   ·obtain ⟨y,hy⟩:∃ y,x+1=y:=⟨_,rfl⟩
    have hye:(x:Int)+1=(y:Int):=by omega
    have hyl:(y:Int)<(m:Int):=by omega
    have hyi:i<y:=by omega
    have hym:y<m:=by omega
    clear h2
    cases hqq:Li (Bc G y) (Bc G x)
    ·have HLY:Hid (∀ v,HP q w G (some ⟨g,0,none⟩) cap v→Calls prog 400 #[.slice (some ⟨g,0,none⟩) G.length cap,.int .i64 (y:Nat),.int .i64 (x:Nat)] v fun e u'=>e=.returned (.bool false)∧BW v u'):=fun v hv=>by rw [← hqq];exact Dk hv y x (by omega) (by omega)
     have hm0:=Fk HP0.o.box
     have hy0:¬ x+1=0:=by omega
     clear hy;go_wp2_with fail
     refine (HLY.o _ HP0.o).mono ?_;rintro e u4 ⟨rfl,b4⟩;have HPV:Hid (HP q w G (some ⟨g,0,none⟩) cap u4):=HP0.o.below b4;clear b4 hm0
     cases hl:Li (Bc G x) (Bc G i)
     ·have HLX:Hid (∀ v,HP q w G (some ⟨g,0,none⟩) cap v→Calls prog 400 #[.slice (some ⟨g,0,none⟩) G.length cap,.int .i64 (x:Nat),.int .i64 i] v fun e u'=>e=.returned (.bool false)∧BW v u'):=fun v hv=>by rw [← hl];exact Dk hv (x) i (by omega) (by omega)
      have hmx:=Fk HPV.o.box
      skip
      go_wp2_with fail
      refine (HLX.o _ HPV.o).mono ?_;rintro e u5 ⟨rfl,b5⟩;have HP5:Hid (HP q w G (some ⟨g,0,none⟩) cap u5):=HPV.o.below b5;clear b5 hmx;go_wp2;go_ret;exact ⟨⟨_,rfl⟩,G,HP5.o,HGL.o,HLS.o⟩
     ·have HLX:Hid (∀ v,HP q w G (some ⟨g,0,none⟩) cap v→Calls prog 400 #[.slice (some ⟨g,0,none⟩) G.length cap,.int .i64 (x:Nat),.int .i64 i] v fun e u'=>e=.returned (.bool true)∧BW v u'):=fun v hv=>by rw [← hl];exact Dk hv (x) i (by omega) (by omega)
      have HSX:Hid (∀ v,HP q w G (some ⟨g,0,none⟩) cap v→Calls prog 401 #[.slice (some ⟨g,0,none⟩) G.length cap,.int .i64 i,.int .i64 (x:Nat)] v fun e u'=>e=.returned (.tuple #[])∧HP q w (Cu G i (x)) (some ⟨g,0,none⟩) cap u'):=fun v hv=>Ke hv i (x) (by omega) (by omega)
      have HNG:Hid ((Cu G i (x)).length=H.length):=by rw [Hid,Hc];exact HGL.o
      have HNL:Hid (Bc (Cu G i (x)) m=Bc H m):=by rw [Hid,Fi (by omega) (by omega),Gz _ (by omega) (by omega)];exact HLS.o
      have hmx:=Fk HPV.o.box
      skip
      go_wp2_with fail
      refine (HLX.o _ HPV.o).mono ?_;rintro e u5 ⟨rfl,b5⟩;have HP5:Hid (HP q w G (some ⟨g,0,none⟩) cap u5):=HPV.o.below b5;have hmy:=Iv HP5.o.box;clear b5 hmx;go_wp2_with fail
      refine (HSX.o _ HP5.o).mono ?_;rintro e u6 ⟨rfl,hp6⟩;have HP6:Hid (HP q w (Cu G i (x)) (some ⟨g,0,none⟩) cap u6):=hp6;clear hp6 hmy;go_wp2
      go_roundw
      case rel=>exact ⟨x,Cu G i (x),by omega,rfl,HP6.o,HNG.o,HNL.o⟩
      case measure=>simp [intOf];omega
    ·have HLY:Hid (∀ v,HP q w G (some ⟨g,0,none⟩) cap v→Calls prog 400 #[.slice (some ⟨g,0,none⟩) G.length cap,.int .i64 (y:Nat),.int .i64 (x:Nat)] v fun e u'=>e=.returned (.bool true)∧BW v u'):=fun v hv=>by rw [← hqq];exact Dk hv y x (by omega) (by omega)
     have hm0:=Fk HP0.o.box;clear hy;go_wp2_with fail
     refine (HLY.o _ HP0.o).mono ?_;rintro e u4 ⟨rfl,b4⟩;have HPV:Hid (HP q w G (some ⟨g,0,none⟩) cap u4):=HP0.o.below b4;clear b4 hm0
     cases hl:Li (Bc G y) (Bc G i)
     ·have HLX:Hid (∀ v,HP q w G (some ⟨g,0,none⟩) cap v→Calls prog 400 #[.slice (some ⟨g,0,none⟩) G.length cap,.int .i64 (y:Nat),.int .i64 i] v fun e u'=>e=.returned (.bool false)∧BW v u'):=fun v hv=>by rw [← hl];exact Dk hv (y) i (by omega) (by omega)
      have hmx:=Fk HPV.o.box
      skip
      go_wp2_with fail
      refine (HLX.o _ HPV.o).mono ?_;rintro e u5 ⟨rfl,b5⟩;have HP5:Hid (HP q w G (some ⟨g,0,none⟩) cap u5):=HPV.o.below b5;clear b5 hmx;go_wp2;go_ret;exact ⟨⟨_,rfl⟩,G,HP5.o,HGL.o,HLS.o⟩
     ·have HLX:Hid (∀ v,HP q w G (some ⟨g,0,none⟩) cap v→Calls prog 400 #[.slice (some ⟨g,0,none⟩) G.length cap,.int .i64 (y:Nat),.int .i64 i] v fun e u'=>e=.returned (.bool true)∧BW v u'):=fun v hv=>by rw [← hl];exact Dk hv (y) i (by omega) (by omega)
      have HSX:Hid (∀ v,HP q w G (some ⟨g,0,none⟩) cap v→Calls prog 401 #[.slice (some ⟨g,0,none⟩) G.length cap,.int .i64 i,.int .i64 (y:Nat)] v fun e u'=>e=.returned (.tuple #[])∧HP q w (Cu G i (y)) (some ⟨g,0,none⟩) cap u'):=fun v hv=>Ke hv i (y) (by omega) (by omega)
      have HNG:Hid ((Cu G i (y)).length=H.length):=by rw [Hid,Hc];exact HGL.o
      have HNL:Hid (Bc (Cu G i (y)) m=Bc H m):=by rw [Hid,Fi (by omega) (by omega),Gz _ (by omega) (by omega)];exact HLS.o
      have hmx:=Fk HPV.o.box
      skip
      go_wp2_with fail
      refine (HLX.o _ HPV.o).mono ?_;rintro e u5 ⟨rfl,b5⟩;have HP5:Hid (HP q w G (some ⟨g,0,none⟩) cap u5):=HPV.o.below b5;have hmy:=Iv HP5.o.box;clear b5 hmx;go_wp2_with fail
      refine (HSX.o _ HP5.o).mono ?_;rintro e u6 ⟨rfl,hp6⟩;have HP6:Hid (HP q w (Cu G i (y)) (some ⟨g,0,none⟩) cap u6):=hp6;clear hp6 hmy;go_wp2
      go_roundw
      case rel=>exact ⟨y,Cu G i (y),by omega,rfl,HP6.o,HNG.o,HNL.o⟩
      case measure=>simp [intOf];omega
   ·have hyl:(m:Int)≤(x:Int)+1:=by omega
    have HPV:Hid (HP q w G (some ⟨g,0,none⟩) cap wr):=HP0.o;clear h2
    cases hl:Li (Bc G x) (Bc G i)
    ·have HLX:Hid (∀ v,HP q w G (some ⟨g,0,none⟩) cap v→Calls prog 400 #[.slice (some ⟨g,0,none⟩) G.length cap,.int .i64 (x:Nat),.int .i64 i] v fun e u'=>e=.returned (.bool false)∧BW v u'):=fun v hv=>by rw [← hl];exact Dk hv (x) i (by omega) (by omega)
     have hmx:=Fk HPV.o.box
     skip
     go_wp2_with fail
     refine (HLX.o _ HPV.o).mono ?_;rintro e u5 ⟨rfl,b5⟩;have HP5:Hid (HP q w G (some ⟨g,0,none⟩) cap u5):=HPV.o.below b5;clear b5 hmx;go_wp2;go_ret;exact ⟨⟨_,rfl⟩,G,HP5.o,HGL.o,HLS.o⟩
    ·have HLX:Hid (∀ v,HP q w G (some ⟨g,0,none⟩) cap v→Calls prog 400 #[.slice (some ⟨g,0,none⟩) G.length cap,.int .i64 (x:Nat),.int .i64 i] v fun e u'=>e=.returned (.bool true)∧BW v u'):=fun v hv=>by rw [← hl];exact Dk hv (x) i (by omega) (by omega)
     have HSX:Hid (∀ v,HP q w G (some ⟨g,0,none⟩) cap v→Calls prog 401 #[.slice (some ⟨g,0,none⟩) G.length cap,.int .i64 i,.int .i64 (x:Nat)] v fun e u'=>e=.returned (.tuple #[])∧HP q w (Cu G i (x)) (some ⟨g,0,none⟩) cap u'):=fun v hv=>Ke hv i (x) (by omega) (by omega)
     have HNG:Hid ((Cu G i (x)).length=H.length):=by rw [Hid,Hc];exact HGL.o
     have HNL:Hid (Bc (Cu G i (x)) m=Bc H m):=by rw [Hid,Fi (by omega) (by omega),Gz _ (by omega) (by omega)];exact HLS.o
     have hmx:=Fk HPV.o.box
     skip
     go_wp2_with fail
     refine (HLX.o _ HPV.o).mono ?_;rintro e u5 ⟨rfl,b5⟩;have HP5:Hid (HP q w G (some ⟨g,0,none⟩) cap u5):=HPV.o.below b5;have hmy:=Iv HP5.o.box;clear b5 hmx;go_wp2_with fail
     refine (HSX.o _ HP5.o).mono ?_;rintro e u6 ⟨rfl,hp6⟩;have HP6:Hid (HP q w (Cu G i (x)) (some ⟨g,0,none⟩) cap u6):=hp6;clear hp6 hmy;go_wp2
     go_roundw
     case rel=>exact ⟨x,Cu G i (x),by omega,rfl,HP6.o,HNG.o,HNL.o⟩
     case measure=>simp [intOf];omega
  ·have h1':(m:Int)≤2 * (i:Int)+1:=by omega
   clear h1;go_wp2;go_ret;exact ⟨⟨_,rfl⟩,G,HP0.o,HGL.o,HLS.o⟩
end Go.Proofs.YtomiclakhjncbaaGreatDoor
