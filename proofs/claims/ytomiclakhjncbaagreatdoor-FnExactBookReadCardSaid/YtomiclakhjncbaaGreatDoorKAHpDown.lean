import Derived.Test.YtomiclakhjncbaaGreatDoorJA2a
namespace Go.Proofs.YtomiclakhjncbaaGreatDoor
open Go.RowKit
set_option maxRecDepth 100000
set_option maxHeartbeats 12800000
theorem down_any {q:Option (Nat×Obj)} {w u:World} {H:List Cd} {g cap:Nat} (h:HP q w H (some ⟨g,0,none⟩) cap u) (m:Nat) (hm:H.length=m+1) (hn:H.length≤1000) :
  Calls Tryz.prog 311 #[hpV w,.int .i64 0,.int .i64 m] u fun e u'=>(∃ z,e=.returned (.bool z))∧∃ G,HP q w G (some ⟨g,0,none⟩) cap u'∧G.length=H.length∧cdAt G m=cdAt H m:=by
 have HH:Hid (HP q w H (some ⟨g,0,none⟩) cap u):=h
 have hmb:m≤1000:=by omega
 have HM:Hid (H.length=m+1):=hm
 clear h hm hn
 unfold hpV
 go_enter Tryz.func311,Tryz.ntmps311
 go_wp2
 go_loopw [7,8,9,10] (fun v _ _ _ wr=>∃ (i:Nat) (G:List Cd),i≤m∧v=.int .i64 i∧HP q w G (some ⟨g,0,none⟩) cap wr∧G.length=H.length∧cdAt G m=cdAt H m) (fun v _ _ _ _=>m - (intOf v).toNat)
 case atStart=>exact ⟨0,H,Nat.zero_le _,rfl,HH.out,rfl,rfl⟩
 case round =>
  obtain ⟨i,G,hi,rfl,hp,hgl,hls⟩:=hrel
  have HGL:Hid (G.length=H.length):=hgl
  have HLS:Hid (cdAt G m=cdAt H m):=hls
  have hgm:m<G.length:=by have:=HM.out;omega
  have HP0:Hid (HP q w G (some ⟨g,0,none⟩) cap wr):=hp
  clear HH hp hgl hls
  by_cases h1:2*i+1<m
  ·obtain ⟨x,hx⟩:∃ x,2*i+1=x:=⟨_,rfl⟩
   have hxi:i<x:=by omega
   have hxm:x<m:=by omega
   have hxe:2 * (i:Int)+1=(x:Int):=by omega
   have hxl:(x:Int)<(m:Int):=by omega
   have HX:Hid _:=hx
   clear hx h1
   by_cases h2:x+1<m
   ·obtain ⟨y,hy⟩:∃ y,x+1=y:=⟨_,rfl⟩
    have hye:(x:Int)+1=(y:Int):=by omega
    have hyl:(y:Int)<(m:Int):=by omega
    have hyi:i<y:=by omega
    have hym:y<m:=by omega
    clear h2
    cases hqq:ltC (cdAt G y) (cdAt G x)
    ·have HLY:Hid (∀ v,HP q w G (some ⟨g,0,none⟩) cap v→Calls Tryz.prog 400 #[.slice (some ⟨g,0,none⟩) G.length cap,.int .i64 (y:Nat),.int .i64 (x:Nat)] v fun e u'=>e=.returned (.bool false)∧Below v.heap.size v u'):=fun v hv=>by rw [← hqq];exact lessHp_any hv y x (by omega) (by omega)
     have hm0:=methLess HP0.out.box
     have hy0:¬ x+1=0:=by omega
     clear hy
     go_wp2_with fail
     refine (HLY.out _ HP0.out).mono ?_
     rintro e u4 ⟨rfl,b4⟩
     have HPV:Hid (HP q w G (some ⟨g,0,none⟩) cap u4):=HP0.out.below b4
     clear b4 hm0
     cases hl:ltC (cdAt G x) (cdAt G i)
     ·have HLX:Hid (∀ v,HP q w G (some ⟨g,0,none⟩) cap v→Calls Tryz.prog 400 #[.slice (some ⟨g,0,none⟩) G.length cap,.int .i64 (x:Nat),.int .i64 i] v fun e u'=>e=.returned (.bool false)∧Below v.heap.size v u'):=fun v hv=>by rw [← hl];exact lessHp_any hv (x) i (by omega) (by omega)
      have hmx:=methLess HPV.out.box
      skip
      go_wp2_with fail
      refine (HLX.out _ HPV.out).mono ?_
      rintro e u5 ⟨rfl,b5⟩
      have HP5:Hid (HP q w G (some ⟨g,0,none⟩) cap u5):=HPV.out.below b5
      clear b5 hmx
      go_wp2
      go_ret
      exact ⟨⟨_,rfl⟩,G,HP5.out,HGL.out,HLS.out⟩
     ·have HLX:Hid (∀ v,HP q w G (some ⟨g,0,none⟩) cap v→Calls Tryz.prog 400 #[.slice (some ⟨g,0,none⟩) G.length cap,.int .i64 (x:Nat),.int .i64 i] v fun e u'=>e=.returned (.bool true)∧Below v.heap.size v u'):=fun v hv=>by rw [← hl];exact lessHp_any hv (x) i (by omega) (by omega)
      have HSX:Hid (∀ v,HP q w G (some ⟨g,0,none⟩) cap v→Calls Tryz.prog 401 #[.slice (some ⟨g,0,none⟩) G.length cap,.int .i64 i,.int .i64 (x:Nat)] v fun e u'=>e=.returned (.tuple #[])∧HP q w (swapL G i (x)) (some ⟨g,0,none⟩) cap u'):=fun v hv=>swap_any hv i (x) (by omega) (by omega)
      have HNG:Hid ((swapL G i (x)).length=H.length):=by rw [Hid,swapL_len];exact HGL.out
      have HNL:Hid (cdAt (swapL G i (x)) m=cdAt H m):=by rw [Hid,swapL_at (by omega) (by omega),swapF_m _ (by omega) (by omega)];exact HLS.out
      have hmx:=methLess HPV.out.box
      skip
      go_wp2_with fail
      refine (HLX.out _ HPV.out).mono ?_
      rintro e u5 ⟨rfl,b5⟩
      have HP5:Hid (HP q w G (some ⟨g,0,none⟩) cap u5):=HPV.out.below b5
      have hmy:=methSwap HP5.out.box
      clear b5 hmx
      go_wp2_with fail
      refine (HSX.out _ HP5.out).mono ?_
      rintro e u6 ⟨rfl,hp6⟩
      have HP6:Hid (HP q w (swapL G i (x)) (some ⟨g,0,none⟩) cap u6):=hp6
      clear hp6 hmy
      go_wp2
      go_roundw
      case rel=>exact ⟨x,swapL G i (x),by omega,rfl,HP6.out,HNG.out,HNL.out⟩
      case measure=>simp [intOf];omega
    ·have HLY:Hid (∀ v,HP q w G (some ⟨g,0,none⟩) cap v→Calls Tryz.prog 400 #[.slice (some ⟨g,0,none⟩) G.length cap,.int .i64 (y:Nat),.int .i64 (x:Nat)] v fun e u'=>e=.returned (.bool true)∧Below v.heap.size v u'):=fun v hv=>by rw [← hqq];exact lessHp_any hv y x (by omega) (by omega)
     have hm0:=methLess HP0.out.box
     clear hy
     go_wp2_with fail
     refine (HLY.out _ HP0.out).mono ?_
     rintro e u4 ⟨rfl,b4⟩
     have HPV:Hid (HP q w G (some ⟨g,0,none⟩) cap u4):=HP0.out.below b4
     clear b4 hm0
     cases hl:ltC (cdAt G y) (cdAt G i)
     ·have HLX:Hid (∀ v,HP q w G (some ⟨g,0,none⟩) cap v→Calls Tryz.prog 400 #[.slice (some ⟨g,0,none⟩) G.length cap,.int .i64 (y:Nat),.int .i64 i] v fun e u'=>e=.returned (.bool false)∧Below v.heap.size v u'):=fun v hv=>by rw [← hl];exact lessHp_any hv (y) i (by omega) (by omega)
      have hmx:=methLess HPV.out.box
      skip
      go_wp2_with fail
      refine (HLX.out _ HPV.out).mono ?_
      rintro e u5 ⟨rfl,b5⟩
      have HP5:Hid (HP q w G (some ⟨g,0,none⟩) cap u5):=HPV.out.below b5
      clear b5 hmx
      go_wp2
      go_ret
      exact ⟨⟨_,rfl⟩,G,HP5.out,HGL.out,HLS.out⟩
     ·have HLX:Hid (∀ v,HP q w G (some ⟨g,0,none⟩) cap v→Calls Tryz.prog 400 #[.slice (some ⟨g,0,none⟩) G.length cap,.int .i64 (y:Nat),.int .i64 i] v fun e u'=>e=.returned (.bool true)∧Below v.heap.size v u'):=fun v hv=>by rw [← hl];exact lessHp_any hv (y) i (by omega) (by omega)
      have HSX:Hid (∀ v,HP q w G (some ⟨g,0,none⟩) cap v→Calls Tryz.prog 401 #[.slice (some ⟨g,0,none⟩) G.length cap,.int .i64 i,.int .i64 (y:Nat)] v fun e u'=>e=.returned (.tuple #[])∧HP q w (swapL G i (y)) (some ⟨g,0,none⟩) cap u'):=fun v hv=>swap_any hv i (y) (by omega) (by omega)
      have HNG:Hid ((swapL G i (y)).length=H.length):=by rw [Hid,swapL_len];exact HGL.out
      have HNL:Hid (cdAt (swapL G i (y)) m=cdAt H m):=by rw [Hid,swapL_at (by omega) (by omega),swapF_m _ (by omega) (by omega)];exact HLS.out
      have hmx:=methLess HPV.out.box
      skip
      go_wp2_with fail
      refine (HLX.out _ HPV.out).mono ?_
      rintro e u5 ⟨rfl,b5⟩
      have HP5:Hid (HP q w G (some ⟨g,0,none⟩) cap u5):=HPV.out.below b5
      have hmy:=methSwap HP5.out.box
      clear b5 hmx
      go_wp2_with fail
      refine (HSX.out _ HP5.out).mono ?_
      rintro e u6 ⟨rfl,hp6⟩
      have HP6:Hid (HP q w (swapL G i (y)) (some ⟨g,0,none⟩) cap u6):=hp6
      clear hp6 hmy
      go_wp2
      go_roundw
      case rel=>exact ⟨y,swapL G i (y),by omega,rfl,HP6.out,HNG.out,HNL.out⟩
      case measure=>simp [intOf];omega
   ·have hyl:(m:Int)≤(x:Int)+1:=by omega
    have HPV:Hid (HP q w G (some ⟨g,0,none⟩) cap wr):=HP0.out
    clear h2
    cases hl:ltC (cdAt G x) (cdAt G i)
    ·have HLX:Hid (∀ v,HP q w G (some ⟨g,0,none⟩) cap v→Calls Tryz.prog 400 #[.slice (some ⟨g,0,none⟩) G.length cap,.int .i64 (x:Nat),.int .i64 i] v fun e u'=>e=.returned (.bool false)∧Below v.heap.size v u'):=fun v hv=>by rw [← hl];exact lessHp_any hv (x) i (by omega) (by omega)
     have hmx:=methLess HPV.out.box
     skip
     go_wp2_with fail
     refine (HLX.out _ HPV.out).mono ?_
     rintro e u5 ⟨rfl,b5⟩
     have HP5:Hid (HP q w G (some ⟨g,0,none⟩) cap u5):=HPV.out.below b5
     clear b5 hmx
     go_wp2
     go_ret
     exact ⟨⟨_,rfl⟩,G,HP5.out,HGL.out,HLS.out⟩
    ·have HLX:Hid (∀ v,HP q w G (some ⟨g,0,none⟩) cap v→Calls Tryz.prog 400 #[.slice (some ⟨g,0,none⟩) G.length cap,.int .i64 (x:Nat),.int .i64 i] v fun e u'=>e=.returned (.bool true)∧Below v.heap.size v u'):=fun v hv=>by rw [← hl];exact lessHp_any hv (x) i (by omega) (by omega)
     have HSX:Hid (∀ v,HP q w G (some ⟨g,0,none⟩) cap v→Calls Tryz.prog 401 #[.slice (some ⟨g,0,none⟩) G.length cap,.int .i64 i,.int .i64 (x:Nat)] v fun e u'=>e=.returned (.tuple #[])∧HP q w (swapL G i (x)) (some ⟨g,0,none⟩) cap u'):=fun v hv=>swap_any hv i (x) (by omega) (by omega)
     have HNG:Hid ((swapL G i (x)).length=H.length):=by rw [Hid,swapL_len];exact HGL.out
     have HNL:Hid (cdAt (swapL G i (x)) m=cdAt H m):=by rw [Hid,swapL_at (by omega) (by omega),swapF_m _ (by omega) (by omega)];exact HLS.out
     have hmx:=methLess HPV.out.box
     skip
     go_wp2_with fail
     refine (HLX.out _ HPV.out).mono ?_
     rintro e u5 ⟨rfl,b5⟩
     have HP5:Hid (HP q w G (some ⟨g,0,none⟩) cap u5):=HPV.out.below b5
     have hmy:=methSwap HP5.out.box
     clear b5 hmx
     go_wp2_with fail
     refine (HSX.out _ HP5.out).mono ?_
     rintro e u6 ⟨rfl,hp6⟩
     have HP6:Hid (HP q w (swapL G i (x)) (some ⟨g,0,none⟩) cap u6):=hp6
     clear hp6 hmy
     go_wp2
     go_roundw
     case rel=>exact ⟨x,swapL G i (x),by omega,rfl,HP6.out,HNG.out,HNL.out⟩
     case measure=>simp [intOf];omega
  ·have h1':(m:Int)≤2 * (i:Int)+1:=by omega
   clear h1
   go_wp2
   go_ret
   exact ⟨⟨_,rfl⟩,G,HP0.out,HGL.out,HLS.out⟩
end Go.Proofs.YtomiclakhjncbaaGreatDoor
