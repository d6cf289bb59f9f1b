import Derived.Test.YtomiclakhjncbaaGreatDoorJT2a
namespace Go.Proofs.YtomiclakhjncbaaGreatDoor
open Go.RowKit Go.Proofs.Tryz
set_option maxRecDepth 100000
set_option maxHeartbeats 12800000
theorem mJ {q:Option (Nat×Obj)} {w u:World} {H:List Cd} {g cap:Nat} (h:HP q w H (some (qzA g 0)) cap u) (m:Nat) (R:H.length=m+1) (Y:H.length<=1000) :
  Calls prog 311 #[iC w,qzI 0,qzI m] u fun e u'=>(∃ z,e=.returned (.bool z))/\∃ G,HP q w G (some (qzA g 0)) cap u'/\G.length=H.length/\Bc G m=Bc H m:=by
 have O:Hid (HP q w H (some (qzA g 0)) cap u):=h
 have X:m<=1000:=by omega
 have U:Hid (H.length=m+1):=R;clear h R Y;unfold iC
 go_enter func311,ntmps311
 go_wp2
 go_loopw [7,8,9,10] (fun v _ _ _ wr=>∃ (i:Nat) (G:List Cd),i<=m/\v=qzI i/\HP q w G (some (qzA g 0)) cap wr/\G.length=H.length/\Bc G m=Bc H m) (fun v _ _ _ _=>m - (intOf v).toNat)
 case atStart=>exact ⟨0,H,Nat.zero_le _,rfl,O.o,rfl,rfl⟩
 case round =>
  obtain ⟨i,G,hi,rfl,S,I,J⟩:=hrel;have l:Hid (G.length=H.length):=I;have n:Hid (Bc G m=Bc H m):=J
  have W:m<G.length:=by have:=U.o;omega
  have f:Hid (HP q w G (some (qzA g 0)) cap wr):=S;clear O S I J
  by_cases h1:2*i+1<m
  ·obtain ⟨x,T⟩:∃ x,2*i+1=x:=⟨_,rfl⟩
   have a3:i<x:=by omega
   have a5:x<m:=by omega
   have Z:2 * (i:Int)+1=(x:Int):=by omega
   have a4:(x:Int)<(m:Int):=by omega
   have HX:Hid _:=T;clear T h1
   by_cases h2:x+1<m
   ·obtain ⟨y,hy⟩:∃ y,x+1=y:=⟨_,rfl⟩
    have a7:(x:Int)+1=(y:Int):=by omega
    have M:(y:Int)<(m:Int):=by omega
    have a8:i<y:=by omega
    have a9:y<m:=by omega
    clear h2
    cases hqq:Li (Bc G y) (Bc G x)
    ·have C:Hid (∀ v,HP q w G (some (qzA g 0)) cap v->Calls prog 400 #[.slice (some (qzA g 0)) G.length cap,qzI (y:Nat),qzI (x:Nat)] v fun e u'=>e=.returned (.bool false)/\BW v u'):=fun v hv=>by rw [<- hqq];exact Dk hv y x (by omega) (by omega)
     have D:=Fk f.o.box
     have a6:¬ x+1=0:=by omega
     clear hy;go_wp2_with fail
     refine (C.o _ f.o).mono ?_;rintro e N ⟨rfl,F⟩;have a:Hid (HP q w G (some (qzA g 0)) cap N):=f.o.below F;clear F D
     cases hl:Li (Bc G x) (Bc G i)
     ·have c:Hid (∀ v,HP q w G (some (qzA g 0)) cap v->Calls prog 400 #[.slice (some (qzA g 0)) G.length cap,qzI (x:Nat),qzI i] v fun e u'=>e=.returned (.bool false)/\BW v u'):=fun v hv=>by rw [<- hl];exact Dk hv (x) i (by omega) (by omega)
      have d:=Fk a.o.box
      skip
      go_wp2_with fail
      refine (c.o _ a.o).mono ?_;rintro e B ⟨rfl,j⟩;have b:Hid (HP q w G (some (qzA g 0)) cap B):=a.o.below j;clear j d;go_wp2;go_ret;exact ⟨⟨_,rfl⟩,G,b.o,l.o,n.o⟩
     ·have c:Hid (∀ v,HP q w G (some (qzA g 0)) cap v->Calls prog 400 #[.slice (some (qzA g 0)) G.length cap,qzI (x:Nat),qzI i] v fun e u'=>e=.returned (.bool true)/\BW v u'):=fun v hv=>by rw [<- hl];exact Dk hv (x) i (by omega) (by omega)
      have t:Hid (∀ v,HP q w G (some (qzA g 0)) cap v->Calls prog 401 #[.slice (some (qzA g 0)) G.length cap,qzI i,qzI (x:Nat)] v fun e u'=>e=.returned (.tuple #[])/\HP q w (Cu G i (x)) (some (qzA g 0)) cap u'):=fun v hv=>Ke hv i (x) (by omega) (by omega)
      have p:Hid ((Cu G i (x)).length=H.length):=by rw [Hid,Hc];exact l.o
      have r:Hid (Bc (Cu G i (x)) m=Bc H m):=by rw [Hid,Fi (by omega) (by omega),Gz _ (by omega) (by omega)];exact n.o
      have d:=Fk a.o.box
      skip
      go_wp2_with fail
      refine (c.o _ a.o).mono ?_;rintro e B ⟨rfl,j⟩;have b:Hid (HP q w G (some (qzA g 0)) cap B):=a.o.below j;have A:=Iv b.o.box;clear j d;go_wp2_with fail
      refine (t.o _ b.o).mono ?_;rintro e L ⟨rfl,k⟩;have s:Hid (HP q w (Cu G i (x)) (some (qzA g 0)) cap L):=k;clear k A;go_wp2
      go_roundw
      case rel=>exact ⟨x,Cu G i (x),by omega,rfl,s.o,p.o,r.o⟩
      case measure=>simp [intOf];omega
    ·have C:Hid (∀ v,HP q w G (some (qzA g 0)) cap v->Calls prog 400 #[.slice (some (qzA g 0)) G.length cap,qzI (y:Nat),qzI (x:Nat)] v fun e u'=>e=.returned (.bool true)/\BW v u'):=fun v hv=>by rw [<- hqq];exact Dk hv y x (by omega) (by omega)
     have D:=Fk f.o.box;clear hy;go_wp2_with fail
     refine (C.o _ f.o).mono ?_;rintro e N ⟨rfl,F⟩;have a:Hid (HP q w G (some (qzA g 0)) cap N):=f.o.below F;clear F D
     cases hl:Li (Bc G y) (Bc G i)
     ·have c:Hid (∀ v,HP q w G (some (qzA g 0)) cap v->Calls prog 400 #[.slice (some (qzA g 0)) G.length cap,qzI (y:Nat),qzI i] v fun e u'=>e=.returned (.bool false)/\BW v u'):=fun v hv=>by rw [<- hl];exact Dk hv (y) i (by omega) (by omega)
      have d:=Fk a.o.box
      skip
      go_wp2_with fail
      refine (c.o _ a.o).mono ?_;rintro e B ⟨rfl,j⟩;have b:Hid (HP q w G (some (qzA g 0)) cap B):=a.o.below j;clear j d;go_wp2;go_ret;exact ⟨⟨_,rfl⟩,G,b.o,l.o,n.o⟩
     ·have c:Hid (∀ v,HP q w G (some (qzA g 0)) cap v->Calls prog 400 #[.slice (some (qzA g 0)) G.length cap,qzI (y:Nat),qzI i] v fun e u'=>e=.returned (.bool true)/\BW v u'):=fun v hv=>by rw [<- hl];exact Dk hv (y) i (by omega) (by omega)
      have t:Hid (∀ v,HP q w G (some (qzA g 0)) cap v->Calls prog 401 #[.slice (some (qzA g 0)) G.length cap,qzI i,qzI (y:Nat)] v fun e u'=>e=.returned (.tuple #[])/\HP q w (Cu G i (y)) (some (qzA g 0)) cap u'):=fun v hv=>Ke hv i (y) (by omega) (by omega)
      have p:Hid ((Cu G i (y)).length=H.length):=by rw [Hid,Hc];exact l.o
      have r:Hid (Bc (Cu G i (y)) m=Bc H m):=by rw [Hid,Fi (by omega) (by omega),Gz _ (by omega) (by omega)];exact n.o
      have d:=Fk a.o.box
      skip
      go_wp2_with fail
      refine (c.o _ a.o).mono ?_;rintro e B ⟨rfl,j⟩;have b:Hid (HP q w G (some (qzA g 0)) cap B):=a.o.below j;have A:=Iv b.o.box;clear j d;go_wp2_with fail
      refine (t.o _ b.o).mono ?_;rintro e L ⟨rfl,k⟩;have s:Hid (HP q w (Cu G i (y)) (some (qzA g 0)) cap L):=k;clear k A;go_wp2
      go_roundw
      case rel=>exact ⟨y,Cu G i (y),by omega,rfl,s.o,p.o,r.o⟩
      case measure=>simp [intOf];omega
   ·have M:(m:Int)<=(x:Int)+1:=by omega
    have a:Hid (HP q w G (some (qzA g 0)) cap wr):=f.o;clear h2
    cases hl:Li (Bc G x) (Bc G i)
    ·have c:Hid (∀ v,HP q w G (some (qzA g 0)) cap v->Calls prog 400 #[.slice (some (qzA g 0)) G.length cap,qzI (x:Nat),qzI i] v fun e u'=>e=.returned (.bool false)/\BW v u'):=fun v hv=>by rw [<- hl];exact Dk hv (x) i (by omega) (by omega)
     have d:=Fk a.o.box
     skip
     go_wp2_with fail
     refine (c.o _ a.o).mono ?_;rintro e B ⟨rfl,j⟩;have b:Hid (HP q w G (some (qzA g 0)) cap B):=a.o.below j;clear j d;go_wp2;go_ret;exact ⟨⟨_,rfl⟩,G,b.o,l.o,n.o⟩
    ·have c:Hid (∀ v,HP q w G (some (qzA g 0)) cap v->Calls prog 400 #[.slice (some (qzA g 0)) G.length cap,qzI (x:Nat),qzI i] v fun e u'=>e=.returned (.bool true)/\BW v u'):=fun v hv=>by rw [<- hl];exact Dk hv (x) i (by omega) (by omega)
     have t:Hid (∀ v,HP q w G (some (qzA g 0)) cap v->Calls prog 401 #[.slice (some (qzA g 0)) G.length cap,qzI i,qzI (x:Nat)] v fun e u'=>e=.returned (.tuple #[])/\HP q w (Cu G i (x)) (some (qzA g 0)) cap u'):=fun v hv=>Ke hv i (x) (by omega) (by omega)
     have p:Hid ((Cu G i (x)).length=H.length):=by rw [Hid,Hc];exact l.o
     have r:Hid (Bc (Cu G i (x)) m=Bc H m):=by rw [Hid,Fi (by omega) (by omega),Gz _ (by omega) (by omega)];exact n.o
     have d:=Fk a.o.box
     skip
     go_wp2_with fail
     refine (c.o _ a.o).mono ?_;rintro e B ⟨rfl,j⟩;have b:Hid (HP q w G (some (qzA g 0)) cap B):=a.o.below j;have A:=Iv b.o.box;clear j d;go_wp2_with fail
     refine (t.o _ b.o).mono ?_;rintro e L ⟨rfl,k⟩;have s:Hid (HP q w (Cu G i (x)) (some (qzA g 0)) cap L):=k;clear k A;go_wp2
     go_roundw
     case rel=>exact ⟨x,Cu G i (x),by omega,rfl,s.o,p.o,r.o⟩
     case measure=>simp [intOf];omega
  ·have V:(m:Int)<=2 * (i:Int)+1:=by omega
   clear h1;go_wp2;go_ret;exact ⟨⟨_,rfl⟩,G,f.o,l.o,n.o⟩
end Go.Proofs.YtomiclakhjncbaaGreatDoor
