import Derived.Test.YtfpafnefpmmofaaGreatDoorJW2b
namespace Go.Proofs.YtfpafnefpmmofaaGreatDoor
open Go.RowKit Go.Proofs.Tryz
set_option maxRecDepth 100000
set_option maxHeartbeats 12800000
theorem Acf {q:Option (Nat×Obj)} {w u:ql} {H:List Cd} {g cap:Nat} (h:HP q w H (some (qzA g 0)) cap u) (m:Nat) (hm:H.length=m+1) (hn:H.length<=1000) :
  qi 312 #[hpV w,qzI 0,qzI m] u λe u'=>(∃ z,e=.returned (.bool z))/\∃ G,HP q w G (some (qzA g 0)) cap u'/\G.length=H.length/\Bq G m=Bq H m:=by
 have M:=Aa h
 have U:m<=1000:=by omega
 have R:=Aa hm;clear h hm hn;unfold hpV
 go_enter func312,ntmps312
 go_wp2
 go_loopw [7,8,9,10] (λv _ _ _ wr=>∃ (i:Nat) (G:List Cd),i<=m/\v=qzI i/\HP q w G (some (qzA g 0)) cap wr/\G.length=H.length/\Bq G m=Bq H m) (λv _ _ _ _=>m - (intOf v).toNat)
 case atStart=>exact ⟨0,H,qw _,rfl,M.o,rfl,rfl⟩
 case round =>
  obtain ⟨i,G,hi,rfl,hp,F,I⟩:=hrel;have l:=Aa F;have n:=Aa I
  have T:m<G.length:=by have:=R.o;omega
  have f:=Aa hp;clear M hp F I
  by_cases h1:2*i+1<m
  ·obtain ⟨x,N⟩:=Ae (2*i+1)
   have W:i<x:=by omega
   have Y:x<m:=by omega
   have V:2 * (i:Int)+1=(x:Int):=by omega
   have X:(x:Int)<(m:Int):=by omega
   have HX:=Aa N;clear N h1
   by_cases h2:x+1<m
   ·obtain ⟨y,hy⟩:=Ae (x+1)
    have a3:(x:Int)+1=(y:Int):=by omega
    have L:(y:Int)<(m:Int):=by omega
    have a4:i<y:=by omega
    have a5:y<m:=by omega
    clear h2
    cases hqq:Qa (Bq G y) (Bq G x)
    ·have B:qj (∀ v,HP q w G (some (qzA g 0)) cap v->qi 435 #[qf (some (qzA g 0)) G.length cap,qzI (y:Nat),qzI (x:Nat)] v λe u'=>e=.returned (.bool false)/\BW v u'):=λv hv=>by rw [<- hqq];exact Eg hv y x (by omega) (by omega)
     have C:=He f.o.box
     have Z:¬ x+1=0:=by omega
     clear hy;go_wp2_with fail
     refine (B.o _ f.o).m ?_;rintro e u4 ⟨rfl,D⟩;have a:=Aa (f.o.below D);clear D C
     cases hl:Qa (Bq G x) (Bq G i)
     ·have c:qj (∀ v,HP q w G (some (qzA g 0)) cap v->qi 435 #[qf (some (qzA g 0)) G.length cap,qzI (x:Nat),qzI i] v λe u'=>e=.returned (.bool false)/\BW v u'):=λv hv=>by rw [<- hl];exact Eg hv (x) i (by omega) (by omega)
      have d:=He a.o.box
      skip
      go_wp2_with fail
      refine (c.o _ a.o).m ?_;rintro e J ⟨rfl,j⟩;have b:=Aa (a.o.below j);clear j d;go_wp2;go_ret;exact ⟨⟨_,rfl⟩,G,b.o,l.o,n.o⟩
     ·have c:qj (∀ v,HP q w G (some (qzA g 0)) cap v->qi 435 #[qf (some (qzA g 0)) G.length cap,qzI (x:Nat),qzI i] v λe u'=>e=.returned (.bool true)/\BW v u'):=λv hv=>by rw [<- hl];exact Eg hv (x) i (by omega) (by omega)
      have t:=Aa λv (hv:HP q w G (some (qzA g 0)) cap v)=>Nx hv i (x) (by omega) (by omega)
      have p:qj ((Dw G i (x)).length=H.length):=by rw [qj,Je];exact l.o
      have r:qj (Bq (Dw G i (x)) m=Bq H m):=by rw [qj,Gu (by omega) (by omega),Jb _ (by omega) (by omega)];exact n.o
      have d:=He a.o.box
      skip
      go_wp2_with fail
      refine (c.o _ a.o).m ?_;rintro e J ⟨rfl,j⟩;have b:=Aa (a.o.below j);have A:=Li b.o.box;clear j d;go_wp2_with fail
      refine (t.o _ b.o).m ?_;rintro e O ⟨rfl,k⟩;have s:=Aa k;clear k A;go_wp2
      go_roundw
      case rel=>exact ⟨x,Dw G i (x),by omega,rfl,s.o,p.o,r.o⟩
      case measure=>simp [intOf];omega
    ·have B:qj (∀ v,HP q w G (some (qzA g 0)) cap v->qi 435 #[qf (some (qzA g 0)) G.length cap,qzI (y:Nat),qzI (x:Nat)] v λe u'=>e=.returned (.bool true)/\BW v u'):=λv hv=>by rw [<- hqq];exact Eg hv y x (by omega) (by omega)
     have C:=He f.o.box;clear hy;go_wp2_with fail
     refine (B.o _ f.o).m ?_;rintro e u4 ⟨rfl,D⟩;have a:=Aa (f.o.below D);clear D C
     cases hl:Qa (Bq G y) (Bq G i)
     ·have c:qj (∀ v,HP q w G (some (qzA g 0)) cap v->qi 435 #[qf (some (qzA g 0)) G.length cap,qzI (y:Nat),qzI i] v λe u'=>e=.returned (.bool false)/\BW v u'):=λv hv=>by rw [<- hl];exact Eg hv (y) i (by omega) (by omega)
      have d:=He a.o.box
      skip
      go_wp2_with fail
      refine (c.o _ a.o).m ?_;rintro e J ⟨rfl,j⟩;have b:=Aa (a.o.below j);clear j d;go_wp2;go_ret;exact ⟨⟨_,rfl⟩,G,b.o,l.o,n.o⟩
     ·have c:qj (∀ v,HP q w G (some (qzA g 0)) cap v->qi 435 #[qf (some (qzA g 0)) G.length cap,qzI (y:Nat),qzI i] v λe u'=>e=.returned (.bool true)/\BW v u'):=λv hv=>by rw [<- hl];exact Eg hv (y) i (by omega) (by omega)
      have t:=Aa λv (hv:HP q w G (some (qzA g 0)) cap v)=>Nx hv i (y) (by omega) (by omega)
      have p:qj ((Dw G i (y)).length=H.length):=by rw [qj,Je];exact l.o
      have r:qj (Bq (Dw G i (y)) m=Bq H m):=by rw [qj,Gu (by omega) (by omega),Jb _ (by omega) (by omega)];exact n.o
      have d:=He a.o.box
      skip
      go_wp2_with fail
      refine (c.o _ a.o).m ?_;rintro e J ⟨rfl,j⟩;have b:=Aa (a.o.below j);have A:=Li b.o.box;clear j d;go_wp2_with fail
      refine (t.o _ b.o).m ?_;rintro e O ⟨rfl,k⟩;have s:=Aa k;clear k A;go_wp2
      go_roundw
      case rel=>exact ⟨y,Dw G i (y),by omega,rfl,s.o,p.o,r.o⟩
      case measure=>simp [intOf];omega
   ·have L:(m:Int)<=(x:Int)+1:=by omega
    have a:=Aa f.o;clear h2
    cases hl:Qa (Bq G x) (Bq G i)
    ·have c:qj (∀ v,HP q w G (some (qzA g 0)) cap v->qi 435 #[qf (some (qzA g 0)) G.length cap,qzI (x:Nat),qzI i] v λe u'=>e=.returned (.bool false)/\BW v u'):=λv hv=>by rw [<- hl];exact Eg hv (x) i (by omega) (by omega)
     have d:=He a.o.box
     skip
     go_wp2_with fail
     refine (c.o _ a.o).m ?_;rintro e J ⟨rfl,j⟩;have b:=Aa (a.o.below j);clear j d;go_wp2;go_ret;exact ⟨⟨_,rfl⟩,G,b.o,l.o,n.o⟩
    ·have c:qj (∀ v,HP q w G (some (qzA g 0)) cap v->qi 435 #[qf (some (qzA g 0)) G.length cap,qzI (x:Nat),qzI i] v λe u'=>e=.returned (.bool true)/\BW v u'):=λv hv=>by rw [<- hl];exact Eg hv (x) i (by omega) (by omega)
     have t:=Aa λv (hv:HP q w G (some (qzA g 0)) cap v)=>Nx hv i (x) (by omega) (by omega)
     have p:qj ((Dw G i (x)).length=H.length):=by rw [qj,Je];exact l.o
     have r:qj (Bq (Dw G i (x)) m=Bq H m):=by rw [qj,Gu (by omega) (by omega),Jb _ (by omega) (by omega)];exact n.o
     have d:=He a.o.box
     skip
     go_wp2_with fail
     refine (c.o _ a.o).m ?_;rintro e J ⟨rfl,j⟩;have b:=Aa (a.o.below j);have A:=Li b.o.box;clear j d;go_wp2_with fail
     refine (t.o _ b.o).m ?_;rintro e O ⟨rfl,k⟩;have s:=Aa k;clear k A;go_wp2
     go_roundw
     case rel=>exact ⟨x,Dw G i (x),by omega,rfl,s.o,p.o,r.o⟩
     case measure=>simp [intOf];omega
  ·have S:(m:Int)<=2 * (i:Int)+1:=by omega
   clear h1;go_wp2;go_ret;exact ⟨⟨_,rfl⟩,G,f.o,l.o,n.o⟩
end Go.Proofs.YtfpafnefpmmofaaGreatDoor
