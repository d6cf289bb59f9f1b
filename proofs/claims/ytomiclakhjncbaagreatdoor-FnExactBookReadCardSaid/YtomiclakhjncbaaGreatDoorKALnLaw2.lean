import Derived.Test.YtomiclakhjncbaaGreatDoorJA1a
namespace Go.Proofs.YtomiclakhjncbaaGreatDoor
open Go.RowKit
set_option maxRecDepth 100000
set_option maxHeartbeats 12800000
theorem toLedger_any (ao:Option Addr) (cap:Nat) (ls:List Ln) (w:World) (hz:LinesAt w ao ls) (hn:ls.length≤1048576) :
  Calls Tryz.prog 75 #[.agg #[.slice ao ls.length cap]] w fun e w'=>∃ g,e=.returned (.agg #[.slice (some ⟨g,0,none⟩) ls.length ls.length]) ∧
   w'.ownsRow w.heap.size 113 3 (.slice (some ⟨g,0,none⟩) ls.length ls.length) ls.length (lcells ls)∧Below w.heap.size w w':=by
 go_enter Tryz.func75,Tryz.ntmps75
 go_wp2_with fail
 refine (toLineS_any _ _ _ _ (hz.below (by go_grown)) hn).mono ?_
 rintro e w1 ⟨rfl,ho,b1⟩
 generalize hW:(((w.alloc (.cells #[.slice ao ls.length cap] 48)).alloc (.cells #[.slice none 0 0] 29)).alloc (.cells #[.slice none 0 0] 29))=W at ho b1 ⊢
 have hs:W.heap.size=w.heap.size+3:=by rw [← hW];simp
 have bW:Below w.heap.size w W:=by rw [← hW];go_grown
 have c1:w1.cell? ⟨w.heap.size+1,0,none⟩=some (.slice none 0 0):=(b1.cell (p:=⟨w.heap.size+1,0,none⟩) (by rw [hs];simp)).trans (by rw [← hW];simp [go_sem])
 have c3:w1.cell? ⟨w.heap.size+1+1,0,none⟩=some (.slice none 0 0):=(b1.cell (p:=⟨w.heap.size+1+1,0,none⟩) (by rw [hs];simp)).trans (by rw [← hW];simp [go_sem])
 have z1:w1.frozen? ⟨w.heap.size+1,0,none⟩=false:=(b1.frozen (p:=⟨w.heap.size+1,0,none⟩) (by rw [hs];simp)).trans (by rw [← hW];simp [go_sem])
 have z3:w1.frozen? ⟨w.heap.size+1+1,0,none⟩=false:=(b1.frozen (p:=⟨w.heap.size+1+1,0,none⟩) (by rw [hs];simp)).trans (by rw [← hW];simp [go_sem])
 have HB:Hid (Below w.heap.size w w1):=bW.trans (b1.mono (by rw [hs];omega))
 have HO:Hid (w1.ownsRow W.heap.size 113 3 (.slice (some ⟨W.heap.size,0,none⟩) ls.length ls.length) ls.length (lcells ls)):=ho
 have HS:Hid _:=hs
 clear b1 bW hW ho hs hz
 go_wp2
 refine bodyPost_ret (by simp [results,Tryz.results75,go_sem,c1];try rfl) rfl ?_
 refine ⟨W.heap.size,rfl,?_,(HB.out.setCell (by show w.heap.size≤w.heap.size+1+1;omega) _).setCell (by show w.heap.size≤w.heap.size+1;omega) _⟩
 have hs:=HS.out
 have hne:∀ (c:Nat) (g:Nat),c≤2→(Value.slice (some ⟨W.heap.size,0,none⟩) ls.length ls.length).ownBlock=some g→g≠w.heap.size+c:=by
  intro c g hc h
  simp [Value.ownBlock] at h
  omega
 exact lowerL (keepSetL (keepSetL HO.out _ _ (fun g h=>hne 2 g (by omega) h)) _ _ (fun g h=>hne 1 g (by omega) h)) (by omega)
theorem eqLedger_same (ao bo:Option Addr) (c1 c2:Nat) (ls:List Ln) (w:World) (hx:LinesAt w ao ls) (hy:LinesAt w bo ls) (h1:ls.length≤1099511627776) :
  Calls Tryz.prog 55 #[.agg #[.slice ao ls.length c1],.agg #[.slice bo ls.length c2]] w fun e w'=>e=.returned (.bool true)∧Below w.heap.size w w':=by
 have bel:Below w.heap.size w ((w.alloc (.cells #[.slice ao ls.length c1] 29)).alloc (.cells #[.slice bo ls.length c2] 29)):=by go_grown
 have hx1:=hx.below bel
 have hy1:=hy.below bel
 have HB:Hid _:=bel
 clear bel hx hy
 go_enter Tryz.func55,Tryz.ntmps55
 go_wp2_with fail
 refine (eqLineS_same _ _ _ _ _ _ hx1 hy1 h1).mono ?_
 rintro e w1 ⟨rfl,b1⟩
 have bb:=HB.out.trans (b1.mono HB.out.size)
 clear b1 hx1 hy1
 go_wp2
 go_ret
 exact ⟨rfl,bb⟩
def mkL (k n:Nat):List Ln:=(List.range n).map fun i=>(((k+3*i:Nat):Int),((k+3*i+1:Nat):Int),((k+3*i+2:Nat):Int))
theorem mkL_len (k n:Nat):(mkL k n).length=n:=by simp [mkL]
theorem mkL_at (k n i:Nat) (h:i<n):lnAt (mkL k n) i=(((k+3*i:Nat):Int),((k+3*i+1:Nat):Int),((k+3*i+2:Nat):Int)):=by simp [lnAt,mkL,List.getD_eq_getElem?_getD,h]
def fillL (ls:List Ln) (k j:Nat):List Ln:=mkL k j++ls.drop j
theorem fillL_len (ls:List Ln) (k j:Nat) (h:j≤ls.length):(fillL ls k j).length=ls.length:=by simp [fillL,mkL_len];omega
theorem fillL_zero (ls:List Ln) (k:Nat):fillL ls k 0=ls:=by simp [fillL,mkL]
theorem fillL_all (ls:List Ln) (k:Nat):fillL ls k ls.length=mkL k ls.length:=by simp [fillL]
theorem fillL_succ (ls:List Ln) (k j:Nat) (h:j<ls.length):(fillL ls k j).set j (((k+3*j:Nat):Int),((k+3*j+1:Nat):Int),((k+3*j+2:Nat):Int))=fillL ls k (j+1):=by
 unfold fillL
 rw [List.set_append,if_neg (by rw [mkL_len];omega),mkL_len,Nat.sub_self,List.drop_eq_getElem_cons h,List.set_cons_zero]
 simp [mkL,List.range_succ]
theorem markLineS_any (ao:Option Addr) (cap base k:Nat) (ls:List Ln) (w:World) (ho:w.ownsRow base 113 3 (.slice ao ls.length cap) ls.length (lcells ls)) (hn:ls.length≤1099511627) (k2:k≤1099511627) :
  Calls Tryz.prog 118 #[.slice ao ls.length cap,.int .i64 k] w fun e w'=>e=.returned (.int .i64 (k+3*ls.length:Nat)) ∧
   w'.ownsRow base 113 3 (.slice ao ls.length cap) ls.length (lcells (mkL k ls.length))∧w.grownBy w' (Value.slice ao ls.length cap).ownBlock:=by
 rcases ho.2 with ⟨hv,h0⟩ | ⟨g,cap',cur,hv,hrest⟩
 ·obtain rfl:ls=[]:=List.eq_nil_of_length_eq_zero h0
  obtain ⟨rfl,rfl⟩:ao=none∧cap=0:=by simpa using hv
  clear hv h0
  go_enter Tryz.func118,Tryz.ntmps118
  go_wp2
  refine wp_loop_rounds 1 ?_
  rw [rounds_succ]
  go_wp2
  go_ret
  exact ⟨one_int (by simp),World.ownsRow_nil _ _ _ _,World.grownBy.refl _ _⟩
 ·obtain ⟨rfl,rfl⟩:ao=some ⟨g,0,none⟩∧cap=cap':=by simpa using hv
  clear hv hrest
  go_enter Tryz.func118,Tryz.ntmps118
  go_wp2
  go_loopw [1,5] (fun c i wr=>∃ j:Nat,j≤ls.length∧i=.int .i64 j∧c=.int .i64 (k+3*j:Nat)∧wr.ownsRow base 113 3 (.slice (some ⟨g,0,none⟩) ls.length cap) ls.length (lcells (fillL ls k j))∧w.grownBy wr (some g)) (fun _ i _=>ls.length - (intOf i).toNat)
  case atStart=>exact ⟨0,Nat.zero_le _,rfl,rfl,by rw [fillL_zero];exact ho,World.grownBy.refl _ _⟩
  case round =>
   obtain ⟨j,hj,rfl,rfl,hor,hgr⟩:=hrel
   clear ho
   by_cases hlt:j<ls.length
   ·have hji:(j:Int)<(ls.length:Int):=by omega
    have hat:=lcells_at (fillL ls k j) j (by rw [fillL_len ls k j hj];exact hlt)
    have c1:wr.cell? ⟨g,j*3,none⟩=some (.int .i64 (lnAt (fillL ls k j) j).1):=by rw [hor.cellAt (j*3) (by omega)];exact hat.1
    have c2:wr.cell? ⟨g,j*3+1,none⟩=some (.int .i64 (lnAt (fillL ls k j) j).2.1):=by rw [hor.cellAt (j*3+1) (by omega)];exact hat.2.1
    have c3:wr.cell? ⟨g,j*3+2,none⟩=some (.int .i64 (lnAt (fillL ls k j) j).2.2):=by rw [hor.cellAt (j*3+2) (by omega)];exact hat.2.2
    have d1:wr.frozen? ⟨g,j*3,none⟩=false:=hor.frozenAt _
    have d2:wr.frozen? ⟨g,j*3+1,none⟩=false:=hor.frozenAt _
    have d3:wr.frozen? ⟨g,j*3+2,none⟩=false:=hor.frozenAt _
    have R1:=hor.stored (j*3) (.int .i64 (k+3*j:Nat))
    have R2:=R1.1.stored (j*3+1) (.int .i64 (k+3*j+1:Nat))
    have R3:=R2.1.stored (j*3+2) (.int .i64 (k+3*j+2:Nat))
    have HS:=lcells_set (fillL ls k j) (((k+3*j:Nat):Int),((k+3*j+1:Nat):Int),((k+3*j+2:Nat):Int)) j (by rw [fillL_len ls k j hj];exact hlt)
    simp only at HS
    have R:=R3.1
    rw [HS,fillL_succ ls k j hlt] at R
    have G:=((hgr.trans R1.2).trans R2.2).trans R3.2
    obtain ⟨m,hm⟩:∃ m:Nat,k+3*j=m:=⟨_,rfl⟩
    obtain ⟨o1,h1⟩:∃ x,(lnAt (fillL ls k j) j).1=x:=⟨_,rfl⟩
    obtain ⟨o2,h2⟩:∃ x,(lnAt (fillL ls k j) j).2.1=x:=⟨_,rfl⟩
    obtain ⟨o3,h3⟩:∃ x,(lnAt (fillL ls k j) j).2.2=x:=⟨_,rfl⟩
    rw [hm] at R G ⊢
    rw [h1] at c1
    rw [h2] at c2
    rw [h3] at c3
    have e1:((m+1:Nat):Int)=(m:Int)+1:=by omega
    have e2:((m+2:Nat):Int)=(m:Int)+1+1:=by omega
    rw [e1,e2] at R G
    have HR:Hid _:=R
    have HG:Hid _:=G
    have hmb:m≤5000000000:=by omega
    have HM:Hid (k+3 * (j+1)=m+1+1+1):=by rw [Hid];omega
    clear R1 R2 R3 R G hor hgr hat hm h1 h2 h3 HS e1 e2
    go_wp2
    go_roundw
    case rel=>exact ⟨j+1,by omega,by go_num,by rw [HM.out];go_num,HR.out,HG.out⟩
    case measure=>simp [intOf];omega
   ·have hjn:j=ls.length:=by omega
    subst hjn
    rw [fillL_all] at hor
    have HO:Hid _:=hor
    clear hor
    go_wp2
    go_ret
    exact ⟨rfl,HO.out,hgr⟩
theorem heldLineS_any (ao:Option Addr) (cap n k:Nat) (w:World) (hz:LinesAt w ao (mkL k n)) (hn:n≤1099511627) (k2:k≤1099511627) :
  Calls Tryz.prog 119 #[.slice ao n cap,.int .i64 k] w fun e w'=>e=.returned (.int .i64 (k+3*n:Nat))∧Below w.heap.size w w':=by
 have HZ:Hid (LinesAt w ao (mkL k n)):=hz
 clear hz
 go_enter Tryz.func119,Tryz.ntmps119
 go_wp2
 go_loopw [1,5] (fun c i wr=>∃ j:Nat,j≤n∧i=.int .i64 j∧c=.int .i64 (k+3*j:Nat)∧wr=w) (fun _ i _=>n - (intOf i).toNat)
 case atStart=>exact ⟨0,Nat.zero_le _,rfl,rfl,rfl⟩
 case round =>
  obtain ⟨j,hj,rfl,rfl,hwr⟩:=hrel
  subst hwr
  by_cases hlt:j<n
  ·have hji:(j:Int)<(n:Int):=by omega
   obtain ⟨b,off,rfl,hb,c1,c2,c3⟩:=HZ.out.at (k:=j) (by rw [mkL_len];exact hlt)
   rw [mkL_at k n j hlt] at c1 c2 c3
   simp only at c1 c2 c3
   obtain ⟨m,hm⟩:∃ m:Nat,k+3*j=m:=⟨_,rfl⟩
   rw [hm] at c1 c2 c3 ⊢
   rw [show ((m+1:Nat):Int)=(m:Int)+1 by omega] at c2
   rw [show ((m+2:Nat):Int)=(m:Int)+1+1 by omega] at c3
   have hmb:m≤5000000000:=by omega
   have HM:Hid (k+3 * (j+1)=m+1+1+1):=by rw [Hid];omega
   have n1:((m:Int) != (m:Int))=false:=by simp
   have n2:((m:Int)+1 != (m:Int)+1)=false:=by simp
   have n3:((m:Int)+1+1 != (m:Int)+1+1)=false:=by simp
   clear hm
   go_wp2
   go_roundw
   case rel=>exact ⟨j+1,by omega,by go_num,by rw [HM.out];go_num,trivial⟩
   case measure=>simp [intOf];omega
  ·have hjn:j=n:=by omega
   subst hjn
   go_wp2
   go_ret
   exact ⟨rfl,Below.refl _ _⟩
theorem markLedger_any (ao:Option Addr) (cap base k:Nat) (ls:List Ln) (w:World) (ho:w.ownsRow base 113 3 (.slice ao ls.length cap) ls.length (lcells ls)) (hn:ls.length≤1099511627) (k2:k≤1099511627) :
  Calls Tryz.prog 59 #[.agg #[.slice ao ls.length cap],.int .i64 k] w fun e w'=>e=.returned (.int .i64 (k+3*ls.length:Nat)) ∧
   w'.ownsRow base 113 3 (.slice ao ls.length cap) ls.length (lcells (mkL k ls.length))∧w.grownBy w' (Value.slice ao ls.length cap).ownBlock:=by
 have bel:Below w.heap.size w (w.alloc (.cells #[.slice ao ls.length cap] 29)):=by go_grown
 have ho1:=keepL ho bel
 have gb:w.grownBy (w.alloc (.cells #[.slice ao ls.length cap] 29)) (Value.slice ao ls.length cap).ownBlock:=World.grownBy_alloc w _ _
 go_enter Tryz.func59,Tryz.ntmps59
 go_wp2_with fail
 refine (markLineS_any _ _ _ _ _ _ ho1 hn k2).mono ?_
 rintro e w1 ⟨rfl,o1,g1⟩
 have HG:Hid _:=gb.trans g1
 have HO:Hid _:=o1
 clear bel ho ho1 o1 g1 gb
 go_wp2
 go_ret
 exact ⟨rfl,HO.out,HG.out⟩
theorem heldLedger_any (ao:Option Addr) (cap n k:Nat) (w:World) (hz:LinesAt w ao (mkL k n)) (hn:n≤1099511627) (k2:k≤1099511627) :
  Calls Tryz.prog 63 #[.agg #[.slice ao n cap],.int .i64 k] w fun e w'=>e=.returned (.int .i64 (k+3*n:Nat))∧Below w.heap.size w w':=by
 have bel:Below w.heap.size w (w.alloc (.cells #[.slice ao n cap] 29)):=by go_grown
 have hz1:=hz.below bel
 go_enter Tryz.func63,Tryz.ntmps63
 go_wp2_with fail
 refine (heldLineS_any _ _ _ _ _ hz1 hn k2).mono ?_
 rintro e w1 ⟨rfl,b1⟩
 have bb:=bel.trans (b1.mono bel.size)
 obtain ⟨m,hm⟩:∃ m,k+3*n=m:=⟨_,rfl⟩
 rw [hm]
 have HM:Hid _:=hm
 have hmb:m≤5000000000:=by omega
 clear bel hz hz1 b1 hm
 go_wp2
 go_ret
 exact ⟨one_int (by rw [HM.out]),bb⟩
end Go.Proofs.YtomiclakhjncbaaGreatDoor
