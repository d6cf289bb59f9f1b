import Derived.Test.YtomiclakhjncbaaGreatDoorJE0a
namespace Go.Proofs.YtomiclakhjncbaaGreatDoor
open Go.RowKit Go.Maps Go.Proofs.Tryz
set_option maxRecDepth 100000
set_option maxHeartbeats 12800000
theorem Cc {H:Type} {P:Program} (w:World) {ops:Array Oper} {rest:List Oper} {o:Oper} {a:Act} {Q:Exit→Act→World→Prop}
  (hg:o.guard=none) (m x v:Operand) (t:TypeId) (hop:o.op=Op.insert t m x v)
  (k e:TypeId) (K:Keyed P k) (ht:P.underlying t=some (.map k e)) (R:Value→Option (DataW H×List MemPlace)) (b n:Nat) (D:DataW H)
  (hm:a.eval m=.map (some b)) (hown:w.ownsMap P k R b n D) (hn:n<maxLen) (key val:Value) (kl:Lit) (hx:a.eval x=key) (hv:a.eval v=val) (hkey:keyOf P k key=some kl)
  (d:DataW H) (ps:List MemPlace) (hval:R val=some (d,ps))
  (hK:∀ w',w'.ownsMap P k R b (n+1) (D.put kl d)→w.grownBy w' (some b)→wpList P ops Q rest (a.put o.dst undef) w') :
  wpList P ops Q (o::rest) a w:=by
 refine wpList_plain hg fun K' hK'=>?_
 obtain ⟨w',hrun,r1,r2⟩:=hown.update K ht hn hkey hval;unfold Oper.wp
 simp [execOp,hop,hm,hx,hv,hrun,Result.andThen]
 exact hK' _ _ (hK w' r1 r2)
theorem Fp:Keyed prog 3:=int_keyed underlying3
def U1:DataW Unit:=(((((((((DataW.map (H:=Unit) []).put (.int .i64 36) (.lit (.int .i64 2))).put (.int .i64 392) (.lit (.int .i64 0))).put (.int .i64 756) (.lit (.int .i64 2))).put (.int .i64 826) (.lit (.int .i64 2))).put (.int .i64 840) (.lit (.int .i64 2))).put (.int .i64 978) (.lit (.int .i64 2))).put (.int .i64 48) (.lit (.int .i64 3))).put (.int .i64 414) (.lit (.int .i64 3)))
theorem Kg (w:World) :
  Calls prog 185 #[] w fun e w'=>e=.returned (.map (some w.heap.size))∧w'.ownsMap prog 3 (plainElem (H:=Unit) prog 3) w.heap.size 8 U1∧BW w w':=by
 have hmm:=@run_makeMap prog;have hown0:=World.ownsMap_made w prog 3 (plainElem (H:=Unit) prog 3);have hb0:=(Below.refl w.heap.size w).alloc nL (.map #[] 0)
 go_enter func185,ntmps185
 go_wp2_with (first | (refine Cc _ rfl (.tmp 1) (.const (.int .i64 36)) (.const (.int .i64 2)) 186 rfl 3 3 Fp underlying186 _ _ _ _ rfl hown0 (by decide) _ _ _ rfl rfl (keyOf_int_mk underlying3 (by decide)) _ [] (plainElem_int underlying3 (by decide)) ?_;intro w1 hown1 hg1) | (refine Cc _ rfl (.tmp 1) (.const (.int .i64 392)) (.const (.int .i64 0)) 186 rfl 3 3 Fp underlying186 _ _ _ _ rfl hown1 (by decide) _ _ _ rfl rfl (keyOf_int_mk underlying3 (by decide)) _ [] (plainElem_int underlying3 (by decide)) ?_;intro w2 hown2 hg2) | (refine Cc _ rfl (.tmp 1) (.const (.int .i64 756)) (.const (.int .i64 2)) 186 rfl 3 3 Fp underlying186 _ _ _ _ rfl hown2 (by decide) _ _ _ rfl rfl (keyOf_int_mk underlying3 (by decide)) _ [] (plainElem_int underlying3 (by decide)) ?_;intro w3 hown3 hg3) | (refine Cc _ rfl (.tmp 1) (.const (.int .i64 826)) (.const (.int .i64 2)) 186 rfl 3 3 Fp underlying186 _ _ _ _ rfl hown3 (by decide) _ _ _ rfl rfl (keyOf_int_mk underlying3 (by decide)) _ [] (plainElem_int underlying3 (by decide)) ?_;intro w4 hown4 hg4) | (refine Cc _ rfl (.tmp 1) (.const (.int .i64 840)) (.const (.int .i64 2)) 186 rfl 3 3 Fp underlying186 _ _ _ _ rfl hown4 (by decide) _ _ _ rfl rfl (keyOf_int_mk underlying3 (by decide)) _ [] (plainElem_int underlying3 (by decide)) ?_;intro w5 hown5 hg5) | (refine Cc _ rfl (.tmp 1) (.const (.int .i64 978)) (.const (.int .i64 2)) 186 rfl 3 3 Fp underlying186 _ _ _ _ rfl hown5 (by decide) _ _ _ rfl rfl (keyOf_int_mk underlying3 (by decide)) _ [] (plainElem_int underlying3 (by decide)) ?_;intro w6 hown6 hg6) | (refine Cc _ rfl (.tmp 1) (.const (.int .i64 48)) (.const (.int .i64 3)) 186 rfl 3 3 Fp underlying186 _ _ _ _ rfl hown6 (by decide) _ _ _ rfl rfl (keyOf_int_mk underlying3 (by decide)) _ [] (plainElem_int underlying3 (by decide)) ?_;intro w7 hown7 hg7) | (refine Cc _ rfl (.tmp 1) (.const (.int .i64 414)) (.const (.int .i64 3)) 186 rfl 3 3 Fp underlying186 _ _ _ _ rfl hown7 (by decide) _ _ _ rfl rfl (keyOf_int_mk underlying3 (by decide)) _ [] (plainElem_int underlying3 (by decide)) ?_;intro w8 hown8 hg8))
 go_ret;refine ⟨rfl,hown8,?_⟩
 have gr:∀ {a b:World},BW w a→a.grownBy b (some w.heap.size)→BW w b:=fun h g=>h.grown g h.size (fun k hk=>by cases hk;exact nL)
 exact gr (gr (gr (gr (gr (gr (gr (gr hb0 hg1) hg2) hg3) hg4) hg5) hg6) hg7) hg8
def Dc (uV:Int):Int:=if uV=36 then 2 else if uV=392 then 0 else if uV=756 then 2 else if uV=826 then 2 else if uV=840 then 2 else if uV=978 then 2 else if uV=48 then 3 else if uV=414 then 3 else -1
def Nb (uV:Int):Bool:=uV == 36 || uV == 392 || uV == 756 || uV == 826 || uV == 840 || uV == 978 || uV == 48 || uV == 414
theorem Sh {uV:Int} (h:Nb uV=true):uV=36∨uV=392∨uV=756∨uV=826∨uV=840∨uV=978∨uV=48∨uV=414:=by
 simp [Nb] at h;omega
theorem Vh {uV:Int} (h:Nb uV=false):uV≠36∧uV≠392∧uV≠756∧uV≠826∧uV≠840∧uV≠978∧uV≠48∧uV≠414:=by
 simp [Nb] at h;omega
theorem gR {uV:Int} (h:Nb uV=false):Dc uV = -1:=by
 have:=Vh h;simp [Dc,this]
theorem Ui {uV:Int} (h:Nb uV=true):Maps.has U1 (.int .i64 uV)=true:=by
 rcases Sh h with rfl | rfl | rfl | rfl | rfl | rfl | rfl | rfl <;> decide
theorem nB {uV:Int} (h:Nb uV=true):U1.atKey (.int .i64 uV) (.lit (.int .i64 0))=.lit (.int .i64 (Dc uV)):=by
 rcases Sh h with rfl | rfl | rfl | rfl | rfl | rfl | rfl | rfl <;> rfl
theorem Ht {a b:Int} (h:a≠b):Lit.int .i64 a≠Lit.int .i64 b:=fun e=>h (by injection e)
theorem Xp {uV:Int} (h:Nb uV=false):Maps.has U1 (.int .i64 uV)=false:=by
 have g:=Vh h;unfold U1
 rw [Maps.has_put_other (Ht (by omega)),Maps.has_put_other (Ht (by omega)),Maps.has_put_other (Ht (by omega)),Maps.has_put_other (Ht (by omega)),
  Maps.has_put_other (Ht (by omega)),Maps.has_put_other (Ht (by omega)),Maps.has_put_other (Ht (by omega)),Maps.has_put_other (Ht (by omega))]
 rfl
theorem Ox (w:World):(zeroValue 3).run prog w=.ok (.int .i64 0) w:=by kernel_rfl
theorem Eb (uV:Int) (w:World) (hw:(Lit.int .i64 uV).wf=true) :
  Calls prog 148 #[.int .i64 uV] w fun e w'=>e=.returned (.int .i64 (Dc uV))∧BW w w':=by
 cases h:Nb uV
 ·have hh:=Xp h
  have D:Hid (Dc uV = -1):=gR h;clear h
  go_enter func148,ntmps148
  go_wp2_with (first | (go_at_call 185;refine (Kg _).mono ?_;rintro e w1 ⟨rfl,hown,hb⟩) | (at_lookup;refine wpList_lookup_own_ok_int _ rfl _ _ 186 rfl 3 3 .i64 Fp underlying186 underlying3 (Ox _) _ 8 U1 rfl hown _ _ rfl (keyOf_int_mk underlying3 hw) ?_;intro c hat hwc))
  go_ret;exact ⟨Af D.o.symm,hb⟩
 ·have hh:=Ui h
  have D:Hid (U1.atKey (.int .i64 uV) (.lit (.int .i64 0))=.lit (.int .i64 (Dc uV))):=nB h;clear h
  go_enter func148,ntmps148
  go_wp2_with (first | (go_at_call 185;refine (Kg _).mono ?_;rintro e w1 ⟨rfl,hown,hb⟩) | (at_lookup;refine wpList_lookup_own_ok_int _ rfl _ _ 186 rfl 3 3 .i64 Fp underlying186 underlying3 (Ox _) _ 8 U1 rfl hown _ _ rfl (keyOf_int_mk underlying3 hw) ?_;intro c hat hwc;have HC:Hid (U1.atKey (.int .i64 uV) (.lit (.int .i64 0))=.lit (.int .i64 c)):=hat;clear hat))
  go_ret;refine ⟨Af ?_,hb⟩;have e:=HC.o.symm.trans D.o
  injection e with e1
  injection e1
def Gi:List Int:=[36,392,756,826,840,978,48,414]
def kJ:List Int:=[2,0,2,2,2,2,3,3]
theorem U0 {k:Nat} (h:k<8):k=0∨k=1∨k=2∨k=3∨k=4∨k=5∨k=6∨k=7:=by omega
theorem oQ {uV:Int} {k:Nat} (hk:k<8) (h:Gi.getD k 0=uV):kJ.getD k 0=Dc uV:=by
 subst h
 rcases U0 hk with rfl | rfl | rfl | rfl | rfl | rfl | rfl | rfl <;> decide
theorem eS {uV:Int} (h:∀ j,j<8→Gi.getD j 0≠uV):Dc uV = -1:=by
 have h0:=h 0 (by omega);have h1:=h 1 (by omega);have h2:=h 2 (by omega);have h3:=h 3 (by omega)
 have h4:=h 4 (by omega);have h5:=h 5 (by omega);have h6:=h 6 (by omega);have h7:=h 7 (by omega)
 simp [Gi] at h0 h1 h2 h3 h4 h5 h6 h7
 simp [Dc];omega
theorem Jn (w:World) :
  Calls prog 258 #[] w fun e w'=>e=.returned (.slice (some ⟨w.heap.size,0,none⟩) 8 8)∧w'=w.alloc (.cells #[.int .i64 36,.int .i64 392,.int .i64 756,.int .i64 826,.int .i64 840,.int .i64 978,.int .i64 48,.int .i64 414] 3):=by
 go_enter func258,ntmps258
 go_wp2;go_ret;exact ⟨rfl,rfl⟩
theorem Ga (uV:Int) (w:World) :
  Calls prog 217 #[.int .i64 uV] w fun e w'=>e=.returned (.int .i64 (Dc uV))∧BW w w':=by
 have hcA:∀ k,k<8→((w.alloc (.cells #[.int .i64 2,.int .i64 0,.int .i64 2,.int .i64 2,.int .i64 2,.int .i64 2,.int .i64 3,.int .i64 3] 3)).alloc (.cells #[.int .i64 36,.int .i64 392,.int .i64 756,.int .i64 826,.int .i64 840,.int .i64 978,.int .i64 48,.int .i64 414] 3)).cell? ⟨w.heap.size+1,k,none⟩=some (.int .i64 (Gi.getD k 0)):=by
  intro k hk
  rcases U0 hk with rfl | rfl | rfl | rfl | rfl | rfl | rfl | rfl <;> simp [Gi]
 have hcB:∀ k,k<8→((w.alloc (.cells #[.int .i64 2,.int .i64 0,.int .i64 2,.int .i64 2,.int .i64 2,.int .i64 2,.int .i64 3,.int .i64 3] 3)).alloc (.cells #[.int .i64 36,.int .i64 392,.int .i64 756,.int .i64 826,.int .i64 840,.int .i64 978,.int .i64 48,.int .i64 414] 3)).cell? ⟨w.heap.size,k,none⟩=some (.int .i64 (kJ.getD k 0)):=by
  intro k hk
  rcases U0 hk with rfl | rfl | rfl | rfl | rfl | rfl | rfl | rfl <;> simp [kJ]
 have hbel:Below w.heap.size w ((w.alloc (.cells #[.int .i64 2,.int .i64 0,.int .i64 2,.int .i64 2,.int .i64 2,.int .i64 2,.int .i64 3,.int .i64 3] 3)).alloc (.cells #[.int .i64 36,.int .i64 392,.int .i64 756,.int .i64 826,.int .i64 840,.int .i64 978,.int .i64 48,.int .i64 414] 3)):=(bR.alloc nL _).alloc (by simp) _
 go_enter func217,ntmps217
 go_wp2_with (go_at_call 258;refine (Jn _).mono ?_;rintro e w' ⟨rfl,rfl⟩)
 go_loop [5] (fun i=>∃ k:Nat,k≤8∧i=.int .i64 k∧∀ j,j<k→Gi.getD j 0≠uV) (fun i=>8 - (intOf i).toNat)
 case atStart=>exact ⟨0,by omega,rfl,fun j hj=>by omega⟩
 case round =>
  obtain ⟨k,hk,rfl,hno⟩:=hrel;have HN:Hid (∀ j,j<k→Gi.getD j 0≠uV):=hno;clear hno
  by_cases hlt:k<8
  ·have a1:=hcA k hlt
   have a2:=hcB k hlt;clear hcA hcB;obtain ⟨c,hc⟩:∃ c,Gi.getD k 0=c:=⟨_,rfl⟩;obtain ⟨d,hd⟩:∃ d,kJ.getD k 0=d:=⟨_,rfl⟩;rw [hc] at a1;rw [hd] at a2;have HC:Hid (Gi.getD k 0=c):=hc;have HD:Hid (kJ.getD k 0=d):=hd;clear hc hd
   cases he:(c == uV)
   ·have HE:Hid (Gi.getD k 0≠uV):=by rw [HC.o];simpa [Hid] using he
    go_wp2
    go_round
    case rel=>exact ⟨k+1,by omega,by go_num,fun j hj=>by rcases (show j<k∨j=k from by omega) with h | rfl;exact HN.o j h;exact HE.o⟩
    case measure=>simp [intOf];omega
   ·have HE:Hid (Gi.getD k 0=uV):=by rw [HC.o];simpa [Hid] using he
    go_wp2;go_ret;exact ⟨Af (HD.o.symm.trans (oQ hlt HE.o)),hbel⟩
  ·have:k=8:=by omega
   subst this;clear hcA hcB;go_wp2;go_ret;exact ⟨Af (eS HN.o).symm,hbel⟩
end Go.Proofs.YtomiclakhjncbaaGreatDoor
