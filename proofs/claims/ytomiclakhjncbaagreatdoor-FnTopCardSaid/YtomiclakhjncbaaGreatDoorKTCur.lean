import Derived.Test.YtomiclakhjncbaaGreatDoorJT0a
namespace Go.Proofs.YtomiclakhjncbaaGreatDoor
open Go.RowKit Go.Maps Go.Proofs.Tryz
set_option maxRecDepth 100000
set_option maxHeartbeats 12800000
theorem Cc {H:Type} {P:Program} (w:World) {N:Array Oper} {rest:List Oper} {o:Oper} {a:Act} {Q:Exit->Act->World->Prop}
  (hg:o.guard=none) (m x v:Operand) (t:TypeId) (hop:o.op=Op.insert t m x v)
  (k e:TypeId) (K:Keyed P k) (ht:P.underlying t=some (.map k e)) (R:Value->Option (DataW H×List MemPlace)) (b n:Nat) (D:DataW H)
  (hm:a.eval m=.map (some b)) (l:w.ownsMap P k R b n D) (hn:n<maxLen) (key val:Value) (kl:Lit) (hx:a.eval x=key) (hv:a.eval v=val) (hkey:keyOf P k key=some kl)
  (d:DataW H) (ps:List MemPlace) (hval:R val=some (d,ps))
  (hK:∀ w',w'.ownsMap P k R b (n+1) (D.put kl d)->w.grownBy w' (some b)->wpList P N Q rest (a.put o.dst undef) w') :
  wpList P N Q (o::rest) a w:=by
 refine wpList_plain hg fun K' hK'=>?_
 obtain ⟨w',M,r1,r2⟩:=l.update K ht hn hkey hval;unfold Oper.wp
 simp [execOp,hop,hm,hx,hv,M,Result.andThen]
 exact hK' _ _ (hK w' r1 r2)
theorem Fp:Keyed prog 3:=int_keyed underlying3
def U1:DataW Unit:=(((((((((DataW.map (H:=Unit) []).put (.int .i64 36) (.lit (.int .i64 2))).put (.int .i64 392) (.lit (.int .i64 0))).put (.int .i64 756) (.lit (.int .i64 2))).put (.int .i64 826) (.lit (.int .i64 2))).put (.int .i64 840) (.lit (.int .i64 2))).put (.int .i64 978) (.lit (.int .i64 2))).put (.int .i64 48) (.lit (.int .i64 3))).put (.int .i64 414) (.lit (.int .i64 3)))
theorem Kg (w:World) :
  Calls prog 185 #[] w fun e w'=>e=.returned (.map (some w.heap.size))/\w'.ownsMap prog 3 (plainElem (H:=Unit) prog 3) w.heap.size 8 U1/\BW w w':=by
 have a7:=@run_makeMap prog;have y:=World.ownsMap_made w prog 3 (plainElem (H:=Unit) prog 3);have T:=(Below.refl w.heap.size w).alloc nL (.map #[] 0)
 go_enter func185,ntmps185
 go_wp2_with (first | (refine Cc _ rfl (.tmp 1) (.const (.int .i64 36)) (.const (.int .i64 2)) 186 rfl 3 3 Fp underlying186 _ _ _ _ rfl y (by decide) _ _ _ rfl rfl (keyOf_int_mk underlying3 (by decide)) _ [] (plainElem_int underlying3 (by decide)) ?_;intro w1 z V) | (refine Cc _ rfl (.tmp 1) (.const (.int .i64 392)) (.const (.int .i64 0)) 186 rfl 3 3 Fp underlying186 _ _ _ _ rfl z (by decide) _ _ _ rfl rfl (keyOf_int_mk underlying3 (by decide)) _ [] (plainElem_int underlying3 (by decide)) ?_;intro w2 A W) | (refine Cc _ rfl (.tmp 1) (.const (.int .i64 756)) (.const (.int .i64 2)) 186 rfl 3 3 Fp underlying186 _ _ _ _ rfl A (by decide) _ _ _ rfl rfl (keyOf_int_mk underlying3 (by decide)) _ [] (plainElem_int underlying3 (by decide)) ?_;intro w3 B X) | (refine Cc _ rfl (.tmp 1) (.const (.int .i64 826)) (.const (.int .i64 2)) 186 rfl 3 3 Fp underlying186 _ _ _ _ rfl B (by decide) _ _ _ rfl rfl (keyOf_int_mk underlying3 (by decide)) _ [] (plainElem_int underlying3 (by decide)) ?_;intro w4 C Y) | (refine Cc _ rfl (.tmp 1) (.const (.int .i64 840)) (.const (.int .i64 2)) 186 rfl 3 3 Fp underlying186 _ _ _ _ rfl C (by decide) _ _ _ rfl rfl (keyOf_int_mk underlying3 (by decide)) _ [] (plainElem_int underlying3 (by decide)) ?_;intro w5 F Z) | (refine Cc _ rfl (.tmp 1) (.const (.int .i64 978)) (.const (.int .i64 2)) 186 rfl 3 3 Fp underlying186 _ _ _ _ rfl F (by decide) _ _ _ rfl rfl (keyOf_int_mk underlying3 (by decide)) _ [] (plainElem_int underlying3 (by decide)) ?_;intro w6 G a3) | (refine Cc _ rfl (.tmp 1) (.const (.int .i64 48)) (.const (.int .i64 3)) 186 rfl 3 3 Fp underlying186 _ _ _ _ rfl G (by decide) _ _ _ rfl rfl (keyOf_int_mk underlying3 (by decide)) _ [] (plainElem_int underlying3 (by decide)) ?_;intro w7 I a4) | (refine Cc _ rfl (.tmp 1) (.const (.int .i64 414)) (.const (.int .i64 3)) 186 rfl 3 3 Fp underlying186 _ _ _ _ rfl I (by decide) _ _ _ rfl rfl (keyOf_int_mk underlying3 (by decide)) _ [] (plainElem_int underlying3 (by decide)) ?_;intro w8 J a5))
 go_ret;refine ⟨rfl,J,?_⟩
 have gr:∀ {a b:World},BW w a->a.grownBy b (some w.heap.size)->BW w b:=fun h g=>h.grown g h.size (fun k q=>by cases q;exact nL)
 exact gr (gr (gr (gr (gr (gr (gr (gr T V) W) X) Y) Z) a3) a4) a5
def Dc (f:Int):Int:=if f=36 then 2 else if f=392 then 0 else if f=756 then 2 else if f=826 then 2 else if f=840 then 2 else if f=978 then 2 else if f=48 then 3 else if f=414 then 3 else -1
def Nb (f:Int):Bool:=f == 36 || f == 392 || f == 756 || f == 826 || f == 840 || f == 978 || f == 48 || f == 414
theorem Sh {f:Int} (h:Nb f=true):f=36\/f=392\/f=756\/f=826\/f=840\/f=978\/f=48\/f=414:=by
 simp [Nb] at h;omega
theorem Vh {f:Int} (h:Nb f=false):f≠36/\f≠392/\f≠756/\f≠826/\f≠840/\f≠978/\f≠48/\f≠414:=by
 simp [Nb] at h;omega
theorem gR {f:Int} (h:Nb f=false):Dc f = -1:=by
 have:=Vh h;simp [Dc,this]
theorem Ui {f:Int} (h:Nb f=true):Maps.has U1 (.int .i64 f)=true:=by
 rcases Sh h with rfl | rfl | rfl | rfl | rfl | rfl | rfl | rfl <;> decide
theorem nB {f:Int} (h:Nb f=true):U1.atKey (.int .i64 f) (.lit (.int .i64 0))=.lit (.int .i64 (Dc f)):=by
 rcases Sh h with rfl | rfl | rfl | rfl | rfl | rfl | rfl | rfl <;> rfl
theorem Ht {a b:Int} (h:a≠b):Lit.int .i64 a≠Lit.int .i64 b:=fun e=>h (by injection e)
theorem Xp {f:Int} (h:Nb f=false):Maps.has U1 (.int .i64 f)=false:=by
 have g:=Vh h;unfold U1
 rw [Maps.has_put_other (Ht (by omega)),Maps.has_put_other (Ht (by omega)),Maps.has_put_other (Ht (by omega)),Maps.has_put_other (Ht (by omega)),
  Maps.has_put_other (Ht (by omega)),Maps.has_put_other (Ht (by omega)),Maps.has_put_other (Ht (by omega)),Maps.has_put_other (Ht (by omega))]
 rfl
theorem Ox (w:World):(zeroValue 3).run prog w=.ok (.int .i64 0) w:=by kernel_rfl
theorem Eb (f:Int) (w:World) (hw:(Lit.int .i64 f).wf=true) :
  Calls prog 148 #[.int .i64 f] w fun e w'=>e=.returned (.int .i64 (Dc f))/\BW w w':=by
 cases h:Nb f
 ·have hh:=Xp h
  have D:Hid (Dc f = -1):=gR h;clear h
  go_enter func148,ntmps148
  go_wp2_with (first | (go_at_call 185;refine (Kg _).mono ?_;rintro e w1 ⟨rfl,l,hb⟩) | (at_lookup;refine wpList_lookup_own_ok_int _ rfl _ _ 186 rfl 3 3 .i64 Fp underlying186 underlying3 (Ox _) _ 8 U1 rfl l _ _ rfl (keyOf_int_mk underlying3 hw) ?_;intro c r a6))
  go_ret;exact ⟨Af D.o.symm,hb⟩
 ·have hh:=Ui h
  have D:Hid (U1.atKey (.int .i64 f) (.lit (.int .i64 0))=.lit (.int .i64 (Dc f))):=nB h;clear h
  go_enter func148,ntmps148
  go_wp2_with (first | (go_at_call 185;refine (Kg _).mono ?_;rintro e w1 ⟨rfl,l,hb⟩) | (at_lookup;refine wpList_lookup_own_ok_int _ rfl _ _ 186 rfl 3 3 .i64 Fp underlying186 underlying3 (Ox _) _ 8 U1 rfl l _ _ rfl (keyOf_int_mk underlying3 hw) ?_;intro c r a6;have O:Hid (U1.atKey (.int .i64 f) (.lit (.int .i64 0))=.lit (.int .i64 c)):=r;clear r))
  go_ret;refine ⟨Af ?_,hb⟩;have e:=O.o.symm.trans D.o
  injection e with e1
  injection e1
def Gi:List Int:=[36,392,756,826,840,978,48,414]
def kJ:List Int:=[2,0,2,2,2,2,3,3]
theorem U0 {k:Nat} (h:k<8):k=0\/k=1\/k=2\/k=3\/k=4\/k=5\/k=6\/k=7:=by omega
theorem oQ {f:Int} {k:Nat} (q:k<8) (h:Gi.getD k 0=f):kJ.getD k 0=Dc f:=by
 subst h
 rcases U0 q with rfl | rfl | rfl | rfl | rfl | rfl | rfl | rfl <;> decide
theorem eS {f:Int} (h:∀ j,j<8->Gi.getD j 0≠f):Dc f = -1:=by
 have h0:=h 0 (by omega);have h1:=h 1 (by omega);have h2:=h 2 (by omega);have h3:=h 3 (by omega)
 have h4:=h 4 (by omega);have h5:=h 5 (by omega);have h6:=h 6 (by omega);have h7:=h 7 (by omega)
 simp [Gi] at h0 h1 h2 h3 h4 h5 h6 h7
 simp [Dc];omega
theorem Jn (w:World) :
  Calls prog 258 #[] w fun e w'=>e=.returned (.slice (some ⟨w.heap.size,0,none⟩) 8 8)/\w'=w.alloc (.cells #[.int .i64 36,.int .i64 392,.int .i64 756,.int .i64 826,.int .i64 840,.int .i64 978,.int .i64 48,.int .i64 414] 3):=by
 go_enter func258,ntmps258
 go_wp2;go_ret;exact ⟨rfl,rfl⟩
theorem Ga (f:Int) (w:World) :
  Calls prog 217 #[.int .i64 f] w fun e w'=>e=.returned (.int .i64 (Dc f))/\BW w w':=by
 have s:∀ k,k<8->((w.alloc (.cells #[.int .i64 2,.int .i64 0,.int .i64 2,.int .i64 2,.int .i64 2,.int .i64 2,.int .i64 3,.int .i64 3] 3)).alloc (.cells #[.int .i64 36,.int .i64 392,.int .i64 756,.int .i64 826,.int .i64 840,.int .i64 978,.int .i64 48,.int .i64 414] 3)).cell? ⟨w.heap.size+1,k,none⟩=some (.int .i64 (Gi.getD k 0)):=by
  intro k q
  rcases U0 q with rfl | rfl | rfl | rfl | rfl | rfl | rfl | rfl <;> simp [Gi]
 have u:∀ k,k<8->((w.alloc (.cells #[.int .i64 2,.int .i64 0,.int .i64 2,.int .i64 2,.int .i64 2,.int .i64 2,.int .i64 3,.int .i64 3] 3)).alloc (.cells #[.int .i64 36,.int .i64 392,.int .i64 756,.int .i64 826,.int .i64 840,.int .i64 978,.int .i64 48,.int .i64 414] 3)).cell? ⟨w.heap.size,k,none⟩=some (.int .i64 (kJ.getD k 0)):=by
  intro k q
  rcases U0 q with rfl | rfl | rfl | rfl | rfl | rfl | rfl | rfl <;> simp [kJ]
 have p:Below w.heap.size w ((w.alloc (.cells #[.int .i64 2,.int .i64 0,.int .i64 2,.int .i64 2,.int .i64 2,.int .i64 2,.int .i64 3,.int .i64 3] 3)).alloc (.cells #[.int .i64 36,.int .i64 392,.int .i64 756,.int .i64 826,.int .i64 840,.int .i64 978,.int .i64 48,.int .i64 414] 3)):=(bR.alloc nL _).alloc (by simp) _
 go_enter func217,ntmps217
 go_wp2_with (go_at_call 258;refine (Jn _).mono ?_;rintro e w' ⟨rfl,rfl⟩)
 go_loop [5] (fun i=>∃ k:Nat,k<=8/\i=.int .i64 k/\∀ j,j<k->Gi.getD j 0≠f) (fun i=>8 - (intOf i).toNat)
 case atStart=>exact ⟨0,by omega,rfl,fun j hj=>by omega⟩
 case round =>
  obtain ⟨k,q,rfl,L⟩:=hrel;have HN:Hid (∀ j,j<k->Gi.getD j 0≠f):=L;clear L
  by_cases hlt:k<8
  ·have a1:=s k hlt
   have a2:=u k hlt;clear s u;obtain ⟨c,U⟩:∃ c,Gi.getD k 0=c:=⟨_,rfl⟩;obtain ⟨d,hd⟩:∃ d,kJ.getD k 0=d:=⟨_,rfl⟩;rw [U] at a1;rw [hd] at a2;have O:Hid (Gi.getD k 0=c):=U;have HD:Hid (kJ.getD k 0=d):=hd;clear U hd
   cases he:(c == f)
   ·have S:Hid (Gi.getD k 0≠f):=by rw [O.o];simpa [Hid] using he
    go_wp2
    go_round
    case rel=>exact ⟨k+1,by omega,by go_num,fun j hj=>by rcases (show j<k\/j=k from by omega) with h | rfl;exact HN.o j h;exact S.o⟩
    case measure=>simp [intOf];omega
   ·have S:Hid (Gi.getD k 0=f):=by rw [O.o];simpa [Hid] using he
    go_wp2;go_ret;exact ⟨Af (HD.o.symm.trans (oQ hlt S.o)),p⟩
  ·have:k=8:=by omega
   subst this;clear s u;go_wp2;go_ret;exact ⟨Af (eS HN.o).symm,p⟩
end Go.Proofs.YtomiclakhjncbaaGreatDoor
