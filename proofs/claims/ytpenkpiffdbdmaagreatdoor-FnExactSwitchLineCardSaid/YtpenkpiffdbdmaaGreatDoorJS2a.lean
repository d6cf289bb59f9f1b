import Derived.Test.YtpenkpiffdbdmaaGreatDoorKSTxtApp
/- A line's words, and their numbers: plainly, and the specification's contracts. -/
namespace Go.Proofs.YtpenkpiffdbdmaaGreatDoor
open Go.RowKit
set_option maxRecDepth 100000
/-- the words that ended ahead of place i, and where the next one begins -/
def scanW (l : List UInt8) : Nat → Recs × Nat
  | 0 => ([], 0)
  | i + 1 => if l.getD i 0 = 32 then ((scanW l i).1 ++ [(l.drop (scanW l i).2).take (i - (scanW l i).2)], i + 1) else scanW l i
def wordsW (l : List UInt8) : Recs := (scanW l l.length).1 ++ [l.drop (scanW l l.length).2]
theorem scanW_le (l : List UInt8) : ∀ i, (scanW l i).2 ≤ i ∧ (scanW l i).1.length ≤ i
  | 0 => ⟨Nat.le_refl _, Nat.le_refl _⟩
  | i + 1 => by
    have := scanW_le l i
    unfold scanW
    split
    · refine ⟨Nat.le_refl _, ?_⟩
      simp; omega
    · omega
theorem scanW_yes {l : List UInt8} {i : Nat} (h : l.getD i 0 = 32) : scanW l (i + 1) = ((scanW l i).1 ++ [(l.drop (scanW l i).2).take (i - (scanW l i).2)], i + 1) := by rw [scanW, if_pos h]
theorem scanW_no {l : List UInt8} {i : Nat} (h : l.getD i 0 ≠ 32) : scanW l (i + 1) = scanW l i := by rw [scanW, if_neg h]
theorem wordsW_len (l : List UInt8) : 1 ≤ (wordsW l).length ∧ (wordsW l).length ≤ l.length + 1 := by
  have := scanW_le l l.length
  rw [wordsW, List.length_append]; simp; omega
theorem scanW_short (l : List UInt8) : ∀ i, ∀ r ∈ (scanW l i).1, r.length ≤ l.length
  | 0 => fun r h => by cases h
  | i + 1 => fun r h => by
    unfold scanW at h
    split at h
    · rcases List.mem_append.1 h with h | h
      · exact scanW_short l i r h
      · rw [List.mem_singleton.1 h]; simp; omega
    · exact scanW_short l i r h
theorem wordsW_short (l : List UInt8) : ∀ r ∈ wordsW l, r.length ≤ l.length := by
  intro r h
  rcases List.mem_append.1 h with h | h
  · exact scanW_short l _ r h
  · rw [List.mem_singleton.1 h]; simp
set_option maxHeartbeats 3200000 in
theorem sWords_any (l : List UInt8) (w : World) (hl : l.length ≤ 1048576) :
    Calls Tryz.prog 15 #[.string ⟨l.toArray⟩] w fun e w' => ∃ a k, e = .returned (.slice a (wordsW l).length k) ∧ w'.ownsRow w.heap.size 9 1 (.slice a (wordsW l).length k) (wordsW l).length (scells (wordsW l)) ∧ Below w.heap.size w w' := by
  obtain ⟨i0, hi, hz0, hz1, hz2⟩ := info_parts infoS
  have HO0 : Hid ((w.alloc (.cells #[] 9)).ownsRow w.heap.size 9 1 (.slice (some ⟨w.heap.size, 0, none⟩) 0 0) 0 (scells [])) := by
    have h := World.ownsRow_lit (base := w.heap.size) (e := 9) (size := 1) w #[] 0 (Nat.le_refl _) (by unfold maxLen; omega) rfl
    rw [Hid]; simpa [scells] using h
  have HBA : Hid (Below w.heap.size w (w.alloc (.cells #[] 9))) := (Below.refl _ _).alloc (Nat.le_refl _) _
  have HWE : Hid (wordsW l = (scanW l l.length).1 ++ [l.drop (scanW l l.length).2]) := rfl
  obtain ⟨WW, hWW⟩ : ∃ x, wordsW l = x := ⟨_, rfl⟩
  rw [hWW] at HWE ⊢
  clear hWW
  go_enter Tryz.func15, Tryz.ntmps15
  go_wp2
  go_loopw [3, 4, 5] (fun s f i wr => ∃ (v : Value) (k : Nat), v = s ∧ k ≤ l.length ∧ i = .int .i64 (k : Int) ∧ f = .int .i64 ((scanW l k).2 : Int) ∧ wr.ownsRow w.heap.size 9 1 v (scanW l k).1.length (scells (scanW l k).1) ∧ Below w.heap.size w wr) (fun _ _ i _ => l.length - (intOf i).toNat)
  case atStart => exact ⟨_, 0, rfl, Nat.zero_le _, rfl, rfl, HO0.out, HBA.out⟩
  case round =>
    obtain ⟨v, k, hvs, hk, rfl, rfl, hown, hbr⟩ := hrel
    subst hvs
    have HBR : Hid (Below w.heap.size w wr) := hbr
    have HSZ : Hid (w.heap.size ≤ wr.heap.size) := hbr.size
    have HLT : Hid (∀ j, v.ownBlock = some j → w.heap.size ≤ j) := fun j hj => (hown.lt j hj).1
    have hsc := scanW_le l k
    by_cases hlt : k < l.length
    · have hki : (k : Int) < (l.length : Int) := by omega
      have HY : Hid _ := @scanW_yes l k
      have HN : Hid _ := @scanW_no l k
      obtain ⟨c, hc⟩ : ∃ c, (⟨l.toArray⟩ : ByteArray)[k]'(by rw [ba_size]; exact hlt) = c := ⟨_, rfl⟩
      rw [(byte_at l k hlt).trans hc] at HY HN
      obtain ⟨R, hR⟩ : ∃ x, (scanW l k).1 = x := ⟨_, rfl⟩
      obtain ⟨f, hf⟩ : ∃ x, (scanW l k).2 = x := ⟨_, rfl⟩
      rw [hR, hf] at HY
      rw [hR] at hown hsc
      rw [hf] at hsc ⊢
      have HO : Hid (wr.ownsRow w.heap.size 9 1 v R.length (scells R)) := hown
      have HRF : Hid ((scanW l k).1 = R ∧ (scanW l k).2 = f) := ⟨hR, hf⟩
      clear hR hf hown hbr HO0 HBA
      by_cases h32 : c = 32
      · subst h32
        have hx : (⟨l.toArray⟩ : ByteArray).extract f k = ⟨((l.drop f).take (k - f)).toArray⟩ := ba_extract l f k
        have HNX : Hid (scanW l (k + 1) = (R ++ [(l.drop f).take (k - f)], k + 1)) := HY.out rfl
        obtain ⟨r, hr⟩ : ∃ x, (l.drop f).take (k - f) = x := ⟨_, rfl⟩
        rw [hr] at hx HNX
        have hfk : (f : Int) ≤ (k : Int) := by omega
        clear HY HN hr
        go_wp2_with (at_builtin; refine wpList_append_own _ rfl (.tmp 17) (.tmp 22) 40 rfl w.heap.size 9 i0 (.string ⟨#[]⟩) 1 16 Tryz.underlying40 hi hz0 hz1 hz2 rfl (by decide) _ _ _ rfl (HO.out.alloc _) ⟨wr.heap.size, 0, none⟩ 1 1 [.string ⟨r.toArray⟩] rfl rfl (World.news_of_block (heap_alloc_new wr _)) (one_oneS _) (by unfold maxLen; omega) (by omega) (by simp; have := HSZ.out; omega) ?_; intro v5 w5 o5 g5 _)
        have q5 : Below w.heap.size w w5 := (HBR.out.alloc (by have := HSZ.out; omega) _).grown g5 (by have := HSZ.out; simp; omega) HLT.out
        have HR5 : Hid (w5.ownsRow w.heap.size 9 1 v5 (scanW l (k + 1)).1.length (scells (scanW l (k + 1)).1)) := by
          rw [Hid, HNX.out]; simp only [List.length_append, scells_append]; exact o5
        have HF5 : Hid ((scanW l (k + 1)).2 = k + 1) := by rw [Hid, HNX.out]
        clear o5 g5 hx
        go_wp2
        go_roundw
        case rel => exact ⟨_, k + 1, rfl, by omega, by go_num, by rw [HF5.out]; go_num, HR5.out, q5⟩
        case measure => simp [intOf]; omega
      · have HNX : Hid (scanW l (k + 1) = scanW l k) := HN.out h32
        have hcb : ((c.toNat : Int) == 32) = false := by
          simp only [beq_eq_false_iff_ne, ne_eq]
          intro e
          apply h32
          apply UInt8.toNat_inj.1
          show c.toNat = 32
          omega
        have HR5 : Hid (wr.ownsRow w.heap.size 9 1 v (scanW l (k + 1)).1.length (scells (scanW l (k + 1)).1)) := by
          rw [Hid, HNX.out, HRF.out.1]; exact HO.out
        have HF5 : Hid ((scanW l (k + 1)).2 = f) := by rw [Hid, HNX.out, HRF.out.2]
        clear HY HN
        go_wp2
        go_roundw
        case rel => exact ⟨_, k + 1, rfl, by omega, by go_num, by rw [HF5.out], HR5.out, HBR.out⟩
        case measure => simp [intOf]; omega
    · have hke : k = l.length := by omega
      subst hke
      have hki : ¬ (l.length : Int) < (l.length : Int) := by omega
      obtain ⟨R, hR⟩ : ∃ x, (scanW l l.length).1 = x := ⟨_, rfl⟩
      obtain ⟨f, hf⟩ : ∃ x, (scanW l l.length).2 = x := ⟨_, rfl⟩
      rw [hR, hf] at HWE
      rw [hR] at hown hsc
      rw [hf] at hsc ⊢
      have HO : Hid (wr.ownsRow w.heap.size 9 1 v R.length (scells R)) := hown
      have hx : (⟨l.toArray⟩ : ByteArray).extract f l.length = ⟨(l.drop f).toArray⟩ := by rw [ba_extract, List.take_of_length_le (by simp)]
      obtain ⟨r, hr⟩ : ∃ x, l.drop f = x := ⟨_, rfl⟩
      rw [hr] at hx HWE
      have hfk : (f : Int) ≤ (l.length : Int) := by omega
      clear hR hf hown hbr HO0 HBA hr
      go_wp2_with (at_builtin; refine wpList_append_own _ rfl (.tmp 26) (.tmp 30) 40 rfl w.heap.size 9 i0 (.string ⟨#[]⟩) 1 16 Tryz.underlying40 hi hz0 hz1 hz2 rfl (by decide) _ _ _ rfl (HO.out.alloc _) ⟨wr.heap.size, 0, none⟩ 1 1 [.string ⟨r.toArray⟩] rfl rfl (World.news_of_block (heap_alloc_new wr _)) (one_oneS _) (by unfold maxLen; omega) (by omega) (by simp; have := HSZ.out; omega) ?_; intro v5 w5 o5 g5 _)
      have q5 : Below w.heap.size w w5 := (HBR.out.alloc (by have := HSZ.out; omega) _).grown g5 (by have := HSZ.out; simp; omega) HLT.out
      have HR5 : Hid (w5.ownsRow w.heap.size 9 1 v5 WW.length (scells WW)) := by
        rw [Hid, HWE.out, List.length_append, scells_append]; exact o5
      obtain ⟨a, cp, hv, -, -⟩ := txts_of_own HR5.out
      subst hv
      clear o5 g5 hx
      go_wp2
      go_ret
      exact ⟨a, cp, rfl, HR5.out, q5⟩
end Go.Proofs.YtpenkpiffdbdmaaGreatDoor
/- The line of a message, plainly, as the specification reads it. -/
namespace Go.Proofs.YtpenkpiffdbdmaaGreatDoor
open Go.RowKit
set_option maxRecDepth 100000
def stripZ : List UInt8 → List UInt8
  | [] => []
  | [a] => [a]
  | a :: b :: r => if a = 48 then stripZ (b :: r) else a :: b :: r
def swWhole (l : List UInt8) : Int := if l = [] then -1 else numOf l
def sqNum (fs : List Fld) (n : Int) : Int := if swH fs n = false ∨ swD fs n = [] ∨ 18 < (swD fs n).length then -1 else swN fs n
def sqAcct (fs : List Fld) (n : Int) : Int := if swH fs n = false ∨ 4 < (stripZ (swD fs n)).length ∨ swIn (swWhole (stripZ (swD fs n))) = false then -1 else numOf (stripZ (swD fs n))
def sqHas (fs : List Fld) : Bool := swH fs 48 && (Tg.gotT (swD fs 48)).isSome
def sqTag (fs : List Fld) (n : Int) : List UInt8 := if sqHas fs = true then swT (swTg fs) n else []
def sqTagH (fs : List Fld) (n : Int) : Bool := sqHas fs && (Tg.fOf (swTg fs) n).isSome
def sqCase (fs : List Fld) : Int := if sqTagH fs 1 = false ∨ 9 < (sqTag fs 1).length then -1 else swWhole (sqTag fs 1)
def sqLn (a b c d e : List UInt8) : List UInt8 := (((a ++ [32] ++ b) ++ [32] ++ c) ++ [32] ++ d) ++ [32] ++ e
def sqAct (fs : List Fld) (wd : List UInt8) (am rs : Int) : List UInt8 × Int :=
  if am < 0 ∨ rs < 0 then ([], 2) else if sqCase fs < 0 ∨ wd = [] then ([], 3) else (sqLn [97, 99, 116] (Lib.itoa (sqCase fs)) wd (Lib.itoa am) (Lib.itoa rs), 0)
def sqEnd (fs : List Fld) : List UInt8 × Int := sqAct fs (if swWok (sqTag fs 2) = true then sqTag fs 2 else []) (if swH fs 4 = true then sqNum fs 4 else 0) 0
def sqCode (l : List UInt8) : Int := if l = [] then 9999 else numOf l
def sqAuth (fs : List Fld) : List UInt8 × Int :=
  if (((swH fs 37 = false ∨ 1 < (wordsW (swD fs 37)).length) ∨ sqAcct fs 2 < 0) ∨ sqNum fs 49 < 0) ∨ sqNum fs 4 < 0 then ([], 2)
  else (sqLn [97, 117, 116, 104] (swD fs 37) (Lib.itoa (sqAcct fs 2)) (Lib.itoa (sqNum fs 49)) (Lib.itoa (sqNum fs 4)), 0)
def sqPay (fs : List Fld) : List UInt8 × Int :=
  if ((sqAcct fs 2 < 0 ∨ sqAcct fs 93 < 0) ∨ sqNum fs 49 < 0) ∨ sqNum fs 4 < 0 then ([], 2)
  else (sqLn [112, 97, 121] (Lib.itoa (sqAcct fs 2)) (Lib.itoa (sqAcct fs 93)) (Lib.itoa (sqNum fs 49)) (Lib.itoa (sqNum fs 4)), 0)
def sqAns (kd : Int) (fs : List Fld) : List UInt8 × Int :=
  if msgOk kd fs = false then ([], 1) else if kd = 1100 then sqAuth fs else
  let x := 10000 * kd + sqCode (swD fs 24)
  if x = 12400200 then sqPay fs else if x = 16440603 then sqAct fs [97, 115, 107] 0 0 else if x = 16440605 then sqAct fs [103, 105, 118, 101] 0 0
  else if x = 14420450 then sqAct fs [99, 104, 97, 114, 103, 101] (sqNum fs 4) (sqNum fs 25) else if x = 12400205 then sqAct fs [97, 110, 115, 119, 101, 114] (sqNum fs 4) 0
  else if x = 14420451 then sqAct fs [115, 101, 99, 111, 110, 100] (sqNum fs 4) 0 else if x = 17400700 then sqEnd fs else ([], 1)
theorem stripZ_len (l : List UInt8) : (stripZ l).length ≤ l.length := by
  fun_induction stripZ l with
  | case1 => simp
  | case2 => simp
  | case3 b r ih => simp at ih ⊢; omega
  | case4 => simp
theorem sqNum_bd {fs : List Fld} {n : Int} : -1 ≤ sqNum fs n ∧ sqNum fs n < 1000000000000000000 := by
  unfold sqNum; split
  · omega
  · exact numOf_bd _
theorem sqAcct_bd {fs : List Fld} {n : Int} : -1 ≤ sqAcct fs n ∧ sqAcct fs n < 1000000000000000000 := by
  unfold sqAcct; split
  · omega
  · exact numOf_bd _
theorem sqCase_bd {fs : List Fld} : -1 ≤ sqCase fs ∧ sqCase fs < 1000000000000000000 := by
  unfold sqCase swWhole; split
  · omega
  · split
    · omega
    · exact numOf_bd _
/-! what the two readings have in common -/
theorem fOf_mem {fs : List Fld} {n : Int} {d : List UInt8} (h : fOf fs n = some d) : (n, d) ∈ fs := by
  induction fs with
  | nil => simp [fOf] at h
  | cons f r ih =>
    unfold fOf at h
    split at h
    · rename_i hk
      simp only [Option.some.injEq] at h
      have : f = (n, d) := by cases f; simp_all
      simp [this]
    · exact List.mem_cons_of_mem _ (ih h)
theorem field_ok {kd : Int} {fs : List Fld} (hm : msgOk kd fs = true) {n : Int} (h : swH fs n = true) : fieldOk n (swD fs n) = true := by
  unfold swH at h
  cases hf : fOf fs n with
  | none => rw [hf] at h; cases h
  | some d =>
    have hd : swD fs n = d := by unfold swD; rw [hf]; rfl
    rw [hd]
    unfold msgOk at hm
    simp only [Bool.and_eq_true] at hm
    exact (okF_mem hm.2 _ (fOf_mem hf)).1
theorem field_no {fs : List Fld} {n : Int} (h : swH fs n = false) : swD fs n = [] := by
  unfold swH at h; unfold swD
  cases hf : fOf fs n with
  | none => rfl
  | some d => rw [hf] at h; cases h
theorem code_cases {kd : Int} {fs : List Fld} (hm : msgOk kd fs = true) : (swH fs 24 = false ∧ swD fs 24 = []) ∨ (swH fs 24 = true ∧ swD fs 24 ≠ [] ∧ 0 ≤ numOf (swD fs 24) ∧ numOf (swD fs 24) ≤ 999) := by
  cases h : swH fs 24
  · exact .inl ⟨rfl, field_no h⟩
  · have hf := field_ok hm h
    have h3 : (swD fs 24).length = 3 ∧ within 48 57 (swD fs 24) = true := by
      have e : fieldOk 24 (swD fs 24) = (decide (((swD fs 24).length : Int) = 3) && within 48 57 (swD fs 24)) := rfl
      rw [e] at hf
      simp only [Bool.and_eq_true, decide_eq_true_eq] at hf
      exact ⟨by omega, hf.2⟩
    refine .inr ⟨rfl, fun e => by rw [e] at h3; simp at h3, ?_⟩
    rw [numOf_yes (by omega) h3.2]
    have := val_bound (swD fs 24) h3.2 3 (by omega)
    rw [List.take_of_length_le (by omega)] at this
    omega
theorem sqCode_small {kd : Int} {fs : List Fld} (hm : msgOk kd fs = true) : -1 ≤ sqCode (swD fs 24) ∧ sqCode (swD fs 24) ≤ 9999 := by
  unfold sqCode
  rcases code_cases hm with ⟨_, h⟩ | ⟨_, h, h0, h1⟩
  · rw [if_pos h]; omega
  · rw [if_neg h]; omega
theorem numOf_nil : numOf [] = 0 := by decide
theorem numOf_dig {l : List UInt8} (h : within 48 57 l = true) (hl : l.length ≤ 18) : 0 ≤ numOf l := by
  rw [numOf_yes hl h]; omega
end Go.Proofs.YtpenkpiffdbdmaaGreatDoor
/- The two readings of a message come to the same line. -/
namespace Go.Proofs.YtpenkpiffdbdmaaGreatDoor
open Go.RowKit
set_option maxRecDepth 100000
theorem strip_trim (l : List UInt8) : (Lib.trimLeftB l 48 = [] ∧ (stripZ l = [] ∨ stripZ l = [48])) ∨ (∃ a r, Lib.trimLeftB l 48 = a :: r ∧ a ≠ 48 ∧ stripZ l = a :: r) := by
  unfold Lib.trimLeftB
  fun_induction stripZ l with
  | case1 => exact .inl ⟨rfl, .inl rfl⟩
  | case2 a =>
    by_cases h : a = 48
    · subst h; exact .inl ⟨rfl, .inr rfl⟩
    · exact .inr ⟨a, [], by simp [h], h, rfl⟩
  | case3 b r ih => simpa using ih
  | case4 a b r h => exact .inr ⟨a, b :: r, by simp [h], h, rfl⟩
theorem trim_within {a b : Nat} {l : List UInt8} (h : within a b l = true) : within a b (Lib.trimLeftB l 48) = true :=
  within_of fun c hc => within_mem h c (List.dropWhile_subset _ hc)
theorem trim_len (l : List UInt8) : (Lib.trimLeftB l 48).length ≤ l.length := (List.dropWhile_suffix (· == (48 : UInt8)) (l := l)).length_le
theorem val_up (l : List UInt8) : ∀ a, a * 10 ^ l.length ≤ val a l := by
  induction l with
  | nil => intro a; simp [val]
  | cons c r ih =>
    intro a
    have h := ih (a * 10 + (c.toNat - 48))
    rw [val_cons, List.length_cons, Nat.pow_succ]
    have : a * (10 ^ r.length * 10) = (a * 10) * 10 ^ r.length := by rw [Nat.mul_comm (10 ^ r.length) 10, ← Nat.mul_assoc]
    rw [this]
    exact Nat.le_trans (Nat.mul_le_mul_right _ (by omega)) h
/-- an account, by either reading -/
theorem acct_same {fs : List Fld} {n : Int} (hw : swH fs n = true → within 48 57 (swD fs n) = true) : (swIn (swA fs n) = false ∧ sqAcct fs n = -1) ∨ (swIn (swA fs n) = true ∧ sqAcct fs n = swA fs n) := by
  unfold swA sqAcct
  cases hH : swH fs n
  · rw [field_no hH]
    exact .inl ⟨by decide, by simp⟩
  · have hd := hw hH
    rcases strip_trim (swD fs n) with ⟨ht, hs⟩ | ⟨a, r, ht, ha, hs⟩
    · rw [ht]
      refine .inl ⟨by decide, ?_⟩
      rw [if_pos]
      right; right
      rcases hs with hs | hs <;> rw [hs] <;> decide
    · rw [ht, hs]
      have hwt := trim_within hd
      rw [ht] at hwt
      have hac := within_mem hwt a (by simp)
      have ha48 : 49 ≤ a.toNat := by
        rcases Nat.lt_or_ge a.toNat 49 with h | h
        · exact absurd (UInt8.toNat_inj.1 (show a.toNat = (48 : UInt8).toNat by have : (48 : UInt8).toNat = 48 := rfl; omega)) ha
        · exact h
      have hwh : swWhole (a :: r) = numOf (a :: r) := if_neg (by simp)
      rw [hwh]
      by_cases h4 : 4 < (a :: r).length
      · rw [if_pos (.inr (.inl h4))]
        left
        refine ⟨?_, rfl⟩
        unfold swIn
        by_cases h18 : (a :: r).length ≤ 18
        · rw [numOf_yes h18 hwt]
          have h1 := val_up r (0 * 10 + (a.toNat - 48))
          rw [val_cons]
          have h2 : 10 ^ 4 ≤ 10 ^ r.length := Nat.pow_le_pow_right (by omega) (by simp at h4; omega)
          have h3 : 10 ^ r.length ≤ (0 * 10 + (a.toNat - 48)) * 10 ^ r.length := by
            have := Nat.mul_le_mul_right (10 ^ r.length) (show 1 ≤ 0 * 10 + (a.toNat - 48) by omega)
            omega
          have h5 : (10000 : Int) ≤ (val (0 * 10 + (a.toNat - 48)) r : Int) := by
            have : 10000 ≤ val (0 * 10 + (a.toNat - 48)) r := by omega
            omega
          rw [decide_eq_false (show ¬ ((val (0 * 10 + (a.toNat - 48)) r : Int) ≤ 9999) by omega), Bool.and_false]
        · rw [numOf_no1 (by omega)]; decide
      · cases hin : swIn (numOf (a :: r))
        · left
          exact ⟨rfl, if_pos (.inr (.inr rfl))⟩
        · right
          exact ⟨rfl, if_neg (by simp; simpa using h4)⟩
theorem acct_pos {fs : List Fld} {n : Int} (hw : swH fs n = true → within 48 57 (swD fs n) = true) : (sqAcct fs n < 0 ↔ swIn (swA fs n) = false) ∧ (swIn (swA fs n) = true → sqAcct fs n = swA fs n) := by
  rcases acct_same hw with ⟨h1, h2⟩ | ⟨h1, h2⟩
  · exact ⟨⟨fun _ => h1, fun _ => by omega⟩, fun h => absurd h (by rw [h1]; decide)⟩
  · refine ⟨⟨fun h => ?_, fun h => absurd h1 (by rw [h]; decide)⟩, fun _ => h2⟩
    rw [h2] at h
    unfold swIn at h1
    simp only [Bool.and_eq_true, decide_eq_true_eq] at h1
    omega
/-- a number of digits that must be there -/
theorem num_same {fs : List Fld} {n : Int} (hw : swH fs n = true → within 48 57 (swD fs n) = true ∧ swD fs n ≠ [] ∧ (swD fs n).length ≤ 18) : (sqNum fs n < 0 ↔ swH fs n = false) ∧ (swH fs n = true → sqNum fs n = swN fs n ∧ 0 ≤ swN fs n) := by
  unfold sqNum
  cases hH : swH fs n
  · exact ⟨⟨fun _ => rfl, fun _ => by simp⟩, fun h => by cases h⟩
  · obtain ⟨h1, h2, h3⟩ := hw hH
    have h0 : 0 ≤ swN fs n := numOf_dig h1 h3
    rw [if_neg (by simp [h2]; omega)]
    exact ⟨⟨fun h => by omega, fun h => by cases h⟩, fun _ => ⟨rfl, h0⟩⟩
theorem kind1 {kd : Int} {fs : List Fld} (hm : msgOk kd fs = true) {n s : Int} (hk : fK n = 1) (hs : fS n = s) (h0 : 1 ≤ s) (h18 : s ≤ 18) : swH fs n = true → within 48 57 (swD fs n) = true ∧ swD fs n ≠ [] ∧ (swD fs n).length ≤ 18 := fun h => by
  have hf := field_ok hm h
  unfold fieldOk fieldKS at hf
  rw [hk, hs, if_pos rfl] at hf
  simp only [Bool.and_eq_true, decide_eq_true_eq] at hf
  exact ⟨hf.2, fun e => by rw [e] at hf; simp at hf; omega, by omega⟩
theorem kind2 {kd : Int} {fs : List Fld} (hm : msgOk kd fs = true) {n : Int} (hk : fK n = 2) : swH fs n = true → within 48 57 (swD fs n) = true := fun h => by
  have hf := field_ok hm h
  unfold fieldOk fieldKS at hf
  rw [hk, if_neg (by decide), if_pos rfl] at hf
  simp only [Bool.and_eq_true] at hf
  exact hf.2
/-- words are parted at blanks -/
theorem words_one {l : List UInt8} : (wordsW l).length = 1 + (l.filter (· == 32)).length := by
  have h : ∀ i, i ≤ l.length → (scanW l i).1.length = ((l.take i).filter (· == 32)).length := by
    intro i
    induction i with
    | zero => intro _; simp [scanW]
    | succ i ih =>
      intro hi
      have := ih (by omega)
      rw [take_succ_at l i (by omega), List.filter_append, List.length_append, ← this]
      have e : scanW l (i + 1) = if l.getD i 0 = 32 then ((scanW l i).1 ++ [(l.drop (scanW l i).2).take (i - (scanW l i).2)], i + 1) else scanW l i := rfl
      rw [e]
      clear e
      by_cases h32 : l.getD i 0 = 32
      · rw [if_pos h32, h32]; simp
      · rw [if_neg h32]
        rw [List.filter_cons, if_neg (by simpa using h32)]
        simp
  unfold wordsW
  rw [List.length_append, h l.length (Nat.le_refl _), List.take_length]
  simp; omega
theorem ref_same {kd : Int} {fs : List Fld} (hm : msgOk kd fs = true) : (swH fs 37 = false ∨ 1 < (wordsW (swD fs 37)).length) ↔ swRef (swD fs 37) = false := by
  cases hH : swH fs 37
  · rw [field_no hH]
    exact ⟨fun _ => by decide, fun _ => .inl rfl⟩
  · have hf := field_ok hm hH
    have e : fieldOk 37 (swD fs 37) = (decide (((swD fs 37).length : Int) = 12) && within 32 126 (swD fs 37)) := rfl
    rw [e] at hf
    simp only [Bool.and_eq_true, decide_eq_true_eq] at hf
    unfold swRef
    rw [decide_eq_true (show (swD fs 37).length = 12 by omega), Bool.true_and, words_one]
    generalize swD fs 37 = l at hf ⊢
    constructor
    · rintro (h | h)
      · cases h
      · have hne : l.filter (· == 32) ≠ [] := fun e => by rw [e] at h; simp at h
        obtain ⟨c, hc⟩ := List.exists_mem_of_ne_nil _ hne
        obtain ⟨hc1, hc2⟩ := List.mem_filter.1 hc
        have : c = 32 := by simpa using hc2
        subst this
        cases hw : within 33 126 l
        · rfl
        · have := within_mem hw _ hc1
          exact absurd this.1 (by decide)
    · intro h
      right
      have hne : l.filter (· == 32) ≠ [] := fun e => by
        rw [within_of (fun c hc => ?_)] at h
        · cases h
        · have h1 := within_mem hf.2 c hc
          have h2 : ¬ c = 32 := fun ec => by
            have : c ∈ l.filter (· == 32) := List.mem_filter.2 ⟨hc, by simp [ec]⟩
            rw [e] at this; cases this
          have h3 : c.toNat ≠ 32 := fun ec => h2 (UInt8.toNat_inj.1 ec)
          omega
      have : 0 < (l.filter (· == 32)).length := List.length_pos_iff.2 hne
      omega
theorem got_nil : (Tg.gotT []).getD [] = [] := by decide
theorem tag_same (fs : List Fld) (n : Int) : sqTag fs n = swT (swTg fs) n := by
  unfold sqTag sqHas
  cases hH : swH fs 48
  · have : swTg fs = [] := by unfold swTg; rw [field_no hH]; exact got_nil
    rw [this]; rfl
  · cases hG : Tg.gotT (swD fs 48) with
    | none =>
      have : swTg fs = [] := by unfold swTg; rw [hG]; rfl
      rw [this]; rfl
    | some t => rw [if_pos (by rfl)]
theorem case_same (fs : List Fld) : (sqCase fs < 0 ↔ swCb (swTg fs) = true) ∧ (swCb (swTg fs) = false → sqCase fs = swC (swTg fs) ∧ 0 ≤ sqCase fs) := by
  have hh : sqTagH fs 1 = false → swT (swTg fs) 1 = [] := fun h => by
    rw [← tag_same]
    unfold sqTagH at h; unfold sqTag
    cases hb : sqHas fs
    · rfl
    · rw [hb, Bool.true_and] at h
      rw [if_pos rfl]
      unfold swT
      cases hf : Tg.fOf (swTg fs) 1 with
      | none => rfl
      | some d => rw [hf] at h; cases h
  unfold sqCase swCb swC
  rw [tag_same]
  by_cases h0 : swT (swTg fs) 1 = []
  · rw [h0]
    have : (if sqTagH fs 1 = false ∨ 9 < ([] : List UInt8).length then (-1 : Int) else swWhole []) = -1 := by
      split
      · rfl
      · rfl
    rw [this]
    exact ⟨⟨fun _ => by simp, fun _ => by omega⟩, fun h => by simp at h⟩
  · have hH : sqTagH fs 1 = true := by
      cases h : sqTagH fs 1
      · exact absurd (hh h) h0
      · rfl
    have e0 : (swT (swTg fs) 1 == []) = false := by simpa using h0
    rw [hH, e0, Bool.false_or]
    have hwh : swWhole (swT (swTg fs) 1) = numOf (swT (swTg fs) 1) := if_neg h0
    rw [hwh]
    by_cases h9 : 9 < (swT (swTg fs) 1).length
    · rw [if_pos (.inr h9), decide_eq_true h9]
      exact ⟨⟨fun _ => rfl, fun _ => by omega⟩, fun h => by simp at h⟩
    · rw [if_neg (by simp [h9]), decide_eq_false h9, Bool.false_or]
      exact ⟨⟨fun h => decide_eq_true h, fun h => of_decide_eq_true h⟩, fun h => ⟨rfl, by have := of_decide_eq_false h; omega⟩⟩
theorem ln_join (a b c d e : List UInt8) : sqLn a b c d e = swJoin [a, b, c, d, e] := by
  unfold swJoin sqLn; rw [Lib.join_cons]; simp [Lib.joinTail]
theorem bool_if {α : Type} {p : Prop} [Decidable p] {b : Bool} {x y x' y' : α} (h : p ↔ b = true) (h1 : b = true → x = x') (h2 : b = false → y = y') : (if p then x else y) = (if b = true then x' else y') := by
  cases b
  · rw [if_neg (by rw [h]; decide), if_neg (by decide)]; exact h2 rfl
  · rw [if_pos (h.2 rfl), if_pos rfl]; exact h1 rfl
/-- an act's line -/
theorem act_same {fs : List Fld} {wd : List UInt8} {am rs sa sr : Int} {nf nt : Bool} (hf : (am < 0 ∨ rs < 0) ↔ nf = true) (hv : nf = false → am = sa ∧ rs = sr) (ht : (swCb (swTg fs) = true ∨ wd = []) ↔ nt = true) :
    sqAct fs wd am rs = if nf = true then ([], 2) else if nt = true then ([], 3) else (swJoin [[97, 99, 116], Lib.itoa (swC (swTg fs)), wd, Lib.itoa sa, Lib.itoa sr], 0) := by
  obtain ⟨c1, c2⟩ := case_same fs
  unfold sqAct
  refine bool_if hf (fun _ => rfl) fun h => ?_
  obtain ⟨rfl, rfl⟩ := hv h
  refine bool_if (by rw [c1]; exact ht) (fun _ => rfl) fun hn => ?_
  have hcb : swCb (swTg fs) = false := by
    cases h : swCb (swTg fs)
    · rfl
    · rw [ht.1 (.inl h)] at hn; cases hn
  rw [(c2 hcb).1, ln_join]
theorem itoa0 : Lib.itoa 0 = [48] := by simp [Lib.itoa, Lib.decDigits]
theorem wok_ne {l : List UInt8} (h : swWok l = true) : l ≠ [] := fun e => by rw [e] at h; exact absurd h (by decide)
theorem sw_same {kd : Int} {fs : List Fld} : sqAns kd fs = swAns kd fs := by
  unfold sqAns swAns
  by_cases hM : msgOk kd fs = false
  · rw [if_pos hM]
    split
    · rfl
    · rw [hM]; rfl
  have hm : msgOk kd fs = true := by cases h : msgOk kd fs; exact absurd h hM; rfl
  have hkd : 0 ≤ kd ∧ kd ≤ 9999 := by have h := hm; unfold msgOk at h; simp only [Bool.and_eq_true, decide_eq_true_eq] at h; exact h.1
  rw [if_neg hM]
  have n4 := num_same (kind1 hm (n := 4) rfl rfl (by decide) (by decide))
  have n49 := num_same (kind1 hm (n := 49) rfl rfl (by decide) (by decide))
  have n25 := num_same (kind1 hm (n := 25) rfl rfl (by decide) (by decide))
  have a2 := acct_pos (kind2 hm (n := 2) rfl)
  have a93 := acct_pos (kind2 hm (n := 93) rfl)
  have rf := ref_same hm
  have hc := code_cases hm
  by_cases hk : kd = 1100
  · subst hk
    have e : swSort 1100 (swCode 1100 fs) = some 0 := by
      have : swCode 1100 fs = -1 := if_pos (.inr rfl)
      rw [this]; rfl
    rw [if_pos rfl, e]
    simp only [hm, if_true]
    unfold sqAuth
    refine bool_if (b := (swOut 0 fs (swTg fs)).2.1) ?_ (fun _ => rfl) fun h => ?_
    · show _ ↔ (((!swRef (swD fs 37) || !swIn (swA fs 2)) || !swH fs 49) || !swH fs 4) = true
      rw [rf, a2.1, n49.1, n4.1]
      simp only [Bool.or_eq_true, Bool.not_eq_true']
    · have h' : (((!swRef (swD fs 37) || !swIn (swA fs 2)) || !swH fs 49) || !swH fs 4) = false := h
      simp only [Bool.or_eq_false_iff, Bool.not_eq_false'] at h'
      rw [if_neg (show ¬ (swOut 0 fs (swTg fs)).2.2 = true from fun e => by cases e), ln_join, a2.2 h'.1.1.2, (n49.2 h'.1.2).1, (n4.2 h'.2).1]
      rfl
  rw [if_neg hk]
  -- the number of the kind and the function together tells both
  have hcode : (swCode kd fs = -1 ∧ sqCode (swD fs 24) = 9999) ∨ (swCode kd fs = sqCode (swD fs 24) ∧ 0 ≤ sqCode (swD fs 24) ∧ sqCode (swD fs 24) ≤ 999) := by
    rcases hc with ⟨h1, h2⟩ | ⟨h1, h2, h3, h4⟩
    · exact .inl ⟨if_pos (.inl h1), by rw [h2]; rfl⟩
    · have e : sqCode (swD fs 24) = numOf (swD fs 24) := if_neg h2
      rw [e]
      exact .inr ⟨if_neg (by rw [h1]; simp [hk]), h3, h4⟩
  generalize swCode kd fs = cd at hcode ⊢
  generalize sqCode (swD fs 24) = sc at hcode ⊢
  simp only []
  have key : ∀ a c : Int, 0 ≤ c → c ≤ 999 → (10000 * kd + sc = 10000 * a + c ↔ (kd, cd) = (a, c)) := fun a c h0 h1 => by
    rw [Prod.mk.injEq]
    constructor
    · intro h; omega
    · rintro ⟨rfl, rfl⟩; omega
  have hs : swSort kd cd = if (kd, cd) = (1240, 200) then some 1 else if (kd, cd) = (1240, 205) then some 2 else if (kd, cd) = (1442, 450) then some 3
      else if (kd, cd) = (1442, 451) then some 4 else if (kd, cd) = (1644, 603) then some 5 else if (kd, cd) = (1644, 605) then some 6 else if (kd, cd) = (1740, 700) then some 7 else none := by
    unfold swSort
    rw [if_neg (by rw [Prod.mk.injEq]; exact fun h => hk h.1)]
  have k1 := key 1240 200 (by decide) (by decide)
  have k2 := key 1240 205 (by decide) (by decide)
  have k3 := key 1442 450 (by decide) (by decide)
  have k4 := key 1442 451 (by decide) (by decide)
  have k5 := key 1644 603 (by decide) (by decide)
  have k6 := key 1644 605 (by decide) (by decide)
  have k7 := key 1740 700 (by decide) (by decide)
  rw [show (10000 * 1240 + 200 : Int) = 12400200 from rfl] at k1
  rw [show (10000 * 1240 + 205 : Int) = 12400205 from rfl] at k2
  rw [show (10000 * 1442 + 450 : Int) = 14420450 from rfl] at k3
  rw [show (10000 * 1442 + 451 : Int) = 14420451 from rfl] at k4
  rw [show (10000 * 1644 + 603 : Int) = 16440603 from rfl] at k5
  rw [show (10000 * 1644 + 605 : Int) = 16440605 from rfl] at k6
  rw [show (10000 * 1740 + 700 : Int) = 17400700 from rfl] at k7
  rw [hs]
  clear hs hcode
  generalize 10000 * kd + sc = x at k1 k2 k3 k4 k5 k6 k7 key ⊢
  clear key
  simp only [hm, if_true]
  by_cases h1 : (kd, cd) = (1240, 200)
  · rw [if_pos (k1.2 h1), if_pos h1]
    unfold sqPay
    refine bool_if (b := (swOut 1 fs (swTg fs)).2.1) ?_ (fun _ => rfl) fun h => ?_
    · show _ ↔ (((!swIn (swA fs 2) || !swIn (swA fs 93)) || !swH fs 49) || !swH fs 4) = true
      rw [a2.1, a93.1, n49.1, n4.1]
      simp only [Bool.or_eq_true, Bool.not_eq_true']
    · have h' : (((!swIn (swA fs 2) || !swIn (swA fs 93)) || !swH fs 49) || !swH fs 4) = false := h
      simp only [Bool.or_eq_false_iff, Bool.not_eq_false'] at h'
      rw [if_neg (show ¬ (swOut 1 fs (swTg fs)).2.2 = true from fun e => by cases e), ln_join, a2.2 h'.1.1.1, a93.2 h'.1.1.2, (n49.2 h'.1.2).1, (n4.2 h'.2).1]
      rfl
  rw [if_neg (fun e => h1 (k1.1 e)), if_neg h1]
  have one : ∀ {nt : Bool}, ((swCb (swTg fs) = true ∨ False) ↔ nt = true) → (swCb (swTg fs) = true ↔ nt = true) := fun h => by simpa using h
  have hcb : ∀ {wd : List UInt8}, wd ≠ [] → ((swCb (swTg fs) = true ∨ wd = []) ↔ swCb (swTg fs) = true) := fun h => by simp [h]
  by_cases h5 : (kd, cd) = (1644, 603)
  · have q : ∀ a c : Int, ((1644 : Int), (603 : Int)) ≠ (a, c) → ¬ (kd, cd) = (a, c) := fun a c h e => h (h5.symm.trans e)
    rw [if_pos (k5.2 h5), if_neg (q 1240 205 (by decide)), if_neg (q 1442 450 (by decide)), if_neg (q 1442 451 (by decide)), if_pos h5]
    have := act_same (fs := fs) (wd := [97, 115, 107]) (am := 0) (rs := 0) (sa := 0) (sr := 0) (nf := false) (nt := swCb (swTg fs)) (by decide) (fun _ => ⟨rfl, rfl⟩) (hcb (by decide))
    rw [itoa0] at this
    exact this
  rw [if_neg (fun e => h5 (k5.1 e))]
  by_cases h6 : (kd, cd) = (1644, 605)
  · have q : ∀ a c : Int, ((1644 : Int), (605 : Int)) ≠ (a, c) → ¬ (kd, cd) = (a, c) := fun a c h e => h (h6.symm.trans e)
    rw [if_pos (k6.2 h6), if_neg (q 1240 205 (by decide)), if_neg (q 1442 450 (by decide)), if_neg (q 1442 451 (by decide)), if_neg (q 1644 603 (by decide)), if_pos h6]
    have := act_same (fs := fs) (wd := [103, 105, 118, 101]) (am := 0) (rs := 0) (sa := 0) (sr := 0) (nf := false) (nt := swCb (swTg fs)) (by decide) (fun _ => ⟨rfl, rfl⟩) (hcb (by decide))
    rw [itoa0] at this
    exact this
  rw [if_neg (fun e => h6 (k6.1 e))]
  by_cases h3 : (kd, cd) = (1442, 450)
  · have q : ∀ a c : Int, ((1442 : Int), (450 : Int)) ≠ (a, c) → ¬ (kd, cd) = (a, c) := fun a c h e => h (h3.symm.trans e)
    rw [if_pos (k3.2 h3), if_neg (q 1240 205 (by decide)), if_pos h3]
    exact act_same (fs := fs) (wd := [99, 104, 97, 114, 103, 101]) (sa := swN fs 4) (sr := swN fs 25) (nf := !swH fs 4 || !swH fs 25) (nt := swCb (swTg fs)) (by rw [n4.1, n25.1]; simp only [Bool.or_eq_true, Bool.not_eq_true'])
      (fun h => by simp only [Bool.or_eq_false_iff, Bool.not_eq_false'] at h; exact ⟨(n4.2 h.1).1, (n25.2 h.2).1⟩) (hcb (by decide))
  rw [if_neg (fun e => h3 (k3.1 e))]
  by_cases h2 : (kd, cd) = (1240, 205)
  · rw [if_pos (k2.2 h2), if_pos h2]
    have := act_same (fs := fs) (wd := [97, 110, 115, 119, 101, 114]) (am := sqNum fs 4) (rs := 0) (sa := swN fs 4) (sr := 0) (nf := !swH fs 4) (nt := swCb (swTg fs)) (by rw [n4.1]; simp)
      (fun h => by simp only [Bool.not_eq_false'] at h; exact ⟨(n4.2 h).1, rfl⟩) (hcb (by decide))
    rw [itoa0] at this
    exact this
  rw [if_neg (fun e => h2 (k2.1 e)), if_neg h2, if_neg h3]
  by_cases h4 : (kd, cd) = (1442, 451)
  · rw [if_pos (k4.2 h4), if_pos h4]
    have := act_same (fs := fs) (wd := [115, 101, 99, 111, 110, 100]) (am := sqNum fs 4) (rs := 0) (sa := swN fs 4) (sr := 0) (nf := !swH fs 4) (nt := swCb (swTg fs)) (by rw [n4.1]; simp)
      (fun h => by simp only [Bool.not_eq_false'] at h; exact ⟨(n4.2 h).1, rfl⟩) (hcb (by decide))
    rw [itoa0] at this
    exact this
  rw [if_neg (fun e => h4 (k4.1 e)), if_neg h4, if_neg h5, if_neg h6]
  by_cases h7 : (kd, cd) = (1740, 700)
  · rw [if_pos (k7.2 h7), if_pos h7]
    have ham : (if swH fs 4 = true then sqNum fs 4 else 0) = swN fs 4 ∧ 0 ≤ swN fs 4 := by
      cases hH : swH fs 4
      · have : swN fs 4 = 0 := by unfold swN; rw [field_no hH]; exact numOf_nil
        rw [this]; exact ⟨rfl, by decide⟩
      · rw [if_pos rfl]; exact n4.2 hH
    have hwd : (if swWok (sqTag fs 2) = true then sqTag fs 2 else []) = swW (swTg fs) := by rw [tag_same]; rfl
    have hwe : swW (swTg fs) = [] ↔ swWok (swT (swTg fs) 2) = false := by
      unfold swW
      cases h : swWok (swT (swTg fs) 2)
      · simp
      · rw [if_pos rfl]; exact ⟨fun e => absurd e (wok_ne h), fun e => by cases e⟩
    unfold sqEnd
    rw [ham.1, hwd]
    have := act_same (fs := fs) (wd := swW (swTg fs)) (am := swN fs 4) (rs := 0) (sa := swN fs 4) (sr := 0) (nf := false) (nt := !swWok (swT (swTg fs) 2) || swCb (swTg fs)) (by have := ham.2; simp; omega)
      (fun _ => ⟨rfl, rfl⟩) (by rw [hwe]; simp only [Bool.or_eq_true, Bool.not_eq_true']; exact Or.comm)
    rw [itoa0] at this
    exact this
  rw [if_neg (fun e => h7 (k7.1 e)), if_neg h7]
end Go.Proofs.YtpenkpiffdbdmaaGreatDoor
