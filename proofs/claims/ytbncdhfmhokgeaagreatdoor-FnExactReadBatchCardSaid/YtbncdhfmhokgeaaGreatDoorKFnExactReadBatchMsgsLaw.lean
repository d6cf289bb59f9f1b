/- The laws' own functions over slices of messages: how much one takes, its copy, whether two are the same. -/
import Derived.Test.YtbncdhfmhokgeaaGreatDoorJFnExactReadBatch3a
namespace Go.Proofs.YtbncdhfmhokgeaaGreatDoor
open Go.RowKit
set_option maxRecDepth 100000

set_option maxHeartbeats 800000 in
theorem szFieldSL_any (L : Int) (ao : Option Addr) (cap : Nat) (fs : List Fld) (w : World) (hL0 : 0 ≤ L) (hL1 : L ≤ 1048576) (hz : FldsAt w ao fs) (hd : FldsBd fs) :
    Calls Tryz.prog 116 #[.slice ao fs.length cap, .int .i64 L] w fun e w' => e = .returned (.int .i64 (leftM fs L)) ∧ Below w.heap.size w w' := by
  have hn : fs.length ≤ 9223372036854775807 := by have := hd.1; unfold maxLen at this; omega
  have HD : Hid (∀ k, k < fs.length → (at0 fs k).2.length ≤ 9223372036854775807) := by
    intro k hk; have := hd.2 _ (at0_mem hk); unfold maxLen at this; omega
  clear hd
  by_cases hneg : L - (fs.length : Int) < 0
  · have HE : Hid (leftM fs L = -1) := if_pos hneg
    go_enter Tryz.func116, Tryz.ntmps116
    go_wp2
    go_ret
    exact ⟨one_int HE.out.symm, Below.refl _ _⟩
  · have HE : Hid (leftM fs L = leftFs fs (L - (fs.length : Int))) := if_neg hneg
    rcases hz with rfl | ⟨b, off, rfl, hb, hcell⟩
    · go_enter Tryz.func116, Tryz.ntmps116
      go_wp2
      refine wp_loop_rounds 1 ?_
      rw [rounds_succ]
      go_wp2
      go_ret
      exact ⟨one_int (by rw [HE.out]; simp [leftFs]), Below.refl _ _⟩
    · have HC : Hid (∀ i, i < fs.length → w.cell? ⟨b, off + i * 2, none⟩ = some (.int .i64 (at0 fs i).1) ∧ w.cell? ⟨b, off + i * 2 + 1, none⟩ = some (.string ⟨(at0 fs i).2.toArray⟩)) := hcell
      clear hcell
      go_enter Tryz.func116, Tryz.ntmps116
      go_wp2
      go_loopw [1, 5] (fun v i wr => ∃ (k : Nat) (l : Int), k ≤ fs.length ∧ i = .int .i64 k ∧ v = .int .i64 l ∧ 0 ≤ l ∧ l ≤ 1048576 ∧ leftM fs L = leftFs (fs.drop k) l ∧ Below w.heap.size w wr) (fun _ i _ => fs.length - (intOf i).toNat)
      case atStart => exact ⟨0, _, Nat.zero_le _, rfl, rfl, by omega, by omega, HE.out, Below.refl _ _⟩
      case round =>
        obtain ⟨k, l, hk, rfl, rfl, h0, h1, hleft, hbr⟩ := hrel
        by_cases hlt : k < fs.length
        · have c1 : wr.cell? ⟨b, off + k * 2, none⟩ = some (.int .i64 (at0 fs k).1) := (hbr.cell (p := ⟨b, off + k * 2, none⟩) hb).trans (HC.out k hlt).1
          have c2 : wr.cell? ⟨b, off + k * 2 + 1, none⟩ = some (.string ⟨(at0 fs k).2.toArray⟩) := (hbr.cell (p := ⟨b, off + k * 2 + 1, none⟩) hb).trans (HC.out k hlt).2
          have hki : (k : Int) < (fs.length : Int) := by omega
          have hst := leftFs_step fs k l hlt
          have hdk := HD.out k hlt
          obtain ⟨⟨n, s⟩, hf⟩ : ∃ f, at0 fs k = f := ⟨_, rfl⟩
          rw [hf] at c1 c2 hst hdk
          simp only at c1 c2 hst hdk
          by_cases hng : l - (s.length : Int) < 0
          · have HN : Hid (leftM fs L = -1) := by rw [Hid, hleft, hst, if_pos hng]
            have HF : Hid (leftF s l = -1) := if_pos hng
            clear hst hf hleft
            go_wp2_with fail
            refine (szField_any _ _ _ _ ⟨h1, h0⟩ hdk).mono ?_
            rintro e w1 ⟨rfl, b1⟩
            rw [HF.out]
            go_wp2
            go_ret
            exact ⟨one_int HN.out.symm, hbr.trans (b1.mono hbr.size)⟩
          · have HN : Hid (leftM fs L = leftFs (fs.drop (k + 1)) (l - (s.length : Int))) := by rw [Hid, hleft, hst, if_neg hng]
            have HF : Hid (leftF s l = l - (s.length : Int)) := if_neg hng
            clear hst hf hleft
            go_wp2_with fail
            refine (szField_any _ _ _ _ ⟨h1, h0⟩ hdk).mono ?_
            rintro e w1 ⟨rfl, b1⟩
            rw [HF.out]
            go_wp2
            go_roundw
            case rel => exact ⟨k + 1, _, by omega, by go_num, rfl, by omega, by omega, HN.out, hbr.trans (b1.mono hbr.size)⟩
            case measure => simp [intOf]; omega
        · have : k = fs.length := by omega
          subst this
          have HN : Hid (leftM fs L = l) := by rw [Hid, hleft, List.drop_of_length_le (Nat.le_refl _)]; rfl
          clear hleft
          go_wp2
          go_ret
          exact ⟨one_int HN.out.symm, hbr⟩


set_option maxHeartbeats 800000 in
theorem szMessageL_any (L kd : Int) (ao : Option Addr) (cap : Nat) (fs : List Fld) (w : World) (hL0 : 0 ≤ L) (hL1 : L ≤ 1048576) (hz : FldsAt w ao fs) (hd : FldsBd fs) :
    Calls Tryz.prog 74 #[.agg #[.int .i64 kd, .slice ao fs.length cap], .int .i64 L] w fun e w' => e = .returned (.int .i64 (leftM fs L)) ∧ Below w.heap.size w w' := by
  have bel1 : Below w.heap.size w (w.alloc (.cells #[.int .i64 kd, .slice ao fs.length cap] 97)) := (Below.refl _ _).alloc (Nat.le_refl _) _
  have hz1 := hz.below bel1
  have hlo : -1 ≤ leftM fs L := by
    have : ∀ (gs : List Fld) (l : Int), -1 ≤ l → -1 ≤ leftFs gs l := by
      intro gs
      induction gs with
      | nil => intro l h; exact h
      | cons f r ih => intro l h; simp only [leftFs]; split; omega; exact ih _ (by omega)
    unfold leftM; split
    · omega
    · exact this _ _ (by omega)
  go_enter Tryz.func74, Tryz.ntmps74
  go_wp2_with fail
  refine (szFieldSL_any _ _ _ _ _ hL0 hL1 hz1 hd).mono ?_
  rintro e w1 ⟨rfl, b1⟩
  have bel := bel1.trans (b1.mono bel1.size)
  clear b1 bel1 hz1 hz hd
  obtain ⟨r, hr⟩ : ∃ r, leftM fs L = r := ⟨_, rfl⟩
  rw [hr] at hlo ⊢
  have HR : Hid _ := hr
  clear hr
  by_cases hneg : r < 0
  · obtain rfl : r = -1 := by omega
    go_wp2
    go_ret
    exact ⟨one_int HR.out.symm, bel⟩
  · go_wp2
    go_ret
    exact ⟨one_int HR.out.symm, bel⟩


/-- what is left behind all messages -/
def leftMs : List Msg → Int → Int
  | [], left => left
  | m :: r, left => if leftM m.2 left < 0 then -1 else leftMs r (leftM m.2 left)
def leftMM (ms : List Msg) (left : Int) : Int := if left - (ms.length : Int) < 0 then -1 else leftMs ms (left - (ms.length : Int))
theorem leftMs_step (ms : List Msg) (k : Nat) (left : Int) (h : k < ms.length) : leftMs (ms.drop k) left = if leftM (mAt ms k).2 left < 0 then -1 else leftMs (ms.drop (k + 1)) (leftM (mAt ms k).2 left) := by
  rw [List.drop_eq_getElem_cons h, mAt_is h]; rfl
theorem leftFs_le (fs : List Fld) : ∀ left, 0 ≤ leftFs fs left → leftFs fs left ≤ left := by
  induction fs with
  | nil => intro left _; simp [leftFs]
  | cons f r ih =>
    intro left h
    simp only [leftFs] at h ⊢
    split at h
    · omega
    · rename_i hn
      rw [if_neg hn]
      have := ih _ h
      omega
theorem leftM_le {fs : List Fld} {left : Int} (h : 0 ≤ leftM fs left) : leftM fs left ≤ left := by
  unfold leftM at h ⊢
  split at h
  · omega
  · rename_i hn
    rw [if_neg hn]
    have := leftFs_le fs _ h
    omega
theorem leftM_lo (fs : List Fld) {left : Int} (h : leftM fs left < 0) : leftM fs left = -1 := by
  have : ∀ (gs : List Fld) (l : Int), 0 ≤ l → leftFs gs l < 0 → leftFs gs l = -1 := by
    intro gs
    induction gs with
    | nil => intro l h h2; simp only [leftFs] at h2; omega
    | cons f r ih =>
      intro l h h2
      simp only [leftFs] at h2 ⊢
      split
      · rfl
      · rename_i hn
        rw [if_neg hn] at h2
        exact ih _ (by omega) h2
  unfold leftM at h ⊢
  split
  · rfl
  · rename_i hn
    rw [if_neg hn] at h
    exact this _ _ (by omega) h
theorem leftMs_mem {ms : List Msg} : ∀ {left : Int}, 0 ≤ leftMs ms left → ∀ m ∈ ms, (m.2.length : Int) + sumF m.2 ≤ left := by
  induction ms with
  | nil => intro left _ m hm; cases hm
  | cons x r ih =>
    intro left h m hm
    simp only [leftMs] at h
    split at h
    · omega
    · rename_i hn
      have h1 : 0 ≤ leftM x.2 left := by omega
      have h2 := leftM_sum h1
      have h3 := leftM_le h1
      rcases List.mem_cons.1 hm with rfl | hr
      · exact h2
      · have := ih h m hr; omega
theorem leftMM_mem {ms : List Msg} {left : Int} (h : 0 ≤ leftMM ms left) : (ms.length : Int) ≤ left ∧ ∀ m ∈ ms, (m.2.length : Int) + sumF m.2 ≤ left := by
  unfold leftMM at h
  split at h
  · omega
  · exact ⟨by omega, fun m hm => by have := leftMs_mem h m hm; omega⟩

set_option maxHeartbeats 800000 in
theorem szMessageS_any (ao : Option Addr) (cap : Nat) (xs : List MV) (w : World) (hz : MsgsAt w ao xs) (hd : MsgsBd xs) :
    Calls Tryz.prog 26 #[.slice ao xs.length cap, .int .i64 1048576] w fun e w' => e = .returned (.int .i64 (leftMM (plainM xs) 1048576)) ∧ Below w.heap.size w w' := by
  have hn : xs.length ≤ 9223372036854775807 := by have := hd.1; unfold maxLen at this; omega
  have HD : Hid (∀ k, k < xs.length → FldsBd (vAt xs k).fs) := fun k hk => hd.2 _ (vAt_mem hk)
  have HZ : Hid (MsgsAt w ao xs) := hz
  clear hd hz
  by_cases hneg : (1048576 : Int) - (xs.length : Int) < 0
  · have HE : Hid (leftMM (plainM xs) 1048576 = -1) := by unfold leftMM; rw [plainM_len]; exact if_pos hneg
    go_enter Tryz.func26, Tryz.ntmps26
    go_wp2
    go_ret
    exact ⟨one_int HE.out.symm, Below.refl _ _⟩
  · have HE : Hid (leftMM (plainM xs) 1048576 = leftMs (plainM xs) (1048576 - (xs.length : Int))) := by unfold leftMM; rw [plainM_len]; exact if_neg hneg
    go_enter Tryz.func26, Tryz.ntmps26
    go_wp2
    go_loopw [1, 5] (fun v i wr => ∃ (k : Nat) (l : Int), k ≤ xs.length ∧ i = .int .i64 k ∧ v = .int .i64 l ∧ 0 ≤ l ∧ l ≤ 1048576 ∧ leftMM (plainM xs) 1048576 = leftMs ((plainM xs).drop k) l ∧ Below w.heap.size w wr) (fun _ i _ => xs.length - (intOf i).toNat)
    case atStart => exact ⟨0, _, Nat.zero_le _, rfl, rfl, by omega, by omega, HE.out, Below.refl _ _⟩
    case round =>
      obtain ⟨k, l, hk, rfl, rfl, h0, h1, hleft, hbr⟩ := hrel
      by_cases hlt : k < xs.length
      · obtain ⟨b, off, rfl, hb, c1, c2, hf⟩ := (HZ.out.below hbr).at hlt
        have hki : (k : Int) < (xs.length : Int) := by omega
        have hst := leftMs_step (plainM xs) k l (by rw [plainM_len]; exact hlt)
        rw [plainM_at hlt] at hst
        have hdk := HD.out k hlt
        obtain ⟨⟨kd, fa, fc, fs⟩, hx⟩ : ∃ x, vAt xs k = x := ⟨_, rfl⟩
        rw [hx] at c1 c2 hst hdk hf
        simp only at c1 c2 hst hdk hf
        by_cases hng : leftM fs l < 0
        · have HN : Hid (leftMM (plainM xs) 1048576 = -1) := by rw [Hid, hleft, hst, if_pos hng]
          have HF : Hid (leftM fs l = -1) := leftM_lo fs hng
          clear hst hx hleft hng
          go_wp2_with fail
          refine (szMessageL_any _ _ _ _ _ _ h0 h1 hf hdk).mono ?_
          rintro e w1 ⟨rfl, b1⟩
          rw [HF.out]
          go_wp2
          go_ret
          exact ⟨one_int HN.out.symm, hbr.trans (b1.mono hbr.size)⟩
        · have HN : Hid (leftMM (plainM xs) 1048576 = leftMs ((plainM xs).drop (k + 1)) (leftM fs l)) := by rw [Hid, hleft, hst, if_neg hng]
          have hle := leftM_le (fs := fs) (left := l) (by omega)
          have HC : Hid (Calls Tryz.prog 74 #[.agg #[.int .i64 kd, .slice fa fs.length fc], .int .i64 l] wr fun e w' => e = .returned (.int .i64 (leftM fs l)) ∧ Below wr.heap.size wr w') := szMessageL_any _ _ _ _ _ _ h0 h1 hf hdk
          obtain ⟨r, hr⟩ : ∃ r, leftM fs l = r := ⟨_, rfl⟩
          rw [hr] at HN hng hle HC
          clear hst hx hleft hr
          go_wp2_with fail
          refine HC.out.mono ?_
          rintro e w1 ⟨rfl, b1⟩
          go_wp2
          go_roundw
          case rel => exact ⟨k + 1, _, by omega, by go_num, rfl, by omega, by omega, HN.out, hbr.trans (b1.mono hbr.size)⟩
          case measure => simp [intOf]; omega
      · have : k = xs.length := by omega
        subst this
        have HN : Hid (leftMM (plainM xs) 1048576 = l) := by rw [Hid, hleft, List.drop_of_length_le (by rw [plainM_len]; exact Nat.le_refl _)]; rfl
        clear hleft
        go_wp2
        go_ret
        exact ⟨one_int HN.out.symm, hbr⟩

/-- a message whose fields lie in a block of their own, behind 'base' -/
def Behind (base : Nat) (x : MV) : Prop := ∃ g, x.ao = some ⟨g, 0, none⟩ ∧ base < g ∧ x.cap = x.fs.length
theorem FldsAt.set {w : World} {g o B : Nat} {v : Value} {fs : List Fld} (h : FldsAt w (some ⟨g, 0, none⟩) fs) (hne : B < g) : FldsAt (w.setCell ⟨B, o, none⟩ v) (some ⟨g, 0, none⟩) fs := by
  rcases h with h | ⟨b, off, h1, h2, h3⟩
  · exact .inl h
  · obtain ⟨rfl, rfl⟩ : g = b ∧ 0 = off := by simpa using h1
    refine .inr ⟨g, 0, rfl, by simpa using h2, fun i hi => ?_⟩
    have a1 : (w.setCell ⟨B, o, none⟩ v).cell? ⟨g, 0 + i * 2, none⟩ = w.cell? ⟨g, 0 + i * 2, none⟩ := World.cell?_setCell_other _ _ _ _ (by first | (simp; done) | (simp; omega))
    have a2 : (w.setCell ⟨B, o, none⟩ v).cell? ⟨g, 0 + i * 2 + 1, none⟩ = w.cell? ⟨g, 0 + i * 2 + 1, none⟩ := World.cell?_setCell_other _ _ _ _ (by first | (simp; done) | (simp; omega))
    rw [a1, a2]; exact h3 i hi
theorem rep_set (ds : List MV) (n k : Nat) (x : MV) (hk : ds.length = k) (h : k < n) : (ds ++ List.replicate (n - k) MV.z).set k x = ds ++ [x] ++ List.replicate (n - (k + 1)) MV.z := by
  subst hk
  rw [List.set_append, if_neg (by omega), Nat.sub_self, show n - ds.length = n - (ds.length + 1) + 1 by omega, List.replicate_succ, List.set_cons_zero, List.append_assoc]
  rfl
theorem rep_at (ds : List MV) (n k : Nat) (hk : ds.length = k) (h : k < n) : vAt (ds ++ List.replicate (n - k) MV.z) k = MV.z := by
  subst hk
  have e : n - ds.length = n - (ds.length + 1) + 1 := by omega
  simp [vAt, List.getD_eq_getElem?_getD, e, List.replicate_succ]

set_option maxHeartbeats 1600000 in
theorem toMessageS_any (ao : Option Addr) (cap : Nat) (xs : List MV) (w : World) (hz : MsgsAt w ao xs) (hn : xs.length ≤ 1048576) (hd : ∀ x ∈ xs, x.fs.length ≤ 1048576) :
    Calls Tryz.prog 27 #[.slice ao xs.length cap] w fun e w' => ∃ ys, e = .returned (.slice (some ⟨w.heap.size, 0, none⟩) xs.length xs.length) ∧ plainM ys = plainM xs ∧ MsgsAt w' (some ⟨w.heap.size, 0, none⟩) ys ∧ (∀ y ∈ ys, Behind w.heap.size y) ∧ Below w.heap.size w w' := by
  obtain ⟨i0, hi, hz0, hz1, hz2⟩ := info_parts infoM
  have hm0 := cells_repM xs.length
  have HZ : Hid (MsgsAt w ao xs) := hz
  have HD : Hid (∀ k, k < xs.length → (vAt xs k).fs.length ≤ 1048576) := fun k hk => hd _ (vAt_mem hk)
  clear hz hd
  go_enter Tryz.func27, Tryz.ntmps27
  go_wp2_with (refine wpList_make_full _ rfl (.tmp 6) (.tmp 6) 35 rfl w.heap.size 26 i0 _ 2 Tryz.underlying35 hi hz0 hz1 .i64 .i64 _ _ xs.length rfl rfl rfl rfl (by rw [hz2]; omega) (by unfold maxLen; omega) (Nat.le_refl _) ?_; intro w1 hown hg)
  rw [hm0] at hown
  have hb1 : Below w.heap.size w w1 := (Below.refl _ _).grown hg (Nat.le_refl _) (fun k hk => by cases hk)
  clear hm0 hg
  go_loopw [4] (fun i wr => ∃ (ds : List MV) (k : Nat), ds.length = k ∧ k ≤ xs.length ∧ i = .int .i64 k ∧ plainM ds = (plainM xs).take k ∧ (∀ y ∈ ds, Behind w.heap.size y ∧ FldsAt wr y.ao y.fs) ∧ wr.ownsRow w.heap.size 26 2 (.slice (some ⟨w.heap.size, 0, none⟩) xs.length xs.length) xs.length (mcells (ds ++ List.replicate (xs.length - k) MV.z)) ∧ Below w.heap.size w wr) (fun i _ => xs.length - (intOf i).toNat)
  case atStart => exact ⟨[], 0, rfl, Nat.zero_le _, rfl, rfl, (fun y hy => by cases hy), hown, hb1⟩
  case round =>
    obtain ⟨ds, k, hkd, hk, rfl, hpl, hds, ho, hbr⟩ := hrel
    clear hown hb1
    have HKD : Hid _ := hkd
    have HPL : Hid _ := hpl
    have HDS : Hid (∀ y ∈ ds, Behind w.heap.size y ∧ FldsAt wr y.ao y.fs) := hds
    clear hpl hds
    by_cases hlt : k < xs.length
    · obtain ⟨b, off, rfl, hb, c1, c2, hf⟩ := (HZ.out.below hbr).at hlt
      have hki : (k : Int) < (xs.length : Int) := by omega
      have hdk := HD.out _ hlt
      have HTK : Hid ((plainM xs).take (k + 1) = (plainM xs).take k ++ [((vAt xs k).kd, (vAt xs k).fs)]) := by rw [Hid, take_mAt _ _ (by rw [plainM_len]; exact hlt), plainM_at hlt]
      have HL2 : Hid ((ds ++ List.replicate (xs.length - k) MV.z).length = xs.length) := by rw [Hid]; simp; omega
      have HO : Hid (wr.ownsRow w.heap.size 26 2 (.slice (some ⟨w.heap.size, 0, none⟩) xs.length xs.length) xs.length (mcells (ds ++ List.replicate (xs.length - k) MV.z))) := ho
      have HA : Hid _ := rep_at ds xs.length k hkd hlt
      have HRS : Hid (∀ x, (ds ++ List.replicate (xs.length - k) MV.z).set k x = ds ++ [x] ++ List.replicate (xs.length - (k + 1)) MV.z) := fun x => rep_set ds xs.length k x hkd hlt
      have hws : w.heap.size < wr.heap.size := (ho.lt _ rfl).2
      obtain ⟨⟨kd, fa, fc, fs⟩, hx⟩ : ∃ x, vAt xs k = x := ⟨_, rfl⟩
      rw [hx] at c1 c2 hf hdk HTK
      simp only at c1 c2 hf hdk HTK
      clear hx ho hkd
      go_wp2_with fail
      refine (toMessage_any _ _ _ _ _ hf hdk).mono ?_
      rintro e w2 ⟨g, rfl, o2, b2⟩
      have ho := keepRow HO.out b2
      have hgw := (o2.lt g rfl).1
      have hat := mcells_at (ds ++ List.replicate (xs.length - k) MV.z) k (by rw [HL2.out]; exact hlt)
      rw [HA.out] at hat
      have c3 : w2.cell? ⟨w.heap.size, k * 2, none⟩ = some (.int .i64 0) := by rw [ho.cellAt (k * 2) (by omega)]; exact hat.1
      have c4 : w2.cell? ⟨w.heap.size, k * 2 + 1, none⟩ = some (.slice none 0 0) := by rw [ho.cellAt (k * 2 + 1) (by omega)]; exact hat.2
      have c5 : w2.frozen? ⟨w.heap.size, k * 2, none⟩ = false := ho.frozenAt _
      have c6 : w2.frozen? ⟨w.heap.size, k * 2 + 1, none⟩ = false := ho.frozenAt _
      have HF2 : Hid (FldsAt w2 (some ⟨g, 0, none⟩) fs) := flds_of_own o2
      have HR : Hid (((w2.setCell ⟨w.heap.size, k * 2, none⟩ (.int .i64 kd)).setCell ⟨w.heap.size, k * 2 + 1, none⟩ (.slice (some ⟨g, 0, none⟩) fs.length fs.length)).ownsRow w.heap.size 26 2 (.slice (some ⟨w.heap.size, 0, none⟩) xs.length xs.length) xs.length (mcells (ds ++ [⟨kd, some ⟨g, 0, none⟩, fs.length, fs⟩] ++ List.replicate (xs.length - (k + 1)) MV.z))) := by
        have R := ((ho.stored (k * 2) (.int .i64 kd)).1.stored (k * 2 + 1) (.slice (some ⟨g, 0, none⟩) fs.length fs.length)).1
        have S := mcells_set (ds ++ List.replicate (xs.length - k) MV.z) ⟨kd, some ⟨g, 0, none⟩, fs.length, fs⟩ k (by rw [HL2.out]; exact hlt)
        simp only at S
        rw [S, HRS.out] at R
        exact R
      have HB2 : Hid (Below w.heap.size w ((w2.setCell ⟨w.heap.size, k * 2, none⟩ (.int .i64 kd)).setCell ⟨w.heap.size, k * 2 + 1, none⟩ (.slice (some ⟨g, 0, none⟩) fs.length fs.length))) := ((hbr.trans (b2.mono hbr.size)).setCell (Nat.le_refl _) _).setCell (Nat.le_refl _) _
      have HE2 : Hid (∀ y ∈ ds ++ [⟨kd, some ⟨g, 0, none⟩, fs.length, fs⟩], Behind w.heap.size y ∧ FldsAt ((w2.setCell ⟨w.heap.size, k * 2, none⟩ (.int .i64 kd)).setCell ⟨w.heap.size, k * 2 + 1, none⟩ (.slice (some ⟨g, 0, none⟩) fs.length fs.length)) y.ao y.fs) := by
        intro y hy
        rcases List.mem_append.1 hy with h | h
        · obtain ⟨⟨gy, e1, e2, e3⟩, e4⟩ := HDS.out y h
          refine ⟨⟨gy, e1, e2, e3⟩, ?_⟩
          have e5 := e4.below b2
          rw [e1] at e5 ⊢
          exact FldsAt.set (FldsAt.set e5 e2) e2
        · obtain rfl : y = ⟨kd, some ⟨g, 0, none⟩, fs.length, fs⟩ := by simpa using h
          exact ⟨⟨g, rfl, by omega, rfl⟩, FldsAt.set (FldsAt.set HF2.out (by omega)) (by omega)⟩
      have HP2 : Hid (plainM (ds ++ [⟨kd, some ⟨g, 0, none⟩, fs.length, fs⟩]) = (plainM xs).take (k + 1)) := by
        rw [Hid, HTK.out, ← HPL.out]; simp [plainM, MV.m]
      clear ho hat o2 HDS HF2
      go_wp2
      go_roundw
      case rel => exact ⟨ds ++ [⟨kd, some ⟨g, 0, none⟩, fs.length, fs⟩], k + 1, by rw [List.length_append, HKD.out]; rfl, by omega, by go_num, HP2.out, HE2.out, HR.out, HB2.out⟩
      case measure => simp [intOf]; omega
    · have hke : k = xs.length := by omega
      subst hke
      have HM : Hid (MsgsAt wr (some ⟨w.heap.size, 0, none⟩) ds) := by
        rw [Nat.sub_self, List.replicate_zero, List.append_nil] at ho
        obtain ⟨ao2, cap2, hv, hm, _⟩ := msgs_of_own ho (fun y hy => (HDS.out y hy).2)
        obtain ⟨rfl, _⟩ : some (⟨w.heap.size, 0, none⟩ : Addr) = ao2 ∧ _ := by simpa using hv
        exact hm
      have HPP : Hid (plainM ds = plainM xs) := by rw [Hid, HPL.out, List.take_of_length_le (by rw [plainM_len]; exact Nat.le_refl _)]
      clear ho
      go_wp2
      go_ret
      exact ⟨ds, rfl, HPP.out, HM.out, fun y hy => (HDS.out y hy).1, hbr⟩

set_option maxHeartbeats 800000 in
theorem eqMessageS_same (ao bo : Option Addr) (c1 c2 : Nat) (xs ys : List MV) (w : World) (hx : MsgsAt w ao xs) (hy : MsgsAt w bo ys) (he : plainM xs = plainM ys) (h1 : xs.length ≤ 1099511627776) (hd : ∀ x ∈ xs, x.fs.length ≤ 1099511627776) :
    Calls Tryz.prog 28 #[.slice ao xs.length c1, .slice bo ys.length c2] w fun e w' => e = .returned (.bool true) ∧ Below w.heap.size w w' := by
  have hl : xs.length = ys.length := by have := congrArg List.length he; rwa [plainM_len, plainM_len] at this
  have HX : Hid (MsgsAt w ao xs) := hx
  have HY : Hid (MsgsAt w bo ys) := hy
  have HV : Hid (∀ k, k < xs.length → ((vAt xs k).kd, (vAt xs k).fs) = ((vAt ys k).kd, (vAt ys k).fs)) := fun k hk => by
    rw [← plainM_at hk, ← plainM_at (by omega), he]
  have HD : Hid (∀ k, k < xs.length → (vAt xs k).fs.length ≤ 1099511627776) := fun k hk => hd _ (vAt_mem hk)
  clear hx hy he hd
  rw [← hl]
  have HL : Hid _ := hl
  clear hl
  go_enter Tryz.func28, Tryz.ntmps28
  go_wp2
  go_loopw [5] (fun i wr => ∃ k : Nat, k ≤ xs.length ∧ i = .int .i64 k ∧ Below w.heap.size w wr) (fun i _ => xs.length - (intOf i).toNat)
  case atStart => exact ⟨0, Nat.zero_le _, rfl, Below.refl _ _⟩
  case round =>
    obtain ⟨k, hk, rfl, hbr⟩ := hrel
    by_cases hlt : k < xs.length
    · obtain ⟨b, off, rfl, hb, e1, e2, f1⟩ := (HX.out.below hbr).at hlt
      obtain ⟨b', off', rfl, hb', e3, e4, f2⟩ := (HY.out.below hbr).at (k := k) (by have := HL.out; omega)
      have hki : (k : Int) < (xs.length : Int) := by omega
      have hv := HV.out k hlt
      have hdk := HD.out k hlt
      obtain ⟨⟨kd, fa, fc, fs⟩, hxk⟩ : ∃ x, vAt xs k = x := ⟨_, rfl⟩
      obtain ⟨⟨kd', fa', fc', fs'⟩, hyk⟩ : ∃ x, vAt ys k = x := ⟨_, rfl⟩
      rw [hxk] at e1 e2 f1 hv hdk
      rw [hyk] at e3 e4 f2 hv
      simp only at e1 e2 e3 e4 f1 f2 hv hdk
      obtain ⟨rfl, rfl⟩ : kd = kd' ∧ fs = fs' := by simpa using hv
      clear hxk hyk hv
      go_wp2
      have hme := msgEq_self kd fs
      go_region_with (go_at_call 76; refine (eqMessage_any _ _ _ _ _ _ _ _ _ (f1.below ((Below.refl _ _).drew)) (f2.below ((Below.refl _ _).drew)) hdk hdk).mono ?_; rintro e w2 ⟨rfl, b2⟩; rw [hme])
      all_goals
        go_wp2
        go_roundw
        case rel => exact ⟨k + 1, by omega, by go_num, (hbr.drew).trans (b2.mono hbr.size)⟩
        case measure => simp [intOf]; omega
    · go_wp2
      go_ret
      exact ⟨rfl, hbr⟩

end Go.Proofs.YtbncdhfmhokgeaaGreatDoor
