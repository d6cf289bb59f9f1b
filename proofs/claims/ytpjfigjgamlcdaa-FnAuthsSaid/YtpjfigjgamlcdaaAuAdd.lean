/- The contract of the program's AuthAdd. -/
import Derived.Test.YtpjfigjgamlcdaaFACopy
import Derived.Test.YtpjfigjgamlcdaaAuApp
import Derived.Test.YtpjfigjgamlcdaaFAuOk
namespace Go.Proofs.Ytpjfigjgamlcdaa
open Go.RowKit
set_option maxRecDepth 100000

def refP (l : List UInt8) (a : Au) : Bool := a.ref == l
def addOk (az : List Au) (a : Au) : Bool := auOk a && (!az.any (refP a.ref) && decide (az.length < 100))
def addA (az : List Au) (a : Au) : List Au := if addOk az a = true then az ++ [a] else az
theorem addA_no {az : List Au} {a : Au} (h : addOk az a = false) : addA az a = az := by rw [addA, if_neg (by rw [h]; decide)]
theorem addA_yes {az : List Au} {a : Au} (h : addOk az a = true) : addA az a = az ++ [a] := by rw [addA, if_pos h]
theorem addA_len (az : List Au) (a : Au) : (addA az a).length ≤ az.length + 1 := by unfold addA; split <;> simp
theorem any_step (p : Au → Bool) (az : List Au) (k : Nat) (h : k < az.length) : (az.drop k).any p = (p (auAt az k) || (az.drop (k + 1)).any p) := by
  rw [List.drop_eq_getElem_cons h, auAt_is h, List.any_cons]
theorem au_oneA {w : World} {g : Nat} {a : Au} (h : AuB g a w) : AuthsAt w (some ⟨g, 0, none⟩) [a] :=
  .inr ⟨g, 0, rfl, h.lt, fun i hi => by
    obtain rfl : i = 0 := by simpa using hi
    exact ⟨h.c0, h.c1, h.c2, h.c3, h.c4, h.c5⟩⟩

set_option maxHeartbeats 800000 in
theorem refIs_any (a : Au) (l : List UInt8) (g : Nat) (w : World) (hc : w.cell? ⟨g, 0, none⟩ = some (.string ⟨l.toArray⟩)) :
    Calls Try.prog 64 #[auv a, .pointer (some ⟨g, 0, none⟩)] w fun e w' => e = .returned (.bool (refP l a)) ∧ Below w.heap.size w w' := by
  have hg : g < w.heap.size := World.block_lt_of_cell? w _ hc
  obtain ⟨r, i, c, m, d, u⟩ := a
  have HQ : Hid (refP l ⟨r, i, c, m, d, u⟩ = (r == l)) := rfl
  simp only [auv]
  have hc2 : (w.alloc (.cells #[.string ⟨r.toArray⟩, .int .i64 i, .int .i64 c, .int .i64 m, .int .i64 d, .bool u] 30)).cell? ⟨g, 0, none⟩ = some (.string ⟨l.toArray⟩) := by rw [World.cell?_alloc_lt _ _ _ hg]; exact hc
  go_enter Try.func64, Try.ntmps64
  go_wp2
  go_ret
  exact ⟨one_bool HQ.out.symm, (Below.refl _ _).alloc (Nat.le_refl _) _⟩

set_option maxHeartbeats 1600000 in
theorem index_any (ao : Option Addr) (cap : Nat) (az : List Au) (l : List UInt8) (g : Nat) (w : World) (hz : AuthsAt w ao az) (hn : az.length ≤ 4194304) (hc : w.cell? ⟨g, 0, none⟩ = some (.string ⟨l.toArray⟩)) :
    Calls Try.prog 74 #[.slice ao az.length cap, .func (.func 64) #[] #[.pointer (some ⟨g, 0, none⟩)]] w fun e w' => ∃ x : Int, e = .returned (.int .i64 x) ∧ decide (0 ≤ x) = az.any (refP l) ∧ Below w.heap.size w w' := by
  have hg : g < w.heap.size := World.block_lt_of_cell? w _ hc
  rcases hz with rfl | ⟨b, off, rfl, hb, hcell⟩
  · go_enter Try.func74, Try.ntmps74
    go_wp2
    refine wp_loop_rounds 1 ?_
    rw [rounds_succ]
    go_wp2
    go_ret
    exact ⟨_, rfl, by simp, Below.refl _ _⟩
  have HC : Hid (∀ i, i < az.length → w.cell? ⟨b, off + i * 6, none⟩ = some (.string ⟨(auAt az i).ref.toArray⟩) ∧ w.cell? ⟨b, off + i * 6 + 1, none⟩ = some (.int .i64 (auAt az i).iss) ∧ w.cell? ⟨b, off + i * 6 + 2, none⟩ = some (.int .i64 (auAt az i).cur) ∧ w.cell? ⟨b, off + i * 6 + 3, none⟩ = some (.int .i64 (auAt az i).am) ∧ w.cell? ⟨b, off + i * 6 + 4, none⟩ = some (.int .i64 (auAt az i).day) ∧ w.cell? ⟨b, off + i * 6 + 5, none⟩ = some (.bool (auAt az i).used)) := hcell
  have HG : Hid _ := hc
  clear hcell hc
  go_enter Try.func74, Try.ntmps74
  go_wp2
  go_loopw [5, 8] (fun _ i wr => ∃ k : Nat, k ≤ az.length ∧ i = .int .i64 k ∧ az.any (refP l) = (az.drop k).any (refP l) ∧ Below w.heap.size w wr) (fun _ i _ => az.length - (intOf i).toNat)
  case atStart => exact ⟨0, Nat.zero_le _, rfl, rfl, Below.refl _ _⟩
  case round =>
    obtain ⟨k, hk, rfl, hany, hbr⟩ := hrel
    by_cases hlt : k < az.length
    · have x0 : wr.cell? ⟨b, off + k * 6, none⟩ = some (.string ⟨(auAt az k).ref.toArray⟩) := (hbr.cell (p := ⟨b, off + k * 6, none⟩) hb).trans (HC.out k hlt).1
      have x1 : wr.cell? ⟨b, off + k * 6 + 1, none⟩ = some (.int .i64 (auAt az k).iss) := (hbr.cell (p := ⟨b, off + k * 6 + 1, none⟩) hb).trans (HC.out k hlt).2.1
      have x2 : wr.cell? ⟨b, off + k * 6 + 2, none⟩ = some (.int .i64 (auAt az k).cur) := (hbr.cell (p := ⟨b, off + k * 6 + 2, none⟩) hb).trans (HC.out k hlt).2.2.1
      have x3 : wr.cell? ⟨b, off + k * 6 + 3, none⟩ = some (.int .i64 (auAt az k).am) := (hbr.cell (p := ⟨b, off + k * 6 + 3, none⟩) hb).trans (HC.out k hlt).2.2.2.1
      have x4 : wr.cell? ⟨b, off + k * 6 + 4, none⟩ = some (.int .i64 (auAt az k).day) := (hbr.cell (p := ⟨b, off + k * 6 + 4, none⟩) hb).trans (HC.out k hlt).2.2.2.2.1
      have x5 : wr.cell? ⟨b, off + k * 6 + 5, none⟩ = some (.bool (auAt az k).used) := (hbr.cell (p := ⟨b, off + k * 6 + 5, none⟩) hb).trans (HC.out k hlt).2.2.2.2.2
      have hki : (k : Int) < (az.length : Int) := by omega
      have HST : Hid _ := hany.trans (any_step (refP l) az k hlt)
      have hgr := (hbr.cell (p := ⟨g, 0, none⟩) hg).trans HG.out
      have HCL : Hid (Calls Try.prog 64 #[auv (auAt az k), .pointer (some ⟨g, 0, none⟩)] wr fun e w' => e = .returned (.bool (refP l (auAt az k))) ∧ Below wr.heap.size wr w') := refIs_any _ l g wr hgr
      obtain ⟨q, hq⟩ : ∃ q, refP l (auAt az k) = q := ⟨_, rfl⟩
      rw [hq] at HST HCL
      obtain ⟨⟨r, i, c, m, d, u⟩, hf⟩ : ∃ a, auAt az k = a := ⟨_, rfl⟩
      rw [hf] at x0 x1 x2 x3 x4 x5 HCL
      unfold auv at HCL
      simp only at x0 x1 x2 x3 x4 x5 HCL
      have HB : Hid (Below w.heap.size w wr) := hbr
      clear hf hany hgr hq hbr
      go_wp2_with fail
      refine (HCL.out).mono ?_
      rintro e w2 ⟨rfl, b2⟩
      have HB2 : Hid (Below w.heap.size w w2) := HB.out.trans (b2.mono HB.out.size)
      clear b2 x0 x1 x2 x3 x4 x5
      cases q
      · go_wp2
        go_roundw
        case rel => exact ⟨k + 1, by omega, by go_num, by rw [HST.out]; rfl, HB2.out⟩
        case measure => simp [intOf]; omega
      · go_wp2
        go_ret
        exact ⟨(k : Int), rfl, by rw [HST.out, decide_eq_true (show (0 : Int) ≤ (k : Int) by omega)]; rfl, HB2.out⟩
    · have HE : Hid (az.any (refP l) = false) := by rw [Hid, hany, List.drop_of_length_le (by omega)]; rfl
      go_wp2
      go_ret
      exact ⟨_, rfl, by rw [HE.out]; rfl, hbr⟩

set_option maxHeartbeats 800000 in
theorem hasRef_any (ao : Option Addr) (cap : Nat) (az : List Au) (l : List UInt8) (w : World) (hz : AuthsAt w ao az) (hn : az.length ≤ 4194304) :
    Calls Try.prog 42 #[.slice ao az.length cap, .string ⟨l.toArray⟩] w fun e w' => e = .returned (.bool (az.any (refP l))) ∧ Below w.heap.size w w' := by
  have bA : ∀ t, Below w.heap.size w (w.alloc (.cells #[.string ⟨l.toArray⟩] t)) := fun t => (Below.refl _ _).alloc (Nat.le_refl _) _
  have HC : Hid (∀ t, Calls Try.prog 63 #[.slice ao az.length cap, .func (.func 64) #[] #[.pointer (some ⟨w.heap.size, 0, none⟩)]] (w.alloc (.cells #[.string ⟨l.toArray⟩] t)) fun e w' => e = .returned (.bool (az.any (refP l))) ∧ Below w.heap.size w w') := fun t => by
    have hzA := hz.below (bA t)
    have hcc : (w.alloc (.cells #[.string ⟨l.toArray⟩] t)).cell? ⟨w.heap.size, 0, none⟩ = some (.string ⟨l.toArray⟩) := by simp
    have HIX : Hid (Calls Try.prog 74 #[.slice ao az.length cap, .func (.func 64) #[] #[.pointer (some ⟨w.heap.size, 0, none⟩)]] (w.alloc (.cells #[.string ⟨l.toArray⟩] t)) fun e w' => ∃ x : Int, e = .returned (.int .i64 x) ∧ decide (0 ≤ x) = az.any (refP l) ∧ Below (w.alloc (.cells #[.string ⟨l.toArray⟩] t)).heap.size (w.alloc (.cells #[.string ⟨l.toArray⟩] t)) w') := index_any ao cap az l w.heap.size _ hzA hn hcc
    have HB0 : Hid (Below w.heap.size w (w.alloc (.cells #[.string ⟨l.toArray⟩] t))) := bA t
    generalize w.alloc (.cells #[.string ⟨l.toArray⟩] t) = W at HIX HB0
    clear hzA hcc bA
    go_enter Try.func63, Try.ntmps63
    go_wp2_with fail
    refine Calls.mono HIX.out ?_
    rintro e w2 ⟨x, rfl, hx, b2⟩
    have HX : Hid _ := hx
    have HB2 : Hid (Below w.heap.size w w2) := HB0.out.trans (b2.mono HB0.out.size)
    clear hx b2
    go_wp2
    go_ret
    exact ⟨one_bool HX.out, HB2.out⟩
  clear bA hz
  go_enter Try.func42, Try.ntmps42
  go_wp2_with fail
  refine (HC.out _).mono ?_
  rintro e w2 ⟨rfl, b2⟩
  have HB2 : Hid _ := b2
  clear b2
  go_wp2
  go_ret
  exact ⟨rfl, HB2.out⟩

/-- two slices of authorizations, laid side by side in a block -/
def TwoA (w : World) (g : Nat) (a1 : Option Addr) (c1 : Nat) (a2 : Option Addr) (c2 : Nat) (xs ys : List Au) : Prop :=
  w.cell? ⟨g, 0, none⟩ = some (.slice a1 xs.length c1) ∧ w.cell? ⟨g, 1, none⟩ = some (.slice a2 ys.length c2) ∧ AuthsAt w a1 xs ∧ AuthsAt w a2 ys
theorem TwoA.below {w w' : World} {g : Nat} {a1 a2 : Option Addr} {c1 c2 : Nat} {xs ys : List Au} (h : TwoA w g a1 c1 a2 c2 xs ys) (hb : Below w.heap.size w w') : TwoA w' g a1 c1 a2 c2 xs ys := by
  obtain ⟨h1, h2, h3, h4⟩ := h
  have hg : g < w.heap.size := World.block_lt_of_cell? w _ h1
  exact ⟨(hb.cell (p := ⟨g, 0, none⟩) hg).trans h1, (hb.cell (p := ⟨g, 1, none⟩) hg).trans h2, h3.below hb, h4.below hb⟩

set_option maxHeartbeats 1600000 in
theorem joinA_any (g : Nat) (a1 a2 : Option Addr) (c1 c2 : Nat) (xs ys : List Au) (w : World) (h : TwoA w g a1 c1 a2 c2 xs ys) (hx : xs.length ≤ 1048576) (hy : ys.length ≤ 1048576) :
    Calls Try.prog 44 #[.slice (some ⟨g, 0, none⟩) 2 2] w fun e w' => ∃ v, e = .returned v ∧
      w'.ownsRow w.heap.size 30 6 v (xs.length + ys.length) (acells (xs ++ ys)) ∧ Below w.heap.size w w' := by
  have HT : Hid (TwoA w g a1 c1 a2 c2 xs ys) := h
  obtain ⟨e1, e2, f1, f2⟩ := h
  have HF1 : Hid _ := f1
  clear f1 f2
  go_enter Try.func44, Try.ntmps44
  go_wp2
  refine wp_loop_rounds 3 ?_
  rw [rounds_succ]
  go_wp2_with (at_builtin; refine wpList_append_auths _ rfl (.tmp 12) (.tmp 13) rfl w.heap.size _ 0 [] rfl (World.ownsRow_nil _ _ _ _) a1 c1 xs rfl HF1.out (by omega) (Nat.le_refl _) ?_; intro v2 w2 o2 g2 _)
  have q2 : Below w.heap.size w w2 := (Below.refl _ _).grown g2 (Nat.le_refl _) (fun k hk => by cases hk)
  obtain ⟨_, d2, f1, f2⟩ := HT.out.below q2
  have HF2 : Hid _ := f2
  have HO2 : Hid (w2.ownsRow w.heap.size 30 6 v2 (0 + xs.length) ([] ++ acells xs)) := o2
  have hs2 := q2.size
  clear e1 e2 f1 f2 o2 g2 HF1
  go_wp2
  rw [rounds_succ]
  go_wp2_with (at_builtin; refine wpList_append_auths _ rfl (.tmp 12) (.tmp 13) rfl w.heap.size _ _ _ rfl HO2.out a2 c2 ys rfl HF2.out (by omega) hs2 ?_; intro v3 w3 o3 g3 _)
  have q3 : Below w.heap.size w w3 := q2.grown g3 hs2 (fun k hk => (HO2.out.lt k hk).1)
  have HO3 : Hid (w3.ownsRow w.heap.size 30 6 v3 (xs.length + ys.length) (acells (xs ++ ys))) := by
    rw [acells_append]
    rw [Nat.zero_add, List.nil_append] at o3
    exact o3
  clear d2 o3 g3 HO2 hs2 HF2
  go_wp2
  rw [rounds_succ]
  go_wp2
  go_ret
  exact ⟨v3, rfl, HO3.out, q3⟩

set_option maxHeartbeats 3200000 in
theorem iAdd10_any (ao : Option Addr) (cap : Nat) (az : List Au) (a : Au) (w : World) (hz : AuthsAt w ao az) (hn : az.length ≤ 1048576) (hd : ∀ x ∈ az, x.ref.length ≤ 1099511627776) (hl : a.ref.length ≤ 1099511627776) (hc : wf64 a.cur) :
    Calls Try.prog 17 #[.slice ao az.length cap, auv a] w (AuR2 w (addA az a) (addOk az a)) := by
  have HV : Hid (addOk az a = (auOk a && (!az.any (refP a.ref) && decide (az.length < 100)))) := rfl
  have HN : Hid (addOk az a = false → addA az a = az) := addA_no
  have HY : Hid (addOk az a = true → addA az a = az ++ [a]) := addA_yes
  have HZ : Hid (AuthsAt w ao az) := hz
  clear hz
  obtain ⟨q, hq⟩ : ∃ q, auOk a = q := ⟨_, rfl⟩
  have HO : Hid (∀ u, Calls Try.prog 25 #[auv a] u fun e w' => e = .returned (.bool q) ∧ Below u.heap.size u w') := fun u => by rw [← hq]; exact iAuthOk_any a u hl hc
  obtain ⟨h, hh⟩ : ∃ h, az.any (refP a.ref) = h := ⟨_, rfl⟩
  have HH : Hid (∀ u, AuthsAt u ao az → Calls Try.prog 42 #[.slice ao az.length cap, .string ⟨a.ref.toArray⟩] u fun e w' => e = .returned (.bool h) ∧ Below u.heap.size u w') := fun u hu => by rw [← hh]; exact hasRef_any ao cap az a.ref u hu (by omega)
  have HCP : Hid (∀ u, AuthsAt u ao az → Calls Try.prog 43 #[.slice ao az.length cap] u fun e w' => e = .returned (.slice (some ⟨u.heap.size, 0, none⟩) az.length az.length) ∧
      w'.ownsRow u.heap.size 30 6 (.slice (some ⟨u.heap.size, 0, none⟩) az.length az.length) az.length (acells az) ∧ Below u.heap.size u w') := fun u hu => copyAuths_any ao cap az u hu (by omega) hd
  have HCN : Hid (∀ (u : World) (bo : Option Addr) (cb : Nat), AuthsAt u bo (az ++ [a]) → Calls Try.prog 43 #[.slice bo (az ++ [a]).length cb] u fun e w' => e = .returned (.slice (some ⟨u.heap.size, 0, none⟩) (az ++ [a]).length (az ++ [a]).length) ∧
      w'.ownsRow u.heap.size 30 6 (.slice (some ⟨u.heap.size, 0, none⟩) (az ++ [a]).length (az ++ [a]).length) (az ++ [a]).length (acells (az ++ [a])) ∧ Below u.heap.size u w') := fun u bo cb hu => copyAuths_any bo cb (az ++ [a]) u hu (by simp; omega) (fun x hx => by
        rcases List.mem_append.1 hx with h1 | h1
        · exact hd x h1
        · have : x = a := by simpa using h1
          rw [this]; exact hl)
  obtain ⟨W, hW⟩ : ∃ W, W = w.alloc (.cells #[.string ⟨a.ref.toArray⟩, .int .i64 a.iss, .int .i64 a.cur, .int .i64 a.am, .int .i64 a.day, .bool a.used] 30) := ⟨_, rfl⟩
  have B : AuB w.heap.size a W := by rw [hW]; exact AuB.new w a _
  have HBB : Hid (AuB w.heap.size a W) := B
  have bW : Below w.heap.size w W := by rw [hW]; exact (Below.refl _ _).alloc (Nat.le_refl _) _
  have HBW : Hid (Below w.heap.size w W) := bW
  rw [hq, hh] at HV
  clear bW hd hl hc hq hh
  cases q
  · have HQ : Hid (addOk az a = false) := HV.out
    have HL : Hid (addA az a = az) := HN.out HQ.out
    rw [HQ.out, HL.out]
    clear HV HN HY HQ HL HCN HH
    obtain ⟨r, i, c, m, d, u⟩ := a
    unfold auv at HO ⊢
    simp only at hW HO ⊢
    have HW : Hid _ := hW
    obtain ⟨f0, f1, f2, f3, f4, f5⟩ := B
    clear hW
    go_enter Try.func17, Try.ntmps17
    go_upto_region 1 with fail
    rw [← HW.out]
    go_wp2_with fail
    refine (HO.out _).mono ?_
    rintro e u1 ⟨rfl, b1⟩
    have HB1 : Hid (Below w.heap.size w u1) := next HBW.out b1
    clear b1 f0 f1 f2 f3 f4 f5
    go_wp2_with fail
    refine (HCP.out _ (HZ.out.below HB1.out)).mono ?_
    rintro e u2 ⟨rfl, o2, b2⟩
    have HO2 : Hid _ := lowerA o2 HB1.out.size
    have HB2 : Hid (Below w.heap.size w u2) := next HB1.out b2
    clear o2 b2
    go_wp2
    go_ret2
    exact ⟨_, _, rfl, HO2.out, HB2.out⟩
  cases h
  · by_cases h100 : az.length < 100
    · have HQ : Hid (addOk az a = true) := by rw [Hid, HV.out, decide_eq_true h100]; rfl
      have HL : Hid (addA az a = az ++ [a]) := HY.out HQ.out
      rw [HQ.out, HL.out]
      have h100' : (az.length : Int) < 100 := by omega
      have HXL : Hid ((az ++ [a]).length = az.length + 1) := by rw [Hid]; simp
      have HJ : Hid (∀ (u : World) (g : Nat) (a2 : Option Addr) (c2 : Nat), TwoA u g ao cap a2 c2 az [a] → Calls Try.prog 44 #[.slice (some ⟨g, 0, none⟩) 2 2] u fun e w' => ∃ bo cb, e = .returned (.slice bo (az ++ [a]).length cb) ∧ AuthsAt w' bo (az ++ [a]) ∧ Below u.heap.size u w') := fun u g a2 c2 h2 =>
        (joinA_any g ao a2 cap c2 az [a] u h2 (by omega) (by simp)).mono fun e u' ⟨v, he, hv, hb⟩ => by
          obtain ⟨bo, cb, rfl, hA, _⟩ := auths_of_own' hv
          exact ⟨bo, cb, he, hA, hb⟩
      clear HV HN HY HQ HL HCP
      obtain ⟨L, hL⟩ : ∃ L, az ++ [a] = L := ⟨_, rfl⟩
      rw [hL] at HCN HJ HXL ⊢
      have HTW : Hid (∀ (u : World) (t1 t2 : TypeId), AuthsAt u ao az → TwoA ((u.alloc (.cells #[.string ⟨a.ref.toArray⟩, .int .i64 a.iss, .int .i64 a.cur, .int .i64 a.am, .int .i64 a.day, .bool a.used] t1)).alloc (.cells #[.slice ao az.length cap, .slice (some ⟨u.heap.size, 0, none⟩) 1 1] t2)) (u.heap.size + 1) ao cap (some ⟨u.heap.size, 0, none⟩) 1 az [a] ∧ Below u.heap.size u ((u.alloc (.cells #[.string ⟨a.ref.toArray⟩, .int .i64 a.iss, .int .i64 a.cur, .int .i64 a.am, .int .i64 a.day, .bool a.used] t1)).alloc (.cells #[.slice ao az.length cap, .slice (some ⟨u.heap.size, 0, none⟩) 1 1] t2))) := fun u t1 t2 hu => by
        have b1 : Below u.heap.size u (u.alloc (.cells #[.string ⟨a.ref.toArray⟩, .int .i64 a.iss, .int .i64 a.cur, .int .i64 a.am, .int .i64 a.day, .bool a.used] t1)) := (Below.refl _ _).alloc (Nat.le_refl _) _
        have B1 := AuB.new u a t1
        have z1 := hu.below b1
        have hsz : (u.alloc (.cells #[.string ⟨a.ref.toArray⟩, .int .i64 a.iss, .int .i64 a.cur, .int .i64 a.am, .int .i64 a.day, .bool a.used] t1)).heap.size = u.heap.size + 1 := by simp
        generalize u.alloc (.cells #[.string ⟨a.ref.toArray⟩, .int .i64 a.iss, .int .i64 a.cur, .int .i64 a.am, .int .i64 a.day, .bool a.used] t1) = V at b1 B1 z1 hsz
        have b2 : Below V.heap.size V (V.alloc (.cells #[.slice ao az.length cap, .slice (some ⟨u.heap.size, 0, none⟩) 1 1] t2)) := (Below.refl _ _).alloc (Nat.le_refl _) _
        have k1 : (V.alloc (.cells #[.slice ao az.length cap, .slice (some ⟨u.heap.size, 0, none⟩) 1 1] t2)).cell? ⟨V.heap.size, 0, none⟩ = some (.slice ao az.length cap) := by simp
        have k2 : (V.alloc (.cells #[.slice ao az.length cap, .slice (some ⟨u.heap.size, 0, none⟩) 1 1] t2)).cell? ⟨V.heap.size, 1, none⟩ = some (.slice (some ⟨u.heap.size, 0, none⟩) 1 1) := by simp
        rw [hsz] at k1 k2
        exact ⟨⟨k1, k2, z1.below b2, au_oneA (B1.below b2)⟩, next b1 b2⟩
      clear hL
      obtain ⟨r, i, c, m, d, u⟩ := a
      unfold auv at HO ⊢
      simp only at hW HO HH HTW ⊢
      have HW : Hid _ := hW
      obtain ⟨f0, f1, f2, f3, f4, f5⟩ := B
      clear hW
      go_enter Try.func17, Try.ntmps17
      go_upto_region 1 with fail
      rw [← HW.out]
      go_wp2_with fail
      refine (HO.out _).mono ?_
      rintro e u1 ⟨rfl, b1⟩
      have HB1 : Hid (Below w.heap.size w u1) := next HBW.out b1
      have B1 := HBB.out.below b1
      have HBB1 : Hid (AuB w.heap.size ⟨r, i, c, m, d, u⟩ u1) := B1
      clear b1 f0 f1 f2 f3 f4 f5
      obtain ⟨f0, f1, f2, f3, f4, f5⟩ := B1
      simp only at f0 f1 f2 f3 f4 f5
      go_wp2_with fail
      refine (HH.out _ (HZ.out.below HB1.out)).mono ?_
      rintro e u2 ⟨rfl, b2⟩
      have HB2 : Hid (Below w.heap.size w u2) := next HB1.out b2
      have B2 := HBB1.out.below b2
      clear b2 f0 f1 f2 f3 f4 f5
      obtain ⟨f0, f1, f2, f3, f4, f5⟩ := B2
      simp only at f0 f1 f2 f3 f4 f5
      go_wp2_with fail
      refine (HJ.out _ _ _ _ (HTW.out u2 _ _ (HZ.out.below HB2.out)).1).mono ?_
      rintro e u3 ⟨bo, cb, rfl, hA3, b3⟩
      have HB3 : Hid (Below w.heap.size w u3) := next (next HB2.out (HTW.out u2 _ _ (HZ.out.below HB2.out)).2) b3
      have HA3 : Hid (AuthsAt u3 bo L) := hA3
      clear hA3 b3 f0 f1 f2 f3 f4 f5
      go_wp2_with fail
      refine (HCN.out _ _ _ HA3.out).mono ?_
      rintro e u4 ⟨rfl, o4, b4⟩
      have HO4 : Hid _ := lowerA o4 HB3.out.size
      have HB4 : Hid (Below w.heap.size w u4) := next HB3.out b4
      clear o4 b4
      go_wp2
      go_ret2
      exact ⟨_, _, rfl, HO4.out, HB4.out⟩
    · have HQ : Hid (addOk az a = false) := by rw [Hid, HV.out, decide_eq_false h100]; rfl
      have HL : Hid (addA az a = az) := HN.out HQ.out
      rw [HQ.out, HL.out]
      have h100' : 100 ≤ (az.length : Int) := by omega
      clear HV HN HY HQ HL HCN
      obtain ⟨r, i, c, m, d, u⟩ := a
      unfold auv at HO ⊢
      simp only at hW HO HH ⊢
      have HW : Hid _ := hW
      obtain ⟨f0, f1, f2, f3, f4, f5⟩ := B
      clear hW
      go_enter Try.func17, Try.ntmps17
      go_upto_region 1 with fail
      rw [← HW.out]
      go_wp2_with fail
      refine (HO.out _).mono ?_
      rintro e u1 ⟨rfl, b1⟩
      have HB1 : Hid (Below w.heap.size w u1) := next HBW.out b1
      have B1 := HBB.out.below b1
      clear b1 f0 f1 f2 f3 f4 f5
      obtain ⟨f0, f1, f2, f3, f4, f5⟩ := B1
      simp only at f0 f1 f2 f3 f4 f5
      go_wp2_with fail
      refine (HH.out _ (HZ.out.below HB1.out)).mono ?_
      rintro e u2 ⟨rfl, b2⟩
      have HB2 : Hid (Below w.heap.size w u2) := next HB1.out b2
      clear b2 f0 f1 f2 f3 f4 f5
      go_wp2_with fail
      refine (HCP.out _ (HZ.out.below HB2.out)).mono ?_
      rintro e u3 ⟨rfl, o3, b3⟩
      have HO3 : Hid _ := lowerA o3 HB2.out.size
      have HB3 : Hid (Below w.heap.size w u3) := next HB2.out b3
      clear o3 b3
      go_wp2
      go_ret2
      exact ⟨_, _, rfl, HO3.out, HB3.out⟩
  · have HQ : Hid (addOk az a = false) := by rw [Hid, HV.out]; rfl
    have HL : Hid (addA az a = az) := HN.out HQ.out
    rw [HQ.out, HL.out]
    clear HV HN HY HQ HL HCN
    obtain ⟨r, i, c, m, d, u⟩ := a
    unfold auv at HO ⊢
    simp only at hW HO HH ⊢
    have HW : Hid _ := hW
    obtain ⟨f0, f1, f2, f3, f4, f5⟩ := B
    clear hW
    go_enter Try.func17, Try.ntmps17
    go_upto_region 1 with fail
    rw [← HW.out]
    go_wp2_with fail
    refine (HO.out _).mono ?_
    rintro e u1 ⟨rfl, b1⟩
    have HB1 : Hid (Below w.heap.size w u1) := next HBW.out b1
    have B1 := HBB.out.below b1
    clear b1 f0 f1 f2 f3 f4 f5
    obtain ⟨f0, f1, f2, f3, f4, f5⟩ := B1
    simp only at f0 f1 f2 f3 f4 f5
    go_wp2_with fail
    refine (HH.out _ (HZ.out.below HB1.out)).mono ?_
    rintro e u2 ⟨rfl, b2⟩
    have HB2 : Hid (Below w.heap.size w u2) := next HB1.out b2
    clear b2 f0 f1 f2 f3 f4 f5
    go_wp2_with fail
    refine (HCP.out _ (HZ.out.below HB2.out)).mono ?_
    rintro e u3 ⟨rfl, o3, b3⟩
    have HO3 : Hid _ := lowerA o3 HB2.out.size
    have HB3 : Hid (Below w.heap.size w u3) := next HB2.out b3
    clear o3 b3
    go_wp2
    go_ret2
    exact ⟨_, _, rfl, HO3.out, HB3.out⟩

end Go.Proofs.Ytpjfigjgamlcdaa
