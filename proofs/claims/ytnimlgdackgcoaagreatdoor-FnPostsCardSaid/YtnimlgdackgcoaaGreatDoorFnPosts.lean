/- Proved: whatever the bytes of the draw, the program's PostAll takes what the specification's takes, and is the program's Post entry by entry; what is refused stays as it was; in what comes out, what the accounts owe in a currency is what the ledger is worth in it; and LedgerText answers as the specification's. What it takes: the draw's bytes, of whatever number (beyond 1048576 the law passes by its own first test), and that the listed tables of Go's library hold what the library's text lays (the card ties that to the program). -/
import Derived.Test.YtnimlgdackgcoaaGreatDoorCards
import Derived.Test.YtnimlgdackgcoaaGreatDoorTie
import Derived.Test.YtnimlgdackgcoaaGreatDoorBase
import Derived.Test.YtnimlgdackgcoaaGreatDoorDrawPa
import Derived.Test.YtnimlgdackgcoaaGreatDoorSPAll
import Derived.Test.YtnimlgdackgcoaaGreatDoorPostQ
import Derived.Test.YtnimlgdackgcoaaGreatDoorAcctP
import Derived.Test.YtnimlgdackgcoaaGreatDoorOver
import Derived.Test.YtnimlgdackgcoaaGreatDoorFLed2
import Derived.Test.YtnimlgdackgcoaaGreatDoorFAcc
import Derived.Test.YtnimlgdackgcoaaGreatDoorLTxt3
import Derived.LaidMore
import Derived.Deep.DeepHandedRow
import Derived.JoinedCond
import Derived.Lay
import Derived.SevenTiedAt
import Derived.Stop.Joined
import Derived.Stop.LaidErr
import Derived.Lib.LaidTab
namespace Go.Proofs.YtnimlgdackgcoaaGreatDoor.fnPosts
open Go.ChangeShapes Go.WideShapes Go.ChangeAt Go.RowKit
set_option maxRecDepth 100000

theorem tabEq : (Rows.laid_internal_strconv_uint64pow10 : DataW Unit) = Lib.tabData .u64 Lib.pow10Tab := by kernel_rfl
theorem pow10 {w : World} (h : laidMet Tryz.prog Rows.fnPostsRow.laid w) : Pow10 w := by
  have h1 : laidMet Tryz.prog (("internal/strconv.uint64pow10", Rows.laid_internal_strconv_uint64pow10) :: []) w := h.tail.tail
  rw [tabEq] at h1
  exact Lib.tabIs_of_head (g := 1) (t := 147) (by kernel_rfl) (by kernel_rfl) Tryz.underlying147 Tryz.underlying112 (by kernel_rfl) (by kernel_rfl) h1

theorem posts_so : ∀ {es : List En} {ls L : List Ln}, postsL ls es = some L → (es = [] ∧ L = ls) ∨ ledgerOk L = true := by
  intro es
  induction es with
  | nil => intro ls L h; simp only [postsL, Option.some.injEq] at h; exact .inl ⟨rfl, h.symm⟩
  | cons e r ih =>
    intro ls L h
    simp only [postsL] at h
    split at h
    · rename_i hk
      rcases ih h with ⟨_, rfl⟩ | h'
      · exact .inr (posted_ok hk).2
      · exact .inr h'
    · cases h
theorem ok_lnD {L : List Ln} (h : ledgerOk L = true) : LnD L := ⟨by have := (ledgerOk_parts h).2.1; omega, bd_of_ok h⟩
theorem posts_lnD {es : List En} {ls L : List Ln} (h : postsL ls es = some L) (hd : LnD ls) : LnD L := by
  rcases posts_so h with ⟨_, rfl⟩ | h'
  · exact hd
  · exact ok_lnD h'
theorem all_yes {ls : List Ln} {es : List En} (h : allOk ls es = true) : postsL ls es = some (allL ls es) := by
  unfold allOk at h
  unfold allL
  cases hp : postsL ls es with
  | none => rw [hp] at h; cases h
  | some L => rfl
theorem all_no {ls : List Ln} {es : List En} (h : allOk ls es = false) : allL ls es = ls := by
  unfold allOk at h
  unfold allL
  cases hp : postsL ls es with
  | none => rfl
  | some L => rw [hp] at h; cases h
theorem all_lnD {ls : List Ln} {es : List En} (hd : LnD ls) : LnD (allL ls es) := by
  cases h : allOk ls es with
  | false => rw [all_no h]; exact hd
  | true => exact posts_lnD (all_yes h) hd
/-- what stands while the law goes on: the ledger and the entries that were drawn, and the ledger that came out -/
structure FQ (b3 b5 : Nat) (ao : Option Addr) (k : Nat) (ls : List Ln) (bo : Option Addr) (es : List En) (a5 : Option Addr) (k5 : Nat) (L : List Ln) (u : World) : Prop where
  l0 : u.cell? ⟨b3, 0, none⟩ = some (.slice ao ls.length k)
  c5 : u.cell? ⟨b5, 0, none⟩ = some (.slice a5 L.length k5)
  ll : LinesAt u ao ls
  lm : LinesAt u a5 L
  le : EntsAt u bo es
theorem kc {u u' : World} {a : Addr} {v : Value} (h : u.cell? a = some v) (hb : Below u.heap.size u u') : u'.cell? a = some v := (hb.cell (p := a) (World.block_lt_of_cell? u _ h)).trans h
theorem FQ.below {b3 b5 : Nat} {ao : Option Addr} {k : Nat} {ls : List Ln} {bo : Option Addr} {es : List En} {a5 : Option Addr} {k5 : Nat} {L : List Ln} {u u' : World} (h : FQ b3 b5 ao k ls bo es a5 k5 L u) (hb : Below u.heap.size u u') : FQ b3 b5 ao k ls bo es a5 k5 L u' :=
  ⟨kc h.l0 hb, kc h.c5 hb, h.ll.below hb, h.lm.below hb, h.le.below hb⟩
/-- the running ledger's box -/
structure RB (b9 : Nat) (cur : List Ln) (a2 : Option Addr) (k2 : Nat) (u : World) : Prop where
  c : u.cell? ⟨b9, 0, none⟩ = some (.slice a2 cur.length k2)
  f : u.frozen? ⟨b9, 0, none⟩ = false
  li : LinesAt u a2 cur
theorem s9 {V u : World} {x1 x2 x3 x4 x5 : Addr} {v1 v2 v3 v4 v5 : Value} (h : V.cell? x1 = some v1 ∧ V.cell? x2 = some v2 ∧ V.cell? x3 = some v3 ∧ V.cell? x4 = some v4 ∧ V.cell? x5 = some v5) (hb : Below V.heap.size V u) :
    u.cell? x1 = some v1 ∧ u.cell? x2 = some v2 ∧ u.cell? x3 = some v3 ∧ u.cell? x4 = some v4 ∧ u.cell? x5 = some v5 := ⟨kc h.1 hb, kc h.2.1 hb, kc h.2.2.1 hb, kc h.2.2.2.1 hb, kc h.2.2.2.2 hb⟩
def cur3 (j : Nat) : Int := [840, 978, 392].getD j 0
set_option maxHeartbeats 400000 in
theorem curs_any (w : World) : Calls Tryz.prog 11 #[] w fun e w' => e = .returned (.slice (some ⟨w.heap.size, 0, none⟩) 3 3) ∧ (∀ j, j < 3 → w'.cell? ⟨w.heap.size, j, none⟩ = some (.int .i64 (cur3 j))) ∧ Below w.heap.size w w' := by
  go_enter Tryz.func11, Tryz.ntmps11
  go_wp2
  go_ret
  refine ⟨rfl, fun j hj => ?_, by go_grown⟩
  rcases (show j = 0 ∨ j = 1 ∨ j = 2 by omega) with rfl | rfl | rfl <;> simp [cur3]
theorem cur3_mem {j : Nat} (h : j < 3) : cur3 j ∈ curL := by
  rcases (show j = 0 ∨ j = 1 ∨ j = 2 by omega) with rfl | rfl | rfl <;> simp [cur3, curL]
theorem nums_at {w : World} {ao : Option Addr} {zs : List Int} (h : NumsAt w ao zs) {k : Nat} (hk : k < zs.length) : ∃ b off, ao = some ⟨b, off, none⟩ ∧ w.cell? ⟨b, off + k, none⟩ = some (.int .i64 (zs.getD k 0)) := by
  rcases h with rfl | ⟨b, off, h1, _, h3⟩
  · simp at hk
  · exact ⟨b, off, h1, h3 k hk⟩

set_option maxHeartbeats 12800000 in
theorem walk (ra : Option Addr) (len cap : Nat) (zs : List Int) (w : World) (hr : IsRow .u8 w ra len cap zs) (hL : laidMet Tryz.prog Rows.fnPostsRow.laid w) (_hsh : w.ShapedOpen Tryz.prog) :
    Calls Tryz.prog 3 #[.slice ra len cap] w fun e w' => e = .returned (.bool true) ∧ Below w.heap.size w w' := by
  have HP : Hid (Pow10 w) := pow10 hL
  clear hL
  by_cases hbig : (1048576 : Int) < (len : Int)
  · have hdec : decide ((1048576 : Int) < (len : Int)) = true := decide_eq_true hbig
    go_enter Tryz.func3, Tryz.ntmps3
    go_wp2_with fail
    refine (big_any _ _ _ _).mono ?_
    rintro e w1 ⟨rfl, hw1⟩
    rw [hw1, hdec]
    clear hw1
    go_wp2
    go_ret
    exact ⟨rfl, Below.refl _ _⟩
  have hn : len ≤ 1048576 := by omega
  have hdec : decide ((1048576 : Int) < (len : Int)) = false := decide_eq_false hbig
  go_enter Tryz.func3, Tryz.ntmps3
  go_wp2_with fail
  refine (big_any _ _ _ _).mono ?_
  rintro e w1 ⟨rfl, hw1⟩
  rw [hw1, hdec]
  clear hw1 w1 hdec hbig
  go_wp2_with fail
  refine (drawPostAll_any _ _ _ _ _ hr hn).mono ?_
  rintro e u1 ⟨ao, k, ls, bo, j0, es, rfl, hd, hsm, hl, hen, q1⟩
  have HD : Hid (LnD ls) := hd
  have HEB : Hid (∀ x ∈ es, enBd x) := fun x hx => enSm_bd (hsm.2 x hx)
  have hel : es.length ≤ 6 := hsm.1
  have hdl := hd.1
  obtain ⟨U, hU⟩ : ∃ U, U = u1.alloc (.cells #[.slice ao ls.length k] 26) := ⟨_, rfl⟩
  have bU : Below u1.heap.size u1 U := by rw [hU]; go_grown
  have l0 : U.cell? ⟨u1.heap.size, 0, none⟩ = some (.slice ao ls.length k) := by rw [hU]; simp [go_sem]
  have qU := next q1 bU
  have HLU : Hid (LinesAt U ao ls) := hl.below bU
  have HEU : Hid (EntsAt U bo es) := hen.below bU
  obtain ⟨b3, hb3⟩ : ∃ x, x = u1.heap.size := ⟨_, rfl⟩
  rw [← hb3] at l0
  clear hd hsm hl hen q1 bU hr
  go_upto_region 4 with fail
  rw [← hU, ← hb3]
  clear hU hb3
  obtain ⟨L, hLE⟩ : ∃ L, allL ls es = L := ⟨_, rfl⟩
  obtain ⟨ok, hOE⟩ : ∃ ok, allOk ls es = ok := ⟨_, rfl⟩
  have HLE : Hid (allL ls es = L) := hLE
  have HOE : Hid (allOk ls es = ok) := hOE
  have HLD : Hid (LnD L) := by rw [← hLE]; exact all_lnD HD.out
  have HIP : Hid (Calls Tryz.prog 6 #[.agg #[.slice ao ls.length k], .slice bo es.length j0] U (PostR U L ok)) := by
    have h := iPostAll_any ao k ls bo j0 es U HLU.out (by omega) HD.out.2 HEU.out (by omega) HEB.out
    rw [hLE, hOE] at h; exact h
  have HSP : Hid (∀ u, LinesAt u ao ls → EntsAt u bo es → Calls Tryz.prog 7 #[.agg #[.slice ao ls.length k], .slice bo es.length j0] u (PostR u L ok)) := fun u h h' => by
    have h := sPostAll_any ao k ls bo j0 es u h (by omega) h' (by omega)
    rw [hLE, hOE] at h; exact h
  have hLl := HLD.out.1
  clear hLE hOE
  go_wp2_with fail
  refine HIP.out.mono ?_
  rintro e u2 ⟨a5, k5, rfl, o2, b2⟩
  obtain ⟨X2, hX⟩ : ∃ V, V = u2.alloc (.cells #[.slice a5 L.length k5] 26) := ⟨_, rfl⟩
  have bX : Below u2.heap.size u2 X2 := by rw [hX]; go_grown
  have c5 : X2.cell? ⟨u2.heap.size, 0, none⟩ = some (.slice a5 L.length k5) := by rw [hX]; simp
  obtain ⟨b5, hb5⟩ : ∃ x, x = u2.heap.size := ⟨_, rfl⟩
  rw [← hb5] at c5
  have HF2 : Hid (FQ b3 b5 ao k ls bo es a5 k5 L X2) := ⟨kc (kc l0 b2) bX, c5, (HLU.out.below b2).below bX, (lines_any o2).below bX, (HEU.out.below b2).below bX⟩
  have q2 := next (next qU b2) bX
  clear o2 b2 bX l0 c5 qU HIP HLU HEU
  go_upto_region 5 with fail
  rw [← hX, ← hb5]
  clear hX hb5
  have l0 := HF2.out.l0
  go_wp2_with fail
  refine (HSP.out _ HF2.out.ll HF2.out.le).mono ?_
  rintro e u3 ⟨a7, k7, rfl, o3, b3'⟩
  obtain ⟨V, hV⟩ : ∃ V, V = u3.alloc (.cells #[.slice a7 L.length k7] 26) := ⟨_, rfl⟩
  have bV : Below u3.heap.size u3 V := by rw [hV]; go_grown
  have HF : Hid (FQ b3 b5 ao k ls bo es a5 k5 L V) := (HF2.out.below b3').below bV
  have q3 := next (next q2 b3') bV
  clear o3 b3' bV HF2 q2 l0 HSP
  go_upto_region 6 with fail
  rw [← hV]
  clear hV
  have l0 := HF.out.l0
  have c5 := HF.out.c5
  cases ok
  · have HLs : Hid (L = ls) := by rw [Hid, ← HLE.out]; exact all_no HOE.out
    have hl : LinesAt V a5 ls := by have := HF.out.lm; rw [HLs.out] at this; exact this
    rw [HLs.out] at c5
    have hLL : L.length = ls.length := by rw [HLs.out]
    go_wp2_with fail
    refine (sameLedger_same _ _ _ _ _ _ hl HF.out.ll (by omega)).mono ?_
    rintro e u7 ⟨rfl, b7'⟩
    have q7 := next q3 b7'
    clear b7'
    go_wp2
    go_ret
    exact ⟨rfl, q7⟩
  have HSO : Hid (postsL ls es = some L) := by rw [Hid, ← HLE.out]; exact all_yes HOE.out
  clear HLE HOE
  obtain ⟨Y, hY⟩ : ∃ Y, Y = V.alloc (.cells #[.slice ao ls.length k] 26) := ⟨_, rfl⟩
  have HRY : Hid (RB V.heap.size ls ao k Y) := by
    have bY : Below V.heap.size V Y := by rw [hY]; go_grown
    exact ⟨by rw [hY]; simp, by rw [hY]; simp [go_sem], HF.out.ll.below bY⟩
  have HBY : Hid (Below V.heap.size V Y) := by rw [Hid, hY]; go_grown
  obtain ⟨b9, hb9⟩ : ∃ x, x = V.heap.size := ⟨_, rfl⟩
  rw [← hb9] at HRY
  go_upto_region 11 with fail
  rw [← hY, ← hb9]
  clear hY l0 c5
  have HB9 : Hid (V.heap.size ≤ b9) := Nat.le_of_eq hb9.symm
  clear hb9
  go_wp2
  go_loopw [10] (fun i wr => ∃ (n : Nat) (cur : List Ln) (a2 : Option Addr) (k2 : Nat), n ≤ es.length ∧ i = .int .i64 n ∧ postsL cur (es.drop n) = some L ∧ RB b9 cur a2 k2 wr ∧ LnD cur ∧ Below V.heap.size V wr) (fun i _ => es.length - (intOf i).toNat)
  case atStart => exact ⟨0, ls, ao, k, Nat.zero_le _, rfl, HSO.out, HRY.out, HD.out, HBY.out⟩
  case round =>
    obtain ⟨n, cur, a2, k2, hnn, rfl, hps, hrb, hcd, hbr⟩ := hrel
    obtain ⟨X, hXe⟩ : ∃ X, X = wr := ⟨_, rfl⟩
    subst hXe
    have HRB : Hid (RB b9 cur a2 k2 X) := hrb
    have HBR : Hid (Below V.heap.size V X) := hbr
    have HCD : Hid (LnD cur) := hcd
    have HFX : Hid (FQ b3 b5 ao k ls bo es a5 k5 L X) := HF.out.below hbr
    have hcl := hcd.1
    have c9 := hrb.c
    clear hrb hbr hcd HRY HBY
    by_cases hlt : n < es.length
    · have hni : (n : Int) < (es.length : Int) := by omega
      have hst := posts_step cur es n hlt
      have hek := HEB.out _ (enAt_mem hlt)
      obtain ⟨b, off, hbo, hb2, y1, y2, y3, y4⟩ := HFX.out.le.at hlt
      obtain ⟨⟨a, a', c, m⟩, hx⟩ : ∃ x, enAt es n = x := ⟨_, rfl⟩
      rw [hx] at y1 y2 y3 y4 hst hek
      simp only at y1 y2 y3 y4
      have hok : postOk cur (a, a', c, m) = true := by
        cases h : postOk cur (a, a', c, m) with
        | true => rfl
        | false => rw [hps, h] at hst; cases hst
      rw [hok, if_pos rfl, hps] at hst
      have hpo := posted_ok hok
      have HIP2 : Hid (∀ u, LinesAt u a2 cur → Calls Tryz.prog 9 #[.agg #[.slice a2 cur.length k2], .agg #[.int .i64 a, .int .i64 a', .int .i64 c, .int .i64 m]] u (PostR u (postTry cur (a, a', c, m)) true)) := fun u h => by
        have h4 := iPost_any a2 k2 cur a a' c m u h (by omega) HCD.out.2 hek
        rw [hpo.1, hok] at h4; exact h4
      have HND : Hid (LnD (postTry cur (a, a', c, m))) := ok_lnD hpo.2
      have HNX : Hid (postsL (postTry cur (a, a', c, m)) (es.drop (n + 1)) = some L) := hst.symm
      generalize postTry cur (a, a', c, m) = nx at HIP2 HND HNX
      have HS9 : Hid _ := And.intro c9 (And.intro y1 (And.intro y2 (And.intro y3 y4)))
      have z : ZB X X none (fun v => LinesAt v a2 cur) := ZB.start (fun v hv => HRB.out.li.below hv)
      subst hbo
      clear hst hek hx hok hpo hps hb2
      go_upto_region 14 with fail
      go_cut [11, 12] (fun v6 v7 wc => ∃ B ao k, v6 = .pointer (some ⟨B, 0, none⟩) ∧ v7 = .bool true ∧ LB X nx B ao k wc)
      case first =>
        go_region_held3 (fun u => u.cell? ⟨b9, 0, none⟩ = some (.slice a2 cur.length k2) ∧ u.cell? ⟨b, off + n * 4, none⟩ = some (.int .i64 a) ∧ u.cell? ⟨b, off + n * 4 + 1, none⟩ = some (.int .i64 a') ∧ u.cell? ⟨b, off + n * 4 + 2, none⟩ = some (.int .i64 c) ∧ u.cell? ⟨b, off + n * 4 + 3, none⟩ = some (.int .i64 m)) (first | exact HS9.out | exact s9 HS9.out z.bel | exact s9 HS9.out z.drew.bel | exact s9 HS9.out (z.al _).bel | exact s9 HS9.out (z.al _).drew.bel | exact s9 HS9.out (z.drew.al _).bel | exact s9 HS9.out (HF4.out _).bel | exact s9 HS9.out HF4.out.bel) ((go_at_call 9; (first | with_reducible refine (zPost z (HIP2.out _ z.now)).mono ?_ | with_reducible refine (zPost z.drew (HIP2.out _ z.drew.now)).mono ?_ | with_reducible refine (zPost (z.al _) (HIP2.out _ (z.al _).now)).mono ?_ | with_reducible refine (zPost (z.al _).drew (HIP2.out _ (z.al _).drew.now)).mono ?_ | with_reducible refine (zPost (z.drew.al _) (HIP2.out _ (z.drew.al _).now)).mono ?_); rintro e v3 ⟨a3, k3, rfl, o3, z0, z⟩; (first | (have HF4 : Hid (∀ t, LB X nx v3.heap.size a3 k3 (v3.alloc (.cells #[.slice a3 nx.length k3] t))) := (fun t => LB.new o3 z0 z)) | (have HF4 : Hid _ := LB.set o3 z0 z; obtain ⟨_, _, n0, n1⟩ := z.box _ rfl)); clear o3 z0))
        all_goals
          go_wp2_with fail
          go_meet
          first
            | exact ⟨_, _, _, rfl, rfl, HF4.out _⟩
            | exact ⟨_, _, _, rfl, rfl, HF4.out⟩
      case rest =>
        obtain ⟨B4, a4, k4, rfl, rfl, P4⟩ := hcut
        obtain ⟨u4, hu⟩ : ∃ x, x = wc := ⟨_, rfl⟩
        subst hu
        have x4 := P4.c0
        have d9 := kc HRB.out.c P4.bel
        have f9 := (P4.bel.frozen (p := ⟨b9, 0, none⟩) (World.block_lt_of_cell? X _ HRB.out.c)).trans HRB.out.f
        have h9 : b9 < X.heap.size := World.block_lt_of_cell? X _ HRB.out.c
        have HR4 : Hid (RB b9 nx a4 k4 (u4.setCell ⟨b9, 0, none⟩ (.slice a4 nx.length k4))) := ⟨by simp [go_sem, d9], by simp [go_sem, f9], lines_any (keepSetL P4.own _ _ (fun g hg => by have := (P4.own.lt g hg).1; simp only; omega))⟩
        have HB4 : Hid (Below V.heap.size V (u4.setCell ⟨b9, 0, none⟩ (.slice a4 nx.length k4))) := (HBR.out.trans (P4.bel.mono HBR.out.size)).setCell HB9.out _
        clear P4 z h9 HIP2 HS9 y1 y2 y3 y4 c9
        go_wp2
        go_roundw
        case rel => exact ⟨n + 1, nx, a4, k4, by omega, by go_num, HNX.out, HR4.out, HND.out, HB4.out⟩
        case measure => simp [intOf]; omega
    · have hne : n = es.length := by omega
      subst hne
      have hni : ¬ (es.length : Int) < (es.length : Int) := by omega
      have hcL : cur = L := by rw [posts_end] at hps; injection hps
      subst hcL
      have c5 := HFX.out.c5
      have q9 := next q3 HBR.out
      clear hps
      go_wp2_with fail
      refine (sameLedger_same _ _ _ _ _ _ HRB.out.li HFX.out.lm (by omega)).mono ?_
      rintro e v1 ⟨rfl, b1⟩
      have HF1 : Hid (FQ b3 b5 ao k ls bo es a5 k5 cur v1) := HFX.out.below b1
      have q10 := next q9 b1
      have c51 := HF1.out.c5
      clear b1 c5 c9 q9
      go_wp2_with fail
      refine (sLedgerOk_any _ _ _ _ HF1.out.lm (by omega)).mono ?_
      rintro e v2 ⟨rfl, b2⟩
      have HFV : Hid (FQ b3 b5 ao k ls bo es a5 k5 cur v2) := HF1.out.below b2
      have q11 := next q10 b2
      have HPV : Hid (Pow10 v2) := HP.out.below q11
      clear b2 c51 q10 HF1 HFX HRB HBR
      cases hLk : ledgerOk cur
      · have hz : ((es.length : Int) == 0) = true := by
          rcases posts_so HSO.out with ⟨h, _⟩ | h
          · rw [h]; rfl
          · rw [hLk] at h; cases h
        clear hLk
        go_wp2
        go_ret
        exact ⟨rfl, q11⟩
      have HLK : Hid (ledgerOk cur = true) := hLk
      have HAO : Hid (∀ x ∈ cur, 1 ≤ x.1 ∧ x.1 ≤ 9999) := fun x hx => (lnOk_is (linesOk_mem (ledgerOk_parts hLk).1 x hx)).1
      clear hLk
      go_wp2_with fail
      refine (curs_any _).mono ?_
      rintro e y1 ⟨rfl, hcc, by1⟩
      obtain ⟨G, hG⟩ : ∃ G, G = v2.heap.size := ⟨_, rfl⟩
      rw [← hG] at hcc ⊢
      have HCC : Hid (∀ j, j < 3 → y1.cell? ⟨G, j, none⟩ = some (.int .i64 (cur3 j))) := hcc
      have HFY : Hid (FQ b3 b5 ao k ls bo es a5 k5 cur y1) := HFV.out.below by1
      have q12 := next q11 by1
      have HPY : Hid (Pow10 y1) := HPV.out.below by1
      clear hcc by1 hG q11
      go_wp2
      go_loopw [77] (fun i wr => ∃ j : Nat, j ≤ 3 ∧ i = .int .i64 j ∧ Below y1.heap.size y1 wr) (fun i _ => 3 - (intOf i).toNat)
      case atStart => exact ⟨0, by omega, rfl, Below.refl _ _⟩
      case round =>
        obtain ⟨j, hj, rfl, hb⟩ := hrel
        obtain ⟨X1, hX1⟩ : ∃ X, X = wr := ⟨_, rfl⟩
        subst hX1
        have HFW : Hid (FQ b3 b5 ao k ls bo es a5 k5 cur X1) := HFY.out.below hb
        have HBB : Hid (Below y1.heap.size y1 X1) := hb
        have c5 := HFW.out.c5
        by_cases hj3 : j < 3
        · have hji : (j : Int) < 3 := by omega
          have cj := kc (HCC.out j hj3) hb
          have hcm := cur3_mem hj3
          obtain ⟨cu, hcu⟩ : ∃ cu, cur3 j = cu := ⟨_, rfl⟩
          rw [hcu] at cj hcm
          have HOW : Hid (owedL cur cu (acctsL cur) = worthL cur cu) := owed_worth HLK.out hcm
          clear hb hcu hcm
          go_wp2_with fail
          refine (iAccounts_any _ _ _ _ HFW.out.lm (by omega) HAO.out).mono ?_
          rintro e y2 ⟨co, kk, rfl, hna, by2⟩
          have HNA : Hid (NumsAt y2 co (acctsL cur)) := hna
          have HFZ : Hid (FQ b3 b5 ao k ls bo es a5 k5 cur y2) := HFW.out.below by2
          have HB2 : Hid (Below y1.heap.size y1 y2) := next HBB.out by2
          have hal := accts_len cur
          clear hna by2 cj c5 HFW HBB
          go_wp2
          go_loopw [15, 84] (fun o i wr => ∃ n : Nat, n ≤ (acctsL cur).length ∧ i = .int .i64 n ∧ o = .int .i64 (owedL cur cu ((acctsL cur).take n)) ∧ Below y2.heap.size y2 wr) (fun _ i _ => (acctsL cur).length - (intOf i).toNat)
          case atStart => exact ⟨0, by omega, rfl, rfl, Below.refl _ _⟩
          case round =>
            obtain ⟨n, hn2, rfl, rfl, hb⟩ := hrel
            obtain ⟨X3, hX3⟩ : ∃ X, X = wr := ⟨_, rfl⟩
            subst hX3
            have HF3 : Hid (FQ b3 b5 ao k ls bo es a5 k5 cur X3) := HFZ.out.below hb
            have HB3 : Hid (Below y2.heap.size y2 X3) := hb
            have c5 := HF3.out.c5
            by_cases hlt : n < (acctsL cur).length
            · have hni : (n : Int) < ((acctsL cur).length : Int) := by omega
              obtain ⟨bb, off, hco, hx⟩ := nums_at (HNA.out.below hb) hlt
              subst hco
              have hst := owed_step cur cu (acctsL cur) n hlt
              have hbd := owed_bd HLK.out cu ((acctsL cur).take n)
              have htl : ((acctsL cur).take n).length = n := by simp; omega
              rw [htl] at hbd
              obtain ⟨x, hxe⟩ : ∃ x, (acctsL cur).getD n 0 = x := ⟨_, rfl⟩
              rw [hxe] at hx hst
              have hpb := bal_bd HLK.out x cu
              have HBC : Hid (Calls Tryz.prog 13 #[.agg #[.slice a5 cur.length k5], .int .i64 x, .int .i64 cu] X3 fun e w' => e = .returned (.int .i64 (balL cur x cu)) ∧ Below X3.heap.size X3 w') := iBalanceOf_any _ _ _ _ _ _ HF3.out.lm (by omega)
              obtain ⟨p, hp⟩ : ∃ p, balL cur x cu = p := ⟨_, rfl⟩
              rw [hp] at hst hpb HBC
              obtain ⟨O, hO⟩ : ∃ O, owedL cur cu ((acctsL cur).take n) = O := ⟨_, rfl⟩
              rw [hO] at hst hbd ⊢
              have HST : Hid (owedL cur cu ((acctsL cur).take (n + 1)) = O + negI p) := hst
              have hwr : IntKind.i64.wrap (O - p) = O - p := by simp [IntKind.wrap, IntKind.bits, IntKind.signed]; omega
              clear hst hbd htl hxe hp hO hb hpb
              go_wp2_with fail
              refine HBC.out.mono ?_
              rintro e y3 ⟨rfl, by3⟩
              have HB4 : Hid (Below y2.heap.size y2 y3) := next HB3.out by3
              clear by3 HBC hx c5 HF3 HB3
              by_cases hneg : p < 0
              · have HV : Hid (owedL cur cu ((acctsL cur).take (n + 1)) = O - p) := by rw [Hid, HST.out, negI, if_pos hneg]; omega
                clear HST
                go_wp2
                go_roundw
                case rel => exact ⟨n + 1, by omega, by go_num, by rw [HV.out], HB4.out⟩
                case measure => simp [intOf]; omega
              · have HV : Hid (owedL cur cu ((acctsL cur).take (n + 1)) = O) := by rw [Hid, HST.out, negI, if_neg hneg]; omega
                clear HST hwr
                go_wp2
                go_roundw
                case rel => exact ⟨n + 1, by omega, by go_num, by rw [HV.out], HB4.out⟩
                case measure => simp [intOf]; omega
            · have hne : n = (acctsL cur).length := by omega
              subst hne
              have hni : ¬ ((acctsL cur).length : Int) < ((acctsL cur).length : Int) := by omega
              rw [List.take_length, HOW.out]
              have HWC : Hid (Calls Tryz.prog 14 #[.agg #[.slice a5 cur.length k5], .int .i64 cu] X3 fun e w' => e = .returned (.int .i64 (worthL cur cu)) ∧ Below X3.heap.size X3 w') := iWorth_any _ _ _ _ _ HF3.out.lm (by omega)
              obtain ⟨Q0, hQ0⟩ : ∃ Q0, worthL cur cu = Q0 := ⟨_, rfl⟩
              rw [hQ0] at HWC ⊢
              have hqq : (Q0 != Q0) = false := by simp
              clear hQ0 hb HOW
              go_wp2_with fail
              refine HWC.out.mono ?_
              rintro e y3 ⟨rfl, by3⟩
              have HB4 : Hid (Below y1.heap.size y1 y3) := next (next HB2.out HB3.out) by3
              clear by3 HWC c5
              go_wp2
              go_roundw
              case rel => exact ⟨j + 1, by omega, by go_num, HB4.out⟩
              case measure => simp [intOf]; omega
        · have hj3' : j = 3 := by omega
          subst hj3'
          have hne := over_ne X1
          have g0 := over_cell c5
          have HPX : Hid (Pow10 X1) := HPY.out.below hb
          have HIT : Hid (∀ z : Over X1, Calls Tryz.prog 15 #[.agg #[.slice a5 cur.length k5]] z.x fun e w' => e = .returned (.string ⟨(ledT cur).toArray⟩) ∧ Below z.x.heap.size z.x w') := fun z => iLedgerText_any _ _ _ _ (HFW.out.lm.below z.h) (by omega) HCD.out.2 (HPX.out.below z.h)
          have HST : Hid (∀ z : Over X1, Calls Tryz.prog 16 #[.agg #[.slice a5 cur.length k5]] z.x fun e w' => e = .returned (.string ⟨(ledT cur).toArray⟩) ∧ Below z.x.heap.size z.x w') := fun z => sLedgerText_any _ _ _ _ (HFW.out.lm.below z.h) (by omega)
          have q13 := next q12 hb
          generalize ledT cur = T at HIT HST
          clear hb HFW HBB
          go_upto_region 36 with fail
          refine wp_region_over (by kernel_rfl) (by kernel_rfl) ?_
          repeat (go_big_quiet_step (first | with_reducible exact over_of (HIT.out _) | with_reducible exact over_of (HST.out _)))
          refine wpQuiet_nil ?_
          rintro u9 ⟨⟨wz, b99⟩, hu9⟩
          subst hu9
          have q14 := next q13 b99
          clear b99 g0 hne HIT HST
          go_wp2
          go_ret
          exact ⟨rfl, q14⟩

set_option maxRecDepth 100000 in
theorem lifted (os : Os) (started : os.Started) (H : Type) (enc : TypeId × Value → H) (F : Stop.Interp) :
    ReturnsInHanded {} Tryz.checked os 3 .any ((OpenSpec.ofChange Rows.fnPostsSpec).preRow enc Tryz.prog Tryz.f3 Rows.fnPostsRow.domain false Rows.fnPostsRow.laid)
      (((OpenSpec.ofChange Rows.fnPostsSpec).at F).post enc Tryz.prog Tryz.f3 false true false false) := by
  refine returnsInHanded_of_row (C := Tryz.checked) (s := OpenSpec.ofChange Rows.fnPostsSpec) own started (by kernel_rfl) Tryz.func3
    (ChangeSpec.witness_shaped (enc := enc) (C := Tryz.checked) (os := os) (X := fun w _ => laidMetH Tryz.prog Rows.fnPostsRow.laid w) false (World.laidAll Tryz.prog os Rows.fnPostsRow.laid) #[.slice none 0 0] 8 (World.laidAll_os _ _ _)
      (World.shaped_of_ZipB (by kernel_rfl) (by kernel_rfl)) (by kernel_rfl) (by kernel_rfl) (by kernel_rfl)
      (by rw [MakeChecks.laidMetH_plain _ _ _ (by kernel_rfl)]; exact laidMet_laidAll _ (by kernel_rfl) (by kernel_rfl))) ?_
  intro W base args ds gs before hval0 hW _ _ _ hL hsh _
  have hval : ∀ (j : Nat) t v, Tryz.f3.params[j]? = some t → args[j]? = some v → Value.okWide Tryz.prog W .any base t v := hval0
  have hW' := hW
  obtain ⟨p, q, hA0, hV, rfl, _, _⟩ := hW
  have hA : DataW.TrodAll enc Tryz.prog W 0 (fun _ => true) true Tryz.f3.params.toList args.toList ds p := hA0
  rw [Tryz.params3] at hA hval
  obtain ⟨v0, vs0, d0, ds0, p0, q0, hargs, rfl, rfl, h0, r0⟩ := trodAll_cons hA
  obtain ⟨rfl, rfl, rfl⟩ := trodAll_nil r0
  obtain rfl : args = #[v0] := by cases args; simp_all
  obtain ⟨rfl, rfl⟩ := trodVars_none hV
  obtain ⟨a0, len0, cap0, rfl⟩ := okWide_slice Tryz.underlying22 (hval 0 22 v0 rfl rfl)
  have k0 := h0
  have lt0 : ∀ x ∈ p0, x.block < W.heap.size := by obtain ⟨m, hm⟩ := k0; exact DataW.trod_lt m _ _ _ hm
  obtain ⟨z0, w0⟩ : ∃ zs, IsRow .u8 W a0 len0 cap0 zs := is_row Tryz.underlying22 Tryz.underlying5 (by kernel_rfl) h0
  clear hA0 hval0
  rw [MakeChecks.laidMetH_plain _ _ _ (by kernel_rfl)] at hL
  refine (walk a0 len0 cap0 z0 W w0 hL hsh).mono fun e W' ⟨he, bel⟩ => ?_
  subst he
  exact ⟨_, rfl, _, _, _, [], _, [], hW', trodAll_mk1 (shut_bool Tryz.underlying4 _), (trodAll_cons_mk (Below.trod laidOut (by kernel_rfl) (of_decide_eq_true (by kernel_rfl)) k0 bel lt0) trodAll_mk0), rfl, bel.frame _, fun h => by cases h⟩

theorem said : Rows.FnPostsSaid :=
  OpenClaim.holds_of_cond 3 Tryz.f3 rfl rfl rfl rfl rfl rfl rfl ⟨rfl, rfl, rfl, rfl, rfl⟩ rfl rfl rfl rfl rfl (by kernel_rfl) Tryz.func3 (by kernel_rfl)
    (of_decide_eq_true (by kernel_rfl)) (by unfold Func.isWrapper; first | (rw [if_pos (by decide +kernel)]; kernel_rfl) | (rw [if_neg (by decide +kernel)]; exact ⟨rfl, rfl⟩))
    (fun os started H enc _ F => by rw [OpenClaim.pre_eq_preRow]; exact lifted os started H enc F)

theorem proved : Rows.FnPostsCardSaid :=
  Claim7.holds_tied_plain_at .later [] _ _ _ _ said (fun _ h => by cases h) (by kernel_rfl) (fun _ h => by cases h) fnPosts_row_tie rfl ⟨rfl, rfl⟩ (by kernel_rfl) rfl
    (fun f fn hf hfn => by
      obtain rfl : f = 3 := Option.some.inj ((show Tryz.prog.funcNamed "loop.example/g00126/laws.FnPosts" = some 3 by kernel_rfl).symm.trans hf) |>.symm
      obtain rfl : fn = Tryz.f3 := (Option.some.inj (Tryz.func3.symm.trans hfn)).symm
      refine ⟨by kernel_rfl, fun j t ht => ?_⟩
      rw [Tryz.params3] at ht
      have hm : t ∈ [22] := by have := Array.mem_of_getElem? ht; simp at this ⊢; first | exact this | exact this.symm
      have hall : ([22].all fun u => !Tryz.prog.wantsStandIn u) = true := by kernel_rfl
      have h1 := List.all_eq_true.1 hall t hm
      have h2 : Tryz.prog.wantsStandIn t = false := by simpa using h1
      exact h2)
    (by kernel_rfl)
end Go.Proofs.YtnimlgdackgcoaaGreatDoor.fnPosts
