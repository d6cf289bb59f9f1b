/- Proved: for whatever bytes the draw is made of (up to 1048576; more pass by the law's own first test): behind whatever acts, an answer is taken until its last day and not behind it, and what ran out is taken behind it and not sooner. What it takes: the table of the steps' days holds what the program's text lays into it (the card ties that to the program). -/
import Derived.Test.YtenbhmmknejcjaaDoorJP90a
import Derived.Test.YtenbhmmknejcjaaDoorKP9DrawSt
import Derived.Test.YtenbhmmknejcjaaDoorJP91a
import Derived.Test.YtenbhmmknejcjaaDoorJP93a
import Derived.Test.YtenbhmmknejcjaaDoorKP9CBox
namespace Go.Proofs.YtenbhmmknejcjaaDoor.fnTimes
open Go.ChangeShapes Go.WideShapes Go.ChangeAt Go.RowKit
set_option maxRecDepth 100000

theorem varTab {w : World} (h : laidMet Tryd.prog Rows.fnTimesRow.laid w) : StepTab w := step_head h
theorem times_go {c : Cs} {a : Ac} {t n : Int} {zs : List Int} (h : Inv c n) (g : DueI c) : ∃ n', Inv (doC c a t zs) n' ∧ DueI (doC c a t zs) := by
  by_cases hv : doV c a t zs = 0
  · rw [doC_yes hv]
    exact ⟨_, inv_next h hv, due_next g hv⟩
  · rw [doC_no hv]
    exact ⟨n, h, g⟩

set_option maxHeartbeats 40000000 in
theorem walk (a0 : Option Addr) (len0 cap0 : Nat) (z0 : List Int) (w : World) (w0 : IsRow .u8 w a0 len0 cap0 z0) (hL : laidMet Tryd.prog Rows.fnTimesRow.laid w) (_hsh : w.ShapedOpen Tryd.prog) :
    Calls Tryd.prog 5 #[.slice a0 len0 cap0] w fun e w' => e = .returned (.bool true) ∧ Below w.heap.size w w' := by
  have HT : Hid (StepTab w) := varTab hL
  clear hL
  by_cases hbig : (1048576 : Int) < (len0 : Int)
  · have hdec : decide ((1048576 : Int) < (len0 : Int)) = true := decide_eq_true hbig
    clear w0
    go_enter Tryd.func5, Tryd.ntmps5
    go_wp2_with fail
    refine (big_any _ _ _ _).mono ?_
    rintro e u ⟨rfl, hu⟩
    subst hu
    rw [hdec]
    go_wp2
    go_ret
    exact ⟨rfl, Below.refl _ _⟩
  · have hdec : decide ((1048576 : Int) < (len0 : Int)) = false := decide_eq_false hbig
    have hn : len0 ≤ 1048576 := by omega
    have HR : Hid (IsRow .u8 w a0 len0 cap0 z0) := w0
    have HN : Hid (len0 ≤ 1048576) := hn
    clear w0 hbig
    go_enter Tryd.func5, Tryd.ntmps5
    go_wp2_with fail
    refine (big_any _ _ _ _).mono ?_
    rintro e u ⟨rfl, hu⟩
    replace hu := hu.symm
    subst hu
    rw [hdec]
    go_wp2_with fail
    refine (drawStory_any _ _ _ _ _ HR.out hn).mono ?_
    rintro e u1 ⟨c, az, ds, a1, a2, a3, k1, k2, k3, rfl, hst, hdl, hal, hds, hla, hid, hio, b1⟩
    obtain ⟨si, sa, sc, sm, sd, rfl, hok, hcu, hm, hdy⟩ := hst
    have HLA : Hid (LinesAt u1 a1 az) := hla
    have HID0 : Hid (IntsAt u1 a2 ds) := hid
    have HIO0 : Hid (IntsAt u1 a3 offS) := hio
    have HB1 : Hid (Below w.heap.size w u1) := b1
    have HCU : Hid (wf64 sc) := hcu
    have HDL : Hid (ds.length = az.length) := hdl
    have HT1 : Hid (StepTab u1) := tab_below HT.out b1
    have hi0 := inv_start hok
    have hc0 : DueI (startC si sa sc sm sd) := due_start _ _ _ _ _
    have hcur : (startC si sa sc sm sd).cur = sc := rfl
    clear hn hdec HR HN hla hid hio b1 hcu hdl hds hok hm hdy
    generalize startC si sa sc sm sd = c at hi0 hc0 hcur ⊢
    have HOB := one_box u1 c 25
    obtain ⟨iss, acq, cur, am, st, rsn, cl, bk, fee, cop, sta, due⟩ := c
    unfold cv
    simp only at hcur HOB ⊢
    subst hcur
    have HI0 : Hid (Inv ⟨iss, acq, cur, am, st, rsn, cl, bk, fee, cop, sta, due⟩ 0) := hi0
    have HC0 : Hid (DueI ⟨iss, acq, cur, am, st, rsn, cl, bk, fee, cop, sta, due⟩) := hc0
    clear hi0 hc0
    go_upto_region 4 with fail
    obtain ⟨nb, b2⟩ := HOB
    generalize hw4 : u1.alloc (.cells #[.int .i64 iss, .int .i64 acq, .int .i64 cur, .int .i64 am, .int .i64 st, .int .i64 rsn, .int .i64 cl, .int .i64 bk, .int .i64 fee, .bool cop, .int .i64 sta, .int .i64 due] 25) = w4 at nb b2 ⊢
    clear hw4
    obtain ⟨R, hR⟩ : ∃ R, R = u1.heap.size := ⟨_, rfl⟩
    have HRR : Hid (R = u1.heap.size) := hR
    rw [← hR] at nb ⊢
    clear hR
    have f10 := nb.cb.f10
    simp only [Nat.zero_add] at f10
    have HNB : Hid (NB R ⟨iss, acq, cur, am, st, rsn, cl, bk, fee, cop, sta, due⟩ w4) := nb
    have HB2 : Hid (Below u1.heap.size u1 w4) := b2
    clear nb b2
    go_upto_block 0 with fail
    clear f10
    go_cut [7] (fun _ wc => ∃ (rl : Int) (k : Cs), Inv k rl ∧ DueI k ∧ k.cur = cur ∧ NB R k wc ∧ Below u1.heap.size u1 wc)
    case first =>
      go_wp2_with fail
      go_loopw [7, 8] (fun v i wr => ∃ (j : Nat) (dy rl : Int) (k : Cs), j ≤ az.length ∧ v = .int .i64 dy ∧ i = .int .i64 j ∧ Inv k rl ∧ DueI k ∧ k.cur = cur ∧ NB R k wr ∧ Below u1.heap.size u1 wr) (fun _ i _ => az.length - (intOf i).toNat)
      case atStart => exact ⟨0, _, 0, _, Nat.zero_le _, rfl, rfl, HI0.out, HC0.out, rfl, HNB.out, HB2.out⟩
      case round =>
        clear HNB HB2 HI0 HC0
        obtain ⟨j, dy, rl, k, hj, rfl, rfl, hI, hC, hkc, hN, hB⟩ := hrel
        have HI : Hid (Inv k rl) := hI
        have HC : Hid (DueI k) := hC
        have HKC : Hid (k.cur = cur) := hkc
        have HN : Hid (NB R k wr) := hN
        have HB : Hid (Below u1.heap.size u1 wr) := hB
        clear hI hC hkc hN hB
        by_cases hlt : j < az.length
        · have hji : (j : Int) < (az.length : Int) := by omega
          obtain ⟨be, oe, hbe, hbl, e0, e1, e2⟩ := LinesAt.at (HLA.out.below HB.out) hlt
          have hdj : ∃ bd od, a2 = some ⟨bd, od, none⟩ ∧ wr.cell? ⟨bd, od + j, none⟩ = some (.int .i64 (ds.getD j 0)) := by
            have hdd := HDL.out
            rcases HID0.out.below HB.out with h | ⟨bd, od, h1, h2, h3⟩
            · rw [h] at hdd; simp at hdd; omega
            · exact ⟨bd, od, h1, h3 j (by omega)⟩
          obtain ⟨bd, od, hbd, dj⟩ := hdj
          subst hbe
          subst hbd
          obtain ⟨x, hx⟩ : ∃ x, lnAt az j = x := ⟨_, rfl⟩
          rw [hx] at e0 e1 e2
          clear hx
          obtain ⟨x1, x2, x3⟩ := x
          simp only at e0 e1 e2
          generalize ds.getD j 0 = dd at dj
          have hdlt : (j : Int) < (ds.length : Int) := by have := HDL.out; omega
          go_upto_region 9 with fail
          generalize wrap64 (dy + dd) = dz
          clear dj hdlt hbl
          obtain ⟨rl2, g1, g2⟩ := times_go (c := k) (a := ⟨x1, x2, x3⟩) (t := dz) (zs := offS) HI.out HC.out
          have hcd := doC_cur k ⟨x1, x2, x3⟩ dz offS
          rw [HKC.out] at hcd
          have HSD : Hid (∀ u, Below wr.heap.size wr u → Calls Tryd.prog 11 #[cv k, .agg #[.int .i64 x1, .int .i64 x2, .int .i64 x3], .int .i64 dz, .slice a3 offS.length k3] u (DoR u (doC k ⟨x1, x2, x3⟩ dz offS) (doE k ⟨x1, x2, x3⟩ dz offS) (doV k ⟨x1, x2, x3⟩ dz offS))) := fun u hu => sDo_any k ⟨x1, x2, x3⟩ dz a3 k3 offS u (HIO0.out.below (HB.out.trans (hu.mono HB.out.size))) (by decide)
          generalize doC k ⟨x1, x2, x3⟩ dz offS = dc at g1 g2 hcd HSD
          generalize doE k ⟨x1, x2, x3⟩ dz offS = E at HSD
          generalize doV k ⟨x1, x2, x3⟩ dz offS = V at HSD
          obtain ⟨iss, acq, cur', am, st, rsn, cl, bk, fee, cop, sta, due⟩ := k
          obtain ⟨n0, n1, n2, n3, n4, n5, n6, n7, n8, n9, n10, n11⟩ := dc
          unfold cv at HSD
          simp only at HSD hcd HKC
          have hkc := HKC.out
          subst hkc
          have G1 : Hid (Inv ⟨n0, n1, n2, n3, n4, n5, n6, n7, n8, n9, n10, n11⟩ rl2) := g1
          have G2 : Hid (DueI ⟨n0, n1, n2, n3, n4, n5, n6, n7, n8, n9, n10, n11⟩) := g2
          have HCD : Hid _ := hcd
          clear g1 g2 hcd HI HC HKC
          obtain ⟨rg0, rg1, rg2, rg3, rg4, rg5, rg6, rg7, rg8, rg9, rg10, rg11⟩ := HN.out.cb
          simp only [Nat.zero_add] at rg0 rg1 rg2 rg3 rg4 rg5 rg6 rg7 rg8 rg9 rg10 rg11
          have ca0 : ∀ o, (wr.alloc o).cell? ⟨R, 0, none⟩ = some (.int .i64 iss) := fun o => by rw [World.cell?_alloc_lt _ _ _ (World.block_lt_of_cell? _ _ rg0)]; exact rg0
          have ca1 : ∀ o, (wr.alloc o).cell? ⟨R, 1, none⟩ = some (.int .i64 acq) := fun o => by rw [World.cell?_alloc_lt _ _ _ (World.block_lt_of_cell? _ _ rg1)]; exact rg1
          have ca2 : ∀ o, (wr.alloc o).cell? ⟨R, 2, none⟩ = some (.int .i64 cur') := fun o => by rw [World.cell?_alloc_lt _ _ _ (World.block_lt_of_cell? _ _ rg2)]; exact rg2
          have ca3 : ∀ o, (wr.alloc o).cell? ⟨R, 3, none⟩ = some (.int .i64 am) := fun o => by rw [World.cell?_alloc_lt _ _ _ (World.block_lt_of_cell? _ _ rg3)]; exact rg3
          have ca4 : ∀ o, (wr.alloc o).cell? ⟨R, 4, none⟩ = some (.int .i64 st) := fun o => by rw [World.cell?_alloc_lt _ _ _ (World.block_lt_of_cell? _ _ rg4)]; exact rg4
          have ca5 : ∀ o, (wr.alloc o).cell? ⟨R, 5, none⟩ = some (.int .i64 rsn) := fun o => by rw [World.cell?_alloc_lt _ _ _ (World.block_lt_of_cell? _ _ rg5)]; exact rg5
          have ca6 : ∀ o, (wr.alloc o).cell? ⟨R, 6, none⟩ = some (.int .i64 cl) := fun o => by rw [World.cell?_alloc_lt _ _ _ (World.block_lt_of_cell? _ _ rg6)]; exact rg6
          have ca7 : ∀ o, (wr.alloc o).cell? ⟨R, 7, none⟩ = some (.int .i64 bk) := fun o => by rw [World.cell?_alloc_lt _ _ _ (World.block_lt_of_cell? _ _ rg7)]; exact rg7
          have ca8 : ∀ o, (wr.alloc o).cell? ⟨R, 8, none⟩ = some (.int .i64 fee) := fun o => by rw [World.cell?_alloc_lt _ _ _ (World.block_lt_of_cell? _ _ rg8)]; exact rg8
          have ca9 : ∀ o, (wr.alloc o).cell? ⟨R, 9, none⟩ = some (.bool cop) := fun o => by rw [World.cell?_alloc_lt _ _ _ (World.block_lt_of_cell? _ _ rg9)]; exact rg9
          have ca10 : ∀ o, (wr.alloc o).cell? ⟨R, 10, none⟩ = some (.int .i64 sta) := fun o => by rw [World.cell?_alloc_lt _ _ _ (World.block_lt_of_cell? _ _ rg10)]; exact rg10
          have ca11 : ∀ o, (wr.alloc o).cell? ⟨R, 11, none⟩ = some (.int .i64 due) := fun o => by rw [World.cell?_alloc_lt _ _ _ (World.block_lt_of_cell? _ _ rg11)]; exact rg11
          have cb0 : ∀ o, (wr.alloc o).cell? ⟨be, oe + j * 3, none⟩ = some (.int .i64 x1) := fun o => by rw [World.cell?_alloc_lt _ _ _ (World.block_lt_of_cell? _ _ e0)]; exact e0
          have cb1 : ∀ o, (wr.alloc o).cell? ⟨be, oe + j * 3 + 1, none⟩ = some (.int .i64 x2) := fun o => by rw [World.cell?_alloc_lt _ _ _ (World.block_lt_of_cell? _ _ e1)]; exact e1
          have cb2 : ∀ o, (wr.alloc o).cell? ⟨be, oe + j * 3 + 2, none⟩ = some (.int .i64 x3) := fun o => by rw [World.cell?_alloc_lt _ _ _ (World.block_lt_of_cell? _ _ e2)]; exact e2
          go_cut [9, 10, 11] (fun v y t wc => ∃ (B : Nat) (lo : Option Addr) (lk : Nat), v = .pointer (some ⟨B, 0, none⟩) ∧ y = .slice lo E.length lk ∧ t = .int .i64 V ∧ LX wr ⟨n0, n1, n2, n3, n4, n5, n6, n7, n8, n9, n10, n11⟩ E B lo lk wc)
          case first =>
            have z : ZC wr wr none (fun _ => True) := ZC.start (fun _ _ => trivial)
            go_region_with (first | (go_at_call 11; (first | with_reducible refine (zDo z (HSD.out _ z.bel)).mono ?_ | with_reducible refine (zDo z.drew (HSD.out _ z.drew.bel)).mono ?_ | with_reducible refine (zDo (z.al _) (HSD.out _ (z.al _).bel)).mono ?_ | with_reducible refine (zDo (z.al _).drew (HSD.out _ (z.al _).drew.bel)).mono ?_ | with_reducible refine (zDo (z.drew.al _) (HSD.out _ (z.drew.al _).bel)).mono ?_); rintro e v4 ⟨a4, k4, rfl, o4, z0, z⟩; simp only [cv]; (first | (have HF : Hid (∀ t, LX wr ⟨n0, n1, n2, n3, n4, n5, n6, n7, n8, n9, n10, n11⟩ E v4.heap.size a4 k4 (v4.alloc (.cells #[.int .i64 n0, .int .i64 n1, .int .i64 n2, .int .i64 n3, .int .i64 n4, .int .i64 n5, .int .i64 n6, .int .i64 n7, .int .i64 n8, .bool n9, .int .i64 n10, .int .i64 n11] t))) := (fun t => LX.new o4 z0 z)) | (have HF : Hid _ := LX.set (n := ⟨n0, n1, n2, n3, n4, n5, n6, n7, n8, n9, n10, n11⟩) o4 z0 z; obtain ⟨_, ⟨bg0, bg1, bg2, bg3, bg4, bg5, bg6, bg7, bg8, bg9, bg10, bg11⟩, ⟨by0, by1, by2, by3, by4, by5, by6, by7, by8, by9, by10, by11⟩⟩ := z.box _ rfl; simp only [Nat.zero_add, zeroC] at bg0 by0 bg1 by1 bg2 by2 bg3 by3 bg4 by4 bg5 by5 bg6 by6 bg7 by7 bg8 by8 bg9 by9 bg10 by10 bg11 by11)); clear o4 z0))
            all_goals
              go_wp2_with fail
              go_meet
              first
                | exact ⟨_, _, _, rfl, rfl, rfl, HF.out _⟩
                | exact ⟨_, _, _, rfl, rfl, rfl, HF.out⟩
                | exact ⟨_, _, _, rfl, rfl, rfl, (HF.out _).drew⟩
                | exact ⟨_, _, _, rfl, rfl, rfl, HF.out.drew⟩
          case rest =>
            clear HSD rg0 ca0 rg1 ca1 rg2 ca2 rg3 ca3 rg4 ca4 rg5 ca5 rg6 ca6 rg7 ca7 rg8 ca8 rg9 ca9 rg10 ca10 rg11 ca11 e0 e1 e2 cb0 cb1 cb2
            obtain ⟨B11, lo, lk, rfl, rfl, rfl, q11⟩ := hcut
            obtain ⟨w11, hw11⟩ : ∃ y, y = wc := ⟨_, rfl⟩
            subst hw11
            have HN11 : Hid (NB R ⟨iss, acq, cur', am, st, rsn, cl, bk, fee, cop, sta, due⟩ w11) := HN.out.below q11.bel
            have HB11 : Hid (Below u1.heap.size u1 w11) := HB.out.trans (q11.bel.mono HB.out.size)
            obtain ⟨sg0, sg1, sg2, sg3, sg4, sg5, sg6, sg7, sg8, sg9, sg10, sg11⟩ := q11.cb
            simp only [Nat.zero_add] at sg0 sg1 sg2 sg3 sg4 sg5 sg6 sg7 sg8 sg9 sg10 sg11
            obtain ⟨rg0, rg1, rg2, rg3, rg4, rg5, rg6, rg7, rg8, rg9, rg10, rg11⟩ := HN11.out.cb
            simp only [Nat.zero_add] at rg0 rg1 rg2 rg3 rg4 rg5 rg6 rg7 rg8 rg9 rg10 rg11
            obtain ⟨hy0, hy1, hy2, hy3, hy4, hy5, hy6, hy7, hy8, hy9, hy10, hy11⟩ := HN11.out.fz
            simp only [Nat.zero_add] at hy0 hy1 hy2 hy3 hy4 hy5 hy6 hy7 hy8 hy9 hy10 hy11
            have HR1 : Hid (NB R ⟨n0, n1, n2, n3, n4, n5, n6, n7, n8, n9, n10, n11⟩ (put12 w11 R ⟨n0, n1, n2, n3, n4, n5, n6, n7, n8, n9, n10, n11⟩)) := NB.put HN11.out
            have HR2 : Hid (Below u1.heap.size u1 (put12 w11 R ⟨n0, n1, n2, n3, n4, n5, n6, n7, n8, n9, n10, n11⟩)) := put12_below _ HB11.out (by rw [HRR.out]; exact Nat.le_refl _)
            clear q11 HN HB HN11 HB11
            go_wp2
            go_roundw
            case rel => exact ⟨j + 1, _, _, ⟨n0, n1, n2, n3, n4, n5, n6, n7, n8, n9, n10, n11⟩, by omega, rfl, by go_num, G1.out, G2.out, HCD.out, HR1.out, HR2.out⟩
            case measure => simp [intOf]; omega
        · have hji : ¬ (j : Int) < (az.length : Int) := by omega
          go_wp2
          go_meet
          exact ⟨rl, k, HI.out, HC.out, HKC.out, HN.out, HB.out⟩
    case rest =>
      clear HNB HB2 HI0 HC0
      obtain ⟨rl, k, hI, hD, hkc, hN, hB⟩ := hcut
      obtain ⟨wl, hwl⟩ : ∃ y, y = wc := ⟨_, rfl⟩
      subst hwl
      have HPD : Hid (∀ (x y z t : Int) (u : World), Below u1.heap.size u1 u → Calls Tryd.prog 10 #[cv k, .agg #[.int .i64 x, .int .i64 y, .int .i64 z], .int .i64 t, .slice a3 offS.length k3] u (DoR u (doC k ⟨x, y, z⟩ t offS) (doE k ⟨x, y, z⟩ t offS) (doV k ⟨x, y, z⟩ t offS))) := fun x y z t u hu => by
        have ht : StepTab u := tab_below HT1.out hu
        exact iDo_any k ⟨x, y, z⟩ t a3 k3 offS u (HIO0.out.below hu) (by decide) ht (tab_lt' ht) (by rw [hkc]; exact HCU.out)
      have HTE : Hid (k.st ≠ 7 → 0 ≤ k.due → k.due + 1 ≤ 80000 → doV k ⟨8, 0, 0⟩ k.due offS = 4 ∧ doV k ⟨8, 0, 0⟩ (k.due + 1) offS = 0) := fun h1 h2 h3 => times_expire hI hD h1 h2 h3 offS_ok 0 0
      have HTS : Hid (k.st ≠ 7 → k.st ≠ 6 → 0 ≤ k.due → k.due + 1 ≤ 80000 → doV k ⟨stepKind k.st, k.cl, 0⟩ k.due offS = 0 ∧ doV k ⟨stepKind k.st, k.cl, 0⟩ (k.due + 1) offS = 4) := fun h1 h2 h3 h4 => times_step hI hD h1 h2 h3 h4 offS_ok 0
      have hduI := hD.2
      have hduJ := hD.1
      obtain ⟨iss, acq, cur', am, st, rsn, cl, bk, fee, cop, sta, due⟩ := k
      have hst7 := (caseOk_parts hI.1).2.2.2.2.2.1
      simp only at HTE HTS hkc hduI hduJ hst7
      have HNW : Hid (NB R ⟨iss, acq, cur', am, st, rsn, cl, bk, fee, cop, sta, due⟩ wl) := hN
      have HBW : Hid (Below u1.heap.size u1 wl) := hB
      have HBL : Hid (Below w.heap.size w wl) := HB1.out.trans (hB.mono HB1.out.size)
      clear hI hD hkc hN hB
      obtain ⟨rg0, rg1, rg2, rg3, rg4, rg5, rg6, rg7, rg8, rg9, rg10, rg11⟩ := HNW.out.cb
      simp only [Nat.zero_add] at rg0 rg1 rg2 rg3 rg4 rg5 rg6 rg7 rg8 rg9 rg10 rg11
      by_cases h7 : st = 7
      · subst h7
        clear HPD HTE HTS hduI hduJ hst7
        go_wp2
        go_ret
        exact ⟨rfl, HBL.out⟩
      · by_cases h0 : due < 0
        · clear HPD HTE HTS hduI hduJ hst7
          go_wp2
          go_ret
          exact ⟨rfl, HBL.out⟩
        · have hdb : 0 ≤ due ∧ due ≤ 80000 := by omega
          by_cases h8 : 80000 < due + 1
          · clear HPD HTE HTS hduI hduJ hst7
            go_wp2
            go_ret
            exact ⟨rfl, HBL.out⟩
          · have hstc : st = 1 ∨ st = 3 ∨ st = 4 ∨ st = 5 ∨ st = 6 := by omega
            obtain ⟨ve1, ve2⟩ := HTE.out h7 (by omega) (by omega)
            have HTS2 : Hid (st ≠ 6 → doV ⟨iss, acq, cur', am, st, rsn, cl, bk, fee, cop, sta, due⟩ ⟨stepKind st, cl, 0⟩ due offS = 0 ∧ doV ⟨iss, acq, cur', am, st, rsn, cl, bk, fee, cop, sta, due⟩ ⟨stepKind st, cl, 0⟩ (due + 1) offS = 4) := fun h6 => HTS.out h7 h6 (by omega) (by omega)
            have HSTC : Hid _ := hstc
            clear HTE HTS hduI hduJ hst7 hstc HBL
            have p1 := HPD.out 8 0 0 (due)
            rw [ve1] at p1
            generalize doC ⟨iss, acq, cur', am, st, rsn, cl, bk, fee, cop, sta, due⟩ ⟨8, 0, 0⟩ (due) offS = D1 at p1
            generalize doE ⟨iss, acq, cur', am, st, rsn, cl, bk, fee, cop, sta, due⟩ ⟨8, 0, 0⟩ (due) offS = E1 at p1
            obtain ⟨m1_0, m1_1, m1_2, m1_3, m1_4, m1_5, m1_6, m1_7, m1_8, m1_9, m1_10, m1_11⟩ := D1
            unfold cv at p1
            simp only at p1
            go_wp2_with fail
            refine (p1 _ HBW.out).mono ?_
            rintro e wA1 ⟨eo1, ec1, rfl, -, bA1⟩
            simp only [cv]
            have bx1 : Below wA1.heap.size wA1 (wA1.alloc (.cells #[.int .i64 m1_0, .int .i64 m1_1, .int .i64 m1_2, .int .i64 m1_3, .int .i64 m1_4, .int .i64 m1_5, .int .i64 m1_6, .int .i64 m1_7, .int .i64 m1_8, .bool m1_9, .int .i64 m1_10, .int .i64 m1_11] 25)) := (Below.refl _ _).alloc (Nat.le_refl _) _
            have HNW1 : Hid (NB R ⟨iss, acq, cur', am, st, rsn, cl, bk, fee, cop, sta, due⟩ (wA1.alloc (.cells #[.int .i64 m1_0, .int .i64 m1_1, .int .i64 m1_2, .int .i64 m1_3, .int .i64 m1_4, .int .i64 m1_5, .int .i64 m1_6, .int .i64 m1_7, .int .i64 m1_8, .bool m1_9, .int .i64 m1_10, .int .i64 m1_11] 25))) := (HNW.out.below bA1).below bx1
            have HBW1 : Hid (Below u1.heap.size u1 (wA1.alloc (.cells #[.int .i64 m1_0, .int .i64 m1_1, .int .i64 m1_2, .int .i64 m1_3, .int .i64 m1_4, .int .i64 m1_5, .int .i64 m1_6, .int .i64 m1_7, .int .i64 m1_8, .bool m1_9, .int .i64 m1_10, .int .i64 m1_11] 25))) := (HBW.out.trans (bA1.mono HBW.out.size)).trans (bx1.mono (Nat.le_trans HBW.out.size bA1.size))
            clear p1 rg0 rg1 rg2 rg3 rg4 rg5 rg6 rg7 rg8 rg9 rg10 rg11 bx1
            obtain ⟨rg0, rg1, rg2, rg3, rg4, rg5, rg6, rg7, rg8, rg9, rg10, rg11⟩ := HNW1.out.cb
            simp only [Nat.zero_add] at rg0 rg1 rg2 rg3 rg4 rg5 rg6 rg7 rg8 rg9 rg10 rg11
            have p2 := HPD.out 8 0 0 (due + 1)
            rw [ve2] at p2
            generalize doC ⟨iss, acq, cur', am, st, rsn, cl, bk, fee, cop, sta, due⟩ ⟨8, 0, 0⟩ (due + 1) offS = D2 at p2
            generalize doE ⟨iss, acq, cur', am, st, rsn, cl, bk, fee, cop, sta, due⟩ ⟨8, 0, 0⟩ (due + 1) offS = E2 at p2
            obtain ⟨m2_0, m2_1, m2_2, m2_3, m2_4, m2_5, m2_6, m2_7, m2_8, m2_9, m2_10, m2_11⟩ := D2
            unfold cv at p2
            simp only at p2
            go_wp2_with fail
            refine (p2 _ HBW1.out).mono ?_
            rintro e wA2 ⟨eo2, ec2, rfl, -, bA2⟩
            simp only [cv]
            have bx2 : Below wA2.heap.size wA2 (wA2.alloc (.cells #[.int .i64 m2_0, .int .i64 m2_1, .int .i64 m2_2, .int .i64 m2_3, .int .i64 m2_4, .int .i64 m2_5, .int .i64 m2_6, .int .i64 m2_7, .int .i64 m2_8, .bool m2_9, .int .i64 m2_10, .int .i64 m2_11] 25)) := (Below.refl _ _).alloc (Nat.le_refl _) _
            have HNW2 : Hid (NB R ⟨iss, acq, cur', am, st, rsn, cl, bk, fee, cop, sta, due⟩ (wA2.alloc (.cells #[.int .i64 m2_0, .int .i64 m2_1, .int .i64 m2_2, .int .i64 m2_3, .int .i64 m2_4, .int .i64 m2_5, .int .i64 m2_6, .int .i64 m2_7, .int .i64 m2_8, .bool m2_9, .int .i64 m2_10, .int .i64 m2_11] 25))) := (HNW1.out.below bA2).below bx2
            have HBW2 : Hid (Below u1.heap.size u1 (wA2.alloc (.cells #[.int .i64 m2_0, .int .i64 m2_1, .int .i64 m2_2, .int .i64 m2_3, .int .i64 m2_4, .int .i64 m2_5, .int .i64 m2_6, .int .i64 m2_7, .int .i64 m2_8, .bool m2_9, .int .i64 m2_10, .int .i64 m2_11] 25))) := (HBW1.out.trans (bA2.mono HBW1.out.size)).trans (bx2.mono (Nat.le_trans HBW1.out.size bA2.size))
            clear p2 rg0 rg1 rg2 rg3 rg4 rg5 rg6 rg7 rg8 rg9 rg10 rg11 bx2
            obtain ⟨rg0, rg1, rg2, rg3, rg4, rg5, rg6, rg7, rg8, rg9, rg10, rg11⟩ := HNW2.out.cb
            simp only [Nat.zero_add] at rg0 rg1 rg2 rg3 rg4 rg5 rg6 rg7 rg8 rg9 rg10 rg11
            clear ve1 ve2
            have HBL2 : Hid (Below w.heap.size w (wA2.alloc (.cells #[.int .i64 m2_0, .int .i64 m2_1, .int .i64 m2_2, .int .i64 m2_3, .int .i64 m2_4, .int .i64 m2_5, .int .i64 m2_6, .int .i64 m2_7, .int .i64 m2_8, .bool m2_9, .int .i64 m2_10, .int .i64 m2_11] 25))) := HB1.out.trans (HBW2.out.mono HB1.out.size)
            generalize hw2 : wA2.alloc (.cells #[.int .i64 m2_0, .int .i64 m2_1, .int .i64 m2_2, .int .i64 m2_3, .int .i64 m2_4, .int .i64 m2_5, .int .i64 m2_6, .int .i64 m2_7, .int .i64 m2_8, .bool m2_9, .int .i64 m2_10, .int .i64 m2_11] 25) = wX at HNW2 HBW2 HBL2 rg0 rg1 rg2 rg3 rg4 rg5 rg6 rg7 rg8 rg9 rg10 rg11
            go_upto_region 17 with fail
            try rw [hw2]
            clear hw2
            go_upto_region 18 with fail
            have bY : Below wX.heap.size wX (wX.alloc (.cells #[.int .i64 3, .int .i64 cl, .int .i64 0] 27)) := (Below.refl _ _).alloc (Nat.le_refl _) _
            have HNY : Hid (NB R ⟨iss, acq, cur', am, st, rsn, cl, bk, fee, cop, sta, due⟩ (wX.alloc (.cells #[.int .i64 3, .int .i64 cl, .int .i64 0] 27))) := HNW2.out.below bY
            have ay := AB.new wX ⟨3, cl, 0⟩ 27
            simp only at ay
            have HAY : Hid (AB wX.heap.size ⟨3, cl, 0⟩ (wX.alloc (.cells #[.int .i64 3, .int .i64 cl, .int .i64 0] 27))) := ay
            have HBY : Hid (Below u1.heap.size u1 (wX.alloc (.cells #[.int .i64 3, .int .i64 cl, .int .i64 0] 27))) := HBW2.out.trans (bY.mono HBW2.out.size)
            have HRS : Hid (R < wX.heap.size) := HNW2.out.cb.lt
            have HUS : Hid (u1.heap.size ≤ wX.heap.size) := HBW2.out.size
            clear bY ay rg0 rg1 rg2 rg3 rg4 rg5 rg6 rg7 rg8 rg9 rg10 rg11 HNW2 HBW2 HBL2 HNW HBW HNW1 HBW1
            generalize wX.alloc (.cells #[.int .i64 3, .int .i64 cl, .int .i64 0] 27) = wY at HNY HAY HBY ⊢
            generalize wX.heap.size = hS at HAY HRS HUS ⊢
            obtain ⟨rg0, rg1, rg2, rg3, rg4, rg5, rg6, rg7, rg8, rg9, rg10, rg11⟩ := HNY.out.cb
            obtain ⟨s0, s1, s2, z0', z1', z2'⟩ := HAY.out
            simp only [Nat.zero_add] at rg0 rg1 rg2 rg3 rg4 rg5 rg6 rg7 rg8 rg9 rg10 rg11
            simp only at s0 s1 s2
            rcases HSTC.out with hs | hs | hs | hs | hs
            · have hts := HTS2.out (by omega)
              subst hs
              simp [stepKind] at hts
              obtain ⟨vt1, vt2⟩ := hts
              clear HTS2 HSTC
              have VT : Hid _ := And.intro vt1 vt2
              clear vt1 vt2
              go_upto_region 26 with fail
              have gs := grown_set wY hS 0 (.int .i64 1)
              have HNW3 : Hid (NB R ⟨iss, acq, cur', am, 1, rsn, cl, bk, fee, cop, sta, due⟩ (wY.setCell ⟨hS, 0, none⟩ (.int .i64 1))) := ⟨HNY.out.cb.grown gs (by have := HRS.out; simp; omega), HNY.out.fz.grown HNY.out.cb.lt gs (by have := HRS.out; simp; omega)⟩
              have HAW3 : Hid (AB hS ⟨1, cl, 0⟩ (wY.setCell ⟨hS, 0, none⟩ (.int .i64 1))) := HAY.out.set0 1
              have HBW3 : Hid (Below u1.heap.size u1 (wY.setCell ⟨hS, 0, none⟩ (.int .i64 1))) := HBY.out.setCell HUS.out _
              clear gs rg0 rg1 rg2 rg3 rg4 rg5 rg6 rg7 rg8 rg9 rg10 rg11 s0 s1 s2 z0' z1' z2'
              generalize wY.setCell ⟨hS, 0, none⟩ (.int .i64 1) = wZ at HNW3 HAW3 HBW3 ⊢
              obtain ⟨rg0, rg1, rg2, rg3, rg4, rg5, rg6, rg7, rg8, rg9, rg10, rg11⟩ := HNW3.out.cb
              obtain ⟨s0, s1, s2, -, -, -⟩ := HAW3.out
              simp only [Nat.zero_add] at rg0 rg1 rg2 rg3 rg4 rg5 rg6 rg7 rg8 rg9 rg10 rg11
              simp only at s0 s1 s2
              clear HNY HAY HBY
              have p4 := HPD.out 1 cl 0 (due)
              rw [VT.out.1] at p4
              generalize doC ⟨iss, acq, cur', am, 1, rsn, cl, bk, fee, cop, sta, due⟩ ⟨1, cl, 0⟩ (due) offS = D4 at p4
              generalize doE ⟨iss, acq, cur', am, 1, rsn, cl, bk, fee, cop, sta, due⟩ ⟨1, cl, 0⟩ (due) offS = E4 at p4
              obtain ⟨m4_0, m4_1, m4_2, m4_3, m4_4, m4_5, m4_6, m4_7, m4_8, m4_9, m4_10, m4_11⟩ := D4
              unfold cv at p4
              simp only at p4
              go_wp2_with fail
              refine (p4 _ HBW3.out).mono ?_
              rintro e wA4 ⟨eo4, ec4, rfl, -, bA4⟩
              simp only [cv]
              have bx4 : Below wA4.heap.size wA4 (wA4.alloc (.cells #[.int .i64 m4_0, .int .i64 m4_1, .int .i64 m4_2, .int .i64 m4_3, .int .i64 m4_4, .int .i64 m4_5, .int .i64 m4_6, .int .i64 m4_7, .int .i64 m4_8, .bool m4_9, .int .i64 m4_10, .int .i64 m4_11] 25)) := (Below.refl _ _).alloc (Nat.le_refl _) _
              have HNW4 : Hid (NB R ⟨iss, acq, cur', am, 1, rsn, cl, bk, fee, cop, sta, due⟩ (wA4.alloc (.cells #[.int .i64 m4_0, .int .i64 m4_1, .int .i64 m4_2, .int .i64 m4_3, .int .i64 m4_4, .int .i64 m4_5, .int .i64 m4_6, .int .i64 m4_7, .int .i64 m4_8, .bool m4_9, .int .i64 m4_10, .int .i64 m4_11] 25))) := (HNW3.out.below bA4).below bx4
              have HAW4 : Hid (AB hS ⟨1, cl, 0⟩ (wA4.alloc (.cells #[.int .i64 m4_0, .int .i64 m4_1, .int .i64 m4_2, .int .i64 m4_3, .int .i64 m4_4, .int .i64 m4_5, .int .i64 m4_6, .int .i64 m4_7, .int .i64 m4_8, .bool m4_9, .int .i64 m4_10, .int .i64 m4_11] 25))) := (HAW3.out.below bA4).below bx4
              have HBW4 : Hid (Below u1.heap.size u1 (wA4.alloc (.cells #[.int .i64 m4_0, .int .i64 m4_1, .int .i64 m4_2, .int .i64 m4_3, .int .i64 m4_4, .int .i64 m4_5, .int .i64 m4_6, .int .i64 m4_7, .int .i64 m4_8, .bool m4_9, .int .i64 m4_10, .int .i64 m4_11] 25))) := (HBW3.out.trans (bA4.mono HBW3.out.size)).trans (bx4.mono (Nat.le_trans HBW3.out.size bA4.size))
              clear p4 rg0 rg1 rg2 rg3 rg4 rg5 rg6 rg7 rg8 rg9 rg10 rg11 s0 s1 s2 bx4
              obtain ⟨rg0, rg1, rg2, rg3, rg4, rg5, rg6, rg7, rg8, rg9, rg10, rg11⟩ := HNW4.out.cb
              obtain ⟨s0, s1, s2, -, -, -⟩ := HAW4.out
              simp only [Nat.zero_add] at rg0 rg1 rg2 rg3 rg4 rg5 rg6 rg7 rg8 rg9 rg10 rg11
              simp only at s0 s1 s2
              have p5 := HPD.out 1 cl 0 (due + 1)
              rw [VT.out.2] at p5
              generalize doC ⟨iss, acq, cur', am, 1, rsn, cl, bk, fee, cop, sta, due⟩ ⟨1, cl, 0⟩ (due + 1) offS = D5 at p5
              generalize doE ⟨iss, acq, cur', am, 1, rsn, cl, bk, fee, cop, sta, due⟩ ⟨1, cl, 0⟩ (due + 1) offS = E5 at p5
              obtain ⟨m5_0, m5_1, m5_2, m5_3, m5_4, m5_5, m5_6, m5_7, m5_8, m5_9, m5_10, m5_11⟩ := D5
              unfold cv at p5
              simp only at p5
              go_wp2_with fail
              refine (p5 _ HBW4.out).mono ?_
              rintro e wA5 ⟨eo5, ec5, rfl, -, bA5⟩
              simp only [cv]
              have bx5 : Below wA5.heap.size wA5 (wA5.alloc (.cells #[.int .i64 m5_0, .int .i64 m5_1, .int .i64 m5_2, .int .i64 m5_3, .int .i64 m5_4, .int .i64 m5_5, .int .i64 m5_6, .int .i64 m5_7, .int .i64 m5_8, .bool m5_9, .int .i64 m5_10, .int .i64 m5_11] 25)) := (Below.refl _ _).alloc (Nat.le_refl _) _
              have HNW5 : Hid (NB R ⟨iss, acq, cur', am, 1, rsn, cl, bk, fee, cop, sta, due⟩ (wA5.alloc (.cells #[.int .i64 m5_0, .int .i64 m5_1, .int .i64 m5_2, .int .i64 m5_3, .int .i64 m5_4, .int .i64 m5_5, .int .i64 m5_6, .int .i64 m5_7, .int .i64 m5_8, .bool m5_9, .int .i64 m5_10, .int .i64 m5_11] 25))) := (HNW4.out.below bA5).below bx5
              have HAW5 : Hid (AB hS ⟨1, cl, 0⟩ (wA5.alloc (.cells #[.int .i64 m5_0, .int .i64 m5_1, .int .i64 m5_2, .int .i64 m5_3, .int .i64 m5_4, .int .i64 m5_5, .int .i64 m5_6, .int .i64 m5_7, .int .i64 m5_8, .bool m5_9, .int .i64 m5_10, .int .i64 m5_11] 25))) := (HAW4.out.below bA5).below bx5
              have HBW5 : Hid (Below u1.heap.size u1 (wA5.alloc (.cells #[.int .i64 m5_0, .int .i64 m5_1, .int .i64 m5_2, .int .i64 m5_3, .int .i64 m5_4, .int .i64 m5_5, .int .i64 m5_6, .int .i64 m5_7, .int .i64 m5_8, .bool m5_9, .int .i64 m5_10, .int .i64 m5_11] 25))) := (HBW4.out.trans (bA5.mono HBW4.out.size)).trans (bx5.mono (Nat.le_trans HBW4.out.size bA5.size))
              clear p5 rg0 rg1 rg2 rg3 rg4 rg5 rg6 rg7 rg8 rg9 rg10 rg11 s0 s1 s2 bx5
              obtain ⟨rg0, rg1, rg2, rg3, rg4, rg5, rg6, rg7, rg8, rg9, rg10, rg11⟩ := HNW5.out.cb
              obtain ⟨s0, s1, s2, -, -, -⟩ := HAW5.out
              simp only [Nat.zero_add] at rg0 rg1 rg2 rg3 rg4 rg5 rg6 rg7 rg8 rg9 rg10 rg11
              simp only at s0 s1 s2
              have HBF : Hid _ := HB1.out.trans (HBW5.out.mono HB1.out.size)
              clear rg0 rg1 rg2 rg3 rg4 rg5 rg6 rg7 rg8 rg9 rg10 rg11 s0 s1 s2 HPD VT
              go_wp2
              go_ret
              exact ⟨rfl, HBF.out⟩
            · have hts := HTS2.out (by omega)
              subst hs
              simp [stepKind] at hts
              obtain ⟨vt1, vt2⟩ := hts
              clear HTS2 HSTC
              have VT : Hid _ := And.intro vt1 vt2
              clear vt1 vt2
              go_upto_region 26 with fail
              have HNW3 : Hid (NB R ⟨iss, acq, cur', am, 3, rsn, cl, bk, fee, cop, sta, due⟩ wY) := HNY.out
              have HAW3 : Hid (AB hS ⟨3, cl, 0⟩ wY) := HAY.out
              have HBW3 : Hid (Below u1.heap.size u1 wY) := HBY.out
              clear HNY HAY HBY
              have p4 := HPD.out 3 cl 0 (due)
              rw [VT.out.1] at p4
              generalize doC ⟨iss, acq, cur', am, 3, rsn, cl, bk, fee, cop, sta, due⟩ ⟨3, cl, 0⟩ (due) offS = D4 at p4
              generalize doE ⟨iss, acq, cur', am, 3, rsn, cl, bk, fee, cop, sta, due⟩ ⟨3, cl, 0⟩ (due) offS = E4 at p4
              obtain ⟨m4_0, m4_1, m4_2, m4_3, m4_4, m4_5, m4_6, m4_7, m4_8, m4_9, m4_10, m4_11⟩ := D4
              unfold cv at p4
              simp only at p4
              go_wp2_with fail
              refine (p4 _ HBW3.out).mono ?_
              rintro e wA4 ⟨eo4, ec4, rfl, -, bA4⟩
              simp only [cv]
              have bx4 : Below wA4.heap.size wA4 (wA4.alloc (.cells #[.int .i64 m4_0, .int .i64 m4_1, .int .i64 m4_2, .int .i64 m4_3, .int .i64 m4_4, .int .i64 m4_5, .int .i64 m4_6, .int .i64 m4_7, .int .i64 m4_8, .bool m4_9, .int .i64 m4_10, .int .i64 m4_11] 25)) := (Below.refl _ _).alloc (Nat.le_refl _) _
              have HNW4 : Hid (NB R ⟨iss, acq, cur', am, 3, rsn, cl, bk, fee, cop, sta, due⟩ (wA4.alloc (.cells #[.int .i64 m4_0, .int .i64 m4_1, .int .i64 m4_2, .int .i64 m4_3, .int .i64 m4_4, .int .i64 m4_5, .int .i64 m4_6, .int .i64 m4_7, .int .i64 m4_8, .bool m4_9, .int .i64 m4_10, .int .i64 m4_11] 25))) := (HNW3.out.below bA4).below bx4
              have HAW4 : Hid (AB hS ⟨3, cl, 0⟩ (wA4.alloc (.cells #[.int .i64 m4_0, .int .i64 m4_1, .int .i64 m4_2, .int .i64 m4_3, .int .i64 m4_4, .int .i64 m4_5, .int .i64 m4_6, .int .i64 m4_7, .int .i64 m4_8, .bool m4_9, .int .i64 m4_10, .int .i64 m4_11] 25))) := (HAW3.out.below bA4).below bx4
              have HBW4 : Hid (Below u1.heap.size u1 (wA4.alloc (.cells #[.int .i64 m4_0, .int .i64 m4_1, .int .i64 m4_2, .int .i64 m4_3, .int .i64 m4_4, .int .i64 m4_5, .int .i64 m4_6, .int .i64 m4_7, .int .i64 m4_8, .bool m4_9, .int .i64 m4_10, .int .i64 m4_11] 25))) := (HBW3.out.trans (bA4.mono HBW3.out.size)).trans (bx4.mono (Nat.le_trans HBW3.out.size bA4.size))
              clear p4 rg0 rg1 rg2 rg3 rg4 rg5 rg6 rg7 rg8 rg9 rg10 rg11 s0 s1 s2 bx4
              obtain ⟨rg0, rg1, rg2, rg3, rg4, rg5, rg6, rg7, rg8, rg9, rg10, rg11⟩ := HNW4.out.cb
              obtain ⟨s0, s1, s2, -, -, -⟩ := HAW4.out
              simp only [Nat.zero_add] at rg0 rg1 rg2 rg3 rg4 rg5 rg6 rg7 rg8 rg9 rg10 rg11
              simp only at s0 s1 s2
              have p5 := HPD.out 3 cl 0 (due + 1)
              rw [VT.out.2] at p5
              generalize doC ⟨iss, acq, cur', am, 3, rsn, cl, bk, fee, cop, sta, due⟩ ⟨3, cl, 0⟩ (due + 1) offS = D5 at p5
              generalize doE ⟨iss, acq, cur', am, 3, rsn, cl, bk, fee, cop, sta, due⟩ ⟨3, cl, 0⟩ (due + 1) offS = E5 at p5
              obtain ⟨m5_0, m5_1, m5_2, m5_3, m5_4, m5_5, m5_6, m5_7, m5_8, m5_9, m5_10, m5_11⟩ := D5
              unfold cv at p5
              simp only at p5
              go_wp2_with fail
              refine (p5 _ HBW4.out).mono ?_
              rintro e wA5 ⟨eo5, ec5, rfl, -, bA5⟩
              simp only [cv]
              have bx5 : Below wA5.heap.size wA5 (wA5.alloc (.cells #[.int .i64 m5_0, .int .i64 m5_1, .int .i64 m5_2, .int .i64 m5_3, .int .i64 m5_4, .int .i64 m5_5, .int .i64 m5_6, .int .i64 m5_7, .int .i64 m5_8, .bool m5_9, .int .i64 m5_10, .int .i64 m5_11] 25)) := (Below.refl _ _).alloc (Nat.le_refl _) _
              have HNW5 : Hid (NB R ⟨iss, acq, cur', am, 3, rsn, cl, bk, fee, cop, sta, due⟩ (wA5.alloc (.cells #[.int .i64 m5_0, .int .i64 m5_1, .int .i64 m5_2, .int .i64 m5_3, .int .i64 m5_4, .int .i64 m5_5, .int .i64 m5_6, .int .i64 m5_7, .int .i64 m5_8, .bool m5_9, .int .i64 m5_10, .int .i64 m5_11] 25))) := (HNW4.out.below bA5).below bx5
              have HAW5 : Hid (AB hS ⟨3, cl, 0⟩ (wA5.alloc (.cells #[.int .i64 m5_0, .int .i64 m5_1, .int .i64 m5_2, .int .i64 m5_3, .int .i64 m5_4, .int .i64 m5_5, .int .i64 m5_6, .int .i64 m5_7, .int .i64 m5_8, .bool m5_9, .int .i64 m5_10, .int .i64 m5_11] 25))) := (HAW4.out.below bA5).below bx5
              have HBW5 : Hid (Below u1.heap.size u1 (wA5.alloc (.cells #[.int .i64 m5_0, .int .i64 m5_1, .int .i64 m5_2, .int .i64 m5_3, .int .i64 m5_4, .int .i64 m5_5, .int .i64 m5_6, .int .i64 m5_7, .int .i64 m5_8, .bool m5_9, .int .i64 m5_10, .int .i64 m5_11] 25))) := (HBW4.out.trans (bA5.mono HBW4.out.size)).trans (bx5.mono (Nat.le_trans HBW4.out.size bA5.size))
              clear p5 rg0 rg1 rg2 rg3 rg4 rg5 rg6 rg7 rg8 rg9 rg10 rg11 s0 s1 s2 bx5
              obtain ⟨rg0, rg1, rg2, rg3, rg4, rg5, rg6, rg7, rg8, rg9, rg10, rg11⟩ := HNW5.out.cb
              obtain ⟨s0, s1, s2, -, -, -⟩ := HAW5.out
              simp only [Nat.zero_add] at rg0 rg1 rg2 rg3 rg4 rg5 rg6 rg7 rg8 rg9 rg10 rg11
              simp only at s0 s1 s2
              have HBF : Hid _ := HB1.out.trans (HBW5.out.mono HB1.out.size)
              clear rg0 rg1 rg2 rg3 rg4 rg5 rg6 rg7 rg8 rg9 rg10 rg11 s0 s1 s2 HPD VT
              go_wp2
              go_ret
              exact ⟨rfl, HBF.out⟩
            · have hts := HTS2.out (by omega)
              subst hs
              simp [stepKind] at hts
              obtain ⟨vt1, vt2⟩ := hts
              clear HTS2 HSTC
              have VT : Hid _ := And.intro vt1 vt2
              clear vt1 vt2
              go_upto_region 26 with fail
              have gs := grown_set wY hS 0 (.int .i64 4)
              have HNW3 : Hid (NB R ⟨iss, acq, cur', am, 4, rsn, cl, bk, fee, cop, sta, due⟩ (wY.setCell ⟨hS, 0, none⟩ (.int .i64 4))) := ⟨HNY.out.cb.grown gs (by have := HRS.out; simp; omega), HNY.out.fz.grown HNY.out.cb.lt gs (by have := HRS.out; simp; omega)⟩
              have HAW3 : Hid (AB hS ⟨4, cl, 0⟩ (wY.setCell ⟨hS, 0, none⟩ (.int .i64 4))) := HAY.out.set0 4
              have HBW3 : Hid (Below u1.heap.size u1 (wY.setCell ⟨hS, 0, none⟩ (.int .i64 4))) := HBY.out.setCell HUS.out _
              clear gs rg0 rg1 rg2 rg3 rg4 rg5 rg6 rg7 rg8 rg9 rg10 rg11 s0 s1 s2 z0' z1' z2'
              generalize wY.setCell ⟨hS, 0, none⟩ (.int .i64 4) = wZ at HNW3 HAW3 HBW3 ⊢
              obtain ⟨rg0, rg1, rg2, rg3, rg4, rg5, rg6, rg7, rg8, rg9, rg10, rg11⟩ := HNW3.out.cb
              obtain ⟨s0, s1, s2, -, -, -⟩ := HAW3.out
              simp only [Nat.zero_add] at rg0 rg1 rg2 rg3 rg4 rg5 rg6 rg7 rg8 rg9 rg10 rg11
              simp only at s0 s1 s2
              clear HNY HAY HBY
              have p4 := HPD.out 4 cl 0 (due)
              rw [VT.out.1] at p4
              generalize doC ⟨iss, acq, cur', am, 4, rsn, cl, bk, fee, cop, sta, due⟩ ⟨4, cl, 0⟩ (due) offS = D4 at p4
              generalize doE ⟨iss, acq, cur', am, 4, rsn, cl, bk, fee, cop, sta, due⟩ ⟨4, cl, 0⟩ (due) offS = E4 at p4
              obtain ⟨m4_0, m4_1, m4_2, m4_3, m4_4, m4_5, m4_6, m4_7, m4_8, m4_9, m4_10, m4_11⟩ := D4
              unfold cv at p4
              simp only at p4
              go_wp2_with fail
              refine (p4 _ HBW3.out).mono ?_
              rintro e wA4 ⟨eo4, ec4, rfl, -, bA4⟩
              simp only [cv]
              have bx4 : Below wA4.heap.size wA4 (wA4.alloc (.cells #[.int .i64 m4_0, .int .i64 m4_1, .int .i64 m4_2, .int .i64 m4_3, .int .i64 m4_4, .int .i64 m4_5, .int .i64 m4_6, .int .i64 m4_7, .int .i64 m4_8, .bool m4_9, .int .i64 m4_10, .int .i64 m4_11] 25)) := (Below.refl _ _).alloc (Nat.le_refl _) _
              have HNW4 : Hid (NB R ⟨iss, acq, cur', am, 4, rsn, cl, bk, fee, cop, sta, due⟩ (wA4.alloc (.cells #[.int .i64 m4_0, .int .i64 m4_1, .int .i64 m4_2, .int .i64 m4_3, .int .i64 m4_4, .int .i64 m4_5, .int .i64 m4_6, .int .i64 m4_7, .int .i64 m4_8, .bool m4_9, .int .i64 m4_10, .int .i64 m4_11] 25))) := (HNW3.out.below bA4).below bx4
              have HAW4 : Hid (AB hS ⟨4, cl, 0⟩ (wA4.alloc (.cells #[.int .i64 m4_0, .int .i64 m4_1, .int .i64 m4_2, .int .i64 m4_3, .int .i64 m4_4, .int .i64 m4_5, .int .i64 m4_6, .int .i64 m4_7, .int .i64 m4_8, .bool m4_9, .int .i64 m4_10, .int .i64 m4_11] 25))) := (HAW3.out.below bA4).below bx4
              have HBW4 : Hid (Below u1.heap.size u1 (wA4.alloc (.cells #[.int .i64 m4_0, .int .i64 m4_1, .int .i64 m4_2, .int .i64 m4_3, .int .i64 m4_4, .int .i64 m4_5, .int .i64 m4_6, .int .i64 m4_7, .int .i64 m4_8, .bool m4_9, .int .i64 m4_10, .int .i64 m4_11] 25))) := (HBW3.out.trans (bA4.mono HBW3.out.size)).trans (bx4.mono (Nat.le_trans HBW3.out.size bA4.size))
              clear p4 rg0 rg1 rg2 rg3 rg4 rg5 rg6 rg7 rg8 rg9 rg10 rg11 s0 s1 s2 bx4
              obtain ⟨rg0, rg1, rg2, rg3, rg4, rg5, rg6, rg7, rg8, rg9, rg10, rg11⟩ := HNW4.out.cb
              obtain ⟨s0, s1, s2, -, -, -⟩ := HAW4.out
              simp only [Nat.zero_add] at rg0 rg1 rg2 rg3 rg4 rg5 rg6 rg7 rg8 rg9 rg10 rg11
              simp only at s0 s1 s2
              have p5 := HPD.out 4 cl 0 (due + 1)
              rw [VT.out.2] at p5
              generalize doC ⟨iss, acq, cur', am, 4, rsn, cl, bk, fee, cop, sta, due⟩ ⟨4, cl, 0⟩ (due + 1) offS = D5 at p5
              generalize doE ⟨iss, acq, cur', am, 4, rsn, cl, bk, fee, cop, sta, due⟩ ⟨4, cl, 0⟩ (due + 1) offS = E5 at p5
              obtain ⟨m5_0, m5_1, m5_2, m5_3, m5_4, m5_5, m5_6, m5_7, m5_8, m5_9, m5_10, m5_11⟩ := D5
              unfold cv at p5
              simp only at p5
              go_wp2_with fail
              refine (p5 _ HBW4.out).mono ?_
              rintro e wA5 ⟨eo5, ec5, rfl, -, bA5⟩
              simp only [cv]
              have bx5 : Below wA5.heap.size wA5 (wA5.alloc (.cells #[.int .i64 m5_0, .int .i64 m5_1, .int .i64 m5_2, .int .i64 m5_3, .int .i64 m5_4, .int .i64 m5_5, .int .i64 m5_6, .int .i64 m5_7, .int .i64 m5_8, .bool m5_9, .int .i64 m5_10, .int .i64 m5_11] 25)) := (Below.refl _ _).alloc (Nat.le_refl _) _
              have HNW5 : Hid (NB R ⟨iss, acq, cur', am, 4, rsn, cl, bk, fee, cop, sta, due⟩ (wA5.alloc (.cells #[.int .i64 m5_0, .int .i64 m5_1, .int .i64 m5_2, .int .i64 m5_3, .int .i64 m5_4, .int .i64 m5_5, .int .i64 m5_6, .int .i64 m5_7, .int .i64 m5_8, .bool m5_9, .int .i64 m5_10, .int .i64 m5_11] 25))) := (HNW4.out.below bA5).below bx5
              have HAW5 : Hid (AB hS ⟨4, cl, 0⟩ (wA5.alloc (.cells #[.int .i64 m5_0, .int .i64 m5_1, .int .i64 m5_2, .int .i64 m5_3, .int .i64 m5_4, .int .i64 m5_5, .int .i64 m5_6, .int .i64 m5_7, .int .i64 m5_8, .bool m5_9, .int .i64 m5_10, .int .i64 m5_11] 25))) := (HAW4.out.below bA5).below bx5
              have HBW5 : Hid (Below u1.heap.size u1 (wA5.alloc (.cells #[.int .i64 m5_0, .int .i64 m5_1, .int .i64 m5_2, .int .i64 m5_3, .int .i64 m5_4, .int .i64 m5_5, .int .i64 m5_6, .int .i64 m5_7, .int .i64 m5_8, .bool m5_9, .int .i64 m5_10, .int .i64 m5_11] 25))) := (HBW4.out.trans (bA5.mono HBW4.out.size)).trans (bx5.mono (Nat.le_trans HBW4.out.size bA5.size))
              clear p5 rg0 rg1 rg2 rg3 rg4 rg5 rg6 rg7 rg8 rg9 rg10 rg11 s0 s1 s2 bx5
              obtain ⟨rg0, rg1, rg2, rg3, rg4, rg5, rg6, rg7, rg8, rg9, rg10, rg11⟩ := HNW5.out.cb
              obtain ⟨s0, s1, s2, -, -, -⟩ := HAW5.out
              simp only [Nat.zero_add] at rg0 rg1 rg2 rg3 rg4 rg5 rg6 rg7 rg8 rg9 rg10 rg11
              simp only at s0 s1 s2
              have HBF : Hid _ := HB1.out.trans (HBW5.out.mono HB1.out.size)
              clear rg0 rg1 rg2 rg3 rg4 rg5 rg6 rg7 rg8 rg9 rg10 rg11 s0 s1 s2 HPD VT
              go_wp2
              go_ret
              exact ⟨rfl, HBF.out⟩
            · have hts := HTS2.out (by omega)
              subst hs
              simp [stepKind] at hts
              obtain ⟨vt1, vt2⟩ := hts
              clear HTS2 HSTC
              have VT : Hid _ := And.intro vt1 vt2
              clear vt1 vt2
              go_upto_region 26 with fail
              have gs := grown_set wY hS 0 (.int .i64 6)
              have HNW3 : Hid (NB R ⟨iss, acq, cur', am, 5, rsn, cl, bk, fee, cop, sta, due⟩ (wY.setCell ⟨hS, 0, none⟩ (.int .i64 6))) := ⟨HNY.out.cb.grown gs (by have := HRS.out; simp; omega), HNY.out.fz.grown HNY.out.cb.lt gs (by have := HRS.out; simp; omega)⟩
              have HAW3 : Hid (AB hS ⟨6, cl, 0⟩ (wY.setCell ⟨hS, 0, none⟩ (.int .i64 6))) := HAY.out.set0 6
              have HBW3 : Hid (Below u1.heap.size u1 (wY.setCell ⟨hS, 0, none⟩ (.int .i64 6))) := HBY.out.setCell HUS.out _
              clear gs rg0 rg1 rg2 rg3 rg4 rg5 rg6 rg7 rg8 rg9 rg10 rg11 s0 s1 s2 z0' z1' z2'
              generalize wY.setCell ⟨hS, 0, none⟩ (.int .i64 6) = wZ at HNW3 HAW3 HBW3 ⊢
              obtain ⟨rg0, rg1, rg2, rg3, rg4, rg5, rg6, rg7, rg8, rg9, rg10, rg11⟩ := HNW3.out.cb
              obtain ⟨s0, s1, s2, -, -, -⟩ := HAW3.out
              simp only [Nat.zero_add] at rg0 rg1 rg2 rg3 rg4 rg5 rg6 rg7 rg8 rg9 rg10 rg11
              simp only at s0 s1 s2
              clear HNY HAY HBY
              have p4 := HPD.out 6 cl 0 (due)
              rw [VT.out.1] at p4
              generalize doC ⟨iss, acq, cur', am, 5, rsn, cl, bk, fee, cop, sta, due⟩ ⟨6, cl, 0⟩ (due) offS = D4 at p4
              generalize doE ⟨iss, acq, cur', am, 5, rsn, cl, bk, fee, cop, sta, due⟩ ⟨6, cl, 0⟩ (due) offS = E4 at p4
              obtain ⟨m4_0, m4_1, m4_2, m4_3, m4_4, m4_5, m4_6, m4_7, m4_8, m4_9, m4_10, m4_11⟩ := D4
              unfold cv at p4
              simp only at p4
              go_wp2_with fail
              refine (p4 _ HBW3.out).mono ?_
              rintro e wA4 ⟨eo4, ec4, rfl, -, bA4⟩
              simp only [cv]
              have bx4 : Below wA4.heap.size wA4 (wA4.alloc (.cells #[.int .i64 m4_0, .int .i64 m4_1, .int .i64 m4_2, .int .i64 m4_3, .int .i64 m4_4, .int .i64 m4_5, .int .i64 m4_6, .int .i64 m4_7, .int .i64 m4_8, .bool m4_9, .int .i64 m4_10, .int .i64 m4_11] 25)) := (Below.refl _ _).alloc (Nat.le_refl _) _
              have HNW4 : Hid (NB R ⟨iss, acq, cur', am, 5, rsn, cl, bk, fee, cop, sta, due⟩ (wA4.alloc (.cells #[.int .i64 m4_0, .int .i64 m4_1, .int .i64 m4_2, .int .i64 m4_3, .int .i64 m4_4, .int .i64 m4_5, .int .i64 m4_6, .int .i64 m4_7, .int .i64 m4_8, .bool m4_9, .int .i64 m4_10, .int .i64 m4_11] 25))) := (HNW3.out.below bA4).below bx4
              have HAW4 : Hid (AB hS ⟨6, cl, 0⟩ (wA4.alloc (.cells #[.int .i64 m4_0, .int .i64 m4_1, .int .i64 m4_2, .int .i64 m4_3, .int .i64 m4_4, .int .i64 m4_5, .int .i64 m4_6, .int .i64 m4_7, .int .i64 m4_8, .bool m4_9, .int .i64 m4_10, .int .i64 m4_11] 25))) := (HAW3.out.below bA4).below bx4
              have HBW4 : Hid (Below u1.heap.size u1 (wA4.alloc (.cells #[.int .i64 m4_0, .int .i64 m4_1, .int .i64 m4_2, .int .i64 m4_3, .int .i64 m4_4, .int .i64 m4_5, .int .i64 m4_6, .int .i64 m4_7, .int .i64 m4_8, .bool m4_9, .int .i64 m4_10, .int .i64 m4_11] 25))) := (HBW3.out.trans (bA4.mono HBW3.out.size)).trans (bx4.mono (Nat.le_trans HBW3.out.size bA4.size))
              clear p4 rg0 rg1 rg2 rg3 rg4 rg5 rg6 rg7 rg8 rg9 rg10 rg11 s0 s1 s2 bx4
              obtain ⟨rg0, rg1, rg2, rg3, rg4, rg5, rg6, rg7, rg8, rg9, rg10, rg11⟩ := HNW4.out.cb
              obtain ⟨s0, s1, s2, -, -, -⟩ := HAW4.out
              simp only [Nat.zero_add] at rg0 rg1 rg2 rg3 rg4 rg5 rg6 rg7 rg8 rg9 rg10 rg11
              simp only at s0 s1 s2
              have p5 := HPD.out 6 cl 0 (due + 1)
              rw [VT.out.2] at p5
              generalize doC ⟨iss, acq, cur', am, 5, rsn, cl, bk, fee, cop, sta, due⟩ ⟨6, cl, 0⟩ (due + 1) offS = D5 at p5
              generalize doE ⟨iss, acq, cur', am, 5, rsn, cl, bk, fee, cop, sta, due⟩ ⟨6, cl, 0⟩ (due + 1) offS = E5 at p5
              obtain ⟨m5_0, m5_1, m5_2, m5_3, m5_4, m5_5, m5_6, m5_7, m5_8, m5_9, m5_10, m5_11⟩ := D5
              unfold cv at p5
              simp only at p5
              go_wp2_with fail
              refine (p5 _ HBW4.out).mono ?_
              rintro e wA5 ⟨eo5, ec5, rfl, -, bA5⟩
              simp only [cv]
              have bx5 : Below wA5.heap.size wA5 (wA5.alloc (.cells #[.int .i64 m5_0, .int .i64 m5_1, .int .i64 m5_2, .int .i64 m5_3, .int .i64 m5_4, .int .i64 m5_5, .int .i64 m5_6, .int .i64 m5_7, .int .i64 m5_8, .bool m5_9, .int .i64 m5_10, .int .i64 m5_11] 25)) := (Below.refl _ _).alloc (Nat.le_refl _) _
              have HNW5 : Hid (NB R ⟨iss, acq, cur', am, 5, rsn, cl, bk, fee, cop, sta, due⟩ (wA5.alloc (.cells #[.int .i64 m5_0, .int .i64 m5_1, .int .i64 m5_2, .int .i64 m5_3, .int .i64 m5_4, .int .i64 m5_5, .int .i64 m5_6, .int .i64 m5_7, .int .i64 m5_8, .bool m5_9, .int .i64 m5_10, .int .i64 m5_11] 25))) := (HNW4.out.below bA5).below bx5
              have HAW5 : Hid (AB hS ⟨6, cl, 0⟩ (wA5.alloc (.cells #[.int .i64 m5_0, .int .i64 m5_1, .int .i64 m5_2, .int .i64 m5_3, .int .i64 m5_4, .int .i64 m5_5, .int .i64 m5_6, .int .i64 m5_7, .int .i64 m5_8, .bool m5_9, .int .i64 m5_10, .int .i64 m5_11] 25))) := (HAW4.out.below bA5).below bx5
              have HBW5 : Hid (Below u1.heap.size u1 (wA5.alloc (.cells #[.int .i64 m5_0, .int .i64 m5_1, .int .i64 m5_2, .int .i64 m5_3, .int .i64 m5_4, .int .i64 m5_5, .int .i64 m5_6, .int .i64 m5_7, .int .i64 m5_8, .bool m5_9, .int .i64 m5_10, .int .i64 m5_11] 25))) := (HBW4.out.trans (bA5.mono HBW4.out.size)).trans (bx5.mono (Nat.le_trans HBW4.out.size bA5.size))
              clear p5 rg0 rg1 rg2 rg3 rg4 rg5 rg6 rg7 rg8 rg9 rg10 rg11 s0 s1 s2 bx5
              obtain ⟨rg0, rg1, rg2, rg3, rg4, rg5, rg6, rg7, rg8, rg9, rg10, rg11⟩ := HNW5.out.cb
              obtain ⟨s0, s1, s2, -, -, -⟩ := HAW5.out
              simp only [Nat.zero_add] at rg0 rg1 rg2 rg3 rg4 rg5 rg6 rg7 rg8 rg9 rg10 rg11
              simp only at s0 s1 s2
              have HBF : Hid _ := HB1.out.trans (HBW5.out.mono HB1.out.size)
              clear rg0 rg1 rg2 rg3 rg4 rg5 rg6 rg7 rg8 rg9 rg10 rg11 s0 s1 s2 HPD VT
              go_wp2
              go_ret
              exact ⟨rfl, HBF.out⟩
            · subst hs
              clear HTS2 HSTC HPD
              have HBF : Hid (Below w.heap.size w wY) := HB1.out.trans (HBY.out.mono HB1.out.size)
              go_wp2
              go_ret
              exact ⟨rfl, HBF.out⟩

set_option maxRecDepth 100000 in
theorem lifted (os : Os) (started : os.Started) (H : Type) (enc : TypeId × Value → H) (F : Stop.Interp) :
    ReturnsInHanded {} Tryd.checked os 5 .any ((OpenSpec.ofChange Rows.fnTimesSpec).preRow enc Tryd.prog Tryd.f5 Rows.fnTimesRow.domain false Rows.fnTimesRow.laid)
      (((OpenSpec.ofChange Rows.fnTimesSpec).at F).post enc Tryd.prog Tryd.f5 false true false false) := by
  refine returnsInHanded_of_row (C := Tryd.checked) (s := OpenSpec.ofChange Rows.fnTimesSpec) own started (by kernel_rfl) Tryd.func5
    (ChangeSpec.witness_shaped (enc := enc) (C := Tryd.checked) (os := os) (X := fun w _ => laidMetH Tryd.prog Rows.fnTimesRow.laid w) false (World.laidAll Tryd.prog os Rows.fnTimesRow.laid) #[.slice none 0 0] 8 (World.laidAll_os _ _ _)
      (World.shaped_of_ZipB (by kernel_rfl) (by kernel_rfl)) (by kernel_rfl) (by kernel_rfl) (by kernel_rfl)
      (by rw [MakeChecks.laidMetH_plain _ _ _ (by kernel_rfl)]; exact laidMet_laidAll _ (by kernel_rfl) (by kernel_rfl))) ?_
  intro W base args ds gs before hval0 hW _ _ _ hL hsh _
  have hval : ∀ (j : Nat) t v, Tryd.f5.params[j]? = some t → args[j]? = some v → Value.okWide Tryd.prog W .any base t v := hval0
  have hW' := hW
  obtain ⟨p, q, hA0, hV0, rfl, _, _⟩ := hW
  have hV : DataW.TrodVars enc Tryd.prog W (fun _ => true) ["loop.example/g00126/impl.stepDays"] gs q := hV0
  have hA : DataW.TrodAll enc Tryd.prog W 0 (fun _ => true) true Tryd.f5.params.toList args.toList ds p := hA0
  rw [Tryd.params5] at hA hval
  obtain ⟨v0, vs0, d0, ds0, p0, q0, hargs, rfl, rfl, h0, r0⟩ := trodAll_cons hA
  obtain ⟨rfl, rfl, rfl⟩ := trodAll_nil r0
  obtain rfl : args = #[v0] := by cases args; simp_all
  obtain ⟨gv, tv, cs, fv, dv, pv, rfl, hgv, htv, hvar, hdv, rfl⟩ := trodVars_one hV
  obtain ⟨a0, len0, cap0, rfl⟩ := okWide_slice Tryd.underlying22 (hval 0 22 v0 rfl rfl)
  have k0 := h0
  have lt0 : ∀ x ∈ p0, x.block < W.heap.size := by obtain ⟨m, hm⟩ := k0; exact DataW.trod_lt m _ _ _ hm
  obtain ⟨z0, w0⟩ : ∃ zs, IsRow .u8 W a0 len0 cap0 zs := is_row Tryd.underlying22 Tryd.underlying5 (by kernel_rfl) h0
  clear hA0 hval0
  rw [MakeChecks.laidMetH_plain _ _ _ (by kernel_rfl)] at hL
  have HM := varTab hL
  refine (walk a0 len0 cap0 z0 W w0 hL hsh).mono fun e W' ⟨he, bel⟩ => ?_
  subst he
  exact ⟨_, rfl, _, _, _, [], _, _, hW', trodAll_mk1 (shut_bool Tryd.underlying4 _), (trodAll_cons_mk (Below.trod laidOut (by kernel_rfl) (of_decide_eq_true (by kernel_rfl)) k0 bel lt0) trodAll_mk0), step_vars hgv htv hvar hdv HM bel, bel.frame _, fun h => by cases h⟩

theorem said : Rows.FnTimesSaid :=
  OpenClaim.holds_of_cond 5 Tryd.f5 rfl rfl rfl rfl rfl rfl rfl ⟨rfl, rfl, rfl, rfl, rfl⟩ rfl rfl rfl rfl rfl (by kernel_rfl) Tryd.func5 (by kernel_rfl)
    (of_decide_eq_true (by kernel_rfl)) (by unfold Func.isWrapper; first | (rw [if_pos (by decide +kernel)]; kernel_rfl) | (rw [if_neg (by decide +kernel)]; exact ⟨rfl, rfl⟩))
    (fun os started H enc _ F => by rw [OpenClaim.pre_eq_preRow]; exact lifted os started H enc F)

theorem proved : Rows.FnTimesCardSaid :=
  Claim7.holds_tied_plain_at .later [] _ _ _ _ said (fun _ h => by cases h) (by kernel_rfl) (fun _ h => by cases h) fnTimes_row_tie rfl ⟨rfl, rfl⟩ (by kernel_rfl) rfl
    (fun f fn hf hfn => by
      obtain rfl : f = 5 := Option.some.inj ((show Tryd.prog.funcNamed "loop.example/g00126/laws.FnTimes" = some 5 by kernel_rfl).symm.trans hf) |>.symm
      obtain rfl : fn = Tryd.f5 := (Option.some.inj (Tryd.func5.symm.trans hfn)).symm
      refine ⟨by kernel_rfl, fun j t ht => ?_⟩
      rw [Tryd.params5] at ht
      have hm : t ∈ [22] := by have := Array.mem_of_getElem? ht; simp at this ⊢; first | exact this | exact this.symm | omega | (rcases this with h | h | h | h <;> simp [h])
      have hall : ([22].all fun u => !Tryd.prog.wantsStandIn u) = true := by kernel_rfl
      have h1 := List.all_eq_true.1 hall t hm
      have h2 : Tryd.prog.wantsStandIn t = false := by simpa using h1
      exact h2)
    (by kernel_rfl)
end Go.Proofs.YtenbhmmknejcjaaDoor.fnTimes
