/- Proved: for whatever bytes the draw is made of (up to 1048576; more pass by the law's own first test): over its whole life a case never gives back more than was paid, its claim never grows behind the first asking, it passes at most one ruling, and once it is closed nothing can be done; each act as the specification says. What it takes: the table of the steps' days holds what the program's text lays into it (the card ties that to the program). -/
import Derived.Test.YtenbhmmknejcjaaDoorJP90a
import Derived.Test.YtenbhmmknejcjaaDoorKP9DrawSt
import Derived.Test.YtenbhmmknejcjaaDoorJP91a
import Derived.Test.YtenbhmmknejcjaaDoorJP93a
import Derived.Test.YtenbhmmknejcjaaDoorKP9CBox
namespace Go.Proofs.YtenbhmmknejcjaaDoor.fnLife
open Go.ChangeShapes Go.WideShapes Go.ChangeAt Go.RowKit
set_option maxRecDepth 100000

theorem varTab {w : World} (h : laidMet Tryd.prog Rows.fnLifeRow.laid w) : StepTab w := step_head h
theorem clI_same {c : Cs} {m : Int} (g : ClI c m) : ClI c (clNext c m) := by
  obtain ⟨g0, g1, g2⟩ := g
  unfold clNext
  split
  · rename_i h
    have := g2 (by omega)
    exact ⟨by omega, fun h' => by omega, fun _ => rfl⟩
  · exact ⟨g0, g1, g2⟩
theorem life_step {c : Cs} {a : Ac} {t n m : Int} {zs : List Int} (h : Inv c n) (g : ClI c m) : ∃ n', Inv (doC c a t zs) n' ∧ ClI (doC c a t zs) (clNext (doC c a t zs) m) ∧ (doC c a t zs).cl ≤ m ∧ (((doC c a t zs).fee ≤ c.fee ∧ n' = n) ∨ (c.fee < (doC c a t zs).fee ∧ n' = n + 1)) ∧ ¬ (doV c a t zs = 0 ∧ c.st = 7) := by
  by_cases hv : doV c a t zs = 0
  · have h1 := inv_next h hv
    have h2 := cl_next h g hv
    rw [doC_yes hv]
    refine ⟨n + ruled c a, h1, h2.2, h2.1, ?_, fun k => closed_no k.2 k.1⟩
    obtain ⟨_, _, _, _, _, k5, _⟩ := h
    obtain ⟨_, _, _, _, _, j5, _⟩ := h1
    have hr : ruled c a = 0 ∨ ruled c a = 1 := by unfold ruled; split <;> simp
    rcases hr with hr | hr
    · left; rw [hr] at j5 ⊢; omega
    · right; rw [hr] at j5 ⊢; omega
  · rw [doC_no hv]
    exact ⟨n, h, clI_same g, cl_le h g, .inl ⟨Int.le_refl _, rfl⟩, fun k => hv k.1⟩

set_option maxHeartbeats 40000000 in
theorem walk (a0 : Option Addr) (len0 cap0 : Nat) (z0 : List Int) (w : World) (w0 : IsRow .u8 w a0 len0 cap0 z0) (hL : laidMet Tryd.prog Rows.fnLifeRow.laid w) (_hsh : w.ShapedOpen Tryd.prog) :
    Calls Tryd.prog 4 #[.slice a0 len0 cap0] w fun e w' => e = .returned (.bool true) ∧ Below w.heap.size w w' := by
  have HT : Hid (StepTab w) := varTab hL
  clear hL
  by_cases hbig : (1048576 : Int) < (len0 : Int)
  · have hdec : decide ((1048576 : Int) < (len0 : Int)) = true := decide_eq_true hbig
    clear w0
    go_enter Tryd.func4, Tryd.ntmps4
    go_wp2_with fail
    refine (big_any _ _ _ _).mono ?_
    rintro e u ⟨rfl, hu⟩
    subst hu
    rw [hdec]
    go_wp2
    go_ret
    exact ⟨rfl, Below.refl _ _⟩
  · have hdec : decide ((1048576 : Int) < (len0 : Int)) = false := decide_eq_false hbig
    have hn : len0 ≤ 1048576 := by omega
    have HR : Hid (IsRow .u8 w a0 len0 cap0 z0) := w0
    have HN : Hid (len0 ≤ 1048576) := hn
    clear w0 hbig
    go_enter Tryd.func4, Tryd.ntmps4
    go_wp2_with fail
    refine (big_any _ _ _ _).mono ?_
    rintro e u ⟨rfl, hu⟩
    replace hu := hu.symm
    subst hu
    rw [hdec]
    go_wp2_with fail
    refine (drawStory_any _ _ _ _ _ HR.out hn).mono ?_
    rintro e u1 ⟨c, az, ds, a1, a2, a3, k1, k2, k3, rfl, hst, hdl, hal, hds, hla, hid, hio, b1⟩
    obtain ⟨si, sa, sc, sm, sd, rfl, hok, hcu, hm, hdy⟩ := hst
    have HLA : Hid (LinesAt u1 a1 az) := hla
    have HID0 : Hid (IntsAt u1 a2 ds) := hid
    have HIO0 : Hid (IntsAt u1 a3 offS) := hio
    have HB1 : Hid (Below w.heap.size w u1) := b1
    have HCU : Hid (wf64 sc) := hcu
    have HDL : Hid (ds.length = az.length) := hdl
    have HT1 : Hid (StepTab u1) := tab_below HT.out b1
    have hi0 := inv_start hok
    have hc0 : ClI (startC si sa sc sm sd) sm := cl_start (by omega)
    have hcur : (startC si sa sc sm sd).cur = sc := rfl
    have hsta : (startC si sa sc sm sd).sta = sd := rfl
    have hsam : (startC si sa sc sm sd).am = sm := rfl
    clear hn hdec HR HN hla hid hio b1 hcu hdl hds hok
    generalize startC si sa sc sm sd = c at hi0 hc0 hcur hsta hsam ⊢
    have HOB := one_box u1 c 25
    obtain ⟨iss, acq, cur, am, st, rsn, cl, bk, fee, cop, sta, due⟩ := c
    unfold cv
    simp only at hcur hsta hsam HOB ⊢
    subst hcur
    subst hsta
    subst hsam
    have HI0 : Hid (Inv ⟨iss, acq, cur, am, st, rsn, cl, bk, fee, cop, sta, due⟩ 0) := hi0
    have HC0 : Hid (ClI ⟨iss, acq, cur, am, st, rsn, cl, bk, fee, cop, sta, due⟩ am) := hc0
    clear hi0 hc0
    go_upto_region 4 with fail
    obtain ⟨nb, b2⟩ := HOB
    generalize hw4 : u1.alloc (.cells #[.int .i64 iss, .int .i64 acq, .int .i64 cur, .int .i64 am, .int .i64 st, .int .i64 rsn, .int .i64 cl, .int .i64 bk, .int .i64 fee, .bool cop, .int .i64 sta, .int .i64 due] 25) = w4 at nb b2 ⊢
    clear hw4
    obtain ⟨R, hR⟩ : ∃ R, R = u1.heap.size := ⟨_, rfl⟩
    have HRR : Hid (R = u1.heap.size) := hR
    rw [← hR] at nb ⊢
    clear hR
    have f3 := nb.cb.f3
    have f10 := nb.cb.f10
    simp only [Nat.zero_add] at f3 f10
    have HNB : Hid (NB R ⟨iss, acq, cur, am, st, rsn, cl, bk, fee, cop, sta, due⟩ w4) := nb
    have HB2 : Hid (Below u1.heap.size u1 w4) := b2
    clear nb b2
    go_upto_block 0 with fail
    clear f3 f10
    go_cut [9] (fun v wc => ∃ (rl : Int) (k : Cs), v = .int .i64 rl ∧ Inv k rl ∧ k.cur = cur ∧ NB R k wc ∧ Below u1.heap.size u1 wc)
    case first =>
      go_wp2_with fail
      go_loopw [7, 8, 9, 10] (fun v y t i wr => ∃ (j : Nat) (dy cm rl : Int) (k : Cs), j ≤ az.length ∧ v = .int .i64 dy ∧ y = .int .i64 cm ∧ t = .int .i64 rl ∧ i = .int .i64 j ∧ Inv k rl ∧ ClI k cm ∧ k.cur = cur ∧ NB R k wr ∧ Below u1.heap.size u1 wr) (fun _ _ _ i _ => az.length - (intOf i).toNat)
      case atStart => exact ⟨0, _, _, 0, _, Nat.zero_le _, rfl, rfl, rfl, rfl, HI0.out, HC0.out, rfl, HNB.out, HB2.out⟩
      case round =>
        clear HNB HB2 HI0 HC0
        obtain ⟨j, dy, cm, rl, k, hj, rfl, rfl, rfl, rfl, hI, hC, hkc, hN, hB⟩ := hrel
        have HI : Hid (Inv k rl) := hI
        have HC : Hid (ClI k cm) := hC
        have HKC : Hid (k.cur = cur) := hkc
        have HN : Hid (NB R k wr) := hN
        have HB : Hid (Below u1.heap.size u1 wr) := hB
        clear hI hC hkc hN hB
        by_cases hlt : j < az.length
        · have hji : (j : Int) < (az.length : Int) := by omega
          obtain ⟨be, oe, hbe, hbl, e0, e1, e2⟩ := LinesAt.at (HLA.out.below HB.out) hlt
          have hdj : ∃ bd od, a2 = some ⟨bd, od, none⟩ ∧ wr.cell? ⟨bd, od + j, none⟩ = some (.int .i64 (ds.getD j 0)) := by
            have hdd := HDL.out
            rcases HID0.out.below HB.out with h | ⟨bd, od, h1, h2, h3⟩
            · rw [h] at hdd; simp at hdd; omega
            · exact ⟨bd, od, h1, h3 j (by omega)⟩
          obtain ⟨bd, od, hbd, dj⟩ := hdj
          subst hbe
          subst hbd
          obtain ⟨x, hx⟩ : ∃ x, lnAt az j = x := ⟨_, rfl⟩
          rw [hx] at e0 e1 e2
          clear hx
          obtain ⟨x1, x2, x3⟩ := x
          simp only at e0 e1 e2
          generalize ds.getD j 0 = dd at dj
          have hdlt : (j : Int) < (ds.length : Int) := by have := HDL.out; omega
          go_upto_region 11 with fail
          generalize wrap64 (dy + dd) = dz
          clear dj hdlt
          obtain ⟨rl2, g1, g2, g3, g4, g5⟩ := life_step (c := k) (a := ⟨x1, x2, x3⟩) (t := dz) (zs := offS) HI.out HC.out
          have hcd := doC_cur k ⟨x1, x2, x3⟩ dz offS
          rw [HKC.out] at hcd
          have HSD : Hid (∀ u, Below wr.heap.size wr u → Calls Tryd.prog 11 #[cv k, .agg #[.int .i64 x1, .int .i64 x2, .int .i64 x3], .int .i64 dz, .slice a3 offS.length k3] u (DoR u (doC k ⟨x1, x2, x3⟩ dz offS) (doE k ⟨x1, x2, x3⟩ dz offS) (doV k ⟨x1, x2, x3⟩ dz offS))) := fun u hu => sDo_any k ⟨x1, x2, x3⟩ dz a3 k3 offS u (HIO0.out.below (HB.out.trans (hu.mono HB.out.size))) (by decide)
          have HPD : Hid (∀ u, Below wr.heap.size wr u → Calls Tryd.prog 10 #[cv k, .agg #[.int .i64 x1, .int .i64 x2, .int .i64 x3], .int .i64 dz, .slice a3 offS.length k3] u (DoR u (doC k ⟨x1, x2, x3⟩ dz offS) (doE k ⟨x1, x2, x3⟩ dz offS) (doV k ⟨x1, x2, x3⟩ dz offS))) := fun u hu => by
            have ht : StepTab u := tab_below HT1.out (HB.out.trans (hu.mono HB.out.size))
            exact iDo_any k ⟨x1, x2, x3⟩ dz a3 k3 offS u (HIO0.out.below (HB.out.trans (hu.mono HB.out.size))) (by decide) ht (tab_lt' ht) (by rw [HKC.out]; exact HCU.out)
          generalize doC k ⟨x1, x2, x3⟩ dz offS = dc at g1 g2 g3 g4 g5 hcd HSD HPD
          generalize doE k ⟨x1, x2, x3⟩ dz offS = E at HSD HPD
          generalize doV k ⟨x1, x2, x3⟩ dz offS = V at g5 HSD HPD
          obtain ⟨iss, acq, cur', am, st, rsn, cl, bk, fee, cop, sta, due⟩ := k
          obtain ⟨n0, n1, n2, n3, n4, n5, n6, n7, n8, n9, n10, n11⟩ := dc
          unfold cv at HSD HPD
          simp only at HSD HPD g3 g4 g5 hcd HKC
          have hkc := HKC.out
          subst hkc
          have G1 : Hid (Inv ⟨n0, n1, n2, n3, n4, n5, n6, n7, n8, n9, n10, n11⟩ rl2) := g1
          have G2 : Hid (ClI ⟨n0, n1, n2, n3, n4, n5, n6, n7, n8, n9, n10, n11⟩ (clNext ⟨n0, n1, n2, n3, n4, n5, n6, n7, n8, n9, n10, n11⟩ cm)) := g2
          have G4 : Hid _ := g4
          have G5 : Hid _ := g5
          have G3 : Hid _ := g3
          have HCD : Hid _ := hcd
          have hrl : 0 ≤ rl ∧ rl ≤ 1 := by obtain ⟨-, -, -, -, -, -, y1, y2, -⟩ := HI.out; exact ⟨y1, y2⟩
          clear g1 g2 g3 g4 g5 hcd HI HC HKC
          have HA1 : Hid (wr.cell? ⟨be, oe + j * 3, none⟩ = some (.int .i64 x1) ∧ wr.cell? ⟨be, oe + j * 3 + 1, none⟩ = some (.int .i64 x2) ∧ wr.cell? ⟨be, oe + j * 3 + 2, none⟩ = some (.int .i64 x3)) := ⟨e0, e1, e2⟩
          have HBL : Hid _ := hbl
          clear hbl
          obtain ⟨rg0, rg1, rg2, rg3, rg4, rg5, rg6, rg7, rg8, rg9, rg10, rg11⟩ := HN.out.cb
          simp only [Nat.zero_add] at rg0 rg1 rg2 rg3 rg4 rg5 rg6 rg7 rg8 rg9 rg10 rg11
          have ca0 : ∀ o, (wr.alloc o).cell? ⟨R, 0, none⟩ = some (.int .i64 iss) := fun o => by rw [World.cell?_alloc_lt _ _ _ (World.block_lt_of_cell? _ _ rg0)]; exact rg0
          have ca1 : ∀ o, (wr.alloc o).cell? ⟨R, 1, none⟩ = some (.int .i64 acq) := fun o => by rw [World.cell?_alloc_lt _ _ _ (World.block_lt_of_cell? _ _ rg1)]; exact rg1
          have ca2 : ∀ o, (wr.alloc o).cell? ⟨R, 2, none⟩ = some (.int .i64 cur') := fun o => by rw [World.cell?_alloc_lt _ _ _ (World.block_lt_of_cell? _ _ rg2)]; exact rg2
          have ca3 : ∀ o, (wr.alloc o).cell? ⟨R, 3, none⟩ = some (.int .i64 am) := fun o => by rw [World.cell?_alloc_lt _ _ _ (World.block_lt_of_cell? _ _ rg3)]; exact rg3
          have ca4 : ∀ o, (wr.alloc o).cell? ⟨R, 4, none⟩ = some (.int .i64 st) := fun o => by rw [World.cell?_alloc_lt _ _ _ (World.block_lt_of_cell? _ _ rg4)]; exact rg4
          have ca5 : ∀ o, (wr.alloc o).cell? ⟨R, 5, none⟩ = some (.int .i64 rsn) := fun o => by rw [World.cell?_alloc_lt _ _ _ (World.block_lt_of_cell? _ _ rg5)]; exact rg5
          have ca6 : ∀ o, (wr.alloc o).cell? ⟨R, 6, none⟩ = some (.int .i64 cl) := fun o => by rw [World.cell?_alloc_lt _ _ _ (World.block_lt_of_cell? _ _ rg6)]; exact rg6
          have ca7 : ∀ o, (wr.alloc o).cell? ⟨R, 7, none⟩ = some (.int .i64 bk) := fun o => by rw [World.cell?_alloc_lt _ _ _ (World.block_lt_of_cell? _ _ rg7)]; exact rg7
          have ca8 : ∀ o, (wr.alloc o).cell? ⟨R, 8, none⟩ = some (.int .i64 fee) := fun o => by rw [World.cell?_alloc_lt _ _ _ (World.block_lt_of_cell? _ _ rg8)]; exact rg8
          have ca9 : ∀ o, (wr.alloc o).cell? ⟨R, 9, none⟩ = some (.bool cop) := fun o => by rw [World.cell?_alloc_lt _ _ _ (World.block_lt_of_cell? _ _ rg9)]; exact rg9
          have ca10 : ∀ o, (wr.alloc o).cell? ⟨R, 10, none⟩ = some (.int .i64 sta) := fun o => by rw [World.cell?_alloc_lt _ _ _ (World.block_lt_of_cell? _ _ rg10)]; exact rg10
          have ca11 : ∀ o, (wr.alloc o).cell? ⟨R, 11, none⟩ = some (.int .i64 due) := fun o => by rw [World.cell?_alloc_lt _ _ _ (World.block_lt_of_cell? _ _ rg11)]; exact rg11
          have cb0 : ∀ o, (wr.alloc o).cell? ⟨be, oe + j * 3, none⟩ = some (.int .i64 x1) := fun o => by rw [World.cell?_alloc_lt _ _ _ (World.block_lt_of_cell? _ _ e0)]; exact e0
          have cb1 : ∀ o, (wr.alloc o).cell? ⟨be, oe + j * 3 + 1, none⟩ = some (.int .i64 x2) := fun o => by rw [World.cell?_alloc_lt _ _ _ (World.block_lt_of_cell? _ _ e1)]; exact e1
          have cb2 : ∀ o, (wr.alloc o).cell? ⟨be, oe + j * 3 + 2, none⟩ = some (.int .i64 x3) := fun o => by rw [World.cell?_alloc_lt _ _ _ (World.block_lt_of_cell? _ _ e2)]; exact e2
          go_cut [11, 12, 13] (fun v y t wc => ∃ (B : Nat) (lo : Option Addr) (lk : Nat), v = .pointer (some ⟨B, 0, none⟩) ∧ y = .slice lo E.length lk ∧ t = .int .i64 V ∧ LX wr ⟨n0, n1, n2, n3, n4, n5, n6, n7, n8, n9, n10, n11⟩ E B lo lk wc)
          case first =>
            have z : ZC wr wr none (fun _ => True) := ZC.start (fun _ _ => trivial)
            go_region_with (first | (go_at_call 10; (first | with_reducible refine (zDo z (HPD.out _ z.bel)).mono ?_ | with_reducible refine (zDo z.drew (HPD.out _ z.drew.bel)).mono ?_ | with_reducible refine (zDo (z.al _) (HPD.out _ (z.al _).bel)).mono ?_ | with_reducible refine (zDo (z.al _).drew (HPD.out _ (z.al _).drew.bel)).mono ?_ | with_reducible refine (zDo (z.drew.al _) (HPD.out _ (z.drew.al _).bel)).mono ?_); rintro e v4 ⟨a4, k4, rfl, o4, z0, z⟩; simp only [cv]; (first | (have HF : Hid (∀ t, LX wr ⟨n0, n1, n2, n3, n4, n5, n6, n7, n8, n9, n10, n11⟩ E v4.heap.size a4 k4 (v4.alloc (.cells #[.int .i64 n0, .int .i64 n1, .int .i64 n2, .int .i64 n3, .int .i64 n4, .int .i64 n5, .int .i64 n6, .int .i64 n7, .int .i64 n8, .bool n9, .int .i64 n10, .int .i64 n11] t))) := (fun t => LX.new o4 z0 z)) | (have HF : Hid _ := LX.set (n := ⟨n0, n1, n2, n3, n4, n5, n6, n7, n8, n9, n10, n11⟩) o4 z0 z; obtain ⟨_, ⟨bg0, bg1, bg2, bg3, bg4, bg5, bg6, bg7, bg8, bg9, bg10, bg11⟩, ⟨by0, by1, by2, by3, by4, by5, by6, by7, by8, by9, by10, by11⟩⟩ := z.box _ rfl; simp only [Nat.zero_add, zeroC] at bg0 by0 bg1 by1 bg2 by2 bg3 by3 bg4 by4 bg5 by5 bg6 by6 bg7 by7 bg8 by8 bg9 by9 bg10 by10 bg11 by11)); clear o4 z0))
            all_goals
              go_wp2_with fail
              go_meet
              first
                | exact ⟨_, _, _, rfl, rfl, rfl, HF.out _⟩
                | exact ⟨_, _, _, rfl, rfl, rfl, HF.out⟩
                | exact ⟨_, _, _, rfl, rfl, rfl, (HF.out _).drew⟩
                | exact ⟨_, _, _, rfl, rfl, rfl, HF.out.drew⟩
          case rest =>
            clear HPD rg0 ca0 rg1 ca1 rg2 ca2 rg3 ca3 rg4 ca4 rg5 ca5 rg6 ca6 rg7 ca7 rg8 ca8 rg9 ca9 rg10 ca10 rg11 ca11 e0 e1 e2 cb0 cb1 cb2
            obtain ⟨B11, lo, lk, rfl, rfl, rfl, q11⟩ := hcut
            obtain ⟨w11, hw11⟩ : ∃ y, y = wc := ⟨_, rfl⟩
            subst hw11
            have HN11 : Hid (NB R ⟨iss, acq, cur', am, st, rsn, cl, bk, fee, cop, sta, due⟩ w11) := HN.out.below q11.bel
            have HB11 : Hid (Below u1.heap.size u1 w11) := HB.out.trans (q11.bel.mono HB.out.size)
            have e0 := (q11.bel.cell (p := ⟨be, oe + j * 3, none⟩) HBL.out).trans HA1.out.1
            have e1 := (q11.bel.cell (p := ⟨be, oe + j * 3 + 1, none⟩) HBL.out).trans HA1.out.2.1
            have e2 := (q11.bel.cell (p := ⟨be, oe + j * 3 + 2, none⟩) HBL.out).trans HA1.out.2.2
            have HS2 : Hid (∀ u, Below w11.heap.size w11 u → Calls Tryd.prog 11 #[.agg #[.int .i64 iss, .int .i64 acq, .int .i64 cur', .int .i64 am, .int .i64 st, .int .i64 rsn, .int .i64 cl, .int .i64 bk, .int .i64 fee, .bool cop, .int .i64 sta, .int .i64 due], .agg #[.int .i64 x1, .int .i64 x2, .int .i64 x3], .int .i64 dz, .slice a3 offS.length k3] u (DoR u ⟨n0, n1, n2, n3, n4, n5, n6, n7, n8, n9, n10, n11⟩ E V)) := fun u hu => HSD.out u (q11.bel.trans (hu.mono q11.bel.size))
            have HD11 : Hid (CB B11 0 ⟨n0, n1, n2, n3, n4, n5, n6, n7, n8, n9, n10, n11⟩ w11) := q11.cb
            have HLE : Hid (w4.heap.size ≤ w4.heap.size) := Nat.le_refl _
            clear q11 HSD HN HB HA1 HBL HLE
            obtain ⟨rg0, rg1, rg2, rg3, rg4, rg5, rg6, rg7, rg8, rg9, rg10, rg11⟩ := HN11.out.cb
            simp only [Nat.zero_add] at rg0 rg1 rg2 rg3 rg4 rg5 rg6 rg7 rg8 rg9 rg10 rg11
            have ca0 : ∀ o, (w11.alloc o).cell? ⟨R, 0, none⟩ = some (.int .i64 iss) := fun o => by rw [World.cell?_alloc_lt _ _ _ (World.block_lt_of_cell? _ _ rg0)]; exact rg0
            have ca1 : ∀ o, (w11.alloc o).cell? ⟨R, 1, none⟩ = some (.int .i64 acq) := fun o => by rw [World.cell?_alloc_lt _ _ _ (World.block_lt_of_cell? _ _ rg1)]; exact rg1
            have ca2 : ∀ o, (w11.alloc o).cell? ⟨R, 2, none⟩ = some (.int .i64 cur') := fun o => by rw [World.cell?_alloc_lt _ _ _ (World.block_lt_of_cell? _ _ rg2)]; exact rg2
            have ca3 : ∀ o, (w11.alloc o).cell? ⟨R, 3, none⟩ = some (.int .i64 am) := fun o => by rw [World.cell?_alloc_lt _ _ _ (World.block_lt_of_cell? _ _ rg3)]; exact rg3
            have ca4 : ∀ o, (w11.alloc o).cell? ⟨R, 4, none⟩ = some (.int .i64 st) := fun o => by rw [World.cell?_alloc_lt _ _ _ (World.block_lt_of_cell? _ _ rg4)]; exact rg4
            have ca5 : ∀ o, (w11.alloc o).cell? ⟨R, 5, none⟩ = some (.int .i64 rsn) := fun o => by rw [World.cell?_alloc_lt _ _ _ (World.block_lt_of_cell? _ _ rg5)]; exact rg5
            have ca6 : ∀ o, (w11.alloc o).cell? ⟨R, 6, none⟩ = some (.int .i64 cl) := fun o => by rw [World.cell?_alloc_lt _ _ _ (World.block_lt_of_cell? _ _ rg6)]; exact rg6
            have ca7 : ∀ o, (w11.alloc o).cell? ⟨R, 7, none⟩ = some (.int .i64 bk) := fun o => by rw [World.cell?_alloc_lt _ _ _ (World.block_lt_of_cell? _ _ rg7)]; exact rg7
            have ca8 : ∀ o, (w11.alloc o).cell? ⟨R, 8, none⟩ = some (.int .i64 fee) := fun o => by rw [World.cell?_alloc_lt _ _ _ (World.block_lt_of_cell? _ _ rg8)]; exact rg8
            have ca9 : ∀ o, (w11.alloc o).cell? ⟨R, 9, none⟩ = some (.bool cop) := fun o => by rw [World.cell?_alloc_lt _ _ _ (World.block_lt_of_cell? _ _ rg9)]; exact rg9
            have ca10 : ∀ o, (w11.alloc o).cell? ⟨R, 10, none⟩ = some (.int .i64 sta) := fun o => by rw [World.cell?_alloc_lt _ _ _ (World.block_lt_of_cell? _ _ rg10)]; exact rg10
            have ca11 : ∀ o, (w11.alloc o).cell? ⟨R, 11, none⟩ = some (.int .i64 due) := fun o => by rw [World.cell?_alloc_lt _ _ _ (World.block_lt_of_cell? _ _ rg11)]; exact rg11
            have cb0 : ∀ o, (w11.alloc o).cell? ⟨be, oe + j * 3, none⟩ = some (.int .i64 x1) := fun o => by rw [World.cell?_alloc_lt _ _ _ (World.block_lt_of_cell? _ _ e0)]; exact e0
            have cb1 : ∀ o, (w11.alloc o).cell? ⟨be, oe + j * 3 + 1, none⟩ = some (.int .i64 x2) := fun o => by rw [World.cell?_alloc_lt _ _ _ (World.block_lt_of_cell? _ _ e1)]; exact e1
            have cb2 : ∀ o, (w11.alloc o).cell? ⟨be, oe + j * 3 + 2, none⟩ = some (.int .i64 x3) := fun o => by rw [World.cell?_alloc_lt _ _ _ (World.block_lt_of_cell? _ _ e2)]; exact e2
            go_upto_region 12 with fail
            go_cut [14, 15, 16] (fun v y t wc => ∃ (B : Nat) (lo : Option Addr) (lk : Nat), v = .pointer (some ⟨B, 0, none⟩) ∧ y = .slice lo E.length lk ∧ t = .int .i64 V ∧ LX w11 ⟨n0, n1, n2, n3, n4, n5, n6, n7, n8, n9, n10, n11⟩ E B lo lk wc)
            case first =>
              have z : ZC w11 w11 none (fun _ => True) := ZC.start (fun _ _ => trivial)
              go_region_with (first | (go_at_call 11; (first | with_reducible refine (zDo z (HS2.out _ z.bel)).mono ?_ | with_reducible refine (zDo z.drew (HS2.out _ z.drew.bel)).mono ?_ | with_reducible refine (zDo (z.al _) (HS2.out _ (z.al _).bel)).mono ?_ | with_reducible refine (zDo (z.al _).drew (HS2.out _ (z.al _).drew.bel)).mono ?_ | with_reducible refine (zDo (z.drew.al _) (HS2.out _ (z.drew.al _).bel)).mono ?_); rintro e v4 ⟨a4, k4, rfl, o4, z0, z⟩; simp only [cv]; (first | (have HF : Hid (∀ t, LX w11 ⟨n0, n1, n2, n3, n4, n5, n6, n7, n8, n9, n10, n11⟩ E v4.heap.size a4 k4 (v4.alloc (.cells #[.int .i64 n0, .int .i64 n1, .int .i64 n2, .int .i64 n3, .int .i64 n4, .int .i64 n5, .int .i64 n6, .int .i64 n7, .int .i64 n8, .bool n9, .int .i64 n10, .int .i64 n11] t))) := (fun t => LX.new o4 z0 z)) | (have HF : Hid _ := LX.set (n := ⟨n0, n1, n2, n3, n4, n5, n6, n7, n8, n9, n10, n11⟩) o4 z0 z; obtain ⟨_, ⟨bg0, bg1, bg2, bg3, bg4, bg5, bg6, bg7, bg8, bg9, bg10, bg11⟩, ⟨by0, by1, by2, by3, by4, by5, by6, by7, by8, by9, by10, by11⟩⟩ := z.box _ rfl; simp only [Nat.zero_add, zeroC] at bg0 by0 bg1 by1 bg2 by2 bg3 by3 bg4 by4 bg5 by5 bg6 by6 bg7 by7 bg8 by8 bg9 by9 bg10 by10 bg11 by11)); clear o4 z0))
              all_goals
                go_wp2_with fail
                go_meet
                first
                  | exact ⟨_, _, _, rfl, rfl, rfl, HF.out _⟩
                  | exact ⟨_, _, _, rfl, rfl, rfl, HF.out⟩
                  | exact ⟨_, _, _, rfl, rfl, rfl, (HF.out _).drew⟩
                  | exact ⟨_, _, _, rfl, rfl, rfl, HF.out.drew⟩
            case rest =>
              clear HS2 rg0 ca0 rg1 ca1 rg2 ca2 rg3 ca3 rg4 ca4 rg5 ca5 rg6 ca6 rg7 ca7 rg8 ca8 rg9 ca9 rg10 ca10 rg11 ca11 e0 e1 e2 cb0 cb1 cb2
              obtain ⟨B14, lo2, lk2, rfl, rfl, rfl, q14⟩ := hcut
              obtain ⟨w12, hw12⟩ : ∃ y, y = wc := ⟨_, rfl⟩
              subst hw12
              have HN12 : Hid (NB R ⟨iss, acq, cur', am, st, rsn, cl, bk, fee, cop, sta, due⟩ w12) := HN11.out.below q14.bel
              have HB12 : Hid (Below u1.heap.size u1 w12) := HB11.out.trans (q14.bel.mono HB11.out.size)
              have HD12 : Hid (CB B11 0 ⟨n0, n1, n2, n3, n4, n5, n6, n7, n8, n9, n10, n11⟩ w12) := HD11.out.below q14.bel
              have HE12 : Hid (CB B14 0 ⟨n0, n1, n2, n3, n4, n5, n6, n7, n8, n9, n10, n11⟩ w12) := q14.cb
              clear q14 HN11 HB11 HD11
              obtain ⟨v0, -, -, -, -, -, -, -, -⟩ := G1.out
              obtain ⟨-, -, -, -, ⟨t3, t3'⟩, -, -, -, ⟨t7, t7'⟩, -, -, -⟩ := caseOk_parts v0
              have t6 := G3.out
              simp only at t3 t3' t7 t7' t6
              clear v0
              obtain ⟨sg0, sg1, sg2, sg3, sg4, sg5, sg6, sg7, sg8, sg9, sg10, sg11⟩ := HD12.out
              simp only [Nat.zero_add] at sg0 sg1 sg2 sg3 sg4 sg5 sg6 sg7 sg8 sg9 sg10 sg11
              obtain ⟨tg0, tg1, tg2, tg3, tg4, tg5, tg6, tg7, tg8, tg9, tg10, tg11⟩ := HE12.out
              simp only [Nat.zero_add] at tg0 tg1 tg2 tg3 tg4 tg5 tg6 tg7 tg8 tg9 tg10 tg11
              obtain ⟨rg0, rg1, rg2, rg3, rg4, rg5, rg6, rg7, rg8, rg9, rg10, rg11⟩ := HN12.out.cb
              simp only [Nat.zero_add] at rg0 rg1 rg2 rg3 rg4 rg5 rg6 rg7 rg8 rg9 rg10 rg11
              have hcn : ∃ cn, clNext ⟨n0, n1, n2, n3, n4, n5, n6, n7, n8, n9, n10, n11⟩ cm = cn ∧ ((3 ≤ n4 ∧ n4 < 7 ∧ cn = n6) ∨ (3 ≤ n4 ∧ ¬ n4 < 7 ∧ cn = cm) ∨ (¬ 3 ≤ n4 ∧ cn = cm)) := by
                refine ⟨_, rfl, ?_⟩
                by_cases h3 : 3 ≤ n4
                · by_cases h4 : n4 < 7
                  · exact .inl ⟨h3, h4, by simp [clNext, h3, h4]⟩
                  · exact .inr (.inl ⟨h3, h4, by simp [clNext, h4]⟩)
                · exact .inr (.inr ⟨h3, by simp [clNext, h3]⟩)
              obtain ⟨cn, hcn, hcc⟩ := hcn
              have HCN : Hid _ := hcn
              have HCC : Hid _ := hcc
              have HG2 : Hid (ClI ⟨n0, n1, n2, n3, n4, n5, n6, n7, n8, n9, n10, n11⟩ cn) := by rw [Hid, ← HCN.out]; exact G2.out
              have hvs : V ≠ 0 ∨ (V = 0 ∧ ¬ st = 7) := by
                by_cases hV : V = 0
                · exact .inr ⟨hV, fun h => G5.out ⟨hV, h⟩⟩
                · exact .inl hV
              clear hcn hcc
              obtain ⟨hy0, hy1, hy2, hy3, hy4, hy5, hy6, hy7, hy8, hy9, hy10, hy11⟩ := HN12.out.fz
              simp only [Nat.zero_add] at hy0 hy1 hy2 hy3 hy4 hy5 hy6 hy7 hy8 hy9 hy10 hy11
              have HR1 : Hid (NB R ⟨n0, n1, n2, n3, n4, n5, n6, n7, n8, n9, n10, n11⟩ (put12 w12 R ⟨n0, n1, n2, n3, n4, n5, n6, n7, n8, n9, n10, n11⟩)) := NB.put HN12.out
              have HR2 : Hid (Below u1.heap.size u1 (put12 w12 R ⟨n0, n1, n2, n3, n4, n5, n6, n7, n8, n9, n10, n11⟩)) := put12_below _ HB12.out (by rw [HRR.out]; exact Nat.le_refl _)
              clear HN12 HB12 HD12 HE12
              rcases hvs with hV | ⟨hV, hs7⟩
              all_goals
                try subst hV
                go_upto_region 17 with fail
                rcases G4.out with ⟨h8, h9⟩ | ⟨h8, h9⟩
                all_goals
                  have h8' := Int.not_lt.2 (Int.le_refl n8)
                  try have h8'' : ¬ fee < n8 := by omega
                  subst h9
                  go_upto_region 19 with fail
                  rcases HCC.out with ⟨h3, h4, hc2⟩ | ⟨h3, h4, hc2⟩ | ⟨h3, hc2⟩
                  all_goals
                    replace hc2 := hc2.symm
                    subst hc2
                    go_wp2
                    go_roundw
                    case rel => exact ⟨j + 1, _, _, _, ⟨n0, n1, n2, n3, n4, n5, n6, n7, n8, n9, n10, n11⟩, by omega, rfl, rfl, rfl, by go_num, G1.out, HG2.out, HCD.out, HR1.out, HR2.out⟩
                    case measure => simp [intOf]; omega
        · have hji : ¬ (j : Int) < (az.length : Int) := by omega
          go_wp2
          go_meet
          exact ⟨rl, k, rfl, HI.out, HKC.out, HN.out, HB.out⟩
    case rest =>
      clear HNB HB2 HI0 HC0
      obtain ⟨rl, k, rfl, hI, hkc, hN, hB⟩ := hcut
      obtain ⟨wl, hwl⟩ : ∃ y, y = wc := ⟨_, rfl⟩
      subst hwl
      obtain ⟨iss, acq, cur', am, st, rsn, cl, bk, fee, cop, sta, due⟩ := k
      simp only at hkc
      subst hkc
      obtain ⟨v0, -, -, -, v4, v5, v6, v7, -⟩ := hI
      simp only at v4 v5
      have HOK : Hid (∀ u, Calls Tryd.prog 12 #[.agg #[.int .i64 iss, .int .i64 acq, .int .i64 cur', .int .i64 am, .int .i64 st, .int .i64 rsn, .int .i64 cl, .int .i64 bk, .int .i64 fee, .bool cop, .int .i64 sta, .int .i64 due]] u fun e w' => e = .returned (.bool true) ∧ Below u.heap.size u w') := fun u => by have := iCaseOk_any ⟨iss, acq, cur', am, st, rsn, cl, bk, fee, cop, sta, due⟩ u HCU.out; rw [v0] at this; exact this
      obtain ⟨rg0, rg1, rg2, rg3, rg4, rg5, rg6, rg7, rg8, rg9, rg10, rg11⟩ := hN.cb
      simp only [Nat.zero_add] at rg0 rg1 rg2 rg3 rg4 rg5 rg6 rg7 rg8 rg9 rg10 rg11
      have HNN : Hid (NB R ⟨iss, acq, cur', am, st, rsn, cl, bk, fee, cop, sta, due⟩ wl) := hN
      have HBB : Hid (Below u1.heap.size u1 wl) := hB
      have HV4 : Hid (st = 7 → cl = 0 ∧ due = -1) := v4
      have HV5 : Hid (fee = 50000 * rl) := v5
      have HV6 : Hid (rl = 0 ∨ rl = 1) := by rw [Hid]; omega
      clear v0 hN hB v4 v5 v6 v7
      rcases HV6.out with h0 | h0
      all_goals
        have hfe := HV5.out
        rw [h0] at hfe
        simp only [Int.mul_zero, Int.mul_one] at hfe
        subst h0
        subst hfe
        clear HV5 HV6
        go_wp2_with fail
        refine (HOK.out _).mono ?_
        rintro e wm ⟨rfl, bm⟩
        have nm := HNN.out.below bm
        have HBM : Hid (Below w.heap.size w wm) := HB1.out.trans ((HBB.out.trans (bm.mono HBB.out.size)).mono HB1.out.size)
        clear rg0 rg1 rg2 rg3 rg4 rg5 rg6 rg7 rg8 rg9 rg10 rg11 HOK HNN HBB bm
        obtain ⟨rg0, rg1, rg2, rg3, rg4, rg5, rg6, rg7, rg8, rg9, rg10, rg11⟩ := nm.cb
        simp only [Nat.zero_add] at rg0 rg1 rg2 rg3 rg4 rg5 rg6 rg7 rg8 rg9 rg10 rg11
        clear nm
        by_cases h7 : st = 7
        · obtain ⟨y1, y2⟩ := HV4.out h7
          clear HV4
          subst h7
          subst y1
          subst y2
          go_wp2
          go_ret
          exact ⟨rfl, HBM.out⟩
        · clear HV4
          go_wp2
          go_ret
          exact ⟨rfl, HBM.out⟩

set_option maxRecDepth 100000 in
theorem lifted (os : Os) (started : os.Started) (H : Type) (enc : TypeId × Value → H) (F : Stop.Interp) :
    ReturnsInHanded {} Tryd.checked os 4 .any ((OpenSpec.ofChange Rows.fnLifeSpec).preRow enc Tryd.prog Tryd.f4 Rows.fnLifeRow.domain false Rows.fnLifeRow.laid)
      (((OpenSpec.ofChange Rows.fnLifeSpec).at F).post enc Tryd.prog Tryd.f4 false true false false) := by
  refine returnsInHanded_of_row (C := Tryd.checked) (s := OpenSpec.ofChange Rows.fnLifeSpec) own started (by kernel_rfl) Tryd.func4
    (ChangeSpec.witness_shaped (enc := enc) (C := Tryd.checked) (os := os) (X := fun w _ => laidMetH Tryd.prog Rows.fnLifeRow.laid w) false (World.laidAll Tryd.prog os Rows.fnLifeRow.laid) #[.slice none 0 0] 8 (World.laidAll_os _ _ _)
      (World.shaped_of_ZipB (by kernel_rfl) (by kernel_rfl)) (by kernel_rfl) (by kernel_rfl) (by kernel_rfl)
      (by rw [MakeChecks.laidMetH_plain _ _ _ (by kernel_rfl)]; exact laidMet_laidAll _ (by kernel_rfl) (by kernel_rfl))) ?_
  intro W base args ds gs before hval0 hW _ _ _ hL hsh _
  have hval : ∀ (j : Nat) t v, Tryd.f4.params[j]? = some t → args[j]? = some v → Value.okWide Tryd.prog W .any base t v := hval0
  have hW' := hW
  obtain ⟨p, q, hA0, hV0, rfl, _, _⟩ := hW
  have hV : DataW.TrodVars enc Tryd.prog W (fun _ => true) ["loop.example/g00126/impl.stepDays"] gs q := hV0
  have hA : DataW.TrodAll enc Tryd.prog W 0 (fun _ => true) true Tryd.f4.params.toList args.toList ds p := hA0
  rw [Tryd.params4] at hA hval
  obtain ⟨v0, vs0, d0, ds0, p0, q0, hargs, rfl, rfl, h0, r0⟩ := trodAll_cons hA
  obtain ⟨rfl, rfl, rfl⟩ := trodAll_nil r0
  obtain rfl : args = #[v0] := by cases args; simp_all
  obtain ⟨gv, tv, cs, fv, dv, pv, rfl, hgv, htv, hvar, hdv, rfl⟩ := trodVars_one hV
  obtain ⟨a0, len0, cap0, rfl⟩ := okWide_slice Tryd.underlying22 (hval 0 22 v0 rfl rfl)
  have k0 := h0
  have lt0 : ∀ x ∈ p0, x.block < W.heap.size := by obtain ⟨m, hm⟩ := k0; exact DataW.trod_lt m _ _ _ hm
  obtain ⟨z0, w0⟩ : ∃ zs, IsRow .u8 W a0 len0 cap0 zs := is_row Tryd.underlying22 Tryd.underlying5 (by kernel_rfl) h0
  clear hA0 hval0
  rw [MakeChecks.laidMetH_plain _ _ _ (by kernel_rfl)] at hL
  have HM := varTab hL
  refine (walk a0 len0 cap0 z0 W w0 hL hsh).mono fun e W' ⟨he, bel⟩ => ?_
  subst he
  exact ⟨_, rfl, _, _, _, [], _, _, hW', trodAll_mk1 (shut_bool Tryd.underlying4 _), (trodAll_cons_mk (Below.trod laidOut (by kernel_rfl) (of_decide_eq_true (by kernel_rfl)) k0 bel lt0) trodAll_mk0), step_vars hgv htv hvar hdv HM bel, bel.frame _, fun h => by cases h⟩

theorem said : Rows.FnLifeSaid :=
  OpenClaim.holds_of_cond 4 Tryd.f4 rfl rfl rfl rfl rfl rfl rfl ⟨rfl, rfl, rfl, rfl, rfl⟩ rfl rfl rfl rfl rfl (by kernel_rfl) Tryd.func4 (by kernel_rfl)
    (of_decide_eq_true (by kernel_rfl)) (by unfold Func.isWrapper; first | (rw [if_pos (by decide +kernel)]; kernel_rfl) | (rw [if_neg (by decide +kernel)]; exact ⟨rfl, rfl⟩))
    (fun os started H enc _ F => by rw [OpenClaim.pre_eq_preRow]; exact lifted os started H enc F)

theorem proved : Rows.FnLifeCardSaid :=
  Claim7.holds_tied_plain_at .later [] _ _ _ _ said (fun _ h => by cases h) (by kernel_rfl) (fun _ h => by cases h) fnLife_row_tie rfl ⟨rfl, rfl⟩ (by kernel_rfl) rfl
    (fun f fn hf hfn => by
      obtain rfl : f = 4 := Option.some.inj ((show Tryd.prog.funcNamed "loop.example/g00126/laws.FnLife" = some 4 by kernel_rfl).symm.trans hf) |>.symm
      obtain rfl : fn = Tryd.f4 := (Option.some.inj (Tryd.func4.symm.trans hfn)).symm
      refine ⟨by kernel_rfl, fun j t ht => ?_⟩
      rw [Tryd.params4] at ht
      have hm : t ∈ [22] := by have := Array.mem_of_getElem? ht; simp at this ⊢; first | exact this | exact this.symm | omega | (rcases this with h | h | h | h <;> simp [h])
      have hall : ([22].all fun u => !Tryd.prog.wantsStandIn u) = true := by kernel_rfl
      have h1 := List.all_eq_true.1 hall t hm
      have h2 : Tryd.prog.wantsStandIn t = false := by simpa using h1
      exact h2)
    (by kernel_rfl)
end Go.Proofs.YtenbhmmknejcjaaDoor.fnLife
