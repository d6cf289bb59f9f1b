/- Joined: FDis2, CaseC. -/
import Derived.Test.YtenbhmmknejcjaaDoorKP9FDis1
import Derived.Test.YtenbhmmknejcjaaDoorKP9RReas
import Derived.Test.YtenbhmmknejcjaaDoorKP9CaseD
import Derived.Test.YtenbhmmknejcjaaDoorJP92a
/- The contracts of a dispute's steps. -/
namespace Go.Proofs.YtenbhmmknejcjaaDoor
open Go.RowKit
set_option maxRecDepth 100000

theorem DR.from {b : Nat} {ao : Option Addr} {cp : Nat} {zs : List Int} {a : Ac} {t : Int} {w u : World} {r : Value} {c : Cs} {es : List En} {e : Ending} {w' : World} (k : Below b w u) (h : DR b ao cp zs a t u r c es e w') : DR b ao cp zs a t w r c es e w' :=
  ⟨h.1, h.2.1, k.trans h.2.2⟩

set_option maxHeartbeats 1600000 in
theorem endAsking_any {b : Nat} {ao : Option Addr} {cp : Nat} {zs : List Int} {a : Ac} {t : Int} {c : Cs} {es : List En} {v : Value} {w : World} (h : DS b ao cp zs a t c es v w) :
    Calls Tryd.prog 82 #[.pointer (some ⟨b, 0, none⟩)] w (DR b ao cp zs a t w (.int .i64 0) (givenC c) es) := by
  have c4 := h.db.cb.f4
  have c11 := h.db.cb.f11
  have c9 := h.db.cb.f9
  have z4 := h.db.fz.z4
  have z11 := h.db.fz.z11
  have z9 := h.db.fz.z9
  simp only [Nat.zero_add] at c4 c11 c9 z4 z11 z9
  have HH : Hid (DS b ao cp zs a t c es v w) := h
  clear h
  go_enter Tryd.func82, Tryd.ntmps82
  go_wp2
  go_ret
  exact ⟨rfl, ⟨v, ((HH.out.set4 2).set11 (-1)).set9 true⟩, ((bel_at _ _ 4 _).trans (bel_at _ _ 11 _)).trans (bel_at _ _ 9 _)⟩

set_option maxHeartbeats 1600000 in
theorem end_any {b : Nat} {ao : Option Addr} {cp : Nat} {zs : List Int} {a : Ac} {t : Int} {c : Cs} {es : List En} {v : Value} {w : World} (h : DS b ao cp zs a t c es v w) (k : Int) (hk : k = 5 ∨ k = 7 ∨ k = 8) :
    Calls Tryd.prog 87 #[.pointer (some ⟨b, 0, none⟩), .int .i64 k] w (DR b ao cp zs a t w (.int .i64 0) ⟨c.iss, c.acq, c.cur, c.am, 7, c.rsn, 0, c.bk, c.fee, c.cop, c.sta, -1⟩ es) := by
  have c4 := h.db.cb.f4
  have c6 := h.db.cb.f6
  have c11 := h.db.cb.f11
  have z4 := h.db.fz.z4
  have z6 := h.db.fz.z6
  have z11 := h.db.fz.z11
  simp only [Nat.zero_add] at c4 c6 c11 z4 z6 z11
  have HH : Hid (DS b ao cp zs a t c es v w) := h
  clear h
  rcases hk with rfl | rfl | rfl
  iterate 3
    · go_enter Tryd.func87, Tryd.ntmps87
      go_wp2
      go_ret
      exact ⟨rfl, ⟨v, ((HH.out.set6 0).set4 7).set11 (-1)⟩, ((bel_at _ _ 6 _).trans (bel_at _ _ 4 _)).trans (bel_at _ _ 11 _)⟩

set_option maxHeartbeats 1600000 in
theorem end9_any {b : Nat} {ao : Option Addr} {cp : Nat} {zs : List Int} {a : Ac} {t : Int} {c : Cs} {es : List En} {v : Value} {w : World} (h : DS b ao cp zs a t c es v w) :
    Calls Tryd.prog 87 #[.pointer (some ⟨b, 0, none⟩), .int .i64 9] w (DR b ao cp zs a t w (.int .i64 0) ⟨c.iss, c.acq, c.cur, c.am, 7, c.rsn, c.cl, c.bk, c.fee, c.cop, c.sta, -1⟩ es) := by
  have c4 := h.db.cb.f4
  have c11 := h.db.cb.f11
  have z4 := h.db.fz.z4
  have z11 := h.db.fz.z11
  simp only [Nat.zero_add] at c4 c11 z4 z11
  have HH : Hid (DS b ao cp zs a t c es v w) := h
  clear h
  go_enter Tryd.func87, Tryd.ntmps87
  go_wp2
  go_ret
  exact ⟨rfl, ⟨v, (HH.out.set4 7).set11 (-1)⟩, (bel_at _ _ 4 _).trans (bel_at _ _ 11 _)⟩

set_option maxHeartbeats 800000 in
theorem shut_any {b : Nat} {ao : Option Addr} {cp : Nat} {zs : List Int} {a : Ac} {t : Int} {c : Cs} {es : List En} {v : Value} {w : World} (h : DS b ao cp zs a t c es v w) :
    Calls Tryd.prog 67 #[.pointer (some ⟨b, 0, none⟩)] w (DR b ao cp zs a t w (.int .i64 0) ⟨c.iss, c.acq, c.cur, c.am, 7, c.rsn, c.cl, c.bk, c.fee, c.cop, c.sta, -1⟩ es) := by
  have HH : Hid (DS b ao cp zs a t c es v w) := h
  clear h
  go_enter Tryd.func67, Tryd.ntmps67
  go_wp2_with fail
  refine (end9_any HH.out).mono ?_
  rintro e w1 ⟨rfl, D1, b1⟩
  go_wp2
  go_ret
  exact ⟨rfl, D1, b1⟩

set_option maxHeartbeats 800000 in
theorem ask_any {b : Nat} {ao : Option Addr} {cp : Nat} {zs : List Int} {a : Ac} {t : Int} {c : Cs} {es : List En} {v : Value} {w : World} (h : DS b ao cp zs a t c es v w) (hn : zs.length ≤ 1099511627776) :
    Calls Tryd.prog 58 #[.pointer (some ⟨b, 0, none⟩)] w (DR b ao cp zs a t w (.int .i64 0) ⟨c.iss, c.acq, c.cur, c.am, 1, c.rsn, c.cl, c.bk, c.fee, c.cop, c.sta, dueV t 20 zs⟩ es) := by
  have c4 := h.db.cb.f4
  have z4 := h.db.fz.z4
  simp only [Nat.zero_add] at c4 z4
  have HH : Hid (DS b ao cp zs a t c es v w) := h
  clear h
  go_enter Tryd.func58, Tryd.ntmps58
  go_wp2_with fail
  refine (dueIn_any (HH.out.set4 1) hn 4 20 rfl).mono ?_
  rintro e w1 ⟨rfl, D1, b1⟩
  have HD : Hid _ := D1
  have HB : Hid (Below b w w1) := (bel_at _ _ 4 _).trans b1
  clear D1 b1
  go_wp2
  go_ret
  exact ⟨rfl, HD.out, HB.out⟩

set_option maxHeartbeats 800000 in
theorem give_any {b : Nat} {ao : Option Addr} {cp : Nat} {zs : List Int} {a : Ac} {t : Int} {c : Cs} {es : List En} {v : Value} {w : World} (h : DS b ao cp zs a t c es v w) :
    Calls Tryd.prog 59 #[.pointer (some ⟨b, 0, none⟩)] w (DR b ao cp zs a t w (.int .i64 (if lateV t c.due = true then 4 else 0)) (if lateV t c.due = true then c else givenC c) es) := by
  have HH : Hid (DS b ao cp zs a t c es v w) := h
  have HL : Hid (b < w.heap.size) := h.lt
  have HQ : Hid (Calls Tryd.prog 81 #[.pointer (some ⟨b, 0, none⟩)] w fun e w' => e = .returned (.bool (lateV t c.due)) ∧ Below w.heap.size w w') := isLate_any h
  clear h
  cases hl : lateV t c.due
  · rw [hl] at HQ
    clear hl
    rw [if_neg (by decide), if_neg (by decide)]
    go_enter Tryd.func59, Tryd.ntmps59
    go_wp2_with fail
    refine Calls.mono HQ.out ?_
    rintro e w1 ⟨rfl, b1⟩
    have HB : Hid (Below w.heap.size w w1) := b1
    clear b1
    go_wp2_with fail
    refine (endAsking_any (HH.out.below HB.out)).mono ?_
    rintro e w2 ⟨rfl, D2, b2⟩
    have HD : Hid _ := D2
    have HB2 : Hid (Below b w w2) := (HB.out.mono (Nat.le_of_lt HL.out)).trans b2
    clear D2 b2
    go_wp2
    go_ret
    exact ⟨rfl, HD.out, HB2.out⟩
  · rw [hl] at HQ
    clear hl
    rw [if_pos rfl, if_pos rfl]
    go_enter Tryd.func59, Tryd.ntmps59
    go_wp2_with fail
    refine Calls.mono HQ.out ?_
    rintro e w1 ⟨rfl, b1⟩
    have HB : Hid (Below w.heap.size w w1) := b1
    clear b1
    go_wp2
    go_ret
    exact ⟨rfl, ⟨v, HH.out.below HB.out⟩, HB.out.mono (Nat.le_of_lt HL.out)⟩

set_option maxHeartbeats 800000 in
theorem refuse_any {b : Nat} {ao : Option Addr} {cp : Nat} {zs : List Int} {a : Ac} {t : Int} {c : Cs} {es : List En} {v : Value} {w : World} (h : DS b ao cp zs a t c es v w) (hn : zs.length ≤ 1099511627776) :
    Calls Tryd.prog 64 #[.pointer (some ⟨b, 0, none⟩)] w (DR b ao cp zs a t w (.int .i64 (if lateV t c.due = true then 4 else 0)) (if lateV t c.due = true then c else ⟨c.iss, c.acq, c.cur, c.am, 6, c.rsn, c.cl, c.bk, c.fee, c.cop, c.sta, dueV t 60 zs⟩) es) := by
  have HH : Hid (DS b ao cp zs a t c es v w) := h
  have HL : Hid (b < w.heap.size) := h.lt
  have HQ : Hid (Calls Tryd.prog 81 #[.pointer (some ⟨b, 0, none⟩)] w fun e w' => e = .returned (.bool (lateV t c.due)) ∧ Below w.heap.size w w') := isLate_any h
  clear h
  cases hl : lateV t c.due
  · rw [hl] at HQ
    clear hl
    rw [if_neg (by decide), if_neg (by decide)]
    go_enter Tryd.func64, Tryd.ntmps64
    go_wp2_with fail
    refine Calls.mono HQ.out ?_
    rintro e w1 ⟨rfl, b1⟩
    have HB : Hid (Below w.heap.size w w1) := b1
    have h := HH.out.below b1
    have c4 := h.db.cb.f4
    have z4 := h.db.fz.z4
    simp only [Nat.zero_add] at c4 z4
    have HH1 : Hid (DS b ao cp zs a t c es v w1) := h
    clear b1 h
    go_wp2_with fail
    refine (dueIn_any (HH1.out.set4 6) hn 3 60 rfl).mono ?_
    rintro e w2 ⟨rfl, D2, b2⟩
    have HD : Hid _ := D2
    have HB2 : Hid (Below b w w2) := ((HB.out.mono (Nat.le_of_lt HL.out)).trans (bel_at _ _ 4 _)).trans b2
    clear D2 b2
    go_wp2
    go_ret
    exact ⟨rfl, HD.out, HB2.out⟩
  · rw [hl] at HQ
    clear hl
    rw [if_pos rfl, if_pos rfl]
    go_enter Tryd.func64, Tryd.ntmps64
    go_wp2_with fail
    refine Calls.mono HQ.out ?_
    rintro e w1 ⟨rfl, b1⟩
    have HB : Hid (Below w.heap.size w w1) := b1
    clear b1
    go_wp2
    go_ret
    exact ⟨rfl, ⟨v, HH.out.below HB.out⟩, HB.out.mono (Nat.le_of_lt HL.out)⟩


end Go.Proofs.YtenbhmmknejcjaaDoor

/- Money asked back until the last day of its reason, plainly. No Go in sight. -/
namespace Go.Proofs.YtenbhmmknejcjaaDoor

theorem bet_due {d n : Int} {zs : List Int} (h : dueV d n zs ≠ -1) : betV d (dueV d n zs) zs = n := by
  cases ha : addV d n zs with
  | none => exact absurd (dueV_no ha) h
  | some y =>
    rw [dueV_yes ha]
    unfold addV at ha
    split at ha
    · rename_i g
      obtain ⟨g1, g2, g3, g4⟩ := g
      have hd := dOk_bd g1
      have hb := adv_bd (by omega) ha
      rw [betV_yes g1 (dOk_pos (by omega) hb.2.1) g4, adv_upto ha]
      omega
    · cases ha

/-- a case that was just started, at the last day of a reason -/
theorem charged {c : Cs} {r last : Int} {zs : List Int} (hc : caseOk c = true) (hs : c.st = 0) (hm : 2 ≤ c.am) (hr : rOk r = true) (hz : offOk zs = true) (hl : dueV c.sta (rDays r) zs = last) (h0 : c.sta ≤ last) (h1 : last ≤ 79999) :
    (copied c last = true ∨ rProof r = false → doV c ⟨2, c.am, r⟩ last zs = 0 ∧ doV c ⟨2, c.am, r⟩ (last + 1) zs = 4 ∧ doV c ⟨2, c.am - 1, r⟩ last zs = (if rPart r = true then 0 else 2)) ∧
    (copied c last = false → rProof r = true → doV c ⟨2, c.am, r⟩ last zs = 3) := by
  obtain ⟨p0, p1, p2, p3, p4, p5, p6, p7, p8, p9, p10, p11⟩ := caseOk_parts hc
  have hd := dOk_bd p10
  have k1 : dOk last = true := dOk_pos (by omega) (by omega)
  have k2 : dOk (last + 1) = true := dOk_pos (by omega) (by omega)
  have l1 : lateV last last = false := by simp [lateV]
  have l2 : lateV (last + 1) last = true := by simp [lateV, k1, k2]; omega
  have g1 : dayOkAt c last zs = true := by simp [dayOkAt, hc, k1, h0, hz]
  have g2 : dayOkAt c (last + 1) zs = true := by simp [dayOkAt, hc, k2, hz]; omega
  have ho : ofSt c.st 2 = true := by simp [ofSt, hs]
  have cop1 : copied c (last + 1) = copied c last := by simp [copied, hs]
  have hN : ∀ x, 1 ≤ x → x ≤ c.am → caseOk (nextC c ⟨2, x, r⟩ last zs) = true := fun x hx1 hx2 => by
    have e : nextC c ⟨2, x, r⟩ last zs = ⟨c.iss, c.acq, c.cur, c.am, 3, r, x, x, c.fee, c.cop, c.sta, dueV last 30 zs⟩ := by simp [nextC]
    rw [e]
    exact caseOk_mk ⟨p0, p1, p2, p3, p4, by simp, by simp [reasonOkAt, hr], by simp; omega, by simp; omega, p9, p10, due_ok (by omega)⟩
  constructor
  · intro hp
    have b1 : ∀ t, copied c t = copied c last → ¬ (rOk r = false ∨ (rProof r = true ∧ copied c t = false)) := fun t ht g => by
      rcases g with g | ⟨g, g'⟩
      · rw [hr] at g; cases g
      · rw [ht] at g'
        rcases hp with hp | hp
        · rw [hp] at g'; cases g'
        · rw [hp] at g; cases g
    have c1 : codeV c ⟨2, c.am, r⟩ last zs = 0 := by
      have e : codeV c ⟨2, c.am, r⟩ last zs = chargeV c ⟨2, c.am, r⟩ last zs := by simp [codeV]
      rw [e, chargeV, if_neg (b1 last rfl), if_neg (by simp; omega), if_neg (by simp only [hl]; rw [l1]; decide)]
    have c2 : codeV c ⟨2, c.am, r⟩ (last + 1) zs = 4 := by
      have e : codeV c ⟨2, c.am, r⟩ (last + 1) zs = chargeV c ⟨2, c.am, r⟩ (last + 1) zs := by simp [codeV]
      rw [e, chargeV, if_neg (b1 _ cop1), if_neg (by simp; omega), if_pos (by simp only [hl]; exact l2)]
    refine ⟨?_, ?_, ?_⟩
    · rw [doV, if_neg (by rw [g1]; decide), if_neg (by rw [ho]; decide), if_neg (by rw [c1]; decide), if_pos (hN c.am (by omega) (by omega))]
    · rw [doV, if_neg (by rw [g2]; decide), if_neg (by rw [ho]; decide), if_pos (by rw [c2]; decide), c2]
    · have e : codeV c ⟨2, c.am - 1, r⟩ last zs = chargeV c ⟨2, c.am - 1, r⟩ last zs := by simp [codeV]
      cases hq : rPart r
      · have c3 : codeV c ⟨2, c.am - 1, r⟩ last zs = 2 := by
          rw [e, chargeV, if_neg (b1 last rfl), if_pos (.inr ⟨by simp; omega, hq⟩)]
        rw [doV, if_neg (by rw [g1]; decide), if_neg (by rw [ho]; decide), if_pos (by rw [c3]; decide), c3]
        rfl
      · have c3 : codeV c ⟨2, c.am - 1, r⟩ last zs = 0 := by
          rw [e, chargeV, if_neg (b1 last rfl), if_neg (by simp [hq]; omega), if_neg (by simp only [hl]; rw [l1]; decide)]
        rw [doV, if_neg (by rw [g1]; decide), if_neg (by rw [ho]; decide), if_neg (by rw [c3]; decide), if_pos (hN (c.am - 1) (by omega) (by omega))]
        rfl
  · intro h2 h3
    have c1 : codeV c ⟨2, c.am, r⟩ last zs = 3 := by
      have e : codeV c ⟨2, c.am, r⟩ last zs = chargeV c ⟨2, c.am, r⟩ last zs := by simp [codeV]
      rw [e, chargeV, if_pos (.inr ⟨h3, h2⟩)]
    rw [doV, if_neg (by rw [g1]; decide), if_neg (by rw [ho]; decide), if_pos (by rw [c1]; decide), c1]

end Go.Proofs.YtenbhmmknejcjaaDoor
