/- The contracts of a dispute's second, accept, rulings and expiry. -/
import Derived.Test.YtenbhmmknejcjaaDoorKP9FDis3
namespace Go.Proofs.YtenbhmmknejcjaaDoor
open Go.RowKit
set_option maxRecDepth 100000

set_option maxHeartbeats 1600000 in
theorem second_any {b : Nat} {ao : Option Addr} {cp : Nat} {zs : List Int} {a : Ac} {t : Int} {c : Cs} {v : Value} {w : World} (h : DS b ao cp zs a t c [] v w) (hn : zs.length ≤ 1099511627776) :
    Calls Tryd.prog 62 #[.pointer (some ⟨b, 0, none⟩)] w (DR b ao cp zs a t w (.int .i64 (replyV c a t)) (if replyV c a t = 0 then ⟨c.iss, c.acq, c.cur, c.am, 5, c.rsn, a.am, c.bk, c.fee, c.cop, c.sta, dueV t 15 zs⟩ else c) []) := by
  have HH : Hid (DS b ao cp zs a t c [] v w) := h
  have HL : Hid (b < w.heap.size) := h.lt
  have HQ : Hid (Calls Tryd.prog 85 #[.pointer (some ⟨b, 0, none⟩)] w fun e w' => e = .returned (.int .i64 (replyV c a t)) ∧ Below w.heap.size w w') := reply_any h
  clear h
  obtain ⟨r, hr⟩ : ∃ r, replyV c a t = r := ⟨_, rfl⟩
  rw [hr] at HQ ⊢
  clear hr
  by_cases h0 : r = 0
  · subst h0
    rw [if_pos rfl]
    go_enter Tryd.func62, Tryd.ntmps62
    go_wp2_with fail
    refine Calls.mono HQ.out ?_
    rintro e w1 ⟨rfl, b1⟩
    have HB : Hid (Below w.heap.size w w1) := b1
    have h := HH.out.below b1
    have c13 := h.db.a1
    have c4 := h.db.cb.f4
    have c6 := h.db.cb.f6
    have z4 := h.db.fz.z4
    have z6 := h.db.fz.z6
    simp only [Nat.zero_add] at c4 c6 z4 z6
    have HH1 : Hid (DS b ao cp zs a t c [] v w1) := h
    clear b1 h
    go_wp2_with fail
    refine (dueIn_any ((HH1.out.set4 5).set6 a.am) hn 2 15 rfl).mono ?_
    rintro e w2 ⟨rfl, D2, b2⟩
    have HD : Hid _ := D2
    have HB2 : Hid (Below b w w2) := (((HB.out.mono (Nat.le_of_lt HL.out)).trans (bel_at _ _ 4 _)).trans (bel_at _ _ 6 _)).trans b2
    clear D2 b2
    go_wp2
    go_ret
    exact ⟨rfl, HD.out, HB2.out⟩
  · rw [if_neg h0]
    have h0' : (r != 0) = true := by simpa using h0
    clear h0
    go_enter Tryd.func62, Tryd.ntmps62
    go_wp2_with fail
    refine Calls.mono HQ.out ?_
    rintro e w1 ⟨rfl, b1⟩
    have HB : Hid (Below w.heap.size w w1) := b1
    clear b1
    go_wp2
    go_ret
    exact ⟨rfl, ⟨v, HH.out.below HB.out⟩, HB.out.mono (Nat.le_of_lt HL.out)⟩

set_option maxHeartbeats 1600000 in
theorem accept_any {b : Nat} {ao : Option Addr} {cp : Nat} {zs : List Int} {a : Ac} {t : Int} {c : Cs} {v : Value} {w : World} (h : DS b ao cp zs a t c [] v w) (hb : 0 ≤ c.bk ∧ c.bk ≤ 1000000000000) (hc : 0 ≤ c.cl ∧ c.cl ≤ 1000000000000) :
    Calls Tryd.prog 63 #[.pointer (some ⟨b, 0, none⟩)] w (DR b ao cp zs a t w (.int .i64 0) (endC c c.cl) (toIss c c.cl)) := by
  have HH : Hid (DS b ao cp zs a t c [] v w) := h
  have HG : Hid (Calls Tryd.prog 86 #[.pointer (some ⟨b, 0, none⟩), .int .i64 c.cl] w (DR b ao cp zs a t w (.tuple #[]) ⟨c.iss, c.acq, c.cur, c.am, c.st, c.rsn, c.cl, c.bk + c.cl, c.fee, c.cop, c.sta, c.due⟩ (toIss c c.cl))) := by
    have g := giveBack_any h (Nat.zero_le _) c.cl hc hb
    rw [moved_nil hc.1] at g
    exact g
  have c6 := h.db.cb.f6
  simp only [Nat.zero_add] at c6
  clear h
  go_enter Tryd.func63, Tryd.ntmps63
  go_wp2_with fail
  refine Calls.mono HG.out ?_
  rintro e w1 ⟨rfl, ⟨v1, D1⟩, b1⟩
  have HD : Hid (DS b ao cp zs a t ⟨c.iss, c.acq, c.cur, c.am, c.st, c.rsn, c.cl, c.bk + c.cl, c.fee, c.cop, c.sta, c.due⟩ (toIss c c.cl) v1 w1) := D1
  have HB : Hid (Below b w w1) := b1
  clear D1 b1
  go_wp2_with fail
  refine (end_any HD.out 5 (.inl rfl)).mono ?_
  rintro e w2 ⟨rfl, D2, b2⟩
  have HD2 : Hid _ := D2
  have HB2 : Hid (Below b w w2) := HB.out.trans b2
  clear D2 b2
  go_wp2
  go_ret
  exact ⟨rfl, HD2.out, HB2.out⟩

set_option maxHeartbeats 3200000 in
theorem ruleFor_any {b : Nat} {ao : Option Addr} {cp : Nat} {zs : List Int} {a : Ac} {t : Int} {c : Cs} {v : Value} {w : World} (h : DS b ao cp zs a t c [] v w) (s : Int) (hs : 0 ≤ s ∧ s ≤ 1000000000000) (hb : 0 ≤ c.bk ∧ c.bk ≤ 1000000000000) (hf : 0 ≤ c.fee ∧ c.fee ≤ 1000000) :
    Calls Tryd.prog 88 #[.pointer (some ⟨b, 0, none⟩), .int .i64 s] w (DR b ao cp zs a t w (.int .i64 0) (ruleC c s) (ruleE c s)) := by
  have HH : Hid (DS b ao cp zs a t c [] v w) := h
  have HL : Hid (b < w.heap.size) := h.lt
  have HG : Hid (Calls Tryd.prog 86 #[.pointer (some ⟨b, 0, none⟩), .int .i64 s] w (DR b ao cp zs a t w (.tuple #[]) ⟨c.iss, c.acq, c.cur, c.am, c.st, c.rsn, c.cl, c.bk + s, c.fee, c.cop, c.sta, c.due⟩ (toIss c s))) := by
    have g := giveBack_any h (Nat.zero_le _) s hs hb
    rw [moved_nil hs.1] at g
    exact g
  have HT : Hid ((toIss c s).length ≤ 100) := by rw [Hid, ← moved_nil hs.1]; have := moved_len c [] c.acq c.iss s; simp only [List.length_nil] at this; omega
  have c0 := h.db.cb.f0
  have c1 := h.db.cb.f1
  have c6 := h.db.cb.f6
  simp only [Nat.zero_add] at c0 c1 c6
  obtain ⟨y, hy⟩ : ∃ y, c.cl = y := ⟨_, rfl⟩
  have HY : Hid _ := hy
  rw [hy] at c6
  obtain ⟨lo, hlo⟩ : ∃ lo, loser c s = lo := ⟨_, rfl⟩
  have HLO : Hid _ := hlo
  have HE : Hid (ruleE c s = toIss c s ++ [(lo, 9999, c.cur, 50000)]) := by rw [Hid, ruleE, hlo]
  obtain ⟨fe, hfe⟩ : ∃ fe, c.fee = fe := ⟨_, rfl⟩
  have HFE : Hid _ := hfe
  rw [hfe] at hf
  clear h hy hlo hfe hb
  by_cases hc : y ≤ 2 * s
  · have HA : Hid (lo = c.acq) := by rw [Hid, ← HLO.out, loser, HY.out, if_pos hc]
    go_enter Tryd.func88, Tryd.ntmps88
    go_wp2_with fail
    refine Calls.mono HG.out ?_
    rintro e w1 ⟨rfl, ⟨v1, D1⟩, b1⟩
    have HD : Hid (DS b ao cp zs a t ⟨c.iss, c.acq, c.cur, c.am, c.st, c.rsn, c.cl, c.bk + s, c.fee, c.cop, c.sta, c.due⟩ (toIss c s) v1 w1) := D1
    have HB : Hid (Below b w w1) := b1
    clear D1 b1
    go_wp2_with fail
    refine (move_any HD.out HT.out _ 9999 50000).mono ?_
    rintro e w2 ⟨rfl, ⟨v2, D2⟩, b2⟩
    have HB2 : Hid (Below b w w2) := HB.out.trans b2
    have c8 := D2.db.cb.f8
    have z8 := D2.db.fz.z8
    simp only [Nat.zero_add] at c8 z8
    rw [HFE.out] at c8
    have HD2 : Hid _ := D2
    clear D2 b2
    go_wp2_with fail
    refine (end_any (HD2.out.set8 (fe + 50000)) 7 (.inr (.inl rfl))).mono ?_
    rintro e w3 ⟨rfl, ⟨v3, D3⟩, b3⟩
    have HD3 : Hid _ := D3
    have HB3 : Hid (Below b w w3) := (HB2.out.trans (bel_at _ _ 8 _)).trans b3
    clear D3 b3
    go_wp2
    go_ret
    refine ⟨rfl, ⟨v3, ?_⟩, HB3.out⟩
    rw [HE.out, HA.out, ruleC, HFE.out]
    exact HD3.out
  · have HA : Hid (lo = c.iss) := by rw [Hid, ← HLO.out, loser, HY.out, if_neg hc]
    go_enter Tryd.func88, Tryd.ntmps88
    go_wp2_with fail
    refine Calls.mono HG.out ?_
    rintro e w1 ⟨rfl, ⟨v1, D1⟩, b1⟩
    have HD : Hid (DS b ao cp zs a t ⟨c.iss, c.acq, c.cur, c.am, c.st, c.rsn, c.cl, c.bk + s, c.fee, c.cop, c.sta, c.due⟩ (toIss c s) v1 w1) := D1
    have HB : Hid (Below b w w1) := b1
    clear D1 b1
    go_wp2_with fail
    refine (move_any HD.out HT.out _ 9999 50000).mono ?_
    rintro e w2 ⟨rfl, ⟨v2, D2⟩, b2⟩
    have HB2 : Hid (Below b w w2) := HB.out.trans b2
    have c8 := D2.db.cb.f8
    have z8 := D2.db.fz.z8
    simp only [Nat.zero_add] at c8 z8
    rw [HFE.out] at c8
    have HD2 : Hid _ := D2
    clear D2 b2
    go_wp2_with fail
    refine (end_any (HD2.out.set8 (fe + 50000)) 7 (.inr (.inl rfl))).mono ?_
    rintro e w3 ⟨rfl, ⟨v3, D3⟩, b3⟩
    have HD3 : Hid _ := D3
    have HB3 : Hid (Below b w w3) := (HB2.out.trans (bel_at _ _ 8 _)).trans b3
    clear D3 b3
    go_wp2
    go_ret
    refine ⟨rfl, ⟨v3, ?_⟩, HB3.out⟩
    rw [HE.out, HA.out, ruleC, HFE.out]
    exact HD3.out

set_option maxHeartbeats 1600000 in
theorem rule_any {b : Nat} {ao : Option Addr} {cp : Nat} {zs : List Int} {a : Ac} {t : Int} {c : Cs} {v : Value} {w : World} (h : DS b ao cp zs a t c [] v w) (hb : 0 ≤ c.bk ∧ c.bk ≤ 1000000000000) (hc : 0 ≤ c.cl ∧ c.cl ≤ 1000000000000) (hf : 0 ≤ c.fee ∧ c.fee ≤ 1000000) :
    Calls Tryd.prog 65 #[.pointer (some ⟨b, 0, none⟩)] w (DR b ao cp zs a t w (.int .i64 (if 0 ≤ a.am ∧ a.am ≤ c.cl then 0 else 2)) (if 0 ≤ a.am ∧ a.am ≤ c.cl then ruleC c a.am else c) (if 0 ≤ a.am ∧ a.am ≤ c.cl then ruleE c a.am else [])) := by
  have HH : Hid (DS b ao cp zs a t c [] v w) := h
  have HL : Hid (b < w.heap.size) := h.lt
  have c13 := h.db.a1
  have c6 := h.db.cb.f6
  simp only [Nat.zero_add] at c6
  have HG : Hid (0 ≤ a.am ∧ a.am ≤ c.cl → ∀ u, Below w.heap.size w u → Calls Tryd.prog 88 #[.pointer (some ⟨b, 0, none⟩), .int .i64 a.am] u (DR b ao cp zs a t u (.int .i64 0) (ruleC c a.am) (ruleE c a.am))) := fun hx u hu => ruleFor_any (h.below hu) a.am ⟨hx.1, by omega⟩ hb hf
  clear h hb hf
  by_cases hx : 0 ≤ a.am ∧ a.am ≤ c.cl
  · rw [if_pos hx, if_pos hx, if_pos hx]
    have HG' : Hid (∀ u, Below w.heap.size w u → Calls Tryd.prog 88 #[.pointer (some ⟨b, 0, none⟩), .int .i64 a.am] u (DR b ao cp zs a t u (.int .i64 0) (ruleC c a.am) (ruleE c a.am))) := HG.out hx
    obtain ⟨x, hxx⟩ : ∃ x, a.am = x := ⟨_, rfl⟩
    obtain ⟨y, hyy⟩ : ∃ y, c.cl = y := ⟨_, rfl⟩
    obtain ⟨C, hC⟩ : ∃ C, ruleC c a.am = C := ⟨_, rfl⟩
    obtain ⟨E, hE⟩ : ∃ E, ruleE c a.am = E := ⟨_, rfl⟩
    rw [hC, hE] at HG' ⊢
    rw [hxx] at c13 hx HG'
    rw [hyy] at c6 hx
    obtain ⟨h1, h2⟩ := hx
    clear hxx hyy hC hE HG hc
    have b0 : Below w.heap.size w w := Below.refl _ _
    go_enter Tryd.func65, Tryd.ntmps65
    go_wp2
    go_quiet (fail)
    all_goals
      go_wp2_with fail
      refine (HG'.out _ (below_drewN b0 _)).mono ?_
      rintro e w1 ⟨rfl, D1, b1⟩
      have HD1 : Hid _ := D1
      have HB1 : Hid (Below b w w1) := (below_drewN (Below.refl b w) _).trans b1
      clear D1 b1
      go_wp2
      go_ret
      exact ⟨rfl, HD1.out, HB1.out⟩
  · rw [if_neg hx, if_neg hx, if_neg hx]
    obtain ⟨x, hxx⟩ : ∃ x, a.am = x := ⟨_, rfl⟩
    obtain ⟨y, hyy⟩ : ∃ y, c.cl = y := ⟨_, rfl⟩
    rw [hxx] at c13 hx
    rw [hyy] at c6 hx
    clear hxx hyy HG hc
    by_cases h1 : x < 0
    · clear hx
      go_enter Tryd.func65, Tryd.ntmps65
      go_wp2
      go_quiet (fail)
      all_goals
        go_wp2
        go_ret
        exact ⟨rfl, ⟨v, HH.out.below (below_drewN (Below.refl _ _) _)⟩, below_drewN (Below.refl _ _) _⟩
    · have h2 : y < x := by omega
      clear hx
      go_enter Tryd.func65, Tryd.ntmps65
      go_wp2
      go_quiet (fail)
      all_goals
        go_wp2
        go_ret
        exact ⟨rfl, ⟨v, HH.out.below (below_drewN (Below.refl _ _) _)⟩, below_drewN (Below.refl _ _) _⟩


end Go.Proofs.YtenbhmmknejcjaaDoor
